import PyProof.Rows.All
import Wide.All
import OpenK.AllK
import Wide.FinOn
import Lean
import PyProof.EqAt
import PyProof.EqKinds
import PyProof.TupleCall
import KE.KSortTup
import PyProof.NeKinds
import PyProof.ExcBaseAll.ValueError
import PyProof.ExcArgsOwn
import PyProof.NsDelKeeps
import PyProof.RulesAs
import PyProof.FString
import PyProof.AttrMissSeq
import PyProof.WalksS
import KE.KDictList
import KE.KDictSum
import PyProof.MinMaxWalk
import KE.KMinKey
import PyProof.Rows.CallKwBuiltin
import PyProof.Rows.RuleDivmod
import PyProof.ListMulAny
import PyProof.FactsAll.tuple
import KE.KRevIter
import PyProof.EnumMake
import KE.KMulAny
import PyProof.FactsAll.range
import PySem.Challenge.RW_holefloor_k20_crossed_faces
set_option Elab.async false
set_option linter.all false
set_option maxRecDepth 100000
namespace L2
open PySem PySem.Spec PyProof.Rows
abbrev Key:=Sum Int Str
def keyIs:Key->Value->Bool
 | .inl k,v=>Value.isInt k v
 | .inr x,v=>Value.isStrOf x v
def keyH (w:World):Key->Int
 | .inl k=>hashInt k
 | .inr x=>hashStr w x
theorem Za1:∀ {k:Key} {v:Value},keyIs k v=true->(∃ i t,k=Sum.inl i/\v=Value.int i t)\/(∃ x t,k=Sum.inr x/\v=Value.str x t)
 | .inl i,v,h=>by
  obtain ⟨t,e⟩:=Value.isInt_shape (k:=i) (v:=v) h
  exact .inl ⟨i,t,rfl,e⟩
 | .inr x,v,h=>by
  obtain ⟨t,e⟩:=Value.isStrOf_shape (x:=x) (v:=v) h
  exact .inr ⟨x,t,rfl,e⟩
theorem Zks (i:Int) (t:Tok):keyIs (.inl i) (.int i t)=true:=by simp [keyIs,Value.isInt]
theorem Zjw (x:Str) (t:Tok):keyIs (.inr x) (.str x t)=true:=by simp [keyIs,Value.isStrOf]
theorem Zqx (a b:Int):decide ((Sum.inl a:Key)=Sum.inl b)=(a == b):=by
 by_cases e:a=b
 ·subst e; simp
 ·have h:¬ (Sum.inl a:Key)=Sum.inl b:=fun q=>e (Sum.inl.inj q)
  rw [decide_eq_false h]
  exact (beq_eq_false_iff_ne.mpr e).symm
theorem Zr9 (a b:Str):decide ((Sum.inr a:Key)=Sum.inr b)=decide (a=b):=by
 by_cases e:a=b
 ·subst e; simp
 ·have h:¬ (Sum.inr a:Key)=Sum.inr b:=fun q=>e (Sum.inr.inj q)
  rw [decide_eq_false h,decide_eq_false e]
theorem Zrw (a:Int) (b:Str):decide ((Sum.inl a:Key)=Sum.inr b)=false:=decide_eq_false (fun q=>nomatch q)
theorem Zq8 (a:Str) (b:Int):decide ((Sum.inr a:Key)=Sum.inl b)=false:=decide_eq_false (fun q=>nomatch q)
def mixKind (prog:Program) (w:World):PySem.KeyKind prog w Key where
 is:=keyIs
 hash:=keyH w
 inj:=fun v a b ha hb=>by
  rcases Za1 ha with ⟨i,t,rfl,rfl⟩ | ⟨x,t,rfl,rfl⟩
  ·rcases Za1 hb with ⟨j,u,rfl,e⟩ | ⟨y,u,rfl,e⟩
   ·injection e with e1 _; rw [e1]
   ·exact nomatch e
  ·rcases Za1 hb with ⟨j,u,rfl,e⟩ | ⟨y,u,rfl,e⟩
   ·exact nomatch e
   ·injection e with e1 _; rw [e1]
 byValue:=fun k v h=>by
  rcases Za1 h with ⟨i,t,rfl,rfl⟩ | ⟨x,t,rfl,rfl⟩ <;> rfl
 pyHash:=fun hv h=>by
  rcases Za1 hv with ⟨i,t,rfl,rfl⟩ | ⟨x,t,rfl,rfl⟩
  ·exact wpAny_pyHash_int h
  ·exact wpAny_pyHash_str h
 eqBool:=fun hu hv h=>by
  rcases Za1 hu with ⟨i,t,rfl,rfl⟩ | ⟨x,t,rfl,rfl⟩
  ·rcases Za1 hv with ⟨j,u,rfl,rfl⟩ | ⟨y,u,rfl,rfl⟩
   ·rw [Zqx] at h; exact wpAny_eqBool_int h
   ·rw [Zrw] at h; exact SeqAt.EqAt.int_str i t y u _ _ _ _ h
  ·rcases Za1 hv with ⟨j,u,rfl,rfl⟩ | ⟨y,u,rfl,rfl⟩
   ·rw [Zq8] at h; exact SeqAt.EqAt.str_int x t j u _ _ _ _ h
   ·rw [Zr9] at h; exact wpAny_eqBool_str h
 «strs»:=fun k x t v h=>by
  rcases Za1 h with ⟨i,u,rfl,e⟩ | ⟨y,u,rfl,e⟩
  ·exact nomatch e
  ·injection e with e1 _
   subst e1
   cases v <;> rfl
theorem Zg2 (prog:Program) (w:World) (i:Int) (t:Tok):(mixKind prog w).is (.inl i) (.int i t)=true:=Zks i t
theorem Zgv (prog:Program) (w:World) (x:Str) (t:Tok):(mixKind prog w).is (.inr x) (.str x t)=true:=Zjw x t
end L2
namespace L2
open PySem PySem.Spec PyProof.Rows
inductive V where
 | non | bl (b:Bool) | int (i:Int) | str (x:Str) | byt (b:Array UInt8) | flt (b:UInt64) | ref (a:Addr) | ty (n:String)
 deriving DecidableEq
def RelV:V->Value->Prop
 | .non,u=>u=Value.none
 | .bl b,u=>u=Value.bool b
 | .int i,u=>∃ t,u=Value.int i t
 | .str x,u=>∃ t,u=Value.str x t
 | .byt b,u=>∃ t,u=Value.bytes b t
 | .flt b,u=>∃ t,u=Value.float b t
 | .ref a,u=>u=Value.ref a
 | .ty n,u=>u=Value.type n
abbrev Vals:List V->List Value->Prop:=Paired RelV
theorem Vals.length {xs:List V} {us:List Value} (r:Vals xs us):xs.length=us.length:=Paired.length r
theorem Vals.get:∀ {xs:List V} {us:List Value} {i:Nat} {x:V},Vals xs us->xs[i]? = some x->∃ u,us[i]? = some u/\RelV x u
 | _,_,_,_,.nil,e=>by simp at e
 | _,_,0,_,.cons r _,e=>by simp at e; subst e; exact ⟨_,rfl,r⟩
 | _,_,i + 1,x,.cons _ t,e=>by
  obtain ⟨u,h1,h2⟩:=Vals.get (i:=i) (x:=x) t (by simpa using e)
  exact ⟨u,by simpa using h1,h2⟩
theorem Vals.set {x:V} {u:Value} (r:RelV x u):∀ {xs:List V} {us:List Value} (i:Nat),Vals xs us->Vals (xs.set i x) (us.set i u)
 | _,_,_,.nil=>.nil
 | _,_,0,.cons _ t=>.cons r t
 | _,_,i + 1,.cons q t=>.cons q (Vals.set r i t)
theorem Vals.append:∀ {xs ys:List V} {us ws:List Value},Vals xs us->Vals ys ws->Vals (xs ++ ys) (us ++ ws)
 | _,_,_,_,.nil,s=>s
 | _,_,_,_,.cons r t,s=>.cons r (Vals.append t s)
theorem Vals.take:∀ {xs:List V} {us:List Value} (n:Nat),Vals xs us->Vals (xs.take n) (us.take n)
 | _,_,0,_=>.nil
 | _,_,_ + 1,.nil=>.nil
 | _,_,n + 1,.cons r t=>.cons r (Vals.take n t)
theorem Vals.drop:∀ {xs:List V} {us:List Value} (n:Nat),Vals xs us->Vals (xs.drop n) (us.drop n)
 | _,_,0,r=>r
 | _,_,_ + 1,.nil=>.nil
 | _,_,n + 1,.cons _ t=>Vals.drop n t
def RelO:Option V->Option Value->Prop
 | some v,some u=>RelV v u
 | none,none=>True
 | _,_=>False
def KV {κ:Type}:List (κ × V)->List (κ × Value)->Prop:=Paired fun (p:κ × V) (q:κ × Value)=>p.1=q.1/\RelV p.2 q.2
def kV:Key->V
 | .inl i=>.int i
 | .inr x=>.str x
inductive HO where
 /-- a list -/
 | lst (xs:List V)
 /-- a tuple (never changes) -/
 | tup (xs:List V)
 /-- a dict whose keys are ints and texts; one whose keys are tuples of ints and texts (the empty one is both) -/
 | dK (kvs:List (Key × V)) | dT (kvs:List (List Key × V))
 /-- a set of ints: its members,its size -/
 | set (S:Int->Bool) (n:Nat)
 /-- an instance of the class at C,its dict at dx,its attributes -/
 | ins (C dx:Addr) (fs:List (Str × V))
 /-- the dict of the instance at x -/
 | own (x:Addr)
 /-- the dict of an exception -/
 | xd (fs:List (Str × V))
 /-- a bound method,f of x -/
 | met (f x:Addr)
 /-- a range object lo,lo + 1,.. below hi -/
 | rng (lo hi:Int)
 /-- a thing that is known to the object (the script; a dict while a loop walks it): read,never written while it is so -/
 | frz (o:Obj) (u:HO)
 /-- a code object's table -/
 | tbl (ps:Array Value)
 /-- any other thing,by what is true of its one object (a def of one's own: SetO a S n:=HO.ext fun h=>..) -/
 | ext (φ:Heap->Prop)
abbrev Hp:=Addr->Option HO
def upd (H:Hp) (a:Addr) (o:HO):Hp:=fun b=>if b=a then some o else H b
theorem Zam {H:Hp} {a:Addr} {o:HO}:upd H a o a=some o:=by unfold upd; rw [if_pos rfl]
theorem Zak {H:Hp} {a b:Addr} {o:HO} (h:b ≠ a):upd H a o b=H b:=by unfold upd; rw [if_neg h]
theorem Zo1 {H:Hp} {a:Addr} {o u:HO}:upd (upd H a o) a u=upd H a u:=by
 funext b; unfold upd; split <;> rfl
theorem Zse {H:Hp} {a b:Addr} {o u:HO} (h:H a=some o) (h':H b=some u) (d:o ≠ u):a ≠ b:=by
 intro e; subst e; rw [h] at h'; exact d (Option.some.inj h')
theorem Zan {H:Hp} {a b:Addr} {o:HO} (h:H a=some o) (h':H b=none):a ≠ b:=by
 intro e; subst e; rw [h] at h'; cases h'
def IsTupN (h:Heap) (a:Addr) (its:Array Value):Prop:=∃ o,h.get? a=some o/\(o.cls=.type "tuple" /\ ∃ n,o.data=.seq its n)/\o.dict=none
theorem IsTupN.tup {h:Heap} {a:Addr} {its:Array Value} (x:IsTupN h a its):IsTup h a its:=let ⟨o,e,c,_⟩:=x; ⟨o,e,c⟩
theorem IsTupN.new (h:Heap) (items:Array Value):IsTupN (h.push { cls:=.type "tuple",data:=.seq items }) h.objs.size items:=⟨_,Heap.get?_push_size _ rfl,⟨rfl,_,rfl⟩,rfl⟩
section
variable (P:Program) (w:World)
def ObjOk (H:Hp) (h:Heap) (a:Addr):HO->Prop
 | .lst xs=>xs.length<=sizeLine/\∃ (its:List Value) (n:Nat),Vals xs its/\h.get? a=some { cls:=.type "list",data:=.seq its.toArray n }
 | .tup xs=>xs.length<=sizeLine/\∃ its:List Value,Vals xs its/\IsTupN h a its.toArray
 | .dK kvs=>kvs.length<=sizeLine/\(a == sysModules)=false/\∃ vs,KV kvs vs/\h.DictOf (mixKind P w) a vs
 | .dT kvs=>kvs.length<=sizeLine/\(a == sysModules)=false/\∃ xs:List (List Key × Addr × Value),
   Paired (fun (p:List Key × V) (q:List Key × Addr × Value)=>p.1=q.1/\H q.2.1=some (.tup (p.1.map kV))/\RelV p.2 q.2.2) kvs xs ∧
   ∃ o es ep,h.get? a=some o/\o.ExactDict/\o.data=.dict es ep/\es.toList=xs.map (entryOfKey (tupleKind (mixKind P w)))/\(xs.map (·.1)).Nodup
 | .set S n=>h.SetOf (intKind P w) a S n
 | .ins C dx fs=>H dx=some (.own a)/\fs.length<=1000/\dx ≠ a/\h.get? a=some (PySem.W.instObj C dx) ∧
   ∃ mA,h.Ns1 dx mA/\(∀ f,RelO (fs.lookup f) (mA f))/\PySem.Within mA (fs.map (·.1))
 | .own _=>∃ o,h.get? a=some o
 | .xd fs=>∃ mA,h.Ns1 a mA/\∀ f,RelO (fs.lookup f) (mA f)
 | .rng lo hi=>∃ t u v,h.get? a=some { cls:=.type "range",data:=.fields #[.int lo t,.int hi u,.int 1 v] }
 | .frz o u=>h.get? a=some o/\ObjOk H h a u
 | .tbl ps=>h.get? a=some { cls:=.none,data:=.fields ps }
 | .met f x=>h.get? a=some (PySem.W.methodObj (.ref f) (.ref x))
 | .ext φ=>φ h/\(∃ o,h.get? a=some o)/\∀ h1 h2:Heap,φ h1->(∀ o,h1.get? a=some o->h2.get? a=some o) -> φ h2
def HOk (H:Hp) (h:Heap):Prop:=∀ a o,H a=some o->ObjOk P w H h a o
end
section
variable {P:Program} {w:World} {H H':Hp} {h h':Heap} {a:Addr} {o:HO}
theorem ObjOk.lt (x:ObjOk P w H h a o):a < h.objs.size:=by
 cases o with
 | lst xs=>obtain ⟨_,_,_,_,e⟩:=x; exact Heap.lt_size e
 | tup xs=>obtain ⟨_,_,_,p⟩:=x; exact p.tup.lt
 | dK kvs=>obtain ⟨_,_,_,_,o,_,_,e,_⟩:=x; exact Heap.lt_size e
 | dT kvs=>obtain ⟨_,_,_,_,o,_,_,e,_⟩:=x; exact Heap.lt_size e
 | set S n=>obtain ⟨o,_,_,_,e,_⟩:=x; exact Heap.lt_size e
 | ins C dx fs=>obtain ⟨_,_,_,e,_⟩:=x; exact Heap.lt_size e
 | own y=>obtain ⟨_,e⟩:=x; exact Heap.lt_size e
 | xd fs=>obtain ⟨_,⟨_,_,_,e,_⟩,_⟩:=x; exact Heap.lt_size e
 | rng lo hi=>obtain ⟨_,_,_,e⟩:=x; exact Heap.lt_size e
 | frz ob u=>obtain ⟨e,_⟩:=x; exact Heap.lt_size e
 | tbl ps=>exact Heap.lt_size (show h.get? a=some _ from x)
 | met f y=>exact Heap.lt_size (show h.get? a=some _ from x)
 | ext φ=>obtain ⟨_,⟨_,e⟩,_⟩:=x; exact Heap.lt_size e
theorem Paired.mapP {α β:Type} {F G:α -> β -> Prop}:∀ {l₁:List α} {l₂:List β},Paired F l₁ l₂ -> (∀ a b,F a b->G a b)->Paired G l₁ l₂
 | _,_,.nil,_=>.nil
 | _,_,.cons r t,f=>.cons (f _ _ r) (Paired.mapP t f)
theorem ObjOk.stay (x:ObjOk P w H h a o) (k:∀ b u,(b=a\/H b=some (.own a))->h.get? b=some u->h'.get? b=some u)
  (ho:∀ b,H b=some (.own a)->H' b=some (.own a)) (ht:∀ b xs,H b=some (.tup xs)->H' b=some (.tup xs)):ObjOk P w H' h' a o:=by
 induction o with
 | lst xs=>obtain ⟨z,its,n,r,e⟩:=x; exact ⟨z,its,n,r,k _ _ (.inl rfl) e⟩
 | tup xs=>obtain ⟨z,its,r,ob,e,c⟩:=x; exact ⟨z,its,r,ob,k _ _ (.inl rfl) e,c⟩
 | dK kvs=>obtain ⟨z,y,vs,r,ob,es,ep,e,c⟩:=x; exact ⟨z,y,vs,r,ob,es,ep,k _ _ (.inl rfl) e,c⟩
 | dT kvs=>
  obtain ⟨z,y,xs,r,ob,es,ep,e,c⟩:=x
  exact ⟨z,y,xs,Paired.mapP r fun p q z=>⟨z.1,ht _ _ z.2.1,z.2.2⟩,ob,es,ep,k _ _ (.inl rfl) e,c⟩
 | set S n=>obtain ⟨ob,es,ep,t,e,c⟩:=x; exact ⟨ob,es,ep,t,k _ _ (.inl rfl) e,c⟩
 | ins C dx fs=>
  obtain ⟨d,z,ne,e,mA,⟨od,es,ep,e2,c⟩,r⟩:=x
  exact ⟨ho _ d,z,ne,k _ _ (.inl rfl) e,mA,⟨od,es,ep,k _ _ (.inr d) e2,c⟩,r⟩
 | own y=>obtain ⟨ob,e⟩:=x; exact ⟨ob,k _ _ (.inl rfl) e⟩
 | xd fs=>obtain ⟨mA,⟨od,es,ep,e,c⟩,r⟩:=x; exact ⟨mA,⟨od,es,ep,k _ _ (.inl rfl) e,c⟩,r⟩
 | rng lo hi=>obtain ⟨t,u,v,e⟩:=x; exact ⟨t,u,v,k _ _ (.inl rfl) e⟩
 | frz ob u ih=>obtain ⟨e,q⟩:=x; exact ⟨k _ _ (.inl rfl) e,ih q⟩
 | tbl ps=>
  have e:h.get? a=some { cls:=.none,data:=.fields ps }:=x
  show h'.get? a=some { cls:=.none,data:=.fields ps }
  exact k a _ (.inl rfl) e
 | met f y=>
  have e:h.get? a=some (PySem.W.methodObj (.ref f) (.ref y)):=x
  show h'.get? a=some (PySem.W.methodObj (.ref f) (.ref y))
  exact k a _ (.inl rfl) e
 | ext φ=>obtain ⟨p,⟨o,e⟩,st⟩:=x; exact ⟨st _ _ p fun o q=>k _ _ (.inl rfl) q,⟨o,k _ _ (.inl rfl) e⟩,st⟩
theorem HOk.lt (x:HOk P w H h) (e:H a=some o):a < h.objs.size:=(x a o e).lt
theorem HOk.fresh (x:HOk P w H h) (e:h.objs.size<=a):H a=none:=by
 cases q:H a with
 | none=>rfl
 | some u=>exact absurd (Nat.lt_of_lt_of_le (x.lt q) e) (Nat.lt_irrefl _)
theorem HOk.kept (x:HOk P w H h) (k:∀ b u,h.get? b=some u->h'.get? b=some u):HOk P w H h':=fun a o e=>
 (x a o e).stay (fun b u _ q=>k b u q) (fun _ q=>q) fun _ _ q=>q
theorem HOk.laid (x:HOk P w H h) (k:∀ b u,h.get? b=some u->h'.get? b=some u) (hp:h.objs.size<=a) (new:ObjOk P w (upd H a o) h' a o):HOk P w (upd H a o) h':=fun b u e=>by
 have hn:=x.fresh hp
 by_cases hb:b=a
 ·subst hb; rw [Zam] at e; cases e; exact new
 ·rw [Zak hb] at e
  exact (x b u e).stay (fun c v _ q=>k c v q) (fun c q=>by rw [Zak (Zan q hn)]; exact q) fun c xs q=>by rw [Zak (Zan q hn)]; exact q
end
def Rd (H:Hp) (a:Addr) (u:HO):Prop:=H a=some u\/∃ o,H a=some (.frz o u)
theorem Rd.ok {P:Program} {w:World} {H:Hp} {h:Heap} {a:Addr} {u:HO} (r:Rd H a u) (x:HOk P w H h):ObjOk P w H h a u:=by
 rcases r with r | ⟨o,r⟩
 ·exact x a u r
 ·obtain ⟨_,q⟩:=x a _ r
  exact q
def Mut:Option HO->Prop
 | some (.lst _)=>True
 | some (.dK _)=>True
 | some (.dT _)=>True
 | some (.set _ _)=>True
 | some (.ins _ _ _)=>True
 | some (.ext _)=>True
 | _=>False
section
variable {P:Program} {w:World} {H:Hp} {h h':Heap} {x e:Addr} {o':HO}
theorem HOk.write (ok:HOk P w H h) (mu:Mut (H x)) (he:e=x\/H e=some (.own x)) (k:∀ b u,b ≠ e->h.get? b=some u->h'.get? b=some u) (heo:∃ u,h'.get? e=some u)
  (new:ObjOk P w (upd H x o') h' x o'):HOk P w (upd H x o') h':=fun b u q=>by
 have nown:∀ c y,H c=some (.own y)->c ≠ x:=fun c y r z=>by subst z; rw [r] at mu; exact mu
 have ntup:∀ c xs,H c=some (.tup xs)->c ≠ x:=fun c xs r z=>by subst z; rw [r] at mu; exact mu
 by_cases hb:b=x
 ·subst hb; rw [Zam] at q; cases q; exact new
 ·rw [Zak hb] at q
  by_cases hbe:b=e
  ·have q':H b=some (.own x):=by
    rcases he with z | z
    ·exact absurd (hbe.trans z) hb
    ·rw [hbe]; exact z
   rw [q] at q'; cases q'
   obtain ⟨v,hv⟩:=heo
   exact ⟨v,by rw [hbe]; exact hv⟩
  ·refine (ok b u q).stay (fun c v hc r=>k c v ?_ r) (fun c r=>by rw [Zak (nown c b r)]; exact r) fun c xs r=>by rw [Zak (ntup c xs r)]; exact r
   rcases hc with rfl | hc
   ·exact hbe
   ·rintro rfl
    rcases he with z | z
    ·exact nown c b hc z
    ·rw [hc] at z; cases z; exact hb rfl
end
structure Un (fs ex:List Addr) (H H':Hp) (h h':Heap):Prop where
 keep:∀ b o,h.get? b=some o->H b=none->b ∉ fs->b ∉ ex->h'.get? b=some o
 slot:∀ b o,h.get? b=some o->H b=none->b ∈ fs->b ∉ ex->∃ sl,h'.get? b=some { o with slots:=sl }
 free:∀ b o,h.get? b=some o->H b=none->b ∉ ex->H' b=none
 there:∀ b o,h.get? b=some o->b ∉ ex->∃ o',h'.get? b=some o'
 tups:∀ b xs,H b=some (.tup xs)->H' b=some (.tup xs)
 frzs:∀ b o u,H b=some (.frz o u)->H' b=some (.frz o u)
 tbls:∀ b ps,H b=some (.tbl ps)->∃ more,H' b=some (.tbl (ps ++ more))
section
variable {fs fs' ex ex':List Addr} {H H1 H2:Hp} {h h1 h2 h':Heap} {a x e:Addr} {o:HO}
theorem Un.any (u:Un fs ex H H1 h h1) {b:Addr} {ob:Obj} (q:h.get? b=some ob) (n:H b=none) (hx:b ∉ ex):∃ sl,h1.get? b=some { ob with slots:=sl }:=by
 by_cases hb:b ∈ fs
 ·exact u.slot b ob q n hb hx
 ·exact ⟨ob.slots,u.keep b ob q n hb hx⟩
theorem Un.kept (k:∀ b u,h.get? b=some u->h'.get? b=some u):Un fs ex H H h h':=
 ⟨fun b ob q _ _ _=>k b ob q,fun b ob q _ _ _=>⟨ob.slots,k b ob q⟩,fun _ _ _ n _=>n,fun b ob q _=>⟨ob,k b ob q⟩,fun _ _ q=>q,fun _ _ _ q=>q,fun _ ps q=>⟨#[],by rw [q]; simp⟩⟩
theorem Un.refl:Un fs ex H H h h:=Un.kept fun _ _ q=>q
theorem Un.laid (k:∀ b u,h.get? b=some u->h'.get? b=some u) (hp:h.objs.size<=a) (hn:H a=none):Un fs ex H (upd H a o) h h' where
 keep:=fun b u q _ _ _=>k b u q
 slot:=fun b u q _ _ _=>⟨u.slots,k b u q⟩
 free:=fun b u q n _=>by rw [Zak (Nat.ne_of_lt (Nat.lt_of_lt_of_le (Heap.lt_size q) hp))]; exact n
 there:=fun b u q _=>⟨u,k b u q⟩
 tups:=fun b xs q=>by rw [Zak (Zan q hn)]; exact q
 frzs:=fun b u xs q=>by rw [Zak (Zan q hn)]; exact q
 tbls:=fun b ps q=>⟨#[],by rw [Zak (Zan q hn),q]; simp⟩
theorem Un.write (mu:Mut (H x)) (he:e=x\/H e=some (.own x)) (k:∀ b u,b ≠ e->h.get? b=some u->h'.get? b=some u) (heo:∃ u,h'.get? e=some u):Un fs ex H (upd H x o) h h':=by
 have hx:∀ b,H b=none->b ≠ x:=fun b n z=>by subst z; rw [n] at mu; exact mu
 have hb:∀ b,H b=none->b ≠ e:=fun b n z=>by
  subst z
  rcases he with r | r
  ·exact hx b n r
  ·rw [n] at r; cases r
 have hm:∀ b u,H b=some u->¬ Mut (some u)->b ≠ x:=fun b u q nm z=>by subst z; rw [q] at mu; exact nm mu
 refine ⟨fun b u q n _ _=>k b u (hb b n) q,fun b u q n _ _=>⟨u.slots,k b u (hb b n) q⟩,fun b u q n _=>by rw [Zak (hx b n)]; exact n,fun b u q _=>?_,
  fun b xs q=>by rw [Zak (hm b _ q fun z=>z)]; exact q,fun b u xs q=>by rw [Zak (hm b _ q fun z=>z)]; exact q,fun b ps q=>⟨#[],by rw [Zak (hm b _ q fun z=>z),q]; simp⟩⟩
 by_cases hbe:b=e
 ·subst hbe; exact heo
 ·exact ⟨u,k b u hbe q⟩
end
def trk (h:Heap) (H:Hp):List Addr:=(List.range h.objs.size).filter fun a=>(H a).isSome
def hidT (h:Heap) (H:Hp):Heap:=PySem.W.hideAll h (trk h H)
theorem Zjb (h:Heap) (H:Hp):(hidT h H).objs.size=h.objs.size:=PySem.W.hideAll_size _ _
theorem Zm5 {h:Heap} {H:Hp} {b:Addr} {o:Obj} (e:h.get? b=some o) (n:H b=none):(hidT h H).get? b=some o:=
 PySem.W.hideAll_get _ e fun hm=>by
  have q:(H b).isSome=true:=(List.mem_filter.mp hm).2
  rw [n] at q; simp at q
theorem Zph {h:Heap} {H:Hp} {b:Addr} {o:Obj} (e:(hidT h H).get? b=some o):h.get? b=some o/\H b=none:=by
 have e':h.get? b=some o:=PySem.W.of_hideAll (trk h H) e
 refine ⟨e',?_⟩
 cases q:H b with
 | none=>rfl
 | some x=>
  have hm:b ∈ trk h H:=List.mem_filter.mpr ⟨List.mem_range.mpr (Heap.lt_size e'),by simp [q]⟩
  have z:(hidT h H).get? b=none:=PySem.W.hideAll_none (trk h H) hm
  rw [z] at e; cases e
def allNews (g h:Heap) (L:Addr):List (Addr × Obj):=(List.range h.objs.size).filterMap fun a=>if a=L\/(g.get? a).isSome=true then none else (h.get? a).map fun o=>(a,o)
def rest (g h:Heap) (L d:Addr):List (Addr × Obj):=(allNews g h L).filter fun p=>decide (p.1 ≠ d)
end L2
namespace L2
open PySem PySem.Spec PyProof.Rows
structure Mod (K:PySem.W.Frag) (mg:Str->Option Value) (base:Heap):Prop where
 kin:K.In base
 glob:base.Ns mainGlobals mg
 blt:∃ mb,base.Ns builtinsNs mb/\∀ x:Str,x ≠ "__name__" -> mb x=bootBuiltins x
 nolimit:base.NoLimit
structure Cx where
 prog:Program
 w:World
 K:PySem.W.Frag
 mg:Str->Option Value
 base:Heap
 A:Around
 N:List Str
 s₀:Shared
 H₀:Hp
 env:Env
 outer:List Env
 stack:List Env
 ex:List Addr
 fn:Str->Bool
 calm:Bool
 pn:List (Addr × Obj)
 xe:Value->Shared->Prop
def frs (l:List Env):List Addr:=l.filterMap (·.frame)
abbrev Cx.fs (X:Cx):List Addr:=frs X.outer
def Vis (sc:Scope) (x:Str):Prop:=sc.names.lookup x=some .local\/sc.names.lookup x=some .cell\/sc.names.lookup x=some .free
def Loc (sc:Scope) (x:Str):Prop:=sc.names.lookup x=some .local\/sc.names.lookup x=some .cell
def Look (env:Env) (h:Heap) (m:Str->Option Value) (x:Str) (u:Value):Prop:=
 (env.kindOf x=some .local/\m x=some u)\/((env.kindOf x=some .cell\/env.kindOf x=some .free)/\∃ c,env.cells.lookup x=some c/\h.IsCell c (some u))
structure Cx.Ok (X:Cx):Prop where
 mod:Mod X.K X.mg X.base
 kind:X.env.scope.kind=.function
 glob:X.env.globals=mainGlobals
 blt:X.env.builtins=builtinsNs
 above:X.s₀.heap.objs.size<=X.env.locals
 inj:∀ x y c,X.env.cells.lookup x=some c->X.env.cells.lookup y=some c->x=y
 has:∀ x,(X.env.kindOf x=some .cell\/X.env.kindOf x=some .free)->∃ c,X.env.cells.lookup x=some c
 cab:∀ x c,X.fn x=true->X.env.cells.lookup x=some c->X.s₀.heap.objs.size<=c
 hd:X.calm=true->X.A.handled=none
 frames:X.A.frames=some X.stack
 stk:X.stack=X.outer\/(X.stack=X.env :: X.outer/\X.env.frame=some X.env.locals)
 exf:∀ b ∈ X.ex,b ≠ X.env.locals/\∀ x c,X.env.cells.lookup x=some c->c ≠ b
 bs:∀ b o,X.base.get? b=some o->X.s₀.heap.get? b=some o/\X.H₀ b=none
 bsz:X.base.objs.size<=X.s₀.heap.objs.size
 noex:∀ b o,X.base.get? b=some o->b ∉ X.ex
 exfs:∀ b ∈ X.ex,b ∉ X.fs
 funs:X.s₀.heap.FunFrames X.base X.outer
 frf:∀ b ∈ X.fs,X.H₀ b=none
structure Inv (X:Cx) (pins:List (Addr × Obj)) (σ:List (Option V)) (H:Hp) (s:Shared):Prop where
 ok:X.Ok
 os:s.os=X.s₀.os
 bare:AllBare s.gens
 base:Un X.fs X.ex X.H₀ H X.s₀.heap s.heap
 loc:∃ m,s.heap.Ns X.env.locals m/\∀ (i:Nat) (x:Str) (v:V),X.N[i]? = some x -> σ[i]? = some (some v)->Vis X.env.scope x->∃ u,RelV v u/\Look X.env s.heap m x u
 cell:∀ x c,X.env.cells.lookup x=some c->∃ v,s.heap.IsCell c v
 free:H X.env.locals=none
 freeC:∀ x c,X.env.cells.lookup x=some c->H c=none
 pin:∀ p ∈ X.pn ++ pins,s.heap.get? p.1=some p.2/\H p.1=none/\p.1 ≠ X.env.locals/\p.1 ∉ X.fs/\∀ v,p.2.data ≠ .cell v
 hok:HOk X.prog X.w H s.heap
 len:σ.length=X.N.length
section
variable {X:Cx} {pins:List (Addr × Obj)} {σ:List (Option V)} {H H':Hp} {s:Shared} {h':Heap}
theorem Cx.Ok.nofr (ok:X.Ok) {b:Addr} {o:Obj} (e:X.base.get? b=some o):b ∉ X.fs:=fun hb=>by
 have:=(ok.funs.mem hb).1
 rw [e] at this; cases this
theorem Inv.bs (I:Inv X pins σ H s):∀ b o,X.base.get? b=some o->s.heap.get? b=some o/\H b=none:=fun b o e=>
 ⟨I.base.keep b o (I.ok.bs b o e).1 (I.ok.bs b o e).2 (I.ok.nofr e) (I.ok.noex b o e),I.base.free b o (I.ok.bs b o e).1 (I.ok.bs b o e).2 (I.ok.noex b o e)⟩
theorem Inv.bk (I:Inv X pins σ H s):∀ b o,X.base.get? b=some o->s.heap.get? b=some o:=fun b o e=>(I.bs b o e).1
theorem Inv.mod (I:Inv X pins σ H s):Mod X.K X.mg X.base:=I.ok.mod
theorem Inv.kIn (I:Inv X pins σ H s):X.K.In s.heap:=I.ok.mod.kin.keeps I.bk
theorem Inv.lt (I:Inv X pins σ H s):X.env.locals < s.heap.objs.size:=let ⟨_,hn,_⟩:=I.loc; hn.lt
theorem Inv.sz (I:Inv X pins σ H s):X.s₀.heap.objs.size<=s.heap.objs.size:=Nat.le_trans I.ok.above (Nat.le_of_lt I.lt)
theorem Inv.nofs (I:Inv X pins σ H s) {a:Addr} (h:s.heap.objs.size<=a):a ∉ X.fs:=fun hb=>by
 obtain ⟨_,o,ho,_⟩:=I.ok.funs.mem hb
 exact absurd (Nat.lt_of_lt_of_le (Heap.lt_size ho) (Nat.le_trans I.sz h)) (Nat.lt_irrefl _)
theorem Inv.cne (I:Inv X pins σ H s):∀ x c,X.env.cells.lookup x=some c->c ≠ X.env.locals:=fun x c e z=>by
 obtain ⟨v,o,ho,hd⟩:=I.cell x c e
 obtain ⟨m,⟨o',es,ep,ho',hd',_⟩,_⟩:=I.loc
 rw [z,ho'] at ho; cases ho; rw [hd'] at hd; cases hd
theorem Inv.funs (I:Inv X pins σ H s):s.heap.FunFrames X.base X.outer:=by
 have all:∀ (l:List Env),(∀ b ∈ frs l,b ∈ X.fs)->X.s₀.heap.FunFrames X.base l->s.heap.FunFrames X.base l:=by
  intro l
  induction l with
  | nil=>intro _ _; trivial
  | cons env r ih=>
   intro hs hl
   obtain ⟨hk,⟨L,o,hf,hn,ho,hd⟩,hr⟩:=hl
   have hL:L ∈ X.fs:=hs L (by unfold frs; rw [List.filterMap_cons,hf]; exact List.mem_cons_self)
   obtain ⟨sl,e⟩:=I.base.slot L o ho (I.ok.frf L hL) hL fun z=>I.ok.exfs L z hL
   exact ⟨hk,⟨L,_,hf,hn,e,hd⟩,ih (fun b hb=>hs b (by unfold frs; rw [List.filterMap_cons,hf]; exact List.mem_cons_of_mem _ hb)) hr⟩
 exact all X.outer (fun _ hb=>hb) I.ok.funs
theorem Inv.stack (I:Inv X pins σ H s):s.heap.FunFrames X.base X.stack:=by
 rcases I.ok.stk with e | ⟨e,hf⟩
 ·rw [e]; exact I.funs
 ·rw [e]
  obtain ⟨m,hn,_⟩:=I.loc
  refine .cons (by rw [I.ok.kind]; decide) hf hn ?_ I.funs
  exact Heap.get?_none_of_le (Nat.le_trans I.ok.bsz I.ok.above)
theorem Inv.stkSub (I:Inv X pins σ H s):∀ b ∈ frs X.stack,b ∈ X.env.locals :: X.fs:=fun b hb=>by
 rcases I.ok.stk with e | ⟨e,hf⟩
 ·rw [e] at hb; exact List.mem_cons_of_mem _ hb
 ·rw [e] at hb
  unfold frs at hb
  rw [List.filterMap_cons,hf] at hb
  exact hb
theorem Inv.stkFree (I:Inv X pins σ H s):∀ b ∈ frs X.stack,H b=none:=fun b hb=>by
 rcases List.mem_cons.mp (I.stkSub b hb) with e | hb
 ·rw [e]; exact I.free
 ·obtain ⟨_,o,ho,_⟩:=I.ok.funs.mem hb
  exact I.base.free b o ho (I.ok.frf b hb) fun z=>I.ok.exfs b z hb
theorem Inv.step {g':Array GenState} {t':Nat} {d':Drawn} {ch:List Addr} (I:Inv X pins σ H s)
  (hch:∀ b ∈ ch,(b ∈ X.ex\/X.s₀.heap.objs.size<=b)/\b ≠ X.env.locals/\(∀ x c,X.env.cells.lookup x=some c->c ≠ b)/\∀ p ∈ X.pn ++ pins,p.1 ≠ b)
  (keep:∀ b o,b ≠ X.env.locals->b ∉ X.fs->b ∉ ch->s.heap.get? b=some o->H b=none->h'.get? b=some o)
  (slot:∀ b o,b ≠ X.env.locals->b ∈ X.fs->b ∉ ch->s.heap.get? b=some o->H b=none->∃ sl,h'.get? b=some { o with slots:=sl }) (free:∀ b o,b ∉ ch->s.heap.get? b=some o->H b=none->H' b=none)
  (there:∀ b o,b ∉ ch->s.heap.get? b=some o->∃ o',h'.get? b=some o')
  (tups:∀ b xs,H b=some (.tup xs)->H' b=some (.tup xs)) (frzs:∀ b o u,H b=some (.frz o u)->H' b=some (.frz o u)) (tbls:∀ b ps,H b=some (.tbl ps)->∃ more,H' b=some (.tbl (ps ++ more)))
  (ns:∀ m,s.heap.Ns X.env.locals m->h'.Ns X.env.locals m) (hok:HOk X.prog X.w H' h') (hg:AllBare g') :
  Inv X pins σ H' { s with heap:=h',gens:=g',drawn:=d',toks:=t' }:=by
 have neL:∀ b o,X.s₀.heap.get? b=some o->b ≠ X.env.locals:=fun b o e=>Nat.ne_of_lt (Nat.lt_of_lt_of_le (Heap.lt_size e) I.ok.above)
 have neC:∀ b o,X.s₀.heap.get? b=some o->b ∉ X.ex->b ∉ ch:=fun b o e hx hb=>by
  rcases (hch b hb).1 with z | z
  ·exact hx z
  ·exact absurd (Nat.lt_of_lt_of_le (Heap.lt_size e) z) (Nat.lt_irrefl _)
 have cellK:∀ x c,X.env.cells.lookup x=some c->∀ v,s.heap.IsCell c v->h'.IsCell c v:=fun x c e v hq_=>by
  obtain ⟨o,ho,hd⟩:=hq_
  have nch:c ∉ ch:=fun z=>(hch c z).2.2.1 x c e rfl
  by_cases hc:c ∈ X.fs
  ·obtain ⟨sl,q⟩:=slot c o (I.cne x c e) hc nch ho (I.freeC x c e)
   exact ⟨_,q,hd⟩
  ·exact ⟨o,keep c o (I.cne x c e) hc nch ho (I.freeC x c e),hd⟩
 refine ⟨I.ok,I.os,hg,⟨fun b o e n hb hx=>?_,fun b o e n hb hx=>?_,fun b o e n hx=>?_,fun b o e hx=>?_,fun b xs e=>tups b xs (I.base.tups b xs e),fun b o xs e=>frzs b o xs (I.base.frzs b o xs e),fun b ps e=>?_⟩,?_,fun x c e=>?_,?_,fun x c e=>?_,fun p hp=>?_,hok,I.len⟩
 ·exact keep b o (neL b o e) hb (neC b o e hx) (I.base.keep b o e n hb hx) (I.base.free b o e n hx)
 ·obtain ⟨sl,e1⟩:=I.base.slot b o e n hb hx
  obtain ⟨sl',e2⟩:=slot b _ (neL b o e) hb (neC b o e hx) e1 (I.base.free b o e n hx)
  exact ⟨sl',e2⟩
 ·obtain ⟨o',e1⟩:=I.base.there b o e hx
  exact free b o' (neC b o e hx) e1 (I.base.free b o e n hx)
 ·obtain ⟨o',e1⟩:=I.base.there b o e hx
  exact there b o' (neC b o e hx) e1
 ·obtain ⟨m1,e1⟩:=I.base.tbls b ps e
  obtain ⟨m2,e2⟩:=tbls b _ e1
  exact ⟨m1 ++ m2,by rw [e2,Array.append_assoc]⟩
 ·obtain ⟨m,hn,hl⟩:=I.loc
  refine ⟨m,ns m hn,fun i x v e1 e2 e3=>?_⟩
  obtain ⟨u,r,l⟩:=hl i x v e1 e2 e3
  refine ⟨u,r,?_⟩
  rcases l with l | ⟨k,c,e,z⟩
  ·exact .inl l
  ·exact .inr ⟨k,c,e,cellK x c e _ z⟩
 ·obtain ⟨v,z⟩:=I.cell x c e
  exact ⟨v,cellK x c e v z⟩
 ·obtain ⟨m,⟨o,_,_,ho,_⟩,_⟩:=I.loc
  exact free _ o (fun z=>(hch _ z).2.1 rfl) ho I.free
 ·obtain ⟨v,o,ho,hd⟩:=I.cell x c e
  exact free c o (fun z=>(hch c z).2.2.1 x c e rfl) ho (I.freeC x c e)
 ·obtain ⟨e,n,ne,nf,d⟩:=I.pin p hp
  have nch:p.1 ∉ ch:=fun z=>(hch p.1 z).2.2.2 p hp rfl
  exact ⟨keep p.1 p.2 ne nf nch e n,free p.1 p.2 nch e n,ne,nf,d⟩
theorem Inv.un {t':Nat} (I:Inv X pins σ H s) (u:Un X.fs [] H H' s.heap h') (hok:HOk X.prog X.w H' h'):Inv X pins σ H' { s with heap:=h',toks:=t' }:=by
 obtain ⟨m,⟨o,es,ep,ho,r⟩,_⟩:=id I.loc
 obtain ⟨sl,hL⟩:=u.any ho I.free (by simp)
 exact I.step (g':=s.gens) (d':=s.drawn) (ch:=[]) (fun _ z=>nomatch z) (fun b o _ hb _ e n=>u.keep b o e n hb (by simp)) (fun b o _ hb _ e n=>u.slot b o e n hb (by simp)) (fun b o _ e n=>u.free b o e n (by simp)) (fun b o _ e=>u.there b o e (by simp)) u.tups u.frzs u.tbls (fun m' hm=>by
  obtain ⟨o',es',ep',ho',r'⟩:=hm
  rw [ho] at ho'; cases ho'
  exact ⟨_,es',ep',hL,r'⟩) hok I.bare
theorem Inv.call {g':Array GenState} {t':Nat} {d':Drawn} {ch:List Addr} (I:Inv X pins σ H s) (u:Un (frs X.stack) ch H H' s.heap h') (hok:HOk X.prog X.w H' h') (hg:AllBare g')
  (hch:∀ b ∈ ch,(b ∈ X.ex\/X.s₀.heap.objs.size<=b)/\b ≠ X.env.locals/\(∀ x c,X.env.cells.lookup x=some c->c ≠ b)/\∀ p ∈ X.pn ++ pins,p.1 ≠ b) :
  Inv X pins σ H' { s with heap:=h',gens:=g',drawn:=d',toks:=t' }:=by
 obtain ⟨m,⟨o,es,ep,ho,r⟩,_⟩:=id I.loc
 obtain ⟨sl,hL⟩:=u.any ho I.free fun z=>(hch _ z).2.1 rfl
 exact I.step (ch:=ch) hch (fun b o hL hb hc e n=>u.keep b o e n (fun z=>(List.mem_cons.mp (I.stkSub b z)).elim hL hb) hc) (fun b o _ _ hc e n=>u.any e n hc) (fun b o hc e n=>u.free b o e n hc) (fun b o hc e=>u.there b o e hc) u.tups u.frzs u.tbls (fun m' hm=>by
  obtain ⟨o',es',ep',ho',r'⟩:=hm
  rw [ho] at ho'; cases ho'
  exact ⟨_,es',ep',hL,r'⟩) hok hg
theorem Inv.turned {t':Nat} {it:Addr} (I:Inv X pins σ H s) (k:∀ b o,b ≠ it->s.heap.get? b=some o->h'.get? b=some o) (hn:H it=none) (hL:it ≠ X.env.locals)
  (h1:it ∈ X.ex\/X.s₀.heap.objs.size<=it) (h2:∀ x c,X.env.cells.lookup x=some c->c ≠ it) (h3:∀ p ∈ X.pn ++ pins,p.1 ≠ it):Inv X pins σ H { s with heap:=h',toks:=t' }:=by
 have nit:∀ b u,H b=some u->b ≠ it:=fun b u e z=>by rw [z,hn] at e; cases e
 refine I.step (g':=s.gens) (d':=s.drawn) (ch:=[it]) (fun b hb=>?_) (fun b o _ _ hc e _=>k b o (fun z=>hc (by simp [z])) e) (fun b o _ _ hc e _=>⟨o.slots,k b o (fun z=>hc (by simp [z])) e⟩) (fun _ _ _ _ n=>n)
  (fun b o hc e=>⟨o,k b o (fun z=>hc (by simp [z])) e⟩) (fun _ _ e=>e) (fun _ _ _ e=>e) (fun b ps e=>⟨#[],by rw [e]; simp⟩) (fun m hm=>?_) (fun b u e=>?_) I.bare
 ·have e:b=it:=by simpa using hb
  subst e
  exact ⟨h1,hL,h2,h3⟩
 ·obtain ⟨o,es,ep,ho,r⟩:=hm
  exact ⟨o,es,ep,k _ o (Ne.symm hL) ho,r⟩
 ·refine (I.hok b u e).stay (fun c v hc q=>k c v ?_ q) (fun _ q=>q) fun _ _ q=>q
  rcases hc with z | z
  ·rw [z]; exact nit b u e
  ·exact nit c _ z
theorem Inv.tok (I:Inv X pins σ H s) (t:Nat):Inv X pins σ H { s with toks:=t }:=I.un (h':=s.heap) (t':=t) Un.refl I.hok
theorem Inv.kept {t':Nat} (I:Inv X pins σ H s) (k:∀ b u,s.heap.get? b=some u->h'.get? b=some u):Inv X pins σ H { s with heap:=h',toks:=t' }:=I.un (Un.kept k) (I.hok.kept k)
theorem Inv.laid {a:Addr} {o:HO} {t':Nat} (I:Inv X pins σ H s) (k:∀ b u,s.heap.get? b=some u->h'.get? b=some u) (hp:s.heap.objs.size<=a) (new:ObjOk X.prog X.w (upd H a o) h' a o) :
  Inv X pins σ (upd H a o) { s with heap:=h',toks:=t' }:=I.un (Un.laid k hp (I.hok.fresh hp)) (I.hok.laid k hp new)
theorem Inv.write {x e:Addr} {o:HO} {t':Nat} (I:Inv X pins σ H s) (mu:Mut (H x)) (he:e=x\/H e=some (.own x)) (k:∀ b u,b ≠ e->s.heap.get? b=some u->h'.get? b=some u) (heo:∃ u,h'.get? e=some u)
  (new:ObjOk X.prog X.w (upd H x o) h' x o):Inv X pins σ (upd H x o) { s with heap:=h',toks:=t' }:=I.un (Un.write mu he k heo) (I.hok.write mu he k heo new)
theorem Inv.pins_of {pins':List (Addr × Obj)} (I:Inv X pins σ H s) (h:∀ p ∈ pins',s.heap.get? p.1=some p.2/\H p.1=none/\p.1 ≠ X.env.locals/\p.1 ∉ X.fs/\∀ v,p.2.data ≠ .cell v):Inv X pins' σ H s:=
 ⟨I.ok,I.os,I.bare,I.base,I.loc,I.cell,I.free,I.freeC,fun p hp=>(List.mem_append.mp hp).elim (fun z=>I.pin p (List.mem_append_left _ z)) (h p),I.hok,I.len⟩
theorem Zhs {N:List Str} (hN:N.Nodup) {i j:Nat} {x:Str} (a:N[i]? = some x) (b:N[j]? = some x):i=j:=by
 obtain ⟨h1,e1⟩:=List.getElem?_eq_some_iff.mp a
 obtain ⟨h2,e2⟩:=List.getElem?_eq_some_iff.mp b
 exact (List.getElem_inj hN).mp (e1.trans e2.symm)
theorem Zf0 {M:Model} {A:Around} {E:Value->Shared->Prop} {i:Nat} {x:Str} {v:V} {u:Value} {Q:Unit->Shared->Prop} (I:Inv X pins σ H s) (hN:X.N.Nodup) (hi:X.N[i]? = some x) (hx:Loc X.env.scope x) (r:RelV v u)
  (h:∀ s',Inv X pins (σ.set i (some v)) H s' -> (∃ a,Heap.SameBut a s.heap s'.heap/\(a=X.env.locals\/X.env.cells.lookup x=some a))->Q () s') (hf:X.fn x=true\/X.env.scope.names.lookup x=some .local:=by first | exact .inl rfl | exact .inr rfl | assumption):wpAny M A (storeName X.env x u) Q E s:=by
 obtain ⟨m,hn,hl⟩:=id I.loc
 have hcls:(X.env.scope.kind == .class || (X.env.scope.kind == .module && X.env.locals != X.env.globals))=false:=by rw [I.ok.kind]; rfl
 have hiσ:i < σ.length:=by rw [I.len]; exact (List.getElem?_eq_some_iff.mp hi).1
 have cne:=I.cne
 have tracked:∀ {a:Addr} {h':Heap},(∃ o,s.heap.get? a=some o/\H a=none)->Heap.SameBut a s.heap h' -> HOk X.prog X.w H h':=fun {a h'} ha hs b ob e=>by
  obtain ⟨_,_,hfree⟩:=ha
  refine (I.hok b ob e).stay (fun c w' hc q=>(hs.2 c ?_).trans q) (fun _ q=>q) fun _ _ q=>q
  rintro rfl
  rcases hc with rfl | hc
  ·rw [hfree] at e; cases e
  ·rw [hfree] at hc; cases hc
 rcases hx with hk | hk
 ·refine wpAny_storeName_local hk hn (fun h' hn' hs=>?_) hcls
  obtain ⟨oL,_,_,hoL,_⟩:=id hn
  refine h _ ⟨I.ok,I.os,I.bare,⟨fun b o e n hb hx=>?_,fun b o e n hb hx=>?_,I.base.free,fun b o e hx=>?_,I.base.tups,I.base.frzs,I.base.tbls⟩,⟨_,hn',fun j y v' e1 e2 e3=>?_⟩,fun y c e=>?_,I.free,I.freeC,fun p hp=>?_,tracked ⟨oL,hoL,I.free⟩ hs,by simpa using I.len⟩ ⟨_,hs,.inl rfl⟩
  ·exact (hs.2 b (Nat.ne_of_lt (Nat.lt_of_lt_of_le (Heap.lt_size e) I.ok.above))).trans (I.base.keep b o e n hb hx)
  ·obtain ⟨sl,e1⟩:=I.base.slot b o e n hb hx
   exact ⟨sl,(hs.2 b (Nat.ne_of_lt (Nat.lt_of_lt_of_le (Heap.lt_size e) I.ok.above))).trans e1⟩
  ·obtain ⟨o',e1⟩:=I.base.there b o e hx
   exact ⟨o',(hs.2 b (Nat.ne_of_lt (Nat.lt_of_lt_of_le (Heap.lt_size e) I.ok.above))).trans e1⟩
  ·by_cases hj:j=i
   ·subst hj
    rw [hi] at e1; cases e1
    rw [List.getElem?_set_self hiσ] at e2
    cases e2
    exact ⟨u,r,.inl ⟨hk,by simp⟩⟩
   ·rw [List.getElem?_set_ne (Ne.symm hj)] at e2
    obtain ⟨u',r',q⟩:=hl j y v' e1 e2 e3
    refine ⟨u',r',?_⟩
    rcases q with ⟨k,e⟩ | ⟨k,c,e,z⟩
    ·refine .inl ⟨k,?_⟩
     have:y ≠ x:=fun e=>hj (Zhs hN e1 (e ▸ hi))
     simp [this,e]
    ·exact .inr ⟨k,c,e,z.sameBut hs (cne y c e)⟩
  ·obtain ⟨w',z⟩:=I.cell y c e
   exact ⟨w',z.sameBut hs (cne y c e)⟩
  ·obtain ⟨e,n,ne,nf,d⟩:=I.pin p hp
   exact ⟨(hs.2 p.1 ne).trans e,n,ne,nf,d⟩
 ·have hfn:X.fn x=true:=by
   rcases hf with z | z
   ·exact z
   ·rw [z] at hk; cases hk
  obtain ⟨c,hc⟩:=I.ok.has x (.inl hk)
  obtain ⟨w',z⟩:=I.cell x c hc
  refine wpAny_storeName_cell I.ok.kind hk hc z (fun h' hc' hs=>?_)
  obtain ⟨oc,hoc,hocd⟩:=id z
  refine h { s with heap:=h' } ⟨I.ok,I.os,I.bare,⟨fun b o e n hb hx=>?_,fun b o e n hb hx=>?_,I.base.free,fun b o e hx=>?_,I.base.tups,I.base.frzs,I.base.tbls⟩,⟨m,hn.sameBut hs (Ne.symm (cne x c hc)),fun j y v' e1 e2 e3=>?_⟩,fun y c' e=>?_,I.free,I.freeC,fun p hp=>?_,tracked ⟨oc,hoc,I.freeC x c hc⟩ hs,by simpa using I.len⟩ ⟨c,hs,.inr hc⟩
  ·exact (hs.2 b (Nat.ne_of_lt (Nat.lt_of_lt_of_le (Heap.lt_size e) (I.ok.cab x c hfn hc)))).trans (I.base.keep b o e n hb hx)
  ·obtain ⟨sl,e1⟩:=I.base.slot b o e n hb hx
   exact ⟨sl,(hs.2 b (Nat.ne_of_lt (Nat.lt_of_lt_of_le (Heap.lt_size e) (I.ok.cab x c hfn hc)))).trans e1⟩
  ·obtain ⟨o',e1⟩:=I.base.there b o e hx
   exact ⟨o',(hs.2 b (Nat.ne_of_lt (Nat.lt_of_lt_of_le (Heap.lt_size e) (I.ok.cab x c hfn hc)))).trans e1⟩
  ·by_cases hj:j=i
   ·subst hj
    rw [hi] at e1; cases e1
    rw [List.getElem?_set_self hiσ] at e2
    cases e2
    exact ⟨u,r,.inr ⟨.inl hk,c,hc,hc'⟩⟩
   ·rw [List.getElem?_set_ne (Ne.symm hj)] at e2
    obtain ⟨u',r',q⟩:=hl j y v' e1 e2 e3
    refine ⟨u',r',?_⟩
    rcases q with q | ⟨k,c',e,z'⟩
    ·exact .inl q
    ·refine .inr ⟨k,c',e,z'.sameBut hs ?_⟩
     rintro rfl
     exact hj (Zhs hN e1 (I.ok.inj _ _ _ e hc ▸ hi))
  ·by_cases hcc:c' = c
   ·subst hcc; exact ⟨_,hc'⟩
   ·obtain ⟨w2,z2⟩:=I.cell y c' e
    exact ⟨w2,z2.sameBut hs hcc⟩
  ·obtain ⟨e,n,ne,nf,d⟩:=I.pin p hp
   refine ⟨(hs.2 p.1 ?_).trans e,n,ne,nf,d⟩
   intro q
   rw [q,hoc] at e
   have q':oc=p.2:=Option.some.inj e
   exact d w' (by rw [<- q']; exact hocd)
theorem Zdu {M:Model} {A:Around} {E:Value->Shared->Prop} {i:Nat} {x:Str} {v:V} {u:Value} {Q:Unit->Shared->Prop} (I:Inv X pins σ H s) (hN:X.N.Nodup) (hi:X.N[i]? = some x) (hx:Loc X.env.scope x) (r:RelV v u)
  (h:∀ s',Inv X pins (σ.set i (some v)) H s' -> Q () s') (hf:X.fn x=true\/X.env.scope.names.lookup x=some .local:=by first | exact .inl rfl | exact .inr rfl | assumption):wpAny M A (storeName X.env x u) Q E s:=
 Zf0 I hN hi hx r (fun s' I' _=>h s' I') hf
theorem Inv.call' {s':Shared} {ch:List Addr} (I:Inv X pins σ H s) (ho:s'.os=s.os) (u:Un (frs X.stack) ch H H' s.heap s'.heap) (hok:HOk X.prog X.w H' s'.heap) (hg:AllBare s'.gens)
  (hch:∀ b ∈ ch,(b ∈ X.ex\/X.s₀.heap.objs.size<=b)/\b ≠ X.env.locals/\(∀ x c,X.env.cells.lookup x=some c->c ≠ b)/\∀ p ∈ X.pn ++ pins,p.1 ≠ b):Inv X pins σ H' s':=by
 obtain ⟨h',g',d',t',o'⟩:=s'
 have e:o' = s.os:=ho
 subst e
 exact I.call (g':=g') (t':=t') (d':=d') u hok hg hch
end
abbrev XK:=Value->Option Addr->Hp->Prop
abbrev St:=List (Option V)
abbrev VK:=V->Hp->Prop
abbrev TE:=St->Hp->VK->Prop
abbrev TT:=St->Hp->(Bool->Hp->Prop)->Prop
abbrev TA:=St->Hp->(List V->Hp->Prop)->Prop
structure Ends where
 nx:St->Hp->Prop
 rt:VK
 bk:St->Hp->Prop:=fun _ _=>False
 ct:St->Hp->Prop:=fun _ _=>False
abbrev TS:=Ends->St->Hp->Prop
def EP (X:Cx) (pins:List (Addr × Obj)) (σ:St) (Q:VK) (u:Value) (s':Shared):Prop:=∃ v H',Inv X pins σ H' s' /\ RelV v u/\Q v H'
def TP (X:Cx) (pins:List (Addr × Obj)) (σ:St) (Q:Bool->Hp->Prop) (b:Bool) (s':Shared):Prop:=∃ H',Inv X pins σ H' s' /\ Q b H'
def AP (X:Cx) (pins:List (Addr × Obj)) (σ:St) (Q:List V->Hp->Prop) (us:List Value) (s':Shared):Prop:=∃ vs H',Inv X pins σ H' s' /\ Vals vs us/\Q vs H'
def SP (X:Cx) (pins:List (Addr × Obj)) (D:Ends) (f:Flow) (s':Shared):Prop:=
 match f with
 | .next=>∃ σ' H',Inv X pins σ' H' s' /\ D.nx σ' H'
 | .brk=>∃ σ' H',Inv X pins σ' H' s' /\ D.bk σ' H'
 | .cont=>∃ σ' H',Inv X pins σ' H' s' /\ D.ct σ' H'
 | .ret u=>∃ v σ' H',Inv X pins σ' H' s' /\ RelV v u/\D.rt v H'
def PE (X:Cx) (e:Expr) (t:TE):Prop:=
 ∀ (pins:List (Addr × Obj)) (s:Shared) (σ:St) (H:Hp) (Q:VK),Inv X pins σ H s->t σ H Q->wpAny (model X.prog X.w) X.A (eval e X.env) (EP X pins σ Q) X.xe s
def PT (X:Cx) (e:Expr) (t:TT):Prop:=
 ∀ (pins:List (Addr × Obj)) (s:Shared) (σ:St) (H:Hp) (Q:Bool->Hp->Prop),Inv X pins σ H s->t σ H Q->wpAny (model X.prog X.w) X.A (isTrue e X.env (eval e X.env)) (TP X pins σ Q) X.xe s
def PW (X:Cx) (e:Expr) (t:TT):Prop:=
 ∀ (whole:Sem Value) (pins:List (Addr × Obj)) (s:Shared) (σ:St) (H:Hp) (Q:Bool->Hp->Prop),Inv X pins σ H s->t σ H Q->wpAny (model X.prog X.w) X.A (isTrue e X.env whole) (TP X pins σ Q) X.xe s
theorem PW.pt {X:Cx} {e:Expr} {t:TT} (h:PW X e t):PT X e t:=h _
def PA (X:Cx) (es:List Expr) (t:TA):Prop:=
 ∀ (pos:Pos) (pins:List (Addr × Obj)) (s:Shared) (σ:St) (H:Hp) (Q:List V->Hp->Prop),Inv X pins σ H s->t σ H Q->wpAny (model X.prog X.w) X.A (spliced (backTo pos (starEach es X.env))) (AP X pins σ Q) X.xe s
def PS (X:Cx) (st:Stmt) (t:TS):Prop:=
 ∀ (pins:List (Addr × Obj)) (s:Shared) (σ:St) (H:Hp) (D:Ends),Inv X pins σ H s->t D σ H->wpAny (model X.prog X.w) X.A (exec st X.env) (SP X pins D) X.xe s
def PSs (X:Cx) (st:List Stmt) (t:TS):Prop:=
 ∀ (pins:List (Addr × Obj)) (s:Shared) (σ:St) (H:Hp) (D:Ends),Inv X pins σ H s->t D σ H->wpAny (model X.prog X.w) X.A (execs st X.env) (SP X pins D) X.xe s
theorem thn {α:Type} {t:Sem α} {Q Q':α -> Shared->Prop} {M:Model} {A:Around} {E:Value->Shared->Prop} {s:Shared} (h:wpAny M A t Q E s) (hQ:∀ a s,Q a s->Q' a s):wpAny M A t Q' E s:=wpAny_mono h hQ fun _ _ x=>x
end L2
namespace L2
open PySem PySem.Spec PyProof.Rows
section
variable {X:Cx}
def tVar (i:Nat):TE:=fun σ H Q=>∃ v,σ[i]? = some (some v)/\Q v H
def tC (v:V):TE:=fun _ H Q=>Q v H
theorem Zqo {i:Nat} {x:Str} {pos:Pos} (hN:X.N[i]? = some x) (hv:Vis X.env.scope x) (hd:(x == ("__debug__":Str))=false:=by decide) (hcd:(x == ("__classdict__":Str))=false:=by decide):PE X (.Name x pos) (tVar i):=by
 intro pins s σ H Q I h
 obtain ⟨v,e,h⟩:=h
 obtain ⟨m,hn,hl⟩:=I.loc
 obtain ⟨u,r,l⟩:=hl i x v hN e hv
 have fin:EP X pins σ Q u s:=⟨v,H,I,r,h⟩
 rcases l with ⟨hk,hm⟩ | ⟨hk,c,hc,hcell⟩
 ·exact wpAny_Name (wpAny_loadName_local I.ok.kind hk hn hm fin) hd
 ·rcases hk with hk | hk
  ·exact wpAny_Name (wpAny_loadName_cell I.ok.kind hk hc hcell fin) hd
  ·exact wpAny_Name (wpAny_loadName_free I.ok.kind hk hc hcell fin hcd) hd
theorem Zag {i j pos}:PE X (.Constant (.int i) j pos) (tC (.int i)):=fun _ _ _ H _ I h=>wpAny_Constant_int ⟨.int i,H,I.tok _,⟨_,rfl⟩,h⟩
theorem Zin {b j pos}:PE X (.Constant (.bool b) j pos) (tC (.bl b)):=fun _ _ _ H _ I h=>Constant_bool ⟨.bl b,H,I,rfl,h⟩
def Gl (X:Cx) (x:Str):Prop:=X.env.kindOf x=some .globalImplicit
theorem Zo9 {E:Value->Shared->Prop} {pins:List (Addr × Obj)} {s:Shared} {σ:St} {H:Hp} {x:Str} {u:Value} {pos:Pos} {Q:Value->Shared->Prop} (I:Inv X pins σ H s) (hg:Gl X x) (hm:X.mg x=some u) (h:Q u s)
  (hd:(x == ("__debug__":Str))=false:=by decide):wpAny (model X.prog X.w) X.A (eval (.Name x pos) X.env) Q E s:=
 Calls.Name_function_global I.ok.kind hg (Calls.loadGlobal_global (by rw [I.ok.glob]; exact I.mod.glob.keeps I.bk) hm h) hd
theorem Zet {E:Value->Shared->Prop} {pins:List (Addr × Obj)} {s:Shared} {σ:St} {H:Hp} {x:Str} {u:Value} {pos:Pos} {Q:Value->Shared->Prop} (I:Inv X pins σ H s) (hg:Gl X x) (hm:X.mg x=none) (hv:bootBuiltins x=some u) (h:Q u s)
  (hn:x ≠ "__name__":=by decide) (hd:(x == ("__debug__":Str))=false:=by decide):wpAny (model X.prog X.w) X.A (eval (.Name x pos) X.env) Q E s:=by
 obtain ⟨mb,h1,h2⟩:=I.mod.blt
 exact Calls.Name_function_global I.ok.kind hg (Calls.loadGlobal_builtin (by rw [I.ok.glob]; exact I.mod.glob.keeps I.bk) hm (by rw [I.ok.blt]; exact h1.keeps I.bk) ((h2 x hn).trans hv) h) hd
theorem Zdj {x:Str} {v:V} {u:Value} {pos:Pos} (hg:Gl X x) (hm:X.mg x=none) (hv:bootBuiltins x=some u) (r:RelV v u) (hn:x ≠ "__name__":=by decide) (hd:(x == ("__debug__":Str))=false:=by decide):PE X (.Name x pos) (tC v):=
 fun _ _ _ H _ I h=>Zet I hg hm hv ⟨v,H,I,r,h⟩ hn hd
variable {a b:Expr} {ta tb:TE} {pos:Pos}
variable {tA tB':TT} {rest:List Expr}
def tAnd (t u:TT):TT:=fun σ H Q=>t σ H fun c H1=>if c=true then u σ H1 Q else Q false H1
def tOr (t u:TT):TT:=fun σ H Q=>t σ H fun c H1=>if c=true then Q true H1 else u σ H1 Q
def tNot (t:TT):TT:=fun σ H Q=>t σ H fun c H1=>Q (!c) H1
theorem pw_and1 (ha:PT X a tA):PW X (.BoolOp .And [a] pos) tA:=by
 intro wh pins s σ H Q I h
 refine isTrue_and (thn (ha pins s σ H Q I h) fun c s1 e=>?_)
 cases c with
 | true=>exact isTrue_and_nil e
 | false=>exact e
theorem pw_or1 (ha:PT X a tA):PW X (.BoolOp .Or [a] pos) tA:=by
 intro wh pins s σ H Q I h
 refine isTrue_or (thn (ha pins s σ H Q I h) fun c s1 e=>?_)
 cases c with
 | false=>exact isTrue_or_nil e
 | true=>exact e
theorem pw_and (ha:PT X a tA) (hb:PW X (.BoolOp .And (b :: rest) pos) tB'):PW X (.BoolOp .And (a :: b :: rest) pos) (tAnd tA tB'):=by
 intro wh pins s σ H Q I h
 refine isTrue_and (thn (ha pins s σ H _ I h) fun c s1 ⟨H1,I1,q1⟩=>?_)
 cases c with
 | true=>exact hb wh pins s1 σ H1 Q I1 q1
 | false=>exact ⟨H1,I1,q1⟩
theorem pw_or (ha:PT X a tA) (hb:PW X (.BoolOp .Or (b :: rest) pos) tB'):PW X (.BoolOp .Or (a :: b :: rest) pos) (tOr tA tB'):=by
 intro wh pins s σ H Q I h
 refine isTrue_or (thn (ha pins s σ H _ I h) fun c s1 ⟨H1,I1,q1⟩=>?_)
 cases c with
 | true=>exact ⟨H1,I1,q1⟩
 | false=>exact hb wh pins s1 σ H1 Q I1 q1
theorem Ze6 (ha:PT X a tA):PT X (.UnaryOp .Not a pos) (tNot tA):=by
 intro pins s σ H Q I h
 exact isTrue_not (ha pins s σ H (fun c H1=>Q (!c) H1) I h)
def tAndV (ta tb:TE):TE:=fun σ H Q=>ta σ H fun x H1=>∃ c,x=.bl c/\if c=true then tb σ H1 Q else Q (.bl false) H1
def tOrV (ta tb:TE):TE:=fun σ H Q=>ta σ H fun x H1=>∃ c,x=.bl c/\if c=true then Q (.bl true) H1 else tb σ H1 Q
def tNotV (ta:TE):TE:=fun σ H Q=>ta σ H fun x H1=>∃ c,x=.bl c/\Q (.bl (!c)) H1
theorem Zh8 {op} {t:TE} (h:PE X a t):PE X (.BoolOp op [a] pos) t:=fun pins s σ H Q I hw=>BoolOp_one (h pins s σ H Q I hw)
theorem Zih (ha:PE X a ta) (hb:PE X (.BoolOp .And (b :: rest) pos) tb):PE X (.BoolOp .And (a :: b :: rest) pos) (tAndV ta tb):=by
 intro pins s σ H Q I h
 refine BoolOp_and (thn (ha pins s σ H _ I h) fun v s1 ⟨x,H1,I1,r1,q1⟩=>?_)
 obtain ⟨c,rfl,q1⟩:=q1
 cases r1
 refine wpAny_truthy_bool ?_
 cases c with
 | true=>exact hb pins s1 σ H1 Q I1 q1
 | false=>exact ⟨.bl false,H1,I1,rfl,q1⟩
theorem Zqv (ha:PE X a ta):PE X (.UnaryOp .Not a pos) (tNotV ta):=by
 intro pins s σ H Q I h
 refine UnaryOp_ (thn (ha pins s σ H _ I h) fun v s1 ⟨x,H1,I1,r1,q1⟩=>?_)
 obtain ⟨c,rfl,q1⟩:=q1
 cases r1
 exact not_of (wpAny_truthy_bool ⟨.bl (!c),H1,I1,rfl,q1⟩)
def tIf (t:TT) (ta tb:TE):TE:=fun σ H Q=>t σ H fun c H1=>if c=true then ta σ H1 Q else tb σ H1 Q
theorem Zm4 {c:Expr} (hc:PT X c tA) (ha:PE X a ta) (hb:PE X b tb):PE X (.IfExp c a b pos) (tIf tA ta tb):=by
 intro pins s σ H Q I h
 refine wpAny_IfExp (thn (hc pins s σ H _ I h) fun d s1 ⟨H1,I1,q1⟩=>?_)
 cases d with
 | true=>exact ha pins s1 σ H1 Q I1 q1
 | false=>exact hb pins s1 σ H1 Q I1 q1
end
end L2
namespace L2
open PySem PySem.Spec PyProof.Rows
def SqL (K:PySem.W.Frag) (H:Hp) (a:Addr) (xs:List V):Prop:=
 Rd H a (.lst xs) ∨
  ∃ (o:Obj) (its:Array Value) (n:Nat),K.lookup a=some o/\o.cls=.type "list" /\ o.dict=none/\o.data=.seq its n/\its.size<=sizeLine/\Vals xs its.toList
def SqT (K:PySem.W.Frag) (H:Hp) (a:Addr) (xs:List V):Prop:=
 Rd H a (.tup xs) ∨
  ∃ (o:Obj) (its:Array Value) (n:Nat),K.lookup a=some o/\o.cls=.type "tuple" /\ o.data=.seq its n/\its.size<=sizeLine/\Vals xs its.toList
def absV:Value->Option V
 | .none=>some .non
 | .bool b=>some (.bl b)
 | .int i _=>some (.int i)
 | .str x _=>some (.str x)
 | .bytes b _=>some (.byt b)
 | .float b _=>some (.flt b)
 | .ref a=>some (.ref a)
 | .type n=>some (.ty n)
 | _=>none
theorem RelV.abs {x:V} {u:Value} (r:RelV x u):absV u=some x:=by
 cases x with
 | non=>cases r; rfl
 | bl _=>cases r; rfl
 | int _=>obtain ⟨t,rfl⟩:=r; rfl
 | str _=>obtain ⟨t,rfl⟩:=r; rfl
 | byt _=>obtain ⟨t,rfl⟩:=r; rfl
 | flt _=>obtain ⟨t,rfl⟩:=r; rfl
 | ref _=>cases r; rfl
 | ty _=>cases r; rfl
theorem RelV.inj {x y:V} {u:Value} (r:RelV x u) (q:RelV y u):x=y:=Option.some.inj (r.abs.symm.trans q.abs)
theorem Vals.inj:∀ {xs ys:List V} {us:List Value},Vals xs us->Vals ys us->xs=ys
 | _,_,_,.nil,.nil=>rfl
 | _,_,_,.cons r t,.cons r' t'=>by rw [r.inj r',Vals.inj t t']
section
variable {X:Cx} {pins:List (Addr × Obj)} {σ:St} {H:Hp} {s:Shared} {a:Addr} {xs ys:List V}
theorem SqL.of {K:PySem.W.Frag} (h:H a=some (.lst xs)):SqL K H a xs:=.inl (.inl h)
theorem SqT.of {K:PySem.W.Frag} (h:H a=some (.tup xs)):SqT K H a xs:=.inl (.inl h)
theorem Inv.list (I:Inv X pins σ H s) (h:SqL X.K H a xs):∃ its:List Value,Vals xs its/\PlainL s.heap a its.toArray/\xs.length<=sizeLine:=by
 rcases h with h | ⟨o,its,n,hk,hc,hd,hs,hz,r⟩
 ·obtain ⟨z,its,n,r,e⟩:=h.ok I.hok
  exact ⟨its,r,⟨_,n,e,rfl,rfl,rfl⟩,z⟩
 ·refine ⟨its.toList,r,⟨o,n,I.kIn a o hk,hc,hd,by simpa using hs⟩,?_⟩
  have e:=r.length
  simp only [Array.length_toList] at e
  omega
theorem Inv.tuple (I:Inv X pins σ H s) (h:SqT X.K H a xs):∃ its:List Value,Vals xs its/\IsTup s.heap a its.toArray/\xs.length<=sizeLine:=by
 rcases h with h | ⟨o,its,n,hk,hc,hs,hz,r⟩
 ·obtain ⟨z,its,r,p⟩:=h.ok I.hok
  exact ⟨its,r,p.tup,z⟩
 ·refine ⟨its.toList,r,⟨o,I.kIn a o hk,hc,n,by simpa using hs⟩,?_⟩
  have e:=r.length
  simp only [Array.length_toList] at e
  omega
theorem Inv.list_inj (I:Inv X pins σ H s) (h:SqL X.K H a xs) (h':SqL X.K H a ys):xs=ys:=by
 obtain ⟨its,r,⟨o,n,e,_,_,d⟩,_⟩:=I.list h
 obtain ⟨its',r',⟨o',n',e',_,_,d'⟩,_⟩:=I.list h'
 rw [e] at e'; cases e'
 rw [d] at d'
 injection d' with d1 _
 have:its=its':=by simpa using congrArg Array.toList d1
 subst this
 exact r.inj r'
theorem Inv.tuple_inj (I:Inv X pins σ H s) (h:SqT X.K H a xs) (h':SqT X.K H a ys):xs=ys:=by
 obtain ⟨its,r,⟨o,e,_,n,d⟩,_⟩:=I.tuple h
 obtain ⟨its',r',⟨o',e',_,n',d'⟩,_⟩:=I.tuple h'
 rw [e] at e'; cases e'
 rw [d] at d'
 injection d' with d1 _
 have:its=its':=by simpa using congrArg Array.toList d1
 subst this
 exact r.inj r'
end
abbrev Cx.wish (X:Cx) (E:Value->Shared->Prop):Cx:={ X with xe:=E }
abbrev Cx.nox (X:Cx):Cx:=X.wish fun _ _=>False
theorem Cx.Ok.wish {X:Cx} (ok:X.Ok) (E:Value->Shared->Prop):(X.wish E).Ok:=
 ⟨ok.mod,ok.kind,ok.glob,ok.blt,ok.above,ok.inj,ok.has,ok.cab,ok.hd,ok.frames,ok.stk,ok.exf,ok.bs,ok.bsz,ok.noex,ok.exfs,ok.funs,ok.frf⟩
theorem Cx.Ok.unwish {X:Cx} {E:Value->Shared->Prop} (ok:(X.wish E).Ok):X.Ok:=
 ⟨ok.mod,ok.kind,ok.glob,ok.blt,ok.above,ok.inj,ok.has,ok.cab,ok.hd,ok.frames,ok.stk,ok.exf,ok.bs,ok.bsz,ok.noex,ok.exfs,ok.funs,ok.frf⟩
section
variable {X:Cx} {pins:List (Addr × Obj)} {σ:St} {H:Hp} {s:Shared} {E:Value->Shared->Prop}
theorem Inv.wish (I:Inv X pins σ H s) (E:Value->Shared->Prop):Inv (X.wish E) pins σ H s:=⟨I.ok.wish E,I.os,I.bare,I.base,I.loc,I.cell,I.free,I.freeC,I.pin,I.hok,I.len⟩
theorem Inv.unwish (I:Inv (X.wish E) pins σ H s):Inv X pins σ H s:=⟨I.ok.unwish,I.os,I.bare,I.base,I.loc,I.cell,I.free,I.freeC,I.pin,I.hok,I.len⟩
theorem SP.unwish {D:Ends} {f:Flow} {s':Shared} (h:SP (X.wish E) pins D f s'):SP X pins D f s':=by
 cases f with
 | next=>obtain ⟨σ',H',I,q⟩:=h; exact ⟨σ',H',I.unwish,q⟩
 | brk=>obtain ⟨σ',H',I,q⟩:=h; exact ⟨σ',H',I.unwish,q⟩
 | cont=>obtain ⟨σ',H',I,q⟩:=h; exact ⟨σ',H',I.unwish,q⟩
 | ret u=>obtain ⟨v,σ',H',I,r,q⟩:=h; exact ⟨v,σ',H',I.unwish,r,q⟩
theorem PSs.nox {st:List Stmt} {t:TS} (h:PSs X.nox st t):PSs X st t:=fun pins s σ H D I hw=>
 wpAny_mono (h pins s σ H D (I.wish _) hw) (fun _ _ q=>q.unwish) fun _ _ z=>False.elim z
end
section
variable {X:Cx} {st:Stmt} {rest:List Stmt} {t u:TS} {e:Expr} {te:TE} {pos:Pos}
def tNext:TS:=fun D σ H=>D.nx σ H
def tSeq (t u:TS):TS:=fun D σ H=>t { D with nx:=u D } σ H
theorem Za4:PSs X [] tNext:=fun _ _ σ H _ I h=>wpAny_execs_nil ⟨σ,H,I,h⟩
theorem Zad (h1:PS X st t) (h2:PSs X rest u):PSs X (st :: rest) (tSeq t u):=by
 intro pins s σ H D I h
 refine wpAny_execs_cons (thn (h1 pins s σ H { D with nx:=u D } I h) fun f s1 q=>?_)
 cases f with
 | next=>
  obtain ⟨σ',H',I',q⟩:=q
  exact h2 pins s1 σ' H' D I' q
 | ret v=>exact q
 | brk=>exact q
 | cont=>exact q
theorem Zah (h1:PS X st t):PSs X [st] t:=by
 intro pins s σ H D I h
 refine wpAny_execs_cons (thn (h1 pins s σ H D I h) fun f s1 q=>?_)
 cases f with
 | next=>exact wpAny_execs_nil q
 | ret v=>exact q
 | brk=>exact q
 | cont=>exact q
theorem Inv.quiet {pins:List (Addr × Obj)} {σ:St} {H:Hp} {s:Shared} (I:Inv X pins σ H s):interactive X.env=false:=by simp [interactive,I.ok.kind]
def tDrop (te:TE):TS:=fun D σ H=>te σ H fun _ H1=>D.nx σ H1
theorem Zbu (he:PE X e te) (hs:swapsWith e none pos.line X.env=pure false:=by rfl):PS X (.Expr e pos) (tDrop te):=by
 intro pins s σ H D I h
 exact wpAny_Expr_any (thn (he pins s σ H _ I h) fun v s1 ⟨x,H1,I1,r1,q1⟩=>⟨σ,H1,I1,q1⟩) I.quiet hs
def tRet (te:TE):TS:=fun D σ H=>te σ H D.rt
theorem Zax (he:PE X e te):PS X (.Return (some e) pos) (tRet te):=by
 intro pins s σ H D I h
 exact wpAny_Return_some (thn (he pins s σ H _ I h) fun v s1 ⟨x,H1,I1,r1,q1⟩=>⟨x,σ,H1,I1,r1,q1⟩)
def tIfS (c:TT) (t u:TS):TS:=fun D σ H=>c σ H fun b H1=>if b=true then t D σ H1 else u D σ H1
theorem Zcb {c:Expr} {a b:List Stmt} {tc:TT} (hc:PT X c tc) (ha:PSs X a t) (hb:PSs X b u):PS X (.If c a b pos) (tIfS tc t u):=by
 intro pins s σ H D I h
 refine wpAny_If (thn (hc pins s σ H _ I h) fun d s1 ⟨H1,I1,q1⟩=>?_)
 cases d with
 | true=>exact ha pins s1 σ H1 D I1 q1
 | false=>exact hb pins s1 σ H1 D I1 q1
end
abbrev TG:=V->St->Hp->(St->Hp->Prop)->Prop
abbrev TGs:=List V->St->Hp->(St->Hp->Prop)->Prop
def PG (X:Cx) (target:Expr) (t:TG):Prop:=
 ∀ (pins:List (Addr × Obj)) (s:Shared) (σ:St) (H:Hp) (v:V) (u:Value) (Q:St->Hp->Prop),Inv X pins σ H s->RelV v u->t v σ H Q →
  wpAny (model X.prog X.w) X.A (assign target X.env u) (fun _ s'=>∃ σ' H',Inv X pins σ' H' s' /\ Q σ' H') X.xe s
def PGs (X:Cx) (ts:List Expr) (t:TGs):Prop:=
 ∀ (pins:List (Addr × Obj)) (s:Shared) (σ:St) (H:Hp) (vs:List V) (us:List Value) (Q:St->Hp->Prop),Inv X pins σ H s->Vals vs us->t vs σ H Q →
  wpAny (model X.prog X.w) X.A (assignInOrder ((assignEach ts X.env).map (·.2)) us) (fun _ s'=>∃ σ' H',Inv X pins σ' H' s' /\ Q σ' H') X.xe s
abbrev TSet:=V->V->V->Hp->(Hp->Prop)->Prop
def PSet (X:Cx) (t:TSet):Prop:=
 ∀ (pins:List (Addr × Obj)) (s:Shared) (σ:St) (H:Hp) (o i v:V) (ov iv u:Value) (Q:Hp->Prop),Inv X pins σ H s->RelV o ov->RelV i iv->RelV v u->t o i v H Q →
  wpAny (model X.prog X.w) X.A (setItem ov iv u) (fun _ s'=>∃ H',Inv X pins σ H' s' /\ Q H') X.xe s
section
variable {X:Cx} {pos:Pos}
def gName (i:Nat):TG:=fun v σ H Q=>Q (σ.set i (some v)) H
theorem Zaz {i:Nat} {x:Str} (hN:X.N.Nodup) (hi:X.N[i]? = some x) (hx:Loc X.env.scope x) (hf:X.fn x=true\/X.env.scope.names.lookup x=some .local:=by first | exact .inl rfl | exact .inr rfl | assumption):PG X (.Name x pos) (gName i):=by
 intro pins s σ H v u Q I r h
 exact wpAny_assign_Name (Zdu I hN hi hx r (fun s' I'=>⟨_,H,I',h⟩) hf)
def gNil:TGs:=fun vs σ H Q=>vs=[]/\Q σ H
def gCons (t:TG) (u:TGs):TGs:=fun vs σ H Q=>∃ v r,vs=v :: r/\t v σ H fun σ' H'=>u r σ' H' Q
theorem Zkm:PGs X [] gNil:=by
 intro pins s σ H vs us Q I r h
 obtain ⟨e,h⟩:=h
 subst e
 cases r
 exact assignInOrder_nil ⟨σ,H,I,h⟩
theorem Zdv {e:Expr} {es:List Expr} {t:TG} {u:TGs} (h1:PG X e t) (h2:PGs X es u)
  (hs:(assignEach (e :: es) X.env).map (·.2)=assign e X.env :: (assignEach es X.env).map (·.2):=by rfl):PGs X (e :: es) (gCons t u):=by
 intro pins s σ H vs us Q I r h
 obtain ⟨v,vr,e1,h⟩:=h
 subst e1
 cases r with
 | cons r rr=>
  rw [hs]
  refine assignInOrder_cons (thn (h1 pins s σ H _ _ _ I r h) fun _ s1 ⟨σ1,H1,I1,q1⟩=>?_)
  exact h2 pins s1 σ1 H1 _ _ Q I1 rr q1
def gTup (K:PySem.W.Frag) (n:Nat) (t:TGs):TG:=fun v σ H Q=>∃ a xs,v=.ref a/\SqT K H a xs/\xs.length=n/\t xs σ H Q
theorem Zqp {es:List Expr} {k:Nat} {t:TGs} {n:Nat} (hc:X.calm=true) (h:PGs X es t)
  (hn:(assignEach es X.env).length=n:=by rfl) (hst:(assignEach es X.env).findIdx? (·.1)=none:=by rfl):PG X (.Tuple es k pos) (gTup X.K n t):=by
 intro pins s σ H v u Q I r hw
 obtain ⟨a,xs,e1,hq,hl,hw⟩:=hw
 subst e1
 cases r
 obtain ⟨its,rv,ht,hz⟩:=I.tuple hq
 refine assign_Tuple_tuple (I.ok.hd hc) ht (by simp [hn,<- hl,rv.length]) hst fun h' hx=>?_
 have I1:Inv X pins σ H { s with heap:=h' }:=I.kept (t':=s.toks) fun b o e=>hx b o (Nat.ne_of_lt (Heap.lt_size e)) e
 exact h pins _ σ H xs _ Q I1 (by simpa using rv) hw
def gSub (to ti:TE) (t:TSet):TG:=fun v σ H Q=>to σ H fun o H1=>ti σ H1 fun i H2=>t o i v H2 fun H3=>Q σ H3
theorem Zd4 {o i:Expr} {to ti:TE} {t:TSet} (ho:PE X o to) (hi:PE X i ti) (hs:PSet X t)
  (ha:∀ v,assign (.Subscript o i pos) X.env v=(do
   let ov ← holding [v] (eval o X.env)
   let iv ← holding [v,ov] (eval i X.env)
   standAt pos
   holding [v,ov,iv] (setItem ov iv v)
   release [v,ov,iv] []):=by intro _; rfl):PG X (.Subscript o i pos) (gSub to ti t):=by
 intro pins s σ H v u Q I r h
 rw [ha]
 refine wpAny_bind (wpAny_holding (thn (ho pins s σ H _ I h) fun ov s1 ⟨x,H1,I1,r1,q1⟩=>?_))
 refine wpAny_bind (wpAny_holding (thn (hi pins s1 σ H1 _ I1 q1) fun iv s2 ⟨y,H2,I2,r2,q2⟩=>?_))
 refine wpAny_bind (wpAny_standAt (wpAny_bind (wpAny_holding (thn (hs pins s2 σ H2 x y v ov iv u _ I2 r1 r2 r q2) fun _ s3 ⟨H3,I3,q3⟩=>?_))))
 exact wpAny_release ⟨σ,H3,I3,q3⟩
def tAsg (te:TE) (g:TG):TS:=fun D σ H=>te σ H fun x H1=>g x σ H1 D.nx
theorem Zdo {tg e:Expr} {te:TE} {g:TG} (he:PE X e te) (hg:PG X tg g) (hs:swapsWithSole [tg] e pos.line X.env=pure false:=by rfl) (hw:swappedStores [tg] e X.env=pure none:=by rfl)
  (h1:(assignEach [tg] X.env).map (·.2)=[assign tg X.env]:=by rfl):PS X (.Assign [tg] e pos) (tAsg te g):=by
 intro pins s σ H D I h
 refine wpAny_Assign_stores (thn (he pins s σ H _ I h) fun v s1 ⟨x,H1,I1,r1,q1⟩=>?_) hs hw
 rw [h1]
 exact thn (hg pins s1 σ H1 x v _ I1 r1 q1) fun _ s2 q=>q
theorem Zao {i:Nat} {x:Str} {e:Expr} {te:TE} {pos':Pos} (hN:X.N.Nodup) (hi:X.N[i]? = some x) (hx:Loc X.env.scope x) (he:PE X e te) (hs:swapsWith e (some (.Name x pos')) pos.line X.env=pure false:=by rfl) (hf:X.fn x=true\/X.env.scope.names.lookup x=some .local:=by first | exact .inl rfl | exact .inr rfl | assumption) :
  PS X (.Assign [.Name x pos'] e pos) (tAsg te (gName i)):=by
 intro pins s σ H D I h
 refine wpAny_Assign_Name (thn (he pins s σ H _ I h) fun v s1 ⟨y,H1,I1,r1,q1⟩=>?_) hs
 exact Zdu I1 hN hi hx r1 (fun s2 I2=>⟨_,H1,I2,q1⟩) hf
def tPar (i j:Nat) (ta:TA):TS:=fun D σ H=>ta σ H fun vs H1=>∃ v w,vs=[v,w]/\D.nx ((σ.set i (some v)).set j (some w)) H1
theorem Zj5 {i j:Nat} {x y:Str} {a b:Expr} {ta:TA} {px py pt:Pos} {kt k2 pt2} (hc:X.calm=true) (hN:X.N.Nodup) (hi:X.N[i]? = some x) (hj:X.N[j]? = some y) (hij:i ≠ j)
  (hx:X.env.scope.names.lookup x=some .local) (hy:X.env.scope.names.lookup y=some .local) (ha:PA X [a,b] ta)
  (hw:swappedStores [.Tuple [.Name x px,.Name y py] kt pt] (.Tuple [a,b] k2 pt2) X.env=pure (some [x,y]))
  (hs:swapsWithSole [.Tuple [.Name x px,.Name y py] kt pt] (.Tuple [a,b] k2 pt2) pos.line X.env=pure false:=by rfl) :
  PS X (.Assign [.Tuple [.Name x px,.Name y py] kt pt] (.Tuple [a,b] k2 pt2) pos) (tPar i j ta):=by
 intro pins s σ H D I h
 rw [exec_Assign_arm]
 refine wpAny_bind (wpAny_standAt ?_)
 rw [hs]
 refine wpAny_bind (wpAny_pure ?_)
 rw [if_neg (by decide)]
 refine wpAny_bind (Tuple_ (thn (ha _ pins s σ H _ I h) fun us s1 ⟨vs,H1,I1,r1,q1⟩=>?_))
 obtain ⟨v,w,e1,q1⟩:=q1
 subst e1
 obtain ⟨u1,u2,rfl,rv,rw'⟩:∃ u1 u2,us=[u1,u2]/\RelV v u1/\RelV w u2:=by
  cases r1 with
  | cons p q=>
   cases q with
   | cons p' q'=>
    cases q'
    exact ⟨_,_,rfl,p,p'⟩
 refine wpAny_newObj_type ?_ (by show 2<=sizeLine; decide)
 have I2:Inv X pins σ H1 { s1 with heap:=s1.heap.push { cls:=.type "tuple",data:=.seq [u1,u2].toArray } }:=I1.kept (t':=s1.toks) fun b o e=>Heap.get?_push_of_some _ e
 rw [hw]
 refine wpAny_bind (wpAny_pure ?_)
 show wpAny (model X.prog X.w) X.A (do rule "assign.swapped-stores"; let items ← unpackItems (.ref s1.heap.objs.size) 2 none; assignInOrder [fun v=>bindName X.env y v,fun v=>bindName X.env x v] items.reverse; pure Flow.next) _ _ _
 refine wpAny_bind (wpAny_rule (wpAny_bind (unpackItems_tuple (items:=#[u1,u2]) (I.ok.hd hc) (IsTup.new s1.heap _) fun h' hx'=>?_)))
 have I3:=I2.kept (h':=h') (t':=s1.toks) fun b o e=>hx' b o (Nat.ne_of_lt (Heap.lt_size e)) e
 show wpAny _ _ (assignInOrder [fun v=>bindName X.env y v,fun v=>bindName X.env x v] [u2,u1] >>= fun _=>pure Flow.next) _ _ _
 refine wpAny_bind (assignInOrder_cons (wpAny_bindName (Zdu I3 hN hj (.inl hy) rw' (fun s2 I4=>?_) (.inr hy))))
 refine assignInOrder_cons (wpAny_bindName (Zdu I4 hN hi (.inl hx) rv (fun s3 I5=>assignInOrder_nil (wpAny_pure ?_)) (.inr hx)))
 rw [List.set_comm _ _ (Ne.symm hij)] at I5
 exact ⟨_,H1,I5,q1⟩
end
section
variable {X:Cx} {pos:Pos}
def tWhile (c:TT) (tb:TS):TS:=fun D σ H=>∃ W:Nat->St->Hp->Prop,(∃ m,W m σ H)/\∀ m σ H,W m σ H →
 c σ H fun b H1=>if b=true then ∃ N:St->Hp->Prop,(∀ σ' H',N σ' H' -> ∃ m',m' < m/\W m' σ' H')/\tb { D with nx:=N,ct:=N,bk:=D.nx } σ H1 else D.nx σ H1
theorem Zhr {c:Expr} {body:List Stmt} {tc:TT} {tb:TS} (hp:PassesOwn (model X.prog X.w) X.A X.env X.xe) (hc:PT X c tc) (hb:PSs X body tb):PS X (.While c body [] pos) (tWhile tc tb):=by
 intro pins s σ H D I h
 obtain ⟨W,⟨m0,w0⟩,turn⟩:=h
 refine wpAny_While (codeAny_whileLoop (fun n s'=>∃ σ' H',Inv X pins σ' H' s' /\ W n σ' H') ?_ m0 ⟨σ,H,I,w0⟩)
 rintro n s1 ⟨σ1,H1,I1,w1⟩
 refine wpAny_passesOwn hp (thn (hc pins s1 σ1 H1 _ I1 (turn n σ1 H1 w1)) fun b s2 ⟨H2,I2,q2⟩=>?_)
 cases b with
 | true=>
  obtain ⟨N,hN,q2⟩:=q2
  rw [if_pos rfl]
  refine wpAny_passesOwn hp (thn (hb pins s2 σ1 H2 _ I2 q2) fun f s3 q3=>?_)
  cases f with
  | next=>
   obtain ⟨σ3,H3,I3,n3⟩:=q3
   obtain ⟨m',hm,w3⟩:=hN σ3 H3 n3
   exact ⟨m',hm,σ3,H3,I3,w3⟩
  | cont=>
   obtain ⟨σ3,H3,I3,n3⟩:=q3
   obtain ⟨m',hm,w3⟩:=hN σ3 H3 n3
   exact ⟨m',hm,σ3,H3,I3,w3⟩
  | brk=>exact q3
  | ret v=>exact q3
 | false=>
  rw [if_neg Bool.false_ne_true]
  exact wpAny_execs_nil ⟨σ1,H2,I2,q2⟩
end
structure It where
 go:Nat->Hp->Prop
 yld:Nat->Hp->V->Hp->Prop
 stop:Nat->Hp->Prop
def FpOk (X:Cx) (pins:List (Addr × Obj)) (H:Hp) (b:Addr):Prop:=
 H b=none/\b ≠ X.env.locals/\b ∉ X.fs/\(b ∈ X.ex\/X.s₀.heap.objs.size<=b)/\(∀ x c,X.env.cells.lookup x=some c->c ≠ b)/\∀ p ∈ X.pn ++ pins,p.1 ≠ b
theorem Inv.fpOk {X:Cx} {pins:List (Addr × Obj)} {σ:St} {H H':Hp} {s:Shared} {b:Addr} (I:Inv X pins σ H s) (hb:s.heap.objs.size<=b) (hn:H' b=none):FpOk X pins H' b:=by
 refine ⟨hn,Nat.ne_of_gt (Nat.lt_of_lt_of_le I.lt hb),I.nofs hb,.inr (Nat.le_trans I.sz hb),fun x c e z=>?_,fun p hp z=>?_⟩
 ·obtain ⟨v,q⟩:=I.cell x c e
  exact absurd (Nat.lt_of_lt_of_le q.lt (by rw [z]; exact hb)) (Nat.lt_irrefl _)
 ·exact absurd (Nat.lt_of_lt_of_le (Heap.lt_size (I.pin p hp).1) (by rw [z]; exact hb)) (Nat.lt_irrefl _)
structure TurnG (Cm:Cx->Prop) (P:Program) (w:World) (K:PySem.W.Frag) (tg:Expr) (J:It) (fp:List Addr) (it:Addr) (tn:Nat->Heap->Prop):Prop where
 mem:it ∈ fp
 obj:∀ i h,tn i h->∀ b ∈ fp,∃ o,h.get? b=some o/\∀ v,o.data ≠ .cell v
 keep:∀ i h h',tn i h->(∀ b ∈ fp,∀ o,h.get? b=some o->h'.get? b=some o)->tn i h'
 item:∀ (X:Cx),X.prog=P->X.w=w->X.K=K->Cm X->∀ (i:Nat) (pins:List (Addr × Obj)) (s:Shared) (σ:St) (H:Hp) (E:Value->Shared->Prop),Inv X pins σ H s->(∀ b ∈ fp,FpOk X pins H b)->tn i s.heap->J.go i H →
  wpAny (model P w) X.A (pyNext (.ref it)) (fun r s1=>∃ u,r=some u ∧
   wpAny (model P w) X.A (letOwnedTupleGo tg (.ref it) u) (fun _ s2=>∃ x H',Inv X pins σ H' s2/\RelV x u/\J.yld i H x H' /\ tn (i + 1) s2.heap/\∀ b ∈ fp,H' b=none) E s1) E s
 done:∀ (X:Cx),X.prog=P->X.w=w->X.K=K->Cm X->∀ (i:Nat) (pins:List (Addr × Obj)) (s:Shared) (σ:St) (H:Hp) (E:Value->Shared->Prop),Inv X pins σ H s->(∀ b ∈ fp,FpOk X pins H b)->tn i s.heap->J.stop i H →
  wpAny (model P w) X.A (pyNext (.ref it)) (fun r s1=>r=none/\Inv X pins σ H s1) E s
 self:∀ (A:Around) (i:Nat) (s:Shared) (Q:Value->Shared->Prop) (E:Value->Shared->Prop),tn i s.heap->Q (.ref it) s->wpAny (model P w) A (pyIter (.ref it)) Q E s
abbrev Turn:=TurnG fun X=>X.calm=true
abbrev TI:=St->Hp->(It->Hp->Prop)->Prop
def PIEG (Cm:Cx->Prop) (X:Cx) (pins:List (Addr × Obj)) (σ:St) (tg:Expr) (R:It->Hp->Prop) (itv:Value) (s2:Shared):Prop:=
 ∃ (it:Addr) (fp:List Addr) (tn:Nat->Heap->Prop) (J:It) (H':Hp),itv=.ref it/\Inv X pins σ H' s2/\TurnG Cm X.prog X.w X.K tg J fp it tn/\tn 0 s2.heap/\(∀ b ∈ fp,FpOk X pins H' b)/\R J H'
def PIG (Cm:Cx->Prop) (X:Cx) (tg iter:Expr) (wi:TI):Prop:=
 ∀ (pins:List (Addr × Obj)) (s:Shared) (σ:St) (H:Hp) (R:It->Hp->Prop),Inv X pins σ H s->wi σ H R →
  wpAny (model X.prog X.w) X.A (eval iter X.env) (fun v s1=>wpAny (model X.prog X.w) X.A (pyIter v) (PIEG Cm X pins σ tg R) X.xe s1) X.xe s
abbrev PIE:=PIEG fun X=>X.calm=true
abbrev PI:=PIG fun X=>X.calm=true
theorem Zpp {M:Model} {A:Around} {E:Value->Shared->Prop} {s:Shared} {tg:Expr} {it:Addr} {u:Value} {o:Obj} {n:String} {vs:Array Value} {Q:Unit->Shared->Prop} (ho:s.heap.get? it=some o) (hc:o.cls=.type n) (hd:o.data=.fields vs)
  (hn:["enumerate","zip","dict_itemiterator","dict_reverseitemiterator","odict_iterator","itertools.zip_longest","itertools.pairwise"].contains n=false) (hQ:Q () s):wpAny M A (letOwnedTupleGo tg (.ref it) u) Q E s:=by
 unfold letOwnedTupleGo
 cases tg <;> first
  | exact wpAny_pure hQ
  | (cases u <;> first
      | exact wpAny_pure hQ
      | (refine wpAny_bind (wpAny_load ho ?_)
         rw [hc,hd]
         show wpAny M A (if (["enumerate","zip","dict_itemiterator","dict_reverseitemiterator","odict_iterator","itertools.zip_longest","itertools.pairwise"].contains n && vs[0]? == some (rawInt _))=true then _ else _) Q E s
         rw [if_neg (by intro h; rw [hn,Bool.false_and] at h; cases h)]
         exact wpAny_pure hQ))
def Itl (K:PySem.W.Frag) (a:Addr):It:=
 ⟨fun i H=>∃ xs x,SqL K H a xs/\xs[i]? = some x,fun i H x H'=>H' = H/\∀ xs,SqL K H a xs->xs[i]? = some x,fun i H=>∃ xs,SqL K H a xs/\xs.length<=i⟩
def Itt (K:PySem.W.Frag) (a:Addr):It:=
 ⟨fun i H=>∃ xs x,SqT K H a xs/\xs[i]? = some x,fun i H x H'=>H' = H/\∀ xs,SqT K H a xs->xs[i]? = some x,fun i H=>∃ xs,SqT K H a xs/\xs.length<=i⟩
def Itr (lo:Int) (n:Nat):It:=⟨fun i _=>i < n,fun i H x H'=>H' = H/\x=.int (lo + i),fun i _=>n<=i⟩
theorem Zkx {P:Program} {w:World} {K:PySem.W.Frag} {tg:Expr} (a it:Addr):Turn P w K tg (Itl K a) [it] it (fun i h=>h.IsListIter it a i) where
 mem:=by simp
 obj:=fun i h st b hb=>by
  have e:b=it:=by simpa using hb
  subst e
  obtain ⟨o,e,c,d⟩:=st
  exact ⟨o,e,fun v z=>by rw [d] at z; cases z⟩
 keep:=fun i h h' st k=>st.at fun o e=>k it (by simp) o e
 item:=by
  intro X hP hw hK hc i pins s σ H E I hf st hg
  subst hP hw hK
  obtain ⟨xs,x,hq,hx⟩:=hg
  obtain ⟨its,rv,p,hz⟩:=I.list hq
  obtain ⟨u,hu,ru⟩:=rv.get hx
  obtain ⟨f0,f1,f2,f3,f4,f5⟩:=hf it (by simp)
  refine wpAny_pyNext_list_item st p.isList (x:=u) (by simpa using hu) fun h' st' sb=>?_
  have I1:Inv X pins σ H { s with heap:=h' }:=I.turned (t':=s.toks) (fun b o hb e=>(sb.2 b hb).trans e) f0 f1 f3 f4 f5
  obtain ⟨o,e,c,d⟩:=id st'
  exact ⟨u,rfl,Zpp (s:={ s with heap:=h' }) e c d (by decide) ⟨x,H,I1,ru,⟨rfl,fun ys hy=>by rw [I.list_inj hy hq]; exact hx⟩,st',fun b hb=>(hf b hb).1⟩⟩
 done:=by
  intro X hP hw hK hc i pins s σ H E I hf st hg
  subst hP hw hK
  obtain ⟨xs,hq,hx⟩:=hg
  obtain ⟨its,rv,p,hz⟩:=I.list hq
  obtain ⟨f0,f1,f2,f3,f4,f5⟩:=hf it (by simp)
  have hl:=rv.length
  exact wpAny_pyNext_list_end (I.ok.hd hc) st p.isList (by simp; omega) fun h' eb=>⟨rfl,I.turned (t':=s.toks) (fun b o hb e=>eb b o hb e) f0 f1 f3 f4 f5⟩
 self:=fun _ _ _ _ _ st h=>wpAny_pyIter_listiter st h
theorem Zis {P:Program} {w:World} {K:PySem.W.Frag} {tg:Expr} (a it:Addr):Turn P w K tg (Itt K a) [it] it (fun i h=>h.IsTupleIter it a i) where
 mem:=by simp
 obj:=fun i h st b hb=>by
  have e:b=it:=by simpa using hb
  subst e
  obtain ⟨o,e,c,d⟩:=st
  exact ⟨o,e,fun v z=>by rw [d] at z; cases z⟩
 keep:=fun i h h' st k=>st.at fun o e=>k it (by simp) o e
 item:=by
  intro X hP hw hK hc i pins s σ H E I hf st hg
  subst hP hw hK
  obtain ⟨xs,x,hq,hx⟩:=hg
  obtain ⟨its,rv,p,hz⟩:=I.tuple hq
  obtain ⟨u,hu,ru⟩:=rv.get hx
  obtain ⟨f0,f1,f2,f3,f4,f5⟩:=hf it (by simp)
  refine wpAny_pyNext_tuple_item st (show s.heap.IsTuple a its.toArray from p) (x:=u) (by simpa using hu) fun h' st' sb=>?_
  have I1:Inv X pins σ H { s with heap:=h' }:=I.turned (t':=s.toks) (fun b o hb e=>(sb.2 b hb).trans e) f0 f1 f3 f4 f5
  obtain ⟨o,e,c,d⟩:=id st'
  exact ⟨u,rfl,Zpp (s:={ s with heap:=h' }) e c d (by decide) ⟨x,H,I1,ru,⟨rfl,fun ys hy=>by rw [I.tuple_inj hy hq]; exact hx⟩,st',fun b hb=>(hf b hb).1⟩⟩
 done:=by
  intro X hP hw hK hc i pins s σ H E I hf st hg
  subst hP hw hK
  obtain ⟨xs,hq,hx⟩:=hg
  obtain ⟨its,rv,p,hz⟩:=I.tuple hq
  obtain ⟨f0,f1,f2,f3,f4,f5⟩:=hf it (by simp)
  have hl:=rv.length
  exact wpAny_pyNext_tuple_end (I.ok.hd hc) st (show s.heap.IsTuple a its.toArray from p) (by simp; omega) fun h' eb=>⟨rfl,I.turned (t':=s.toks) (fun b o hb e=>eb b o hb e) f0 f1 f3 f4 f5⟩
 self:=fun _ _ _ _ _ st h=>wpAny_pyIter_tupleiter st h
theorem Zi4 {P:Program} {w:World} {K:PySem.W.Frag} {tg:Expr} (it:Addr) (lo:Int) (n:Nat):Turn P w K tg (Itr lo n) [it] it (fun i h=>IsRangeIter h it (lo + (i:Nat) * 1) ((n:Int) - (i:Nat)) 1) where
 mem:=by simp
 obj:=fun i h st b hb=>by
  have e:b=it:=by simpa using hb
  subst e
  exact ⟨_,st,fun v z=>by
   have z':Data.fields _=Data.cell v:=z
   cases z'⟩
 keep:=fun i h h' st k=>k it (by simp) _ st
 item:=by
  intro X hP hw hK hc i pins s σ H E I hf st hg
  subst hP hw hK
  obtain ⟨f0,f1,f2,f3,f4,f5⟩:=hf it (by simp)
  have W:=Walks.range (prog:=X.prog) (w:=X.w) (I.ok.hd hc) it lo 1 n
  refine W.item i s _ _ hg st fun v h' tk hv st' kk=>?_
  obtain ⟨t,rfl⟩:=hv
  have I1:Inv X pins σ H { s with heap:=h',toks:=tk }:=I.turned (fun b o hb e=>kk b o (by simpa using hb) e) f0 f1 f3 f4 f5
  refine ⟨_,rfl,Zpp (s:={ s with heap:=h',toks:=tk }) (n:="range_iterator") st' rfl rfl (by decide) ⟨.int (lo + i),H,I1,⟨t,?_⟩,⟨rfl,rfl⟩,st',fun b hb=>(hf b hb).1⟩⟩
  rw [Int.mul_one]
 done:=by
  intro X hP hw hK hc i pins s σ H E I hf st hg
  subst hP hw hK
  obtain ⟨f0,f1,f2,f3,f4,f5⟩:=hf it (by simp)
  exact wpAny_pyNext_range_end (I.ok.hd hc) st (by have:n<=i:=hg; omega) fun h' eb=>⟨rfl,I.turned (t':=s.toks) (fun b o hb e=>eb b o hb e) f0 f1 f3 f4 f5⟩
 self:=fun _ _ _ _ _ st h=>wpAny_pyIter_rangeiter st h
end L2
namespace L2
open PySem PySem.Spec PyProof.Rows
section
variable {X:Cx} {tg:Expr}
def iList (K:PySem.W.Frag) (tl:TE):TI:=fun σ H R=>tl σ H fun x H1=>∃ a,x=.ref a/\(∃ xs,SqL K H1 a xs)/\R (Itl K a) H1
def iTup (K:PySem.W.Frag) (tl:TE):TI:=fun σ H R=>tl σ H fun x H1=>∃ a,x=.ref a/\(∃ xs,SqT K H1 a xs)/\R (Itt K a) H1
theorem Zob {l:Expr} {tl:TE} (hl:PE X l tl):PI X tg l (iList X.K tl):=by
 intro pins s σ H R I h
 refine thn (hl pins s σ H _ I h) fun v s1 ⟨x,H1,I1,r1,q1⟩=>?_
 obtain ⟨a,e,⟨xs,hq⟩,q⟩:=q1
 subst e
 cases r1
 obtain ⟨its,rv,p,hz⟩:=I1.list hq
 refine wpAny_pyIter_list p.isList ?_
 refine ⟨s1.heap.objs.size,[s1.heap.objs.size],_,_,H1,rfl,I1.kept (t':=s1.toks) fun b o e=>Heap.get?_push_of_some _ e,Zkx a _,⟨_,Heap.get?_push_size _ rfl,rfl,rfl⟩,fun b hb=>?_,q⟩
 have e:b=s1.heap.objs.size:=by simpa using hb
 subst e
 exact I1.fpOk (Nat.le_refl _) (I1.hok.fresh (Nat.le_refl _))
theorem Zqj {l:Expr} {tl:TE} (hl:PE X l tl):PI X tg l (iTup X.K tl):=by
 intro pins s σ H R I h
 refine thn (hl pins s σ H _ I h) fun v s1 ⟨x,H1,I1,r1,q1⟩=>?_
 obtain ⟨a,e,⟨xs,hq⟩,q⟩:=q1
 subst e
 cases r1
 obtain ⟨its,rv,p,hz⟩:=I1.tuple hq
 refine wpAny_pyIter_tuple (show s1.heap.IsTuple a its.toArray from p) ?_
 refine ⟨s1.heap.objs.size,[s1.heap.objs.size],_,_,H1,rfl,I1.kept (t':=s1.toks) fun b o e=>Heap.get?_push_of_some _ e,Zis a _,⟨_,Heap.get?_push_size _ rfl,rfl,rfl⟩,fun b hb=>?_,q⟩
 have e:b=s1.heap.objs.size:=by simpa using hb
 subst e
 exact I1.fpOk (Nat.le_refl _) (I1.hok.fresh (Nat.le_refl _))
theorem range_it {pins:List (Addr × Obj)} {σ:St} {H:Hp} {s:Shared} {R:It->Hp->Prop} {E:Value->Shared->Prop} {lo hi:Int} {t u v:Tok} {tk:Nat} (I:Inv X pins σ H s) (h1:-(2 ^ 62)<=lo) (h2:lo < 2 ^ 62) (h3:-(2 ^ 62)<=hi) (h4:hi < 2 ^ 62)
  (q:R (Itr lo (hi - lo).toNat) H):wpAny (model X.prog X.w) X.A (pyIter (.ref s.heap.objs.size)) (PIE X pins σ tg R) E { s with heap:=s.heap.push { cls:=.type "range",data:=.fields #[.int lo t,.int hi u,.int 1 v] },toks:=tk }:=by
 refine wpAny_pyIter_range (IsRange.new ..) (small_one h1 h2 h3 h4) ?_
 have I1:Inv X pins σ H { s with heap:=s.heap.push { cls:=.type "range",data:=.fields #[.int lo t,.int hi u,.int 1 v] },toks:=tk }:=I.kept fun b o e=>Heap.get?_push_of_some _ e
 refine ⟨(s.heap.push { cls:=.type "range",data:=.fields #[.int lo t,.int hi u,.int 1 v] }).objs.size,[(s.heap.push { cls:=.type "range",data:=.fields #[.int lo t,.int hi u,.int 1 v] }).objs.size],_,_,H,rfl,
  I1.kept (t':=tk) fun b o e=>Heap.get?_push_of_some _ e,Zi4 _ lo (hi - lo).toNat,?_,fun b hb=>?_,q⟩
 ·have e1:lo + ((0:Nat):Int) * 1=lo:=by simp
  have e2:(((hi - lo).toNat:Nat):Int) - ((0:Nat):Int)=Builtin.Range.rangeSize lo hi 1:=by rw [rangeSize_one]; split <;> omega
  show IsRangeIter _ _ (lo + ((0:Nat):Int) * 1) ((((hi - lo).toNat:Nat):Int) - ((0:Nat):Int)) 1
  rw [e1,e2]
  exact Heap.get?_push_size _ rfl
 ·have e:b=(s.heap.push { cls:=.type "range",data:=.fields #[.int lo t,.int hi u,.int 1 v] }).objs.size:=by simpa using hb
  subst e
  exact I1.fpOk (Nat.le_refl _) (I1.hok.fresh (Nat.le_refl _))
def iRng1 (ta:TA):TI:=fun σ H R=>ta σ H fun vs H1=>∃ j:Int,vs=[.int j] /\ -(2 ^ 62)<=j/\j < 2 ^ 62/\R (Itr 0 j.toNat) H1
theorem Zbz {a:Expr} {ta:TA} {p pos:Pos} (hg:Gl X "range") (hm:X.mg "range" = none) (ha:PA X [a] ta) (hs:starEach [a] X.env=[(false,eval a X.env)]:=by rfl):PI X tg (.Call (.Name "range" p) [a] [] pos) (iRng1 ta):=by
 intro pins s σ H R I h
 refine Call_ (Zet I hg hm boot_range (PyProof.Rows.callWith_type1 (thn (ha pos pins s σ H _ I h) fun us s1 ⟨vs,H1,I1,r1,q1⟩=>?_) hs rfl))
 obtain ⟨j,e,q1,q2,q⟩:=q1
 subst e
 cases r1 with
 | cons r rr=>
  cases rr
  obtain ⟨t,rfl⟩:=r
  exact call_range_1 (range_it I1 (by omega) (by omega) q1 q2 (by simpa using q))
def tFor (wi:TI) (g:TG) (tb:TS):TS:=fun D σ H=>wi σ H fun J H1=>∃ W:Nat->Nat->St->Hp->Prop,(∃ m,W 0 m σ H1)/\∀ i m σ H,W i m σ H →
 (J.stop i H/\D.nx σ H)\/(J.go i H/\∃ N:St->Hp->Prop,(∀ σ' H',N σ' H' -> ∃ m',m' < m/\W (i + 1) m' σ' H')/\∀ x H',J.yld i H x H' -> g x σ H' fun σ2 H2=>tb { D with nx:=N,ct:=N,bk:=D.nx } σ2 H2)
def pinsAt (fp:List Addr) (h:Heap):List (Addr × Obj):=fp.filterMap fun b=>(h.get? b).map fun o=>(b,o)
theorem Zck {fp:List Addr} {h:Heap} {b:Addr} {o:Obj} (hb:b ∈ fp) (e:h.get? b=some o):(b,o) ∈ pinsAt fp h:=List.mem_filterMap.mpr ⟨b,hb,by rw [e]; rfl⟩
theorem Zjj {fp:List Addr} {h:Heap} {p:Addr × Obj} (hp:p ∈ pinsAt fp h):p.1 ∈ fp/\h.get? p.1=some p.2:=by
 obtain ⟨b,hb,e⟩:=List.mem_filterMap.mp hp
 cases q:h.get? b with
 | none=>rw [q] at e; cases e
 | some o=>
  rw [q] at e
  have e':(b,o)=p:=Option.some.inj e
  subst e'
  exact ⟨hb,q⟩
theorem Inv.pinned {pins:List (Addr × Obj)} {σ:St} {H:Hp} {s:Shared} {fp:List Addr} (I:Inv X pins σ H s) (hf:∀ b ∈ fp,FpOk X pins H b) (ho:∀ b ∈ fp,∃ o,s.heap.get? b=some o/\∀ v,o.data ≠ .cell v):Inv X (pins ++ pinsAt fp s.heap) σ H s:=
 I.pins_of fun p hp=>(List.mem_append.mp hp).elim (fun z=>I.pin p (List.mem_append_right _ z)) fun z=>by
  obtain ⟨hb,e⟩:=Zjj z
  obtain ⟨f0,f1,f2,_⟩:=hf p.1 hb
  obtain ⟨o,e',d⟩:=ho p.1 hb
  rw [e] at e'; cases e'
  exact ⟨e,f0,f1,f2,d⟩
theorem Inv.unpinned {pins pl:List (Addr × Obj)} {σ:St} {H:Hp} {s:Shared} (I:Inv X (pins ++ pl) σ H s):Inv X pins σ H s:=I.pins_of fun p hp=>I.pin p (List.mem_append_right _ (List.mem_append_left _ hp))
theorem Zd9 {iter:Expr} {body:List Stmt} {wi:TI} {g:TG} {tb:TS} {pos:Pos} (hp:PassesOwn (model X.prog X.w) X.A X.env X.xe) (hc:X.calm=true) (hi:PI X tg iter wi) (hg:PG X tg g) (hb:PSs X body tb)
  (hs:∀ x,foldedSetIterable iter X.env x=pure x:=by intro _; rfl):PS X (.For tg iter body [] pos) (tFor wi g tb):=by
 intro pins s σ H D I h
 refine wpAny_For (thn (hi pins s σ H _ I h) fun v s1 h1=>thn h1 fun itv s2 h2=>?_) hs
 obtain ⟨it,fp,tn,J,H2,e,I2,T,st2,f2,W,⟨m0,w0⟩,turn⟩:=h2
 subst e
 -- what stays true of the iterator's objects through the loop
 have stat:∀ {H':Hp},(∀ b ∈ fp,H' b=none)->∀ b ∈ fp,FpOk X pins H' b:=fun hn b hb=>⟨hn b hb,(f2 b hb).2⟩
 refine codeAny_forLoop_any (fun n s'=>∃ i σ' H',Inv X pins σ' H' s' /\ tn i s'.heap/\(∀ b ∈ fp,H' b=none)/\W i n σ' H') ?_ m0 ⟨0,σ,H2,I2,st2,fun b hb=>(f2 b hb).1,w0⟩
 rintro n s3 ⟨i,σ3,H3,I3,st3,fr3,w3⟩
 rcases turn i n σ3 H3 w3 with ⟨stop,qn⟩ | ⟨go,N,hN,step⟩
 ·refine wpAny_passesOwn hp (thn (T.done X rfl rfl rfl hc i pins s3 σ3 H3 X.xe I3 (stat fr3) st3 stop) fun r s4 ⟨hr,I4⟩=>?_)
  subst hr
  exact wpAny_execs_nil ⟨σ3,H3,I4,qn⟩
 ·refine wpAny_passesOwn hp (thn (T.item X rfl rfl rfl hc i pins s3 σ3 H3 X.xe I3 (stat fr3) st3 go) fun r s4 ⟨u,hr,h4⟩=>?_)
  subst hr
  refine wpAny_passesOwn hp (thn h4 fun _ s5 ⟨x,H5,I5,r5,y5,st5,fr5⟩=>?_)
  have I5':=I5.pinned (stat fr5) (T.obj _ _ st5)
  refine wpAny_passesOwn hp (thn (hg _ s5 σ3 H5 x u _ I5' r5 (step x H5 y5)) fun _ s6 ⟨σ6,H6,I6,q6⟩=>?_)
  refine wpAny_passesOwn hp (thn (hb _ s6 σ6 H6 _ I6 q6) fun f s7 q7=>?_)
  have again:∀ {σ7:St} {H7:Hp},Inv X (pins ++ pinsAt fp s5.heap) σ7 H7 s7->N σ7 H7->∃ m,m < n/\∃ i σ' H',Inv X pins σ' H' s7/\tn i s7.heap/\(∀ b ∈ fp,H' b=none)/\W i m σ' H':=fun {σ7 H7} I7 n7=>by
   obtain ⟨m',hm,w7⟩:=hN σ7 H7 n7
   refine ⟨m',hm,i + 1,σ7,H7,I7.unpinned,T.keep _ _ _ st5 fun b hb o e=>(I7.pin (b,o) (List.mem_append_right _ (List.mem_append_right _ (Zck hb e)))).1,fun b hb=>?_,w7⟩
   obtain ⟨o,e,d⟩:=T.obj _ _ st5 b hb
   exact (I7.pin (b,o) (List.mem_append_right _ (List.mem_append_right _ (Zck hb e)))).2.1
  cases f with
  | next=>obtain ⟨σ7,H7,I7,n7⟩:=q7; exact again I7 n7
  | cont=>obtain ⟨σ7,H7,I7,n7⟩:=q7; exact again I7 n7
  | brk=>obtain ⟨σ7,H7,I7,q7⟩:=q7; exact ⟨σ7,H7,I7.unpinned,q7⟩
  | ret v=>obtain ⟨x7,σ7,H7,I7,r7,q7⟩:=q7; exact ⟨x7,σ7,H7,I7.unpinned,r7,q7⟩
end
end L2
namespace L2
open PySem PySem.Spec PyProof.Rows
abbrev R2:=V->V->Hp->VK->Prop
def OpR (X:Cx) (f:Value->Value->Sem Value) (r:R2):Prop:=
 ∀ (pins:List (Addr × Obj)) (s:Shared) (σ:St) (H:Hp) (x y:V) (v u:Value) (Q:VK),Inv X pins σ H s->RelV x v->RelV y u->r x y H Q →
  wpAny (model X.prog X.w) X.A (f v u) (EP X pins σ Q) X.xe s
def CallR (X:Cx) (f:Value) (r:List V->Hp->VK->Prop):Prop:=
 ∀ (pins:List (Addr × Obj)) (s:Shared) (σ:St) (H:Hp) (xs:List V) (us:List Value) (Q:VK),Inv X pins σ H s->Vals xs us->r xs H Q →
  wpAny (model X.prog X.w) X.A (call f us) (EP X pins σ Q) X.xe s
def TruR (X:Cx) (r:V->Hp->(Bool->Hp->Prop)->Prop):Prop:=
 ∀ (pins:List (Addr × Obj)) (s:Shared) (σ:St) (H:Hp) (x:V) (v:Value) (Q:Bool->Hp->Prop),Inv X pins σ H s->RelV x v->r x H Q →
  wpAny (model X.prog X.w) X.A (truthy v) (TP X pins σ Q) X.xe s
def tOp (r:R2) (ta tb:TE):TE:=fun σ H Q=>ta σ H fun x H1=>tb σ H1 fun y H2=>r x y H2 Q
def tUn (r:V->Hp->VK->Prop) (ta:TE):TE:=fun σ H Q=>ta σ H fun x H1=>r x H1 Q
def rI (C:Int->Int->Prop) (g:Int->Int->V):R2:=fun x y H Q=>∃ i j,x=.int i/\y=.int j/\C i j/\Q (g i j) H
def rI0 (g:Int->Int->V):R2:=fun x y H Q=>∃ i j,x=.int i/\y=.int j/\Q (g i j) H
section
variable {X:Cx} {a b c:Expr} {ta tb tc:TE} {pos:Pos}
theorem binT (ha:PE X a ta) (hb:PE X b tb) {pins:List (Addr × Obj)} {s:Shared} {σ:St} {H:Hp} {R:V->V->Hp->Prop} (I:Inv X pins σ H s)
  (h:ta σ H fun x H1=>tb σ H1 fun y H2=>R x y H2) {Q:Value->Shared->Prop} {f:Value->Value->Sem Value}
  (hf:∀ v u s2 x y H2,Inv X pins σ H2 s2->RelV x v->RelV y u->R x y H2->wpAny (model X.prog X.w) X.A (f v u) Q X.xe s2) :
  wpAny (model X.prog X.w) X.A (eval a X.env) (fun v s₁=>wpAny (model X.prog X.w) X.A (eval b X.env) (fun u s₂=>wpAny (model X.prog X.w) X.A (f v u) Q X.xe s₂) X.xe s₁) X.xe s:=by
 refine thn (ha pins s σ H _ I h) fun v s1 ⟨x,H1,I1,r1,q1⟩=>?_
 refine thn (hb pins s1 σ H1 _ I1 q1) fun u s2 ⟨y,H2,I2,r2,q2⟩=>?_
 exact hf v u s2 x y H2 I2 r1 r2 q2
theorem Zaq {op:Operator} {r:R2} (ho:OpR X (binaryOp op) r) (ha:PE X a ta) (hb:PE X b tb):PE X (.BinOp a op b pos) (tOp r ta tb):=by
 intro pins s σ H Q I h
 exact wpAny_BinOp (binT ha hb I h fun v u s2 x y H2 I2 rx ry q=>ho pins s2 σ H2 x y v u Q I2 rx ry q)
theorem opI {f:Value->Value->Sem Value} {C:Int->Int->Prop} {g:Int->Int->Int}
  (rule:∀ (i j:Int) (t u:Tok) (s:Shared) (Q:Value->Shared->Prop) (E:Value->Shared->Prop),C i j->Q (.int (g i j) s.toks) { s with toks:=s.toks + 1 } -> wpAny (model X.prog X.w) X.A (f (.int i t) (.int j u)) Q E s) :
  OpR X f (rI C fun i j=>.int (g i j)):=by
 intro pins s σ H x y v u Q I rx ry h
 obtain ⟨i,j,rfl,rfl,hc,q⟩:=h
 obtain ⟨t,rfl⟩:=rx
 obtain ⟨t',rfl⟩:=ry
 exact rule i j t t' s _ _ hc ⟨.int (g i j),H,I.tok _,⟨_,rfl⟩,q⟩
theorem opI0 {f:Value->Value->Sem Value} {g:Int->Int->Int}
  (rule:∀ (i j:Int) (t u:Tok) (s:Shared) (Q:Value->Shared->Prop) (E:Value->Shared->Prop),Q (.int (g i j) s.toks) { s with toks:=s.toks + 1 } -> wpAny (model X.prog X.w) X.A (f (.int i t) (.int j u)) Q E s) :
  OpR X f (rI0 fun i j=>.int (g i j)):=by
 intro pins s σ H x y v u Q I rx ry h
 obtain ⟨i,j,rfl,rfl,q⟩:=h
 obtain ⟨t,rfl⟩:=rx
 obtain ⟨t',rfl⟩:=ry
 exact rule i j t t' s _ _ ⟨.int (g i j),H,I.tok _,⟨_,rfl⟩,q⟩
theorem opB0 {f:Value->Value->Sem Value} {g:Int->Int->Bool}
  (rule:∀ (i j:Int) (t u:Tok) (s:Shared) (Q:Value->Shared->Prop) (E:Value->Shared->Prop),Q (.bool (g i j)) s->wpAny (model X.prog X.w) X.A (f (.int i t) (.int j u)) Q E s) :
  OpR X f (rI0 fun i j=>.bl (g i j)):=by
 intro pins s σ H x y v u Q I rx ry h
 obtain ⟨i,j,rfl,rfl,q⟩:=h
 obtain ⟨t,rfl⟩:=rx
 obtain ⟨t',rfl⟩:=ry
 exact rule i j t t' s _ _ ⟨.bl (g i j),H,I,rfl,q⟩
def CDiv (i j:Int):Prop:=0 < j/\j < 1073741824
def CPow (i j:Int):Prop:=0<=j/\j<=1000000/\i.natAbs < 2 ^ 64
def CMul (i j:Int):Prop:=(-(2 ^ 64) < i/\i < 2 ^ 64)\/(-(2 ^ 64) < j/\j < 2 ^ 64)
theorem CMul.ok {i j:Int} (h:CMul i j):IntMulOk i j:=by
 rcases h with ⟨h1,h2⟩ | ⟨h1,h2⟩
 ·exact .of_left (intBits_le_64 h1 h2)
 ·exact .of_right (intBits_le_64 h1 h2)
theorem Zrr:OpR X (binaryOp .Add) (rI0 fun i j=>.int (i + j)):=opI0 fun _ _ _ _ _ _ _ q=>add_int q
theorem Zde:OpR X (binaryOp .Sub) (rI0 fun i j=>.int (i - j)):=opI0 fun _ _ _ _ _ _ _ q=>sub_int q
theorem Zdf:OpR X (binaryOp .Mult) (rI CMul fun i j=>.int (i * j)):=opI fun _ _ _ _ _ _ _ hc q=>mul_int q hc.ok
theorem Zd8:OpR X (binaryOp .FloorDiv) (rI CDiv fun i j=>.int (i / j)):=opI fun i j _ _ _ _ _ hc q=>by
 have h1:(0:Int) < j:=hc.1
 have h2:j < 1073741824:=hc.2
 exact floordiv_int (by omega) (by rw [Int.fdiv_eq_ediv_of_nonneg i (by omega)]; exact q) (.inl (PyProof.noPylong_small (by omega)))
theorem Zbd:OpR X (binaryOp .Mod) (rI (fun _ j=>0 < j) fun i j=>.int (i % j)):=opI fun i j _ _ _ _ _ hc q=>by
 have h1:(0:Int) < j:=hc
 exact mod_int' (by omega) (by rw [Int.fmod_eq_emod_of_nonneg i (by omega)]; exact q)
theorem Zp3:OpR X (binaryOp .Pow) (rI CPow fun i j=>.int (i ^ j.toNat)):=opI fun _ _ _ _ _ _ _ hc q=>pow_int_small hc.1 hc.2.1 hc.2.2 q
theorem Znj:OpR X (binaryOp .BitXor) (rI0 fun i j=>.int (Builtin.bitXor i j)):=opI0 fun _ _ _ _ _ _ _ q=>xor_int q
end
def scal:V->V->Bool
 | .non,.non=>true | .non,.int _=>true | .int _,.non=>true | .non,.bl _=>true | .bl _,.non=>true | .non,.str _=>true | .str _,.non=>true
 | .int _,.int _=>true | .bl _,.bl _=>true | .str _,.str _=>true | .byt _,.byt _=>true
 | .int _,.str _=>true | .str _,.int _=>true | .bl _,.str _=>true | .str _,.bl _=>true
 | _,_=>false
def rEq:R2:=fun x y H Q=>scal x y=true/\Q (.bl (decide (x=y))) H
def rNe:R2:=fun x y H Q=>scal x y=true/\Q (.bl (!decide (x=y))) H
theorem Zgz {i j:Int}:decide (V.int i=V.int j)=(i == j):=by
 rw [Bool.eq_iff_iff]
 simp
theorem Zq9 {i j:Bool}:decide (V.bl i=V.bl j)=(i == j):=by
 rw [Bool.eq_iff_iff]
 simp
theorem Zn1 {i j:Str}:decide (V.str i=V.str j)=(i == j):=by
 rw [Bool.eq_iff_iff]
 simp
theorem Zoe {i j:Array UInt8}:decide (V.byt i=V.byt j)=(i.toList == j.toList):=by
 rw [Bool.eq_iff_iff]
 cases i
 cases j
 simp
section
variable {X:Cx} {a b c:Expr} {ta tb tc:TE} {pos:Pos}
theorem Zbj {pins:List (Addr × Obj)} {σ:St} {H:Hp} {s:Shared} {Q:VK} {k k':Bool} (I:Inv X pins σ H s) (q:Q (.bl k) H) (e:k=k'):EP X pins σ Q (.bool k') s:=by
 subst e
 exact ⟨.bl k,H,I,rfl,q⟩
theorem Zsd:OpR X (compareOp .Eq) rEq:=by
 intro pins s σ H x y v u Q I rx ry h
 obtain ⟨hs,q⟩:=h
 cases x with
 | non=>
  cases rx
  cases y with
  | non=>cases ry; exact PySem.EqNone.eq_none_none (Zbj I q (by simp))
  | bl j=>cases ry; exact PySem.EqNone.eq_none_bool (Zbj I q (by simp))
  | int j=>obtain ⟨t',rfl⟩:=ry; exact PySem.EqNone.eq_none_int (Zbj I q (by simp))
  | str j=>obtain ⟨t',rfl⟩:=ry; exact PySem.EqNone.eq_none_str (Zbj I q (by simp))
  | _=>exact absurd (show false=true from hs) Bool.false_ne_true
 | bl i=>
  cases rx
  cases y with
  | non=>cases ry; exact PySem.EqNone.eq_bool_none (Zbj I q (by simp))
  | bl j=>cases ry; exact eq_bool (Zbj I q Zq9)
  | str j=>obtain ⟨t',rfl⟩:=ry; exact PySem.EqMixed.eq_bool_str (Zbj I q (by simp))
  | _=>exact absurd (show false=true from hs) Bool.false_ne_true
 | int i=>
  obtain ⟨t,rfl⟩:=rx
  cases y with
  | non=>cases ry; exact PySem.EqNone.eq_int_none (Zbj I q (by simp))
  | int j=>obtain ⟨t',rfl⟩:=ry; exact eq_int (Zbj I q Zgz)
  | str j=>obtain ⟨t',rfl⟩:=ry; exact PySem.EqMixed.eq_int_str (Zbj I q (by simp))
  | _=>exact absurd (show false=true from hs) Bool.false_ne_true
 | str i=>
  obtain ⟨t,rfl⟩:=rx
  cases y with
  | non=>cases ry; exact PySem.EqNone.eq_str_none (Zbj I q (by simp))
  | bl j=>cases ry; exact PySem.EqMixed.eq_str_bool (Zbj I q (by simp))
  | int j=>obtain ⟨t',rfl⟩:=ry; exact PySem.EqMixed.eq_str_int (Zbj I q (by simp))
  | str j=>obtain ⟨t',rfl⟩:=ry; exact eq_str (Zbj I q Zn1)
  | _=>exact absurd (show false=true from hs) Bool.false_ne_true
 | byt i=>
  obtain ⟨t,rfl⟩:=rx
  cases y with
  | byt j=>obtain ⟨t',rfl⟩:=ry; exact PySem.W.eq_bytes (Zbj I q Zoe)
  | _=>exact absurd (show false=true from hs) Bool.false_ne_true
 | _=>cases y <;> exact absurd (show false=true from hs) Bool.false_ne_true
theorem Zqy:OpR X (compareOp .Lt) (rI0 fun i j=>.bl (decide (i < j))):=opB0 fun _ _ _ _ _ _ _ q=>lt_int q
theorem Zpu:OpR X (compareOp .Gt) (rI0 fun i j=>.bl (decide (j < i))):=opB0 fun _ _ _ _ _ _ _ q=>gt_int q
theorem Zsf:OpR X (compareOp .GtE) (rI0 fun i j=>.bl (decide (j<=i))):=opB0 fun _ _ _ _ _ _ _ q=>ge_int q
theorem OpR.or {f:Value->Value->Sem Value} {r r':R2} (h:OpR X f r) (h':OpR X f r'):OpR X f (fun x y H Q=>r x y H Q\/r' x y H Q):=by
 intro pins s σ H x y v u Q I rx ry q
 rcases q with q | q
 ·exact h pins s σ H x y v u Q I rx ry q
 ·exact h' pins s σ H x y v u Q I rx ry q
theorem nomark (b:Expr) {op:CmpOp} (h:op ≠ .In:=by decide) (h2:op ≠ .NotIn:=by decide):behindInMarks op b=false:=by
 have e1:(op == CmpOp.In)=false:=by cases op <;> first | rfl | exact absurd rfl h
 have e2:(op == CmpOp.NotIn)=false:=by cases op <;> first | rfl | exact absurd rfl h2
 cases b <;> simp [behindInMarks,e1,e2]
theorem Zke {op:CmpOp} {r:R2} (ho:OpR X (compareOp op) r) (ha:PE X a ta) (hb:PE X b tb) (hm:behindInMarks op b=false):PE X (.Compare a [op] [b] pos) (tOp r ta tb):=by
 intro pins s σ H Q I h
 exact wpAny_Compare1 (binT ha hb I h fun v u s2 x y H2 I2 rx ry q=>ho pins s2 σ H2 x y v u Q I2 rx ry q) hm
def tTest (t:TE):TT:=fun σ H Q=>t σ H fun x H'=>∃ k,x=.bl k/\Q k H'
theorem Za0 {op:CmpOp} {r:R2} (ho:OpR X (compareOp op) r) (ha:PE X a ta) (hb:PE X b tb) (hm:behindInMarks op b=false):PT X (.Compare a [op] [b] pos) (tTest (tOp r ta tb)):=by
 intro pins s σ H Q I h
 refine wpAny_isTrue_Compare1 (thn (ha pins s σ H _ I h) fun v s1 ⟨x,H1,I1,r1,q1⟩=>thn (hb pins s1 σ H1 _ I1 q1) fun u s2 ⟨y,H2,I2,r2,q2⟩=>
  thn (ho pins s2 σ H2 x y v u _ I2 r1 r2 q2) fun c s3 ⟨z,H3,I3,r3,k,e,q3⟩=>?_) hm
 subst e
 cases r3
 exact wpAny_truthy_bool ⟨H3,I3,q3⟩
def TruV (K:PySem.W.Frag) (x:V) (H:Hp) (k:Bool):Prop:=
 match x with
 | .non=>k=false
 | .bl b=>k=b
 | .int i=>k=(i != 0)
 | .str y=>y.length<=sizeLine/\k=((y.length:Int) != 0)
 | .byt y=>y.size<=sizeLine/\k=((y.size:Int) != 0)
 | .ref p=>(∃ xs,SqL K H p xs/\k = !xs.isEmpty)\/(∃ xs,SqT K H p xs/\k = !xs.isEmpty)\/∃ kvs,H p=some (.dK kvs)/\k = !kvs.isEmpty
 | _=>False
theorem Ziq {κ:Type} {kvs:List (κ × V)} {vs:List (κ × Value)} (r:KV kvs vs):(!vs.isEmpty) = !kvs.isEmpty:=by
 cases r <;> rfl
theorem Zew {xs:List V} {its:List Value} (r:Vals xs its):(!its.toArray.isEmpty) = !xs.isEmpty:=by
 cases r <;> simp
theorem line63:(sizeLine:Nat) < 2 ^ 63:=by rw [sizeLine_eq]; decide
theorem Zqe:TruR X (fun x H Q=>∃ k,TruV X.K x H k/\Q k H):=by
 intro pins s σ H x v Q I rx h
 obtain ⟨k,e,q⟩:=h
 have hl:=line63
 have hs:sizeLine=16777216:=sizeLine_eq
 cases x with
 | non=>
  cases rx
  have e':k=false:=e
  subst e'
  exact truthy_none ⟨H,I,q⟩
 | bl b=>
  cases rx
  have e':k=b:=e
  subst e'
  exact wpAny_truthy_bool ⟨H,I,q⟩
 | int i=>
  obtain ⟨t,rfl⟩:=rx
  have e':k=(i != 0):=e
  subst e'
  exact PySem.P.truthy_int ⟨H,I,q⟩
 | str y=>
  obtain ⟨t,rfl⟩:=rx
  obtain ⟨hy,e'⟩:y.length<=sizeLine/\k=((y.length:Int) != 0):=e
  subst e'
  exact PySem.P.truthy_str (by omega) ⟨H,I.tok _,q⟩
 | byt y=>
  obtain ⟨t,rfl⟩:=rx
  obtain ⟨hy,e'⟩:y.size<=sizeLine/\k=((y.size:Int) != 0):=e
  subst e'
  exact PySem.W.truthy_bytes (by omega) ⟨H,I.tok _,q⟩
 | ref p=>
  cases rx
  have e':(∃ xs,SqL X.K H p xs/\k = !xs.isEmpty)\/(∃ xs,SqT X.K H p xs/\k = !xs.isEmpty)\/∃ kvs,H p=some (.dK kvs)/\k = !kvs.isEmpty:=e
  rcases e' with ⟨xs,hx,e'⟩ | ⟨xs,hx,e'⟩ | ⟨kvs,hx,e'⟩
  ·subst e'
   obtain ⟨its,r,pl,hz⟩:=I.list hx
   have hlen:=r.length
   exact wpAny_truthy_list pl.isList (by simp only [List.size_toArray]; omega) ⟨H,I.tok _,by rw [Zew r]; exact q⟩
  ·subst e'
   obtain ⟨its,r,pl,hz⟩:=I.tuple hx
   have hlen:=r.length
   exact truthy_tuple pl (by simp only [List.size_toArray]; omega) ⟨H,I.tok _,by rw [Zew r]; exact q⟩
  ·subst e'
   obtain ⟨hz,hS,vs,r,m⟩:kvs.length<=sizeLine/\(p == sysModules)=false/\∃ vs,KV kvs vs/\s.heap.DictOf (mixKind X.prog X.w) p vs:=I.hok p _ hx
   have hlen:kvs.length=vs.length:=Paired.length r
   exact wpAny_truthy_dict hS m (by omega) ⟨H,I.tok _,by rw [Ziq r]; exact q⟩
 | _=>exact (show False from e).elim
theorem Zmc (ha:PE X a ta) (he:∀ whole,isTrue a X.env whole=(do let v ← whole; standAt a.pos; holding [v] (truthy v))) :
  PT X a (fun σ H Q=>ta σ H fun x H'=>∃ k,TruV X.K x H' k/\Q k H'):=by
 intro pins s σ H Q I h
 exact isTrue_plain (thn (ha pins s σ H _ I h) fun v s1 ⟨x,H1,I1,r1,q1⟩=>Zqe pins s1 σ H1 x v Q I1 r1 q1) (he _)
theorem vals1 {x:V} {us:List Value} (r:Vals [x] us):∃ u,us=[u]/\RelV x u:=by
 cases r with
 | cons r1 r2=>cases r2; exact ⟨_,rfl,r1⟩
theorem vals2 {x y:V} {us:List Value} (r:Vals [x,y] us):∃ u w',us=[u,w']/\RelV x u/\RelV y w':=by
 cases r with
 | cons r1 r2=>
  cases r2 with
  | cons r3 r4=>cases r4; exact ⟨_,_,rfl,r1,r3⟩
theorem Zfo:CallR X (.builtin "abs") (fun xs H Q=>∃ i,xs=[.int i]/\Q (.int (if i < 0 then -i else i)) H):=by
 intro pins s σ H xs us Q I r h
 obtain ⟨i,rfl,q⟩:=h
 obtain ⟨u,rfl,t,rfl⟩:=vals1 r
 exact call_abs_int fun u tk=>⟨.int (if i < 0 then -i else i),H,I.tok _,⟨_,rfl⟩,q⟩
theorem Zj9 (hc:X.calm=true):CallR X (.builtin "max") (fun xs H Q=>∃ i j,xs=[.int i,.int j]/\Q (.int (if j > i then j else i)) H):=by
 intro pins s σ H xs us Q I r h
 obtain ⟨i,j,rfl,q⟩:=h
 obtain ⟨u,w',rfl,⟨t,rfl⟩,⟨t',rfl⟩⟩:=vals2 r
 refine max_two_ints (I.ok.hd hc) fun h' tk k=>⟨_,H,I.kept k,?_,q⟩
 by_cases hj:j > i
 ·rw [if_pos hj,if_pos hj]; exact ⟨_,rfl⟩
 ·rw [if_neg hj,if_neg hj]; exact ⟨_,rfl⟩
theorem Zgj (hc:X.calm=true):CallR X (.builtin "min") (fun xs H Q=>∃ i j,xs=[.int i,.int j]/\Q (.int (if j < i then j else i)) H):=by
 intro pins s σ H xs us Q I r h
 obtain ⟨i,j,rfl,q⟩:=h
 obtain ⟨u,w',rfl,⟨t,rfl⟩,⟨t',rfl⟩⟩:=vals2 r
 refine min_two_ints (I.ok.hd hc) fun h' tk k=>⟨_,H,I.kept k,?_,q⟩
 by_cases hj:j < i
 ·rw [if_pos hj,if_pos hj]; exact ⟨_,rfl⟩
 ·rw [if_neg hj,if_neg hj]; exact ⟨_,rfl⟩
end
end L2
namespace L2
open PySem PySem.Spec PyProof.Rows
structure ObjM (h:Heap) (x dx C:Addr) (mA:Str->Option Value):Prop where
 obj:h.get? x=some (PySem.W.instObj C dx)
 ns:h.Ns1 dx mA
 ne:dx ≠ x
theorem Zlj {h:Heap} {dx:Addr} {mA:Str->Option Value} (n:h.Ns1 dx mA):∃ od,h.get? dx=some od/\∀ name,PySem.W.lookIn name od=some (mA name):=by
 obtain ⟨o,es,ep,ho,hd,hk,_,hm⟩:=n
 refine ⟨o,ho,fun name=>?_⟩
 have e:=hm name
 unfold nsFind findBy at e
 rw [<- Array.find?_toList] at e
 unfold PySem.W.lookIn
 rw [hd]
 dsimp only
 split
 ·rename_i y q
  rw [q] at e
  exact congrArg some e
 ·rename_i q
  rw [q] at e
  have a:es.toList.any (·.refKey)=false:=by
   rw [List.any_eq_false]
   intro y hy
   obtain ⟨z,t,hkey⟩:=hk y (Array.mem_toList_iff.mp hy)
   simp [DictEntry.refKey,hkey]
  have a':¬ es.toList.any (·.refKey)=true:=by rw [a]; exact Bool.false_ne_true
  rw [if_neg a']
  exact congrArg some e
theorem ObjM.look {h:Heap} {x dx C:Addr} {mA:Str->Option Value} (I:ObjM h x dx C mA):∃ od,PySem.W.InstAt h x (PySem.W.instObj C dx) C (some od)/\∀ name,PySem.W.lookIn name od=some (mA name):=
 let ⟨od,ho,hl⟩:=Zlj I.ns
 ⟨od,⟨I.obj,rfl,rfl,ho⟩,hl⟩
theorem RelO.some_of {v:V} {o:Option Value} (r:RelO (some v) o):∃ u,o=some u/\RelV v u:=by
 cases o with
 | none=>exact (show False from r).elim
 | some u=>exact ⟨u,rfl,r⟩
section
variable {P:Program} {w:World} {H H':Hp} {h h':Heap} {a C dx:Addr} {fs fs':List (Str × V)}
theorem Zo8 (hok:HOk P w H h) (e:H a=some (.ins C dx fs)):∃ mA,ObjM h a dx C mA/\(∀ f,RelO (fs.lookup f) (mA f))/\PySem.Within mA (fs.map (·.1))/\fs.length<=1000/\H dx=some (.own a):=by
 obtain ⟨d,z,ne,ob,mA,n,r,q⟩:=(show ObjOk P w H h a (.ins C dx fs) from hok a _ e)
 exact ⟨mA,⟨ob,n,ne⟩,r,q,z,d⟩
end
structure Cls (K:PySem.W.Frag) (C:Addr):Prop where
 pg:PySem.W.plainGet K C Str.empty=true
 hd:PySem.W.hasDictIn K C=true
 po:PySem.W.plainOver K C=true
 sa:PySem.W.findIn K (.ref C) "__setattr__" = some (some (.builtin "object.__setattr__"))
theorem Cls.get {K:PySem.W.Frag} {C:Addr} (c:Cls K C) (f:Str):PySem.W.plainGet K C f=true:=c.pg
section
variable {X:Cx} {pins:List (Addr × Obj)} {σ:St} {H:Hp} {s:Shared} {a C dx:Addr} {fs:List (Str × V)} {f:Str} {v:V} {A:Around} {E:Value->Shared->Prop}
end
section
variable {X:Cx} {pins:List (Addr × Obj)} {σ:St} {H:Hp} {s:Shared} {A:Around} {E:Value->Shared->Prop} {Q:Value->Shared->Prop} {c:Value} {b:Bool}
inductive TyOf (K:PySem.W.Frag) (H:Hp):V->Value->Prop where
 | non:TyOf K H .non (.type "NoneType")
 | bl (x:Bool):TyOf K H (.bl x) (.type "bool")
 | int (i:Int):TyOf K H (.int i) (.type "int")
 | str (x:Str):TyOf K H (.str x) (.type "str")
 | flt (x:UInt64):TyOf K H (.flt x) (.type "float")
 | lst {a:Addr} {xs:List V} (e:H a=some (.lst xs)):TyOf K H (.ref a) (.type "list")
 | frz {a:Addr} {o:Obj} {xs:List V} (e:H a=some (.frz o (.lst xs))):TyOf K H (.ref a) (.type "list")
 | tup {a:Addr} {xs:List V} (e:H a=some (.tup xs)):TyOf K H (.ref a) (.type "tuple")
 | dK {a:Addr} {kvs:List (Key × V)} (e:H a=some (.dK kvs)):TyOf K H (.ref a) (.type "dict")
 | dT {a:Addr} {kvs:List (List Key × V)} (e:H a=some (.dT kvs)):TyOf K H (.ref a) (.type "dict")
 | ins {a C dx:Addr} {fs:List (Str × V)} (e:H a=some (.ins C dx fs)) (cl:Cls K C) (ha:PySem.W.findIn K (.ref C) "__class__" = some (some (.builtin "object.__class__")))
   (hn:PySem.W.specialIn K (.builtin "object.__class__") "__get__" = some (some (.builtin "getset_descriptor.__get__"))) (htk:PySem.W.takesIn K (.builtin "object.__class__")=some true)
   (hm:PySem.W.mroIn K C (.type "object")=some true):TyOf K H (.ref a) (.ref C)
theorem Zk5 {x:V} {u t:Value} (I:Inv X pins σ H s) (rx:RelV x u) (ty:TyOf X.K H x t) (e:PySem.W.kitOne X.K t c=some b) (h:∀ tk,Q (.bool b) { s with toks:=tk }) :
  wpAny (model X.prog X.w) A (call (.builtin "isinstance") [u,c]) Q E s:=by
 cases ty with
 | non=>cases (show u=Value.none from rx); exact PySem.W.kia_one PySem.W.kitx_none I.kIn True.intro e (fun z=>nomatch z) h
 | bl y=>cases (show u=Value.bool y from rx); exact PySem.W.kia_one PySem.W.kitx_bool I.kIn True.intro e (fun z=>nomatch z) h
 | int i=>obtain ⟨t,q⟩:=(show ∃ t,u=Value.int i t from rx); cases q; exact PySem.W.kia_one PySem.W.kitx_int I.kIn True.intro e (fun z=>nomatch z) h
 | str y=>obtain ⟨t,q⟩:=(show ∃ t,u=Value.str y t from rx); cases q; exact PySem.W.kia_one PySem.W.kitx_str I.kIn True.intro e (fun z=>nomatch z) h
 | flt y=>obtain ⟨t,q⟩:=(show ∃ t,u=Value.float y t from rx); cases q; exact PySem.W.kia_one PySem.W.kitx_float I.kIn True.intro e (fun z=>nomatch z) h
 | @lst a xs ea=>
  cases (show u=Value.ref a from rx)
  obtain ⟨_,_,n,_,h1⟩:=(show ObjOk X.prog X.w H s.heap a (.lst xs) from I.hok a _ ea)
  exact PySem.W.kia_one PySem.W.kitx_list I.kIn ⟨_,h1,rfl⟩ e (fun z=>nomatch z) h
 | @frz a ob xs ea=>
  cases (show u=Value.ref a from rx)
  obtain ⟨_,_,_,n,_,h1⟩:=(show ObjOk X.prog X.w H s.heap a (.frz ob (.lst xs)) from I.hok a _ ea)
  exact PySem.W.kia_one PySem.W.kitx_list I.kIn ⟨_,h1,rfl⟩ e (fun z=>nomatch z) h
 | @tup a xs ea=>
  cases (show u=Value.ref a from rx)
  obtain ⟨_,_,_,p⟩:=(show ObjOk X.prog X.w H s.heap a (.tup xs) from I.hok a _ ea)
  obtain ⟨o,h1,⟨h2,_⟩,_⟩:=p
  exact PySem.W.kia_one PySem.W.kitx_tuple I.kIn ⟨o,h1,h2⟩ e (fun z=>nomatch z) h
 | @dK a kvs ea=>
  cases (show u=Value.ref a from rx)
  obtain ⟨_,_,vs,_,p⟩:=(show ObjOk X.prog X.w H s.heap a (.dK kvs) from I.hok a _ ea)
  obtain ⟨o,es,ep,h1,h2,_⟩:=p
  exact PySem.W.kia_one PySem.W.kitx_dict I.kIn ⟨o,h1,h2.1⟩ e (fun z=>nomatch z) h
 | @dT a kvs ea=>
  cases (show u=Value.ref a from rx)
  obtain ⟨_,_,xs,_,o,es,ep,h1,h2,_⟩:=(show ObjOk X.prog X.w H s.heap a (.dT kvs) from I.hok a _ ea)
  exact PySem.W.kia_one PySem.W.kitx_dict I.kIn ⟨o,h1,h2.1⟩ e (fun z=>nomatch z) h
 | @ins a C dx fs ea cl ha hn htk hm=>
  cases (show u=Value.ref a from rx)
  obtain ⟨mA,O,_⟩:=Zo8 I.hok ea
  obtain ⟨od,J,_⟩:=O.look
  exact PySem.W.kia_one (PySem.W.kitx_own (cl.get _) cl.hd ha hn htk hm) I.kIn J e (fun z=>nomatch z) h
end
end L2
namespace L2
open PySem PySem.Spec PyProof.Rows
structure Room (k:Nat) (A:Around):Prop where
 hd:A.handled=none
 dp:A.depth + 3 * k + 5 < recursionLimit
 un:A.units + 16 * k + 200 < cLine
 gd:A.guards=some []
theorem Room.mono {j k:Nat} {A:Around} (r:Room k A) (h:j<=k):Room j A:=⟨r.hd,by have:=r.dp; omega,by have:=r.un; omega,r.gd⟩
theorem Room.deeper {k:Nat} {A:Around} (r:Room (k + 1) A) (env:Env):Room k (A.deeper env):=
 ⟨r.hd,by have:=r.dp; show A.depth + 1 + 3 * k + 5 < _; omega,by have:=r.un; show A.units + 3 + 16 * k + 200 < _; omega,r.gd⟩
theorem Room.depth {k:Nat} {A:Around} (r:Room k A):A.depth < recursionLimit:=by have:=r.dp; omega
theorem Room.units {k:Nat} {A:Around} (r:Room k A):A.units + 64 < cLine:=by have:=r.un; omega
def tNil:TA:=fun _ H Q=>Q [] H
def tCons (ta:TE) (tr:TA):TA:=fun σ H Q=>ta σ H fun x H1=>tr σ H1 fun xs H2=>Q (x :: xs) H2
section
variable {X:Cx} {e:Expr} {es:List Expr} {te:TE} {t:TA} {pos:Pos}
theorem Zae:PA X [] tNil:=fun _ _ _ _ H Q I h=>Calls.spliced_nil ⟨[],H,I,.nil,h⟩
theorem Zaa (ha:PE X e te) (hr:PA X es t) (hs:starEach (e :: es) X.env=(false,eval e X.env) :: starEach es X.env:=by rfl):PA X (e :: es) (tCons te t):=by
 intro pos pins s σ H Q I h
 rw [hs]
 show wpAny _ _ (spliced ((false,eval e X.env) :: backTo pos (starEach es X.env))) _ _ s
 refine Calls.spliced_cons (thn (ha pins s σ H _ I h) fun u s1 ⟨x,H1,I1,r1,q1⟩=>?_)
 exact thn (hr pos pins s1 σ H1 _ I1 q1) fun us s2 ⟨xs,H2,I2,r2,q2⟩=>⟨x :: xs,H2,I2,.cons r1 r2,q2⟩
def tTup (t:TA):TE:=fun σ H Q=>t σ H fun xs H1=>xs.length<=sizeLine/\∀ p,H1 p=none->Q (.ref p) (upd H1 p (.tup xs))
def tLst (t:TA):TE:=fun σ H Q=>t σ H fun xs H1=>xs.length<=sizeLine/\∀ p,H1 p=none->Q (.ref p) (upd H1 p (.lst xs))
theorem Zbp {x1} (h:PA X es t):PE X (.Tuple es x1 pos) (tTup t):=by
 intro pins s σ H Q I hq
 refine wpAny_Tuple_spliced (thn (h pos pins s σ H _ I hq) fun us s1 ⟨xs,H1,I1,r,z,q⟩=>⟨by rw [<- r.length]; exact z,?_⟩)
 have hf:H1 s1.heap.objs.size=none:=I1.hok.fresh (Nat.le_refl _)
 refine ⟨.ref s1.heap.objs.size,upd H1 s1.heap.objs.size (.tup xs),I1.laid (t':=s1.toks) (fun b u e=>Heap.get?_push_of_some _ e) (Nat.le_refl _) ?_,rfl,q _ hf⟩
 exact ⟨z,us,r,⟨_,Heap.get?_push_size _ rfl,⟨rfl,_,rfl⟩,rfl⟩⟩
theorem Zf9 (h:PA X es t):PE X (.List es pos) (tLst t):=by
 intro pins s σ H Q I hq
 refine wpAny_List_spliced (thn (h pos pins s σ H _ I hq) fun us s1 ⟨xs,H1,I1,r,z,q⟩=>⟨by rw [<- r.length]; exact z,?_⟩)
 have hf:H1 s1.heap.objs.size=none:=I1.hok.fresh (Nat.le_refl _)
 refine ⟨.ref s1.heap.objs.size,upd H1 s1.heap.objs.size (.lst xs),I1.laid (t':=s1.toks) (fun b u e=>Heap.get?_push_of_some _ e) (Nat.le_refl _) ?_,rfl,q _ hf⟩
 exact ⟨z,us,0,r,Heap.get?_push_size _ rfl⟩
end
abbrev Sp:=List V->Hp->VK->XK->Prop
abbrev CXT:=List Env->Hp->Shared->XK->Value->Shared->Prop
structure Env0 (P:Program) (w:World) (K:PySem.W.Frag) (mg:Str->Option Value) (base:Heap) (A:Around) (outer:List Env) (s:Shared) (H:Hp):Prop where
 frames:A.frames=some outer
 mod:Mod K mg base
 bs:∀ b o,base.get? b=some o->s.heap.get? b=some o/\H b=none
 bsz:base.objs.size<=s.heap.objs.size
 funs:s.heap.FunFrames base outer
 frf:∀ b ∈ frs outer,H b=none
 hok:HOk P w H s.heap
 bare:AllBare s.gens
def CE (outer:List Env) (P:Program) (w:World) (H:Hp) (s:Shared) (Q:VK) (u:Value) (s':Shared):Prop:=
 ∃ v H',s'.os=s.os/\AllBare s'.gens/\Un (frs outer) [] H H' s.heap s'.heap/\HOk P w H' s'.heap/\RelV v u/\Q v H'
def CR (CX:CXT) (outer:List Env) (P:Program) (w:World) (H:Hp) (s:Shared) (Q:VK) (E:XK) (r:Result) (s':Shared):Prop:=
 match r with
 | .ok (.ret u)=>CE outer P w H s Q u s'
 | .ok _=>False
 | .error e=>CX outer H s E e s'
structure FnOk (P:Program) (w:World) (K:PySem.W.Frag) (mg:Str->Option Value) (base:Heap) (CX:CXT) (k:Nat) (f:Addr) (fd:FuncData) (ps:List Str) (sp:Sp):Prop where
 len:∀ vs H Q E,sp vs H Q E->vs.length=ps.length
 run:∀ (A:Around) (outer:List Env) (s:Shared) (H:Hp) (args:Args) (us:List Value) (vs:List V) (Q:VK) (E:XK),Room k A->Env0 P w K mg base A outer s H->BindsTo s fd args (ps.zip us)->Vals vs us->sp vs H Q E →
  codeAny (model P w) A (.call (.ref f) args) (CR CX outer P w H s Q E) s
theorem FnOk.imp {P:Program} {w:World} {K:PySem.W.Frag} {mg:Str->Option Value} {base:Heap} {CX:CXT} {k:Nat} {f:Addr} {fd:FuncData} {ps:List Str} {sp sp':Sp} (F:FnOk P w K mg base CX k f fd ps sp)
  (h:∀ vs H Q E,sp' vs H Q E->sp vs H Q E):FnOk P w K mg base CX k f fd ps sp':=
 ⟨fun vs H Q E q=>F.len vs H Q E (h _ _ _ _ q),fun A outer s H args us vs Q E hr he hb hv hs=>F.run A outer s H args us vs Q E hr he hb hv (h _ _ _ _ hs)⟩
section
variable {X:Cx} {pins:List (Addr × Obj)} {σ:St} {H:Hp} {s s':Shared}
theorem Inv.env0 (I:Inv X pins σ H s):Env0 X.prog X.w X.K X.mg X.base X.A X.stack s H:=
 ⟨I.ok.frames,I.ok.mod,I.bs,Nat.le_trans I.ok.bsz I.sz,I.stack,I.stkFree,I.hok,I.bare⟩
theorem Inv.after {Q:VK} {u:Value} (I:Inv X pins σ H s) (h:CE X.stack X.prog X.w H s Q u s'):EP X pins σ Q u s':=by
 obtain ⟨v,H',os,bare,un,hok,r,q⟩:=h
 obtain ⟨hh,g,d,t,os'⟩:=s'
 obtain rfl:os' = s.os:=os
 exact ⟨v,H',I.call (h':=hh) (g':=g) (d':=d) (t':=t) (ch:=[]) un hok bare (fun b z=>absurd z (by simp)),r,q⟩
end
def tCall (sp:Sp) (dvs:List V) (E:XK) (t:TA):TE:=fun σ H Q=>t σ H fun vs H1=>sp (vs ++ dvs) H1 Q E
def Binds (K:PySem.W.Frag) (fd:FuncData) (ps:List Str) (ds:List Value):Prop:=
 ∀ (s:Shared) (us:List Value),K.In s.heap->(us ++ ds).length=ps.length->BindsTo s fd ⟨us,[]⟩ (ps.zip (us ++ ds))
theorem Binds.all {K:PySem.W.Frag} {fd:FuncData} {ps:List Str} (h:∀ us:List Value,us.length=ps.length->bindArgs fd ⟨us,[]⟩ = pure (ps.zip us)):Binds K fd ps []:=fun s us _ hl=>by
 rw [List.append_nil] at hl ⊢
 exact .of_eq (h us hl)
def Passes (CX:CXT) (X:Cx) (E:XK):Prop:=∀ (pins:List (Addr × Obj)) (σ:St) (H:Hp) (s:Shared) (e:Value) (s':Shared),Inv X pins σ H s->CX X.stack H s E e s' -> X.xe e s'
section
variable {X:Cx} {CX:CXT} {k:Nat} {f C:Addr} {fd:FuncData} {ps:List Str} {sp:Sp} {dvs:List V} {ds:List Value} {E:XK} {x m:Str} {p pos apos:Pos} {e o:Expr} {es:List Expr} {ta:TE} {t:TA}
theorem Zq7 {pins:List (Addr × Obj)} {σ:St} {H:Hp} {s:Shared} {Q:VK} {us:List Value} {vs:List V} (F:FnOk X.prog X.w X.K X.mg X.base CX k f fd ps sp) (hr:Room k X.A) (hb:Binds X.K fd ps ds) (hd:Vals dvs ds) (hx:Passes CX X E)
  (I:Inv X pins σ H s) (r:Vals vs us) (h:sp (vs ++ dvs) H Q E):wpAny (model X.prog X.w) X.A (call (.ref f) us) (EP X pins σ Q) X.xe s:=by
 have r2:Vals (vs ++ dvs) (us ++ ds):=r.append hd
 have hl:(us ++ ds).length=ps.length:=by rw [<- r2.length]; exact F.len _ _ _ _ h
 refine wpAny_call (codeAny_mono (F.run X.A X.stack s H ⟨us,[]⟩ (us ++ ds) (vs ++ dvs) Q E hr I.env0 (hb s us I.kIn hl) r2 h) fun r s' hq=>?_)
 cases r with
 | error e=>exact hx pins σ H s e s' I hq
 | ok fl=>
  cases fl with
  | ret u=>exact I.after hq
  | next=>exact False.elim hq
  | brk=>exact False.elim hq
  | cont=>exact False.elim hq
theorem Zok (F:FnOk X.prog X.w X.K X.mg X.base CX k f fd ps sp) (hr:Room k X.A) (hg:Gl X x) (hm:X.mg x=some (.ref f)) (hk:PySem.W.keepIn X.K (.ref f)=true) (hb:Binds X.K fd ps ds) (hd:Vals dvs ds) (hx:Passes CX X E)
  (ha:PA X (e :: es) t) (hdb:(x == ("__debug__":Str))=false:=by decide) (he:starEach (e :: es) X.env=(false,eval e X.env) :: starEach es X.env:=by rfl) (hpl:(backTo pos (starEach es X.env)).any (·.1)=false:=by rfl) :
  PE X (.Call (.Name x p) (e :: es) [] pos) (tCall sp dvs E t):=by
 intro pins s σ H Q I h
 refine wpAny_Call_Name_kw (Zo9 I hg hm ?_ hdb)
 refine PySem.W.callWith_K (h₀:=X.base) I.ok.mod.kin hk (thn (ha pos pins s σ H _ I h) fun us s1 ⟨vs,H1,I1,r,q⟩=>⟨I1.kIn,?_⟩) he hpl
 exact Zq7 F hr hb hd hx I1 r q
end
section
variable {X:Cx} {CX:CXT} {k:Nat} {f C:Addr} {fd:FuncData} {ps ks:List Str} {sp:Sp} {E:XK} {x m:Str} {p pos apos kpos:Pos} {e o:Expr} {es:List Expr} {kws:List Keyword} {te ta:TE} {t tk:TA} {nm:Option Str}
variable {g:List Value->List Value->List Value} {gV:List V->List V->List V}
end
structure FnScope (N P:List Str) (sc:Scope):Prop where
 kind:sc.kind=.function
 co:sc.isCoroutine=false
 gen:sc.isGenerator=false
 nd:N.Nodup
 pre:N.take P.length=P
 par:∀ x ∈ P,sc.names.lookup x=some .local\/sc.names.lookup x=some .cell
 nofree:∀ y ∈ sc.names,y.2 ≠ .free
theorem Zgm {kindOf:Str->Option NameKind} {x:Str}:∀ {binds:List (Str × Value)} {m:Str->Option Value},(∀ v,(x,v) ∉ binds)->bindL kindOf binds m x=m x
 | [],_,_=>rfl
 | (n,v) :: r,m,h=>by
  unfold bindL
  rw [Zgm fun w hw=>h w (List.mem_cons_of_mem _ hw)]
  split
  ·have:x ≠ n:=by rintro rfl; exact h v List.mem_cons_self
   simp [this]
  ·rfl
theorem Zf8 {kindOf:Str->Option NameKind} {x:Str}:∀ {binds:List (Str × Value)} {m:Str->Option Value},(∀ v,(x,v) ∉ binds)->bindC kindOf binds m x=m x
 | [],_,_=>rfl
 | (n,v) :: r,m,h=>by
  unfold bindC
  rw [Zf8 fun w hw=>h w (List.mem_cons_of_mem _ hw)]
  split
  ·rfl
  ·have:x ≠ n:=by rintro rfl; exact h v List.mem_cons_self
   simp [this]
theorem Zgk {kindOf:Str->Option NameKind} {x:Str} {v:Value}:∀ {P:List Str} {vs:List Value} {i:Nat} {m:Str->Option Value},P.Nodup->P[i]? = some x->vs[i]? = some v->kindOf x=some .local →
  bindL kindOf (P.zip vs) m x=some v
 | [],_,_,_,_,h,_,_=>by simp at h
 | _ :: _,[],_,_,_,_,h,_=>by simp at h
 | p :: P,w :: vs,0,m,nd,h1,h2,hk=>by
  simp at h1 h2; subst h1; subst h2
  show bindL kindOf ((p,w) :: P.zip vs) m p=_
  unfold bindL
  rw [Zgm fun v hv=>(List.nodup_cons.mp nd).1 (List.of_mem_zip hv).1,if_pos hk]
  simp
 | p :: P,w :: vs,i + 1,m,nd,h1,h2,hk=>by
  show bindL kindOf ((p,w) :: P.zip vs) m x=_
  unfold bindL
  exact Zgk (i:=i) (List.nodup_cons.mp nd).2 (by simpa using h1) (by simpa using h2) hk
theorem Zgi {kindOf:Str->Option NameKind} {x:Str} {v:Value}:∀ {P:List Str} {vs:List Value} {i:Nat} {m:Str->Option Value},P.Nodup->P[i]? = some x->vs[i]? = some v->kindOf x ≠ some .local →
  bindC kindOf (P.zip vs) m x=some v
 | [],_,_,_,_,h,_,_=>by simp at h
 | _ :: _,[],_,_,_,_,h,_=>by simp at h
 | p :: P,w :: vs,0,m,nd,h1,h2,hk=>by
  simp at h1 h2; subst h1; subst h2
  show bindC kindOf ((p,w) :: P.zip vs) m p=_
  unfold bindC
  rw [Zf8 fun v hv=>(List.nodup_cons.mp nd).1 (List.of_mem_zip hv).1,if_neg hk]
  simp
 | p :: P,w :: vs,i + 1,m,nd,h1,h2,hk=>by
  show bindC kindOf ((p,w) :: P.zip vs) m x=_
  unfold bindC
  exact Zgi (i:=i) (List.nodup_cons.mp nd).2 (by simpa using h1) (by simpa using h2) hk
def start (N:List Str) (vs:List V):St:=vs.map some ++ List.replicate (N.length - vs.length) none
def cxOf (CX:CXT) (P:Program) (w:World) (K:PySem.W.Frag) (mg:Str->Option Value) (base:Heap) (N:List Str) (qual:Str) (scope:Scope) (f:Addr) (cd:Value) (A:Around) (outer:List Env) (s:Shared) (H:Hp) (E:XK):Cx where
 prog:=P
 w:=w
 K:=K
 mg:=mg
 base:=base
 A:=A.deeper (envOfC qual scope s.heap.objs.size f cd)
 N:=N
 s₀:=s
 H₀:=H
 env:=envOfC qual scope s.heap.objs.size f cd
 outer:=outer
 stack:=envOfC qual scope s.heap.objs.size f cd :: outer
 ex:=[]
 calm:=true
 fn:=fun _=>true
 pn:=[]
 xe:=fun e s'=>wpAny (model P w) (A.deeper (envOfC qual scope s.heap.objs.size f cd)) (leaving (envOfC qual scope s.heap.objs.size f cd) e) (fun _ s''=>CX outer H s E e s'') (fun e' s''=>CX outer H s E e' s'') s'
theorem Zh9 {sc:Scope} {n:Nat} {x:Str} (h:sc.names.lookup x=some .cell):∃ c,(cellsFrom n sc.names []).lookup x=some c:=by
 have q:=PySem.W.cellsFrom_some sc.names n [] (.inl h)
 exact Option.isSome_iff_exists.mp q
theorem Zlh {CX:CXT} {P:Program} {w:World} {K:PySem.W.Frag} {mg:Str->Option Value} {base:Heap} {N ps:List Str} {qual:Str} {scope:Scope} {f:Addr} {cd:Value} {A:Around} {outer:List Env} {s s1:Shared} {H:Hp} {E:XK} {us:List Value} {vs:List V}
  (S:FnScope N ps scope) (hd:A.handled=none) (e0:Env0 P w K mg base A outer s H) (hl:vs.length=ps.length) (r:Vals vs us)
  (x:InCallC s s.heap.objs.size (bindL (envOfC qual scope s.heap.objs.size f cd).kindOf (ps.zip us) fun _=>none) (cellsFrom (s.heap.objs.size + 1) scope.names []) (bindC (envOfC qual scope s.heap.objs.size f cd).kindOf (ps.zip us) fun _=>none) s1) :
  Inv (cxOf CX P w K mg base N qual scope f cd A outer s H E) [] (start N vs) H s1:=by
 have hpl:ps.length<=N.length:=by have:=congrArg List.length S.pre; rw [List.length_take] at this; omega
 obtain ⟨h1,tk,rfl,hk⟩:=x.done
 have noA:∀ b:Addr,b ∉ (cxOf CX P w K mg base N qual scope f cd A outer s H E).ex:=fun b z=>absurd (show b ∈ ([]:List Addr) from z) (by simp)
 refine ⟨⟨e0.mod,S.kind,rfl,rfl,Nat.le_refl _,fun y z c h1 h2=>?_,fun y hy=>?_,fun y c _ h=>?_,fun _=>hd,Around.frames_deeper e0.frames,.inr ⟨rfl,rfl⟩,fun b z=>absurd z (noA b),e0.bs,e0.bsz,fun b _ _=>noA b,fun b z=>absurd z (noA b),e0.funs,e0.frf⟩,
  rfl,e0.bare,Un.kept hk,⟨_,x.toInCall.ns,fun i y v h1 h2 h3=>?_⟩,fun y c h=>⟨_,x.cell y c h⟩,e0.hok.fresh (Nat.le_refl _),fun y c h=>?_,fun p hp=>absurd (show p ∈ ([]:List (Addr × Obj)) from hp) (by simp),e0.hok.kept hk,?_⟩
 ·exact name_of_addr x.apart (PySem.mem_of_lookup h1) (PySem.mem_of_lookup h2)
 ·have hy:scope.names.lookup y=some .cell\/scope.names.lookup y=some .free:=hy
  rcases hy with hy | hy
  ·exact Zh9 hy
  ·exact absurd rfl (S.nofree _ (PySem.mem_of_lookup hy))
 ·exact Nat.le_of_lt (x.above y c (PySem.mem_of_lookup h))
 ·have hi:i < vs.length:=by
   unfold start at h2
   by_cases hi:i < vs.length
   ·exact hi
   ·rw [List.getElem?_append_right (by simpa using hi)] at h2
    rw [List.getElem?_replicate] at h2
    split at h2 <;> cases h2
  have ha:vs[i]? = some v:=by
   unfold start at h2
   rw [List.getElem?_append_left (by simpa using hi),List.getElem?_map] at h2
   cases e:vs[i]? with
   | none=>rw [e] at h2; cases h2
   | some a=>rw [e] at h2; cases h2; rfl
  obtain ⟨u,hu,rv⟩:=r.get ha
  have hp:ps[i]? = some y:=by
   rw [<- S.pre,List.getElem?_take_of_lt (by omega)]; exact h1
  have ndP:ps.Nodup:=by rw [<- S.pre]; exact S.nd.sublist (List.take_sublist _ _)
  refine ⟨u,rv,?_⟩
  rcases S.par y (List.mem_of_getElem? hp) with k | k
  ·exact .inl ⟨k,Zgk ndP hp hu k⟩
  ·obtain ⟨c,e⟩:=Zh9 (n:=s.heap.objs.size + 1) k
   refine .inr ⟨.inl k,c,e,?_⟩
   have q:=x.cell y c e
   rw [Zgi ndP hp hu (by show scope.names.lookup y ≠ _; rw [k]; decide)] at q
   exact q
 ·exact e0.hok.fresh (Nat.le_of_lt (x.above y c (PySem.mem_of_lookup h)))
 ·unfold start
  show _=N.length
  rw [List.length_append,List.length_map,List.length_replicate]
  omega
theorem Zsg {CX:CXT} {P:Program} {w:World} {K:PySem.W.Frag} {mg:Str->Option Value} {base:Heap} {k:Nat} {f:Addr} {name qual:Str} {params:Arguments} {body:List Stmt} {scope:Scope} {dV kV doc pm cdv ct oc:Value} {an od:Option Addr}
  {osl:Array (Option Value)} {N ps:List Str} {sp:Sp} (lk:K.lookup f=some ⟨oc,od,.func (PySem.W.fnOf name qual params body scope dV kV doc pm an cdv ct),osl⟩) (hcd:PySem.W.codeIn K cdv qual=true) (S:FnScope N ps scope)
  (len:∀ vs H Q E,sp vs H Q E->vs.length=ps.length)
  (hbody:∀ (A:Around) (outer:List Env) (s:Shared) (H:Hp) (vs:List V) (Q:VK) (E:XK),Room k (A.deeper (envOfC qual scope s.heap.objs.size f cdv))->sp vs H Q E →
   ∃ t,PSs (cxOf CX P w K mg base N qual scope f cdv A outer s H E) body t/\t { nx:=fun _ H'=>Q .non H',rt:=Q } (start N vs) H) :
  FnOk P w K mg base CX (k + 1) f (PySem.W.fnOf name qual params body scope dV kV doc pm an cdv ct) ps sp:=by
 refine ⟨len,fun A outer s H args us vs Q E hr e0 hb r hsp=>?_⟩
 have hl:=len _ _ _ _ hsp
 have KX:K.In s.heap:=e0.mod.kin.keeps fun b o e=>(e0.bs b o e).1
 have lim:s.heap.NoLimit:=e0.mod.nolimit.keeps fun b o e=>(e0.bs b o e).1
 have hkind:∀ y ∈ ps.zip us,scope.names.lookup y.1=some .local\/(scope.names.lookup y.1=some .cell/\((cellsFrom (s.heap.objs.size + 1) scope.names []).lookup y.1).isSome=true):=fun ⟨n,v⟩ hy=>by
  rcases S.par n (List.of_mem_zip hy).1 with q | q
  ·exact .inl q
  ·exact .inr ⟨q,PySem.W.cellsFrom_some _ _ _ (.inl q)⟩
 refine codeAny_call_function hr.depth (KX _ _ lk) rfl S.co S.gen rfl (PySem.W.codeRec_of KX hcd) (hb _ _ _ _ ?_)
 refine wpAny_newFunctionEnv_cells S.kind hkind fun env he s1 x=>?_
 subst he
 refine ⟨lim.keeps x.toInCall.keep,codeAny_func ?_⟩
 obtain ⟨t,ht,hq⟩:=hbody A outer s H vs Q E (hr.deeper _) hsp
 have I:Inv (cxOf CX P w K mg base N qual scope f cdv A outer s H E) [] (start N vs) H s1:=Zlh S hr.hd e0 hl r x
 refine wpAny_mono (ht [] s1 (start N vs) H _ I hq) (fun fl s' hs=>?_) fun e s' hs=>hs
 have fin:∀ {σ':St} {H':Hp} {v:V} {u:Value},Inv (cxOf CX P w K mg base N qual scope f cdv A outer s H E) [] σ' H' s' -> RelV v u->Q v H' -> CE outer P w H s Q u s':=
  fun {σ' H' v u} J rv q=>⟨v,H',J.os,J.bare,J.base,J.hok,rv,q⟩
 cases fl with
 | ret u=>
  obtain ⟨v,σ',H',J,rv,q⟩:=hs
  exact fin J rv q
 | next=>
  obtain ⟨σ',H',J,q⟩:=hs
  exact fin (v:=V.non) (u:=Value.none) J rfl q
 | brk=>
  obtain ⟨_,_,_,q⟩:=hs
  exact False.elim q
 | cont=>
  obtain ⟨_,_,_,q⟩:=hs
  exact False.elim q
end L2
namespace L2
open PySem PySem.Spec PyProof.Rows
section
variable {X:Cx} {x:Str} {p pos:Pos} {e:Expr} {es:List Expr} {t:TA} {id T:String} {r:List V->Hp->VK->Prop}
def tCB (r:List V->Hp->VK->Prop) (t:TA):TE:=fun σ H Q=>t σ H fun vs H1=>r vs H1 Q
theorem Zal (hc:CallR X (.builtin id) r) (hg:Gl X x) (hm:X.mg x=none) (hv:bootBuiltins x=some (.builtin id)) (ha:PA X (e :: es) t) (hn:x ≠ "__name__":=by decide) (hdb:(x == ("__debug__":Str))=false:=by decide)
  (he:starEach (e :: es) X.env=(false,eval e X.env) :: starEach es X.env:=by rfl) (hpl:(backTo pos (starEach es X.env)).any (·.1)=false:=by rfl):PE X (.Call (.Name x p) (e :: es) [] pos) (tCB r t):=by
 intro pins s σ H Q I h
 refine wpAny_Call_Name_kw (Zet I hg hm hv ?_ hn hdb)
 exact PyProof.Rows.callWith_builtin1 (thn (ha pos pins s σ H _ I h) fun us s1 ⟨vs,H1,I1,r1,q1⟩=>hc pins s1 σ H1 vs us Q I1 r1 q1) he hpl
theorem Zbk (hc:CallR X (.type T) r) (hg:Gl X x) (hm:X.mg x=none) (hv:bootBuiltins x=some (.type T)) (ha:PA X (e :: es) t) (hn:x ≠ "__name__":=by decide) (hdb:(x == ("__debug__":Str))=false:=by decide)
  (he:starEach (e :: es) X.env=(false,eval e X.env) :: starEach es X.env:=by rfl) (hpl:(backTo pos (starEach es X.env)).any (·.1)=false:=by rfl):PE X (.Call (.Name x p) (e :: es) [] pos) (tCB r t):=by
 intro pins s σ H Q I h
 refine wpAny_Call_Name_kw (Zet I hg hm hv ?_ hn hdb)
 exact PyProof.Rows.callWith_type1 (thn (ha pos pins s σ H _ I h) fun us s1 ⟨vs,H1,I1,r1,q1⟩=>hc pins s1 σ H1 vs us Q I1 r1 q1) he hpl
theorem Zip (hc:CallR X (.type T) r) (hg:Gl X x) (hm:X.mg x=none) (hv:bootBuiltins x=some (.type T)) (hn:x ≠ "__name__":=by decide) (hdb:(x == ("__debug__":Str))=false:=by decide) :
  PE X (.Call (.Name x p) [] [] pos) (tCB r tNil):=by
 intro pins s σ H Q I h
 refine wpAny_Call_Name_kw (Zet I hg hm hv ?_ hn hdb)
 exact PyProof.Rows.callWith_type0 (hc pins s σ H [] [] Q I .nil h)
end
end L2
namespace HT
open PySem PyProof.Rows
def lexLt:List Int->List Int->Bool
 | [],[]=>false
 | [],_ :: _=>true
 | _ :: _,[]=>false
 | x :: xs,y :: ys=>if x=y then lexLt xs ys else decide (x < y)
theorem Zio (x y:Int) (xs ys:List Int):lexLt (x :: xs) (y :: ys)=if x=y then lexLt xs ys else decide (x < y):=rfl
theorem Zfa:lexLt [] []=false:=rfl
theorem Zeo (y:Int) (ys:List Int):lexLt [] (y :: ys)=true:=rfl
theorem Zem (x:Int) (xs:List Int):lexLt (x :: xs) []=false:=rfl
theorem Zmi (A:Around) (s:Shared) (a:Int) (t:Tok) (c:Int) (u:Tok):∃ e,SeqAt.EqAt A s (.int a t) (.int c u) e/\(e=true ↔ a=c):=
 ⟨(a == c),SeqAt.EqAt.int_int a t c u,by simp⟩
theorem Zly (A:Around) (s:Shared) (a:Int) (t:Tok) (c:Int) (u:Tok) (prog:Program) (w:World) (E:Value->Shared->Prop) (Q:Value->Shared->Prop) (h:Q (.bool (decide (a < c))) s) :
  wpAny (model prog w) A (richCompare .Lt (.int a t) (.int c u)) Q E s:=
 (PyProof.Rows.lt_int h:wpAny (model prog w) A (compareOp .Lt (.int a t) (.int c u)) Q E s)
section
open PySem.SeqAt
open PySem.AutoSeq1 (wpAny_loadPart')
open PySem.MeetsSeq PySem.MeetsSeq2 PySem.MeetsSeq3
theorem tuple_lt_ints (l b:Addr) (items items2:Array Value) (n n2:Nat) (dd dd2:Option Addr) (sl sl2:Array (Option Value)) (ns ms:List Int) (hi:IntsAre items.toList ns) (hj:IntsAre items2.toList ms) :
  Meets (Builtin.«tuple.__lt__» ⟨[.ref l,.ref b],[]⟩)
   (fun _ R s=>s.heap.get? l=some { cls:=.type "tuple",dict:=dd,data:=.seq items n,slots:=sl } /\ s.heap.get? b=some { cls:=.type "tuple",dict:=dd2,data:=.seq items2 n2,slots:=sl2 } ∧
    R (.ok (.ret (.bool (lexLt ns ms)))) s):=
 .of_wp fun prog w A R s h=>by
  obtain ⟨hp,g,d,tk,os⟩:=s; obtain ⟨hl,hb,h⟩:=h
  have f2:=AutoSeq1.sub_tuple_tuple
  have z1:items.size=ns.length:=by rw [<- hi.length]; simp
  have z2:items2.size=ms.length:=by rw [<- hj.length]; simp
  wp_walk using wpAny_loadPart' hl,wpAny_loadPart' hb,wpAny_forIn_list _ (fun rest b s'=>b.1=none/\s' = ⟨hp,g,d,tk,os⟩ /\ ∃ (vs ws:List Value) (ns' ms':List Int),rest=vs.zip ws ∧
   IntsAre vs ns' /\ IntsAre ws ms' /\ ns'.length + items2.size=ms'.length + items.size/\R (.ok (.ret (.bool (lexLt ns' ms')))) ⟨hp,g,d,tk,os⟩) _
  case turn=>
   rintro ⟨y,x⟩ rest b s' ⟨hb',rfl,vs,ws,ns',ms',hz,hvi,hwi,hlen,hR⟩
   cases hvi with
   | nil=>rw [List.zip_nil_left] at hz; cases hz
   | cons a t hvi'=>
    cases hwi with
    | nil=>rw [List.zip_nil_right] at hz; cases hz
    | cons c u hwi'=>
     rw [List.zip_cons_cons] at hz
     injection hz with hyx hrest
     injection hyx with hy hx
     subst hy hx
     rw [Zio] at hR
     simp only [List.length_cons] at hlen
     obtain ⟨e,he,hiff⟩:=Zmi A.in1 ⟨hp,g,d,tk,os⟩ a t c u
     refine wpAny_bind (he prog w _ _ ?_)
     cases e with
     | true=>
      rw [if_pos (hiff.mp rfl)] at hR
      wp_walk
      exact ⟨rfl,rfl,_,_,_,_,hrest,hvi',hwi',by omega,hR⟩
     | false=>
      rw [if_neg (fun q=>absurd (hiff.mpr q) Bool.false_ne_true)] at hR
      have hri:=Zly A.in1 ⟨hp,g,d,tk,os⟩ a t c u prog w
      wp_walk using hri
      exact ⟨_,rfl,by simpa using hR⟩
  case fin=>
   rintro ⟨b1,b2⟩ s' ⟨hb',rfl,vs,ws,ns',ms',hz,hvi,hwi,hlen,hR⟩
   simp only at hb'
   subst hb'
   have hv:lexLt ns' ms' = decide (items.size < items2.size):=by
    cases hvi with
    | nil=>
     cases hwi with
     | nil=>
      simp only [List.length_nil] at hlen
      rw [Zfa]
      exact (decide_eq_false (by omega)).symm
     | cons c u hw=>
      simp only [List.length_nil,List.length_cons] at hlen
      rw [Zeo]
      exact (decide_eq_true (by omega)).symm
    | cons a t hv=>
     cases hwi with
     | nil=>
      simp only [List.length_nil,List.length_cons] at hlen
      rw [Zem]
      exact (decide_eq_false (by omega)).symm
     | cons c u hw=>
      rw [List.zip_cons_cons] at hz
      cases hz
   rw [hv] at hR
   wp_walk
   exact ⟨_,rfl,by simpa [Builtin.Tuple.tupleCompareSizes] using hR⟩
  case h=>
   exact ⟨rfl,rfl,items.toList,items2.toList,ns,ms,rfl,hi,hj,by omega,h⟩
end
section
variable {prog:Program} {w:World} {A:Around} {E:Value->Shared->Prop} {s:Shared}
theorem cat_tup {t b:Addr} {vs ws:List Value} {Q:Value->Shared->Prop} (ht:IsTup s.heap t vs.toArray) (hb:IsTup s.heap b ws.toArray) (hv:vs ≠ [])
  (h1:ws=[]->Q (.ref t) s) (h2:ws ≠ []->Q (.ref s.heap.objs.size) { s with heap:=s.heap.push { cls:=.type "tuple",data:=.seq (vs ++ ws).toArray } })
  (hsz:vs.length + ws.length<=sizeLine):wpAny (model prog w) A (binaryOp .Add (.ref t) (.ref b)) Q E s:=by
 obtain ⟨⟨cls,dd,data,sl⟩,ho,hc,n,hd⟩:=id ht
 obtain ⟨⟨cls2,dd2,data2,sl2⟩,ho2,hc2,n2,hd2⟩:=id hb
 simp only at hc hd hc2 hd2
 subst hc hd hc2 hd2
 have e:vs.toArray ++ ws.toArray=(vs ++ ws).toArray:=by simp
 by_cases hw:ws=[]
 ·exact concat_meets ⟨_,ho,rfl⟩ ⟨_,ho2,rfl⟩ noFill_tuple_add seq_tuple_add PySem.F.slot_tuple_add PySem.F.entry_tuple_add (PySem.F.args_tuple_add_2 _ _)
   (tuple_addW1 t b vs.toArray ws.toArray n n2 dd dd2 sl sl2 (by simpa using hv) (by simp [hw])) ⟨ho,ho2,h1 hw⟩
 ·refine concat_meets ⟨_,ho,rfl⟩ ⟨_,ho2,rfl⟩ noFill_tuple_add seq_tuple_add PySem.F.slot_tuple_add PySem.F.entry_tuple_add (PySem.F.args_tuple_add_2 _ _)
   (tuple_addW2 t b vs.toArray ws.toArray n n2 dd dd2 sl sl2 (by simpa using hv) (by simpa using hw) (by rw [List.size_toArray,List.size_toArray]; exact hsz)) ⟨ho,ho2,?_⟩
  rw [e]
  exact h2 hw
def sIx (n d:Nat):Option Int->Nat
 | none=>d
 | some v=>if v < 0 then (v + (n:Int)).toNat else min v.toNat n
theorem Zp4 (n d:Nat) (hd:d<=n) (o:Option Int):sIx n d o<=n:=by
 cases o with
 | none=>exact hd
 | some v=>
  show (if v < 0 then (v + (n:Int)).toNat else min v.toNat n)<=n
  by_cases hv:v < 0
  ·rw [if_pos hv]; omega
  ·rw [if_neg hv]; exact Nat.min_le_right _ _
theorem Zk0 (v:Int) (n d:Nat):(if v < 0 then max (v + (n:Int)) 0 else min v (n:Int))=((sIx n d (some v):Nat):Int):=by
 show (if v < 0 then max (v + (n:Int)) 0 else min v (n:Int))=(((if v < 0 then (v + (n:Int)).toNat else min v.toNat n):Nat):Int)
 by_cases hv:v < 0
 ·simp only [if_pos hv]; omega
 ·simp only [if_neg hv]; omega
theorem Ziu (lo hi:Option Int) (n:Nat):Builtin.Slice.sliceAdjust lo hi 1 (n:Int)=(((sIx n 0 lo:Nat):Int),((sIx n n hi:Nat):Int)):=by
 have h1:¬ ((1:Int) < 0):=by omega
 unfold Builtin.Slice.sliceAdjust
 simp only [h1,if_false]
 refine Prod.ext ?_ ?_
 ·cases lo with
  | none=>rfl
  | some v=>exact Zk0 v n 0
 ·cases hi with
  | none=>rfl
  | some v=>exact Zk0 v n n
theorem Ziw (i j:Nat):Builtin.Slice.slicePlaces (i:Int) (j:Int) 1=j - i:=by
 unfold Builtin.Slice.slicePlaces
 have h1:(1:Int) > 0:=by omega
 simp only [h1,if_true,Int.ediv_one]
 split <;> omega
theorem Ze2 {v:Value} {o:Option Int} {Q:Option Int->Shared->Prop} (p:IsPart v o) (h:Q o s):wpAny (model prog w) A (Builtin.Slice.slicePartIndex v) Q E s:=by
 cases p with
 | none=>exact slicePart_none h
 | int i t=>exact slicePart_int h
theorem Zb9 {sl:Addr} {vl vu:Value} {lo hi:Option Int} {n:Nat} {Q:Int × Int × Nat->Shared->Prop} (hs:s.heap.IsSliceOf sl vl vu .none) (pl:IsPart vl lo) (pu:IsPart vu hi)
  (h:Q (((sIx n 0 lo:Nat):Int),1,sIx n n hi - sIx n 0 lo) s):wpAny (model prog w) A (Builtin.Slice.sliceApplied (.ref sl) (pure (n:Int))) Q E s:=by
 obtain ⟨os,hos,hcs,hds⟩:=id hs
 unfold Builtin.Slice.sliceApplied Builtin.Slice.sliceFields
 refine wpAny_bind (wpAny_bind (wpAny_field hos hds (x:=vl) rfl (wpAny_bind (wpAny_field hos hds (x:=vu) rfl (wpAny_bind (wpAny_field hos hds (x:=.none) rfl (wpAny_pure ?_)))))))
 refine wpAny_bind (slicePart_none ?_)
 show wpAny _ _ (if ((1:Int) == 0)=true then _ else _) _ _ s
 rw [if_neg (by decide)]
 refine wpAny_bind (Ze2 pl (wpAny_bind (Ze2 pu (wpAny_bind (wpAny_pure ?_)))))
 show wpAny _ _ (match Builtin.Slice.sliceAdjust lo hi 1 (n:Int) with | (lo,hi)=>pure (lo,(1:Int),Builtin.Slice.slicePlaces lo hi 1)) _ _ s
 rw [Ziu lo hi n]
 show wpAny _ _ (pure (((sIx n 0 lo:Nat):Int),(1:Int),Builtin.Slice.slicePlaces ((sIx n 0 lo:Nat):Int) ((sIx n n hi:Nat):Int) 1)) _ _ s
 rw [Ziw]
 exact wpAny_pure h
theorem Zls (xs:Array Value) (i k:Nat):((List.range k).filterMap fun (m:Nat)=>xs[((i:Int) + (m:Int) * 1).toNat]?).toArray=((xs.toList.drop i).take k).toArray:=by
 have e:(fun (m:Nat)=>xs[((i:Int) + (m:Int) * 1).toNat]?)=fun m=>xs[i + m]?:=by
  funext m
  have:((i:Int) + (m:Int) * 1).toNat=i + m:=by omega
  rw [this]
 rw [e]
 have:=pick_run xs i k
 rw [List.filterMap_map] at this
 have e2:((fun x=>xs[x]?) ∘ fun x=>i + x)=fun m=>xs[i + m]?:=rfl
 rw [e2] at this
 rw [this]
theorem getItem_tuple_cut {t sl:Addr} {items:Array Value} {vl vu:Value} {lo hi:Option Int} {Q:Value->Shared->Prop} (ht:IsTup s.heap t items) (hs:s.heap.IsSliceOf sl vl vu .none) (pl:IsPart vl lo) (pu:IsPart vu hi)
  (hw:¬ (sIx items.size 0 lo=0/\sIx items.size items.size hi=items.size))
  (h:Q (.ref s.heap.objs.size) { s with heap:=s.heap.push { cls:=.type "tuple",data:=.seq ((items.toList.drop (sIx items.size 0 lo)).take (sIx items.size items.size hi - sIx items.size 0 lo)).toArray } })
  (hsz:items.size<=sizeLine):wpAny (model prog w) A (getItem (.ref t) (.ref sl)) Q E s:=by
 have htake:sizeOk (.seq ((items.toList.drop (sIx items.size 0 lo)).take (sIx items.size items.size hi - sIx items.size 0 lo)).toArray):=by
  show ((items.toList.drop (sIx items.size 0 lo)).take (sIx items.size items.size hi - sIx items.size 0 lo)).toArray.size<=sizeLine
  rw [List.size_toArray,List.length_take,List.length_drop,Array.length_toList]
  omega
 have hj:sIx items.size items.size hi<=items.size:=Zp4 _ _ (Nat.le_refl _) hi
 obtain ⟨os,hos,hcs,hds⟩:=id hs
 have hTs:s.TypeIs (.ref sl) "slice":=⟨os,hos,hcs⟩
 unfold getItem
 try with_reducible refine wpAny_holding ?_
 first | refine wpAny_bind (wpAny_pure ?_) | skip
 refine wpAny_bind (wpAny_sequenceKey ht.typeIs (by decide) ?_)
 refine wpAny_bind (wpAny_callSpecial?_slot (name:=Str.ofString "__getitem__") ht.typeIs PyProof.Rows.slot_tuple_getitem
  (wpAny_call_entry PyProof.Rows.slot_tuple_getitem ht.typeIs entry_tuple_getitem ?_ (args_tuple_getitem _ _)))
 show wpAny _ _ (Builtin.Tuple.tupleItemsOf (.ref t) >>= _) _ _ s
 refine wpAny_bind (tupleItemsOf_ ht ?_)
 refine wpAny_bind (wpAny_typeOf hTs ?_)
 rw [if_pos (by decide)]
 refine wpAny_bind (Zb9 hs pl pu ?_)
 have hno:¬ ((((sIx items.size 0 lo:Nat):Int) == 0 && (1:Int) == 1 && (sIx items.size items.size hi - sIx items.size 0 lo) == items.size)=true):=by
  intro q
  rw [Bool.and_eq_true,Bool.and_eq_true] at q
  have q1:((sIx items.size 0 lo:Nat):Int)=0:=eq_of_beq q.1.1
  have q2:sIx items.size items.size hi - sIx items.size 0 lo=items.size:=eq_of_beq q.2
  exact hw ⟨by omega,by omega⟩
 show wpAny _ _ (if (((sIx items.size 0 lo:Nat):Int) == 0 && (1:Int) == 1 && (sIx items.size items.size hi - sIx items.size 0 lo) == items.size)=true then _ else _) _ _ s
 rw [if_neg hno,Zls]
 first
  | exact wpAny_bind (m:=Builtin.Tuple.tupleExact _) (wpAny_newObj_type (wpAny_pure ⟨_,rfl,wpAny_pure h⟩) htake)
  | exact wpAny_bind (m:=Builtin.Tuple.tupleExact _) (wpAny_newObj_type (wpAny_bind (wpAny_pure (wpAny_pure ⟨_,rfl,wpAny_pure h⟩))) htake)
  | exact wpAny_bind (wpAny_bind (m:=Builtin.Tuple.tupleExact _) (wpAny_newObj_type (wpAny_pure (wpAny_pure ⟨_,rfl,wpAny_pure h⟩)) htake))
  | exact wpAny_bind (wpAny_bind (m:=Builtin.Tuple.tupleExact _) (wpAny_newObj_type (wpAny_pure ⟨_,rfl,wpAny_pure h⟩) htake))
end
end HT
namespace L2
open PySem PySem.Spec PyProof.Rows
abbrev TO:=St->Hp->(Option Int->Hp->Prop)->Prop
def PO (X:Cx) (e:Option Expr) (t:TO):Prop:=
 ∀ (pins:List (Addr × Obj)) (s:Shared) (σ:St) (H:Hp) (Q:Option Int->Hp->Prop),Inv X pins σ H s->t σ H Q →
  wpAny (model X.prog X.w) X.A (evalPart e X.env) (fun u s'=>∃ o H',Inv X pins σ H' s' /\ IsPart u o/\Q o H') X.xe s
def tNoPart:TO:=fun _ H Q=>Q none H
def tPart (t:TE):TO:=fun σ H Q=>t σ H fun x H1=>∃ i,x=.int i/\Q (some i) H1
theorem Ziz {ns:List Int}:∀ {us:List Value},Vals (ns.map V.int) us->IntsAre us ns:=by
 induction ns with
 | nil=>intro us r; rw [List.map_nil] at r; cases r; exact .nil
 | cons n ns ih=>
  intro us r
  rw [List.map_cons] at r
  cases r with
  | cons r1 r2=>
   obtain ⟨t,e⟩:=r1
   subst e
   exact .cons n t (ih r2)
section
variable {X:Cx} {e:Expr} {te:TE} {lo hi:Option Expr} {tl th:TO} {pos p2:Pos}
theorem Zo6:PO X none tNoPart:=by
 intro pins s σ H Q I h
 rw [evalPart_none]
 exact wpAny_pure ⟨none,H,I,.none,h⟩
theorem Znw (h:PE X e te):PO X (some e) (tPart te):=by
 intro pins s σ H Q I hw
 rw [evalPart_some]
 refine thn (h pins s σ H _ I hw) fun u s1 ⟨x,H1,I1,r1,q1⟩=>?_
 obtain ⟨i,rfl,q⟩:=q1
 obtain ⟨t,rfl⟩:=r1
 exact ⟨some i,H1,I1,.int i t,q⟩
def SlR (X:Cx) (r:V->Option Int->Option Int->Hp->VK->Prop):Prop:=
 ∀ (pins:List (Addr × Obj)) (s:Shared) (σ:St) (H:Hp) (x:V) (v vl vu:Value) (lo hi:Option Int) (sl:Addr) (Q:VK),Inv X pins σ H s->RelV x v->s.heap.IsSliceOf sl vl vu .none->IsPart vl lo->IsPart vu hi->r x lo hi H Q →
  ∃ T id,typeLookup (.type T) "__getitem__" = pure (some (.builtin id))/\s.TypeIs v T/\wpAny (model X.prog X.w) X.A (getItem v (.ref sl)) (EP X pins σ Q) X.xe s
theorem SlR.or {r r':V->Option Int->Option Int->Hp->VK->Prop} (h:SlR X r) (h':SlR X r'):SlR X (fun x lo hi H Q=>r x lo hi H Q\/r' x lo hi H Q):=by
 intro pins s σ H x v vl vu lo hi sl Q I rx hs pl pu q
 rcases q with q | q
 ·exact h pins s σ H x v vl vu lo hi sl Q I rx hs pl pu q
 ·exact h' pins s σ H x v vl vu lo hi sl Q I rx hs pl pu q
def tSl (r:V->Option Int->Option Int->Hp->VK->Prop) (te:TE) (tl th:TO):TE:=fun σ H Q=>te σ H fun x H1=>tl σ H1 fun l H2=>th σ H2 fun u H3=>r x l u H3 Q
theorem Zlk {r:V->Option Int->Option Int->Hp->VK->Prop} (hr:SlR X r) (he:PE X e te) (hl:PO X lo tl) (hu:PO X hi th):PE X (.Subscript e (.Slice lo hi none p2) pos) (tSl r te tl th):=by
 intro pins s σ H Q I h
 refine Subscript_ (thn (he pins s σ H _ I h) fun v s1 ⟨x,H1,I1,r1,q1⟩=>?_)
 refine wpAny_Slice (thn (hl pins s1 σ H1 _ I1 q1) fun vl s2 ⟨l,H2,I2,pl,q2⟩=>thn (hu pins s2 σ H2 _ I2 q2) fun vu s3 ⟨u,H3,I3,pu,q3⟩=>?_)
 rw [evalPart_none]
 refine wpAny_pure ?_
 have I4:Inv X pins σ H3 { s3 with heap:=s3.heap.push { cls:=.type "slice",data:=.fields #[vl,vu,.none] } }:=I3.kept (t':=s3.toks) fun b ob q=>Heap.get?_push_of_some _ q
 obtain ⟨T,id,hT,ht,hg⟩:=hr pins { s3 with heap:=s3.heap.push { cls:=.type "slice",data:=.fields #[vl,vu,.none] } } σ H3 x v vl vu l u s3.heap.objs.size Q I4 r1 (Heap.IsSliceOf.new ..) pl pu q3
 show wpAny (model X.prog X.w) X.A (subscriptTail e (.Slice lo hi none p2) v (.ref s3.heap.objs.size)) (EP X pins σ Q) X.xe { s3 with heap:=s3.heap.push { cls:=.type "slice",data:=.fields #[vl,vu,.none] } }
 exact tail_any (ops:=[.ref s3.heap.objs.size,v]) ht hT hg (by with_unfolding_all rfl)
def cutV (xs:List V) (lo hi:Option Int):List V:=(xs.drop (HT.sIx xs.length 0 lo)).take (HT.sIx xs.length xs.length hi - HT.sIx xs.length 0 lo)
theorem Zei (xs:List V) (lo hi:Option Int):(cutV xs lo hi).length<=xs.length:=by
 unfold cutV
 rw [List.length_take,List.length_drop]
 omega
def rSlT (K:PySem.W.Frag):V->Option Int->Option Int->Hp->VK->Prop:=fun x lo hi H Q=>∃ a xs,x=.ref a/\SqT K H a xs ∧
 ¬ (HT.sIx xs.length 0 lo=0/\HT.sIx xs.length xs.length hi=xs.length)/\∀ p,H p=none->Q (.ref p) (upd H p (.tup (cutV xs lo hi)))
theorem Zr2:SlR X (rSlT X.K):=by
 intro pins s σ H x v vl vu lo hi sl Q I rx hs pl pu h
 obtain ⟨a,xs,rfl,hx,hw,q⟩:=h
 cases rx
 obtain ⟨its,r,ht,hz⟩:=I.tuple hx
 have hlen:its.toArray.size=xs.length:=by rw [List.size_toArray]; exact r.length.symm
 refine ⟨"tuple",_,PyProof.Rows.slot_tuple_getitem.lookup,ht.typeIs,?_⟩
 refine HT.getItem_tuple_cut ht hs pl pu (by rw [hlen]; exact hw) ?_ (by rw [hlen]; exact hz)
 rw [hlen]
 refine ⟨.ref s.heap.objs.size,_,I.laid (t':=s.toks) (o:=.tup (cutV xs lo hi)) (fun b ob q=>Heap.get?_push_of_some _ q) (Nat.le_refl _) ?_,rfl,q _ (I.hok.fresh (Nat.le_refl _))⟩
 exact ⟨Nat.le_trans (Zei xs lo hi) hz,_,(r.drop (HT.sIx xs.length 0 lo)).take (HT.sIx xs.length xs.length hi - HT.sIx xs.length 0 lo),IsTupN.new _ _⟩
def rCatT (K:PySem.W.Frag):R2:=fun x y H Q=>∃ a b xs ys,x=.ref a/\y=.ref b/\SqT K H a xs/\SqT K H b ys/\xs ≠ []/\xs.length + ys.length<=sizeLine ∧
 (ys=[]->Q (.ref a) H)/\(ys ≠ []->∀ p,H p=none->Q (.ref p) (upd H p (.tup (xs ++ ys))))
theorem Vals.nil_iff {xs:List V} {us:List Value} (r:Vals xs us):us=[] ↔ xs=[]:=by
 cases r with
 | nil=>simp
 | cons _ _=>simp
theorem Zpl:OpR X (binaryOp .Add) (rCatT X.K):=by
 intro pins s σ H x y v u Q I rx ry h
 obtain ⟨a,b,xs,ys,rfl,rfl,ha,hb,hx,hz,q1,q2⟩:=h
 cases rx
 cases ry
 obtain ⟨its,r1,p1,_⟩:=I.tuple ha
 obtain ⟨its2,r2,p2,_⟩:=I.tuple hb
 refine HT.cat_tup p1 p2 (fun z=>hx (r1.nil_iff.mp z)) (fun z=>⟨.ref a,H,I,rfl,q1 (r2.nil_iff.mp z)⟩) (fun z=>?_) (by rw [<- r1.length,<- r2.length]; exact hz)
 refine ⟨.ref s.heap.objs.size,_,I.laid (t':=s.toks) (o:=.tup (xs ++ ys)) (fun b ob q=>Heap.get?_push_of_some _ q) (Nat.le_refl _) ?_,rfl,q2 (fun w=>z (r2.nil_iff.mpr w)) _ (I.hok.fresh (Nat.le_refl _))⟩
 exact ⟨by rw [List.length_append]; exact hz,_,r1.append r2,IsTupN.new _ _⟩
end
end L2
namespace L2
open PySem PySem.Spec PyProof.Rows
def ixN (n:Nat) (i:Int):Option Nat:=if 0<=i then (if i < n then some i.toNat else none) else if -(n:Int)<=i then some (i + n).toNat else none
def atI {α:Type} (xs:List α) (i:Int):Option α:=(ixN xs.length i).bind fun j=>xs[j]?
theorem Zku {n:Nat} {i:Int} {j:Nat} (h:ixN n i=some j):seqIndex? i n=some j/\j < n /\ -(n:Int)<=i/\i < n:=by
 unfold ixN at h
 by_cases h0:0<=i
 ·rw [if_pos h0] at h
  by_cases h1:i < n
  ·rw [if_pos h1] at h
   have e:i.toNat=j:=Option.some.inj h
   exact ⟨by rw [seqIndex_of h0 h1,e],by omega,by omega,h1⟩
  ·rw [if_neg h1] at h; cases h
 ·rw [if_neg h0] at h
  by_cases h1:-(n:Int)<=i
  ·rw [if_pos h1] at h
   have e:(i + n).toNat=j:=Option.some.inj h
   exact ⟨by rw [seqIndex_neg (by omega) h1,e],by omega,h1,by omega⟩
  ·rw [if_neg h1] at h; cases h
theorem Zg4 {α:Type} {xs:List α} {i:Int} {v:α} (h:atI xs i=some v):∃ j,seqIndex? i xs.length=some j/\xs[j]? = some v/\j < xs.length /\ -(xs.length:Int)<=i/\i < xs.length:=by
 unfold atI at h
 cases e:ixN xs.length i with
 | none=>rw [e] at h; cases h
 | some j=>
  rw [e] at h
  obtain ⟨h1,h2,h3,h4⟩:=Zku e
  exact ⟨j,h1,h,h2,h3,h4⟩
theorem Zbi {α:Type} {xs:List α} {j:Nat} {v:α} (h:xs[j]? = some v):atI xs (j:Int)=some v:=by
 have hj:j < xs.length:=(List.getElem?_eq_some_iff.mp h).1
 have e:ixN xs.length (j:Int)=some j:=by
  unfold ixN
  rw [if_pos (by omega),if_pos (by omega)]; simp
 unfold atI; rw [e]; exact h
theorem Znc {α:Type} (xs:List α) (v:α):atI (xs ++ [v]) (-1)=some v:=by
 have hl:(xs ++ [v]).length=xs.length + 1:=by simp
 have e:ixN (xs ++ [v]).length (-1)=some xs.length:=by
  unfold ixN
  rw [hl,if_neg (by decide),if_pos (by omega)]
  congr 1
  omega
 unfold atI
 rw [e]
 show (xs ++ [v])[xs.length]? = some v
 simp
def PlainIx (b:Expr):Prop:=∀ o i,subscripted b false o i=operate [o,i] (getItem o i)
def IxR (X:Cx) (r:R2):Prop:=
 ∀ (value slice:Expr) (pins:List (Addr × Obj)) (s:Shared) (σ:St) (H:Hp) (x y:V) (v u:Value) (Q:VK),Inv X pins σ H s->RelV x v->RelV y u->r x y H Q →
  subscripted slice false v u=operate [v,u] (getItem v u)->wpAny (model X.prog X.w) X.A (subscriptTail value slice v u) (EP X pins σ Q) X.xe s
def MtR (X:Cx) (id:String) (r:V->List V->Hp->VK->Prop):Prop:=
 ∀ (pins:List (Addr × Obj)) (s:Shared) (σ:St) (H:Hp) (x:V) (xs:List V) (v:Value) (us:List Value) (Q:VK),Inv X pins σ H s->RelV x v->Vals xs us->r x xs H Q →
  wpAny (model X.prog X.w) X.A (call (.builtin id) (v :: us)) (EP X pins σ Q) X.xe s
section
variable {X:Cx} {a b:Expr} {ta tb:TE} {pos:Pos}
theorem IxR.or {r r':R2} (h:IxR X r) (h':IxR X r'):IxR X (fun x y H Q=>r x y H Q\/r' x y H Q):=by
 intro value slice pins s σ H x y v u Q I rx ry q hs
 rcases q with q | q
 ·exact h value slice pins s σ H x y v u Q I rx ry q hs
 ·exact h' value slice pins s σ H x y v u Q I rx ry q hs
theorem Za2 {r:R2} (hr:IxR X r) (ha:PE X a ta) (hb:PE X b tb) (hs:PlainIx b):PE X (.Subscript a b pos) (tOp r ta tb):=by
 intro pins s σ H Q I h
 exact Subscript_ (binT ha hb I h fun v u s2 x y H2 I2 rx ry q=>hr a b pins s2 σ H2 x y v u Q I2 rx ry q (hs _ _))
def rIxL (K:PySem.W.Frag):R2:=fun x y H Q=>∃ p xs i v,x=.ref p/\y=.int i/\SqL K H p xs/\atI xs i=some v/\Q v H
def rIxT (K:PySem.W.Frag):R2:=fun x y H Q=>∃ p xs i v,x=.ref p/\y=.int i/\SqT K H p xs/\atI xs i=some v/\Q v H
def rIxS:R2:=fun x y H Q=>∃ z i c,x=.str z/\y=.int i/\z.length<=sizeLine/\atI z.cps.toList i=some c/\Q (.str ⟨#[c]⟩) H
theorem Zpf:IxR X (rIxL X.K):=by
 intro value slice pins s σ H x y v u Q I rx ry h hs
 obtain ⟨p,xs,i,z,rfl,rfl,hq,he,q⟩:=h
 cases rx
 obtain ⟨t,rfl⟩:=ry
 obtain ⟨its,r,pl,hz⟩:=I.list hq
 obtain ⟨j,h1,h2,h3,h4,h5⟩:=Zg4 he
 obtain ⟨w,ew,rw'⟩:=r.get h2
 have hl:=r.length
 have hn:=line63
 have fin:EP X pins σ Q w s:=⟨z,H,I,rw',q⟩
 by_cases h0:0<=i
 ·have hj:i.toNat=j:=by
   rw [seqIndex_of h0 h5] at h1
   exact Option.some.inj h1
  exact item_listR pl.isList h0 (by omega) (by rw [hj]; simpa using ew) fin hs
 ·have hj:(i + (its.toArray.size:Int)).toNat=j:=by
   rw [seqIndex_neg (by omega) h4] at h1
   rw [List.size_toArray,<- hl]
   exact Option.some.inj h1
  exact subscriptTail_builtinR (x:=w) pl.isList.typeIs slot_list_getitem.lookup
   (wpAny_getItem_list_neg (Q:=fun r s'=>r=w/\EP X pins σ Q r s') pl.isList (by omega) (by rw [List.size_toArray] <;> omega) (by omega) (by rw [hj]; simpa using ew) ⟨rfl,fin⟩) hs
theorem Zri:IxR X (rIxT X.K):=by
 intro value slice pins s σ H x y v u Q I rx ry h hs
 obtain ⟨p,xs,i,z,rfl,rfl,hq,he,q⟩:=h
 cases rx
 obtain ⟨t,rfl⟩:=ry
 obtain ⟨its,r,pl,hz⟩:=I.tuple hq
 obtain ⟨j,h1,h2,h3,h4,h5⟩:=Zg4 he
 obtain ⟨w,ew,rw'⟩:=r.get h2
 have hl:=r.length
 have hn:=line63
 have fin:EP X pins σ Q w s:=⟨z,H,I,rw',q⟩
 exact subscriptTail_builtinR (x:=w) pl.typeIs slot_tuple_getitem.lookup
  (getItem_tuple (j:=j) (Q:=fun r s'=>r=w/\EP X pins σ Q r s') pl (by omega) (by omega) (by rw [List.size_toArray,<- hl]; exact h1) (by simpa using ew) ⟨rfl,fin⟩) hs
theorem Zrf:IxR X rIxS:=by
 intro value slice pins s σ H x y v u Q I rx ry h hs
 obtain ⟨z,i,c,rfl,rfl,hz,he,q⟩:=h
 obtain ⟨t,rfl⟩:=rx
 obtain ⟨t',rfl⟩:=ry
 obtain ⟨j,h1,h2,h3,h4,h5⟩:=Zg4 he
 have hl:z.cps.toList.length=z.length:=by simp [Str.length]
 rw [hl] at h1 h4 h5
 have hn:=line63
 exact tail_any (typeIs_str s z t) slot_str_getitem.lookup (getItem_str (c:=c) (by
  have e1:decide (i < -(2 ^ 63:Int))=false:=decide_eq_false (by omega)
  have e2:decide (i ≥ 2 ^ 63)=false:=decide_eq_false (by omega)
  rw [e1,e2,Bool.or_false]) (by rw [h1]; simpa using h2) ⟨.str ⟨#[c]⟩,H,I.tok _,⟨_,rfl⟩,q⟩) hs
def rIx (K:PySem.W.Frag):R2:=fun x y H Q=>rIxL K x y H Q\/rIxT K x y H Q\/rIxS x y H Q
theorem Zr3:IxR X (rIx X.K):=Zpf.or (Zri.or Zrf)
theorem Zi8 (its:List Value) (n j:Nat) (u:Value):Obj.mapSeq (·.setIfInBounds j u) { cls:=.type "list",data:=.seq its.toArray n } = { cls:=.type "list",data:=.seq (its.set j u).toArray n }:=by
 simp [Obj.mapSeq]
theorem Inv.lst {pins:List (Addr × Obj)} {σ:St} {H:Hp} {s:Shared} {p:Addr} {xs:List V} (I:Inv X pins σ H s) (h:H p=some (.lst xs)) :
  ∃ (its:List Value) (n:Nat),Vals xs its/\s.heap.get? p=some { cls:=.type "list",data:=.seq its.toArray n } /\ xs.length<=sizeLine:=by
 obtain ⟨z,its,n,r,e⟩:=I.hok p _ h
 exact ⟨its,n,r,e,z⟩
theorem Inv.lstUpd {pins:List (Addr × Obj)} {σ:St} {H:Hp} {s:Shared} {p:Addr} {xs ys:List V} {its its':List Value} {n n':Nat} {f:Obj->Obj} (I:Inv X pins σ H s) (h:H p=some (.lst xs))
  (ho:s.heap.get? p=some { cls:=.type "list",data:=.seq its.toArray n }) (hf:f { cls:=.type "list",data:=.seq its.toArray n } = { cls:=.type "list",data:=.seq its'.toArray n' }) (r:Vals ys its') (hz:ys.length<=sizeLine) (t:Nat) :
  Inv X pins σ (upd H p (.lst ys)) { s with heap:=s.heap.update p f,toks:=t }:=by
 have e:(s.heap.update p f).get? p=some { cls:=.type "list",data:=.seq its'.toArray n' }:=by
  rw [Heap.get?_update_self f ho (by rw [hf] <;> rfl),hf]
 refine I.write (x:=p) (e:=p) (by rw [h]; trivial) (.inl rfl) (fun b u hb q=>(Heap.get?_update_other _ _ (Ne.symm hb)).trans q) ⟨_,e⟩ ?_
 exact ⟨hz,its',n',r,e⟩
def rSetL:V->V->V->Hp->(Hp->Prop)->Prop:=fun o i v H Q=>∃ p xs k j,o=.ref p/\i=.int k/\H p=some (.lst xs)/\ixN xs.length k=some j/\Q (upd H p (.lst (xs.set j v)))
theorem Zmt:PSet X rSetL:=by
 intro pins s σ H o i v ov iv u Q I ro ri rv h
 obtain ⟨p,xs,k,j,rfl,rfl,hp,hj,q⟩:=h
 cases ro
 obtain ⟨t,rfl⟩:=ri
 obtain ⟨its,n,r,ho,hz⟩:=I.lst hp
 obtain ⟨h1,h2,h3,h4⟩:=Zku hj
 have hl:=r.length
 have hn:=line63
 have I':Inv X pins σ (upd H p (.lst (xs.set j v))) { s with heap:=s.heap.update p (Obj.mapSeq (·.setIfInBounds j u)) }:=
  I.lstUpd hp ho (Zi8 its n j u) (r.set rv j) (by rw [List.length_set]; exact hz) s.toks
 by_cases h0:0<=k
 ·have hk:k.toNat=j:=by
   rw [seqIndex_of h0 h4] at h1
   exact Option.some.inj h1
  exact PySem.W.ki_setAt ho h0 (by omega) (by rw [List.size_toArray,<- hl]; exact h4) (by rw [hk]; exact ⟨_,I',q⟩)
 ·have hk:(k + (its.toArray.size:Int)).toNat=j:=by
   rw [seqIndex_neg (by omega) h3] at h1
   rw [List.size_toArray,<- hl]
   exact Option.some.inj h1
  exact PySem.W.ki_setBack ho (by omega) (by rw [List.size_toArray,<- hl]; exact h3) (by omega) (by rw [hk]; exact ⟨_,I',q⟩)
theorem Zfz (lo hi:Option Int) (n:Nat):(sliceBounds lo hi none n).1=((HT.sIx n 0 lo:Nat):Int)/\(sliceBounds lo hi none n).2.1=((HT.sIx n n hi:Nat):Int)/\(sliceBounds lo hi none n).2.2=1:=by
 refine ⟨?_,?_,rfl⟩
 ·cases lo with
  | none=>simp [sliceBounds,HT.sIx]
  | some i=>
   simp only [sliceBounds,HT.sIx,Option.getD_none,show (1:Int) > 0 by decide,if_true]
   by_cases h:i < 0
   ·simp only [h,if_true] <;> omega
   ·simp only [h,if_false] <;> omega
 ·cases hi with
  | none=>simp [sliceBounds,HT.sIx]
  | some i=>
   simp only [sliceBounds,HT.sIx,Option.getD_none,show (1:Int) > 0 by decide,if_true]
   by_cases h:i < 0
   ·simp only [h,if_true] <;> omega
   ·simp only [h,if_false] <;> omega
theorem Ze8 (its:List Value) (lo hi:Option Int):slicePick its.toArray lo hi none=((its.drop (HT.sIx its.length 0 lo)).take (HT.sIx its.length its.length hi - HT.sIx its.length 0 lo)).toArray:=by
 obtain ⟨h1,h2,h3⟩:=Zfz lo hi its.toArray.size
 unfold slicePick
 rw [h1,h2,h3]
 simp only [sliceRange_one,pick_run,List.size_toArray] <;> rfl
def rSlL (K:PySem.W.Frag):V->Option Int->Option Int->Hp->VK->Prop:=fun x lo hi H Q=>∃ a xs,x=.ref a/\SqL K H a xs/\∀ p,H p=none->Q (.ref p) (upd H p (.lst (cutV xs lo hi)))
theorem Zpq:SlR X (rSlL X.K):=by
 intro pins s σ H x v vl vu lo hi sl Q I rx hs pl pu h
 obtain ⟨a,xs,rfl,hx,q⟩:=h
 cases rx
 obtain ⟨its,r,ht,hz⟩:=I.list hx
 have hlen:=r.length
 refine ⟨"list",_,slot_list_getitem.lookup,ht.isList.typeIs,?_⟩
 refine wpAny_getItem_list_slice ht.isList hs pl pu .none (by simp) ?_ (by rw [List.size_toArray] <;> omega)
 rw [Ze8,<- hlen]
 refine ⟨.ref s.heap.objs.size,_,I.laid (t':=s.toks) (o:=.lst (cutV xs lo hi)) (fun b ob q=>Heap.get?_push_of_some _ q) (Nat.le_refl _) ?_,rfl,q _ (I.hok.fresh (Nat.le_refl _))⟩
 exact ⟨Nat.le_trans (Zei xs lo hi) hz,_,0,(r.drop (HT.sIx xs.length 0 lo)).take (HT.sIx xs.length xs.length hi - HT.sIx xs.length 0 lo),Heap.get?_push_size _ rfl⟩
def flatV:V->Bool
 | .non=>true
 | .bl _=>true
 | .int _=>true
 | .str _=>true
 | _=>false
def eqV:V->V->Bool
 | .non,.non=>true
 | .bl a,.bl b=>a == b
 | .bl a,.int b=>(if a then 1 else 0) == b
 | .int a,.bl b=>a == (if b then 1 else 0)
 | .int a,.int b=>a == b
 | .str a,.str b=>a == b
 | _,_=>false
theorem Znu {A:Around} {s:Shared} {y x:V} {u v:Value} (ry:RelV y u) (rx:RelV x v) (fy:flatV y=true) (fx:flatV x=true):SeqAt.EqAt A s u v (eqV y x):=by
 cases y with
 | non=>
  cases ry
  cases x with
  | non=>cases rx; exact SeqAt.EqAt.same _
  | bl b=>cases rx; exact SeqAt.EqAt.none_bool b
  | int b=>obtain ⟨t,rfl⟩:=rx; exact SeqAt.EqAt.none_int b t
  | str b=>obtain ⟨t,rfl⟩:=rx; exact SeqAt.EqAt.none_str b t
  | _=>exact absurd (show false=true from fx) Bool.false_ne_true
 | bl a=>
  cases ry
  cases x with
  | non=>cases rx; exact SeqAt.EqAt.bool_none a
  | bl b=>cases rx; exact SeqAt.EqAt.bool_bool a b
  | int b=>obtain ⟨t,rfl⟩:=rx; exact SeqAt.EqAt.bool_int a b t
  | str b=>obtain ⟨t,rfl⟩:=rx; exact SeqAt.EqAt.bool_str a b t
  | _=>exact absurd (show false=true from fx) Bool.false_ne_true
 | int a=>
  obtain ⟨t',rfl⟩:=ry
  cases x with
  | non=>cases rx; exact SeqAt.EqAt.int_none a t'
  | bl b=>cases rx; exact SeqAt.EqAt.int_bool a t' b
  | int b=>obtain ⟨t,rfl⟩:=rx; exact SeqAt.EqAt.int_int a t' b t
  | str b=>obtain ⟨t,rfl⟩:=rx; exact SeqAt.EqAt.int_str a t' b t
  | _=>exact absurd (show false=true from fx) Bool.false_ne_true
 | str a=>
  obtain ⟨t',rfl⟩:=ry
  cases x with
  | non=>cases rx; exact SeqAt.EqAt.str_none a t'
  | bl b=>cases rx; exact SeqAt.EqAt.str_bool a t' b
  | int b=>obtain ⟨t,rfl⟩:=rx; exact SeqAt.EqAt.str_int a t' b t
  | str b=>obtain ⟨t,rfl⟩:=rx; exact SeqAt.EqAt.str_str a t' b t
  | _=>exact absurd (show false=true from fx) Bool.false_ne_true
 | _=>exact absurd (show false=true from fy) Bool.false_ne_true
def eqU (x:V) (u:Value):Bool:=match u with
 | .none=>eqV .non x
 | .bool b=>eqV (.bl b) x
 | .int i _=>eqV (.int i) x
 | .str z _=>eqV (.str z) x
 | _=>false
theorem Zho {x y:V} {u:Value} (r:RelV y u) (f:flatV y=true):eqU x u=eqV y x:=by
 cases y with
 | non=>cases r; rfl
 | bl b=>cases r; rfl
 | int i=>obtain ⟨t,rfl⟩:=r; rfl
 | str z=>obtain ⟨t,rfl⟩:=r; rfl
 | _=>exact absurd (show false=true from f) Bool.false_ne_true
theorem Zg1 {x:V}:∀ {xs:List V} {us:List Value},Vals xs us->xs.all flatV=true->us.any (eqU x)=xs.any fun y=>eqV y x
 | _,_,.nil,_=>rfl
 | y :: xs,u :: us,.cons r t,f=>by
  rw [List.all_cons,Bool.and_eq_true] at f
  rw [List.any_cons,List.any_cons,Zho r f.1,Zg1 t f.2]
theorem Zfj {A:Around} {s:Shared} {x:V} {v:Value} (rx:RelV x v) (fx:flatV x=true):∀ {xs:List V} {us:List Value},Vals xs us->xs.all flatV=true->∀ u ∈ us,SeqAt.EqAt A s u v (eqU x u)
 | _,_,.nil,_=>fun u hu=>by cases hu
 | y :: xs,u :: us,.cons r t,f=>fun u' hu=>by
  rw [List.all_cons,Bool.and_eq_true] at f
  rcases List.mem_cons.mp hu with rfl | hu
  ·rw [Zho r f.1]; exact Znu r rx f.1 fx
  ·exact Zfj rx fx t f.2 u' hu
def inV (x:V) (xs:List V):Bool:=xs.any fun y=>eqV y x
def rIn (K:PySem.W.Frag) (neg:Bool):R2:=fun x y H Q=>∃ p xs,y=.ref p/\(SqL K H p xs\/SqT K H p xs)/\flatV x=true/\xs.all flatV=true/\Q (.bl (if neg then !inV x xs else inV x xs)) H
theorem Zfx:OpR X (compareOp .NotIn) (rIn X.K true):=by
 intro pins s σ H x y v u Q I rx ry h
 obtain ⟨p,xs,rfl,hq,fx,fs,q⟩:=h
 cases ry
 rcases hq with hq | hq
 ·obtain ⟨its,r,pl,hz⟩:=I.list hq
  refine SeqAt.notIn_listAt (eqU x) pl.isList (fun w hw=>Zfj rx fx r fs w (by simpa using hw)) ⟨.bl _,H,I,rfl,?_⟩
  rw [show its.toArray.any (eqU x)=its.any (eqU x) by simp,Zg1 r fs]
  exact q
 ·obtain ⟨its,r,pl,hz⟩:=I.tuple hq
  refine SeqAt.notIn_tupleAt (eqU x) pl (fun w hw=>Zfj rx fx r fs w (by simpa using hw)) ⟨.bl _,H,I,rfl,?_⟩
  rw [show its.toArray.any (eqU x)=its.any (eqU x) by simp,Zg1 r fs]
  exact q
theorem Zgd:CallR X (.builtin "len") (fun xs H Q=>∃ p ys,xs=[.ref p]/\(SqL X.K H p ys\/SqT X.K H p ys)/\Q (.int ys.length) H):=by
 intro pins s σ H xs us Q I r h
 obtain ⟨p,ys,rfl,hq,q⟩:=h
 obtain ⟨u,rfl,rx⟩:=vals1 r
 cases rx
 have hn:=line63
 rcases hq with hq | hq
 ·obtain ⟨its,r',pl,hz⟩:=I.list hq
  have hlen:=r'.length
  exact Calls.call_len_list pl.isList (by simp only [List.size_toArray] <;> omega) ⟨.int ys.length,H,I.tok _,⟨s.toks + 1,by rw [List.size_toArray,hlen]⟩,q⟩
 ·obtain ⟨its,r',pl,hz⟩:=I.tuple hq
  have hlen:=r'.length
  exact len_tuple pl (by simp only [List.size_toArray] <;> omega) ⟨.int ys.length,H,I.tok _,⟨s.toks + 1,by rw [List.size_toArray,hlen]⟩,q⟩
theorem CallR.or {f:Value} {r r':List V->Hp->VK->Prop} (h:CallR X f r) (h':CallR X f r'):CallR X f (fun xs H Q=>r xs H Q\/r' xs H Q):=by
 intro pins s σ H xs us Q I rs q
 rcases q with q | q
 ·exact h pins s σ H xs us Q I rs q
 ·exact h' pins s σ H xs us Q I rs q
theorem Zfr:CallR X (.type "tuple") (fun xs H Q=>∃ p ys,xs=[.ref p]/\((SqL X.K H p ys/\∀ l,H l=none->Q (.ref l) (upd H l (.tup ys)))\/(SqT X.K H p ys/\Q (.ref p) H))):=by
 intro pins s σ H xs us Q I r h
 obtain ⟨p,ys,rfl,h⟩:=h
 obtain ⟨u,rfl,rx⟩:=vals1 r
 cases rx
 rcases h with ⟨hq,q⟩ | ⟨hq,q⟩
 ·obtain ⟨its,r',pl,hz⟩:=I.list hq
  have hlen:=r'.length
  refine call_tuple_list pl.isList (fun h' kp=>?_) (by simp only [List.size_toArray] <;> omega)
  have I1:Inv X pins σ H { s with heap:=h' }:=I.kept (t':=s.toks) kp
  have I2:Inv X pins σ (upd H h'.objs.size (.tup ys)) { s with heap:=h'.push { cls:=.type "tuple",data:=.seq its.toArray } }:=
   I1.laid (t':=s.toks) (fun b o e=>Heap.get?_push_of_some _ e) (Nat.le_refl _) (show ObjOk X.prog X.w _ _ _ (.tup ys) from ⟨hz,its,r',IsTupN.new _ _⟩)
  exact ⟨.ref h'.objs.size,_,I2,rfl,q _ (I1.hok.fresh (Nat.le_refl _))⟩
 ·obtain ⟨its,r',pl,hz⟩:=I.tuple hq
  exact call_tuple_same pl ⟨.ref p,H,I,rfl,q⟩
def tyV (K:PySem.W.Frag) (T:String) (x:V) (H:Hp):Prop:=match x with
 | .str _=>T = "str"
 | .int _=>T = "int"
 | .ref p=>(T = "list" /\ ∃ xs,SqL K H p xs)\/(T = "tuple" /\ ((∃ o,K.lookup p=some o/\o.cls=.type "tuple" /\ o.dict=none)\/∃ xs,H p=some (.tup xs))) ∨
   (T = "dict" /\ ((∃ kvs,H p=some (.dK kvs))\/∃ kvs,H p=some (.dT kvs)))\/(T = "set" /\ ∃ S n,H p=some (.set S n))
 | _=>False
theorem Znn {pins:List (Addr × Obj)} {σ:St} {H:Hp} {s:Shared} {T:String} {x:V} {v:Value} (I:Inv X pins σ H s) (r:RelV x v) (ty:tyV X.K T x H) :
  s.TypeIs v T/\∀ a,v=.ref a->∃ ob,s.heap.get? a=some ob/\ob.dict=none:=by
 cases x with
 | str z=>
  obtain ⟨t,rfl⟩:=r
  cases (show T = "str" from ty)
  exact ⟨typeIs_str s z t,fun _ e=>nomatch e⟩
 | int i=>
  obtain ⟨t,rfl⟩:=r
  cases (show T = "int" from ty)
  exact ⟨typeIs_int s i t,fun _ e=>nomatch e⟩
 | ref p=>
  cases r
  rcases ty with ⟨rfl,xs,hq⟩ | ⟨rfl,(⟨o,hk,hc,hd⟩ | ⟨xs,hk⟩)⟩ | ⟨rfl,hk⟩ | ⟨rfl,S,n,hk⟩
  ·obtain ⟨its,_,pl,_⟩:=I.list hq
   refine ⟨pl.isList.typeIs,fun a e=>?_⟩
   cases e
   obtain ⟨o,n,e,c,hd,_⟩:=pl
   exact ⟨o,e,hd⟩
  ·refine ⟨⟨o,I.kIn p o hk,hc⟩,fun a e=>?_⟩
   cases e
   exact ⟨o,I.kIn _ o hk,hd⟩
  ·obtain ⟨_,_,_,o,e,⟨hc,_⟩,hd⟩:=I.hok p _ hk
   refine ⟨⟨o,e,hc⟩,fun a e2=>?_⟩
   cases e2
   exact ⟨o,e,hd⟩
  ·have z:∃ o,s.heap.get? p=some o/\o.ExactDict:=by
    rcases hk with ⟨kvs,hk⟩ | ⟨kvs,hk⟩
    ·obtain ⟨_,_,_,_,o,_,_,e,ex,_⟩:=I.hok p _ hk
     exact ⟨o,e,ex⟩
    ·obtain ⟨_,_,_,_,o,_,_,e,ex,_⟩:=I.hok p _ hk
     exact ⟨o,e,ex⟩
   obtain ⟨o,e,ex⟩:=z
   refine ⟨⟨o,e,ex.1⟩,fun a e2=>?_⟩
   cases e2
   exact ⟨o,e,ex.2.1⟩
  ·obtain ⟨o,_,_,_,e,ex,_⟩:=I.hok p _ hk
   refine ⟨⟨o,e,ex.1⟩,fun a e2=>?_⟩
   cases e2
   exact ⟨o,e,ex.2.1⟩
 | _=>exact False.elim ty
def tBM0 (K:PySem.W.Frag) (T:String) (r:V->List V->Hp->VK->Prop) (to:TE):TE:=fun σ H Q=>to σ H fun x H1=>tyV K T x H1/\r x [] H1 Q
def tBM (K:PySem.W.Frag) (T:String) (r:V->List V->Hp->VK->Prop) (to:TE) (t:TA):TE:=fun σ H Q=>to σ H fun x H1=>tyV K T x H1/\t σ H1 fun xs H2=>r x xs H2 Q
variable {o e:Expr} {es:List Expr} {to:TE} {t:TA} {name:Str} {apos cpos:Pos} {T id:String} {r:V->List V->Hp->VK->Prop}
theorem Zqq (pa:PlainAttrs T) (slot:Slot T name id) (hty:typeOf (.builtin id)=pure (.type "method_descriptor")) (hm:MtR X id r) (ho:PE X o to)
  (hbase:attributeBase o name X.env (eval o X.env)=eval o X.env:=by rfl) (hline:(apos.endLine == cpos.line)=true:=by rfl):PE X (.Call (.Attribute o name apos) [] [] cpos) (tBM0 X.K T r to):=by
 intro pins s σ H Q I h
 refine wpAny_Call_method0_late hbase hline (thn (ho pins s σ H _ I h) fun v s1 ⟨x,H1,I1,r1,ty,q1⟩=>?_)
 obtain ⟨h1,h2⟩:=Znn I1 r1 ty
 exact ⟨T,id,pa,slot,hty,h1,h2,Calls.callWith_builtin rfl (PySem.evalArgs_none (hm pins s1 σ H1 x [] v [] Q I1 r1 .nil q1))⟩
theorem Zso (pa:PlainAttrs T) (slot:Slot T name id) (hty:typeOf (.builtin id)=pure (.type "method_descriptor")) (hm:MtR X id r) (ho:PE X o to) (ha:PA X (e :: es) t)
  (hbase:attributeBase o name X.env (eval o X.env)=eval o X.env:=by rfl)
  (hfew:((backTo cpos (starEach (e :: es) X.env)).all (fun x=>!x.1) && (backToKw cpos (keywordEach [] X.env)).all (fun x=>x.1.isSome)
   && decide ((e :: es).length + ([]:List Keyword).length + (if ([]:List Keyword).isEmpty then 0 else 1) < 30))=true:=by rfl)
  (hline:(apos.endLine == cpos.line)=true:=by rfl) (hs:starEach (e :: es) X.env=(false,eval e X.env) :: starEach es X.env:=by rfl) (hplain:(backTo cpos (starEach es X.env)).any (·.1)=false:=by rfl) :
  PE X (.Call (.Attribute o name apos) (e :: es) [] cpos) (tBM X.K T r to t):=by
 intro pins s σ H Q I h
 refine wpAny_Call_method_late hbase hfew hline rfl (thn (ho pins s σ H _ I h) fun v s1 ⟨x,H1,I1,r1,ty,q1⟩=>?_)
 obtain ⟨h1,h2⟩:=Znn I1 r1 ty
 refine ⟨T,id,pa,slot,hty,h1,h2,?_⟩
 have hA:=ha cpos pins s1 σ H1 _ I1 q1
 rw [hs] at hA ⊢
 refine Calls.callWith_builtin (by show (false || (backTo cpos (starEach es X.env)).any (·.1))=false; rw [hplain] <;> rfl) (Calls.evalArgs_plain ?_)
 exact thn hA fun us s2 ⟨vs,H2,I2,r2,q2⟩=>hm pins s2 σ H2 x vs v us Q I2 r1 r2 q2
end
end L2
namespace L2
open PySem PySem.Spec PyProof.Rows
def MtM (X:Cx) (id:String) (r:V->List V->Hp->VK->Prop):Prop:=
 ∀ (pins:List (Addr × Obj)) (s:Shared) (σ:St) (H:Hp) (x:V) (xs:List V) (v:Value) (us:List Value) (Q:VK),Inv X pins σ H s->RelV x v->Vals xs us->r x xs H Q →
  wpAny (model X.prog X.w) X.A (call (.builtin id) (v :: us)) (EP X pins σ Q) X.xe s
theorem Vals.one:∀ {x:V} {us:List Value},Vals [x] us->∃ u,us=[u]/\RelV x u:=by
 intro x us h; cases h with | cons r t=>cases t; exact ⟨_,rfl,r⟩
theorem Vals.two:∀ {x y:V} {us:List Value},Vals [x,y] us->∃ u v,us=[u,v]/\RelV x u/\RelV y v:=by
 intro x y us h; cases h with | cons r t=>cases t with | cons q t=>cases t; exact ⟨_,_,rfl,r,q⟩
theorem Vals.zero:∀ {us:List Value},Vals [] us->us=[]
 | _,.nil=>rfl
theorem Vals.reverse {xs:List V} {us:List Value} (h:Vals xs us):Vals xs.reverse us.reverse:=by
 induction h with
 | nil=>exact .nil
 | cons r t ih=>rw [List.reverse_cons,List.reverse_cons]; exact Vals.append ih (.cons r .nil)
section
variable {X:Cx} {pins:List (Addr × Obj)} {σ:St} {H:Hp} {s:Shared} {l b:Addr} {xs ys zs:List V}
theorem Inv.lset {its its':List Value} {n:Nat} {f:Array Value->Array Value} {t':Nat} (I:Inv X pins σ H s) (hH:H l=some (.lst xs))
  (e:s.heap.get? l=some { cls:=.type "list",data:=.seq its.toArray n }) (hf:f its.toArray=its'.toArray) (hv:Vals ys its') (hz:ys.length<=sizeLine) :
  Inv X pins σ (upd H l (.lst ys)) { s with heap:=s.heap.update l (Obj.mapSeq f),toks:=t' }:=by
 have q:=PySem.IsL.update e f
 rw [hf] at q
 refine I.write (x:=l) (e:=l) (by rw [hH]; exact trivial) (.inl rfl) (fun b' u hb hu=>(Heap.get?_update_other s.heap (Obj.mapSeq f) (Ne.symm hb)).trans hu) ⟨_,q⟩ ?_
 exact ⟨hz,its',_,hv,q⟩
theorem Inv.lnew {its:List Value} {t':Nat} (I:Inv X pins σ H s) (hv:Vals ys its) (hz:ys.length<=sizeLine) :
  Inv X pins σ (upd H s.heap.objs.size (.lst ys)) { s with heap:=s.heap.push { cls:=.type "list",data:=.seq its.toArray },toks:=t' }:=
 I.laid (fun _ _ q=>Heap.get?_push_of_some _ q) (Nat.le_refl _) ⟨hz,its,0,hv,Heap.get?_push_size _ rfl⟩
theorem Inv.fresh (I:Inv X pins σ H s):H s.heap.objs.size=none:=I.hok.fresh (Nat.le_refl _)
theorem Inv.lstM (I:Inv X pins σ H s) (hH:H l=some (.lst xs)):xs.length<=sizeLine/\∃ (its:List Value) (n:Nat),Vals xs its/\xs.length=its.length/\s.heap.get? l=some { cls:=.type "list",data:=.seq its.toArray n }:=by
 obtain ⟨z,its,n,r,e⟩:=I.hok l _ hH
 exact ⟨z,its,n,r,r.length,e⟩
end
section
variable {X:Cx}
def rAppend:V->List V->Hp->VK->Prop:=fun x vs H Q=>∃ l xs y,x=.ref l/\vs=[y]/\H l=some (.lst xs)/\xs.length < sizeLine/\Q .non (upd H l (.lst (xs ++ [y])))
theorem Zbo:MtM X "list.append" rAppend:=by
 intro pins s σ H x vs v us Q I rx rv h
 obtain ⟨l,xs,y,rfl,rfl,hH,hz,q⟩:=h
 cases rx
 obtain ⟨u,rfl,ru⟩:=rv.one
 obtain ⟨z,its,n,r,hl,e⟩:=I.lstM hH
 refine call_meets F.slot_list_append ⟨_,e,rfl⟩ F.entry_list_append (F.args_list_append_2 _ _) (PySem.list_append l its.toArray n u (by rw [List.size_toArray]; omega)) ⟨e,?_⟩
 refine ⟨.non,_,I.lset (its':=its ++ [u]) hH e (by simp) (r.append (.cons ru .nil)) ?_,rfl,q⟩
 rw [List.length_append,List.length_singleton]
 omega
def rReverse:V->List V->Hp->VK->Prop:=fun x vs H Q=>∃ l xs,x=.ref l/\vs=[]/\H l=some (.lst xs)/\Q .non (upd H l (.lst xs.reverse))
theorem Zix:MtM X "list.reverse" rReverse:=by
 intro pins s σ H x vs v us Q I rx rv h
 obtain ⟨l,xs,rfl,rfl,hH,q⟩:=h
 cases rx
 have hus:=rv.zero
 subst hus
 obtain ⟨z,its,n,r,hl,e⟩:=I.lstM hH
 refine call_meets F.slot_list_reverse ⟨_,e,rfl⟩ F.entry_list_reverse (F.args_list_reverse_1 _) (AutoSeq1.list_reverse_list_0 l its.toArray n (by rw [List.size_toArray]; omega)) ⟨e,?_⟩
 refine ⟨.non,_,I.lset (its':=its.reverse) hH e (by simp) r.reverse ?_,rfl,q⟩
 rw [List.length_reverse]
 omega
def rCat:R2:=fun x y H Q=>∃ l b xs zs,x=.ref l/\y=.ref b/\H l=some (.lst xs)/\H b=some (.lst zs)/\xs.length + zs.length<=sizeLine/\∀ p,H p=none->Q (.ref p) (upd H p (.lst (xs ++ zs)))
theorem Zp2:OpR X (binaryOp .Add) rCat:=by
 intro pins s σ H x y v u Q I rx ry h
 obtain ⟨l,b,xs,zs,rfl,rfl,hH,hB,hz,q⟩:=h
 cases rx
 cases ry
 obtain ⟨z,its,n,r,hl,e⟩:=I.lstM hH
 obtain ⟨z2,its2,n2,r2,hl2,e2⟩:=I.lstM hB
 refine PySem.P.add_list e e2 ?_ (by rw [List.size_toArray,List.size_toArray]; omega)
 have ea:its.toArray ++ its2.toArray=(its ++ its2).toArray:=by simp
 rw [ea]
 exact ⟨.ref _,_,I.lnew (t':=s.toks) (r.append r2) (by rw [List.length_append]; omega),rfl,q _ I.fresh⟩
end
section
variable {X:Cx}
end
end L2
namespace Att
open PySem PySem.W PySem.Calls PyProof.Rows
theorem Zec {P:Params} {h:Heap}:∀ (ns:List Int) (vs:List Value),WellAll P h vs (ns.map WData.int)->IntsAre vs ns:=by
 intro ns
 induction ns with
 | nil=>
  intro vs w
  rw [List.map_nil] at w
  cases w
  exact .nil
 | cons n ns ih=>
  intro vs w
  rw [List.map_cons] at w
  cases w with
  | cons a b=>
   cases a
   exact .cons _ _ (ih _ b)
theorem Zjr {l:OpenLaw} {n:Nat} (hn:l.most=some n) {P:Params} {h:Heap} {args:List WData} {vals:List Value}
  (hpre:l.row.toRowW.claim.pre args=true) (hwl:WellAll P h vals args) :
  ∃ a vs ns,vals=[Value.ref a]/\args=[WData.list (ns.map WData.int)]/\h.get? a=some { cls:=.type "list",data:=.seq vs.toArray } /\ IntsAre vs ns/\ns.length<=n:=by
 have hsh:WShape.hasAll [] args [.list .int]=true:=(pre_splitW hpre).1
 have hc:l.pre.holds [] { args:=args } = true:=(pre_splitW hpre).2
 obtain ⟨d,r,rfl,h1,h2⟩:=hasAllW_cons hsh
 obtain rfl:=hasAllW_nil h2
 obtain ⟨xs,rfl,h3⟩:=hasW_list h1
 obtain ⟨ns,rfl⟩:=items_int h3
 have hlen:ns.length<=n:=by
  unfold OpenLaw.pre at hc
  have h4:(WTm.not (.lt (.lit (.int (n:Int))) (.len (.arg 0)))).holds [] { args:=[.list (ns.map .int)] } = true:=by
   have h4:=(holds_andW hc).1
   rw [hn] at h4
   exact h4
  have h5:=condW_of h4 (w_not (w_lt w_lit (w_len_list (w_arg rfl))))
  rw [List.length_map] at h5
  refine Nat.le_of_not_lt fun q=>?_
  have q':(n:Int) < ((ns.length:Nat):Int):=by omega
  first
   | (rw [decide_eq_true q'] at h5; exact absurd h5 (by decide))
   | (simp at h5; omega)
 cases hwl with
 | cons w1 w2=>
  cases w2
  cases w1 with
  | list ho hall=>exact ⟨_,_,ns,rfl,rfl,ho,Zec ns _ hall,hlen⟩
theorem Zkr (l:OpenLaw) (args:List WData):l.row.toRowW.claim.post args (.bool true) args=true:=
 postW_of (r:=l.row.toRowW) (X:=(true == true))
  (show WShape.has [] (.bool true) .bool=true by first | rfl | decide | simp [WShape.has,WShape.arms,WShape.armsAll])
  (show (WTm.eq .res (.lit (.bool true))).value [] { args:=args,res:=some (.bool true),after:=args } = some (.bool (true == true)) from w_eq_bool (w_res rfl) w_lit) rfl
theorem attach_call {l:OpenLaw} {n:Nat} {q:Program} {loose:List Str} {XP:(Str->Option Value)->Heap->Prop} {YP:World->Heap->Prop} {d:DefRec}
  (hn:l.most=some n) (hdf:d.params.defaults=[])
  (call:∀ (w:World) (s₀ s₁:Shared) (mg mb:Str->Option Value) (fa:Addr) (o:Obj) (pm cd doc:Value) (a:Addr) (vs:List Value) (ns:List Int),
   Ground q loose [] XP w s₀ mg mb s₁.heap->YP w s₁.heap →
   s₁.heap.get? fa=some o->o.data=.func (docDef d.name d.params d.body d.scope pm cd doc)->s₁.heap.CodeRec cd d.name->mg d.name=some (.ref fa) →
   s₁.heap.get? a=some { cls:=.type "list",data:=.seq vs.toArray } -> IntsAre vs ns->ns.length<=n->s₁.gens = #[] →
   codeAny (model l.prog w) callerA (.call (.ref fa) ⟨[.ref a],[]⟩) (fun r s'=>r=.ok (.ret (.bool true))/\OldK s₁.heap s'.heap/\s'.os=s₁.os/\AllBare s'.gens) s₁) :
  WalkO q loose XP YP l.row.toRowW d [] (fun f vs=>PySem.call f vs):=by
 intro w s₀ s₁ mg mb G Y fa o pm cd doc dV kV ho hd hcd hD hmg hg args vals as hpre hlay hrd hwl hlo
 obtain rfl:dV=.none:=Dflts.none hD hdf
 obtain rfl:kV=.none:=Dflts.noKw hD
 obtain ⟨a,vs,ns,rfl,rfl,hobj,hints,hlen⟩:=Zjr hn hpre hwl
 refine enter_call (codeAny_mono (call w s₀ s₁ mg mb fa o pm cd doc a vs ns G Y ho (fd_plain hd) hcd hmg hobj hints hlen hg) fun r s' hq=>?_)
 obtain ⟨rfl,h2,h3,h4⟩:=hq
 exact ⟨.inl ⟨.bool true,.bool true,[],rfl,fun _=>rfl,.bool true,Zkr l _,fun _=>⟨List.Pairwise.nil,fun _ hm=>(nomatch hm)⟩⟩,h2,h3,h4⟩
end Att
namespace L2
open PySem PySem.Spec PyProof.Rows
theorem Zf2:∀ {vs:List Value} {ns:List Int},IntsAre vs ns->Vals (ns.map V.int) vs
 | _,_,.nil=>.nil
 | _,_,.cons n t h=>.cons ⟨t,rfl⟩ (Zf2 h)
def Only (H:Hp):Prop:=∀ b,H b=none\/∃ o xs,H b=some (.frz o (.lst xs))
theorem Zmq {P:Program} {w:World} {K:PySem.W.Frag} {mg mb:Str->Option Value} {CX:CXT} {k:Nat} {fa a:Addr} {fd:FuncData} {x:Str} {sp:Sp} {s₁:Shared} {vs:List Value} {ns:List Int}
  (KX:K.In s₁.heap) (hns:s₁.heap.Ns mainGlobals mg) (hb:s₁.heap.Ns builtinsNs mb) (hbb:∀ x:Str,x ≠ "__name__" -> mb x=bootBuiltins x) (hlim:s₁.heap.NoLimit) (hg:s₁.gens = #[])
  (ha:s₁.heap.get? a=some { cls:=.type "list",data:=.seq vs.toArray }) (hi:IntsAre vs ns) (hl:ns.length<=sizeLine) (hr:Room k callerA)
  (F:∀ base:Heap,K.In base->base.Ns mainGlobals mg->FnOk P w K mg base CX k fa fd [x] sp) (hbind:∀ (s:Shared) (u:Value),BindsTo s fd ⟨[u],[]⟩ [(x,u)])
  (hsp:∀ H:Hp,Only H->SqL K H a (ns.map V.int)->sp [.ref a] H (fun v _=>v=.bl true) fun _ _ _=>False)
  (hCX:∀ H e s',CX [] H s₁ (fun _ _ _=>False) e s' -> False) :
  codeAny (model P w) callerA (.call (.ref fa) ⟨[.ref a],[]⟩) (fun r s'=>r=.ok (.ret (.bool true))/\OldK s₁.heap s'.heap/\s'.os=s₁.os/\AllBare s'.gens) s₁:=by
 have rv:=Zf2 hi
 have lenV:=hi.length
 -- from an abstract heap in which nothing but the script may be tracked
 have core:∀ H:Hp,Only H->SqL K H a (ns.map V.int)->HOk P w H s₁.heap->(∀ b,H b ≠ none->b=a)->(H a ≠ none->K.lookup a=none) →
   codeAny (model P w) callerA (.call (.ref fa) ⟨[.ref a],[]⟩) (fun r s'=>r=.ok (.ret (.bool true))/\OldK s₁.heap s'.heap/\s'.os=s₁.os/\AllBare s'.gens) s₁:=by
  intro H hO hS hok hA hK
  have base_of:∀ {b:Addr} {o:Obj},s₁.heap.get? b=some o->H b=none->(hidT s₁.heap H).get? b=some o:=fun e n=>Zm5 e n
  have noA:∀ {b:Addr} {o:Obj} {es:Array DictEntry} {ep:Nat},s₁.heap.get? b=some o->o.data=.dict es ep->H b=none:=fun {b o es ep} e d=>by
   cases q:H b with
   | none=>rfl
   | some u=>
    have e':b=a:=hA b (by rw [q]; simp)
    subst e'
    rw [ha] at e; cases e
    have d':Data.seq vs.toArray _=Data.dict es ep:=d
    cases d'
  have nsK:∀ {b:Addr} {m:Str->Option Value},s₁.heap.Ns b m->(hidT s₁.heap H).Ns b m:=fun {b m} ⟨o,es,ep,e,d,r⟩=>⟨o,es,ep,base_of e (noA e d),d,r⟩
  have hKb:K.In (hidT s₁.heap H):=fun b o e=>base_of (KX b o e) (by
   cases q:H b with
   | none=>rfl
   | some u=>
    have e':b=a:=hA b (by rw [q]; simp)
    subst e'
    rw [hK (by rw [q]; simp)] at e; cases e)
  have hM:Mod K mg (hidT s₁.heap H):=⟨hKb,nsK hns,⟨mb,nsK hb,hbb⟩,let ⟨mc,h1,h2⟩:=hlim; ⟨mc,nsK h1,h2⟩⟩
  have e0:Env0 P w K mg (hidT s₁.heap H) callerA [] s₁ H:=⟨rfl,hM,fun b o e=>Zph e,Nat.le_of_eq (Zjb _ _),trivial,fun b hb=>absurd (show b ∈ ([]:List Addr) from hb) (by simp),hok,.of_eq hg⟩
  refine codeAny_mono ((F _ hKb (nsK hns)).run callerA [] s₁ H ⟨[.ref a],[]⟩ [.ref a] [.ref a] _ _ hr e0 (hbind s₁ (.ref a)) (.cons rfl .nil) (hsp H hO hS)) fun r s' h=>?_
  cases r with
  | error e=>exact (hCX H e s' h).elim
  | ok fl=>
   cases fl with
   | next=>exact False.elim h
   | brk=>exact False.elim h
   | cont=>exact False.elim h
   | ret u=>
    obtain ⟨v,H',os,bare,un,hok',r',q⟩:=h
    have q':v=.bl true:=q
    subst q'
    obtain rfl:u=Value.bool true:=r'
    refine ⟨rfl,OldK.of_keep fun b o e=>?_,os,bare⟩
    cases q:H b with
    | none=>exact un.keep b o e q (by intro z; exact absurd (show b ∈ ([]:List Addr) from z) (by simp)) (by simp)
    | some u=>
     rcases hO b with z | ⟨ob,xs,z⟩
     ·rw [q] at z; cases z
     ·have z2:=un.frzs b ob _ z
      obtain ⟨e1,_⟩:=hok b _ z
      obtain ⟨e2,_⟩:=hok' b _ z2
      rw [e] at e1; cases e1
      exact e2
 cases hk:K.lookup a with
 | some o=>
  -- the script is one of the module's own objects
  have e:=KX a o hk
  rw [ha] at e
  cases e
  refine core (fun _=>none) (fun _=>.inl rfl) (.inr ⟨_,vs.toArray,_,hk,rfl,rfl,rfl,by rw [List.size_toArray,lenV]; exact hl,by simpa using rv⟩) (fun b u z=>by have z':(none:Option HO)=some u:=z; cases z') (fun b z=>absurd rfl z) fun z=>absurd rfl z
 | none=>
  refine core (fun b=>if b=a then some (.frz { cls:=.type "list",data:=.seq vs.toArray } (.lst (ns.map V.int))) else none) (fun b=>?_) (.inl (.inr ⟨{ cls:=.type "list",data:=.seq vs.toArray },if_pos rfl⟩)) (fun b u z=>?_) (fun b z=>?_) fun _=>hk
  ·by_cases hb:b=a
   ·exact .inr ⟨_,_,if_pos hb⟩
   ·exact .inl (if_neg hb)
  ·by_cases hb:b=a
   ·have z':=(if_pos hb).symm.trans z
    cases z'
    subst hb
    exact ⟨ha,by rw [List.length_map]; exact hl,vs,_,rv,ha⟩
   ·have z':=(if_neg hb).symm.trans z
    cases z'
  ·by_cases hb:b=a
   ·exact hb
   ·exact absurd (if_neg hb) z
end L2
namespace L2
open PySem PySem.Spec PyProof.Rows
theorem walk_of {l:PySem.W.OpenLaw} {n k:Nat} {q:Program} {loose:List Str} {XP:(Str->Option Value)->Heap->Prop} {YP:World->Heap->Prop} {d:DefRec} {K:Params->PySem.W.Frag} {CX:World->CXT} {sp:World->Sp} {x:Str}
  (hn:l.most=some n) (hn2:n<=sizeLine) (hdf:d.params.defaults=[]) (hr:Room k callerA)
  (hY:∀ (w:World) (h:Heap),YP w h->(K w.params).In h)
  (F:∀ (w:World) (mg:Str->Option Value) (fa:Addr) (h:Heap),(K w.params).In h->h.Ns mainGlobals mg->mg d.name=some (.ref fa) →
   ∃ fd:FuncData,(∀ (s:Shared) (u:Value),BindsTo s fd ⟨[u],[]⟩ [(x,u)]) ∧
    ∀ base:Heap,(K w.params).In base->base.Ns mainGlobals mg->FnOk l.prog w (K w.params) mg base (CX w) k fa fd [x] (sp w))
  (hsp:∀ (w:World) (H:Hp) (a:Addr) (ns:List Int),ns.length<=n->Only H->SqL (K w.params) H a (ns.map V.int)->sp w [.ref a] H (fun v _=>v=.bl true) fun _ _ _=>False)
  (hCX:∀ (w:World) (H:Hp) (s:Shared) (e:Value) (s':Shared),CX w [] H s (fun _ _ _=>False) e s' -> False) :
  PySem.W.WalkO q loose XP YP l.row.toRowW d [] (fun f vs=>PySem.call f vs):=by
 refine Att.attach_call hn hdf fun w s₀ s₁ mg mb fa o pm cd doc a vs ns G Y ho hd hcd hmg hobj hints hlen hg=>?_
 have KX:=hY w _ Y
 obtain ⟨fd,hb,hF⟩:=F w mg fa _ KX G.T.g hmg
 exact Zmq KX G.T.g G.T.b G.T.builtins G.T.nolimit hg hobj hints (Nat.le_trans hlen hn2) hr hF hb (fun H hO hS=>hsp w H a ns hlen hO hS) fun H e s'=>hCX w H s₁ e s'
end L2
namespace L2
open PySem PySem.Spec PyProof.Rows
def defArgs (s:Stmt):Arguments:=match s with
 | .FunctionDef _ a _ _ _ _ _ _ _ _=>a
 | _=>{ posonlyargs:=[],args:=[],vararg:=none,kwonlyargs:=[],kw_defaults:=[],kwarg:=none,defaults:=[] }
def defBody (s:Stmt):List Stmt:=match s with
 | .FunctionDef _ _ b _ _ _ _ _ _ _=>b
 | _=>[]
def defScope (s:Stmt):Scope:=match s with
 | .FunctionDef _ _ _ _ _ _ sc _ _ _=>sc
 | _=>{ kind:=.function,names:=[],isGenerator:=false,isCoroutine:=false }
abbrev CX0:CXT:=fun _ _ _ _ _ _=>False
abbrev E0:XK:=fun _ _ _=>False
theorem pass0 {X:Cx}:Passes CX0 X E0:=fun _ _ _ _ _ _ _ h=>h.elim
structure Fun (K:PySem.W.Frag) (x qual:Str) (st:Stmt) (f:Addr) (fd:FuncData):Prop where
 ex:∃ (oc:Value) (od:Option Addr) (kV doc pm:Value) (an:Option Addr) (cdv ct:Value) (osl:Array (Option Value)),
  fd=PySem.W.fnOf x qual (defArgs st) (defBody st) (defScope st) .none kV doc pm an cdv ct/\K.lookup f=some ⟨oc,od,.func fd,osl⟩ /\ PySem.W.codeIn K cdv qual=true
 kp:PySem.W.keepIn K (.ref f)=true
section
variable {P:Program} {w:World} {K:PySem.W.Frag} {mg:Str->Option Value} {base:Heap}
theorem Fun.ok {x qual:Str} {st:Stmt} {f:Addr} {fd:FuncData} {N ps:List Str} {k:Nat} {sp:Sp} (F:Fun K x qual st f fd) (S:FnScope N ps (defScope st)) (len:∀ vs H Q E,sp vs H Q E->vs.length=ps.length)
  (hbody:∀ (cdv:Value) (A:Around) (outer:List Env) (s:Shared) (H:Hp) (vs:List V) (Q:VK) (E:XK),Room k (A.deeper (envOfC qual (defScope st) s.heap.objs.size f cdv))->sp vs H Q E →
   ∃ t,PSs (cxOf CX0 P w K mg base N qual (defScope st) f cdv A outer s H E).nox (defBody st) t/\t { nx:=fun _ H'=>Q .non H',rt:=Q } (start N vs) H):FnOk P w K mg base CX0 (k + 1) f fd ps sp:=by
 obtain ⟨oc,od,kV,doc,pm,an,cdv,ct,osl,rfl,lk,hcd⟩:=F.ex
 refine Zsg lk hcd S len fun A outer s H vs Q E hr hsp=>?_
 obtain ⟨t,h,q⟩:=hbody cdv A outer s H vs Q E hr hsp
 exact ⟨t,h.nox,q⟩
theorem Fun.binds {x qual:Str} {st:Stmt} {f:Addr} {fd:FuncData} {ps:List Str} (F:Fun K x qual st f fd)
  (h:∀ (kV doc pm:Value) (an:Option Addr) (cdv ct:Value) (us:List Value),us.length=ps.length->bindArgs (PySem.W.fnOf x qual (defArgs st) (defBody st) (defScope st) .none kV doc pm an cdv ct) ⟨us,[]⟩ = pure (ps.zip us)):Binds K fd ps []:=by
 obtain ⟨oc,od,kV,doc,pm,an,cdv,ct,osl,rfl,lk,hcd⟩:=F.ex
 exact .all (h kV doc pm an cdv ct)
theorem Zq0 {x qual:Str} {st:Stmt} {f:Addr} {oc:Value} {od an:Option Addr} {osl:Array (Option Value)} {kV doc pm cdv ct:Value} (l:K.lookup f=some ⟨oc,od,.func (PySem.W.fnOf x qual (defArgs st) (defBody st) (defScope st) .none kV doc pm an cdv ct),osl⟩)
  (c:PySem.W.codeIn K cdv qual=true) (k:PySem.W.keepIn K (.ref f)=true):Fun K x qual st f (PySem.W.fnOf x qual (defArgs st) (defBody st) (defScope st) .none kV doc pm an cdv ct):=⟨⟨oc,od,kV,doc,pm,an,cdv,ct,osl,rfl,l,c⟩,k⟩
end
theorem Zca {A:Around} {k:Nat} (hr:Room k A):A.units + 1 < cLine:=Nat.lt_of_le_of_lt (Nat.add_le_add_left (by decide:1<=64) _) hr.units
theorem small1000 {n:Nat} (h:n<=1000):n < sizeLine:=Nat.lt_of_le_of_lt h (by decide)
section
variable {X:Cx}
theorem pv (i:Nat) {x:Str} {pos:Pos} (hN:X.N[i]? = some x:=by rfl) (hv:Vis X.env.scope x:=by first | exact Or.inl rfl | exact Or.inr (Or.inl rfl) | exact Or.inr (Or.inr rfl)) (hd:(x == ("__debug__":Str))=false:=by decide)
  (hcd:(x == ("__classdict__":Str))=false:=by decide):PE X (.Name x pos) (tVar i):=Zqo hN hv hd hcd
end
theorem iteF {A B:Prop} (h:B):if false=true then A else B:=by
 rw [if_neg Bool.false_ne_true]
 exact h
theorem iteT {A B:Prop} (h:A):if true=true then A else B:=by
 rw [if_pos rfl]
 exact h
theorem ite2 {c A B:Prop} [Decidable c] (h1:c->A) (h2:¬ c->B):if c then A else B:=by
 by_cases h:c
 ·rw [if_pos h]
  exact h1 h
 ·rw [if_neg h]
  exact h2 h
def Same (H H':Hp):Prop:=∀ b o,H b=some o->H' b=some o
theorem Same.refl (H:Hp):Same H H:=fun _ _ h=>h
theorem Same.trans {H H1 H2:Hp} (a:Same H H1) (b:Same H1 H2):Same H H2:=fun c o h=>b c o (a c o h)
theorem Same.seq {K:PySem.W.Frag} {H H':Hp} {a:Addr} {xs:List V} (e:Same H H') (h:SqL K H a xs):SqL K H' a xs:=by
 rcases h with (h | ⟨o,h⟩) | h
 ·exact .inl (.inl (e _ _ h))
 ·exact .inl (.inr ⟨o,e _ _ h⟩)
 ·exact .inr h
end L2
namespace L2
open PySem PySem.Spec PyProof.Rows
section
variable {κ:Type} [DecidableEq κ]
def valV (kvs:List (κ × V)) (k:κ):Option V:=(kvs.find? fun kv=>decide (kv.1=k)).map (·.2)
def putK (kvs:List (κ × V)) (k:κ) (v:V):List (κ × V):=
 if (kvs.any fun kv=>decide (kv.1=k))=true then kvs.map (fun kv=>if kv.1=k then (kv.1,v) else kv) else kvs ++ [(k,v)]
theorem Zc9 {p:κ × V} {r:List (κ × V)} {k:κ} (e:p.1=k):valV (p :: r) k=some p.2:=by simp [valV,List.find?_cons,e]
theorem Zdb {p:κ × V} {r:List (κ × V)} {k:κ} (e:¬ p.1=k):valV (p :: r) k=valV r k:=by simp [valV,List.find?_cons,e]
theorem Zhd (k:κ):∀ kvs:List (κ × V),(kvs.any fun kv=>decide (kv.1=k))=(valV kvs k).isSome
 | []=>rfl
 | p :: r=>by
  rw [List.any_cons]
  by_cases e:p.1=k
  ·simp only [Zc9 e,decide_eq_true e,Bool.true_or,Option.isSome_some]
  ·rw [Zdb e,decide_eq_false e,Bool.false_or]; exact Zhd k r
theorem Zd0 (kvs:List (κ × V)) (k:κ) (v:V):(putK kvs k v).length<=kvs.length + 1:=by
 unfold putK
 split
 ·rw [List.length_map]; omega
 ·rw [List.length_append,List.length_cons,List.length_nil]; omega
theorem RelO.isSome_eq {o:Option V} {u:Option Value} (r:RelO o u):o.isSome=u.isSome:=by
 cases o with
 | none=>cases u with
  | none=>rfl
  | some _=>exact (show False from r).elim
 | some _=>cases u with
  | none=>exact (show False from r).elim
  | some _=>rfl
theorem KV.val {kvs:List (κ × V)} {vs:List (κ × Value)} (r:KV kvs vs) (k:κ):RelO (valV kvs k) (valueAt vs k):=by
 unfold KV at r
 induction r with
 | nil=>exact True.intro
 | @cons p q ps qs h t ih=>
  obtain ⟨h1,h2⟩:=h
  by_cases e:p.1=k
  ·have e':q.1=k:=h1.symm.trans e
   have b:valueAt (q :: qs) k=some q.2:=by simp [valueAt,List.find?_cons,e']
   rw [Zc9 e,b]; exact h2
  ·have e':¬ q.1=k:=fun z=>e (h1.trans z)
   have b:valueAt (q :: qs) k=valueAt qs k:=by simp [valueAt,List.find?_cons,e']
   rw [Zdb e,b]; exact ih
theorem KV.any {kvs:List (κ × V)} {vs:List (κ × Value)} (r:KV kvs vs) (k:κ):(kvs.any fun kv=>decide (kv.1=k))=vs.any fun kv=>decide (kv.1=k):=by
 unfold KV at r
 induction r with
 | nil=>rfl
 | cons h t ih=>rw [List.any_cons,List.any_cons,ih,h.1]
theorem KV.repl {kvs:List (κ × V)} {vs:List (κ × Value)} (r:KV kvs vs) (k:κ) {y:V} {u:Value} (ry:RelV y u) :
  KV (kvs.map fun kv=>if kv.1=k then (kv.1,y) else kv) (vs.map fun kv=>if kv.1=k then (kv.1,u) else kv):=by
 unfold KV at r ⊢
 induction r with
 | nil=>exact .nil
 | @cons p q ps qs h t ih=>
  rw [List.map_cons,List.map_cons]
  refine .cons ?_ ih
  obtain ⟨h1,h2⟩:=h
  by_cases e:p.1=k
  ·rw [if_pos e,if_pos (h1.symm.trans e)]; exact ⟨h1,ry⟩
  ·rw [if_neg e,if_neg (fun z=>e (h1.trans z))]; exact ⟨h1,h2⟩
theorem KV.put {kvs:List (κ × V)} {vs:List (κ × Value)} (r:KV kvs vs) (k:κ) {y:V} {u:Value} (ry:RelV y u):KV (putK kvs k y) (stored vs k u):=by
 unfold putK stored
 rw [r.any k]
 by_cases e:(vs.any fun kv=>decide (kv.1=k))=true
 ·rw [if_pos e,if_pos e]; exact r.repl k ry
 ·rw [if_neg e,if_neg e]; exact Paired.snoc r ⟨rfl,ry⟩
theorem KV.length {kvs:List (κ × V)} {vs:List (κ × Value)} (r:KV kvs vs):kvs.length=vs.length:=Paired.length r
end
theorem Zmv {P:Program} {w:World} {k:Key} {u:Value} (r:RelV (kV k) u):(mixKind P w).is k u=true:=by
 cases k with
 | inl i=>obtain ⟨t,e⟩:=(show ∃ t,u=Value.int i t from r); subst e; exact Zg2 P w i t
 | inr x=>obtain ⟨t,e⟩:=(show ∃ t,u=Value.str x t from r); subst e; exact Zgv P w x t
theorem Zf7 {P:Program} {w:World}:∀ {ks:List Key} {us:List Value},Vals (ks.map kV) us->ItemsAre (mixKind P w) ks us
 | [],_,r=>by rw [List.map_nil] at r; cases r; exact .nil
 | k :: ks,_,r=>by
  rw [List.map_cons] at r
  cases r with
  | cons h t=>exact .cons (Zmv h) (Zf7 t)
abbrev KT (H:Hp):List (List Key × V)->List (List Key × Addr × Value)->Prop:=Paired fun p q=>p.1=q.1/\H q.2.1=some (.tup (p.1.map kV))/\RelV p.2 q.2.2
theorem KT.val {H:Hp} {kvs:List (List Key × V)} {xs:List (List Key × Addr × Value)} (r:KT H kvs xs) (k:List Key):RelO (valV kvs k) ((atKey xs k).map (·.2)):=by
 induction r with
 | nil=>exact True.intro
 | @cons p q ps qs h t ih=>
  obtain ⟨h1,_,h2⟩:=h
  by_cases e:p.1=k
  ·have e':q.1=k:=h1.symm.trans e
   have b:atKey (q :: qs) k=some q.2:=by simp [atKey,List.find?_cons,e']
   rw [Zc9 e,b]; exact h2
  ·have e':¬ q.1=k:=fun z=>e (h1.trans z)
   have b:atKey (q :: qs) k=atKey qs k:=by simp [atKey,List.find?_cons,e']
   rw [Zdb e,b]; exact ih
theorem KT.repl {H:Hp} {kvs:List (List Key × V)} {xs:List (List Key × Addr × Value)} (r:KT H kvs xs) (k:List Key) {y:V} {u:Value} (ry:RelV y u) :
  KT H (kvs.map fun kv=>if kv.1=k then (kv.1,y) else kv) (xs.map (putAt k u)):=by
 induction r with
 | nil=>exact .nil
 | @cons p q ps qs h t ih=>
  rw [List.map_cons,List.map_cons]
  refine .cons ?_ ih
  obtain ⟨h1,h2,h3⟩:=h
  unfold putAt
  by_cases e:p.1=k
  ·rw [if_pos e,if_pos (h1.symm.trans e)]; exact ⟨h1,h2,ry⟩
  ·rw [if_neg e,if_neg (fun z=>e (h1.trans z))]; exact ⟨h1,h2,h3⟩
theorem KT.put {H:Hp} {kvs:List (List Key × V)} {xs:List (List Key × Addr × Value)} (r:KT H kvs xs) (k:List Key) {b:Addr} {y:V} {u:Value} (hb:H b=some (.tup (k.map kV))) (ry:RelV y u) :
  KT H (putK kvs k y) (storedH xs k b u):=by
 have e:(kvs.any fun kv=>decide (kv.1=k))=(atKey xs k).isSome:=by
  rw [Zhd,(r.val k).isSome_eq,Option.isSome_map]
 unfold putK storedH
 rw [e]
 by_cases q:(atKey xs k).isSome=true
 ·rw [if_pos q,if_pos q]; exact r.repl k ry
 ·rw [if_neg q,if_neg q]; exact Paired.snoc r ⟨rfl,hb,ry⟩
theorem KT.keeps {H H':Hp} {kvs:List (List Key × V)} {xs:List (List Key × Addr × Value)} (r:KT H kvs xs) (ht:∀ b ys,H b=some (.tup ys)->H' b=some (.tup ys)):KT H' kvs xs:=
 Paired.mapP r fun _ _ z=>⟨z.1,ht _ _ z.2.1,z.2.2⟩
section
variable {P:Program} {w:World} {H:Hp} {h:Heap} {a:Addr}
theorem Zry {u:HO} (ok:HOk P w H h) (e:Rd H a u):ObjOk P w H h a u:=e.ok ok
theorem Zjp {kvs:List (Key × V)} (ok:HOk P w H h) (e:Rd H a (.dK kvs)):kvs.length<=sizeLine/\(a == sysModules)=false/\∃ vs,KV kvs vs/\h.DictOf (mixKind P w) a vs:=
 show ObjOk P w H h a (.dK kvs) from Zry ok e
theorem Zsl {kvs:List (Key × V)} (ok:HOk P w H h) (e:H a=some (.dK kvs)):kvs.length<=sizeLine/\(a == sysModules)=false/\∃ vs,KV kvs vs/\h.DictOf (mixKind P w) a vs:=Zjp ok (.inl e)
theorem Zid {ks:List Key} (ok:HOk P w H h) (e:H a=some (.tup (ks.map kV))):(tupleKind (mixKind P w)).is h ks a:=by
 obtain ⟨_,its,r,o,h1,⟨h2,n,h3⟩,_⟩:=(show ObjOk P w H h a (.tup (ks.map kV)) from ok a _ e)
 exact ⟨o,its.toArray,n,h1,h2,h3,by simpa using Zf7 r⟩
theorem Zml {kvs:List (List Key × V)} (ok:HOk P w H h) (e:Rd H a (.dT kvs)):kvs.length<=sizeLine/\(a == sysModules)=false ∧
  ∃ xs,KT H kvs xs/\h.DictOfH (tupleKind (mixKind P w)) a xs:=by
 obtain ⟨z,y,xs,r,o,es,ep,h1,h2,h3,h4,h5⟩:=(show ObjOk P w H h a (.dT kvs) from Zry ok e)
 refine ⟨z,y,xs,r,o,es,ep,h1,h2,h3,h4,fun x hx=>?_,h5⟩
 have all:∀ {l:List (List Key × V)} {m:List (List Key × Addr × Value)},KT H l m->∀ x ∈ m,(tupleKind (mixKind P w)).is h x.1 x.2.1:=by
  intro l m q
  induction q with
  | nil=>intro x hx; exact nomatch hx
  | @cons p q ps qs hq t ih=>
   intro x hx
   rcases List.mem_cons.mp hx with e | hx
   ·subst e
    exact Zid ok (by rw [<- hq.1]; exact hq.2.1)
   ·exact ih x hx
 exact all r x hx
theorem Zsm {kvs:List (List Key × V)} (ok:HOk P w H h) (e:H a=some (.dT kvs)):kvs.length<=sizeLine/\(a == sysModules)=false ∧
  ∃ xs,KT H kvs xs/\h.DictOfH (tupleKind (mixKind P w)) a xs:=Zml ok (.inl e)
end
def DGet (H:Hp) (a:Addr) (y:V) (r:Option V):Prop:=
 (∃ kvs k,Rd H a (.dK kvs)/\y=kV k/\r=valV kvs k)\/∃ kvs k b,Rd H a (.dT kvs)/\y=.ref b/\H b=some (.tup (k.map kV))/\r=valV kvs k
def DPut (H:Hp) (a:Addr) (y v:V) (H':Hp):Prop:=
 (∃ kvs k,H a=some (.dK kvs)/\y=kV k/\kvs.length < sizeLine/\H' = upd H a (.dK (putK kvs k v))) ∨
 ∃ kvs k b,H a=some (.dT kvs)/\y=.ref b/\H b=some (.tup (k.map kV))/\kvs.length < sizeLine/\H' = upd H a (.dT (putK kvs k v))
theorem DGet.k {H:Hp} {a:Addr} {kvs:List (Key × V)} {k:Key} (e:H a=some (.dK kvs)):DGet H a (kV k) (valV kvs k):=.inl ⟨kvs,k,.inl e,rfl,rfl⟩
theorem DGet.t {H:Hp} {a b:Addr} {kvs:List (List Key × V)} {k:List Key} (e:H a=some (.dT kvs)) (eb:H b=some (.tup (k.map kV))):DGet H a (.ref b) (valV kvs k):=.inr ⟨kvs,k,b,.inl e,rfl,eb,rfl⟩
theorem DPut.k {H:Hp} {a:Addr} {kvs:List (Key × V)} {k:Key} {v:V} (e:H a=some (.dK kvs)) (hl:kvs.length < sizeLine):DPut H a (kV k) v (upd H a (.dK (putK kvs k v))):=.inl ⟨kvs,k,e,rfl,hl,rfl⟩
theorem DPut.t {H:Hp} {a b:Addr} {kvs:List (List Key × V)} {k:List Key} {v:V} (e:H a=some (.dT kvs)) (eb:H b=some (.tup (k.map kV))) (hl:kvs.length < sizeLine) :
  DPut H a (.ref b) v (upd H a (.dT (putK kvs k v))):=.inr ⟨kvs,k,b,e,rfl,eb,hl,rfl⟩
section
variable {X:Cx} {pins:List (Addr × Obj)} {σ:St} {H:Hp} {s:Shared} {a:Addr} {y v:V} {u r:Value} {o:Option V} {A:Around} {E:Value->Shared->Prop}
theorem Inv.big (I:Inv X pins σ H s):sysModules < s.heap.objs.size:=by
 have h:mainGlobals < s.heap.objs.size:=(I.mod.glob.keeps I.bk).lt
 exact Nat.lt_trans (by decide) h
theorem Zkq {Q:Value->Shared->Prop} (hu:A.units + 1 < cLine) (I:Inv X pins σ H s) (g:DGet H a y (some v)) (ry:RelV y u) (h:∀ w' s',Inv X pins σ H s' -> RelV v w' -> Q w' s') :
  wpAny (model X.prog X.w) A (getItem (.ref a) u) Q E s:=by
 rcases g with ⟨kvs,k,e,ey,l⟩ | ⟨kvs,k,b,e,ey,eb,l⟩
 ·subst ey
  obtain ⟨z,hd,vs,rel,dd⟩:=Zjp I.hok e
  obtain ⟨w',hw,rw'⟩:=RelO.some_of (v:=v) (o:=valueAt vs k) (by rw [l]; exact rel.val k)
  exact wpAny_getItem_of (Zmv ry) dd.mapOf hw (h w' _ (I.tok _) rw')
 ·subst ey
  cases (show u=Value.ref b from ry)
  obtain ⟨z,hd,xs,rel,dd⟩:=Zml I.hok e
  obtain ⟨w',hw,rw'⟩:=RelO.some_of (v:=v) (o:=(atKey xs k).map (·.2)) (by rw [l]; exact rel.val k)
  obtain ⟨p,hp,hp2⟩:=Option.map_eq_some_iff.mp hw
  refine wpAny_getItem_heap (tupleKind_room_in1 hu) (Zid I.hok eb) dd hp ?_
  rw [hp2]
  exact h w' _ (I.tok _) rw'
theorem Zpv {Q:Value->Shared->Prop} (hu:A.units + 1 < cLine) (I:Inv X pins σ H s) (g:DGet H a y o) (ry:RelV y u) (h:∀ s',Inv X pins σ H s' -> Q (.bool (!o.isSome)) s') :
  wpAny (model X.prog X.w) A (compareOp .NotIn u (.ref a)) Q E s:=by
 rcases g with ⟨kvs,k,e,ey,l⟩ | ⟨kvs,k,b,e,ey,eb,l⟩
 ·subst ey
  obtain ⟨z,hd,vs,rel,dd⟩:=Zjp I.hok e
  refine wpAny_notIn_of (Zmv ry) hd dd.mapOf ?_
  rw [<- (rel.val k).isSome_eq,<- l]
  exact h _ (I.tok _)
 ·subst ey
  cases (show u=Value.ref b from ry)
  obtain ⟨z,hd,xs,rel,dd⟩:=Zml I.hok e
  refine wpAny_notIn_heap (tupleKind_room_in1 hu) (Zid I.hok eb) hd dd ?_
  have q:=(rel.val k).isSome_eq
  rw [Option.isSome_map] at q
  rw [<- q,<- l]
  exact h _ (I.tok _)
theorem Zgw {h':Heap} {t':Nat} {ob:HO} (I:Inv X pins σ H s) (mu:Mut (H a)) (hs:Heap.SameBut a s.heap h') (he:∃ q,h'.get? a=some q) (new:ObjOk X.prog X.w (upd H a ob) h' a ob) :
  Inv X pins σ (upd H a ob) { s with heap:=h',toks:=t' }:=
 I.write (x:=a) (e:=a) mu (.inl rfl) (fun b q hb z=>(hs.2 b hb).trans z) he new
theorem Zre {P:Program} {w:World} {H':Hp} {h':Heap} {kvs:List (Key × V)} {vs:List (Key × Value)} (z:kvs.length<=sizeLine) (hd:(a == sysModules)=false) (rel:KV kvs vs) (dd:h'.DictOf (mixKind P w) a vs) :
  ObjOk P w H' h' a (.dK kvs):=⟨z,hd,vs,rel,dd⟩
theorem Zjv {H':Hp} {Q:Unit->Shared->Prop} (hu:A.units + 1 < cLine) (I:Inv X pins σ H s) (g:DPut H a y v H') (ry:RelV y u) (rv:RelV v r) (h:∀ s',Inv X pins σ H' s' -> Q () s') :
  wpAny (model X.prog X.w) A (setItem (.ref a) u r) Q E s:=by
 rcases g with ⟨kvs,k,e,ey,l,eH⟩ | ⟨kvs,k,b,e,ey,eb,l,eH⟩
 ·subst ey eH
  obtain ⟨z,hd,vs,rel,dd⟩:=Zsl I.hok e
  have hz:vs.length<=sizeLine:=by rw [<- rel.length]; exact z
  have hl:(putK kvs k v).length<=sizeLine:=by have:=Zd0 kvs k v; omega
  refine wpAny_setItem_pairs (hsz:=hz) (Zmv ry) dd fun h' dd' hs=>h _ ?_
  have he:∃ q,h'.get? a=some q:=let ⟨q,_,_,hq,_⟩:=dd'; ⟨q,hq⟩
  exact Zgw I (by rw [e]; exact True.intro) hs he (Zre hl hd (rel.put k rv) dd')
 ·subst ey eH
  cases (show u=Value.ref b from ry)
  obtain ⟨z,hd,xs,rel,dd⟩:=Zsm I.hok e
  have hz:xs.length<=sizeLine:=by rw [<- Paired.length rel]; exact z
  have hl:(putK kvs k v).length<=sizeLine:=by have:=Zd0 kvs k v; omega
  refine wpAny_setItem_heap (hsz:=hz) (tupleKind_room_in1 hu) (Zid I.hok eb) dd fun h' dd' hs=>h _ ?_
  obtain ⟨q,es,ep,hq,h2,h3,h4,_,h5⟩:=dd'
  refine Zgw I (by rw [e]; exact True.intro) hs ⟨q,hq⟩ ⟨hl,hd,_,(rel.put k eb rv).keeps fun c ys ec=>?_,q,es,ep,hq,h2,h3,h4,h5⟩
  rw [Zak (Zse ec e (fun z=>nomatch z))]
  exact ec
end
section
variable {X:Cx} {pins:List (Addr × Obj)} {σ:St} {H:Hp} {s:Shared} {a:Addr} {kvs:List (Key × V)} {k:Key} {u:Value} {A:Around} {E:Value->Shared->Prop}
theorem Zsn {Q:Value->Shared->Prop} (I:Inv X pins σ H s) (e:Rd H a (.dK kvs)) (h:∀ t s',Inv X pins σ H s' -> Q (.int kvs.length t) s'):wpAny (model X.prog X.w) A (call (.builtin "len") [.ref a]) Q E s:=by
 obtain ⟨z,hd,vs,rel,dd⟩:=Zjp I.hok e
 refine call_len_dict hd dd (by rw [<- rel.length]; rw [sizeLine_eq] at z; omega) ?_
 rw [<- rel.length]
 exact h _ _ (I.tok _)
end
theorem Zg3 {X:Cx} {pins:List (Addr × Obj)} {σ:St} {H:Hp} {s:Shared} {a:Addr} {y:V} {o:Option V} (I:Inv X pins σ H s) (g:DGet H a y o):s.TypeIs (.ref a) "dict":=by
 rcases g with ⟨kvs,k,e,_,_⟩ | ⟨kvs,k,b,e,_,_,_⟩
 ·obtain ⟨_,_,vs,_,dd⟩:=Zjp I.hok e
  exact dd.typeIs
 ·obtain ⟨_,_,xs,_,dd⟩:=Zml I.hok e
  exact dd.typeIs
theorem Zm7 {P:Program} {w:World} {H:Hp} (h:Heap) (hb:sysModules < h.objs.size):ObjOk P w H (h.push { cls:=.type "dict",data:=.dict #[] }) h.objs.size (.dK []):=
 ⟨Nat.zero_le _,beq_eq_false_iff_ne.mpr (Ne.symm (Nat.ne_of_lt hb)),[],.nil,Heap.DictOf.new h⟩
theorem Zll {P:Program} {w:World} {H:Hp} (h:Heap) (hb:sysModules < h.objs.size):ObjOk P w H (h.push { cls:=.type "dict",data:=.dict #[] }) h.objs.size (.dT []):=
 ⟨Nat.zero_le _,beq_eq_false_iff_ne.mpr (Ne.symm (Nat.ne_of_lt hb)),[],.nil,_,#[],0,Heap.get?_push_size _ rfl,⟨rfl,rfl,rfl⟩,rfl,rfl,List.nodup_nil⟩
def tDNewK:TE:=fun _ H Q=>∀ p,H p=none->Q (.ref p) (upd H p (.dK []))
def tDNewT:TE:=fun _ H Q=>∀ p,H p=none->Q (.ref p) (upd H p (.dT []))
section
variable {X:Cx} {pos:Pos}
theorem Zil:PE X (.Dict [] [] pos) tDNewK:=fun pins s σ H Q I h=>
 wpAny_Dict_empty ⟨.ref s.heap.objs.size,_,I.laid (a:=s.heap.objs.size) (o:=.dK []) (t':=s.toks) (fun _ _ q=>Heap.get?_push_of_some _ q) (Nat.le_refl _) (Zm7 s.heap I.big),rfl,h _ (I.hok.fresh (Nat.le_refl _))⟩
theorem Zmk:PE X (.Dict [] [] pos) tDNewT:=fun pins s σ H Q I h=>
 wpAny_Dict_empty ⟨.ref s.heap.objs.size,_,I.laid (a:=s.heap.objs.size) (o:=.dT []) (t':=s.toks) (fun _ _ q=>Heap.get?_push_of_some _ q) (Nat.le_refl _) (Zll s.heap I.big),rfl,h _ (I.hok.fresh (Nat.le_refl _))⟩
end
section
variable {X:Cx} {o e f:Expr} {apos cpos:Pos} {td ty tx:TE}
end
section
variable {X:Cx} {pins:List (Addr × Obj)} {σ:St} {H:Hp} {s:Shared} {a:Addr} {y:V} {u:Value} {A:Around} {E:Value->Shared->Prop}
end
end L2
namespace L2
open PySem PySem.Spec PyProof.Rows
section
variable {X:Cx}
theorem Zky:CallR X (.builtin "len") (fun xs H Q=>∃ a kvs,xs=[V.ref a]/\H a=some (.dK kvs)/\Q (.int kvs.length) H):=by
 intro pins s σ H xs us Q I r h
 obtain ⟨a,kvs,rfl,ha,q⟩:=h
 obtain ⟨u,rfl,ru⟩:=vals1 r
 cases ru
 exact Zsn I (.inl ha) fun t s' I'=>⟨.int kvs.length,H,I',⟨t,rfl⟩,q⟩
end
end L2
set_option Elab.async false
set_option linter.all false
set_option maxRecDepth 100000
namespace L2
open PySem PySem.Spec PyProof.Rows
def clOf (env:Env):List (Str × NameKind)->List (Str × Addr)->List (Str × Addr)
 | [],cs=>cs
 | (n,k) :: r,cs=>if k == .free then (match env.cells.lookup n with
     | some a=>clOf env r ((n,a) :: cs)
     | none=>clOf env r cs) else clOf env r cs
theorem Zea {env:Env}:∀ (names:List (Str × NameKind)) (cs:List (Str × Addr)),(∀ n,(n,NameKind.free) ∈ names->∃ a,env.cells.lookup n=some a) →
  (forIn names cs fun (x:Str × NameKind) (cs:List (Str × Addr))=>if (x.2 == .free)=true then (do let a ← cellOf env x.1; pure (ForInStep.yield ((x.1,a) :: cs))) else pure (ForInStep.yield cs):Sem (List (Str × Addr)))=pure (clOf env names cs)
 | [],cs,_=>rfl
 | (n,k) :: r,cs,h=>by
  rw [List.forIn_cons]
  have hr:∀ m,(m,NameKind.free) ∈ r->∃ a,env.cells.lookup m=some a:=fun m hm=>h m (List.mem_cons_of_mem _ hm)
  cases hk:k == NameKind.free with
  | false=>
   have e:clOf env ((n,k) :: r) cs=clOf env r cs:=by simp [clOf,hk]
   rw [e,<- Zea r cs hr]
   simp only [hk,Bool.false_eq_true,if_false]
   rfl
  | true=>
   have hk':k=.free:=by simpa using hk
   subst hk'
   obtain ⟨a,ha⟩:=h n List.mem_cons_self
   have e:clOf env ((n,.free) :: r) cs=clOf env r ((n,a) :: cs):=by simp [clOf,ha]
   have ec:cellOf env n=pure a:=by simp [cellOf,ha]
   rw [e,<- Zea r ((n,a) :: cs) hr]
   simp only [hk,if_true,ec]
   rfl
theorem Zcd {env:Env} {scope:Scope} (h:∀ n,(n,NameKind.free) ∈ scope.names->∃ a,env.cells.lookup n=some a):closureFor scope env=pure (clOf env scope.names []):=by
 rw [<- Zea scope.names [] h]
 simp only [closureFor]
 exact Eq.trans (bind_pure _) rfl
theorem Za7 {env:Env}:∀ (names:List (Str × NameKind)) (cs:List (Str × Addr)) {x:Str} {c:Addr},(∀ y d,cs.lookup y=some d->env.cells.lookup y=some d)->(clOf env names cs).lookup x=some c->env.cells.lookup x=some c
 | [],cs,x,c,h,e=>h x c e
 | (n,k) :: r,cs,x,c,h,e=>by
  unfold clOf at e
  split at e
  ·split at e
   ·rename_i a ha
    refine Za7 r ((n,a) :: cs) (fun y d q=>?_) e
    rw [List.lookup_cons] at q
    split at q
    ·rename_i hy
     have hy':y=n:=by simpa using hy
     cases q
     rw [hy']; exact ha
    ·exact h y d q
   ·exact Za7 r cs h e
  ·exact Za7 r cs h e
theorem Zdd {env:Env}:∀ (names:List (Str × NameKind)) (cs:List (Str × Addr)) {x:Str},(∃ c,cs.lookup x=some c)->∃ c,(clOf env names cs).lookup x=some c
 | [],cs,x,h=>h
 | (n,k) :: r,cs,x,h=>by
  have h2:∀ a,∃ c,((n,a) :: cs).lookup x=some c:=fun a=>by
   rw [List.lookup_cons]
   split
   ·exact ⟨_,rfl⟩
   ·exact h
  unfold clOf
  split
  ·split
   ·exact Zdd r _ (h2 _)
   ·exact Zdd r cs h
  ·exact Zdd r cs h
theorem Zc1 {env:Env}:∀ (names:List (Str × NameKind)) (cs:List (Str × Addr)) {x:Str},(x,NameKind.free) ∈ names->(∃ a,env.cells.lookup x=some a)->∃ c,(clOf env names cs).lookup x=some c
 | [],_,_,h,_=>by simp at h
 | (n,k) :: r,cs,x,h,⟨a,ha⟩=>by
  rcases List.mem_cons.mp h with e | hm
  ·have e1:n=x:=(congrArg Prod.fst e).symm
   have e2:k=.free:=(congrArg Prod.snd e).symm
   subst e1; subst e2
   have e:clOf env ((n,.free) :: r) cs=clOf env r ((n,a) :: cs):=by simp [clOf,ha]
   rw [e]
   exact Zdd r _ ⟨a,by simp⟩
  ·unfold clOf
   split
   ·split
    ·exact Zc1 r _ hm ⟨a,ha⟩
    ·exact Zc1 r _ hm ⟨a,ha⟩
   ·exact Zc1 r _ hm ⟨a,ha⟩
def relab (osc scope:Scope):Scope:=
 { scope with names:=scope.names.map fun (n,k)=>if (k == .free && osc.kind == .function && osc.names.lookup n == some .cell) then (n,.cell) else (n,k) }
theorem Zgg {osc scope:Scope} {x:Str} {k:NameKind} (hk:k=.cell\/k=.free) (hc:∀ y ∈ scope.names,y.2 ≠ .cell) (h:(relab osc scope).names.lookup x=some k):(x,NameKind.free) ∈ scope.names:=by
 have hm:=PySem.mem_of_lookup h
 obtain ⟨⟨n,j⟩,hy,e⟩:=List.mem_map.mp hm
 dsimp only at e
 split at e
 ·rename_i hj
  have e1:n=x:=congrArg Prod.fst e
  have hj':j=.free:=by
   simp only [Bool.and_eq_true,beq_iff_eq] at hj
   exact hj.1.1
  rw [<- e1,<- hj']; exact hy
 ·have e1:n=x:=congrArg Prod.fst e
  have e2:j=k:=congrArg Prod.snd e
  rcases hk with z | z
  ·exact absurd (show ((n,j):Str × NameKind).2=.cell from e2.trans z) (hc _ hy)
  ·rw [<- e1,<- z,<- e2]; exact hy
theorem Zev {osc:Scope} {x:Str}:∀ {names:List (Str × NameKind)},names.lookup x=some .free →
  (names.map fun (n,k)=>if (k == NameKind.free && osc.kind == .function && osc.names.lookup n == some .cell) then (n,NameKind.cell) else (n,k)).lookup x=some .cell ∨
  (names.map fun (n,k)=>if (k == NameKind.free && osc.kind == .function && osc.names.lookup n == some .cell) then (n,NameKind.cell) else (n,k)).lookup x=some .free
 | [],h=>by simp at h
 | (n,k) :: r,h=>by
  have ih:=@Zev osc x r
  rw [List.map_cons]
  cases hx:x == n with
  | true=>
   simp only [List.lookup_cons,hx] at h
   cases h
   dsimp only
   split
   ·left; simp [List.lookup_cons,hx]
   ·right; simp [List.lookup_cons,hx]
  | false=>
   simp only [List.lookup_cons,hx] at h
   dsimp only
   split
   ·simpa only [List.lookup_cons,hx] using ih h
   ·simpa only [List.lookup_cons,hx] using ih h
structure CompSc (osc:Scope) (oN:List Str) (scope:Scope) (fvs:List Str) (sel:List Nat):Prop where
 kind:scope.kind=.function
 nocell:∀ y ∈ scope.names,y.2 ≠ .cell
 names:∀ y ∈ scope.names,y.2=.local->scope.names.lookup y.1=some .local
 free:∀ y ∈ scope.names,y.2=.free->osc.names.lookup y.1=some .cell\/osc.names.lookup y.1=some .free
 len:fvs.length=sel.length
 fv:∀ p ∈ fvs.zip sel,oN[p.2]? = some p.1/\scope.names.lookup p.1=some .free
def compCx (X:Cx) (scope:Scope) (N:List Str) (C:Addr) (s:Shared) (H:Hp) (ex:List Addr) (pn:List (Addr × Obj)):Cx where
 prog:=X.prog
 w:=X.w
 K:=X.K
 mg:=X.mg
 base:=X.base
 A:=X.A
 N:=N
 s₀:=s
 H₀:=H
 env:=compEnvC scope (clOf X.env scope.names []) C X.env
 outer:=X.stack
 stack:=X.stack
 ex:=ex
 fn:=fun _=>false
 calm:=X.calm
 pn:=pn
 xe:=fun _ _=>False
def compSt (n:Nat) (sel:List Nat) (σ:St):St:=List.replicate n none ++ sel.map fun i=>(σ[i]?).getD none
section
variable {X:Cx} {pins:List (Addr × Obj)} {σ:St} {H:Hp} {s:Shared} {fp:List Addr} {scope:Scope} {tgs fvs:List Str} {sel:List Nat}
theorem Zdm (S:CompSc X.env.scope X.N scope fvs sel) (ok:X.Ok):∀ n,(n,NameKind.free) ∈ scope.names->∃ a,X.env.cells.lookup n=some a:=fun n hn=>
 ok.has n (S.free _ hn rfl)
theorem Zo2 (S:CompSc X.env.scope X.N scope fvs sel) (N:List Str) (I:Inv X pins σ H s) (hf:∀ b ∈ fp,FpOk X pins H b) (hlt:∀ b ∈ fp,b < s.heap.objs.size):(compCx X scope N s.heap.objs.size s H fp (X.pn ++ pins)).Ok where
 mod:=I.ok.mod
 kind:=S.kind
 glob:=I.ok.glob
 blt:=I.ok.blt
 above:=Nat.le_refl _
 inj:=fun x y c h1 h2=>I.ok.inj x y c (Za7 _ _ (fun _ _ z=>by simp at z) h1) (Za7 _ _ (fun _ _ z=>by simp at z) h2)
 has:=fun x hx=>by
  have hm:(x,NameKind.free) ∈ scope.names:=by
   rcases hx with z | z
   ·exact Zgg (osc:=X.env.scope) (.inl rfl) S.nocell z
   ·exact Zgg (osc:=X.env.scope) (.inr rfl) S.nocell z
  exact Zc1 scope.names [] hm (Zdm S I.ok x hm)
 cab:=fun x c h _=>by cases h
 hd:=I.ok.hd
 frames:=I.ok.frames
 stk:=.inl rfl
 exf:=fun b hb=>⟨Nat.ne_of_lt (hlt b hb),fun x c e=>(hf b hb).2.2.2.2.1 x c (Za7 _ _ (fun _ _ z=>by simp at z) e)⟩
 bs:=I.bs
 bsz:=Nat.le_trans I.ok.bsz I.sz
 noex:=fun b o e hb=>by
  rcases (hf b hb).2.2.2.1 with z | z
  ·exact I.ok.noex b o e z
  ·exact absurd (Nat.lt_of_lt_of_le (Heap.lt_size e) (Nat.le_trans I.ok.bsz z)) (Nat.lt_irrefl _)
 exfs:=fun b hb z=>by
  rcases List.mem_cons.mp (I.stkSub b z) with e | z
  ·exact (hf b hb).2.1 e
  ·exact (hf b hb).2.2.1 z
 funs:=I.stack
 frf:=I.stkFree
theorem Zlv (S:CompSc X.env.scope X.N scope fvs sel) (I:Inv X pins σ H s) (hf:∀ b ∈ fp,FpOk X pins H b) (hlt:∀ b ∈ fp,b < s.heap.objs.size) {h':Heap} {tk:Nat} {m:Str->Option Value}
  (hns:h'.Ns s.heap.objs.size m) (old:∀ b o,s.heap.get? b=some o->h'.get? b=some o) :
  Inv (compCx X scope (tgs ++ fvs) s.heap.objs.size s H fp (X.pn ++ pins)) [] (compSt tgs.length sel σ) H { s with heap:=h',toks:=tk } where
 ok:=Zo2 S _ I hf hlt
 os:=rfl
 bare:=I.bare
 base:=Un.kept old
 loc:=by
  refine ⟨m,hns,fun i x v h1 h2 h3=>?_⟩
  have h1:(tgs ++ fvs)[i]? = some x:=h1
  unfold compSt at h2
  by_cases hi:i < tgs.length
  ·rw [List.getElem?_append_left (by simpa using hi),List.getElem?_replicate,if_pos hi] at h2
   cases h2
  ·have hi':tgs.length<=i:=Nat.le_of_not_lt hi
   rw [List.getElem?_append_right (by simpa using hi'),List.getElem?_map,List.length_replicate] at h2
   rw [List.getElem?_append_right hi'] at h1
   cases hj:sel[i - tgs.length]? with
   | none=>rw [hj] at h2; cases h2
   | some j=>
    rw [hj] at h2
    have h2:(σ[j]?).getD none=some v:=by simpa using h2
    have hz:(x,j) ∈ fvs.zip sel:=by
     refine List.mem_of_getElem? (i:=i - tgs.length) ?_
     rw [List.getElem?_zip_eq_some]
     exact ⟨h1,hj⟩
    obtain ⟨hN,hfr⟩:=S.fv _ hz
    have hσ:σ[j]? = some (some v):=by
     cases q:σ[j]? with
     | none=>rw [q] at h2; cases h2
     | some o=>rw [q] at h2; exact congrArg some h2
    have hko:X.env.scope.names.lookup x=some .cell\/X.env.scope.names.lookup x=some .free:=S.free (x,.free) (PySem.mem_of_lookup hfr) rfl
    obtain ⟨m0,hn0,hl0⟩:=I.loc
    obtain ⟨u,r,l⟩:=hl0 j x v hN hσ (.inr hko)
    refine ⟨u,r,.inr ⟨Zev hfr,?_⟩⟩
    rcases l with ⟨hk,_⟩ | ⟨_,c,hc,hcell⟩
    ·have hk:X.env.scope.names.lookup x=some .local:=hk
     rcases hko with z | z <;> (rw [hk] at z; cases z)
    ·obtain ⟨c',hc'⟩:=Zc1 scope.names [] (PySem.mem_of_lookup hfr) ⟨c,hc⟩
     have e:=Za7 scope.names [] (fun _ _ z=>by simp at z) hc'
     rw [hc] at e; cases e
     obtain ⟨o,ho,hd⟩:=hcell
     exact ⟨c,hc',o,old _ _ ho,hd⟩
 cell:=fun x c e=>by
  obtain ⟨v,o,ho,hd⟩:=I.cell x c (Za7 _ _ (fun _ _ z=>by simp at z) e)
  exact ⟨v,o,old _ _ ho,hd⟩
 free:=I.hok.fresh (Nat.le_refl _)
 freeC:=fun x c e=>I.freeC x c (Za7 _ _ (fun _ _ z=>by simp at z) e)
 pin:=fun p hp=>by
  have hp:p ∈ (X.pn ++ pins) ++ []:=hp
  rw [List.append_nil] at hp
  obtain ⟨e,n,ne,nf,d⟩:=I.pin p hp
  refine ⟨old _ _ e,n,Nat.ne_of_lt (Heap.lt_size e),fun z=>?_,d⟩
  rcases List.mem_cons.mp (I.stkSub p.1 z) with q | q
  ·exact ne q
  ·exact nf q
 hok:=I.hok.kept old
 len:=by
  unfold compSt
  show _=(tgs ++ fvs).length
  rw [List.length_append,List.length_append,List.length_replicate,List.length_map,S.len]
theorem Zk9 {N:List Str} {σ':St} {H':Hp} {s':Shared} {h':Heap} (I:Inv X pins σ H s) (hf:∀ b ∈ fp,FpOk X pins H b)
  (J:Inv (compCx X scope N s.heap.objs.size s H fp (X.pn ++ pins)) [] σ' H' s') (sb:Heap.SameBut s.heap.objs.size s'.heap h'):Inv X pins σ H' { s' with heap:=h' }:=by
 have B:Un (frs X.stack) fp H H' s.heap s'.heap:=J.base
 have ne:∀ b o,s.heap.get? b=some o->b ≠ s.heap.objs.size:=fun b o e=>Nat.ne_of_lt (Heap.lt_size e)
 have fr:H' s.heap.objs.size=none:=J.free
 refine I.call' (s':={ s' with heap:=h' }) (ch:=fp) J.os ⟨fun b o e n h1 h2=>?_,fun b o e n h1 h2=>?_,B.free,fun b o e h2=>?_,B.tups,B.frzs,B.tbls⟩ (fun b ob e=>?_) J.bare fun b hb=>?_
 ·exact (sb.2 b (ne b o e)).trans (B.keep b o e n h1 h2)
 ·obtain ⟨sl,q⟩:=B.slot b o e n h1 h2
  exact ⟨sl,(sb.2 b (ne b o e)).trans q⟩
 ·obtain ⟨o',q⟩:=B.there b o e h2
  exact ⟨o',(sb.2 b (ne b o e)).trans q⟩
 ·refine (J.hok b ob e).stay (fun c w' hc q=>(sb.2 c ?_).trans q) (fun _ q=>q) fun _ _ q=>q
  intro z
  rcases hc with hc | hc
  ·rw [<- hc,z,fr] at e; cases e
  ·rw [z,fr] at hc; cases hc
 ·exact ⟨(hf b hb).2.2.2.1,(hf b hb).2.1,(hf b hb).2.2.2.2.1,(hf b hb).2.2.2.2.2⟩
end
def PTs (X:Cx) (ifs:List Expr) (t:TT):Prop:=
 ∀ (pins:List (Addr × Obj)) (s:Shared) (σ:St) (H:Hp) (Q:Bool->Hp->Prop),Inv X pins σ H s->t σ H Q →
  wpAny (model X.prog X.w) X.A (forIn ifs true fun c r=>if r=true then do let ok ← isTrue c X.env (eval c X.env); pure (ForInStep.yield ok) else pure (ForInStep.yield r)) (TP X pins σ Q) X.xe s
def tTrue:TT:=fun _ H Q=>Q true H
theorem Zcu {X:Cx}:PTs X [] tTrue:=fun pins s σ H Q I h=>wpAny_tests_nil ⟨H,I,h⟩
theorem Zka {X:Cx} {c:Expr} {t:TT} (h:PT X c t):PTs X [c] t:=fun pins s σ H Q I hq=>wpAny_tests_one (h pins s σ H Q I hq)
def tComp (n:Nat) (sel:List Nat) (wi:TI) (g:TG) (tc:TT) (te:TE):TE:=fun σ H Q=>wi σ H fun J H1=>∀ acc,H1 acc=none->∃ W:Nat->Nat->St->Hp->Prop,
 (∃ m,W 0 m (compSt n sel σ) (upd H1 acc (.lst [])))/\∀ i m σ' H',W i m σ' H' →
  (J.stop i H' /\ Q (.ref acc) H')\/(J.go i H' /\ ∃ N:St->Hp->Prop,(∀ σ2 H2,N σ2 H2->∃ m',m' < m/\W (i + 1) m' σ2 H2) ∧
   ∀ x H2,J.yld i H' x H2->g x σ' H2 fun σ2 H3=>tc σ2 H3 fun b H4=>if b=true then te σ2 H4 fun y H5=>∃ ys,H5 acc=some (.lst ys)/\ys.length < sizeLine/\N σ2 (upd H5 acc (.lst (ys ++ [y]))) else N σ2 H4)
section
variable {X:Cx}
theorem Zge {elt tg iter:Expr} {ifs:List Expr} {scope:Scope} {pos:Pos} {tgs fvs:List Str} {sel:List Nat} {g:TG} {tc:TT} {te:TE} (S:CompSc X.env.scope X.N scope fvs sel) {Cm:Cx->Prop} (hc:∀ C s H ex pn,Cm (compCx X scope (tgs ++ fvs) C s H ex pn))
  (hg:∀ C s H ex pn,PG (compCx X scope (tgs ++ fvs) C s H ex pn) tg g) (ht:∀ C s H ex pn,PTs (compCx X scope (tgs ++ fvs) C s H ex pn) ifs tc) (he:∀ C s H ex pn,PE (compCx X scope (tgs ++ fvs) C s H ex pn) elt te)
  {pins:List (Addr × Obj)} {σ:St} {s:Shared} {itv:Value} {Q:VK} {E:Value->Shared->Prop} {RR:Value->Addr->Result->Shared->Prop}
  (h2:PIEG Cm X pins σ tg (fun J H1=>∀ acc,H1 acc=none->∃ W:Nat->Nat->St->Hp->Prop,
   (∃ m,W 0 m (compSt tgs.length sel σ) (upd H1 acc (.lst [])))/\∀ i m σ' H',W i m σ' H' →
   (J.stop i H' /\ Q (.ref acc) H')\/(J.go i H' /\ ∃ N:St->Hp->Prop,(∀ σ2 H2,N σ2 H2->∃ m',m' < m/\W (i + 1) m' σ2 H2) ∧
   ∀ x H2,J.yld i H' x H2->g x σ' H2 fun σ2 H3=>tc σ2 H3 fun b H4=>if b=true then te σ2 H4 fun y H5=>∃ ys,H5 acc=some (.lst ys)/\ys.length < sizeLine/\N σ2 (upd H5 acc (.lst (ys ++ [y]))) else N σ2 H4)) itv s)
  (fin:∀ (s':Shared) (C acc:Addr) (H':Hp) (m:Str->Option Value),s'.heap.Ns C m->FpOk X pins H' C->(∀ h',Heap.SameBut C s'.heap h' -> Inv X pins σ H' { s' with heap:=h' })->Q (.ref acc) H' -> RR (.ref acc) C (.ok .next) s') :
  wpAny (model X.prog X.w) X.A (newList []) (fun acc s3=>wpAny (model X.prog X.w) X.A (newFunctionEnv scope X.env.globals (clOf X.env scope.names []) [] X.env.qual none .none (some X.env)) (fun cenv s4=>
   codeAny (model X.prog X.w) X.A (.compStart (.ListComp elt [⟨tg,iter,ifs,0⟩] scope pos) 0 itv acc { cenv with scope:=relabel scope X.env }) (RR acc cenv.locals) s4) E s3) E s:=by
 obtain ⟨it,fp,tn,J,H1,e,I,T,st,f2,h2⟩:=h2
 subst e
 have hlt:∀ b ∈ fp,b < s.heap.objs.size:=fun b hb=>let ⟨o,ho,_⟩:=T.obj 0 _ st b hb; Heap.lt_size ho
 refine wpAny_newObj_type (wpAny_newFunctionEnv S.nocell (by intro y hy; simp at hy) (fun h1 hns hsb=>?_) S.kind)
 dsimp only at hns hsb ⊢
 have I3:Inv X pins σ (upd H1 s.heap.objs.size (.lst [])) { s with heap:=s.heap.push { cls:=.type "list",data:=.seq ([]:List Value).toArray },toks:=s.toks }:=I.lnew (its:=[]) .nil (by decide)
 have hacc:H1 s.heap.objs.size=none:=I.hok.fresh (Nat.le_refl _)
 obtain ⟨W,⟨m0,w0⟩,turn⟩:=h2 s.heap.objs.size hacc
 generalize hs3:({ s with heap:=s.heap.push { cls:=.type "list",data:=.seq ([]:List Value).toArray },toks:=s.toks }:Shared)=s3 at I3
 have hh3:s3.heap=s.heap.push { cls:=.type "list",data:=.seq ([]:List Value).toArray }:=by rw [<- hs3]
 have old3:∀ b o,s.heap.get? b=some o->s3.heap.get? b=some o:=fun b o q=>by rw [hh3]; exact Heap.get?_push_of_some _ q
 have hf3:∀ b ∈ fp,FpOk X pins (upd H1 s.heap.objs.size (.lst [])) b:=fun b hb=>⟨by rw [Zak (Nat.ne_of_lt (hlt b hb))]; exact (f2 b hb).1,(f2 b hb).2⟩
 have hlt3:∀ b ∈ fp,b < s3.heap.objs.size:=fun b hb=>by rw [hh3,Heap.size_push]; exact Nat.lt_succ_of_lt (hlt b hb)
 have tn3:tn 0 s3.heap:=T.keep 0 _ _ st fun b hb o q=>old3 b o q
 have old4:∀ b o,s3.heap.get? b=some o->h1.get? b=some o:=fun b o q=>by
  have hb:b ≠ s3.heap.objs.size:=Nat.ne_of_lt (Heap.lt_size q)
  rw [hh3] at hb q
  exact (hsb.2 b hb).trans (Heap.get?_push_of_some _ q)
 have tn4:tn 0 h1:=T.keep 0 _ _ tn3 fun b hb o q=>old4 b o q
 have hC:(s.heap.push { cls:=.type "list",data:=.seq ([]:List Value).toArray }).objs.size=s3.heap.objs.size:=by rw [hh3]
 rw [hC] at hns
 have J0:=Zlv (tgs:=tgs) (tk:=s.toks + ([]:List (Str × Value)).length) S I3 hf3 hlt3 hns old4
 have es:({ s3 with heap:=h1,toks:=s.toks + ([]:List (Str × Value)).length }:Shared) = { s with heap:=h1,toks:=s.toks + ([]:List (Str × Value)).length }:=by rw [<- hs3]
 rw [es] at J0
 generalize hY:compCx X scope (tgs ++ fvs) s3.heap.objs.size s3 (upd H1 s.heap.objs.size (.lst [])) fp (X.pn ++ pins)=Y at J0
 have hYp:Y.prog=X.prog:=by rw [<- hY]; rfl
 have hYw:Y.w=X.w:=by rw [<- hY]; rfl
 have hYK:Y.K=X.K:=by rw [<- hY]; rfl
 have hYA:Y.A=X.A:=by rw [<- hY]; rfl
 have hYc:Cm Y:=by rw [<- hY]; exact hc _ _ _ _ _
 have hYx:Y.xe=fun _ _=>False:=by rw [<- hY]; rfl
 have hYe:Y.env=compEnvC scope (clOf X.env scope.names []) s3.heap.objs.size X.env:=by rw [<- hY]; rfl
 have stat:∀ {H':Hp},(∀ b ∈ fp,H' b=none)->∀ b ∈ fp,FpOk Y [] H' b:=fun hn b hb=>by
  rw [<- hY]
  refine ⟨hn b hb,Nat.ne_of_lt (hlt3 b hb),fun z=>?_,.inl hb,fun x c e=>?_,fun p hp z=>?_⟩
  ·rcases List.mem_cons.mp (I3.stkSub b z) with q | q
   ·exact (hf3 b hb).2.1 q
   ·exact (hf3 b hb).2.2.1 q
  ·exact (hf3 b hb).2.2.2.2.1 x c (Za7 _ _ (fun _ _ z=>by simp at z) e)
  ·have hp:p ∈ (X.pn ++ pins) ++ []:=hp
   rw [List.append_nil] at hp
   exact (hf3 b hb).2.2.2.2.2 p hp z
 have loop:codeAny (model X.prog X.w) X.A (.compLoop (.ListComp elt [⟨tg,iter,ifs,0⟩] scope pos) 0 (.ref it) (.ref s.heap.objs.size) Y.env) (RR (.ref s.heap.objs.size) s3.heap.objs.size)
   { s with heap:=h1,toks:=s.toks + ([]:List (Str × Value)).length }:=by
  refine codeAny_loop rfl (fun n s'=>∃ i σ' H',Inv Y [] σ' H' s' /\ tn i s'.heap/\(∀ b ∈ fp,H' b=none)/\W i n σ' H') ?_ m0 ⟨0,_,_,J0,tn4,fun b hb=>(hf3 b hb).1,w0⟩
  rintro n s5 ⟨i,σ5,H5,I5,st5,fr5,w5⟩
  show wpAny _ X.A ((compTurn (.ListComp elt [⟨tg,iter,ifs,0⟩] scope pos) 0 (.ref it) (.ref s.heap.objs.size) Y.env).onRaise (fun x=>do noteFrame x Y.env; theTreesLotGoes x)) _ _ s5
  refine wpAny_noted (wpAny_mono (E:=fun _ _=>False) ?_ (fun _ _ q=>q) fun _ _ z=>z.elim)
  rw [compTurn_list]
  refine wpAny_bind (wpAny_standAt (wpAny_bind ?_))
  rcases turn i n σ5 H5 w5 with ⟨stop,qn⟩ | ⟨go,N,hN,step⟩
  ·have D:=T.done Y hYp hYw hYK hYc i [] s5 σ5 H5 (fun _ _=>False) I5 (stat fr5) st5 stop
   rw [hYA] at D
   refine thn D fun r s6 ⟨hr,I6⟩=>?_
   subst hr
   refine wpAny_pure ?_
   obtain ⟨m6,hn6,_⟩:=I6.loc
   rw [hYe] at hn6
   refine fin s6 _ _ H5 m6 hn6 (I3.fpOk (Nat.le_refl _) (by have z:=I6.free; rw [hYe] at z; exact z)) (fun h' sb=>?_) qn
   have I6':Inv (compCx X scope (tgs ++ fvs) s3.heap.objs.size s3 (upd H1 s.heap.objs.size (.lst [])) fp (X.pn ++ pins)) [] σ5 H5 s6:=by rw [hY]; exact I6
   exact Zk9 I3 hf3 I6' sb
  ·have D:=T.item Y hYp hYw hYK hYc i [] s5 σ5 H5 (fun _ _=>False) I5 (stat fr5) st5 go
   rw [hYA] at D
   refine thn D fun r s6 ⟨u,hr,h6⟩=>?_
   subst hr
   refine wpAny_bind (thn h6 fun _ s7 ⟨x,H7,I7,r7,y7,st7,fr7⟩=>?_)
   have I7':=I7.pinned (stat fr7) (T.obj _ _ st7)
   have G:=hg s3.heap.objs.size s3 (upd H1 s.heap.objs.size (.lst [])) fp (X.pn ++ pins)
   have TT:=ht s3.heap.objs.size s3 (upd H1 s.heap.objs.size (.lst [])) fp (X.pn ++ pins)
   have EE:=he s3.heap.objs.size s3 (upd H1 s.heap.objs.size (.lst [])) fp (X.pn ++ pins)
   rw [hY] at G TT EE
   have G1:=G _ s7 σ5 H7 x u _ I7' r7 (step x H7 y7)
   rw [hYp,hYw,hYA,hYx] at G1
   refine wpAny_bind (thn G1 fun _ s8 ⟨σ8,H8,I8,q8⟩=>?_)
   have T1:=TT _ s8 σ8 H8 _ I8 q8
   rw [hYp,hYw,hYA,hYx] at T1
   refine wpAny_bind (thn T1 fun ok s9 ⟨H9,I9,q9⟩=>?_)
   have again:∀ {s':Shared} {σ':St} {H':Hp},Inv Y ([] ++ pinsAt fp s7.heap) σ' H' s' -> N σ' H' -> ∃ m,m < n/\∃ i σ' H',Inv Y [] σ' H' s' /\ tn i s'.heap/\(∀ b ∈ fp,H' b=none)/\W i m σ' H':=fun {s' σ' H'} K7 n7=>by
    obtain ⟨m',hm,w7⟩:=hN σ' H' n7
    refine ⟨m',hm,i + 1,σ',H',K7.unpinned,T.keep _ _ _ st7 fun b hb o e=>(K7.pin (b,o) (List.mem_append_right _ (List.mem_append_right _ (Zck hb e)))).1,fun b hb=>?_,w7⟩
    obtain ⟨o,e,d⟩:=T.obj _ _ st7 b hb
    exact (K7.pin (b,o) (List.mem_append_right _ (List.mem_append_right _ (Zck hb e)))).2.1
   cases ok with
   | false=>
    have q9:N σ8 H9:=q9
    exact wpAny_pure ⟨by rw [hYe],again I9 q9⟩
   | true=>
    have q9:te σ8 H9 fun y H5=>∃ ys,H5 s.heap.objs.size=some (.lst ys)/\ys.length < sizeLine/\N σ8 (upd H5 s.heap.objs.size (.lst (ys ++ [y]))):=q9
    have E1:=EE _ s9 σ8 H9 _ I9 q9
    rw [hYp,hYw,hYA,hYx] at E1
    refine wpAny_bind (wpAny_bind (thn E1 fun v sa ⟨y,Ha,Ia,ra,ys,ea,za,na⟩=>?_))
    have M:=Zbo (X:=Y) _ sa σ8 Ha (.ref s.heap.objs.size) [y] (.ref s.heap.objs.size) [v] (fun _ H=>N σ8 H) Ia rfl (.cons ra .nil) ⟨_,ys,y,rfl,rfl,ea,za,na⟩
    rw [hYp,hYw,hYA,hYx] at M
    refine wpAny_bind (thn M fun _ sb ⟨_,Hb,Ib,_,nb⟩=>wpAny_pure (wpAny_pure ⟨by rw [hYe],again Ib nb⟩))
 have hcs:(relabel scope X.env)=(relabel scope X.env):=rfl
 have loop':=loop
 rw [hYe] at loop'
 show codeAny (model X.prog X.w) X.A (.compStart (.ListComp elt [⟨tg,iter,ifs,0⟩] scope pos) 0 (.ref it) (.ref s.heap.objs.size) (compEnvC scope (clOf X.env scope.names []) (s.heap.push { cls:=.type "list",data:=.seq ([]:List Value).toArray }).objs.size X.env)) (RR (.ref s.heap.objs.size) (s.heap.push { cls:=.type "list",data:=.seq ([]:List Value).toArray }).objs.size) _
 rw [hC]
 exact codeAny_compStart_list loop' (T.self _ 0 _ _ _ tn4 loop')
theorem Zdy {elt tg iter:Expr} {ifs:List Expr} {scope:Scope} {pos:Pos} {fvs:List Str} {sel:List Nat} {wi:TI} {g:TG} {tc:TT} {te:TE} (tgs:List Str) (S:CompSc X.env.scope X.N scope fvs sel) (hc:X.calm=true)
  (hi:PI X tg iter wi) (hg:∀ C s H ex pn,PG (compCx X scope (tgs ++ fvs) C s H ex pn) tg g) (ht:∀ C s H ex pn,PTs (compCx X scope (tgs ++ fvs) C s H ex pn) ifs tc) (he:∀ C s H ex pn,PE (compCx X scope (tgs ++ fvs) C s H ex pn) elt te)
  (hs:∀ x,foldedSetIterable iter X.env x=pure x:=by intro _; rfl) :
  PE X (.ListComp elt [⟨tg,iter,ifs,0⟩] scope pos) (tComp tgs.length sel wi g tc te):=by
 intro pins s σ H Q I h
 rw [eval_ListComp]
 refine wpAny_comprehension_free (use:=none) rfl hs (Zcd (Zdm S I.ok)) S.kind S.names (thn (hi pins s σ H _ I h) fun v s1 h1=>thn h1 fun itv s2 h2=>?_)
 refine Zge (Cm:=fun X=>X.calm=true) S (fun _ _ _ _ _=>hc) hg ht he (RR:=fun acc C=>compPost (model X.prog X.w) X.A X.xe none (EP X pins σ Q) acc C) (Q:=Q) h2 ?_
 intro s' C acc H' m hn _ hI q
 exact ⟨m,hn,fun h' sb=>⟨.ref acc,H',hI h' sb,rfl,q⟩⟩
theorem Zc4 {elt tg iter:Expr} {ifs:List Expr} {scope:Scope} {pos spos py:Pos} {fvs:List Str} {sel:List Nat} {wi:TI} {g:TG} {tc:TT} {te:TE} {i:Nat} {y:Str} (tgs:List Str) (S:CompSc X.env.scope X.N scope fvs sel) (hc:X.calm=true)
  (hN:X.N.Nodup) (hiy:X.N[i]? = some y) (hx:Loc X.env.scope y)
  (hi:PI X tg iter wi) (hg:∀ C s H ex pn,PG (compCx X scope (tgs ++ fvs) C s H ex pn) tg g) (ht:∀ C s H ex pn,PTs (compCx X scope (tgs ++ fvs) C s H ex pn) ifs tc) (he:∀ C s H ex pn,PE (compCx X scope (tgs ++ fvs) C s H ex pn) elt te)
  (hs:∀ x,foldedSetIterable iter X.env x=pure x:=by intro _; rfl) (hsw:swapsWith (.ListComp elt [⟨tg,iter,ifs,0⟩] scope pos) (some (.Name y py)) spos.line X.env=pure true:=by rfl)
  (hf:X.fn y=true\/X.env.scope.names.lookup y=some .local:=by first | exact .inl rfl | exact .inr rfl | assumption) :
  PS X (.Assign [.Name y py] (.ListComp elt [⟨tg,iter,ifs,0⟩] scope pos) spos) (tAsg (tComp tgs.length sel wi g tc te) (gName i)):=by
 intro pins s σ H D I h
 rw [exec_Assign_Name_used _ _ _ _ hsw]
 refine wpAny_bind (wpAny_standAt (wpAny_bind ?_))
 show wpAny _ X.A (do let _ ← comprehension (.ListComp elt [⟨tg,iter,ifs,0⟩] scope pos) scope X.env _ (newList []) false (eval iter X.env) (some (assign (.Name y py) X.env))) _ _ s
 refine wpAny_bind (wpAny_mono (wpAny_comprehension_free (use:=some (assign (.Name y py) X.env)) (Q:=fun _ s'=>SP X pins D .next s') rfl hs (Zcd (Zdm S I.ok)) S.kind S.names
  (thn (hi pins s σ H _ I h) fun v s1 h1=>thn h1 fun itv s2 h2=>?_)) (fun _ s' hq=>wpAny_pure (wpAny_pure hq)) fun _ _ e=>e)
 refine Zge (Cm:=fun X=>X.calm=true) S (fun _ _ _ _ _=>hc) hg ht he (RR:=fun acc C=>compPost (model X.prog X.w) X.A X.xe (some (assign (.Name y py) X.env)) (fun _ s'=>SP X pins D .next s') acc C) (Q:=fun v H'=>D.nx (σ.set i (some v)) H') h2 ?_
 intro s' C acc H' m hn fp hI q
 have I0:Inv X pins σ H' s':=hI s'.heap (.refl ..)
 show wpAny _ X.A (assign (.Name y py) X.env (.ref acc)) _ _ _
 refine wpAny_assign_Name (Zf0 (v:=.ref acc) I0 hN hiy hx rfl (fun s2 I2 hsb=>?_) hf)
 obtain ⟨a,sb,ha⟩:=hsb
 have hCa:C ≠ a:=by
  rcases ha with z | z
  ·rw [z]; exact fp.2.1
  ·exact Ne.symm (fp.2.2.2.2.1 y a z)
 refine ⟨m,hn.sameBut sb hCa,fun h' sb'=>?_⟩
 obtain ⟨f0,f1,f2,f3,f4,f5⟩:=fp
 exact ⟨_,H',I2.turned (t':=s2.toks) (it:=C) (fun b o hb e=>(sb'.2 b hb).trans e) f0 f1 f3 f4 f5,q⟩
end
end L2
set_option Elab.async false
set_option linter.all false
set_option maxRecDepth 100000
namespace L2
open PySem PySem.Spec PyProof.Rows
def InsC (a C:Addr) (h:Heap):Prop:=∃ ox vs,h.get? a=some ox/\ox.cls=.ref C/\ox.data=.fields vs/\vs[2]? = some .none
inductive D where
 | non | bl (b:Bool) | int (i:Int) | str (x:Str) | ty (n:String) | tup (ds:List D) | lst (ds:List D) | scr (ds:List D) | adr (a:Addr) | dct (ks:List Key) (ds:List D) | exc (a C:Addr)
mutual
inductive Rep (K:PySem.W.Frag) (G:Hp):V->D->Prop
 | non:Rep K G .non .non
 | bl (b:Bool):Rep K G (.bl b) (.bl b)
 | int (i:Int):Rep K G (.int i) (.int i)
 | str (x:Str):Rep K G (.str x) (.str x)
 | ty (n:String):Rep K G (.ty n) (.ty n)
 | tup {a:Addr} {vs:List V} {ds:List D}:G a=some (.tup vs)->Reps K G vs ds->Rep K G (.ref a) (.tup ds)
 | lst {a:Addr} {vs:List V} {ds:List D}:G a=some (.lst vs)->Reps K G vs ds->Rep K G (.ref a) (.lst ds)
 | scr {a:Addr} {vs:List V} {ds:List D}:SqL K G a vs->Reps K G vs ds->Rep K G (.ref a) (.scr ds)
 | adr (a:Addr):Rep K G (.ref a) (.adr a)
 | dct {a:Addr} {ks:List Key} {vs:List V} {ds:List D}:G a=some (.dK (ks.zip vs))->ks.length=vs.length->Reps K G vs ds->Rep K G (.ref a) (.dct ks ds)
 | exc {a C:Addr}:G a=some (.ext (InsC a C))->Rep K G (.ref a) (.exc a C)
inductive Reps (K:PySem.W.Frag) (G:Hp):List V->List D->Prop
 | nil:Reps K G [] []
 | cons {v:V} {d:D} {vs:List V} {ds:List D}:Rep K G v d->Reps K G vs ds->Reps K G (v :: vs) (d :: ds)
end
def RepI (K:PySem.W.Frag) (G:Hp) (v:V):D->Prop
 | .non=>v=.non
 | .bl b=>v=.bl b
 | .int i=>v=.int i
 | .str x=>v=.str x
 | .ty n=>v=.ty n
 | .tup ds=>∃ a vs,v=.ref a/\G a=some (.tup vs)/\Reps K G vs ds
 | .lst ds=>∃ a vs,v=.ref a/\G a=some (.lst vs)/\Reps K G vs ds
 | .scr ds=>∃ a vs,v=.ref a/\SqL K G a vs/\Reps K G vs ds
 | .adr a=>v=.ref a
 | .dct ks ds=>∃ a vs,v=.ref a/\G a=some (.dK (ks.zip vs))/\ks.length=vs.length/\Reps K G vs ds
 | .exc a C=>v=.ref a/\G a=some (.ext (InsC a C))
theorem Rep.inv {K:PySem.W.Frag} {G:Hp} {v:V} {d:D} (r:Rep K G v d):RepI K G v d:=by
 cases r with
 | tup h r=>exact ⟨_,_,rfl,h,r⟩
 | lst h r=>exact ⟨_,_,rfl,h,r⟩
 | scr h r=>exact ⟨_,_,rfl,h,r⟩
 | dct h l r=>exact ⟨_,_,rfl,h,l,r⟩
 | exc h=>exact ⟨rfl,h⟩
 | _=>rfl
def RepsI (K:PySem.W.Frag) (G:Hp) (vs:List V):List D->Prop
 | []=>vs=[]
 | d :: ds=>∃ v ws,vs=v :: ws/\Rep K G v d/\Reps K G ws ds
theorem Reps.inv {K:PySem.W.Frag} {G:Hp} {vs:List V} {ds:List D} (r:Reps K G vs ds):RepsI K G vs ds:=by
 cases r with
 | nil=>rfl
 | cons a b=>exact ⟨_,_,rfl,a,b⟩
section
variable {K:PySem.W.Frag} {G G' H H':Hp}
mutual
theorem Rep.mono (s:Same G G'):∀ {v:V} {d:D},Rep K G v d->Rep K G' v d
 | _,_,.non=>.non
 | _,_,.bl b=>.bl b
 | _,_,.int i=>.int i
 | _,_,.str x=>.str x
 | _,_,.ty n=>.ty n
 | _,_,.tup h r=>.tup (s _ _ h) (Reps.mono s r)
 | _,_,.lst h r=>.lst (s _ _ h) (Reps.mono s r)
 | _,_,.scr h r=>.scr (s.seq h) (Reps.mono s r)
 | _,_,.adr a=>.adr a
 | _,_,.dct h l r=>.dct (s _ _ h) l (Reps.mono s r)
 | _,_,.exc h=>.exc (s _ _ h)
theorem Reps.mono (s:Same G G'):∀ {vs:List V} {ds:List D},Reps K G vs ds->Reps K G' vs ds
 | _,_,.nil=>.nil
 | _,_,.cons h r=>.cons (Rep.mono s h) (Reps.mono s r)
end
theorem Reps.length:∀ {vs:List V} {ds:List D},Reps K G vs ds->vs.length=ds.length
 | _,_,.nil=>rfl
 | _,_,.cons _ r=>by rw [List.length_cons,List.length_cons,r.length]
theorem Reps.get:∀ {vs:List V} {ds:List D} {i:Nat} {d:D},Reps K G vs ds->ds[i]? = some d->∃ v,vs[i]? = some v/\Rep K G v d
 | _,_,_,_,.nil,e=>by simp at e
 | _,_,0,_,.cons r _,e=>by simp at e; subst e; exact ⟨_,rfl,r⟩
 | _,_,i + 1,d,.cons _ t,e=>by
  obtain ⟨u,h1,h2⟩:=Reps.get (i:=i) (d:=d) t (by simpa using e)
  exact ⟨u,by simpa using h1,h2⟩
theorem Reps.append:∀ {vs ws:List V} {ds es:List D},Reps K G vs ds->Reps K G ws es->Reps K G (vs ++ ws) (ds ++ es)
 | _,_,_,_,.nil,s=>s
 | _,_,_,_,.cons r t,s=>.cons r (Reps.append t s)
theorem Reps.take:∀ {vs:List V} {ds:List D} (n:Nat),Reps K G vs ds->Reps K G (vs.take n) (ds.take n)
 | _,_,0,_=>.nil
 | _,_,_ + 1,.nil=>.nil
 | _,_,n + 1,.cons r t=>.cons r (Reps.take n t)
theorem Reps.drop:∀ {vs:List V} {ds:List D} (n:Nat),Reps K G vs ds->Reps K G (vs.drop n) (ds.drop n)
 | _,_,0,r=>r
 | _,_,_ + 1,.nil=>.nil
 | _,_,n + 1,.cons _ t=>Reps.drop n t
theorem Reps.reverse {vs:List V} {ds:List D} (h:Reps K G vs ds):Reps K G vs.reverse ds.reverse:=by
 induction vs generalizing ds with
 | nil=>cases h; exact .nil
 | cons v vs ih=>
  cases h with
  | cons r t=>rw [List.reverse_cons,List.reverse_cons]; exact (ih t).append (.cons r .nil)
theorem Reps.set:∀ {vs:List V} {ds:List D} {v:V} {d:D} (i:Nat),Reps K G vs ds->Rep K G v d->Reps K G (vs.set i v) (ds.set i d)
 | _,_,_,_,_,.nil,_=>.nil
 | _,_,_,_,0,.cons _ t,q=>.cons q t
 | _,_,_,_,i + 1,.cons r t,q=>.cons r (Reps.set i t q)
theorem Reps.ints {vs:List V}:∀ {ns:List Int},Reps K G vs (ns.map D.int)->vs=ns.map V.int:=by
 induction vs with
 | nil=>intro ns h; cases ns with
  | nil=>rfl
  | cons n ns=>cases h
 | cons v vs ih=>intro ns h; cases ns with
  | nil=>cases h
  | cons n ns=>
   cases h with
   | cons r t=>cases r.inv; rw [ih t]; rfl
theorem Reps.ofInts:∀ (ns:List Int),Reps K G (ns.map V.int) (ns.map D.int)
 | []=>.nil
 | n :: ns=>.cons (.int n) (Reps.ofInts ns)
theorem Zfn {vs:List V} {ds:List D} {i:Int} {d:D} (r:Reps K G vs ds) (h:atI ds i=some d):∃ v,atI vs i=some v/\Rep K G v d:=by
 unfold atI at h ⊢
 rw [<- r.length] at h
 cases e:ixN vs.length i with
 | none=>rw [e] at h; cases h
 | some j=>rw [e] at h; exact r.get h
end
inductive OD where
 | lst (ds:List D) | dct (kvs:List (Key × D)) | set (S:Int->Bool) (n:Nat) | dtt (kvs:List (List Key × D)) | ext (R:Hp->(Heap->Prop)->Prop)
def OwnRep (K:PySem.W.Frag) (G:Hp):HO->OD->Prop
 | .lst vs,.lst ds=>Reps K G vs ds
 | .dK kvs,.dct kds=>Paired (fun (p:Key × V) (q:Key × D)=>p.1=q.1/\Rep K G p.2 q.2) kvs kds
 | .set S n,.set S' n'=>S=S' /\ n=n'
 | .dT kvs,.dtt kds=>Paired (fun (p:List Key × V) (q:List Key × D)=>p.1=q.1/\Rep K G p.2 q.2) kvs kds
 | .ext φ,.ext R=>∃ G0,Same G0 G/\R G0 φ
 | _,_=>False
theorem OwnRep.mono {K:PySem.W.Frag} {G G':Hp} (s:Same G G') {o:HO} {od:OD} (h:OwnRep K G o od):OwnRep K G' o od:=by
 cases o <;> cases od <;> first
  | exact h.elim
  | exact Reps.mono s h
  | exact Paired.mapP h fun _ _ z=>⟨z.1,z.2.mono s⟩
  | exact (let ⟨g0,s0,r⟩:=h; ⟨g0,s0.trans s,r⟩)
  | exact h
inductive Slot where
 | any | val (d:D) | own (o:OD) | bor (o:OD) | ownA (a:Addr) (o:OD)
abbrev Evt:=List Slot
def Slot.od:Slot->Option OD
 | .own o=>some o
 | .bor o=>some o
 | .ownA _ o=>some o
 | _=>none
structure Gm where
 B:Addr->Prop
 F:Hp
 Hz:Hp
 Xo:Hp
def SlotAt (g:Gm) (x:Slot) (a:Addr):Prop:=match x with
 | .own _=>g.Hz a=none
 | .bor _=>g.B a
 | .ownA b _=>b=a/\g.Hz a=none
 | _=>True
structure Ok (K:PySem.W.Frag) (g:Gm) (G H:Hp) (σ:St) (Δ:Evt):Prop where
 same:∀ b o,¬ g.B b->g.Hz b=some o->H b=some o
 lent:∀ b,g.B b->H b ≠ none
 sub:Same g.F G
 frz:∀ b o,G b=some o->H b=some o/\(g.Hz b=none\/g.F b=some o)
 ext:∀ b o,g.Xo b=some o->H b=some o/\G b=none/\∀ (i:Nat) x od,Δ[i]? = some x->x.od=some od -> σ[i]? ≠ some (some (.ref b))
 len:Δ.length = σ.length
 val:∀ (i:Nat) d,Δ[i]? = some (.val d)->∃ v,σ[i]? = some (some v)/\Rep K G v d
 own:∀ (i:Nat) x od,Δ[i]? = some x->x.od=some od->∃ a o,σ[i]? = some (some (.ref a))/\H a=some o/\OwnRep K G o od/\G a=none/\SlotAt g x a
 dis:∀ (i j:Nat) x y od od' a,Δ[i]? = some x->x.od=some od -> Δ[j]? = some y->y.od=some od' -> σ[i]? = some (some (.ref a)) -> σ[j]? = some (some (.ref a))->i=j
section
variable {K:PySem.W.Frag} {g:Gm} {G H G' H':Hp} {σ:St} {Δ:Evt}
theorem Ok.live (k:Ok K g G H σ Δ):Same G H:=fun b o e=>(k.frz b o e).1
theorem Ok.there (k:Ok K g G H σ Δ) {b:Addr} (h:H b=none):g.Hz b=none:=by
 cases e:g.Hz b with
 | none=>rfl
 | some o=>
  by_cases hb:g.B b
  ·exact absurd h (k.lent b hb)
  ·have:=k.same b o hb e
   rw [h] at this; cases this
theorem Ok.grow (k:Ok K g G H σ Δ) (sg:Same G G') (sh:Same H H') (hg:∀ b o,G' b=some o->H' b=some o/\(G b=some o\/H b=none)):Ok K g G' H' σ Δ where
 same:=fun b o hb e=>sh b o (k.same b o hb e)
 lent:=fun b hb z=>by
  cases e:H b with
  | none=>exact k.lent b hb e
  | some o=>rw [sh b o e] at z; cases z
 sub:=k.sub.trans sg
 frz:=fun b o e=>by
  obtain ⟨h1,h2⟩:=hg b o e
  refine ⟨h1,?_⟩
  rcases h2 with z | z
  ·exact (k.frz b o z).2
  ·exact .inl (k.there z)
 ext:=fun b o e=>by
  obtain ⟨h1,h2,h3⟩:=k.ext b o e
  refine ⟨sh b o h1,?_,h3⟩
  cases q:G' b with
  | none=>rfl
  | some o'=>
   rcases (hg b o' q).2 with z | z
   ·rw [h2] at z; cases z
   ·rw [h1] at z; cases z
 len:=k.len
 val:=fun i d e=>by
  obtain ⟨v,h1,h2⟩:=k.val i d e
  exact ⟨v,h1,h2.mono sg⟩
 own:=fun i x od e1 e2=>by
  obtain ⟨a,o,h1,h2,h3,h4,h5⟩:=k.own i x od e1 e2
  refine ⟨a,o,h1,sh a o h2,h3.mono sg,?_,h5⟩
  cases q:G' a with
  | none=>rfl
  | some o'=>
   rcases (hg a o' q).2 with z | z
   ·rw [h4] at z; cases z
   ·rw [h2] at z; cases z
 dis:=k.dis
theorem Ok.laid (k:Ok K g G H σ Δ) {p:Addr} (hp:H p=none) (o:HO):Ok K g (upd G p o) (upd H p o) σ Δ /\ Same G (upd G p o):=by
 have hG:G p=none:=by
  cases e:G p with
  | none=>rfl
  | some u=>rw [k.live p u e] at hp; cases hp
 have sg:Same G (upd G p o):=fun b u e=>by rw [Zak (Zan e hG)]; exact e
 refine ⟨k.grow sg (fun b u e=>by rw [Zak (Zan e hp)]; exact e) fun b u e=>?_,sg⟩
 by_cases hb:b=p
 ·subst hb; rw [Zam] at e ⊢; exact ⟨e,.inr hp⟩
 ·rw [Zak hb] at e ⊢; exact ⟨k.live b u e,.inl e⟩
theorem Ok.lt (k:Ok K g G H σ Δ) {i:Nat} {x:Slot} (h:Δ[i]? = some x):i < σ.length:=by
 rw [<- k.len]; exact (List.getElem?_eq_some_iff.mp h).1
def Pend (K:PySem.W.Frag) (g:Gm) (G H:Hp) (σ:St) (Δ:Evt) (a:Addr) (od:OD):Prop:=
 ∃ o,H a=some o/\OwnRep K G o od/\G a=none/\g.Hz a=none/\g.Xo a=none/\∀ (i:Nat) x od',Δ[i]? = some x->x.od=some od' -> σ[i]? ≠ some (some (.ref a))
theorem Ok.setVal (k:Ok K g G H σ Δ) {v:V} {d:D} {i:Nat} (hi:i < Δ.length) (r:Rep K G v d):Ok K g G H (σ.set i (some v)) (Δ.set i (.val d)):=by
 have hs:i < σ.length:=by rw [<- k.len]; exact hi
 have old:∀ (j:Nat) x od,(Δ.set i (.val d))[j]? = some x->x.od=some od->j ≠ i /\ Δ[j]? = some x/\(σ.set i (some v))[j]? = σ[j]?:=fun j x od e1 e2=>by
  by_cases hj:j=i
  ·subst hj
   rw [List.getElem?_set_self hi] at e1
   cases e1; cases e2
  ·rw [List.getElem?_set_ne (Ne.symm hj)] at e1
   exact ⟨hj,e1,List.getElem?_set_ne (Ne.symm hj)⟩
 refine ⟨k.same,k.lent,k.sub,k.frz,fun b o e=>?_,by simp [k.len],fun j e h=>?_,fun j x od e1 e2=>?_,fun j l x y od od' a e1 e2 e3 e4 e5 e6=>?_⟩
 ·obtain ⟨h1,h2,h3⟩:=k.ext b o e
  refine ⟨h1,h2,fun j x od e1 e2=>?_⟩
  obtain ⟨_,q1,q2⟩:=old j x od e1 e2
  rw [q2]; exact h3 j x od q1 e2
 ·by_cases hj:j=i
  ·subst hj
   rw [List.getElem?_set_self hi] at h
   cases h
   exact ⟨v,List.getElem?_set_self hs,r⟩
  ·rw [List.getElem?_set_ne (Ne.symm hj)] at h ⊢
   exact k.val j e h
 ·obtain ⟨_,q1,q2⟩:=old j x od e1 e2
  rw [q2]; exact k.own j x od q1 e2
 ·obtain ⟨_,q1,q2⟩:=old j x od e1 e2
  obtain ⟨_,q3,q4⟩:=old l y od' e3 e4
  rw [q2] at e5; rw [q4] at e6
  exact k.dis j l x y od od' a q1 e2 q3 e4 e5 e6
theorem Ok.setOwn (k:Ok K g G H σ Δ) {a:Addr} {od:OD} {i:Nat} (hi:i < Δ.length) (p:Pend K g G H σ Δ a od):Ok K g G H (σ.set i (some (.ref a))) (Δ.set i (.own od)):=by
 obtain ⟨o,p1,p2,p3,p4,p5,p6⟩:=p
 have hs:i < σ.length:=by rw [<- k.len]; exact hi
 have old:∀ (j:Nat) x,j ≠ i->(Δ.set i (.own od))[j]? = some x -> Δ[j]? = some x/\(σ.set i (some (.ref a)))[j]? = σ[j]?:=fun j x hj e1=>by
  rw [List.getElem?_set_ne (Ne.symm hj)] at e1
  exact ⟨e1,List.getElem?_set_ne (Ne.symm hj)⟩
 refine ⟨k.same,k.lent,k.sub,k.frz,fun b ob e=>?_,by simp [k.len],fun j e h=>?_,fun j x od' e1 e2=>?_,fun j l x y od1 od2 c e1 e2 e3 e4 e5 e6=>?_⟩
 ·obtain ⟨h1,h2,h3⟩:=k.ext b ob e
  refine ⟨h1,h2,fun j x od' e1 e2=>?_⟩
  by_cases hj:j=i
  ·subst hj
   rw [List.getElem?_set_self hs]
   intro z
   cases z
   rw [p5] at e; cases e
  ·obtain ⟨q1,q2⟩:=old j x hj e1
   rw [q2]; exact h3 j x od' q1 e2
 ·by_cases hj:j=i
  ·subst hj
   rw [List.getElem?_set_self hi] at h
   cases h
  ·rw [List.getElem?_set_ne (Ne.symm hj)] at h ⊢
   exact k.val j e h
 ·by_cases hj:j=i
  ·subst hj
   rw [List.getElem?_set_self hi] at e1
   cases e1
   cases e2
   exact ⟨a,o,List.getElem?_set_self hs,p1,p2,p3,p4⟩
  ·obtain ⟨q1,q2⟩:=old j x hj e1
   rw [q2]; exact k.own j x od' q1 e2
 ·by_cases hj:j=i
  ·by_cases hl:l=i
   ·rw [hj,hl]
   ·obtain ⟨q3,q4⟩:=old l y hl e3
    rw [q4] at e6
    rw [hj,List.getElem?_set_self hs] at e5
    cases e5
    exact absurd e6 (p6 l y od2 q3 e4)
  ·obtain ⟨q1,q2⟩:=old j x hj e1
   rw [q2] at e5
   by_cases hl:l=i
   ·rw [hl,List.getElem?_set_self hs] at e6
    cases e6
    exact absurd e5 (p6 j x od1 q1 e2)
   ·obtain ⟨q3,q4⟩:=old l y hl e3
    rw [q4] at e6
    exact k.dis j l x y od1 od2 c q1 e2 q3 e4 e5 e6
def Slot.put:Slot->OD->Slot
 | .own _,o=>.own o
 | .bor _,o=>.bor o
 | .ownA a _,o=>.ownA a o
 | x,_=>x
theorem SlotAt.put {g:Gm} {x:Slot} {a:Addr} {o:OD} (h:SlotAt g x a):SlotAt g (x.put o) a:=by cases x <;> exact h
theorem SlotAt.free {g:Gm} {x:Slot} {a:Addr} {od:OD} (h:SlotAt g x a) (ho:x.od=some od):g.Hz a=none\/g.B a:=by
 cases x with
 | any=>cases ho
 | val d=>cases ho
 | own o=>exact .inl h
 | bor o=>exact .inr h
 | ownA b o=>exact .inl h.2
theorem Slot.put_od {x:Slot} {od o:OD} (h:x.od=some od):(x.put o).od=some o:=by cases x <;> cases h <;> rfl
theorem Ok.write (k:Ok K g G H σ Δ) {a:Addr} {od od':OD} {x:Slot} {i:Nat} {o':HO} (hx:Δ[i]? = some x) (hod:x.od=some od) (ha:σ[i]? = some (some (.ref a))) (r:OwnRep K G o' od'):Ok K g G (upd H a o') σ (Δ.set i (x.put od')):=by
 obtain ⟨a',o,q1,q2,q3,q4,q5⟩:=k.own i x od hx hod
 rw [ha] at q1; cases q1
 have hi:i < Δ.length:=(List.getElem?_eq_some_iff.mp hx).1
 have other:∀ (j:Nat) y od2,(Δ.set i (x.put od'))[j]? = some y->y.od=some od2->j ≠ i -> Δ[j]? = some y:=fun j y od2 e1 e2 hj=>by
  rw [List.getElem?_set_ne (Ne.symm hj)] at e1; exact e1
 have anyOd:∀ (j:Nat) y od2,(Δ.set i (x.put od'))[j]? = some y->y.od=some od2->∃ y' od3,Δ[j]? = some y' /\ y'.od=some od3:=fun j y od2 e1 e2=>by
  by_cases hj:j=i
  ·subst hj; exact ⟨x,od,hx,hod⟩
  ·exact ⟨y,od2,other j y od2 e1 e2 hj,e2⟩
 refine ⟨fun b u hb e=>?_,fun b hb=>?_,k.sub,fun b u e=>?_,fun b u e=>?_,by simp [k.len],fun j e h=>?_,fun j y od2 e1 e2=>?_,fun j l y z od1 od2 c e1 e2 e3 e4 e5 e6=>?_⟩
 ·have hba:b ≠ a:=by
   intro z; subst z
   rcases q5.free hod with z | z
   ·rw [z] at e; cases e
   ·exact hb z
  rw [Zak hba]; exact k.same b u hb e
 ·by_cases hba:b=a
  ·subst hba; rw [Zam]; intro z; cases z
  ·rw [Zak hba]; exact k.lent b hb
 ·have hba:b ≠ a:=by intro z; subst z; rw [q4] at e; cases e
  rw [Zak hba]; exact k.frz b u e
 ·obtain ⟨h1,h2,h3⟩:=k.ext b u e
  have hba:b ≠ a:=by intro z; subst z; exact h3 i x od hx hod ha
  rw [Zak hba]
  refine ⟨h1,h2,fun j y od2 e1 e2=>?_⟩
  obtain ⟨y',od3,z1,z2⟩:=anyOd j y od2 e1 e2
  exact h3 j y' od3 z1 z2
 ·by_cases hj:j=i
  ·subst hj
   rw [List.getElem?_set_self hi] at h
   cases x <;> cases hod <;> cases h
  ·rw [List.getElem?_set_ne (Ne.symm hj)] at h
   exact k.val j e h
 ·by_cases hj:j=i
  ·subst hj
   rw [List.getElem?_set_self hi] at e1
   cases e1
   rw [Slot.put_od hod] at e2; cases e2
   exact ⟨a,o',ha,Zam,r,q4,q5.put⟩
  ·have e1':=other j y od2 e1 e2 hj
   obtain ⟨c,oc,w1,w2,w3,w4,w5⟩:=k.own j y od2 e1' e2
   have hca:c ≠ a:=by
    intro z; subst z
    exact hj (k.dis j i y x od2 od c e1' e2 hx hod w1 ha)
   exact ⟨c,oc,w1,by rw [Zak hca]; exact w2,w3,w4,w5⟩
 ·obtain ⟨y',od3,z1,z2⟩:=anyOd j y od1 e1 e2
  obtain ⟨y'',od4,z3,z4⟩:=anyOd l z od2 e3 e4
  exact k.dis j l y' y'' od3 od4 c z1 z2 z3 z4 e5 e6
theorem Ok.freeze (k:Ok K g G H σ Δ) {a:Addr} {ds:List D} {vs:List V} (p:Pend K g G H σ Δ a (.lst ds)) (hv:H a=some (.lst vs)):Ok K g (upd G a (.lst vs)) H σ Δ /\ Same G (upd G a (.lst vs))/\Rep K (upd G a (.lst vs)) (.ref a) (.lst ds):=by
 obtain ⟨o,p1,p2,p3,p4,p5,p6⟩:=p
 rw [hv] at p1; cases p1
 have p2:Reps K G vs ds:=p2
 have sg:Same G (upd G a (.lst vs)):=fun b u e=>by rw [Zak (Zan e p3)]; exact e
 refine ⟨⟨k.same,k.lent,k.sub.trans sg,fun b u e=>?_,fun b u e=>?_,k.len,fun j d h=>?_,fun j x od e1 e2=>?_,k.dis⟩,sg,.lst Zam (p2.mono sg)⟩
 ·by_cases hb:b=a
  ·subst hb; rw [Zam] at e; cases e; exact ⟨hv,.inl p4⟩
  ·rw [Zak hb] at e; exact k.frz b u e
 ·obtain ⟨h1,h2,h3⟩:=k.ext b u e
  have hb:b ≠ a:=by intro z; subst z; rw [p5] at e; cases e
  exact ⟨h1,by rw [Zak hb]; exact h2,h3⟩
 ·obtain ⟨v,h1,h2⟩:=k.val j d h
  exact ⟨v,h1,h2.mono sg⟩
 ·obtain ⟨c,o,w1,w2,w3,w4,w5⟩:=k.own j x od e1 e2
  have hc:c ≠ a:=by intro z; subst z; exact p6 j x od e1 e2 w1
  exact ⟨c,o,w1,w2,w3.mono sg,by rw [Zak hc]; exact w4,w5⟩
theorem Ok.drop (k:Ok K g G H σ Δ) (i:Nat):Ok K g G H σ (Δ.set i .any):=by
 have old:∀ (j:Nat) x,(Δ.set i .any)[j]? = some x->x=.any\/(Δ[j]? = some x/\j ≠ i):=fun j x e1=>by
  by_cases hj:j=i
  ·subst hj
   rw [List.getElem?_set] at e1
   simp at e1
   exact .inl e1.2.symm
  ·rw [List.getElem?_set_ne (Ne.symm hj)] at e1
   exact .inr ⟨e1,hj⟩
 have oldO:∀ (j:Nat) x od,(Δ.set i .any)[j]? = some x->x.od=some od -> Δ[j]? = some x:=fun j x od e1 e2=>by
  rcases old j x e1 with z | z
  ·subst z; cases e2
  ·exact z.1
 refine ⟨k.same,k.lent,k.sub,k.frz,fun b o e=>?_,by simp [k.len],fun j e h=>?_,fun j x od e1 e2=>k.own j x od (oldO j x od e1 e2) e2,fun j l x y od od' a e1 e2 e3 e4=>k.dis j l x y od od' a (oldO j x od e1 e2) e2 (oldO l y od' e3 e4) e4⟩
 ·obtain ⟨h1,h2,h3⟩:=k.ext b o e
  exact ⟨h1,h2,fun j x od e1 e2=>h3 j x od (oldO j x od e1 e2) e2⟩
 ·rcases old j _ h with z | z
  ·cases z
  ·exact k.val j e z.1
theorem Ok.take (k:Ok K g G H σ Δ) {i:Nat} {od:OD} (h:Δ[i]? = some (.own od)):∃ a,σ[i]? = some (some (.ref a))/\Pend K g G H σ (Δ.set i .any) a od:=by
 obtain ⟨a,o,h1,h2,h3,h4,h5⟩:=k.own i _ od h rfl
 have h5:g.Hz a=none:=h5
 refine ⟨a,h1,o,h2,h3,h4,h5,?_,fun j x od' e1 e2 e3=>?_⟩
 ·cases q:g.Xo a with
  | none=>rfl
  | some u=>exact absurd h1 ((k.ext a u q).2.2 i _ od h rfl)
 ·by_cases hj:j=i
  ·subst hj
   rw [List.getElem?_set] at e1
   simp at e1
   obtain ⟨_,e1⟩:=e1
   subst e1
   cases e2
  ·rw [List.getElem?_set_ne (Ne.symm hj)] at e1
   exact hj (k.dis j i x _ od' od a e1 e2 h rfl e3 h1)
end
end L2
set_option Elab.async false
set_option linter.all false
set_option maxRecDepth 100000
namespace L2
open PySem PySem.Spec PyProof.Rows
def Cont (K:PySem.W.Frag) (g:Gm) (G:Hp) (σ:St) (P:D->Evt->Prop) (Q:VK):Prop:=
 ∀ v d G' H' Δ',Ok K g G' H' σ Δ' -> Same G G' -> Rep K G' v d->P d Δ' -> Q v H'
def JE (K:PySem.W.Frag) (t:TE) (Δ:Evt) (P:D->Evt->Prop):Prop:=
 ∀ g G H σ Q,Ok K g G H σ Δ -> Cont K g G σ P Q->t σ H Q
def JT (K:PySem.W.Frag) (t:TT) (Δ:Evt) (P:Bool->Evt->Prop):Prop:=
 ∀ g G H σ Q,Ok K g G H σ Δ -> (∀ b G' H' Δ',Ok K g G' H' σ Δ' -> Same G G' -> P b Δ' -> Q b H')->t σ H Q
def JA (K:PySem.W.Frag) (t:TA) (Δ:Evt) (P:List D->Evt->Prop):Prop:=
 ∀ g G H σ Q,Ok K g G H σ Δ -> (∀ vs ds G' H' Δ',Ok K g G' H' σ Δ' -> Same G G' -> Reps K G' vs ds->P ds Δ' -> Q vs H')->t σ H Q
def JO (K:PySem.W.Frag) (t:TE) (Δ:Evt) (P:OD->Evt->Prop):Prop:=
 ∀ g G H σ Q,Ok K g G H σ Δ -> (∀ a od G' H' Δ',Ok K g G' H' σ Δ' -> Same G G' -> Pend K g G' H' σ Δ' a od->P od Δ' -> Q (.ref a) H')->t σ H Q
def JR2 (K:PySem.W.Frag) (r:R2) (d e:D) (Δ:Evt) (P:D->Evt->Prop):Prop:=
 ∀ g G H σ Q x y,Ok K g G H σ Δ -> Rep K G x d->Rep K G y e->Cont K g G σ P Q->r x y H Q
def JR1 (K:PySem.W.Frag) (r:V->Hp->VK->Prop) (d:D) (Δ:Evt) (P:D->Evt->Prop):Prop:=
 ∀ g G H σ Q x,Ok K g G H σ Δ -> Rep K G x d->Cont K g G σ P Q->r x H Q
def JC (K:PySem.W.Frag) (r:List V->Hp->VK->Prop) (ds:List D) (Δ:Evt) (P:D->Evt->Prop):Prop:=
 ∀ g G H σ Q vs,Ok K g G H σ Δ -> Reps K G vs ds->Cont K g G σ P Q->r vs H Q
structure Pst where
 nx:Evt->Prop
 rt:D->Evt->Prop
 bk:Evt->Prop:=fun _=>False
 ct:Evt->Prop:=fun _=>False
 ro:OD->Evt->Prop:=fun _ _=>False
structure SCont (K:PySem.W.Frag) (g:Gm) (P:Pst) (E:Ends):Prop where
 nx:∀ σ G H Δ,Ok K g G H σ Δ -> P.nx Δ -> E.nx σ H
 rt:∀ v d σ G H Δ,Ok K g G H σ Δ -> Rep K G v d->P.rt d Δ -> E.rt v H
 bk:∀ σ G H Δ,Ok K g G H σ Δ -> P.bk Δ -> E.bk σ H
 ct:∀ σ G H Δ,Ok K g G H σ Δ -> P.ct Δ -> E.ct σ H
 ro:∀ a od σ G H Δ,Ok K g G H σ Δ -> Pend K g G H σ Δ a od->P.ro od Δ -> E.rt (.ref a) H
def JS (K:PySem.W.Frag) (t:TS) (Δ:Evt) (P:Pst):Prop:=
 ∀ g G H σ E,Ok K g G H σ Δ -> SCont K g P E->t E σ H
def JG (K:PySem.W.Frag) (t:TG) (d:D) (Δ:Evt) (P:Evt->Prop):Prop:=
 ∀ g G H σ v (R:St->Hp->Prop),Ok K g G H σ Δ -> Rep K G v d->(∀ σ' G' H' Δ',Ok K g G' H' σ' Δ' -> Same G G' -> P Δ' -> R σ' H')->t v σ H R
def JGs (K:PySem.W.Frag) (t:TGs) (ds:List D) (Δ:Evt) (P:Evt->Prop):Prop:=
 ∀ g G H σ vs (R:St->Hp->Prop),Ok K g G H σ Δ -> Reps K G vs ds->(∀ σ' G' H' Δ',Ok K g G' H' σ' Δ' -> Same G G' -> P Δ' -> R σ' H')->t vs σ H R
section
variable {K:PySem.W.Frag} {Δ:Evt}
theorem Cont.up {g:Gm} {G G1:Hp} {σ:St} {P:D->Evt->Prop} {Q:VK} (c:Cont K g G σ P Q) (s:Same G G1):Cont K g G1 σ P Q:=
 fun v d G' H' Δ' k s' r p=>c v d G' H' Δ' k (s.trans s') r p
theorem JE.mono {t:TE} {P P':D->Evt->Prop} (h:JE K t Δ P) (hp:∀ d Δ,P d Δ -> P' d Δ):JE K t Δ P':=
 fun g G H σ Q k c=>h g G H σ Q k fun v d G' H' Δ' k' s r p=>c v d G' H' Δ' k' s r (hp d Δ' p)
theorem JS.mono {t:TS} {P P':Pst} (h:JS K t Δ P) (hn:∀ Δ,P.nx Δ -> P'.nx Δ) (hr:∀ d Δ,P.rt d Δ -> P'.rt d Δ) (hb:∀ Δ,P.bk Δ -> P'.bk Δ) (hc:∀ Δ,P.ct Δ -> P'.ct Δ) (ho:∀ od Δ,P.ro od Δ -> P'.ro od Δ):JS K t Δ P':=
 fun g G H σ E k c=>h g G H σ E k ⟨fun σ' G' H' Δ' k' p=>c.nx σ' G' H' Δ' k' (hn _ p),fun v d σ' G' H' Δ' k' r p=>c.rt v d σ' G' H' Δ' k' r (hr _ _ p),fun σ' G' H' Δ' k' p=>c.bk σ' G' H' Δ' k' (hb _ p),fun σ' G' H' Δ' k' p=>c.ct σ' G' H' Δ' k' (hc _ p),fun a od σ' G' H' Δ' k' r p=>c.ro a od σ' G' H' Δ' k' r (ho _ _ p)⟩
theorem Zac {i:Nat} {d:D} {P:D->Evt->Prop} (h:Δ[i]? = some (.val d)) (p:P d Δ):JE K (tVar i) Δ P:=fun g G H σ Q k c=>by
 obtain ⟨v,h1,h2⟩:=k.val i d h
 exact ⟨v,h1,c v d G H Δ k (Same.refl _) h2 p⟩
theorem Zd2 {i:Nat} {ds:List D} {P:D->Evt->Prop} (h:Δ[i]? = some (.own (.lst ds))) (p:P (.lst ds) (Δ.set i (.val (.lst ds)))):JE K (tVar i) Δ P:=fun g G H σ Q k c=>by
 obtain ⟨a,h1,pd⟩:=k.take h
 obtain ⟨o,q1,q2,_⟩:=id pd
 cases o with
 | lst vs=>
  obtain ⟨k2,sg,r⟩:=(k.drop i).freeze pd q1
  have k3:=k2.setVal (i:=i) (by simpa using (List.getElem?_eq_some_iff.mp h).1) r
  have e1:σ.set i (some (.ref a)) = σ:=by
   apply List.ext_getElem?
   intro j
   by_cases hj:j=i
   ·subst hj; rw [List.getElem?_set_self (k.lt h),h1]
   ·rw [List.getElem?_set_ne (Ne.symm hj)]
  rw [e1,List.set_set] at k3
  exact ⟨.ref a,h1,c _ _ _ H _ k3 sg r p⟩
 | _=>exact absurd q2 (fun z=>z)
theorem Zaj {i:Int} {P:D->Evt->Prop} (p:P (.int i) Δ):JE K (tC (.int i)) Δ P:=fun g G H σ Q k c=>c _ _ G H Δ k (Same.refl _) (.int i) p
theorem Zpn {b:Bool} {P:D->Evt->Prop} (p:P (.bl b) Δ):JE K (tC (.bl b)) Δ P:=fun g G H σ Q k c=>c _ _ G H Δ k (Same.refl _) (.bl b) p
theorem Zqn {P:D->Evt->Prop} (p:P .non Δ):JE K (tC .non) Δ P:=fun g G H σ Q k c=>c _ _ G H Δ k (Same.refl _) .non p
theorem Zel {x:String} {P:D->Evt->Prop} (p:P (.ty x) Δ):JE K (tC (.ty x)) Δ P:=fun g G H σ Q k c=>c _ _ G H Δ k (Same.refl _) (.ty x) p
theorem Zar {r:R2} {ta tb:TE} {P:D->Evt->Prop} (h:JE K ta Δ fun d Δ1=>JE K tb Δ1 fun e Δ2=>JR2 K r d e Δ2 P):JE K (tOp r ta tb) Δ P:=fun g G H σ Q k c=>
 h g G H σ _ k fun x d G1 H1 Δ1 k1 s1 r1 p1=>p1 g G1 H1 σ _ k1 fun y e G2 H2 Δ2 k2 s2 r2 p2=>p2 g G2 H2 σ Q x y k2 (r1.mono s2) r2 (c.up (s1.trans s2))
theorem Zsj {r:V->Hp->VK->Prop} {ta:TE} {P:D->Evt->Prop} (h:JE K ta Δ fun d Δ1=>JR1 K r d Δ1 P):JE K (tUn r ta) Δ P:=fun g G H σ Q k c=>
 h g G H σ _ k fun x d G1 H1 Δ1 k1 s1 r1 p1=>p1 g G1 H1 σ Q x k1 r1 (c.up s1)
theorem Zaf {P:List D->Evt->Prop} (p:P [] Δ):JA K tNil Δ P:=fun g G H σ Q k c=>c [] [] G H Δ k (Same.refl _) .nil p
theorem Zab {ta:TE} {tr:TA} {P:List D->Evt->Prop} (h:JE K ta Δ fun d Δ1=>JA K tr Δ1 fun ds Δ2=>P (d :: ds) Δ2):JA K (tCons ta tr) Δ P:=fun g G H σ Q k c=>
 h g G H σ _ k fun x d G1 H1 Δ1 k1 s1 r1 p1=>p1 g G1 H1 σ _ k1 fun vs ds G2 H2 Δ2 k2 s2 r2 p2=>c _ _ G2 H2 Δ2 k2 (s1.trans s2) (.cons (r1.mono s2) r2) p2
theorem Za6 {r:List V->Hp->VK->Prop} {ta:TA} {P:D->Evt->Prop} (h:JA K ta Δ fun ds Δ1=>JC K r ds Δ1 P):JE K (tCB r ta) Δ P:=fun g G H σ Q k c=>
 h g G H σ _ k fun vs ds G1 H1 Δ1 k1 s1 r1 p1=>p1 g G1 H1 σ Q vs k1 r1 (c.up s1)
theorem Zbg {ta:TA} {P:D->Evt->Prop} (h:JA K ta Δ fun ds Δ1=>ds.length<=sizeLine/\P (.tup ds) Δ1):JE K (tTup ta) Δ P:=fun g G H σ Q k c=>
 h g G H σ _ k fun vs ds G1 H1 Δ1 k1 s1 r1 ⟨z,p1⟩=>⟨by rw [r1.length]; exact z,fun p hp=>by
  obtain ⟨k2,sg⟩:=k1.laid hp (.tup vs)
  exact c _ _ _ _ Δ1 k2 (s1.trans sg) (.tup Zam (r1.mono sg)) p1⟩
theorem Ok.fresh {g:Gm} {G H:Hp} {σ:St} (k:Ok K g G H σ Δ) {p:Addr} {o:HO} {od:OD} (hp:H p=none) (r:OwnRep K G o od):Ok K g G (upd H p o) σ Δ /\ Pend K g G (upd H p o) σ Δ p od:=by
 have hG:G p=none:=by
  cases e:G p with
  | none=>rfl
  | some u=>rw [k.live p u e] at hp; cases hp
 refine ⟨k.grow (Same.refl _) (fun b u e=>by rw [Zak (Zan e hp)]; exact e) fun b u e=>⟨?_,.inl e⟩,o,Zam,r,hG,k.there hp,?_,fun j x od' e1 e2 e3=>?_⟩
 ·have hb:b ≠ p:=by intro z; subst z; rw [hG] at e; cases e
  rw [Zak hb]; exact k.live b u e
 ·cases q:g.Xo p with
  | none=>rfl
  | some u=>have z:=(k.ext p u q).1; rw [hp] at z; cases z
 ·obtain ⟨a,oo,w1,w2,_⟩:=k.own j x od' e1 e2
  rw [e3] at w1; cases w1
  rw [hp] at w2; cases w2
theorem Zgc {ta:TA} {P:OD->Evt->Prop} (h:JA K ta Δ fun ds Δ1=>ds.length<=sizeLine/\P (.lst ds) Δ1):JO K (tLst ta) Δ P:=fun g G H σ Q k c=>
 h g G H σ _ k fun vs ds G1 H1 Δ1 k1 s1 r1 ⟨z,p1⟩=>⟨by rw [r1.length]; exact z,fun p hp=>by
  obtain ⟨k2,pd⟩:=k1.fresh (od:=.lst ds) hp (show OwnRep K G1 (.lst vs) (.lst ds) from r1)
  exact c p _ G1 _ Δ1 k2 s1 pd p1⟩
theorem Zb3 {t:TE} {P:D->Evt->Prop} (h:JO K t Δ fun od Δ1=>∃ ds,od=.lst ds/\P (.lst ds) Δ1):JE K t Δ P:=fun g G H σ Q k c=>
 h g G H σ Q k fun a od G1 H1 Δ1 k1 s1 pd hq_=>by
  obtain ⟨ds,e,p1⟩:=hq_
  subst e
  obtain ⟨o,q1,q2,_⟩:=id pd
  cases o with
  | lst vs=>
   obtain ⟨k2,sg,r⟩:=k1.freeze pd q1
   exact c _ _ _ H1 Δ1 k2 (s1.trans sg) r p1
  | _=>exact absurd q2 (fun z=>z)
theorem Zlo {c:TT} {ta tb:TE} {P:D->Evt->Prop} (h:JT K c Δ fun b Δ1=>if b=true then JE K ta Δ1 P else JE K tb Δ1 P):JE K (tIf c ta tb) Δ P:=fun g G H σ Q k q=>
 h g G H σ _ k fun b G1 H1 Δ1 k1 s1 p1=>by
  cases b with
  | true=>exact (show JE K ta Δ1 P from p1) g G1 H1 σ Q k1 (q.up s1)
  | false=>exact (show JE K tb Δ1 P from p1) g G1 H1 σ Q k1 (q.up s1)
theorem Zbf {t:TE} {P:Bool->Evt->Prop} (h:JE K t Δ fun d Δ1=>∃ b,d=.bl b/\P b Δ1):JT K (tTest t) Δ P:=fun g G H σ Q k c=>
 h g G H σ _ k fun v d G1 H1 Δ1 k1 s1 r1 hq_=>by obtain ⟨b,e,p1⟩:=hq_; subst e; cases r1.inv; exact ⟨b,rfl,c b G1 H1 Δ1 k1 s1 p1⟩
theorem Ze0 {a b:TT} {P:Bool->Evt->Prop} (h:JT K a Δ fun x Δ1=>if x=true then JT K b Δ1 P else P false Δ1):JT K (tAnd a b) Δ P:=fun g G H σ Q k c=>
 h g G H σ _ k fun x G1 H1 Δ1 k1 s1 p1=>by
  cases x with
  | true=>exact (show JT K b Δ1 P from p1) g G1 H1 σ _ k1 fun y G2 H2 Δ2 k2 s2 p2=>c y G2 H2 Δ2 k2 (s1.trans s2) p2
  | false=>exact c false G1 H1 Δ1 k1 s1 p1
theorem Zq4 {a b:TT} {P:Bool->Evt->Prop} (h:JT K a Δ fun x Δ1=>if x=true then P true Δ1 else JT K b Δ1 P):JT K (tOr a b) Δ P:=fun g G H σ Q k c=>
 h g G H σ _ k fun x G1 H1 Δ1 k1 s1 p1=>by
  cases x with
  | true=>exact c true G1 H1 Δ1 k1 s1 p1
  | false=>exact (show JT K b Δ1 P from p1) g G1 H1 σ _ k1 fun y G2 H2 Δ2 k2 s2 p2=>c y G2 H2 Δ2 k2 (s1.trans s2) p2
theorem Zej {a:TT} {P:Bool->Evt->Prop} (h:JT K a Δ fun x Δ1=>P (!x) Δ1):JT K (tNot a) Δ P:=fun g G H σ Q k c=>
 h g G H σ _ k fun x G1 H1 Δ1 k1 s1 p1=>c (!x) G1 H1 Δ1 k1 s1 p1
theorem Zce {P:Bool->Evt->Prop} (p:P true Δ):JT K tTrue Δ P:=fun g G H σ Q k c=>c true G H Δ k (Same.refl _) p
theorem Zom {P:Pst} (p:P.nx Δ):JS K tNext Δ P:=fun g G H σ E k c=>c.nx σ G H Δ k p
theorem Znp {t u:TS} {P:Pst} (h:JS K t Δ { P with nx:=fun Δ1=>JS K u Δ1 P }):JS K (tSeq t u) Δ P:=fun g G H σ E k c=>
 h g G H σ _ k ⟨fun σ1 G1 H1 Δ1 k1 p1=>p1 g G1 H1 σ1 E k1 c,c.rt,c.bk,c.ct,c.ro⟩
theorem Zrd {te:TE} {P:Pst} (h:JE K te Δ P.rt):JS K (tRet te) Δ P:=fun g G H σ E k c=>
 h g G H σ _ k fun v d G1 H1 Δ1 k1 s1 r1 p1=>c.rt v d σ G1 H1 Δ1 k1 r1 p1
theorem Zoj {te:TE} {P:Pst} (h:JO K te Δ P.ro):JS K (tRet te) Δ P:=fun g G H σ E k c=>
 h g G H σ _ k fun a od G1 H1 Δ1 k1 s1 pd p1=>c.ro a od σ G1 H1 Δ1 k1 pd p1
theorem Zsb {c:TT} {t u:TS} {P:Pst} (h:JT K c Δ fun b Δ1=>if b=true then JS K t Δ1 P else JS K u Δ1 P):JS K (tIfS c t u) Δ P:=fun g G H σ E k q=>
 h g G H σ _ k fun b G1 H1 Δ1 k1 s1 p1=>by
  cases b with
  | true=>exact (show JS K t Δ1 P from p1) g G1 H1 σ E k1 q
  | false=>exact (show JS K u Δ1 P from p1) g G1 H1 σ E k1 q
theorem Zro {te:TE} {t:TG} {P:Pst} (h:JE K te Δ fun d Δ1=>JG K t d Δ1 P.nx):JS K (tAsg te t) Δ P:=fun g G H σ E k c=>
 h g G H σ _ k fun v d G1 H1 Δ1 k1 s1 r1 p1=>p1 g G1 H1 σ v _ k1 r1 fun σ2 G2 H2 Δ2 k2 s2 p2=>c.nx σ2 G2 H2 Δ2 k2 p2
theorem Zol {P:Evt->Prop} (p:P Δ):JGs K gNil [] Δ P:=fun g G H σ vs R k r c=>by cases r; exact ⟨rfl,c σ G H Δ k (Same.refl _) p⟩
theorem Zhe {t:TG} {u:TGs} {d:D} {ds:List D} {P:Evt->Prop} (h:JG K t d Δ fun Δ1=>JGs K u ds Δ1 P):JGs K (gCons t u) (d :: ds) Δ P:=fun g G H σ vs R k r c=>by
 obtain ⟨_,_,rfl,r1,rr⟩:=r.inv
 next=>exact ⟨_,_,rfl,h g G H σ _ _ k r1 fun σ1 G1 H1 Δ1 k1 s1 p1=>p1 g G1 H1 σ1 _ R k1 (rr.mono s1) fun σ2 G2 H2 Δ2 k2 s2 p2=>c σ2 G2 H2 Δ2 k2 (s1.trans s2) p2⟩
theorem Zr8 {n:Nat} {t:TGs} {ds:List D} {P:Evt->Prop} (hl:ds.length=n) (h:JGs K t ds Δ P):JG K (gTup K n t) (.tup ds) Δ P:=fun g G H σ v R k r c=>by
 obtain ⟨_,_,rfl,ha,rs⟩:=r.inv
 next=>exact ⟨_,_,rfl,SqT.of (k.live _ _ ha),by rw [rs.length]; exact hl,h g G H σ _ R k rs c⟩
def ItOk (K:PySem.W.Frag) (G:Hp) (J:It) (ds:List D):Prop:=
 ∀ G1 H1,Same G G1->Same G1 H1->J.stop ds.length H1/\∀ (i:Nat) d,ds[i]? = some d->J.go i H1/\∀ x H2,J.yld i H1 x H2->∃ G2,Same G1 G2/\Same H1 H2/\(∀ b o,G2 b=some o->H2 b=some o/\(G1 b=some o\/H1 b=none))/\Rep K G2 x d
def JI (K:PySem.W.Frag) (wi:TI) (Δ:Evt) (P:List D->Evt->Prop):Prop:=
 ∀ g G H σ (R:It->Hp->Prop),Ok K g G H σ Δ -> (∀ J ds G' H' Δ',Ok K g G' H' σ Δ' -> Same G G' -> ItOk K G' J ds->P ds Δ' -> R J H')->wi σ H R
theorem Zrq {tl:TE} {P:List D->Evt->Prop} (h:JE K tl Δ fun d Δ1=>∃ ds,d=.tup ds/\P ds Δ1):JI K (iTup K tl) Δ P:=fun g G H σ R k c=>
 h g G H σ _ k fun v d G1 H1 Δ1 k1 s1 r1 hq_=>by
  obtain ⟨ds,e,p1⟩:=hq_
  subst e
  obtain ⟨a,vs,rfl,ha,rs⟩:=r1.inv
  next=>
   refine ⟨a,rfl,⟨vs,SqT.of (k1.live _ _ ha)⟩,c _ ds G1 H1 Δ1 k1 s1 (fun G2 H2 sg sh=>⟨⟨vs,SqT.of (sh _ _ (sg _ _ ha)),by rw [rs.length]; exact Nat.le_refl _⟩,fun i d e=>?_⟩) p1⟩
   obtain ⟨v,hv,rv⟩:=rs.get e
   refine ⟨⟨vs,v,SqT.of (sh _ _ (sg _ _ ha)),hv⟩,fun x H3 ⟨e3,y3⟩=>⟨G2,Same.refl _,by rw [e3]; exact Same.refl _,fun b o q=>⟨by rw [e3]; exact sh b o q,.inl q⟩,?_⟩⟩
   have:=y3 vs (SqT.of (sh _ _ (sg _ _ ha)))
   rw [hv] at this; cases this
   exact rv.mono sg
theorem Zpd {tl:TE} {P:List D->Evt->Prop} (h:JE K tl Δ fun d Δ1=>∃ ds,(d=.lst ds\/d=.scr ds)/\P ds Δ1):JI K (iList K tl) Δ P:=fun g G H σ R k c=>
 h g G H σ _ k fun v d G1 H1 Δ1 k1 s1 r1 hq_=>by
  obtain ⟨ds,e,p1⟩:=hq_
  obtain ⟨a,vs,ea,hs,rs⟩:∃ a vs,v=.ref a/\SqL K G1 a vs/\Reps K G1 vs ds:=by
   rcases e with e | e
   ·subst e; cases r1 with | lst ha rs=>exact ⟨_,_,rfl,SqL.of ha,rs⟩
   ·subst e; cases r1 with | scr ha rs=>exact ⟨_,_,rfl,ha,rs⟩
  subst ea
  refine ⟨a,rfl,⟨vs,k1.live.seq hs⟩,c _ ds G1 H1 Δ1 k1 s1 (fun G2 H2 sg sh=>⟨⟨vs,sh.seq (sg.seq hs),by rw [rs.length]; exact Nat.le_refl _⟩,fun i d e=>?_⟩) p1⟩
  obtain ⟨v,hv,rv⟩:=rs.get e
  refine ⟨⟨vs,v,sh.seq (sg.seq hs),hv⟩,fun x H3 ⟨e3,y3⟩=>⟨G2,Same.refl _,by rw [e3]; exact Same.refl _,fun b o q=>⟨by rw [e3]; exact sh b o q,.inl q⟩,?_⟩⟩
  have:=y3 vs (sh.seq (sg.seq hs))
  rw [hv] at this; cases this
  exact rv.mono sg
def rngD (lo:Int) (n:Nat):List D:=(List.range n).map fun i:Nat=>D.int (lo + (i:Int))
theorem Zbb (lo:Int) (n:Nat):(rngD lo n).length=n:=by simp [rngD]
theorem Zcj {lo:Int} {n i:Nat} {d:D} (h:(rngD lo n)[i]? = some d):i < n/\d=.int (lo + (i:Int)):=by
 unfold rngD at h
 rw [List.getElem?_map] at h
 cases e:(List.range n)[i]? with
 | none=>rw [e] at h; cases h
 | some j=>
  rw [e] at h
  obtain ⟨h1,h2⟩:=List.getElem?_eq_some_iff.mp e
  rw [List.getElem_range] at h2
  subst h2
  exact ⟨by simpa using h1,(Option.some.inj h).symm⟩
theorem Zlm {G:Hp} (lo:Int) (n:Nat):ItOk K G (Itr lo n) (rngD lo n):=fun G1 H1 sg sh=>by
 refine ⟨by show n<=(rngD lo n).length; rw [Zbb]; exact Nat.le_refl _,fun i d e=>?_⟩
 obtain ⟨h1,h2⟩:=Zcj e
 subst h2
 refine ⟨h1,fun x H2 ⟨e2,y2⟩=>⟨G1,Same.refl _,by rw [e2]; exact Same.refl _,fun b o q=>⟨by rw [e2]; exact sh b o q,.inl q⟩,?_⟩⟩
 subst y2
 exact .int _
theorem Zb0 {ta:TA} {P:List D->Evt->Prop} (h:JA K ta Δ fun ds Δ1=>∃ n:Int,ds=[.int n] /\ -(2 ^ 62)<=n/\n < 2 ^ 62/\P (rngD 0 n.toNat) Δ1):JI K (iRng1 ta) Δ P:=fun g G H σ R k c=>
 h g G H σ _ k fun vs ds G1 H1 Δ1 k1 s1 r1 hq_=>by
  obtain ⟨n,e,h1,h2,p1⟩:=hq_
  subst e
  obtain ⟨_,_,rfl,ra,rr⟩:=r1.inv
  next=>
   cases rr.inv; cases ra.inv
   exact ⟨n,rfl,h1,h2,c _ _ G1 H1 Δ1 k1 s1 (Zlm 0 _) p1⟩
theorem Zqb {wi:TI} {t:TG} {tb:TS} {P:Pst} (h:JI K wi Δ fun ds Δ1=>∃ I:Nat->Evt->Prop,I 0 Δ1/\(∀ i d Δ2,ds[i]? = some d->I i Δ2->JG K t d Δ2 fun Δ3=>JS K tb Δ3 ⟨I (i + 1),P.rt,P.nx,I (i + 1),P.ro⟩)/\∀ Δ2,I ds.length Δ2->P.nx Δ2) :
  JS K (tFor wi t tb) Δ P:=fun g G H σ E k c=>
 h g G H σ _ k fun J ds G1 H1 Δ1 k1 s1 it hq_=>by
  obtain ⟨I,h0,ht,he⟩:=hq_
  refine ⟨fun i m σ H=>m=ds.length - i/\i<=ds.length/\∃ G Δ,Ok K g G H σ Δ /\ Same G1 G/\I i Δ,⟨ds.length,by simp,Nat.zero_le _,G1,Δ1,k1,Same.refl _,h0⟩,?_⟩
  rintro i m σ2 H2 ⟨rfl,hi,G2,Δ2,k2,s2,h2⟩
  obtain ⟨stop,go⟩:=it G2 H2 s2 k2.live
  by_cases hlt:i < ds.length
  ·obtain ⟨g1,g2⟩:=go i _ (List.getElem?_eq_getElem hlt)
   refine .inr ⟨g1,fun σ' H'=>i + 1<=ds.length/\∃ G Δ,Ok K g G H' σ' Δ /\ Same G1 G/\I (i + 1) Δ,fun σ' H' p'=>⟨ds.length - (i + 1),by omega,rfl,p'.1,p'.2⟩,fun x H3 y=>?_⟩
   obtain ⟨G3,a1,a2,a3,a4⟩:=g2 x H3 y
   have k3:=k2.grow a1 a2 a3
   refine ht i _ Δ2 (List.getElem?_eq_getElem hlt) h2 { g with F:=G3,Xo:=g.Xo } G3 H3 σ2 x _ ?_ a4 fun σ4 G4 H4 Δ4 k4 s4 p4=>?_
   ·exact ⟨k3.same,k3.lent,Same.refl _,fun b o q=>⟨(k3.frz b o q).1,.inr q⟩,k3.ext,k3.len,k3.val,k3.own,k3.dis⟩
   ·have cv:∀ {G5 H5:Hp} {σ5:St} {Δ5:Evt},Ok K { g with F:=G3,Xo:=g.Xo } G5 H5 σ5 Δ5->Ok K g G5 H5 σ5 Δ5/\Same G1 G5:=fun {G5 H5 σ5 Δ5} k5=>
     ⟨⟨k5.same,k5.lent,k3.sub.trans k5.sub,fun b o q=>by
      obtain ⟨q1,q2⟩:=k5.frz b o q
      refine ⟨q1,?_⟩
      rcases q2 with z | z
      ·exact .inl z
      ·exact (k3.frz b o z).2,k5.ext,k5.len,k5.val,k5.own,k5.dis⟩,s2.trans (a1.trans k5.sub)⟩
    refine p4 _ G4 H4 σ4 _ k4 ⟨fun σ5 G5 H5 Δ5 k5 p5=>?_,fun v d σ5 G5 H5 Δ5 k5 r5 p5=>?_,fun σ5 G5 H5 Δ5 k5 p5=>?_,fun σ5 G5 H5 Δ5 k5 p5=>?_,fun a od σ5 G5 H5 Δ5 k5 pd5 p5=>?_⟩
    ·exact ⟨hlt,G5,Δ5,(cv k5).1,(cv k5).2,p5⟩
    ·exact c.rt v d σ5 G5 H5 Δ5 (cv k5).1 r5 p5
    ·exact c.nx σ5 G5 H5 Δ5 (cv k5).1 p5
    ·exact ⟨hlt,G5,Δ5,(cv k5).1,(cv k5).2,p5⟩
    ·exact c.ro a od σ5 G5 H5 Δ5 (cv k5).1 pd5 p5
  ·have e:i=ds.length:=by omega
   subst e
   exact .inl ⟨stop,c.nx σ2 G2 H2 Δ2 k2 (he Δ2 h2)⟩
theorem Zl4 {c:TT} {tb:TS} {P:Pst} (I:Nat->Evt->Prop) (h0:∃ m,I m Δ) (ht:∀ m Δ1,I m Δ1->JT K c Δ1 fun b Δ2=>if b=true then JS K tb Δ2 ⟨fun Δ3=>∃ m',m' < m/\I m' Δ3,P.rt,P.nx,fun Δ3=>∃ m',m' < m/\I m' Δ3,P.ro⟩ else P.nx Δ2) :
  JS K (tWhile c tb) Δ P:=fun g G H σ E k q=>by
 obtain ⟨m,h0⟩:=h0
 refine ⟨fun m σ H=>∃ G Δ,Ok K g G H σ Δ /\ I m Δ,⟨m,G,Δ,k,h0⟩,?_⟩
 rintro m σ1 H1 ⟨G1,Δ1,k1,h1⟩
 refine ht m Δ1 h1 g G1 H1 σ1 _ k1 fun b G2 H2 Δ2 k2 s2 p2=>?_
 cases b with
 | true=>
  refine ⟨fun σ' H'=>∃ m',m' < m/\∃ G Δ,Ok K g G H' σ' Δ /\ I m' Δ,fun σ' H' ⟨m',hm,z⟩=>⟨m',hm,z⟩,?_⟩
  refine (show JS K tb Δ2 _ from p2) g G2 H2 σ1 _ k2 ⟨fun σ5 G5 H5 Δ5 k5 ⟨m',hm,p5⟩=>⟨m',hm,G5,Δ5,k5,p5⟩,q.rt,q.nx,fun σ5 G5 H5 Δ5 k5 ⟨m',hm,p5⟩=>⟨m',hm,G5,Δ5,k5,p5⟩,q.ro⟩
 | false=>exact q.nx σ1 G2 H2 Δ2 k2 p2
end
end L2
set_option Elab.async false
set_option linter.all false
set_option maxRecDepth 100000
namespace L2
open PySem PySem.Spec PyProof.Rows
section
variable {K:PySem.W.Frag} {Δ:Evt} {P:D->Evt->Prop}
theorem jr_I {C:Int->Int->Prop} {f:Int->Int->Int} {i j:Int} (hc:C i j) (p:P (.int (f i j)) Δ):JR2 K (rI C fun i j=>.int (f i j)) (.int i) (.int j) Δ P:=fun g G H σ Q x y k rx ry c=>by
 cases rx.inv; cases ry.inv
 exact ⟨i,j,rfl,rfl,hc,c _ _ G H Δ k (Same.refl _) (.int _) p⟩
theorem Zd6 {f:Int->Int->Int} {i j:Int} (p:P (.int (f i j)) Δ):JR2 K (rI0 fun i j=>.int (f i j)) (.int i) (.int j) Δ P:=fun g G H σ Q x y k rx ry c=>by
 cases rx.inv; cases ry.inv
 exact ⟨i,j,rfl,rfl,c _ _ G H Δ k (Same.refl _) (.int _) p⟩
theorem Zpg {f:Int->Int->Bool} {i j:Int} (p:P (.bl (f i j)) Δ):JR2 K (rI0 fun i j=>.bl (f i j)) (.int i) (.int j) Δ P:=fun g G H σ Q x y k rx ry c=>by
 cases rx.inv; cases ry.inv
 exact ⟨i,j,rfl,rfl,c _ _ G H Δ k (Same.refl _) (.bl _) p⟩
theorem Zer {i j:Int} (p:P (.bl (decide (i=j))) Δ):JR2 K rEq (.int i) (.int j) Δ P:=fun g G H σ Q x y k rx ry c=>by
 cases rx.inv; cases ry.inv
 refine ⟨rfl,?_⟩
 have e:decide (V.int i=V.int j)=decide (i=j):=by rw [Zgz]; exact (Bool.beq_eq_decide_eq i j)
 rw [e]
 exact c _ _ G H Δ k (Same.refl _) (.bl _) p
theorem Zsk {i j:Int} (p:P (.bl (!decide (i=j))) Δ):JR2 K rNe (.int i) (.int j) Δ P:=fun g G H σ Q x y k rx ry c=>by
 cases rx.inv; cases ry.inv
 refine ⟨rfl,?_⟩
 have e:decide (V.int i=V.int j)=decide (i=j):=by rw [Zgz]; exact (Bool.beq_eq_decide_eq i j)
 rw [e]
 exact c _ _ G H Δ k (Same.refl _) (.bl _) p
theorem Zqm {ds:List D} {i:Int} {d:D} (h:atI ds i=some d) (p:P d Δ):JR2 K (rIxT K) (.tup ds) (.int i) Δ P:=fun g G H σ Q x y k rx ry c=>by
 obtain ⟨_,_,rfl,ha,rs⟩:=rx.inv
 next=>
  cases ry.inv
  obtain ⟨v,h1,h2⟩:=Zfn rs h
  exact ⟨_,_,i,v,rfl,rfl,SqT.of (k.live _ _ ha),h1,c v d G H Δ k (Same.refl _) h2 p⟩
theorem Zrc {ds:List D} {i:Int} {d:D} (h:atI ds i=some d) (p:P d Δ):JR2 K (rIxL K) (.lst ds) (.int i) Δ P:=fun g G H σ Q x y k rx ry c=>by
 obtain ⟨_,_,rfl,ha,rs⟩:=rx.inv
 next=>
  cases ry.inv
  obtain ⟨v,h1,h2⟩:=Zfn rs h
  exact ⟨_,_,i,v,rfl,rfl,SqL.of (k.live _ _ ha),h1,c v d G H Δ k (Same.refl _) h2 p⟩
theorem Zjn {n:Nat} {te:TE} {Pp:Pst} {x:Slot} {od:OD} (hx:Δ[n]? = some x) (ho:x.od=some od) (hod:∃ ds,od=.lst ds)
  (h:JE K te Δ fun d Δ1=>∃ y ds,Δ1[n]? = some y/\y.od=some (.lst ds)/\ds.length < sizeLine/\Pp.nx (Δ1.set n (y.put (.lst (ds ++ [d]))))) :
  JS K (tDrop (tBM K "list" rAppend (tVar n) (tCons te tNil))) Δ Pp:=fun g G H σ E k c=>by
 obtain ⟨a,o,h1,h2,h3,h4,h5⟩:=k.own n x _ hx ho
 obtain ⟨ds0,hod⟩:=hod
 subst hod
 cases o with
 | lst vs0=>
  refine ⟨.ref a,h1,.inl ⟨rfl,_,SqL.of h2⟩,h g G H σ _ k fun v d G1 H1 Δ1 k1 s1 r1 ⟨y,ds,q1,q2,q3,p⟩=>?_⟩
  obtain ⟨a',o',w1,w2,w3,w4,w5⟩:=k1.own n y _ q1 q2
  rw [h1] at w1; cases w1
  cases o' with
  | lst vs=>
   have w3:Reps K G1 vs ds:=w3
   exact ⟨a,vs,v,rfl,rfl,w2,by rw [w3.length]; exact q3,c.nx σ G1 _ _ (k1.write q1 q2 h1 (show OwnRep K G1 (.lst (vs ++ [v])) (.lst (ds ++ [d])) from w3.append (.cons r1 .nil))) p⟩
  | _=>exact absurd w3 (fun z=>z)
 | _=>exact absurd h3 (fun z=>z)
theorem Zqc {ds es:List D} (he:ds=[.lst es]\/ds=[.tup es]) (p:P (.int es.length) Δ) :
  JC K (fun xs H Q=>∃ p ys,xs=[.ref p]/\(SqL K H p ys\/SqT K H p ys)/\Q (.int ys.length) H) ds Δ P:=fun g G H σ Q vs k rs c=>by
 rcases he with he | he <;> subst he
 ·obtain ⟨_,_,rfl,r,t⟩:=rs.inv
  next=>
   cases t.inv
   obtain ⟨_,_,rfl,ha,rs⟩:=r.inv
   next=>
    refine ⟨_,_,rfl,.inl (SqL.of (k.live _ _ ha)),?_⟩
    rw [rs.length]; exact c _ _ G H Δ k (Same.refl _) (.int _) p
 ·obtain ⟨_,_,rfl,r,t⟩:=rs.inv
  next=>
   cases t.inv
   obtain ⟨_,_,rfl,ha,rs⟩:=r.inv
   next=>
    refine ⟨_,_,rfl,.inr (SqT.of (k.live _ _ ha)),?_⟩
    rw [rs.length]; exact c _ _ G H Δ k (Same.refl _) (.int _) p
theorem Zpx {n:Nat} {x:Slot} {ds:List D} (hx:Δ[n]? = some x) (ho:x.od=some (.lst ds)) (p:P (.int ds.length) Δ) :
  JE K (tCB (fun xs H Q=>∃ p ys,xs=[.ref p]/\(SqL K H p ys\/SqT K H p ys)/\Q (.int ys.length) H) (tCons (tVar n) tNil)) Δ P:=fun g G H σ Q k c=>by
 obtain ⟨a,o,h1,h2,h3,h4,h5⟩:=k.own n x _ hx ho
 cases o with
 | lst vs=>
  have h3:Reps K G vs ds:=h3
  refine ⟨.ref a,h1,a,vs,rfl,.inl (SqL.of h2),?_⟩
  rw [h3.length]; exact c _ _ G H Δ k (Same.refl _) (.int _) p
 | _=>exact absurd h3 (fun z=>z)
theorem Zp6 {i:Int} (p:P (.int (if i < 0 then -i else i)) Δ):JC K (fun xs H Q=>∃ i,xs=[.int i]/\Q (.int (if i < 0 then -i else i)) H) [.int i] Δ P:=fun g G H σ Q vs k rs c=>by
 obtain ⟨_,_,rfl,r,t⟩:=rs.inv
 next=>cases t.inv; cases r.inv; exact ⟨i,rfl,c _ _ G H Δ k (Same.refl _) (.int _) p⟩
theorem Zim {f:Int->Int->Int} {i j:Int} (p:P (.int (f i j)) Δ):JC K (fun xs H Q=>∃ i j,xs=[.int i,.int j]/\Q (.int (f i j)) H) [.int i,.int j] Δ P:=fun g G H σ Q vs k rs c=>by
 obtain ⟨_,_,rfl,r,t⟩:=rs.inv
 next=>
  obtain ⟨_,_,rfl,r',t⟩:=t.inv
  next=>cases t.inv; cases r.inv; cases r'.inv; exact ⟨i,j,rfl,c _ _ G H Δ k (Same.refl _) (.int _) p⟩
theorem Zm8 {ds es:List D} (he:ds=[.lst es]\/ds=[.tup es]) (p:P (.tup es) Δ) :
  JC K (fun xs H Q=>∃ p ys,xs=[.ref p]/\((SqL K H p ys/\∀ l,H l=none->Q (.ref l) (upd H l (.tup ys)))\/(SqT K H p ys/\Q (.ref p) H))) ds Δ P:=fun g G H σ Q vs k rs c=>by
 rcases he with he | he <;> subst he
 ·obtain ⟨_,_,rfl,r,t⟩:=rs.inv
  next=>
   cases t.inv
   obtain ⟨_,_,rfl,ha,rs⟩:=r.inv
   next=>
    refine ⟨_,_,rfl,.inl ⟨SqL.of (k.live _ _ ha),fun l hl=>?_⟩⟩
    obtain ⟨k2,sg⟩:=k.laid hl (.tup _)
    exact c _ _ _ _ Δ k2 sg (.tup Zam (rs.mono sg)) p
 ·obtain ⟨_,_,rfl,r,t⟩:=rs.inv
  next=>
   cases t.inv
   obtain ⟨_,_,rfl,ha,rs⟩:=r.inv
   next=>exact ⟨_,_,rfl,.inr ⟨SqT.of (k.live _ _ ha),c _ _ G H Δ k (Same.refl _) (.tup ha rs) p⟩⟩
def glue (F H H':Hp):Hp:=fun b=>match H b with
 | none=>H' b
 | some _=>F b
theorem Zdw {F H H':Hp} {b:Addr} (h:H b=none):glue F H H' b=H' b:=by unfold glue; rw [h]
theorem Zcm {F H H':Hp} {b:Addr} {o:HO} (h:H b=some o):glue F H H' b=F b:=by unfold glue; rw [h]
theorem Zff {G H H':Hp} (l:Same G H):Same G (glue G H H'):=fun b o e=>by rw [Zcm (l b o e)]; exact e
theorem Zgx {G H H':Hp} (l:Same G H) (sh:∀ b o,G b=some o->H b=some o->H' b=some o):∀ b o,glue G H H' b=some o->H' b=some o/\(G b=some o\/H b=none):=fun b o e=>by
 cases q:H b with
 | none=>rw [Zdw q] at e; exact ⟨e,.inr rfl⟩
 | some u=>rw [Zcm q] at e; exact ⟨sh b o e (l b o e),.inl e⟩
abbrev DSp:=List D->(D->Prop)->Prop
def spD (K:PySem.W.Frag) (f:DSp):Sp:=fun vs H Q _=>∃ F ds Post,Same F H/\Reps K F vs ds/\f ds Post/\∀ r H' d,Same H H' -> Rep K (glue F H H') r d->Post d->Q r H'
theorem Zau {f:DSp} {ta:TA} {E:XK} (h:JA K ta Δ fun ds Δ1=>f ds fun d=>P d Δ1):JE K (tCall (spD K f) [] E ta) Δ P:=fun g G H σ Q k c=>
 h g G H σ _ k fun vs ds G1 H1 Δ1 k1 s1 r1 p1=>by
  show spD K f (vs ++ []) H1 Q E
  rw [List.append_nil]
  refine ⟨G1,ds,_,k1.live,r1,p1,fun r H' d sh rr pd=>?_⟩
  have sg:=Zff (H':=H') k1.live
  exact c r d _ H' Δ1 (k1.grow sg sh (Zgx k1.live fun b o _ e=>sh b o e)) (s1.trans sg) rr pd
abbrev BSp:=List D->List D->(D->List D->Prop)->Prop
def spB (K:PySem.W.Frag) (f:BSp):Sp:=fun vs H Q _=>∃ F a us ws ps ds Post,vs=.ref a :: ws/\Same F H/\F a=none/\H a=some (.lst us)/\Reps K F us ps/\Reps K F ws ds/\f ps ds Post ∧
 ∀ r H' us' ps' d,(∀ b o,b ≠ a->H b=some o->H' b=some o)->H' a=some (.lst us')->Reps K (glue F H H') us' ps' -> Rep K (glue F H H') r d->Post d ps' -> Q r H'
theorem Ok.lend {g:Gm} {G H H':Hp} {σ:St} (k:Ok K g G H σ Δ) {i:Nat} {x:Slot} {ps ps':List D} {us':List V} {a:Addr} (hx:Δ[i]? = some x) (ho:x.od=some (.lst ps)) (ha:σ[i]? = some (some (.ref a)))
  (sh:∀ b o,b ≠ a->H b=some o->H' b=some o) (hn:H' a=some (.lst us')) (r:Reps K (glue G H H') us' ps'):Ok K g (glue G H H') H' σ (Δ.set i (x.put (.lst ps')))/\Same G (glue G H H'):=by
 obtain ⟨a',o,h1,h2,h3,h4,h5⟩:=k.own i x _ hx ho
 rw [ha] at h1; cases h1
 have sg:=Zff (H':=H') k.live
 have k2:Ok K g (glue G H H') (upd H' a o) σ Δ:=by
  refine k.grow sg (fun b u e=>?_) fun b u e=>?_
  ·by_cases hb:b=a
   ·subst hb; rw [Zam,<- h2]; exact e
   ·rw [Zak hb]; exact sh b u hb e
  ·have hb:b ≠ a:=by intro z; subst z; rw [Zcm h2,h4] at e; cases e
   rw [Zak hb]
   exact Zgx k.live (fun c w e1 e2=>sh c w (fun z=>by subst z; rw [h4] at e1; cases e1) e2) b u e
 have k3:=k2.write hx ho ha (show OwnRep K (glue G H H') (.lst us') (.lst ps') from r)
 rw [Zo1] at k3
 have e:upd H' a (.lst us')=H':=by
  funext b
  by_cases hb:b=a
  ·subst hb; rw [Zam,hn]
  ·rw [Zak hb]
 rw [e] at k3
 exact ⟨k3,sg⟩
theorem Zd7 {f:BSp} {ta:TA} {E:XK} {i:Nat} {x:Slot} {od:OD} (hx:Δ[i]? = some x) (ho:x.od=some od) (h:JA K ta Δ fun ds Δ1=>∃ y ps,Δ1[i]? = some y/\y.od=some (.lst ps)/\f ps ds fun d ps'=>P d (Δ1.set i (y.put (.lst ps')))) :
  JE K (tCall (spB K f) [] E (tCons (tVar i) ta)) Δ P:=fun g G H σ Q k c=>by
 obtain ⟨a,o,h1,h2,h3,h4,h5⟩:=k.own i x _ hx ho
 refine ⟨.ref a,h1,h g G H σ _ k fun vs ds G1 H1 Δ1 k1 s1 r1 ⟨y,ps,q1,q2,p1⟩=>?_⟩
 show spB K f ((.ref a :: vs) ++ []) H1 Q E
 rw [List.append_nil]
 obtain ⟨a',o',w1,w2,w3,w4,w5⟩:=k1.own i y _ q1 q2
 rw [h1] at w1; cases w1
 cases o' with
 | lst us=>
  refine ⟨G1,a,us,vs,ps,ds,_,rfl,k1.live,w4,w2,w3,r1,p1,fun r H' us' ps' d sh hn rr rd pd=>?_⟩
  obtain ⟨k2,sg⟩:=k1.lend q1 q2 h1 sh hn rr
  exact c r d _ H' _ k2 (s1.trans sg) rd pd
 | _=>exact absurd w3 (fun z=>z)
abbrev NSp:=List D->(List D->Prop)->Prop
def spN (K:PySem.W.Frag) (f:NSp):Sp:=fun vs H Q _=>∃ F ds Post,Same F H/\Reps K F vs ds/\f ds Post ∧
 ∀ a H' us ps,Same H H' -> H a=none->H' a=some (.lst us)->Reps K (fun b=>if b=a then none else glue F H H' b) us ps->Post ps->Q (.ref a) H'
theorem Zch {f:NSp} {ta:TA} {E:XK} {Po:OD->Evt->Prop} (h:JA K ta Δ fun ds Δ1=>f ds fun ps=>Po (.lst ps) Δ1):JO K (tCall (spN K f) [] E ta) Δ Po:=fun g G H σ Q k c=>
 h g G H σ _ k fun vs ds G1 H1 Δ1 k1 s1 r1 p1=>by
  show spN K f (vs ++ []) H1 Q E
  rw [List.append_nil]
  refine ⟨G1,ds,_,k1.live,r1,p1,fun a H' us ps sh ha hn rr pd=>?_⟩
  have sg:Same G1 (fun b=>if b=a then none else glue G1 H1 H' b):=fun b o e=>by
   have hb:b ≠ a:=by intro z; subst z; rw [k1.live _ _ e] at ha; cases ha
   try dsimp only
   rw [if_neg hb]
   exact Zff k1.live b o e
  have k2:Ok K g (fun b=>if b=a then none else glue G1 H1 H' b) H' σ Δ1:=k1.grow sg sh fun b o e=>by
   try dsimp only at e
   by_cases hb:b=a
   ·rw [if_pos hb] at e; cases e
   ·rw [if_neg hb] at e; exact Zgx k1.live (fun b o _ e=>sh b o e) b o e
  refine c a _ _ H' Δ1 k2 (s1.trans sg) ⟨.lst us,hn,(show OwnRep K _ (.lst us) (.lst ps) from rr),by simp,k1.there ha,?_,fun j x od' e1 e2 e3=>?_⟩ pd
  ·cases q:g.Xo a with
   | none=>rfl
   | some u=>have z:=(k1.ext a u q).1; rw [ha] at z; cases z
  ·obtain ⟨b,oo,w1,w2,_⟩:=k1.own j x od' e1 e2
   rw [e3] at w1; cases w1
   rw [ha] at w2; cases w2
end
def startD (N:List Str) (ds:List D):Evt:=ds.map .val ++ List.replicate (N.length - ds.length) .any
section
variable {K:PySem.W.Frag}
theorem Zft {g:Gm} {G H:Hp} {N:List Str} {vs:List V} {ds:List D} (rs:Reps K G vs ds) (hl:ds.length<=N.length) (same:∀ b o,¬ g.B b->g.Hz b=some o->H b=some o) (lent:∀ b,g.B b->H b ≠ none) (sub:Same g.F G)
  (frz:∀ b o,G b=some o->H b=some o/\(g.Hz b=none\/g.F b=some o)) (ext:∀ b,g.Xo b=none):Ok K g G H (start N vs) (startD N ds):=by
 have noOd:∀ (i:Nat) x od,(startD N ds)[i]? = some x->x.od=some od->False:=fun i x od e1 e2=>by
  have hm:=List.mem_of_getElem? e1
  rcases List.mem_append.mp hm with z | z
  ·obtain ⟨d,_,rfl⟩:=List.mem_map.mp z; cases e2
  ·rw [List.mem_replicate] at z; rw [z.2] at e2; cases e2
 refine ⟨same,lent,sub,frz,fun b o e=>(by rw [ext b] at e; cases e),?_,fun i d e=>?_,fun i x od e1 e2=>(noOd i x od e1 e2).elim,fun i j x y od od' a e1 e2=>(noOd i x od e1 e2).elim⟩
 ·unfold start startD
  rw [List.length_append,List.length_append,List.length_map,List.length_map,List.length_replicate,List.length_replicate,rs.length]
 ·unfold startD at e
  unfold start
  by_cases hi:i < ds.length
  ·rw [List.getElem?_append_left (by simpa using hi),List.getElem?_map] at e
   cases q:ds[i]? with
   | none=>rw [q] at e; cases e
   | some d'=>
    rw [q] at e
    have e:Slot.val d' = Slot.val d:=by simpa using e
    cases e
    obtain ⟨v,h1,h2⟩:=rs.get q
    refine ⟨v,?_,h2⟩
    rw [List.getElem?_append_left (by rw [List.length_map,rs.length]; exact hi),List.getElem?_map,h1]
    rfl
  ·rw [List.getElem?_append_right (by simpa using hi),List.getElem?_replicate] at e
   split at e <;> cases e
theorem Zd1 {f:DSp} {t:TS} {N:List Str} {vs:List V} {H:Hp} {Q:VK} {E:XK} (ht:∀ ds Post,f ds Post->ds.length<=N.length/\JS K t (startD N ds) ⟨fun _=>Post .non,fun d _=>Post d,fun _=>False,fun _=>False,fun _ _=>False⟩) (h:spD K f vs H Q E) :
  t { nx:=fun _ H'=>Q .non H',rt:=Q } (start N vs) H:=by
 obtain ⟨F,ds,Post,l,rs,hf,q⟩:=h
 obtain ⟨hl,hj⟩:=ht ds Post hf
 have fin:∀ {v:V} {d:D} {σ:St} {G H':Hp} {Δ:Evt},Ok K ⟨fun _=>False,F,H,fun _=>none⟩ G H' σ Δ -> Rep K G v d->Post d->Q v H':=fun {v d σ G H' Δ} k r p=>by
  refine q v H' d (fun b o e=>k.same b o (fun z=>z) e) (r.mono fun b o e=>?_) p
  obtain ⟨e1,e2⟩:=k.frz b o e
  rcases e2 with z | z
  ·rw [Zdw z]; exact e1
  ·rw [Zcm (l b o z)]; exact z
 refine hj ⟨fun _=>False,F,H,fun _=>none⟩ F H (start N vs) _ (Zft rs hl (fun _ _ _ e=>e) (fun _ z=>z.elim) (Same.refl _) (fun b o e=>⟨l b o e,.inr e⟩) fun _=>rfl) ⟨fun σ G H' Δ k p=>fin k .non p,fun v d σ G H' Δ k r p=>fin k r p,fun _ _ _ _ _ z=>z.elim,fun _ _ _ _ _ z=>z.elim,fun _ _ _ _ _ _ _ _ z=>z.elim⟩
theorem Zoi {f:NSp} {t:TS} {N:List Str} {vs:List V} {H:Hp} {Q:VK} {E:XK} (ht:∀ ds Post,f ds Post->ds.length<=N.length/\JS K t (startD N ds) ⟨fun _=>False,fun _ _=>False,fun _=>False,fun _=>False,fun od _=>∃ ps,od=.lst ps/\Post ps⟩) (h:spN K f vs H Q E) :
  t { nx:=fun _ H'=>Q .non H',rt:=Q } (start N vs) H:=by
 obtain ⟨F,ds,Post,l,rs,hf,q⟩:=h
 obtain ⟨hl,hj⟩:=ht ds Post hf
 refine hj ⟨fun _=>False,F,H,fun _=>none⟩ F H (start N vs) _ (Zft rs hl (fun _ _ _ e=>e) (fun _ z=>z.elim) (Same.refl _) (fun b o e=>⟨l b o e,.inr e⟩) fun _=>rfl) ⟨fun _ _ _ _ _ z=>z.elim,fun _ _ _ _ _ _ _ _ z=>z.elim,fun _ _ _ _ _ z=>z.elim,fun _ _ _ _ _ z=>z.elim,fun a od σ G H' Δ k pd ⟨ps,e,p⟩=>?_⟩
 subst e
 obtain ⟨o,h1,h2,h3,h4,h5,h6⟩:=pd
 cases o with
 | lst us=>
  refine q a H' us ps (fun b o e=>k.same b o (fun z=>z) e) h4 h1 (Reps.mono (fun b o e=>?_) (show Reps K G us ps from h2)) p
  have hb:b ≠ a:=by intro z; subst z; rw [h3] at e; cases e
  try dsimp only
  rw [if_neg hb]
  obtain ⟨e1,e2⟩:=k.frz b o e
  rcases e2 with z | z
  ·rw [Zdw z]; exact e1
  ·rw [Zcm (l b o z)]; exact z
 | _=>exact absurd h2 (fun z=>z)
theorem Zmf {f:BSp} {t:TS} {N:List Str} {vs:List V} {H:Hp} {Q:VK} {E:XK} (ht:∀ ps ds Post,f ps ds Post->ds.length + 1<=N.length/\JS K t (.bor (.lst ps) :: startD N.tail ds) ⟨fun Δ=>∃ ps',Δ[0]? = some (.bor (.lst ps'))/\Post .non ps',fun d Δ=>∃ ps',Δ[0]? = some (.bor (.lst ps'))/\Post d ps',fun _=>False,fun _=>False,fun _ _=>False⟩) (h:spB K f vs H Q E) :
  t { nx:=fun _ H'=>Q .non H',rt:=Q } (start N vs) H:=by
 obtain ⟨F,a,us,ws,ps,ds,Post,rfl,l,fa,ha,ru,rs,hf,q⟩:=h
 obtain ⟨hl,hj⟩:=ht ps ds Post hf
 have fin:∀ {v:V} {d:D} {σ:St} {G H':Hp} {Δ:Evt} {ps':List D},Ok K ⟨fun b=>b=a,F,H,fun _=>none⟩ G H' σ Δ -> Δ[0]? = some (.bor (.lst ps'))->Rep K G v d->Post d ps' -> Q v H':=fun {v d σ G H' Δ ps'} k e0 r p=>by
  obtain ⟨a',o,h1,h2,h3,h4,h5⟩:=k.own 0 _ _ e0 rfl
  have ea:a' = a:=h5
  subst ea
  cases o with
  | lst us'=>
   have up:Same G (glue F H H'):=fun b o e=>by
    obtain ⟨e1,e2⟩:=k.frz b o e
    rcases e2 with z | z
    ·rw [Zdw z]; exact e1
    ·rw [Zcm (l b o z)]; exact z
   exact q v H' us' ps' d (fun b o hb e=>k.same b o hb e) h2 (Reps.mono up (show Reps K G us' ps' from h3)) (r.mono up) p
  | _=>exact absurd h3 (fun z=>z)
 cases N with
 | nil=>simp at hl
 | cons n0 N=>
  have hl':ds.length<=N.length:=by simpa using hl
  have k0:=Zft (K:=K) (H:=H) (g:=⟨fun b=>b=a,F,H,fun _=>none⟩) (N:=N) rs hl' (fun _ _ _ e=>e) (fun b z=>by subst z; rw [ha]; intro w; cases w) (Same.refl _) (fun b o e=>⟨l b o e,.inr e⟩) fun _=>rfl
  have e1:start (n0 :: N) (.ref a :: ws)=some (.ref a) :: start N ws:=by
   unfold start
   rw [List.map_cons,List.length_cons,List.length_cons,Nat.add_sub_add_right]
   rfl
  rw [e1]
  have noOd:∀ (i:Nat) x od,(startD N ds)[i]? = some x->x.od=some od->False:=fun i x od e1 e2=>by
   have hm:=List.mem_of_getElem? e1
   rcases List.mem_append.mp hm with z | z
   ·obtain ⟨d,_,rfl⟩:=List.mem_map.mp z; cases e2
   ·rw [List.mem_replicate] at z; rw [z.2] at e2; cases e2
  have k1:Ok K ⟨fun b=>b=a,F,H,fun _=>none⟩ F H (some (.ref a) :: start N ws) (.bor (.lst ps) :: startD N ds):=by
   refine ⟨k0.same,k0.lent,k0.sub,k0.frz,fun b o e=>(by cases e),(by rw [List.length_cons,List.length_cons,k0.len]),fun i d e=>?_,fun i x od e1 e2=>?_,fun i j x y od od' c e1 e2 e3 e4 _ _=>?_⟩
   ·cases i with
    | zero=>cases e
    | succ i=>exact k0.val i d e
   ·cases i with
    | zero=>cases e1; cases e2; exact ⟨a,.lst us,rfl,ha,ru,fa,rfl⟩
    | succ i=>exact (noOd i x od e1 e2).elim
   ·cases i with
    | zero=>cases j with
     | zero=>rfl
     | succ j=>exact (noOd j y od' e3 e4).elim
    | succ i=>exact (noOd i x od e1 e2).elim
  exact hj _ F H _ _ k1 ⟨fun σ G H' Δ k ⟨ps',e,p⟩=>fin k e .non p,fun v d σ G H' Δ k r ⟨ps',e,p⟩=>fin k e r p,fun _ _ _ _ _ z=>z.elim,fun _ _ _ _ _ z=>z.elim,fun _ _ _ _ _ _ _ _ z=>z.elim⟩
theorem Zbn {f:DSp} {n:Nat} (h:∀ ds Post,f ds Post->ds.length=n):∀ vs H Q E,spD K f vs H Q E->vs.length=n:=fun vs H Q E hq_=>by obtain ⟨F,ds,Post,l,rs,hf,q⟩:=hq_; rw [rs.length]; exact h ds Post hf
theorem Zgq {f:NSp} {n:Nat} (h:∀ ds Post,f ds Post->ds.length=n):∀ vs H Q E,spN K f vs H Q E->vs.length=n:=fun vs H Q E hq_=>by obtain ⟨F,ds,Post,l,rs,hf,q⟩:=hq_; rw [rs.length]; exact h ds Post hf
theorem Zfk {f:BSp} {n:Nat} (h:∀ ps ds Post,f ps ds Post->ds.length + 1=n):∀ vs H Q E,spB K f vs H Q E->vs.length=n:=fun vs H Q E hq_=>by obtain ⟨F,a,us,ws,ps,ds,Post,e,l,fa,ha,ru,rs,hf,q⟩:=hq_; rw [e,List.length_cons,rs.length]; exact h ps ds Post hf
end
end L2
set_option Elab.async false
set_option linter.all false
set_option maxRecDepth 100000
namespace L2
open PySem PySem.Spec PyProof.Rows
def JGn (K:PySem.W.Frag) (n:Nat) (t:TG) (d:D) (Δ:Evt) (P:Evt->Prop):Prop:=
 ∀ g G H σ v (R:St->Hp->Prop),Ok K g G H σ Δ -> Rep K G v d->(∀ σ' G' H' Δ',Ok K g G' H' σ' Δ' -> Same G G' -> (∀ j,n<=j -> σ'[j]? = σ[j]?)->P Δ' -> R σ' H')->t v σ H R
def JGsn (K:PySem.W.Frag) (n:Nat) (t:TGs) (ds:List D) (Δ:Evt) (P:Evt->Prop):Prop:=
 ∀ g G H σ vs (R:St->Hp->Prop),Ok K g G H σ Δ -> Reps K G vs ds->(∀ σ' G' H' Δ',Ok K g G' H' σ' Δ' -> Same G G' -> (∀ j,n<=j -> σ'[j]? = σ[j]?)->P Δ' -> R σ' H')->t vs σ H R
section
variable {K:PySem.W.Frag} {Δ:Evt}
theorem Zmu {n:Nat} {P:Evt->Prop} (p:P Δ):JGsn K n gNil [] Δ P:=fun g G H σ vs R k r c=>by cases r; exact ⟨rfl,c σ G H Δ k (Same.refl _) (fun _ _=>rfl) p⟩
theorem Zf6 {n:Nat} {t:TG} {u:TGs} {d:D} {ds:List D} {P:Evt->Prop} (h:JGn K n t d Δ fun Δ1=>JGsn K n u ds Δ1 P):JGsn K n (gCons t u) (d :: ds) Δ P:=fun g G H σ vs R k r c=>by
 obtain ⟨_,_,rfl,r1,rr⟩:=r.inv
 next=>exact ⟨_,_,rfl,h g G H σ _ _ k r1 fun σ1 G1 H1 Δ1 k1 s1 e1 p1=>p1 g G1 H1 σ1 _ R k1 (rr.mono s1) fun σ2 G2 H2 Δ2 k2 s2 e2 p2=>c σ2 G2 H2 Δ2 k2 (s1.trans s2) (fun j hj=>(e2 j hj).trans (e1 j hj)) p2⟩
theorem Zpe {n m:Nat} {t:TGs} {ds:List D} {P:Evt->Prop} (hl:ds.length=m) (h:JGsn K n t ds Δ P):JGn K n (gTup K m t) (.tup ds) Δ P:=fun g G H σ v R k r c=>by
 obtain ⟨_,_,rfl,ha,rs⟩:=r.inv
 next=>exact ⟨_,_,rfl,SqT.of (k.live _ _ ha),by rw [rs.length]; exact hl,h g G H σ _ R k rs c⟩
end
def compD (n:Nat) (sel:List Nat) (Δ:Evt):Evt:=List.replicate n .any ++ sel.map fun i=>(Δ[i]?).getD .any
def backAt (n:Nat) (sel:List Nat) (Δi:Evt) (i:Nat) (x:Slot):Slot:=match x with
 | .val d=>.val d
 | .any=>.any
 | x=>match sel.idxOf? i with
  | none=>x
  | some j=>match Δi[n + j]? with
   | some (.own o)=>.own o
   | some (.bor o)=>.bor o
   | some (.ownA a o)=>.ownA a o
   | _=>.any
def backD (n:Nat) (sel:List Nat) (Δi:Evt):Nat->Evt->Evt
 | _,[]=>[]
 | i,x :: r=>backAt n sel Δi i x :: backD n sel Δi (i + 1) r
theorem Zbw (n:Nat) (sel:List Nat) (Δi:Evt):∀ (Δ:Evt) (k i:Nat),(backD n sel Δi k Δ)[i]? = (Δ[i]?).map (backAt n sel Δi (k + i))
 | [],k,i=>by simp [backD]
 | x :: r,k,0=>by simp [backD]
 | x :: r,k,i + 1=>by
  have:=Zbw n sel Δi r (k + 1) i
  simp only [backD,List.getElem?_cons_succ]
  rw [this,show k + 1 + i=k + (i + 1) by omega]
theorem Zgf (n:Nat) (sel:List Nat) (Δi:Evt):∀ (Δ:Evt) (k:Nat),(backD n sel Δi k Δ).length = Δ.length
 | [],k=>rfl
 | x :: r,k=>by simp [backD,Zgf n sel Δi r (k + 1)]
theorem Zda {sel:List Nat} {i j:Nat} (h:sel.idxOf? i=some j):sel[j]? = some i:=by
 have h2:=List.idxOf?_eq_some_iff.mp h
 obtain ⟨hj,e,_⟩:=h2
 rw [List.getElem?_eq_getElem hj,e]
theorem Zjh {n:Nat} {sel:List Nat} {Δi:Evt} {i:Nat} {x y:Slot} {od:OD} (h:backAt n sel Δi i x=y) (ho:y.od=some od) :
  (x=y/\sel.idxOf? i=none)\/∃ j,sel[j]? = some i /\ Δi[n + j]? = some y/\∃ od',x.od=some od':=by
 unfold backAt at h
 cases x with
 | any=>subst h; cases ho
 | val d=>subst h; cases ho
 | own o=>
  dsimp only at h
  cases q:sel.idxOf? i with
  | none=>rw [q] at h; exact .inl ⟨h,rfl⟩
  | some j=>
   rw [q] at h
   dsimp only at h
   refine .inr ⟨j,Zda q,?_,o,rfl⟩
   cases e:Δi[n + j]? with
   | none=>rw [e] at h; subst h; cases ho
   | some z=>rw [e] at h; cases z <;> (subst h; first | rfl | cases ho)
 | ownA a o=>
  dsimp only at h
  cases q:sel.idxOf? i with
  | none=>rw [q] at h; exact .inl ⟨h,rfl⟩
  | some j=>
   rw [q] at h
   dsimp only at h
   refine .inr ⟨j,Zda q,?_,o,rfl⟩
   cases e:Δi[n + j]? with
   | none=>rw [e] at h; subst h; cases ho
   | some z=>rw [e] at h; cases z <;> (subst h; first | rfl | cases ho)
 | bor o=>
  dsimp only at h
  cases q:sel.idxOf? i with
  | none=>rw [q] at h; exact .inl ⟨h,rfl⟩
  | some j=>
   rw [q] at h
   dsimp only at h
   refine .inr ⟨j,Zda q,?_,o,rfl⟩
   cases e:Δi[n + j]? with
   | none=>rw [e] at h; subst h; cases ho
   | some z=>rw [e] at h; cases z <;> (subst h; first | rfl | cases ho)
section
variable {K:PySem.W.Frag} {Δ:Evt}
open Classical in
noncomputable def aside (g:Gm) (sel:List Nat) (σ:St) (Δ:Evt) (H:Hp) (acc:Addr) (ys:List V):Hp:=fun b=>
 if b=acc then some (.lst ys) else if ∃ (i:Nat) (x:Slot) (od:OD),Δ[i]? = some x/\x.od=some od/\i ∉ sel /\ σ[i]? = some (some (.ref b)) then H b else g.Xo b
theorem Zcn {n:Nat} {sel:List Nat} {σ:St} {j i:Nat} (h:sel[j]? = some i):(compSt n sel σ)[n + j]? = some ((σ[i]?).getD none):=by
 unfold compSt
 rw [List.getElem?_append_right (by rw [List.length_replicate]; omega),List.length_replicate,Nat.add_sub_cancel_left,List.getElem?_map,h]
 rfl
theorem Zbq {n:Nat} {sel:List Nat} {Δ:Evt} {k:Nat} {x:Slot} (h:(compD n sel Δ)[k]? = some x):x=.any\/∃ j i,k=n + j/\sel[j]? = some i /\ Δ[i]? = some x:=by
 unfold compD at h
 by_cases hk:k < n
 ·rw [List.getElem?_append_left (by simpa using hk),List.getElem?_replicate,if_pos hk] at h
  exact .inl (Option.some.inj h).symm
 ·rw [List.getElem?_append_right (by simpa using hk),List.length_replicate,List.getElem?_map] at h
  cases e:sel[k - n]? with
  | none=>rw [e] at h; cases h
  | some i=>
   rw [e] at h
   have h:(Δ[i]?).getD .any=x:=by simpa using h
   cases q:Δ[i]? with
   | none=>rw [q] at h; exact .inl h.symm
   | some y=>rw [q] at h; cases h; exact .inr ⟨k - n,i,by omega,e,q⟩
theorem Ze1 {g:Gm} {G1 H1:Hp} {σ:St} {Δ1:Evt} {n:Nat} {sel:List Nat} {acc:Addr} {X0:Hp} (hsel:sel.Nodup) (k1:Ok K g G1 H1 σ Δ1) (hacc:H1 acc=none)
  (hX:∀ b o,X0 b=some o->(b=acc/\o=.lst [])\/(b ≠ acc/\(((∃ (i:Nat) (x:Slot) (od:OD),Δ1[i]? = some x/\x.od=some od/\i ∉ sel /\ σ[i]? = some (some (.ref b)))/\H1 b=some o)\/g.Xo b=some o))):Ok K ⟨g.B,G1,g.Hz,X0⟩ G1 (upd H1 acc (.lst [])) (compSt n sel σ) (compD n sel Δ1):=by
 have hsl:∀ {j j' i:Nat},sel[j]? = some i->sel[j']? = some i->j=j':=fun {j j' i} a b=>by
  obtain ⟨h1,e1⟩:=List.getElem?_eq_some_iff.mp a
  obtain ⟨h2,e2⟩:=List.getElem?_eq_some_iff.mp b
  exact (List.getElem_inj hsel).mp (e1.trans e2.symm)
 have hGa:G1 acc=none:=by
  cases e:G1 acc with
  | none=>rfl
  | some u=>rw [k1.live _ _ e] at hacc; cases hacc
 have cs:∀ {j i:Nat} {a:Addr},sel[j]? = some i->(compSt n sel σ)[n + j]? = some (some (.ref a)) -> σ[i]? = some (some (.ref a)):=fun {j i a} ej e3=>by
  rw [Zcn ej] at e3
  cases q:σ[i]? with
  | none=>rw [q] at e3; cases e3
  | some w=>rw [q] at e3; cases e3; rfl
 have oldH:∀ b o,H1 b=some o->(upd H1 acc (.lst [])) b=some o:=fun b o e=>by rw [Zak (Zan e hacc)]; exact e
 refine ⟨fun b o hb e=>oldH b o (k1.same b o hb e),fun b hb z=>?_,Same.refl _,fun b o e=>⟨oldH b o (k1.live b o e),.inr e⟩,fun b o e=>?_,?_,fun i d e=>?_,fun i x od e1 e2=>?_,fun i j x y od od' a e1 e2 e3 e4 e5 e6=>?_⟩
 ·cases q:H1 b with
  | none=>exact k1.lent b hb q
  | some u=>rw [oldH b u q] at z; cases z
 ·rcases hX b o e with ⟨rfl,rfl⟩ | ⟨hb,⟨⟨i0,x0,od0,f1,f2,f3,f4⟩,e⟩ | e⟩
  ·refine ⟨Zam,hGa,fun i x od e1 e2 e3=>?_⟩
   rcases Zbq e1 with z | ⟨j,i',ei,ej,z⟩
   ·subst z; cases e2
   ·subst ei
    obtain ⟨a,o,w1,w2,_⟩:=k1.own i' x od z e2
    rw [cs ej e3] at w1; cases w1
    rw [hacc] at w2; cases w2
  ·obtain ⟨a,oo,w1,w2,w3,w4,w5⟩:=k1.own i0 x0 od0 f1 f2
   rw [f4] at w1; cases w1
   refine ⟨oldH b o e,w4,fun i x od e1 e2 e3=>?_⟩
   rcases Zbq e1 with z | ⟨j,i',ei,ej,z⟩
   ·subst z; cases e2
   ·subst ei
    have:=k1.dis i0 i' x0 x od0 od b f1 f2 z e2 f4 (cs ej e3)
    subst this
    exact f3 (List.mem_of_getElem? ej)
  ·obtain ⟨w1,w2,w3⟩:=k1.ext b o e
   refine ⟨oldH b o w1,w2,fun i x od e1 e2 e3=>?_⟩
   rcases Zbq e1 with z | ⟨j,i',ei,ej,z⟩
   ·subst z; cases e2
   ·subst ei; exact w3 i' x od z e2 (cs ej e3)
 ·unfold compD compSt
  simp
 ·rcases Zbq e with z | ⟨j,i',ei,ej,z⟩
  ·cases z
  ·subst ei
   obtain ⟨v,w1,w2⟩:=k1.val i' d z
   exact ⟨v,by rw [Zcn ej,w1]; rfl,w2⟩
 ·rcases Zbq e1 with z | ⟨j,i',ei,ej,z⟩
  ·subst z; cases e2
  ·subst ei
   obtain ⟨a,o,w1,w2,w3,w4,w5⟩:=k1.own i' x od z e2
   exact ⟨a,o,by rw [Zcn ej,w1]; rfl,oldH a o w2,w3,w4,w5⟩
 ·rcases Zbq e1 with z | ⟨j1,i1,ei,ej,z⟩
  ·subst z; cases e2
  ·rcases Zbq e3 with z' | ⟨j2,i2,ei',ej',z'⟩
   ·subst z'; cases e4
   ·subst ei; subst ei'
    have:=k1.dis i1 i2 x y od od' a z e2 z' e4 (cs ej e5) (cs ej' e6)
    subst this
    rw [hsl ej ej']
theorem Zfu {σ σ2:St} {Δ1 Δ2:Evt} {n:Nat} {sel:List Nat} (hσ:∀ j,n<=j -> σ2[j]? = (compSt n sel σ)[j]?) (i:Nat) (y:Slot) (od:OD) (e1:(backD n sel Δ2 0 Δ1)[i]? = some y) (e2:y.od=some od) :
  ∃ x od',Δ1[i]? = some x/\x.od=some od' /\ ((x=y/\i ∉ sel)\/∃ j,sel[j]? = some i /\ Δ2[n + j]? = some y /\ σ2[n + j]? = some ((σ[i]?).getD none)):=by
 rw [Zbw] at e1
 cases q:Δ1[i]? with
 | none=>rw [q] at e1; cases e1
 | some x=>
  rw [q] at e1
  have e1:backAt n sel Δ2 i x=y:=by simpa using e1
  rcases Zjh e1 e2 with ⟨z1,z2⟩ | ⟨j,z1,z2,od',z3⟩
  ·refine ⟨x,od,rfl,by rw [z1]; exact e2,.inl ⟨z1,fun hm=>?_⟩⟩
   rw [List.idxOf?_eq_none_iff] at z2
   exact z2 hm
  ·exact ⟨x,od',rfl,z3,.inr ⟨j,z1,z2,by rw [hσ (n + j) (by omega)]; exact Zcn z1⟩⟩
theorem Zee {g:Gm} {G1 H1 G2 H2 Xv:Hp} {σ σ2:St} {Δ1 Δ2:Evt} {n:Nat} {sel:List Nat} {acc:Addr} (k1:Ok K g G1 H1 σ Δ1) (hacc:H1 acc=none) (k2:Ok K ⟨g.B,G1,g.Hz,Xv⟩ G2 H2 σ2 Δ2) (hσ:∀ j,n<=j -> σ2[j]? = (compSt n sel σ)[j]?)
  (hX:∀ b o,b ≠ acc->(∃ (i:Nat) (x:Slot) (od:OD),Δ1[i]? = some x/\x.od=some od/\i ∉ sel /\ σ[i]? = some (some (.ref b)))->H1 b=some o->Xv b=some o) (hY:∀ b o,b ≠ acc->¬ (∃ (i:Nat) (x:Slot) (od:OD),Δ1[i]? = some x/\x.od=some od/\i ∉ sel /\ σ[i]? = some (some (.ref b)))->g.Xo b=some o->Xv b=some o):Ok K g G2 H2 σ (backD n sel Δ2 0 Δ1):=by
 have s2:Same G1 G2:=k2.sub
 have src:=Zfu (Δ1:=Δ1) (Δ2:=Δ2) hσ
 refine ⟨k2.same,k2.lent,k1.sub.trans s2,fun b o e=>?_,fun b o e=>?_,by rw [Zgf,k1.len],fun i d e=>?_,fun i y od e1 e2=>?_,fun i j x y od od' a e1 e2 e3 e4 e5 e6=>?_⟩
 ·obtain ⟨q1,q2⟩:=k2.frz b o e
  refine ⟨q1,?_⟩
  rcases q2 with z | z
  ·exact .inl z
  ·exact (k1.frz b o z).2
 ·obtain ⟨w1,w2,w3⟩:=k1.ext b o e
  have hne:b ≠ acc:=by intro z; subst z; rw [hacc] at w1; cases w1
  obtain ⟨u1,u2,u3⟩:=k2.ext b o (hY b o hne (fun ⟨i,x,od,f1,f2,f3,f4⟩=>w3 i x od f1 f2 f4) e)
  refine ⟨u1,u2,fun i y od e1 e2 e3=>?_⟩
  obtain ⟨x,od',f1,f2,_⟩:=src i y od e1 e2
  exact w3 i x od' f1 f2 e3
 ·rw [Zbw] at e
  cases q:Δ1[i]? with
  | none=>rw [q] at e; cases e
  | some x=>
   rw [q] at e
   have e:backAt n sel Δ2 (0 + i) x=.val d:=by simpa using e
   have ex:x=.val d:=by
    unfold backAt at e
    cases x with
    | any=>cases e
    | val d'=>exact e
    | own o=>dsimp only at e; split at e <;> first | cases e | (split at e <;> cases e)
    | bor o=>dsimp only at e; split at e <;> first | cases e | (split at e <;> cases e)
    | ownA a o=>dsimp only at e; split at e <;> first | cases e | (split at e <;> cases e)
   subst ex
   obtain ⟨v,w1,w2⟩:=k1.val i d q
   exact ⟨v,w1,w2.mono s2⟩
 ·obtain ⟨x,od',f1,f2,f3⟩:=src i y od e1 e2
  rcases f3 with ⟨f3,f4⟩ | ⟨j,f3,f4,f5⟩
  ·subst f3
   obtain ⟨a,o,w1,w2,w3,w4,w5⟩:=k1.own i x od f1 e2
   have hne:a ≠ acc:=by intro z; subst z; rw [hacc] at w2; cases w2
   obtain ⟨u1,u2,u3⟩:=k2.ext a o (hX a o hne ⟨i,x,od,f1,e2,f4,w1⟩ w2)
   exact ⟨a,o,w1,u1,w3.mono s2,u2,w5⟩
  ·obtain ⟨a,o,w1,w2,w3,w4,w5⟩:=k2.own (n + j) y od f4 e2
   obtain ⟨a0,o0,v1,_⟩:=k1.own i x od' f1 f2
   rw [f5,v1] at w1
   have ea:a0=a:=by cases w1; rfl
   subst ea
   exact ⟨a0,o,v1,w2,w3,w4,w5⟩
 ·obtain ⟨x',od1,f1,f2,_⟩:=src i x od e1 e2
  obtain ⟨y',od2,f3,f4,_⟩:=src j y od' e3 e4
  exact k1.dis i j x' y' od1 od2 a f1 f2 f3 f4 e5 e6
theorem Ok.base {g:Gm} {G1 F X G5 H5:Hp} {σ5:St} {Δ5:Evt} (sF:Same G1 F) (hF:∀ b o,F b=some o->(g.Hz b=none\/G1 b=some o)) (k5:Ok K ⟨g.B,F,g.Hz,X⟩ G5 H5 σ5 Δ5):Ok K ⟨g.B,G1,g.Hz,X⟩ G5 H5 σ5 Δ5:=
 ⟨k5.same,k5.lent,sF.trans k5.sub,fun b o q=>by
  obtain ⟨q1,q2⟩:=k5.frz b o q
  refine ⟨q1,?_⟩
  rcases q2 with z | z
  ·exact .inl z
  ·exact hF b o z,k5.ext,k5.len,k5.val,k5.own,k5.dis⟩
theorem Zj7 {n:Nat} {sel:List Nat} {wi:TI} {t:TG} {tc:TT} {te:TE} {P:OD->Evt->Prop} (hsel:sel.Nodup)
  (h:JI K wi Δ fun ds Δ1=>ds.length < sizeLine/\∃ I:Nat->List D->Evt->Prop,I 0 [] (compD n sel Δ1) ∧
   (∀ i d ys Δ2,ds[i]? = some d->I i ys Δ2->JGn K n t d Δ2 fun Δ3=>JT K tc Δ3 fun b Δ4=>if b=true then JE K te Δ4 fun e Δ5=>I (i + 1) (ys ++ [e]) Δ5 else I (i + 1) ys Δ4) ∧
   ∀ ys Δ2,I ds.length ys Δ2->P (.lst ys) (backD n sel Δ2 0 Δ1)):JO K (tComp n sel wi t tc te) Δ P:=fun g G H σ Q k c=>
 h g G H σ _ k fun J ds G1 H1 Δ1 k1 s1 it ⟨hz,I,h0,ht,he⟩ acc hacc=>by
  have nacc:∀ (i:Nat) x od,Δ1[i]? = some x->x.od=some od -> σ[i]? ≠ some (some (.ref acc)):=fun i x od e1 e2 e3=>by
   obtain ⟨a,o,w1,w2,_⟩:=k1.own i x od e1 e2
   rw [e3] at w1; cases w1
   rw [hacc] at w2; cases w2
  -- the word at each turn
  let Wd:Nat->St->Hp->Prop:=fun i σ' H'=>i<=ds.length/\(∀ j,n<=j -> σ'[j]? = (compSt n sel σ)[j]?)/\∃ G ys vs Δi,ys.length<=i/\Reps K G vs ys/\Ok K ⟨g.B,G1,g.Hz,aside g sel σ Δ1 H1 acc vs⟩ G H' σ' Δi/\I i ys Δi
  refine ⟨fun i m σ' H'=>m=ds.length - i/\Wd i σ' H',⟨ds.length,by simp,Nat.zero_le _,fun _ _=>rfl,G1,[],[],compD n sel Δ1,Nat.le_refl _,.nil,?_,h0⟩,?_⟩
  ·refine Ze1 hsel k1 hacc fun b o e=>?_
   have e:aside g sel σ Δ1 H1 acc [] b=some o:=e
   unfold aside at e
   by_cases hb:b=acc
   ·rw [if_pos hb] at e; cases e; exact .inl ⟨hb,rfl⟩
   ·rw [if_neg hb] at e
    split at e
    case isTrue hx=>exact .inr ⟨hb,.inl ⟨hx,e⟩⟩
    case isFalse hx=>exact .inr ⟨hb,.inr e⟩
  ·rintro i m σ2 H2 ⟨rfl,hi,hσ,G2,ys,vs,Δ2,hy,ry,k2,h2⟩
   have s2:Same G1 G2:=k2.sub
   obtain ⟨stop,go⟩:=it G2 H2 s2 k2.live
   have hacc2:∀ {G' H':Hp} {σ':St} {Δ':Evt} {vs:List V} {F:Hp},Ok K ⟨g.B,F,g.Hz,aside g sel σ Δ1 H1 acc vs⟩ G' H' σ' Δ' -> H' acc=some (.lst vs)/\G' acc=none/\∀ (i:Nat) x od,Δ'[i]? = some x->x.od=some od -> σ'[i]? ≠ some (some (.ref acc)):=fun {G' H' σ' Δ' vs F} kk=>
    kk.ext acc (.lst vs) (by show aside g sel σ Δ1 H1 acc vs acc=_; unfold aside; rw [if_pos rfl])
   by_cases hlt:i < ds.length
   ·obtain ⟨g1,g2⟩:=go i _ (List.getElem?_eq_getElem hlt)
    refine .inr ⟨g1,fun σ' H'=>Wd (i + 1) σ' H',fun σ' H' p'=>⟨ds.length - (i + 1),by omega,rfl,p'⟩,fun x H3 y=>?_⟩
    obtain ⟨G3,a1,a2,a3,a4⟩:=g2 x H3 y
    have k3:=k2.grow a1 a2 a3
    have hG3:∀ b o,G3 b=some o->(g.Hz b=none\/G1 b=some o):=fun b o q=>(k3.frz b o q).2
    have k3':Ok K ⟨g.B,G3,g.Hz,aside g sel σ Δ1 H1 acc vs⟩ G3 H3 σ2 Δ2:=⟨k3.same,k3.lent,Same.refl _,fun b o q=>⟨(k3.frz b o q).1,.inr q⟩,k3.ext,k3.len,k3.val,k3.own,k3.dis⟩
    have ry3:Reps K G3 vs ys:=ry.mono a1
    have s13:Same G1 G3:=s2.trans a1
    refine ht i _ ys Δ2 (List.getElem?_eq_getElem hlt) h2 ⟨g.B,G3,g.Hz,aside g sel σ Δ1 H1 acc vs⟩ G3 H3 σ2 x _ k3' a4 fun σ4 G4 H4 Δ4 k4 s4 e4 p4=>?_
    have hσ4:∀ j,n<=j -> σ4[j]? = (compSt n sel σ)[j]?:=fun j hj=>(e4 j hj).trans (hσ j hj)
    refine p4 _ G4 H4 σ4 _ k4 fun b G5 H5 Δ5 k5 s5 p5=>?_
    cases b with
    | false=>exact ⟨hlt,hσ4,G5,ys,vs,Δ5,by omega,ry3.mono (s4.trans s5),k5.base s13 hG3,p5⟩
    | true=>
     refine (show JE K te Δ5 _ from p5) _ G5 H5 σ4 _ k5 fun v d G6 H6 Δ6 k6 s6 r6 p6=>?_
     have ry6:Reps K G6 vs ys:=ry3.mono (s4.trans (s5.trans s6))
     obtain ⟨b1,b2,b3⟩:=hacc2 k6
     refine ⟨vs,b1,by rw [ry6.length]; omega,hlt,hσ4,G6,ys ++ [d],vs ++ [v],Δ6,by rw [List.length_append,List.length_singleton]; omega,ry6.append (.cons r6 .nil),?_,p6⟩
     have k7:=k6.base s13 hG3
     have oldH:∀ b o,b ≠ acc->H6 b=some o->(upd H6 acc (.lst (vs ++ [v]))) b=some o:=fun b o hb e=>by rw [Zak hb]; exact e
     have aNe:∀ b o,b ≠ acc->aside g sel σ Δ1 H1 acc (vs ++ [v]) b=some o->aside g sel σ Δ1 H1 acc vs b=some o:=fun b o hb e=>by
      unfold aside at e ⊢
      rw [if_neg hb] at e ⊢; exact e
     refine ⟨fun b o hb e=>?_,fun b hb=>?_,k7.sub,fun b o e=>?_,fun b o e=>?_,k7.len,k7.val,fun i x od e1 e2=>?_,k7.dis⟩
     ·have hne:b ≠ acc:=by
       intro z; subst z
       have e:g.Hz b=some o:=e
       rw [k1.there hacc] at e; cases e
      exact oldH b o hne (k7.same b o hb e)
     ·by_cases hne:b=acc
      ·subst hne; rw [Zam]; intro z; cases z
      ·rw [Zak hne]; exact k7.lent b hb
     ·have hne:b ≠ acc:=by intro z; subst z; rw [b2] at e; cases e
      exact ⟨oldH b o hne (k7.frz b o e).1,(k7.frz b o e).2⟩
     ·by_cases hne:b=acc
      ·subst hne
       have e:aside g sel σ Δ1 H1 b (vs ++ [v]) b=some o:=e
       unfold aside at e
       rw [if_pos rfl] at e
       cases e
       exact ⟨Zam,b2,b3⟩
      ·obtain ⟨w1,w2,w3⟩:=k7.ext b o (aNe b o hne e)
       exact ⟨oldH b o hne w1,w2,w3⟩
     ·obtain ⟨a,o,w1,w2,w3,w4,w5⟩:=k7.own i x od e1 e2
      have hne:a ≠ acc:=by intro z; subst z; exact b3 i x od e1 e2 w1
      exact ⟨a,o,w1,oldH a o hne w2,w3,w4,w5⟩
   ·have e:i=ds.length:=by omega
    subst e
    refine .inl ⟨stop,?_⟩
    obtain ⟨b1,b2,b3⟩:=hacc2 k2
    have src:=Zfu (Δ1:=Δ1) (Δ2:=Δ2) hσ
    have k9:Ok K g G2 H2 σ (backD n sel Δ2 0 Δ1):=Zee k1 hacc k2 hσ (fun b o hb hx e=>by show aside g sel σ Δ1 H1 acc vs b=_; unfold aside; rw [if_neg hb,if_pos hx]; exact e) (fun b o hb hx e=>by show aside g sel σ Δ1 H1 acc vs b=_; unfold aside; rw [if_neg hb,if_neg hx]; exact e)
    refine c acc _ G2 H2 _ k9 (s1.trans s2) ⟨.lst vs,b1,(show OwnRep K G2 (.lst vs) (.lst ys) from ry),b2,k1.there hacc,?_,fun i y od e1 e2 e3=>?_⟩ (he ys Δ2 h2)
    ·cases q:g.Xo acc with
     | none=>rfl
     | some u=>have z:=(k1.ext acc u q).1; rw [hacc] at z; cases z
    ·obtain ⟨x',od1,f1,f2,_⟩:=src i y od e1 e2
     exact nacc i x' od1 f1 f2 e3
theorem Zlb {n:Nat} {sel:List Nat} {wi:TI} {t:TG} {tc:TT} {te:TE} {P:D->Evt->Prop} (hsel:sel.Nodup)
  (h:JI K wi Δ fun ds Δ1=>ds.length < sizeLine/\∃ I:Nat->List D->Evt->Prop,I 0 [] (compD n sel Δ1) ∧
   (∀ i d ys Δ2,ds[i]? = some d->I i ys Δ2->JGn K n t d Δ2 fun Δ3=>JT K tc Δ3 fun b Δ4=>if b=true then JE K te Δ4 fun e Δ5=>I (i + 1) (ys ++ [e]) Δ5 else I (i + 1) ys Δ4) ∧
   ∀ ys Δ2,I ds.length ys Δ2->P (.lst ys) (backD n sel Δ2 0 Δ1)):JE K (tComp n sel wi t tc te) Δ P:=
 Zb3 (Zj7 hsel fun g G H σ R k c=>h g G H σ R k fun J ds G' H' Δ' k' s' it ⟨z,I,h0,ht,he⟩=>c J ds G' H' Δ' k' s' it ⟨z,I,h0,ht,fun ys Δ2 q=>⟨ys,rfl,he ys Δ2 q⟩⟩)
theorem Zhg {n:Nat} {sel:List Nat} {wi:TI} {t:TG} {tc:TT} {te:TE} {P:D->Evt->Prop} (hsel:sel.Nodup)
  (h:JI K wi Δ fun ds Δ1=>ds.length < sizeLine/\∃ (fix:Evt) (p:D->Bool) (f:D->D),compD n sel Δ1=List.replicate n .any ++ fix ∧
   (∀ (i:Nat) d (ts:Evt),ds[i]? = some d->ts.length=n->JGn K n t d (ts ++ fix) fun Δ3=>JT K tc Δ3 fun b Δ4=>b=p d/\if b=true then JE K te Δ4 fun e Δ5=>e=f d/\∃ ts',ts'.length=n /\ Δ5=ts' ++ fix else ∃ ts',ts'.length=n /\ Δ4=ts' ++ fix) ∧
   P (.lst ((ds.filter p).map f)) (backD n sel (List.replicate n .any ++ fix) 0 Δ1)):JE K (tComp n sel wi t tc te) Δ P:=by
 refine Zlb hsel fun g G H σ R k c=>h g G H σ R k fun J ds G' H' Δ' k' s' it ⟨z,fix,p,f,e0,ht,he⟩=>c J ds G' H' Δ' k' s' it ⟨z,fun i ys Δ=>ys=((ds.take i).filter p).map f/\∃ ts:Evt,ts.length=n /\ Δ = ts ++ fix,?_,?_,?_⟩
 ·exact ⟨by simp,_,by simp,e0⟩
 ·rintro i d ys Δ2 hd ⟨rfl,ts,hts,rfl⟩
  have tk:ds.take (i + 1)=ds.take i ++ [d]:=by
   rw [List.take_add_one,hd]; rfl
  intro g G H σ v R k r c
  refine ht i d ts hd hts g G H σ v R k r fun σ' G' H' Δ' k' s' e' q=>c σ' G' H' Δ' k' s' e' fun g G H σ Q k c=>q g G H σ Q k fun b G' H' Δ' k' s' ⟨eb,q⟩=>c b G' H' Δ' k' s' ?_
  cases b with
  | true=>
   rw [if_pos rfl] at q ⊢
   refine q.mono fun e Δ5 ⟨e1,ts',h1,h2⟩=>⟨?_,ts',h1,h2⟩
   rw [tk,List.filter_append,List.map_append,List.filter_cons,<- eb,e1]
   rfl
  | false=>
   rw [if_neg Bool.false_ne_true] at q ⊢
   obtain ⟨ts',h1,h2⟩:=q
   refine ⟨?_,ts',h1,h2⟩
   rw [tk,List.filter_append,List.map_append,List.filter_cons,<- eb]
   simp
 ·rintro ys Δ2 ⟨rfl,ts,hts,rfl⟩
  rw [List.take_length]
  have e:backD n sel (ts ++ fix) 0 Δ' = backD n sel (List.replicate n .any ++ fix) 0 Δ':=by
   apply List.ext_getElem?
   intro i
   rw [Zbw,Zbw]
   congr 1
   funext x
   unfold backAt
   have e2:∀ j,(ts ++ fix)[n + j]? = (List.replicate n Slot.any ++ fix)[n + j]?:=fun j=>by
    rw [List.getElem?_append_right (by omega),List.getElem?_append_right (by simp),hts,List.length_replicate]
   simp only [e2]
  rw [e]
  exact he
end
end L2
set_option Elab.async false
set_option linter.all false
set_option maxRecDepth 100000
namespace HT
open PySem PyProof.Rows
section
variable {prog:Program} {w:World} {A:Around} {E:Value->Shared->Prop} {s:Shared}
theorem getItem_tuple_whole {t sl:Addr} {items:Array Value} {vl vu:Value} {lo hi:Option Int} {Q:Value->Shared->Prop} (ht:IsTup s.heap t items) (hs:s.heap.IsSliceOf sl vl vu .none) (pl:IsPart vl lo) (pu:IsPart vu hi)
  (hw:sIx items.size 0 lo=0/\sIx items.size items.size hi=items.size) (h:Q (.ref t) s):wpAny (model prog w) A (getItem (.ref t) (.ref sl)) Q E s:=by
 obtain ⟨os,hos,hcs,hds⟩:=id hs
 have hTs:s.TypeIs (.ref sl) "slice":=⟨os,hos,hcs⟩
 unfold getItem
 try with_reducible refine wpAny_holding ?_
 first | refine wpAny_bind (wpAny_pure ?_) | skip
 refine wpAny_bind (wpAny_sequenceKey ht.typeIs (by decide) ?_)
 refine wpAny_bind (wpAny_callSpecial?_slot (name:=Str.ofString "__getitem__") ht.typeIs PyProof.Rows.slot_tuple_getitem
  (wpAny_call_entry PyProof.Rows.slot_tuple_getitem ht.typeIs entry_tuple_getitem ?_ (args_tuple_getitem _ _)))
 show wpAny _ _ (Builtin.Tuple.tupleItemsOf (.ref t) >>= _) _ _ s
 refine wpAny_bind (tupleItemsOf_ ht ?_)
 refine wpAny_bind (wpAny_typeOf hTs ?_)
 rw [if_pos (by decide)]
 refine wpAny_bind (Zb9 hs pl pu ?_)
 have hyes:(((sIx items.size 0 lo:Nat):Int) == 0 && (1:Int) == 1 && (sIx items.size items.size hi - sIx items.size 0 lo) == items.size)=true:=by
  rw [hw.1,hw.2]; simp
 show wpAny _ _ (if (((sIx items.size 0 lo:Nat):Int) == 0 && (1:Int) == 1 && (sIx items.size items.size hi - sIx items.size 0 lo) == items.size)=true then _ else _) _ _ s
 rw [if_pos hyes]
 first
  | exact wpAny_pure ⟨_,rfl,wpAny_pure h⟩
  | exact wpAny_pure ⟨_,rfl,h⟩
  | exact wpAny_bind (wpAny_pure (wpAny_pure ⟨_,rfl,wpAny_pure h⟩))
  | (refine wpAny_bind (wpAny_bind (wpAny_typeOf ht.typeIs (wpAny_pure ?_)))
     rw [if_pos (by decide)]
     exact wpAny_bind (wpAny_rule (wpAny_pure ⟨_,rfl,wpAny_pure h⟩)))
theorem tuple_index {t:Addr} {items:Array Value} {x:Value} {e:Value->Bool} {j:Nat} {Q:Value->Shared->Prop} (ht:IsTup s.heap t items) (he:∀ y ∈ items,PySem.SeqAt.EqAt A.in1 s y x (e y)) (hj:j < items.size)
  (hit:e items[j]=true) (hno:∀ m (hm:m < items.size),m < j->e items[m]=false) (h:Q (.int j s.toks) { s with toks:=s.toks + 1 }) :
  wpAny (model prog w) A (call (.builtin "tuple.index") [.ref t,x]) Q E s:=by
 refine wpAny_call_entry PySem.F.slot_tuple_index ht.typeIs PySem.F.entry_tuple_index ?_ (PySem.F.args_tuple_index_2 _ _)
 show wpAny _ _ (Builtin.Tuple.tupleItemsOf (.ref t) >>= _) _ _ s
 refine wpAny_bind (tupleItemsOf_ ht ?_)
 refine wpAny_bind (wpAny_pure (wpAny_bind (wpAny_pure (wpAny_bind ?_))))
 rw [Nat.min_self]
 simp only [Std.Legacy.Range.forIn_eq_forIn_range',Std.Legacy.Range.size,Nat.sub_zero,Nat.add_sub_cancel,Nat.div_one]
 refine wpAny_mono (Q:=fun b s'=>s' = { s with toks:=s.toks + 1 } /\ b.1=some (Fin.done (.ret (.int j s.toks)))) ?_ (fun b s' hb=>?_) fun _ _ z=>z
 refine wpAny_forIn_list _ (fun l b s'=>s' = s/\∃ i,l=List.range' i (items.size - i)/\i<=j) _ ?_ ?_ _ _ ⟨rfl,0,rfl,Nat.zero_le _⟩
 ·rintro i rest b s' ⟨rfl,k,hl,hk⟩
  have hk2:items.size - k=(items.size - k - 1) + 1:=by omega
  rw [hk2,List.range'_succ] at hl
  injection hl with hl1 hl2
  subst hl1
  have hi:i < items.size:=by omega
  rw [Array.getElem?_eq_getElem hi]
  refine wpAny_bind (he _ (Array.getElem_mem hi) prog w _ _ ?_)
  by_cases hij:i=j
  ·subst hij
   rw [hit,if_pos rfl]
   exact wpAny_bind (wpAny_bind (wpAny_mkInt (wpAny_pure (wpAny_pure ⟨rfl,rfl⟩))))
  ·rw [hno i hi (by omega),if_neg Bool.false_ne_true]
   exact wpAny_pure ⟨rfl,i + 1,by rw [hl2,show items.size - i - 1=items.size - (i + 1) by omega],by omega⟩
 ·rintro b s' ⟨rfl,k,hl,hk⟩
  have:=congrArg List.length hl
  simp at this
  omega
 ·obtain ⟨rfl,e1⟩:=hb
  obtain ⟨b1,b2⟩:=b
  dsimp only at e1
  subst e1
  exact wpAny_pure ⟨_,rfl,h⟩
end
end HT
namespace L2
open PySem PySem.Spec PyProof.Rows
section
variable {X:Cx}
def rSlT' (K:PySem.W.Frag):V->Option Int->Option Int->Hp->VK->Prop:=fun x lo hi H Q=>∃ a xs,x=.ref a/\SqT K H a xs ∧
 ((HT.sIx xs.length 0 lo=0/\HT.sIx xs.length xs.length hi=xs.length)->Q (.ref a) H) ∧
 (¬ (HT.sIx xs.length 0 lo=0/\HT.sIx xs.length xs.length hi=xs.length)->∀ p,H p=none->Q (.ref p) (upd H p (.tup (cutV xs lo hi))))
theorem Zoy:SlR X (rSlT' X.K):=by
 intro pins s σ H x v vl vu lo hi sl Q I rx hs pl pu h
 obtain ⟨a,xs,rfl,hx,q1,q2⟩:=h
 by_cases hw:HT.sIx xs.length 0 lo=0/\HT.sIx xs.length xs.length hi=xs.length
 ·cases rx
  obtain ⟨its,r,ht,hz⟩:=I.tuple hx
  have hlen:its.toArray.size=xs.length:=by rw [List.size_toArray]; exact r.length.symm
  exact ⟨"tuple",_,PyProof.Rows.slot_tuple_getitem.lookup,ht.typeIs,HT.getItem_tuple_whole ht hs pl pu (by rw [hlen]; exact hw) ⟨.ref a,H,I,rfl,q1 hw⟩⟩
 ·exact Zr2 pins s σ H (.ref a) v vl vu lo hi sl Q I rx hs pl pu ⟨a,xs,rfl,hx,hw,q2 hw⟩
def rSlU (K:PySem.W.Frag):V->Option Int->Option Int->Hp->VK->Prop:=fun x lo hi H Q=>rSlL K x lo hi H Q\/rSlT' K x lo hi H Q
theorem slU:SlR X (rSlU X.K):=Zpq.or Zoy
def tSlR (K:PySem.W.Frag) (te:TE):TE:=fun σ H Q=>te σ H fun x H1=>∃ a xs,x=.ref a/\SqT K H1 a xs/\∀ p,H1 p=none->Q (.ref p) (upd H1 p (.tup xs.reverse))
def rCatT' (K:PySem.W.Frag):R2:=fun x y H Q=>∃ a b xs ys,x=.ref a/\y=.ref b/\SqT K H a xs/\SqT K H b ys/\xs.length + ys.length<=sizeLine ∧
 (xs=[]->Q (.ref b) H)/\(xs ≠ []->ys=[]->Q (.ref a) H)/\(xs ≠ []->ys ≠ []->∀ p,H p=none->Q (.ref p) (upd H p (.tup (xs ++ ys))))
theorem Zmg:OpR X (binaryOp .Add) (rCatT' X.K):=by
 intro pins s σ H x y v u Q I rx ry h
 obtain ⟨a,b,xs,ys,rfl,rfl,ha,hb,hz,q0,q1,q2⟩:=h
 by_cases hx:xs=[]
 ·cases rx
  cases ry
  obtain ⟨its,r1,p1,_⟩:=I.tuple ha
  obtain ⟨its2,r2,p2,_⟩:=I.tuple hb
  obtain ⟨⟨cls,dd,data,sl⟩,ho,hc,n,hd⟩:=id p1
  obtain ⟨⟨cls2,dd2,data2,sl2⟩,ho2,hc2,n2,hd2⟩:=id p2
  simp only at hc hd hc2 hd2
  subst hc hd hc2 hd2
  exact concat_meets ⟨_,ho,rfl⟩ ⟨_,ho2,rfl⟩ noFill_tuple_add seq_tuple_add PySem.F.slot_tuple_add PySem.F.entry_tuple_add (PySem.F.args_tuple_add_2 _ _)
   (tuple_addW0 a b its.toArray its2.toArray n n2 dd dd2 sl sl2 (by simp [r1.nil_iff.mpr hx])) ⟨ho,ho2,⟨.ref b,H,I,rfl,q0 hx⟩⟩
 ·exact Zpl pins s σ H (.ref a) (.ref b) v u Q I rx ry ⟨a,b,xs,ys,rfl,rfl,ha,hb,hx,hz,q1 hx,q2 hx⟩
def rAddU (K:PySem.W.Frag):R2:=fun x y H Q=>rI0 (fun i j=>.int (i + j)) x y H Q\/(rCatT' K x y H Q\/rCat x y H Q)
theorem Zox:OpR X (binaryOp .Add) (rAddU X.K):=Zrr.or (Zmg.or Zp2)
theorem Zb8:OpR X (compareOp .Eq) rEq:=Zsd
def rIxD:R2:=fun x y H Q=>∃ a v,x=.ref a/\DGet H a y (some v)/\Q v H
theorem Zpj (hu:X.A.units + 1 < cLine):IxR X rIxD:=by
 intro value slice pins s σ H x y v u Q I rx ry h hs
 obtain ⟨a,w',rfl,g,q⟩:=h
 cases rx
 exact tail_any (Zg3 I g) PySem.F.slot_dict_getitem.lookup (Zkq hu I g ry fun w2 s3 I3 rw'=>⟨w',H,I3,rw',q⟩) hs
def rIxU (K:PySem.W.Frag):R2:=fun x y H Q=>rIx K x y H Q\/rIxD x y H Q
theorem ixU (hu:X.A.units + 1 < cLine):IxR X (rIxU X.K):=Zr3.or (Zpj hu)
def rSetD:V->V->V->Hp->(Hp->Prop)->Prop:=fun o i v H Q=>∃ a H',o=.ref a/\DPut H a i v H' /\ Q H'
theorem Zmd (hu:X.A.units + 1 < cLine):PSet X rSetD:=by
 intro pins s σ H o i v ov iv u Q I ro ri rv h
 obtain ⟨a,H',rfl,g,q⟩:=h
 cases ro
 exact Zjv hu I g ri rv fun s' I'=>⟨H',I',q⟩
theorem PSet.or {t t':TSet} (h:PSet X t) (h':PSet X t'):PSet X (fun o i v H Q=>t o i v H Q\/t' o i v H Q):=by
 intro pins s σ H o i v ov iv u Q I ro ri rv q
 rcases q with q | q
 ·exact h pins s σ H o i v ov iv u Q I ro ri rv q
 ·exact h' pins s σ H o i v ov iv u Q I ro ri rv q
def rSetU:V->V->V->Hp->(Hp->Prop)->Prop:=fun o i v H Q=>rSetL o i v H Q\/rSetD o i v H Q
theorem setU (hu:X.A.units + 1 < cLine):PSet X rSetU:=Zmt.or (Zmd hu)
def rLenU (K:PySem.W.Frag):List V->Hp->VK->Prop:=fun xs H Q=>(∃ p ys,xs=[.ref p]/\(SqL K H p ys\/SqT K H p ys)/\Q (.int ys.length) H)\/∃ a kvs,xs=[V.ref a]/\H a=some (.dK kvs)/\Q (.int kvs.length) H
theorem Zk8:CallR X (.builtin "len") (rLenU X.K):=Zgd.or Zky
def rIsi (K:PySem.W.Frag):List V->Hp->VK->Prop:=fun xs H Q=>∃ x n t b,xs=[x,.ty n]/\TyOf K H x t/\PySem.W.kitOne K t (.type n)=some b/\Q (.bl b) H
theorem Zg5:CallR X (.builtin "isinstance") (rIsi X.K):=by
 intro pins s σ H xs us Q I r h
 obtain ⟨x,n,t,b,rfl,ty,e,q⟩:=h
 obtain ⟨u,u',rfl,rx,rn⟩:=vals2 r
 cases (show u' = Value.type n from rn)
 exact Zk5 I rx ty e fun tk=>⟨.bl b,H,I.tok _,rfl,q⟩
def insI (n:Nat) (i:Int):Nat:=if i < 0 then (i + (n:Int)).toNat else min i.toNat n
def rInsert:V->List V->Hp->VK->Prop:=fun x vs H Q=>∃ l xs i y,x=.ref l/\vs=[.int i,y]/\H l=some (.lst xs)/\xs.length < sizeLine /\ -(2 ^ 62)<=i/\i < 2 ^ 62/\Q .non (upd H l (.lst (xs.take (insI xs.length i) ++ y :: xs.drop (insI xs.length i))))
theorem Zj6:MtM X "list.insert" rInsert:=by
 intro pins s σ H x vs v us Q I rx rv h
 obtain ⟨l,xs,i,y,rfl,rfl,hH,hz,h1,h2,q⟩:=h
 cases rx
 obtain ⟨ui,uy,rfl,⟨t,rfl⟩,ry⟩:=rv.two
 obtain ⟨z,its,n,r,hl,e⟩:=I.lstM hH
 refine call_meets F.slot_list_insert ⟨_,e,rfl⟩ F.entry_list_insert (F.args_list_insert_3 _ _ _) (PySem.AutoSeq1.list_insert_list_int_val_1 l its.toArray n i t uy (by
  have hf:Builtin.List.listFitsIndex i=true:=by
   unfold Builtin.List.listFitsIndex
   rw [decide_eq_true (by omega),decide_eq_true (by omega)]
   rfl
  rw [hf]; decide) (by rw [List.size_toArray]; omega)) ⟨e,?_⟩
 refine ⟨.non,_,I.lset (its':=its.take (insI xs.length i) ++ uy :: its.drop (insI xs.length i)) hH e ?_ ((r.take _).append (.cons ry (r.drop _))) ?_,rfl,q⟩
 ·have e1:(if i < 0 then (i + (its.toArray.size:Int)).toNat else min i.toNat its.toArray.size)=insI xs.length i:=by
   unfold insI; rw [List.size_toArray,hl]
  dsimp only
  rw [e1]
  apply Array.ext'
  simp
  rw [List.take_of_length_le (by rw [List.length_drop]; exact Nat.le_refl _)]
 ·rw [List.length_append,List.length_cons,List.length_take,List.length_drop]
  omega
def rIndexT (K:PySem.W.Frag):V->List V->Hp->VK->Prop:=fun x vs H Q=>∃ a xs y j,x=.ref a/\vs=[y]/\SqT K H a xs/\flatV y=true/\xs.all flatV=true/\j < xs.length ∧
 (∃ z,xs[j]? = some z/\eqV z y=true)/\(∀ m z,m < j->xs[m]? = some z->eqV z y=false)/\Q (.int j) H
theorem Zen:MtM X "tuple.index" (rIndexT X.K):=by
 intro pins s σ H x vs v us Q I rx rv h
 obtain ⟨a,xs,y,j,rfl,rfl,hx,fy,fx,hj,⟨z,hz1,hz2⟩,hno,q⟩:=h
 cases rx
 obtain ⟨u,rfl,ru⟩:=rv.one
 obtain ⟨its,r,ht,hz⟩:=I.tuple hx
 have hl:its.length=xs.length:=r.length.symm
 have key:∀ w ∈ its.toArray,SeqAt.EqAt X.A.in1 s w u (eqU y w):=fun w hw=>by
  have hw:w ∈ its:=by simpa using hw
  obtain ⟨k,hk,e⟩:=List.mem_iff_getElem.mp hw
  have hk':k < xs.length:=by omega
  obtain ⟨w',hw',rw'⟩:=r.get (List.getElem?_eq_getElem hk')
  have ew:w' = w:=by
   rw [List.getElem?_eq_getElem hk] at hw'
   exact (Option.some.inj hw').symm.trans e
  subst ew
  have fk:flatV xs[k]=true:=List.all_eq_true.mp fx _ (List.getElem_mem hk')
  rw [Zho rw' fk]
  exact Znu rw' ru fk fy
 have at_:∀ (k:Nat) (hk:k < its.toArray.size) (z:V),xs[k]? = some z->eqU y its.toArray[k]=eqV z y:=fun k hk z e=>by
  obtain ⟨w',hw',rw'⟩:=r.get e
  have hk2:k < its.length:=by simpa using hk
  rw [List.getElem?_eq_getElem hk2] at hw'
  have ew:its.toArray[k]=w':=by simpa using Option.some.inj hw'
  rw [ew]
  exact Zho rw' (List.all_eq_true.mp fx _ (List.mem_of_getElem? e))
 have hj':j < its.toArray.size:=by simpa [hl] using hj
 refine HT.tuple_index ht key hj' (by rw [at_ j hj' z hz1]; exact hz2) (fun m hm hmj=>?_) ⟨.int j,H,I.tok _,⟨_,rfl⟩,q⟩
 have hm2:m < xs.length:=by simpa [hl] using hm
 rw [at_ m hm _ (List.getElem?_eq_getElem hm2)]
 exact hno m _ hmj (List.getElem?_eq_getElem hm2)
end
end L2
namespace L2
open PySem PySem.Spec PyProof.Rows
section
variable {X:Cx}
theorem PI.or {tg iter:Expr} {w w':TI} (h:PI X tg iter w) (h':PI X tg iter w'):PI X tg iter (fun σ H R=>w σ H R\/w' σ H R):=by
 intro pins s σ H R I q
 rcases q with q | q
 ·exact h pins s σ H R I q
 ·exact h' pins s σ H R I q
def iSeq (K:PySem.W.Frag) (tl:TE):TI:=fun σ H R=>iList K tl σ H R\/iTup K tl σ H R
theorem Zr0 {tg l:Expr} {tl:TE} (hl:PE X l tl):PI X tg l (iSeq X.K tl):=(Zob hl).or (Zqj hl)
def tTru (K:PySem.W.Frag) (ta:TE):TT:=fun σ H Q=>ta σ H fun x H'=>∃ k,TruV K x H' k/\Q k H'
theorem Zrv {a:Expr} {ta:TE} (ha:PE X a ta) (he:∀ whole,isTrue a X.env whole=(do let v ← whole; standAt a.pos; holding [v] (truthy v))):PT X a (tTru X.K ta):=Zmc ha he
end
section
variable {K:PySem.W.Frag} {Δ:Evt} {P:D->Evt->Prop}
theorem Zdk {i j:Int} (p:P (.int (i + j)) Δ):JR2 K (rAddU K) (.int i) (.int j) Δ P:=fun g G H σ Q x y k rx ry c=>by
 cases rx.inv; cases ry.inv
 exact .inl ⟨i,j,rfl,rfl,c _ _ G H Δ k (Same.refl _) (.int _) p⟩
theorem Zas {ds:List D} {i:Int} {d:D} (h:atI ds i=some d) (p:P d Δ):JR2 K (rIxU K) (.tup ds) (.int i) Δ P:=fun g G H σ Q x y k rx ry c=>
 .inl (.inr (.inl (Zqm h p g G H σ Q x y k rx ry c)))
theorem Zg7 {ds:List D} {i:Int} {d:D} (h:atI ds i=some d) (p:P d Δ):JR2 K (rIxU K) (.lst ds) (.int i) Δ P:=fun g G H σ Q x y k rx ry c=>
 .inl (.inl (Zrc h p g G H σ Q x y k rx ry c))
theorem Zpr {n:Nat} {tb:TE} {x:Slot} {ds:List D} (hx:Δ[n]? = some x) (ho:x.od=some (.lst ds)) (h:JE K tb Δ fun e Δ1=>∃ y es i d,Δ1[n]? = some y/\y.od=some (.lst es)/\e=.int i/\atI es i=some d/\P d Δ1):JE K (tOp (rIxU K) (tVar n) tb) Δ P:=fun g G H σ Q k c=>by
 obtain ⟨a,o,h1,h2,h3,h4,h5⟩:=k.own n x _ hx ho
 refine ⟨.ref a,h1,h g G H σ _ k fun v e G1 H1 Δ1 k1 s1 r1 ⟨y,es,i,d,q1,q2,q3,q4,p⟩=>?_⟩
 subst q3
 cases r1.inv
 obtain ⟨a',o',w1,w2,w3,w4,w5⟩:=k1.own n y _ q1 q2
 rw [h1] at w1; cases w1
 cases o' with
 | lst vs=>
  obtain ⟨u,z1,z2⟩:=Zfn (show Reps K G1 vs es from w3) q4
  exact .inl (.inl ⟨a,vs,i,u,rfl,rfl,SqL.of w2,z1,c u d G1 H1 Δ1 k1 s1 z2 p⟩)
 | _=>exact absurd w3 (fun z=>z)
theorem Zle {n:Nat} {ti te:TE} {Pp:Pst} (h:JE K te Δ fun d Δ1=>(∃ x od,Δ1[n]? = some x/\x.od=some od)/\JE K ti Δ1 fun e Δ2=>∃ x ds i j,Δ2[n]? = some x/\x.od=some (.lst ds)/\e=.int i/\ixN ds.length i=some j/\Pp.nx (Δ2.set n (x.put (.lst (ds.set j d))))) :
  JS K (tAsg te (gSub (tVar n) ti rSetU)) Δ Pp:=fun g G H σ E k c=>
 h g G H σ _ k fun v d G1 H1 Δ1 k1 s1 r1 hq_=>by
  obtain ⟨⟨x,od,hx,ho⟩,p1⟩:=hq_
  obtain ⟨a,o,h1,h2,h3,h4,h5⟩:=k1.own n x _ hx ho
  refine ⟨.ref a,h1,p1 g G1 H1 σ _ k1 fun u e G2 H2 Δ2 k2 s2 r2 ⟨y,ds,i,j,q1,q2,q3,q4,p⟩=>?_⟩
  subst q3
  cases r2.inv
  obtain ⟨a',o',w1,w2,w3,w4,w5⟩:=k2.own n y _ q1 q2
  rw [h1] at w1; cases w1
  cases o' with
  | lst vs=>
   have w3:Reps K G2 vs ds:=w3
   exact .inl ⟨a,vs,i,j,rfl,rfl,w2,by rw [w3.length]; exact q4,c.nx σ G2 _ _ (k2.write q1 q2 h1 (show OwnRep K G2 (.lst (vs.set j v)) (.lst (ds.set j d)) from w3.set j (r1.mono s2))) p⟩
  | _=>exact absurd w3 (fun z=>z)
def valD (kvs:List (Key × D)) (k:Key):Option D:=(kvs.find? fun kv=>decide (kv.1=k)).map (·.2)
def putD (kvs:List (Key × D)) (k:Key) (v:D):List (Key × D):=if (kvs.any fun kv=>decide (kv.1=k))=true then kvs.map (fun kv=>if kv.1=k then (kv.1,v) else kv) else kvs ++ [(k,v)]
theorem Zjx {G:Hp} {k:Key} {d:D}:∀ {kvs:List (Key × V)} {kds:List (Key × D)},Paired (fun (p:Key × V) (q:Key × D)=>p.1=q.1/\Rep K G p.2 q.2) kvs kds->valD kds k=some d->∃ v,valV kvs k=some v/\Rep K G v d
 | _,_,.nil,h=>by cases h
 | (k1,v1) :: kvs,(k2,d2) :: kds,.cons ⟨e,r⟩ t,h=>by
  have e:k1=k2:=e
  subst e
  by_cases hk:k1=k
  ·subst hk
   have h:some d2=some d:=by simpa [valD,List.find?_cons] using h
   cases h
   exact ⟨v1,Zc9 rfl,r⟩
  ·have h:valD kds k=some d:=by simpa [valD,List.find?_cons,hk] using h
   obtain ⟨v,h1,h2⟩:=Zjx t h
   exact ⟨v,by rw [Zdb hk]; exact h1,h2⟩
theorem Zkh {G:Hp} {k:Key}:∀ {kvs:List (Key × V)} {kds:List (Key × D)},Paired (fun (p:Key × V) (q:Key × D)=>p.1=q.1/\Rep K G p.2 q.2) kvs kds->(kvs.any fun kv=>decide (kv.1=k))=(kds.any fun kv=>decide (kv.1=k))
 | _,_,.nil=>rfl
 | _ :: _,_ :: _,.cons ⟨e,_⟩ t=>by rw [List.any_cons,List.any_cons,Zkh t,e]
theorem Zjk {G:Hp} {k:Key} {v:V} {d:D} (rv:Rep K G v d):∀ {kvs:List (Key × V)} {kds:List (Key × D)},Paired (fun (p:Key × V) (q:Key × D)=>p.1=q.1/\Rep K G p.2 q.2) kvs kds →
  Paired (fun (p:Key × V) (q:Key × D)=>p.1=q.1/\Rep K G p.2 q.2) (kvs.map fun kv=>if kv.1=k then (kv.1,v) else kv) (kds.map fun kv=>if kv.1=k then (kv.1,d) else kv)
 | _,_,.nil=>.nil
 | (k1,v1) :: kvs,(k2,d2) :: kds,.cons ⟨e,r⟩ t=>by
  have e:k1=k2:=e
  subst e
  rw [List.map_cons,List.map_cons]
  refine .cons ?_ (Zjk rv t)
  by_cases hk:k1=k
  ·rw [if_pos hk,if_pos hk]; exact ⟨rfl,rv⟩
  ·rw [if_neg hk,if_neg hk]; exact ⟨rfl,r⟩
theorem Zpz {G:Hp} {k:Key} {v:V} {d:D} {kvs:List (Key × V)} {kds:List (Key × D)} (rv:Rep K G v d) (h:Paired (fun (p:Key × V) (q:Key × D)=>p.1=q.1/\Rep K G p.2 q.2) kvs kds) :
  Paired (fun (p:Key × V) (q:Key × D)=>p.1=q.1/\Rep K G p.2 q.2) (putK kvs k v) (putD kds k d):=by
 unfold putK putD
 rw [Zkh h]
 split
 ·exact Zjk rv h
 ·exact Paired.snoc h ⟨rfl,rv⟩
theorem Zkz {n:Nat} {tb:TE} {x:Slot} {od:OD} (hx:Δ[n]? = some x) (ho:x.od=some od) (h:JE K tb Δ fun e Δ1=>∃ y kvs i d,Δ1[n]? = some y/\y.od=some (.dct kvs)/\e=.int i/\valD kvs (.inl i)=some d/\P d Δ1):JE K (tOp (rIxU K) (tVar n) tb) Δ P:=fun g G H σ Q k c=>by
 obtain ⟨a,o,h1,h2,h3,h4,h5⟩:=k.own n x _ hx ho
 refine ⟨.ref a,h1,h g G H σ _ k fun v e G1 H1 Δ1 k1 s1 r1 ⟨y,kvs,i,d,q1,q2,q3,q4,p⟩=>?_⟩
 subst q3
 cases r1.inv
 obtain ⟨a',o',w1,w2,w3,w4,w5⟩:=k1.own n y _ q1 q2
 rw [h1] at w1; cases w1
 cases o' with
 | dK vs=>
  obtain ⟨u,z1,z2⟩:=Zjx w3 q4
  exact .inr ⟨a,u,rfl,(by have:=DGet.k (k:=Sum.inl i) w2; rw [z1] at this; exact this),c u d G1 H1 Δ1 k1 s1 z2 p⟩
 | _=>exact absurd w3 (fun z=>z)
theorem Zpt {n:Nat} {ti te:TE} {Pp:Pst} (h:JE K te Δ fun d Δ1=>(∃ x od,Δ1[n]? = some x/\x.od=some od)/\JE K ti Δ1 fun e Δ2=>∃ x kvs i,Δ2[n]? = some x/\x.od=some (.dct kvs)/\e=.int i/\kvs.length < sizeLine/\Pp.nx (Δ2.set n (x.put (.dct (putD kvs (.inl i) d))))) :
  JS K (tAsg te (gSub (tVar n) ti rSetU)) Δ Pp:=fun g G H σ E k c=>
 h g G H σ _ k fun v d G1 H1 Δ1 k1 s1 r1 hq_=>by
  obtain ⟨⟨x,od,hx,ho⟩,p1⟩:=hq_
  obtain ⟨a,o,h1,h2,h3,h4,h5⟩:=k1.own n x _ hx ho
  refine ⟨.ref a,h1,p1 g G1 H1 σ _ k1 fun u e G2 H2 Δ2 k2 s2 r2 ⟨y,kvs,i,q1,q2,q3,q4,p⟩=>?_⟩
  subst q3
  cases r2.inv
  obtain ⟨a',o',w1,w2,w3,w4,w5⟩:=k2.own n y _ q1 q2
  rw [h1] at w1; cases w1
  cases o' with
  | dK vs=>
   have w3':Paired (fun (p:Key × V) (q:Key × D)=>p.1=q.1/\Rep K G2 p.2 q.2) vs kvs:=w3
   exact .inr ⟨a,_,rfl,DPut.k (k:=Sum.inl i) w2 (by rw [Paired.length w3']; exact q4),c.nx σ G2 _ _ (k2.write q1 q2 h1 (show OwnRep K G2 (.dK (putK vs (.inl i) v)) (.dct (putD kvs (.inl i) d)) from Zpz (r1.mono s2) w3')) p⟩
  | _=>exact absurd w3 (fun z=>z)
theorem Zbm {ds es:List D} (he:ds=[.lst es]\/ds=[.tup es]) (p:P (.int es.length) Δ):JC K (rLenU K) ds Δ P:=fun g G H σ Q vs k rs c=>.inl (Zqc he p g G H σ Q vs k rs c)
theorem Zh6 {n:Nat} {x:Slot} {ds:List D} (hx:Δ[n]? = some x) (ho:x.od=some (.lst ds)) (p:P (.int ds.length) Δ):JE K (tCB (rLenU K) (tCons (tVar n) tNil)) Δ P:=fun g G H σ Q k c=>by
 obtain ⟨v,h1,h2⟩:=Zpx hx ho p g G H σ Q k c
 exact ⟨v,h1,.inl h2⟩
def cutD (ds:List D) (lo hi:Option Int):List D:=(ds.drop (HT.sIx ds.length 0 lo)).take (HT.sIx ds.length ds.length hi - HT.sIx ds.length 0 lo)
theorem Zkl {α:Type} (xs:List α) (lo hi:Option Int) (h:HT.sIx xs.length 0 lo=0/\HT.sIx xs.length xs.length hi=xs.length):(xs.drop (HT.sIx xs.length 0 lo)).take (HT.sIx xs.length xs.length hi - HT.sIx xs.length 0 lo)=xs:=by
 rw [h.1,h.2]; simp
def JO2 (t:TO) (Δ:Evt) (K:PySem.W.Frag) (P:Option Int->Evt->Prop):Prop:=
 ∀ g G H σ (Q:Option Int->Hp->Prop),Ok K g G H σ Δ -> (∀ o G' H' Δ',Ok K g G' H' σ Δ' -> Same G G' -> P o Δ' -> Q o H')->t σ H Q
theorem Zn0 {P:Option Int->Evt->Prop} (p:P none Δ):JO2 tNoPart Δ K P:=fun g G H σ Q k c=>c none G H Δ k (Same.refl _) p
theorem Zow {te:TE} {P:Option Int->Evt->Prop} (h:JE K te Δ fun d Δ1=>∃ i,d=.int i/\P (some i) Δ1):JO2 (tPart te) Δ K P:=fun g G H σ Q k c=>
 h g G H σ _ k fun v d G1 H1 Δ1 k1 s1 r1 hq_=>by obtain ⟨i,e,p⟩:=hq_; subst e; cases r1.inv; exact ⟨i,rfl,c (some i) G1 H1 Δ1 k1 s1 p⟩
def slD (d:D) (lo hi:Option Int):Option D:=match d with
 | .lst ds=>some (.lst (cutD ds lo hi))
 | .scr ds=>some (.lst (cutD ds lo hi))
 | .tup ds=>some (.tup (cutD ds lo hi))
 | _=>none
theorem Zsh {te:TE} {tl th:TO} (h:JE K te Δ fun d Δ1=>JO2 tl Δ1 K fun lo Δ2=>JO2 th Δ2 K fun hi Δ3=>∃ e,slD d lo hi=some e/\P e Δ3):JE K (tSl (rSlU K) te tl th) Δ P:=fun g G H σ Q k c=>
 h g G H σ _ k fun v d G1 H1 Δ1 k1 s1 r1 p1=>p1 g G1 H1 σ _ k1 fun lo G2 H2 Δ2 k2 s2 p2=>p2 g G2 H2 σ _ k2 fun hi G3 H3 Δ3 k3 s3 hq_=>by
  obtain ⟨e,he,p⟩:=hq_
  have r3:=r1.mono (s2.trans s3)
  have cc:=c.up (s1.trans (s2.trans s3))
  cases r3 with
  | lst ha rs=>
   cases he
   refine .inl ⟨_,_,rfl,SqL.of (k3.live _ _ ha),fun q hq=>?_⟩
   obtain ⟨k4,sg⟩:=k3.laid hq (.lst _)
   refine cc _ _ _ _ Δ3 k4 sg (.lst Zam (Reps.mono sg ?_)) p
   unfold cutV cutD
   rw [rs.length]; exact (rs.drop _).take _
  | scr ha rs=>
   cases he
   refine .inl ⟨_,_,rfl,k3.live.seq ha,fun q hq=>?_⟩
   obtain ⟨k4,sg⟩:=k3.laid hq (.lst _)
   refine cc _ _ _ _ Δ3 k4 sg (.lst Zam (Reps.mono sg ?_)) p
   unfold cutV cutD
   rw [rs.length]; exact (rs.drop _).take _
  | tup ha rs=>
   cases he
   refine .inr ⟨_,_,rfl,SqT.of (k3.live _ _ ha),fun hw=>?_,fun hw q hq=>?_⟩
   ·rw [rs.length] at hw
    refine cc _ _ _ _ Δ3 k3 (Same.refl _) (.tup ha ?_) p
    unfold cutD
    rw [Zkl _ _ _ hw]; exact rs
   ·obtain ⟨k4,sg⟩:=k3.laid hq (.tup _)
    refine cc _ _ _ _ Δ3 k4 sg (.tup Zam (Reps.mono sg ?_)) p
    unfold cutV cutD
    rw [rs.length]; exact (rs.drop _).take _
  | _=>cases he
theorem Zrt {te:TE} (h:JE K te Δ fun d Δ1=>∃ ds,d=.tup ds/\P (.tup ds.reverse) Δ1):JE K (tSlR K te) Δ P:=fun g G H σ Q k c=>
 h g G H σ _ k fun v d G1 H1 Δ1 k1 s1 r1 hq_=>by
  obtain ⟨ds,e,p⟩:=hq_
  subst e
  obtain ⟨_,_,rfl,ha,rs⟩:=r1.inv
  next=>
   refine ⟨_,_,rfl,SqT.of (k1.live _ _ ha),fun q hq=>?_⟩
   obtain ⟨k4,sg⟩:=k1.laid hq (.tup _)
   exact c _ _ _ _ Δ1 k4 (s1.trans sg) (.tup Zam (rs.reverse.mono sg)) p
theorem Zno {tl:TE} {P:List D->Evt->Prop} (h:JE K tl Δ fun d Δ1=>∃ ds,(d=.lst ds\/d=.scr ds)/\P ds Δ1):JI K (iSeq K tl) Δ P:=fun g G H σ R k c=>.inl (Zpd h g G H σ R k c)
theorem Zcx {tl:TE} {P:List D->Evt->Prop} (h:JE K tl Δ fun d Δ1=>∃ ds,d=.tup ds/\P ds Δ1):JI K (iSeq K tl) Δ P:=fun g G H σ R k c=>.inr (Zrq h g G H σ R k c)
def truD:D->Option Bool
 | .non=>some false
 | .bl b=>some b
 | .int i=>some (i != 0)
 | .lst ds=>some !ds.isEmpty
 | .tup ds=>some !ds.isEmpty
 | _=>none
theorem Reps.isEmpty {G:Hp} {vs:List V} {ds:List D} (r:Reps K G vs ds):vs.isEmpty=ds.isEmpty:=by cases r <;> rfl
theorem Zbt {t:TE} {Pb:Bool->Evt->Prop} (h:JE K t Δ fun d Δ1=>∃ b,truD d=some b/\Pb b Δ1):JT K (tTru K t) Δ Pb:=fun g G H σ Q k c=>
 h g G H σ _ k fun v d G1 H1 Δ1 k1 s1 r1 hq_=>by
  obtain ⟨b,e,p1⟩:=hq_
  refine ⟨b,?_,c b G1 H1 Δ1 k1 s1 p1⟩
  cases r1 with
  | non=>cases e; rfl
  | bl b=>cases e; rfl
  | int i=>cases e; rfl
  | str x=>cases e
  | ty n=>cases e
  | scr ha rs=>cases e
  | adr a=>cases e
  | dct ha hl rs=>cases e
  | exc ha=>cases e
  | lst ha rs=>cases e; exact .inl ⟨_,SqL.of (k1.live _ _ ha),by rw [rs.isEmpty]⟩
  | tup ha rs=>cases e; exact .inr (.inl ⟨_,SqT.of (k1.live _ _ ha),by rw [rs.isEmpty]⟩)
def tyD:D->Option String
 | .non=>some "NoneType"
 | .bl _=>some "bool"
 | .int _=>some "int"
 | .str _=>some "str"
 | .lst _=>some "list"
 | .tup _=>some "tuple"
 | .dct _ _=>some "dict"
 | _=>none
theorem Zq5 {d:D} {n T:String} {b:Bool} (ht:tyD d=some T) (e:∀ K,PySem.W.kitOne K (.type T) (.type n)=some b) (p:P (.bl b) Δ):JC K (rIsi K) [d,.ty n] Δ P:=fun g G H σ Q vs k rs c=>by
 obtain ⟨_,_,rfl,r,t⟩:=rs.inv
 next=>
  obtain ⟨_,_,rfl,r',t⟩:=t.inv
  next=>
   cases t.inv; cases r'.inv
   refine ⟨_,n,.type T,b,rfl,?_,e K,c _ _ G H Δ k (Same.refl _) (.bl b) p⟩
   cases r with
   | non=>cases ht; exact .non
   | bl b=>cases ht; exact .bl b
   | int i=>cases ht; exact .int i
   | str x=>cases ht; exact .str x
   | ty n=>cases ht
   | scr ha rs=>cases ht
   | adr a=>cases ht
   | dct ha hl rs=>cases ht; exact .dK (k.live _ _ ha)
   | exc ha=>cases ht
   | lst ha rs=>cases ht; exact .lst (k.live _ _ ha)
   | tup ha rs=>cases ht; exact .tup (k.live _ _ ha)
theorem Zcf {ta tb:TE} (h:JE K ta Δ fun d Δ1=>∃ b,d=.bl b/\if b=true then JE K tb Δ1 P else P (.bl false) Δ1):JE K (tAndV ta tb) Δ P:=fun g G H σ Q k c=>
 h g G H σ _ k fun v d G1 H1 Δ1 k1 s1 r1 hq_=>by
  obtain ⟨b,e,p1⟩:=hq_
  subst e; cases r1.inv
  refine ⟨b,rfl,?_⟩
  cases b with
  | true=>exact (show JE K tb Δ1 P from p1) g G1 H1 σ Q k1 (c.up s1)
  | false=>exact c _ _ G1 H1 Δ1 k1 s1 (.bl false) p1
theorem Zrb {ta tb:TE} (h:JE K ta Δ fun d Δ1=>∃ b,d=.bl b/\if b=true then P (.bl true) Δ1 else JE K tb Δ1 P):JE K (tOrV ta tb) Δ P:=fun g G H σ Q k c=>
 h g G H σ _ k fun v d G1 H1 Δ1 k1 s1 r1 hq_=>by
  obtain ⟨b,e,p1⟩:=hq_
  subst e; cases r1.inv
  refine ⟨b,rfl,?_⟩
  cases b with
  | false=>exact (show JE K tb Δ1 P from p1) g G1 H1 σ Q k1 (c.up s1)
  | true=>exact c _ _ G1 H1 Δ1 k1 s1 (.bl true) p1
theorem Zj2 {ta:TE} (h:JE K ta Δ fun d Δ1=>∃ b,d=.bl b/\P (.bl !b) Δ1):JE K (tNotV ta) Δ P:=fun g G H σ Q k c=>
 h g G H σ _ k fun v d G1 H1 Δ1 k1 s1 r1 hq_=>by
  obtain ⟨b,e,p1⟩:=hq_
  subst e; cases r1.inv
  exact ⟨b,rfl,c _ _ G1 H1 Δ1 k1 s1 (.bl !b) p1⟩
theorem Zfh {to te:TE} (h:JE K to Δ fun d Δ1=>∃ ns:List Int,d=.tup (ns.map D.int)/\JE K te Δ1 fun e Δ2=>∃ i j,e=.int i/\ns[j]? = some i/\(∀ m,m < j->ns[m]? ≠ some i)/\P (.int (j:Nat)) Δ2) :
  JE K (tBM K "tuple" (rIndexT K) to (tCons te tNil)) Δ P:=fun g G H σ Q k c=>
 h g G H σ _ k fun v d G1 H1 Δ1 k1 s1 r1 hq_=>by
  obtain ⟨ns,e,p1⟩:=hq_
  subst e
  obtain ⟨a,vs,rfl,ha,rs⟩:=r1.inv
  next=>
   refine ⟨.inr (.inl ⟨rfl,.inr ⟨_,k1.live _ _ ha⟩⟩),p1 g G1 H1 σ _ k1 fun u e G2 H2 Δ2 k2 s2 r2 ⟨i,j,q1,q2,q3,p⟩=>?_⟩
   subst q1
   cases r2.inv
   have ev:vs=ns.map V.int:=rs.ints
   subst ev
   have hj:j < ns.length:=(List.getElem?_eq_some_iff.mp q2).1
   refine ⟨a,_,.int i,j,rfl,rfl,SqT.of (k2.live _ _ (s2 _ _ ha)),rfl,?_,by simpa using hj,⟨.int i,by rw [List.getElem?_map,q2]; rfl,by simp [eqV]⟩,fun m z hm hz=>?_,c _ _ G2 H2 Δ2 k2 (s1.trans s2) (.int _) p⟩
   ·rw [List.all_map]; exact List.all_eq_true.mpr fun _ _=>rfl
   ·rw [List.getElem?_map] at hz
    cases e:ns[m]? with
    | none=>rw [e] at hz; cases hz
    | some w=>
     rw [e] at hz
     have hz:V.int w=z:=by simpa using hz
     subst hz
     have hne:w ≠ i:=fun q=>q3 m hm (by rw [e,q])
     show (w == i)=false
     exact beq_eq_false_iff_ne.mpr hne
end
section
variable {K:PySem.W.Frag} {g:Gm} {G H:Hp} {σ:St} {Δ:Evt}
theorem Ok.setVal' (k:Ok K g G H σ Δ) {v:V} {d:D} (i:Nat) (r:Rep K G v d):Ok K g G H (σ.set i (some v)) (Δ.set i (.val d)):=by
 by_cases hi:i < Δ.length
 ·exact k.setVal hi r
 ·have hl:=k.len
  rw [List.set_eq_of_length_le (l:=σ) (by omega),List.set_eq_of_length_le (l:=Δ) (by omega)]; exact k
theorem Ok.setOwn' (k:Ok K g G H σ Δ) {a:Addr} {od:OD} (i:Nat) (p:Pend K g G H σ Δ a od):Ok K g G H (σ.set i (some (.ref a))) (Δ.set i (.own od)):=by
 by_cases hi:i < Δ.length
 ·exact k.setOwn hi p
 ·have hl:=k.len
  rw [List.set_eq_of_length_le (l:=σ) (by omega),List.set_eq_of_length_le (l:=Δ) (by omega)]; exact k
theorem Zqr {te:TE} {i:Nat} {P:Pst} (h:JE K te Δ fun d Δ1=>P.nx (Δ1.set i (.val d))):JS K (tAsg te (gName i)) Δ P:=fun g G H σ E k c=>
 h g G H σ _ k fun v d G1 H1 Δ1 k1 s1 r1 p1=>c.nx _ G1 H1 _ (k1.setVal' i r1) p1
theorem Zo4 {te:TE} {i:Nat} {P:Pst} (h:JO K te Δ fun od Δ1=>P.nx (Δ1.set i (.own od))):JS K (tAsg te (gName i)) Δ P:=fun g G H σ E k c=>
 h g G H σ _ k fun a od G1 H1 Δ1 k1 s1 pd p1=>c.nx _ G1 H1 _ (k1.setOwn' i pd) p1
theorem Zoc {i j:Nat} {ta:TA} {P:Pst} (h:JA K ta Δ fun ds Δ1=>∃ d e,ds=[d,e]/\P.nx ((Δ1.set i (.val d)).set j (.val e))):JS K (tPar i j ta) Δ P:=fun g G H σ E k c=>
 h g G H σ _ k fun vs ds G1 H1 Δ1 k1 s1 r1 hq_=>by
  obtain ⟨d,e,hd,p1⟩:=hq_
  subst hd
  obtain ⟨_,_,rfl,ra,rr⟩:=r1.inv
  next=>
   obtain ⟨_,_,rfl,rb,rr⟩:=rr.inv
   next=>
    cases rr.inv
    exact ⟨_,_,rfl,c.nx _ G1 H1 _ ((k1.setVal' i ra).setVal' j rb) p1⟩
theorem Zcq {i:Nat} {d:D} {P:Evt->Prop} (p:P (Δ.set i (.val d))):JG K (gName i) d Δ P:=fun g G H σ v R k r c=>c _ G H _ (k.setVal' i r) (Same.refl _) p
theorem Zdh {n i:Nat} {d:D} {P:Evt->Prop} (hn:i < n) (p:P (Δ.set i (.val d))):JGn K n (gName i) d Δ P:=fun g G H σ v R k r c=>
 c _ G H _ (k.setVal' i r) (Same.refl _) (fun j hj=>List.getElem?_set_ne (by omega)) p
theorem Zr4 {n:Nat} {te:TE} {Pp:Pst} {x:Slot} {ds0:List D} (hx:Δ[n]? = some x) (ho:x.od=some (.lst ds0))
  (h:JE K te Δ fun d Δ1=>∃ y ds,Δ1[n]? = some y/\y.od=some (.lst ds)/\ds.length < sizeLine/\Pp.nx (Δ1.set n (y.put (.lst (ds ++ [d]))))) :
  JS K (tDrop (tBM K "list" rAppend (tVar n) (tCons te tNil))) Δ Pp:=Zjn hx ho ⟨_,rfl⟩ h
end
section
variable {K:PySem.W.Frag} {Δ:Evt} {nx bk ct:Evt->Prop} {rt:D->Evt->Prop} {ro:OD->Evt->Prop}
theorem Zaw (p:nx Δ):JS K tNext Δ ⟨nx,rt,bk,ct,ro⟩:=Zom p
theorem Zai {t u:TS} (h:JS K t Δ ⟨fun Δ1=>JS K u Δ1 ⟨nx,rt,bk,ct,ro⟩,rt,bk,ct,ro⟩):JS K (tSeq t u) Δ ⟨nx,rt,bk,ct,ro⟩:=Znp h
theorem Zbc {t u:TS} (I:Evt->Prop) (h1:JS K t Δ ⟨I,rt,bk,ct,ro⟩) (h2:∀ Δ1,I Δ1->JS K u Δ1 ⟨nx,rt,bk,ct,ro⟩):JS K (tSeq t u) Δ ⟨nx,rt,bk,ct,ro⟩:=
 Znp (h1.mono h2 (fun _ _ z=>z) (fun _ z=>z) (fun _ z=>z) fun _ _ z=>z)
theorem Za9 {te:TE} (h:JE K te Δ rt):JS K (tRet te) Δ ⟨nx,rt,bk,ct,ro⟩:=Zrd h
theorem Zg6 {te:TE} (h:JO K te Δ ro):JS K (tRet te) Δ ⟨nx,rt,bk,ct,ro⟩:=Zoj h
theorem Zbx {c:TT} {t u:TS} (h:JT K c Δ fun b Δ1=>if b=true then JS K t Δ1 ⟨nx,rt,bk,ct,ro⟩ else JS K u Δ1 ⟨nx,rt,bk,ct,ro⟩):JS K (tIfS c t u) Δ ⟨nx,rt,bk,ct,ro⟩:=Zsb h
theorem Zat {te:TE} {i:Nat} (h:JE K te Δ fun d Δ1=>nx (Δ1.set i (.val d))):JS K (tAsg te (gName i)) Δ ⟨nx,rt,bk,ct,ro⟩:=Zqr h
theorem Zb4 {te:TE} {i:Nat} (h:JO K te Δ fun od Δ1=>nx (Δ1.set i (.own od))):JS K (tAsg te (gName i)) Δ ⟨nx,rt,bk,ct,ro⟩:=Zo4 h
theorem Zgp {i j:Nat} {ta:TA} (h:JA K ta Δ fun ds Δ1=>∃ d e,ds=[d,e]/\nx ((Δ1.set i (.val d)).set j (.val e))):JS K (tPar i j ta) Δ ⟨nx,rt,bk,ct,ro⟩:=Zoc h
theorem Zrs {te:TE} {t:TG} (h:JE K te Δ fun d Δ1=>JG K t d Δ1 nx):JS K (tAsg te t) Δ ⟨nx,rt,bk,ct,ro⟩:=Zro h
theorem Zez {n:Nat} {te:TE} {x:Slot} {ds0:List D} (hx:Δ[n]? = some x) (ho:x.od=some (.lst ds0))
  (h:JE K te Δ fun d Δ1=>∃ y ds,Δ1[n]? = some y/\y.od=some (.lst ds)/\ds.length < sizeLine/\nx (Δ1.set n (y.put (.lst (ds ++ [d]))))) :
  JS K (tDrop (tBM K "list" rAppend (tVar n) (tCons te tNil))) Δ ⟨nx,rt,bk,ct,ro⟩:=Zr4 hx ho h
theorem Zmo {n:Nat} {ti te:TE} (h:JE K te Δ fun d Δ1=>(∃ x ds,Δ1[n]? = some x/\x.od=some (.lst ds))/\JE K ti Δ1 fun e Δ2=>∃ x ds i j,Δ2[n]? = some x/\x.od=some (.lst ds)/\e=.int i/\ixN ds.length i=some j/\nx (Δ2.set n (x.put (.lst (ds.set j d))))) :
  JS K (tAsg te (gSub (tVar n) ti rSetU)) Δ ⟨nx,rt,bk,ct,ro⟩:=Zle (h.mono fun d Δ1 ⟨⟨x,ds,h1,h2⟩,h3⟩=>⟨⟨x,_,h1,h2⟩,h3⟩)
theorem Zjz {n:Nat} {ti te:TE} (h:JE K te Δ fun d Δ1=>(∃ x kvs,Δ1[n]? = some x/\x.od=some (.dct kvs))/\JE K ti Δ1 fun e Δ2=>∃ x kvs i,Δ2[n]? = some x/\x.od=some (.dct kvs)/\e=.int i/\kvs.length < sizeLine/\nx (Δ2.set n (x.put (.dct (putD kvs (.inl i) d))))) :
  JS K (tAsg te (gSub (tVar n) ti rSetU)) Δ ⟨nx,rt,bk,ct,ro⟩:=Zpt (h.mono fun d Δ1 ⟨⟨x,ds,h1,h2⟩,h3⟩=>⟨⟨x,_,h1,h2⟩,h3⟩)
theorem Zef {wi:TI} {t:TG} {tb:TS} (h:JI K wi Δ fun ds Δ1=>∃ I:Nat->Evt->Prop,I 0 Δ1/\(∀ i d Δ2,ds[i]? = some d->I i Δ2->JG K t d Δ2 fun Δ3=>JS K tb Δ3 ⟨I (i + 1),rt,nx,I (i + 1),ro⟩)/\∀ Δ2,I ds.length Δ2->nx Δ2) :
  JS K (tFor wi t tb) Δ ⟨nx,rt,bk,ct,ro⟩:=Zqb h
theorem Zh5 {c:TT} {tb:TS} (I:Nat->Evt->Prop) (h0:∃ m,I m Δ) (ht:∀ m Δ1,I m Δ1->JT K c Δ1 fun b Δ2=>if b=true then JS K tb Δ2 ⟨fun Δ3=>∃ m',m' < m/\I m' Δ3,rt,nx,fun Δ3=>∃ m',m' < m/\I m' Δ3,ro⟩ else nx Δ2) :
  JS K (tWhile c tb) Δ ⟨nx,rt,bk,ct,ro⟩:=Zl4 I h0 ht
end
theorem Zjm {α β:Type} {f:α -> β} {xs:List α} {i:Int} (h0:0<=i) (h1:i < (xs.length:Int)):∃ c,xs[i.toNat]? = some c/\atI (xs.map f) i=some (f c):=by
 have hk:i.toNat < xs.length:=by omega
 have e:i=((i.toNat:Nat):Int):=by omega
 have q:xs[i.toNat]? = some xs[i.toNat]:=List.getElem?_eq_getElem hk
 generalize xs[i.toNat]=c at q
 refine ⟨c,q,?_⟩
 have z:atI (xs.map f) ((i.toNat:Nat):Int)=some (f c):=Zbi (by rw [List.getElem?_map,q]; rfl)
 rw [<- e] at z
 exact z
theorem Zko:bootBuiltins "abs" = some (.builtin "abs"):=by decide +kernel
theorem Zbs:bootBuiltins "len" = some (.builtin "len"):=by decide +kernel
theorem Zng:bootBuiltins "min" = some (.builtin "min"):=by decide +kernel
theorem Zr1:bootBuiltins "max" = some (.builtin "max"):=by decide +kernel
theorem Za5:bootBuiltins "isinstance" = some (.builtin "isinstance"):=by decide +kernel
theorem Zqz:bootBuiltins "all" = some (.builtin "all"):=by decide +kernel
theorem Zga:bootBuiltins "sorted" = some (.builtin "sorted"):=by decide +kernel
theorem Zbh:bootBuiltins "tuple" = some (.type "tuple"):=by decide +kernel
theorem Zki:bootBuiltins "list" = some (.type "list"):=by decide +kernel
theorem Zrp:bootBuiltins "set" = some (.type "set"):=by decide +kernel
theorem Zqk:bootBuiltins "int" = some (.type "int"):=by decide +kernel
theorem Zo3:bootBuiltins "bool" = some (.type "bool"):=by decide +kernel
theorem Zr6:bootBuiltins "zip" = some (.type "zip"):=by decide +kernel
structure Callee (P:Program) (w:World) (K:PySem.W.Frag) (mg:Str->Option Value) (base:Heap) (k:Nat) (x:Str) (ps:List Str) (sp:Sp):Prop where
 ex:∃ (f:Addr) (fd:FuncData),FnOk P w K mg base CX0 k f fd ps sp/\Binds K fd ps []/\PySem.W.keepIn K (.ref f)=true/\mg x=some (.ref f)
section
variable {X:Cx} {k:Nat} {x:Str} {ps:List Str} {sp:Sp} {e:Expr} {es:List Expr} {t:TA} {p pos:Pos}
theorem Zay (C:Callee X.prog X.w X.K X.mg X.base k x ps sp) (hr:Room k X.A) (ha:PA X (e :: es) t) (hg:Gl X x:=by rfl) (hdb:(x == ("__debug__":Str))=false:=by decide)
  (he:starEach (e :: es) X.env=(false,eval e X.env) :: starEach es X.env:=by rfl) (hpl:(backTo pos (starEach es X.env)).any (·.1)=false:=by rfl):PE X (.Call (.Name x p) (e :: es) [] pos) (tCall sp [] E0 t):=by
 obtain ⟨f,fd,F,b,kp,m⟩:=C.ex
 exact Zok F hr hg m kp b .nil pass0 ha hdb he hpl
end
end L2
set_option Elab.async false
set_option linter.all false
set_option maxRecDepth 100000
namespace L2
open PySem PySem.Spec PyProof.Rows
def fixD (sel:List Nat) (Δ:Evt):Evt:=sel.map fun i=>(Δ[i]?).getD .any
theorem Zcp {n:Nat} {sel:List Nat} {ts Δ:Evt} (ht:ts.length=n):backD n sel (ts ++ fixD sel Δ) 0 Δ = Δ:=by
 apply List.ext_getElem?
 intro i
 rw [Zbw]
 cases q:Δ[i]? with
 | none=>rfl
 | some x=>
  show some (backAt n sel (ts ++ fixD sel Δ) (0 + i) x)=some x
  congr 1
  rw [Nat.zero_add]
  have key:∀ j,sel.idxOf? i=some j->(ts ++ fixD sel Δ)[n + j]? = some x:=fun j hj=>by
   rw [List.getElem?_append_right (by omega),ht,Nat.add_sub_cancel_left]
   unfold fixD
   rw [List.getElem?_map,Zda hj]
   show some ((Δ[i]?).getD .any)=_
   rw [q]; rfl
  unfold backAt
  cases x with
  | any=>rfl
  | val d=>rfl
  | own o=>
   dsimp only
   cases e:sel.idxOf? i with
   | none=>rfl
   | some j=>dsimp only; rw [key j e]
  | bor o=>
   dsimp only
   cases e:sel.idxOf? i with
   | none=>rfl
   | some j=>dsimp only; rw [key j e]
  | ownA a o=>
   dsimp only
   cases e:sel.idxOf? i with
   | none=>rfl
   | some j=>dsimp only; rw [key j e]
section
variable {K:PySem.W.Frag} {Δ:Evt} {P:D->Evt->Prop}
theorem Zdq {sel:List Nat} {wi:TI} {tc:TT} {te:TE} (hsel:sel.Nodup)
  (h:JI K wi Δ fun ds Δ1=>ds.length < sizeLine/\∃ (p:D->Bool) (f:D->D),
   (∀ (i:Nat) d,ds[i]? = some d->JT K tc (.val d :: fixD sel Δ1) fun b Δ4=>b=p d/\if b=true then JE K te Δ4 fun e Δ5=>e=f d/\∃ x,Δ5=x :: fixD sel Δ1 else ∃ x,Δ4=x :: fixD sel Δ1) ∧
   P (.lst ((ds.filter p).map f)) Δ1):JE K (tComp 1 sel wi (gName 0) tc te) Δ P:=by
 refine Zhg hsel fun g G H σ R k c=>h g G H σ R k fun J ds G' H' Δ' k' s' it ⟨z,p,f,ht,he⟩=>c J ds G' H' Δ' k' s' it ⟨z,fixD sel Δ',p,f,rfl,fun i d ts hd hts=>?_,?_⟩
 ·refine Zdh (by decide) ?_
  obtain ⟨x,rfl⟩:∃ x,ts=[x]:=by
   match ts,hts with
   | [x],_=>exact ⟨x,rfl⟩
  intro g G H σ Q k c
  refine ht i d hd g G H σ Q k fun b G1 H1 Δ1 k1 s1 ⟨e1,q⟩=>c b G1 H1 Δ1 k1 s1 ⟨e1,?_⟩
  cases b with
  | true=>
   rw [if_pos rfl] at q ⊢
   exact q.mono fun e Δ5 ⟨e2,x,e3⟩=>⟨e2,[x],rfl,e3⟩
  | false=>
   rw [if_neg Bool.false_ne_true] at q ⊢
   obtain ⟨x,e3⟩:=q
   exact ⟨[x],rfl,e3⟩
 ·rw [Zcp (by simp)]; exact he
theorem Zhz {sel:List Nat} {wi:TI} {tc:TT} {te:TE} {Po:OD->Evt->Prop} (hsel:sel.Nodup)
  (h:JI K wi Δ fun ds Δ1=>ds.length < sizeLine/\∃ (p:D->Bool) (f:D->D),
   (∀ (i:Nat) d,ds[i]? = some d->JT K tc (.val d :: fixD sel Δ1) fun b Δ4=>b=p d/\if b=true then JE K te Δ4 fun e Δ5=>e=f d/\∃ x,Δ5=x :: fixD sel Δ1 else ∃ x,Δ4=x :: fixD sel Δ1) ∧
   Po (.lst ((ds.filter p).map f)) Δ1):JO K (tComp 1 sel wi (gName 0) tc te) Δ Po:=by
 refine Zj7 hsel fun g G H σ R k c=>h g G H σ R k fun J ds G' H' Δ' k' s' it ⟨z,p,f,ht,he⟩=>c J ds G' H' Δ' k' s' it ⟨z,fun i ys Δ=>ys=((ds.take i).filter p).map f/\∃ x,Δ = x :: fixD sel Δ',⟨by simp,.any,rfl⟩,?_,?_⟩
 ·rintro i d ys Δ2 hd ⟨rfl,x,rfl⟩
  have tk:ds.take (i + 1)=ds.take i ++ [d]:=by
   rw [List.take_add_one,hd]; rfl
  refine Zdh (by decide) ?_
  intro g G H σ Q k c
  refine ht i d hd g G H σ Q k fun b G1 H1 Δ1 k1 s1 ⟨e1,q⟩=>c b G1 H1 Δ1 k1 s1 ?_
  cases b with
  | true=>
   rw [if_pos rfl] at q ⊢
   refine q.mono fun e Δ5 ⟨e2,x,e3⟩=>⟨?_,x,e3⟩
   rw [tk,List.filter_append,List.map_append,List.filter_cons,<- e1,e2]
   rfl
  | false=>
   rw [if_neg Bool.false_ne_true] at q ⊢
   obtain ⟨x,e3⟩:=q
   refine ⟨?_,x,e3⟩
   rw [tk,List.filter_append,List.map_append,List.filter_cons,<- e1]
   simp
 ·rintro ys Δ2 ⟨rfl,x,rfl⟩
  rw [List.take_length,show (x :: fixD sel Δ')=[x] ++ fixD sel Δ' from rfl,Zcp (by simp)]
  exact he
theorem Zhq {sel:List Nat} {wi:TI} {tc:TT} {te:TE} (hsel:sel.Nodup)
  (h:JI K wi Δ fun ds Δ1=>ds.length < sizeLine/\∃ (p:D->Bool) (f:D->D),
   (∀ (i:Nat) d,ds[i]? = some d->∃ a b,d=.tup [a,b]/\JT K tc (.val a :: .val b :: fixD sel Δ1) fun t Δ4=>t=p d/\if t=true then JE K te Δ4 fun e Δ5=>e=f d/\∃ x y,Δ5=x :: y :: fixD sel Δ1 else ∃ x y,Δ4=x :: y :: fixD sel Δ1) ∧
   P (.lst ((ds.filter p).map f)) Δ1):JE K (tComp 2 sel wi (gTup K 2 (gCons (gName 0) (gCons (gName 1) gNil))) tc te) Δ P:=by
 refine Zhg hsel fun g G H σ R k c=>h g G H σ R k fun J ds G' H' Δ' k' s' it ⟨z,p,f,ht,he⟩=>c J ds G' H' Δ' k' s' it ⟨z,fixD sel Δ',p,f,rfl,fun i d ts hd hts=>?_,?_⟩
 ·obtain ⟨a,b,rfl,hj⟩:=ht i d hd
  refine Zpe rfl (Zf6 (Zdh (by decide) (Zf6 (Zdh (by decide) (Zmu ?_)))))
  obtain ⟨x,y,rfl⟩:∃ x y,ts=[x,y]:=by
   match ts,hts with
   | [x,y],_=>exact ⟨x,y,rfl⟩
  intro g G H σ Q k c
  refine hj g G H σ Q k fun b G1 H1 Δ1 k1 s1 ⟨e1,q⟩=>c b G1 H1 Δ1 k1 s1 ⟨e1,?_⟩
  cases b with
  | true=>
   rw [if_pos rfl] at q ⊢
   exact q.mono fun e Δ5 ⟨e2,x,y,e3⟩=>⟨e2,[x,y],rfl,e3⟩
  | false=>
   rw [if_neg Bool.false_ne_true] at q ⊢
   obtain ⟨x,y,e3⟩:=q
   exact ⟨[x,y],rfl,e3⟩
 ·rw [Zcp (by simp)]; exact he
end
end L2
set_option Elab.async false
set_option linter.all false
set_option maxRecDepth 100000
namespace L2
open PySem PySem.Spec PyProof.Rows
def tGhost (base:Nat) (t:TS):TS:=fun E σ H=>t { E with nx:=fun σ' H'=>∃ σ2:St,σ2.length = σ'.length/\(∀ i,i < base -> σ2[i]? = σ'[i]?)/\E.nx σ2 H' } σ H
theorem Zl2 {X:Cx} {st:Stmt} {t:TS} (base:Nat) (hv:∀ x ∈ X.N.drop base,X.env.scope.names.lookup x=none) (h:PS X st t):PS X st (tGhost base t):=by
 intro pins s σ H E I hw
 refine thn (h pins s σ H _ I hw) fun f s1 q=>?_
 cases f with
 | next=>
  obtain ⟨σ',H',I',σ2,hl,hs,q⟩:=q
  refine ⟨σ2,H',⟨I'.ok,I'.os,I'.bare,I'.base,?_,I'.cell,I'.free,I'.freeC,I'.pin,I'.hok,hl.trans I'.len⟩,q⟩
  obtain ⟨m,hn,hl'⟩:=I'.loc
  refine ⟨m,hn,fun i x v e1 e2 e3=>?_⟩
  by_cases hi:i < base
  ·rw [hs i hi] at e2; exact hl' i x v e1 e2 e3
  ·have hm:x ∈ X.N.drop base:=by
    refine List.mem_of_getElem? (i:=i - base) ?_
    rw [List.getElem?_drop,show base + (i - base)=i by omega]; exact e1
   have z:=hv x hm
   rcases e3 with w | w | w <;> (rw [z] at w; cases w)
 | ret v=>exact q
 | brk=>exact q
 | cont=>exact q
def Nest (K:PySem.W.Frag) (g:Gm) (G H:Hp) (σ:St) (Δ:Evt) (cs:List (Addr × HO)) (ods:List OD):Prop:=
 (cs.map (·.1)).Nodup/\Paired (fun (c:Addr × HO) (od:OD)=>OwnRep K G c.2 od) cs ods/\∀ c ∈ cs,H c.1=some c.2/\G c.1=none/\g.Hz c.1=none/\g.Xo c.1=none/\∀ (i:Nat) x od',Δ[i]? = some x->x.od=some od' -> σ[i]? ≠ some (some (.ref c.1))
def JN (K:PySem.W.Frag) (t:TE) (Δ:Evt) (P:List OD->Evt->Prop):Prop:=
 ∀ g G H σ Q,Ok K g G H σ Δ -> (∀ acc cs ods G' H' Δ',Ok K g G' H' σ Δ' -> Same G G' -> Rep K G' (.ref acc) (.lst (cs.map fun (c:Addr × HO)=>D.adr c.1))->g.Hz acc=none->Nest K g G' H' σ Δ' cs ods->P ods Δ' -> Q (.ref acc) H')->t σ H Q
section
variable {K:PySem.W.Frag} {Δ:Evt}
def cellAt (cs:List (Addr × HO)) (b:Addr):Option HO:=(cs.find? fun c=>decide (c.1=b)).map (·.2)
theorem Zcz {cs:List (Addr × HO)} {b:Addr}:cellAt cs b=none ↔ ∀ c ∈ cs,c.1 ≠ b:=by
 unfold cellAt
 rw [Option.map_eq_none_iff,List.find?_eq_none]
 constructor
 ·intro h c hc e; exact h c hc (decide_eq_true e)
 ·intro h c hc e; exact h c hc (of_decide_eq_true e)
theorem Ze5 {cs:List (Addr × HO)} (nd:(cs.map (·.1)).Nodup) {c:Addr × HO} (hc:c ∈ cs):cellAt cs c.1=some c.2:=by
 induction cs with
 | nil=>cases hc
 | cons d r ih=>
  rw [List.map_cons,List.nodup_cons] at nd
  unfold cellAt
  rcases List.mem_cons.mp hc with e | hc
  ·subst e; simp
  ·have hne:d.1 ≠ c.1:=fun e=>nd.1 (by rw [e]; exact List.mem_map.mpr ⟨c,hc,rfl⟩)
   rw [List.find?_cons_of_neg (by simpa using hne)]
   exact ih nd.2 hc
open Classical in
noncomputable def asideN (g:Gm) (sel:List Nat) (σ:St) (Δ:Evt) (H:Hp) (acc:Addr) (cs:List (Addr × HO)):Hp:=fun b=>
 if b=acc then some (.lst (cs.map fun c=>V.ref c.1)) else match cellAt cs b with
  | some o=>some o
  | none=>if ∃ (i:Nat) (x:Slot) (od:OD),Δ[i]? = some x/\x.od=some od/\i ∉ sel /\ σ[i]? = some (some (.ref b)) then H b else g.Xo b
theorem Zb2 {g:Gm} {sel:List Nat} {σ:St} {Δ:Evt} {H:Hp} {acc:Addr} {cs:List (Addr × HO)}:asideN g sel σ Δ H acc cs acc=some (.lst (cs.map fun c=>V.ref c.1)):=by unfold asideN; rw [if_pos rfl]
theorem Zbr {g:Gm} {sel:List Nat} {σ:St} {Δ:Evt} {H:Hp} {acc b:Addr} {o:HO} {cs:List (Addr × HO)} (hb:b ≠ acc) (e:cellAt cs b=some o):asideN g sel σ Δ H acc cs b=some o:=by unfold asideN; rw [if_neg hb,e]
theorem Zby {g:Gm} {sel:List Nat} {σ:St} {Δ:Evt} {H:Hp} {acc b:Addr} {cs:List (Addr × HO)} (hb:b ≠ acc) (e:cellAt cs b=none) (hx:∃ (i:Nat) (x:Slot) (od:OD),Δ[i]? = some x/\x.od=some od/\i ∉ sel /\ σ[i]? = some (some (.ref b))):asideN g sel σ Δ H acc cs b=H b:=by
 unfold asideN; rw [if_neg hb,e]; exact if_pos hx
theorem Zbl {g:Gm} {sel:List Nat} {σ:St} {Δ:Evt} {H:Hp} {acc b:Addr} {cs:List (Addr × HO)} (hb:b ≠ acc) (e:cellAt cs b=none) (hx:¬ ∃ (i:Nat) (x:Slot) (od:OD),Δ[i]? = some x/\x.od=some od/\i ∉ sel /\ σ[i]? = some (some (.ref b))):asideN g sel σ Δ H acc cs b=g.Xo b:=by
 unfold asideN; rw [if_neg hb,e]; exact if_neg hx
theorem Zos {n:Nat} {sel:List Nat} {wi:TI} {t:TG} {tc:TT} {te:TE} {P:List OD->Evt->Prop} (hsel:sel.Nodup)
  (h:JI K wi Δ fun ds Δ1=>ds.length < sizeLine/\∃ I:Nat->List OD->Evt->Prop,I 0 [] (compD n sel Δ1) ∧
   (∀ i d ys Δ2,ds[i]? = some d->I i ys Δ2->JGn K n t d Δ2 fun Δ3=>JT K tc Δ3 fun b Δ4=>if b=true then JO K te Δ4 fun e Δ5=>I (i + 1) (ys ++ [e]) Δ5 else I (i + 1) ys Δ4) ∧
   ∀ ys Δ2,I ds.length ys Δ2->P ys (backD n sel Δ2 0 Δ1)):JN K (tComp n sel wi t tc te) Δ P:=fun g G H σ Q k c=>
 h g G H σ _ k fun J ds G1 H1 Δ1 k1 s1 it ⟨hz,I,h0,ht,he⟩ acc hacc=>by
  have nacc:∀ (i:Nat) x od,Δ1[i]? = some x->x.od=some od -> σ[i]? ≠ some (some (.ref acc)):=fun i x od e1 e2 e3=>by
   obtain ⟨a,o,w1,w2,_⟩:=k1.own i x od e1 e2
   rw [e3] at w1; cases w1
   rw [hacc] at w2; cases w2
  let Wd:Nat->St->Hp->Prop:=fun i σ' H'=>i<=ds.length/\(∀ j,n<=j -> σ'[j]? = (compSt n sel σ)[j]?)/\∃ G ys cs Δi,cs.length<=i/\(cs.map (·.1)).Nodup/\(∀ c ∈ cs,c.1 ≠ acc/\g.Hz c.1=none/\g.Xo c.1=none/\∀ (i:Nat) x od,Δ1[i]? = some x->x.od=some od->i ∉ sel -> σ[i]? ≠ some (some (.ref c.1)))/\Paired (fun (c:Addr × HO) (od:OD)=>OwnRep K G c.2 od) cs ys ∧
   Ok K ⟨g.B,G1,g.Hz,asideN g sel σ Δ1 H1 acc cs⟩ G H' σ' Δi/\I i ys Δi
  refine ⟨fun i m σ' H'=>m=ds.length - i/\Wd i σ' H',⟨ds.length,by simp,Nat.zero_le _,fun _ _=>rfl,G1,[],[],compD n sel Δ1,Nat.le_refl _,List.nodup_nil,fun c hc=>(nomatch hc),.nil,?_,h0⟩,?_⟩
  ·refine Ze1 hsel k1 hacc fun b o e=>?_
   have e:asideN g sel σ Δ1 H1 acc [] b=some o:=e
   by_cases hb:b=acc
   ·subst hb; rw [Zb2] at e; cases e; exact .inl ⟨rfl,rfl⟩
   ·by_cases hx:∃ (i:Nat) (x:Slot) (od:OD),Δ1[i]? = some x/\x.od=some od/\i ∉ sel /\ σ[i]? = some (some (.ref b))
    ·rw [Zby hb rfl hx] at e; exact .inr ⟨hb,.inl ⟨hx,e⟩⟩
    ·rw [Zbl hb rfl hx] at e; exact .inr ⟨hb,.inr e⟩
  ·rintro i m σ2 H2 ⟨rfl,hi,hσ,G2,ys,cs,Δ2,hy,nd,hcs,ry,k2,h2⟩
   have s2:Same G1 G2:=k2.sub
   obtain ⟨stop,go⟩:=it G2 H2 s2 k2.live
   by_cases hlt:i < ds.length
   ·obtain ⟨g1,g2⟩:=go i _ (List.getElem?_eq_getElem hlt)
    refine .inr ⟨g1,fun σ' H'=>Wd (i + 1) σ' H',fun σ' H' p'=>⟨ds.length - (i + 1),by omega,rfl,p'⟩,fun x H3 y=>?_⟩
    obtain ⟨G3,a1,a2,a3,a4⟩:=g2 x H3 y
    have k3:=k2.grow a1 a2 a3
    have hG3:∀ b o,G3 b=some o->(g.Hz b=none\/G1 b=some o):=fun b o q=>(k3.frz b o q).2
    have k3':Ok K ⟨g.B,G3,g.Hz,asideN g sel σ Δ1 H1 acc cs⟩ G3 H3 σ2 Δ2:=⟨k3.same,k3.lent,Same.refl _,fun b o q=>⟨(k3.frz b o q).1,.inr q⟩,k3.ext,k3.len,k3.val,k3.own,k3.dis⟩
    have ry3:Paired (fun (c:Addr × HO) (od:OD)=>OwnRep K G3 c.2 od) cs ys:=Paired.mapP ry fun _ _ z=>z.mono a1
    have s13:Same G1 G3:=s2.trans a1
    refine ht i _ ys Δ2 (List.getElem?_eq_getElem hlt) h2 ⟨g.B,G3,g.Hz,asideN g sel σ Δ1 H1 acc cs⟩ G3 H3 σ2 x _ k3' a4 fun σ4 G4 H4 Δ4 k4 s4 e4 p4=>?_
    have hσ4:∀ j,n<=j -> σ4[j]? = (compSt n sel σ)[j]?:=fun j hj=>(e4 j hj).trans (hσ j hj)
    refine p4 _ G4 H4 σ4 _ k4 fun b G5 H5 Δ5 k5 s5 p5=>?_
    cases b with
    | false=>exact ⟨hlt,hσ4,G5,ys,cs,Δ5,by omega,nd,hcs,Paired.mapP ry3 fun _ _ z=>z.mono (s4.trans s5),k5.base s13 hG3,p5⟩
    | true=>
     refine (show JO K te Δ5 _ from p5) _ G5 H5 σ4 _ k5 fun a od G6 H6 Δ6 k6 s6 pd p6=>?_
     have ry6:Paired (fun (c:Addr × HO) (od:OD)=>OwnRep K G6 c.2 od) cs ys:=Paired.mapP ry3 fun _ _ z=>z.mono (s4.trans (s5.trans s6))
     obtain ⟨b1,b2,b3⟩:=k6.ext acc _ Zb2
     obtain ⟨oa,d1,d2,d3,d4,d5,d6⟩:=pd
     have d5:asideN g sel σ Δ1 H1 acc cs a=none:=d5
     have hane:a ≠ acc:=by intro z; subst z; rw [Zb2] at d5; cases d5
     have hac:cellAt cs a=none:=by
      cases q:cellAt cs a with
      | none=>rfl
      | some o=>rw [Zbr hane q] at d5; cases d5
     have hax:∀ (i:Nat) x od,Δ1[i]? = some x->x.od=some od->i ∉ sel -> σ[i]? ≠ some (some (.ref a)):=fun i x od e1 e2 e3 e4=>by
      rw [Zby hane hac ⟨i,x,od,e1,e2,e3,e4⟩] at d5
      obtain ⟨a',o',w1,w2,_⟩:=k1.own i x od e1 e2
      rw [e4] at w1; cases w1
      rw [d5] at w2; cases w2
     have hagx:g.Xo a=none:=by
      rw [Zbl hane hac (fun ⟨i,x,od,e1,e2,e3,e4⟩=>hax i x od e1 e2 e3 e4)] at d5; exact d5
     have hnm:=Zcz.mp hac
     refine ⟨cs.map fun c=>V.ref c.1,b1,by rw [List.length_map]; omega,hlt,hσ4,G6,ys ++ [od],cs ++ [(a,oa)],Δ6,by rw [List.length_append,List.length_singleton]; omega,?_,fun c hc=>?_,Paired.snoc ry6 d2,?_,p6⟩
     ·rw [List.map_append]
      refine List.nodup_append.mpr ⟨nd,by simp,fun x hx y hy=>?_⟩
      rw [List.map_singleton,List.mem_singleton] at hy
      subst hy
      obtain ⟨c,hc,rfl⟩:=List.mem_map.mp hx
      exact hnm c hc
     ·rcases List.mem_append.mp hc with hc | hc
      ·exact hcs c hc
      ·rw [List.mem_singleton.mp hc]; exact ⟨hane,d4,hagx,hax⟩
     ·have k7:=k6.base s13 hG3
      have nd':((cs ++ [(a,oa)]).map (·.1)).Nodup:=by
       rw [List.map_append]
       refine List.nodup_append.mpr ⟨nd,by simp,fun x hx y hy=>?_⟩
       rw [List.map_singleton,List.mem_singleton] at hy
       subst hy
       obtain ⟨c,hc,rfl⟩:=List.mem_map.mp hx
       exact hnm c hc
      have er:(cs ++ [(a,oa)]).map (fun c=>V.ref c.1)=(cs.map fun c=>V.ref c.1) ++ [V.ref a]:=by simp
      have oldH:∀ b o,b ≠ acc->H6 b=some o->(upd H6 acc (.lst ((cs.map fun c=>V.ref c.1) ++ [V.ref a]))) b=some o:=fun b o hb e=>by rw [Zak hb]; exact e
      refine ⟨fun b o hb e=>?_,fun b hb=>?_,k7.sub,fun b o e=>?_,fun b o e=>?_,k7.len,k7.val,fun i x od e1 e2=>?_,k7.dis⟩
      ·have hne:b ≠ acc:=by
        intro z; subst z
        have e:g.Hz b=some o:=e
        rw [k1.there hacc] at e; cases e
       exact oldH b o hne (k7.same b o hb e)
      ·by_cases hne:b=acc
       ·subst hne; rw [Zam]; intro z; cases z
       ·rw [Zak hne]; exact k7.lent b hb
      ·have hne:b ≠ acc:=by intro z; subst z; rw [b2] at e; cases e
       exact ⟨oldH b o hne (k7.frz b o e).1,(k7.frz b o e).2⟩
      ·have e:asideN g sel σ Δ1 H1 acc (cs ++ [(a,oa)]) b=some o:=e
       by_cases hne:b=acc
       ·subst hne
        rw [Zb2,er] at e
        cases e
        exact ⟨Zam,b2,b3⟩
       ·by_cases hba:b=a
        ·subst hba
         rw [Zbr hne (Ze5 nd' (c:=(b,oa)) (List.mem_append_right _ (List.mem_singleton.mpr rfl)))] at e
         cases e
         exact ⟨oldH b _ hne d1,d3,d6⟩
        ·have ec:cellAt (cs ++ [(a,oa)]) b=cellAt cs b:=by
          unfold cellAt
          rw [List.find?_append]
          cases (cs.find? fun c=>decide (c.1=b)) with
          | some c=>rfl
          | none=>
           rw [List.find?_cons_of_neg (by simpa using Ne.symm hba)]
           rfl
         have e':asideN g sel σ Δ1 H1 acc cs b=some o:=by
          cases q:cellAt cs b with
          | some o'=>rw [Zbr hne (ec.trans q)] at e; rw [Zbr hne q]; exact e
          | none=>
           by_cases hx:∃ (i:Nat) (x:Slot) (od:OD),Δ1[i]? = some x/\x.od=some od/\i ∉ sel /\ σ[i]? = some (some (.ref b))
           ·rw [Zby hne (ec.trans q) hx] at e; rw [Zby hne q hx]; exact e
           ·rw [Zbl hne (ec.trans q) hx] at e; rw [Zbl hne q hx]; exact e
         obtain ⟨w1,w2,w3⟩:=k7.ext b o e'
         exact ⟨oldH b o hne w1,w2,w3⟩
      ·obtain ⟨a',o,w1,w2,w3,w4,w5⟩:=k7.own i x od e1 e2
       have hne:a' ≠ acc:=by intro z; subst z; exact b3 i x od e1 e2 w1
       exact ⟨a',o,w1,oldH a' o hne w2,w3,w4,w5⟩
   ·have e:i=ds.length:=by omega
    subst e
    refine .inl ⟨stop,?_⟩
    obtain ⟨b1,b2,b3⟩:=k2.ext acc _ Zb2
    have src:=Zfu (Δ1:=Δ1) (Δ2:=Δ2) hσ
    have k9:Ok K g G2 H2 σ (backD n sel Δ2 0 Δ1):=Zee k1 hacc k2 hσ (fun b o hb hx e=>by
      show asideN g sel σ Δ1 H1 acc cs b=_
      rw [Zby hb (Zcz.mpr fun c hc z=>?_) hx]
      ·exact e
      ·obtain ⟨i0,x0,od0,f1,f2,f3,f4⟩:=hx
       exact (hcs c hc).2.2.2 i0 x0 od0 f1 f2 f3 (by rw [z]; exact f4)) (fun b o hb hx e=>by
      show asideN g sel σ Δ1 H1 acc cs b=_
      rw [Zbl hb (Zcz.mpr fun c hc z=>?_) hx]
      ·exact e
      ·have:=(hcs c hc).2.2.1; rw [z,e] at this; cases this)
    -- the outer list is frozen
    have nslot:∀ (i:Nat) y od,(backD n sel Δ2 0 Δ1)[i]? = some y->y.od=some od -> σ[i]? ≠ some (some (.ref acc)):=fun i y od e1 e2=>by
     obtain ⟨x',od1,f1,f2,_⟩:=src i y od e1 e2
     exact nacc i x' od1 f1 f2
    have refs:∀ {G:Hp} (l:List (Addr × HO)),Reps K G (l.map fun c=>V.ref c.1) (l.map fun c=>D.adr c.1):=fun {G} l=>by
     induction l with
     | nil=>exact .nil
     | cons c r ih=>exact .cons (.adr _) ih
    have gX:g.Xo acc=none:=by
     cases q:g.Xo acc with
     | none=>rfl
     | some u=>have z:=(k1.ext acc u q).1; rw [hacc] at z; cases z
    obtain ⟨kf,sf,rf⟩:=k9.freeze (a:=acc) (ds:=cs.map fun (c:Addr × HO)=>D.adr c.1) (vs:=cs.map fun (c:Addr × HO)=>V.ref c.1) ⟨_,b1,(show Reps K G2 (cs.map fun (c:Addr × HO)=>V.ref c.1) (cs.map fun (c:Addr × HO)=>D.adr c.1) from refs cs),b2,k1.there hacc,gX,nslot⟩ b1
    refine c acc cs ys _ H2 _ kf (s1.trans (s2.trans sf)) rf (k1.there hacc) ⟨nd,Paired.mapP ry fun _ _ z=>z.mono sf,fun cc hc=>?_⟩ (he ys Δ2 h2)
    obtain ⟨f1,f2,f3,f4⟩:=hcs cc hc
    obtain ⟨u1,u2,u3⟩:=k2.ext cc.1 cc.2 (Zbr f1 (Ze5 nd hc))
    refine ⟨u1,by rw [Zak f1]; exact u2,f2,f3,fun i y od e1 e2 e3=>?_⟩
    obtain ⟨x,od',w1,w2,w3⟩:=src i y od e1 e2
    rcases w3 with ⟨w3,w4⟩ | ⟨j,w3,w4,w5⟩
    ·exact f4 i x od' w1 w2 w4 e3
    ·exact u3 (n + j) y od w4 e2 (by rw [w5,e3]; rfl)
def putN:Nat->List (Addr × OD)->Evt->Evt
 | _,[],Δ=>Δ
 | b,c :: r,Δ=>putN (b + 1) r (Δ.set b (.ownA c.1 c.2))
def putS:Nat->List Addr->St->St
 | _,[],σ=>σ
 | b,a :: r,σ=>putS (b + 1) r (σ.set b (some (.ref a)))
theorem Zhv:∀ (as:List Addr) (b:Nat) (σ:St),(putS b as σ).length = σ.length
 | [],_,_=>rfl
 | a :: r,b,σ=>by rw [putS,Zhv r (b + 1),List.length_set]
theorem Zey:∀ (as:List Addr) (b:Nat) (σ:St) (i:Nat),i < b->(putS b as σ)[i]? = σ[i]?
 | [],_,_,_,_=>rfl
 | a :: r,b,σ,i,h=>by rw [putS,Zey r (b + 1) _ i (by omega),List.getElem?_set_ne (by omega)]
theorem Ok.setOwnA {g:Gm} {G H:Hp} {σ:St} (k:Ok K g G H σ Δ) {a:Addr} {od:OD} {i:Nat} (hi:i < Δ.length) (p:Pend K g G H σ Δ a od):Ok K g G H (σ.set i (some (.ref a))) (Δ.set i (.ownA a od)):=by
 have k1:=k.setOwn hi p
 obtain ⟨o,p1,p2,p3,p4,p5,p6⟩:=p
 have hs:i < σ.length:=by rw [<- k.len]; exact hi
 have old:∀ (j:Nat) x,j ≠ i->(Δ.set i (.ownA a od))[j]? = some x->(Δ.set i (.own od))[j]? = some x:=fun j x hj e=>by
  rw [List.getElem?_set_ne (Ne.symm hj)] at e ⊢; exact e
 have cv:∀ (j:Nat) x od',(Δ.set i (.ownA a od))[j]? = some x->x.od=some od' -> ∃ y,(Δ.set i (.own od))[j]? = some y/\y.od=some od':=fun j x od' e1 e2=>by
  by_cases hj:j=i
  ·subst hj
   rw [List.getElem?_set_self hi] at e1
   cases e1; cases e2
   exact ⟨.own od,List.getElem?_set_self hi,rfl⟩
  ·exact ⟨x,old j x hj e1,e2⟩
 refine ⟨k1.same,k1.lent,k1.sub,k1.frz,fun b u e=>?_,by simp [k.len],fun j d e=>?_,fun j x od' e1 e2=>?_,fun j l x y od1 od2 c e1 e2 e3 e4 e5 e6=>?_⟩
 ·obtain ⟨h1,h2,h3⟩:=k1.ext b u e
  refine ⟨h1,h2,fun j x od' e1 e2=>?_⟩
  obtain ⟨y,f1,f2⟩:=cv j x od' e1 e2
  exact h3 j y od' f1 f2
 ·by_cases hj:j=i
  ·subst hj
   rw [List.getElem?_set_self hi] at e
   cases e
  ·exact k1.val j d (old j _ hj e)
 ·by_cases hj:j=i
  ·subst hj
   rw [List.getElem?_set_self hi] at e1
   cases e1; cases e2
   exact ⟨a,o,List.getElem?_set_self hs,p1,p2,p3,rfl,p4⟩
  ·exact k1.own j x od' (old j x hj e1) e2
 ·obtain ⟨x',f1,f2⟩:=cv j x od1 e1 e2
  obtain ⟨y',f3,f4⟩:=cv l y od2 e3 e4
  exact k1.dis j l x' y' od1 od2 c f1 f2 f3 f4 e5 e6
theorem Ok.putN {g:Gm} {G H:Hp}:∀ (cs:List (Addr × HO)) (ods:List OD) (b:Nat) (σ:St) (Δ:Evt),Ok K g G H σ Δ -> b + ods.length <= Δ.length->Nest K g G H σ Δ cs ods →
  Ok K g G H (putS b (cs.map (·.1)) σ) (L2.putN b ((cs.map (·.1)).zip ods) Δ)
 | [],[],_,_,_,k,_,_=>k
 | [],_ :: _,_,_,_,_,_,n=>by cases n.2.1
 | _ :: _,[],_,_,_,_,_,n=>by cases n.2.1
 | c :: cs,od :: ods,b,σ,Δ,k,hl,⟨nd,pr,al⟩=>by
  cases pr with
  | cons r t=>
   obtain ⟨h1,h2,h3,h4,h5⟩:=al c List.mem_cons_self
   rw [List.map_cons,List.nodup_cons] at nd
   have hb:b < Δ.length:=by rw [List.length_cons] at hl; omega
   have k1:=k.setOwnA hb ⟨c.2,h1,r,h2,h3,h4,h5⟩
   refine Ok.putN cs ods (b + 1) _ _ k1 (by rw [List.length_set]; rw [List.length_cons] at hl; omega) ⟨nd.2,t,fun d hd=>?_⟩
   obtain ⟨f1,f2,f3,f4,f5⟩:=al d (List.mem_cons_of_mem _ hd)
   have hne:d.1 ≠ c.1:=fun e=>nd.1 (by rw [<- e]; exact List.mem_map.mpr ⟨d,hd,rfl⟩)
   refine ⟨f1,f2,f3,f4,fun j x od' e1 e2=>?_⟩
   by_cases hj:j=b
   ·subst hj
    rw [List.getElem?_set_self (by rw [<- k.len]; exact hb)]
    intro z
    have:c.1=d.1:=by
     have z1:=Option.some.inj (Option.some.inj z)
     injection z1
    exact hne this.symm
   ·rw [List.getElem?_set_ne (Ne.symm hj)] at e1 ⊢
    exact f5 j x od' e1 e2
theorem Zju:∀ (l:List (Addr × OD)) (R T:Evt) (m:Nat),l.length<=m->L2.putN R.length l (R ++ List.replicate m Slot.any ++ T)=R ++ l.map (fun c=>Slot.ownA c.1 c.2) ++ List.replicate (m - l.length) Slot.any ++ T
 | [],R,T,m,_=>by simp [L2.putN]
 | c :: r,R,T,m,h=>by
  obtain ⟨m',rfl⟩:∃ m',m=m' + 1:=⟨m - 1,by rw [List.length_cons] at h; omega⟩
  have e:(R ++ List.replicate (m' + 1) Slot.any ++ T).set R.length (.ownA c.1 c.2)=(R ++ [.ownA c.1 c.2]) ++ List.replicate m' Slot.any ++ T:=by
   rw [List.replicate_succ]
   simp [List.set_append_right]
  rw [L2.putN,e]
  have:=Zju r (R ++ [.ownA c.1 c.2]) T m' (by rw [List.length_cons] at h; omega)
  rw [List.length_append,List.length_singleton] at this
  rw [this]
  simp
theorem Zp0 {te:TE} {i base:Nat} {nx bk ct:Evt->Prop} {rt:D->Evt->Prop} {ro:OD->Evt->Prop}
  (h:JN K te Δ fun ods Δ1=>i < base/\base + ods.length <= Δ1.length/\∀ as:List Addr,as.length=ods.length->as.Nodup->nx (L2.putN base (as.zip ods) (Δ1.set i (.val (.lst (as.map D.adr)))))) :
  JS K (tGhost base (tAsg te (gName i))) Δ ⟨nx,rt,bk,ct,ro⟩:=fun g G H σ E k c=>
 h g G H σ _ k fun acc cs ods G1 H1 Δ1 k1 s1 rr _ nn hq_=>by
  obtain ⟨hi,hb,p⟩:=hq_
  have hl:cs.length=ods.length:=Paired.length nn.2.1
  have e0:(cs.map fun c=>D.adr c.1)=(cs.map (·.1)).map D.adr:=by rw [List.map_map]; rfl
  have k2:=k1.setVal' i rr
  have n2:Nest K g G1 H1 (σ.set i (some (.ref acc))) (Δ1.set i (.val (.lst (cs.map fun c=>D.adr c.1)))) cs ods:=by
   obtain ⟨nd,pr,al⟩:=nn
   refine ⟨nd,pr,fun d hd=>?_⟩
   obtain ⟨f1,f2,f3,f4,f5⟩:=al d hd
   refine ⟨f1,f2,f3,f4,fun j x od' e1 e2=>?_⟩
   by_cases hj:j=i
   ·subst hj
    by_cases hlt:j < Δ1.length
    ·rw [List.getElem?_set_self hlt] at e1; cases e1; cases e2
    ·rw [List.getElem?_eq_none (by rw [List.length_set]; omega)] at e1; cases e1
   ·rw [List.getElem?_set_ne (Ne.symm hj)] at e1 ⊢
    exact f5 j x od' e1 e2
  have k3:=Ok.putN cs ods base _ _ k2 (by rw [List.length_set]; exact hb) n2
  refine ⟨putS base (cs.map (·.1)) (σ.set i (some (.ref acc))),Zhv _ _ _,fun j hj=>Zey _ _ _ j hj,?_⟩
  rw [e0] at k3
  exact c.nx _ G1 H1 _ k3 (p (cs.map (·.1)) (by rw [List.length_map,hl]) nn.1)
theorem Zkb {n j:Nat} {a:Addr} {ds:List D} {P:D->Evt->Prop} (hx:Δ[n]? = some (.val (.adr a))) (hj:Δ[j]? = some (.ownA a (.lst ds))) (p:P (.int ds.length) Δ):JE K (tCB (rLenU K) (tCons (tVar n) tNil)) Δ P:=fun g G H σ Q k c=>by
 obtain ⟨v,h1,h2⟩:=k.val n _ hx
 cases h2
 obtain ⟨a',o,w1,w2,w3,w4,w5⟩:=k.own j _ _ hj rfl
 obtain ⟨rfl,_⟩:=w5
 cases o with
 | lst vs=>
  have w3:Reps K G vs ds:=w3
  refine ⟨_,h1,.inl ⟨_,vs,rfl,.inl (SqL.of w2),?_⟩⟩
  rw [w3.length]; exact c _ _ G H Δ k (Same.refl _) (.int _) p
 | _=>exact absurd w3 (fun z=>z)
theorem Zon {n:Nat} {t1 t2:TE} {a:Addr} {j0:Nat} {ds0:List D} {nx bk ct:Evt->Prop} {rt:D->Evt->Prop} {ro:OD->Evt->Prop} (hx:Δ[n]? = some (.val (.adr a))) (hj0:Δ[j0]? = some (.ownA a (.lst ds0)))
  (h:JE K t1 Δ fun e1 Δ1=>JE K t2 Δ1 fun e2 Δ2=>∃ j i ds,e1=.int i /\ Δ2[j]? = some (.ownA a (.lst ds))/\ds.length < sizeLine /\ -(2 ^ 62)<=i/\i < 2 ^ 62/\nx (Δ2.set j (.ownA a (.lst (ds.take (insI ds.length i) ++ e2 :: ds.drop (insI ds.length i)))))) :
  JS K (tDrop (tBM K "list" rInsert (tVar n) (tCons t1 (tCons t2 tNil)))) Δ ⟨nx,rt,bk,ct,ro⟩:=fun g G H σ E k c=>by
 obtain ⟨v,h1,h2⟩:=k.val n _ hx
 cases h2
 obtain ⟨a',o,w1,w2,w3,w4,w5⟩:=k.own j0 _ _ hj0 rfl
 obtain ⟨rfl,_⟩:=w5
 cases o with
 | lst vs0=>
  refine ⟨_,h1,.inl ⟨rfl,_,SqL.of w2⟩,h g G H σ _ k fun v1 e1 G1 H1 Δ1 k1 s1 r1 p1=>p1 g G1 H1 σ _ k1 fun v2 e2 G2 H2 Δ2 k2 s2 r2 ⟨j,i,ds,q1,q2,q3,q4,q5,p⟩=>?_⟩
  subst q1
  cases r1.inv
  obtain ⟨a2,o2,u1,u2,u3,u4,u5⟩:=k2.own j _ _ q2 rfl
  obtain ⟨rfl,_⟩:=u5
  cases o2 with
  | lst vs=>
   have u3:Reps K G2 vs ds:=u3
   refine ⟨_,vs,i,v2,rfl,rfl,u2,by rw [u3.length]; exact q3,q4,q5,?_⟩
   have k3:=k2.write q2 rfl u1 (show OwnRep K G2 (.lst (vs.take (insI vs.length i) ++ v2 :: vs.drop (insI vs.length i))) (.lst (ds.take (insI ds.length i) ++ e2 :: ds.drop (insI ds.length i))) from by
    rw [u3.length]; exact (u3.take _).append (.cons r2 (u3.drop _)))
   exact c.nx σ G2 _ _ k3 p
  | _=>exact absurd u3 (fun z=>z)
 | _=>exact absurd w3 (fun z=>z)
theorem JS.conv {t:TS} {Δ':Evt} {P:Pst} (hc:∀ g G H σ,Ok K g G H σ Δ -> ∃ G',Same G G' /\ Ok K g G' H σ Δ') (h:JS K t Δ' P):JS K t Δ P:=fun g G H σ E k c=>by
 obtain ⟨G',s,k'⟩:=hc g G H σ k
 exact h g G' H σ E k' c
theorem Ok.freezeA {g:Gm} {G H:Hp} {σ:St} (k:Ok K g G H σ Δ) {i:Nat} {a:Addr} {ds:List D} (h:Δ[i]? = some (.ownA a (.lst ds))):∃ G',Same G G' /\ Ok K g G' H σ (Δ.set i .any)/\Rep K G' (.ref a) (.lst ds):=by
 obtain ⟨a',o,w1,w2,w3,w4,w5⟩:=k.own i _ _ h rfl
 obtain ⟨rfl,w6⟩:=w5
 cases o with
 | lst vs=>
  have pd:Pend K g G H σ (Δ.set i .any) a (.lst ds):=by
   refine ⟨.lst vs,w2,w3,w4,w6,?_,fun j x od' e1 e2 e3=>?_⟩
   ·cases q:g.Xo a with
    | none=>rfl
    | some u=>exact absurd w1 ((k.ext a u q).2.2 i _ _ h rfl)
   ·by_cases hj:j=i
    ·subst hj
     rw [List.getElem?_set] at e1
     simp at e1
     obtain ⟨_,e1⟩:=e1
     subst e1
     cases e2
    ·rw [List.getElem?_set_ne (Ne.symm hj)] at e1
     exact hj (k.dis j i x _ od' _ a e1 e2 h rfl e3 w1)
  obtain ⟨k2,sg,r⟩:=(k.drop i).freeze pd w2
  exact ⟨_,sg,k2,r⟩
 | _=>exact absurd w3 (fun z=>z)
theorem Ok.freezeN {g:Gm} {H:Hp} {σ:St}:∀ (cs:List (Addr × List D)) (R T:Evt) (G:Hp),Ok K g G H σ (R ++ cs.map (fun c=>Slot.ownA c.1 (.lst c.2)) ++ T) →
  ∃ G',Same G G' /\ Ok K g G' H σ (R ++ List.replicate cs.length .any ++ T)/\∀ c ∈ cs,Rep K G' (.ref c.1) (.lst c.2)
 | [],R,T,G,k=>⟨G,Same.refl _,by simpa using k,fun c hc=>nomatch hc⟩
 | c :: r,R,T,G,k=>by
  have hi:(R ++ (c :: r).map (fun c=>Slot.ownA c.1 (.lst c.2)) ++ T)[R.length]? = some (.ownA c.1 (.lst c.2)):=by simp
  obtain ⟨G1,s1,k1,r1⟩:=k.freezeA hi
  have e:(R ++ (c :: r).map (fun c=>Slot.ownA c.1 (.lst c.2)) ++ T).set R.length .any=(R ++ [.any]) ++ r.map (fun c=>Slot.ownA c.1 (.lst c.2)) ++ T:=by
   simp [List.set_append_right]
  rw [e] at k1
  obtain ⟨G2,s2,k2,r2⟩:=Ok.freezeN r (R ++ [.any]) T G1 k1
  refine ⟨G2,s1.trans s2,?_,fun d hd=>?_⟩
  ·have e2:(R ++ [Slot.any]) ++ List.replicate r.length Slot.any ++ T=R ++ List.replicate (c :: r).length Slot.any ++ T:=by
    rw [List.length_cons,List.replicate_succ]; simp
   rw [e2] at k2; exact k2
  ·rcases List.mem_cons.mp hd with e | hd
   ·subst e; exact r1.mono s2
   ·exact r2 d hd
theorem Ok.thaw {g:Gm} {G H:Hp} {σ:St} {cs:List (Addr × List D)} {R T:Evt} {i:Nat} (k:Ok K g G H σ (R ++ cs.map (fun c=>Slot.ownA c.1 (.lst c.2)) ++ T)) (hi:R[i]? = some (.val (.lst (cs.map fun c=>D.adr c.1)))) :
  ∃ G',Same G G' /\ Ok K g G' H σ (R.set i (.val (.lst (cs.map fun c=>D.lst c.2))) ++ List.replicate cs.length .any ++ T):=by
 have hlt:i < R.length:=(List.getElem?_eq_some_iff.mp hi).1
 obtain ⟨v,h1,h2⟩:=k.val i _ (by rw [List.append_assoc,List.getElem?_append_left hlt]; exact hi)
 obtain ⟨G1,s1,k1,r1⟩:=Ok.freezeN cs R T G k
 refine ⟨G1,s1,?_⟩
 have rr:Rep K G1 v (.lst (cs.map fun c=>D.lst c.2)):=by
  cases h2 with
  | lst ha rs=>
   refine .lst (s1 _ _ ha) ?_
   have key:∀ (l:List (Addr × List D)) (vs:List V),(∀ c ∈ l,Rep K G1 (.ref c.1) (.lst c.2))->Reps K G vs (l.map fun c=>D.adr c.1)->Reps K G1 vs (l.map fun c=>D.lst c.2):=by
    intro l
    induction l with
    | nil=>intro vs _ h; cases h; exact .nil
    | cons c r ih=>
     intro vs hc h
     cases h with
     | cons h1 h2=>
      cases h1
      exact .cons (hc c List.mem_cons_self) (ih _ (fun d hd=>hc d (List.mem_cons_of_mem _ hd)) h2)
   exact key cs _ r1 rs
 have k2:=k1.setVal' i rr
 have e1:σ.set i (some v) = σ:=by
  apply List.ext_getElem?
  intro j
  by_cases hj:j=i
  ·subst hj; rw [List.getElem?_set_self (by obtain ⟨z,_⟩:=List.getElem?_eq_some_iff.mp h1; exact z),h1]
  ·rw [List.getElem?_set_ne (Ne.symm hj)]
 rw [e1] at k2
 have e2:(R ++ List.replicate cs.length Slot.any ++ T).set i (.val (.lst (cs.map fun c=>D.lst c.2)))=R.set i (.val (.lst (cs.map fun c=>D.lst c.2))) ++ List.replicate cs.length Slot.any ++ T:=by
  rw [List.append_assoc,List.append_assoc,List.set_append_left _ _ hlt]
 rw [e2] at k2
 exact k2
end
end L2
set_option Elab.async false
set_option linter.all false
set_option maxRecDepth 100000
namespace L2
open PySem PySem.Spec PyProof.Rows
section
variable {X:Cx} (K:PySem.W.Frag)
theorem ixK (hu:X.A.units + 1 < cLine) (hK:X.K=K:=by rfl):IxR X (rIxU K):=hK ▸ ixU hu
theorem slK (hK:X.K=K:=by rfl):SlR X (rSlU K):=hK ▸ slU
theorem addK (hK:X.K=K:=by rfl):OpR X (binaryOp .Add) (rAddU K):=hK ▸ Zox
theorem lenK (hK:X.K=K:=by rfl):CallR X (.builtin "len") (rLenU K):=hK ▸ Zk8
def rTup (K:PySem.W.Frag):List V->Hp->VK->Prop:=fun xs H Q=>∃ p ys,xs=[.ref p]/\((SqL K H p ys/\∀ l,H l=none->Q (.ref l) (upd H l (.tup ys)))\/(SqT K H p ys/\Q (.ref p) H))
theorem tupK (hK:X.K=K:=by rfl):CallR X (.type "tuple") (rTup K):=hK ▸ Zfr
def rLst (K:PySem.W.Frag):List V->Hp->VK->Prop:=fun xs H Q=>∃ p ys,xs=[.ref p]/\(SqL K H p ys\/SqT K H p ys)/\∀ l,H l=none->Q (.ref l) (upd H l (.lst ys))
theorem idxK (hK:X.K=K:=by rfl):MtM X "tuple.index" (rIndexT K):=hK ▸ Zen
theorem seqK {tg l:Expr} {tl:TE} (hl:PE X l tl) (hK:X.K=K:=by rfl):PI X tg l (iSeq K tl):=hK ▸ Zr0 hl
theorem truK {a:Expr} {ta:TE} (ha:PE X a ta) (he:∀ whole,isTrue a X.env whole=(do let v ← whole; standAt a.pos; holding [v] (truthy v))) (hK:X.K=K:=by rfl):PT X a (tTru K ta):=hK ▸ Zrv ha he
theorem gtupK {es:List Expr} {k:Nat} {t:TGs} {n:Nat} {pos:Pos} (hc:X.calm=true) (h:PGs X es t)
  (hn:(assignEach es X.env).length=n:=by rfl) (hst:(assignEach es X.env).findIdx? (·.1)=none:=by rfl) (hK:X.K=K:=by rfl):PG X (.Tuple es k pos) (gTup K n t):=hK ▸ Zqp hc h hn hst
variable {o e:Expr} {es:List Expr} {to:TE} {t:TA} {name:Str} {apos cpos:Pos} {T id:String} {r:V->List V->Hp->VK->Prop}
theorem bm0K (pa:PlainAttrs T) (slot:PySem.Slot T name id) (hty:typeOf (.builtin id)=pure (.type "method_descriptor")) (hm:MtR X id r) (ho:PE X o to)
  (hbase:attributeBase o name X.env (eval o X.env)=eval o X.env:=by rfl) (hline:(apos.endLine == cpos.line)=true:=by rfl) (hK:X.K=K:=by rfl):PE X (.Call (.Attribute o name apos) [] [] cpos) (tBM0 K T r to):=hK ▸ Zqq pa slot hty hm ho hbase hline
theorem bmK (pa:PlainAttrs T) (slot:PySem.Slot T name id) (hty:typeOf (.builtin id)=pure (.type "method_descriptor")) (hm:MtR X id r) (ho:PE X o to) (ha:PA X (e :: es) t)
  (hbase:attributeBase o name X.env (eval o X.env)=eval o X.env:=by rfl)
  (hfew:((backTo cpos (starEach (e :: es) X.env)).all (fun x=>!x.1) && (backToKw cpos (keywordEach [] X.env)).all (fun x=>x.1.isSome)
   && decide ((e :: es).length + ([]:List Keyword).length + (if ([]:List Keyword).isEmpty then 0 else 1) < 30))=true:=by rfl)
  (hline:(apos.endLine == cpos.line)=true:=by rfl) (hs:starEach (e :: es) X.env=(false,eval e X.env) :: starEach es X.env:=by rfl) (hplain:(backTo cpos (starEach es X.env)).any (·.1)=false:=by rfl) (hK:X.K=K:=by rfl) :
  PE X (.Call (.Attribute o name apos) (e :: es) [] cpos) (tBM K T r to t):=hK ▸ Zso pa slot hty hm ho ha hbase hfew hline hs hplain
end
section
variable {K:PySem.W.Frag} {Δ:Evt} {P:D->Evt->Prop}
theorem Zc0 {ds es:List D} (he:ds=[.lst es]\/ds=[.tup es]) (p:P (.tup es) Δ):JC K (rTup K) ds Δ P:=Zm8 he p
theorem Znm {ds es:List D} (he:ds=[.lst es]\/ds=[.tup es]) (p:P (.lst es) Δ):JC K (rLst K) ds Δ P:=fun g G H σ Q vs k rs c=>by
 rcases he with he | he <;> subst he
 ·obtain ⟨_,_,rfl,r,t⟩:=rs.inv
  next=>
   cases t.inv
   obtain ⟨_,_,rfl,ha,rs⟩:=r.inv
   next=>
    refine ⟨_,_,rfl,.inl (SqL.of (k.live _ _ ha)),fun l hl=>?_⟩
    obtain ⟨k2,sg⟩:=k.laid hl (.lst _)
    exact c _ _ _ _ Δ k2 sg (.lst Zam (rs.mono sg)) p
 ·obtain ⟨_,_,rfl,r,t⟩:=rs.inv
  next=>
   cases t.inv
   obtain ⟨_,_,rfl,ha,rs⟩:=r.inv
   next=>
    refine ⟨_,_,rfl,.inr (SqT.of (k.live _ _ ha)),fun l hl=>?_⟩
    obtain ⟨k2,sg⟩:=k.laid hl (.lst _)
    exact c _ _ _ _ Δ k2 sg (.lst Zam (rs.mono sg)) p
theorem Zlr {sel:List Nat} {wi:TI} {tc:TT} {te:TE} {Po:List OD->Evt->Prop} (hsel:sel.Nodup)
  (h:JI K wi Δ fun ds Δ1=>ds.length < sizeLine/\∃ (p:D->Bool) (f:D->OD),
   (∀ (i:Nat) d,ds[i]? = some d->JT K tc (.val d :: fixD sel Δ1) fun b Δ4=>b=p d/\if b=true then JO K te Δ4 fun e Δ5=>e=f d/\∃ x,Δ5=x :: fixD sel Δ1 else ∃ x,Δ4=x :: fixD sel Δ1) ∧
   Po ((ds.filter p).map f) Δ1):JN K (tComp 1 sel wi (gName 0) tc te) Δ Po:=by
 refine Zos hsel fun g G H σ R k c=>h g G H σ R k fun J ds G' H' Δ' k' s' it ⟨z,p,f,ht,he⟩=>c J ds G' H' Δ' k' s' it ⟨z,fun i ys Δ=>ys=((ds.take i).filter p).map f/\∃ x,Δ = x :: fixD sel Δ',⟨by simp,.any,rfl⟩,?_,?_⟩
 ·rintro i d ys Δ2 hd ⟨rfl,x,rfl⟩
  have tk:ds.take (i + 1)=ds.take i ++ [d]:=by
   rw [List.take_add_one,hd]; rfl
  refine Zdh (by decide) ?_
  intro g G H σ Q k c
  refine ht i d hd g G H σ Q k fun b G1 H1 Δ1 k1 s1 ⟨e1,q⟩=>c b G1 H1 Δ1 k1 s1 ?_
  cases b with
  | true=>
   rw [if_pos rfl] at q ⊢
   intro g G H σ Q k c
   refine q g G H σ Q k fun a od G2 H2 Δ2 k2 s2 pd ⟨e2,x,e3⟩=>c a od G2 H2 Δ2 k2 s2 pd ⟨?_,x,e3⟩
   rw [tk,List.filter_append,List.map_append,List.filter_cons,<- e1,e2]
   rfl
  | false=>
   rw [if_neg Bool.false_ne_true] at q ⊢
   obtain ⟨x,e3⟩:=q
   refine ⟨?_,x,e3⟩
   rw [tk,List.filter_append,List.map_append,List.filter_cons,<- e1]
   simp
 ·rintro ys Δ2 ⟨rfl,x,rfl⟩
  rw [List.take_length,show (x :: fixD sel Δ')=[x] ++ fixD sel Δ' from rfl,Zcp (by simp)]
  exact he
end
end L2
set_option Elab.async false
set_option linter.all false
set_option maxRecDepth 100000
namespace L2
open PySem PySem.Spec PyProof.Rows
def fLaw:DSp:=fun ds Post=>∃ ns:List Int,ds=[.scr (ns.map .int)]/\ns.length<=63/\Post (.bl true)
def spLaw (K:PySem.W.Frag):Sp:=fun vs H Q _=>∃ (a:Addr) (ns:List Int),vs=[.ref a]/\SqL K H a (ns.map V.int)/\ns.length<=63/\∀ H',Q (.bl true) H'
theorem Zlx {K:PySem.W.Frag} {vs:List V} {H:Hp} {Q:VK} {E:XK} (h:spLaw K vs H Q E):spD K fLaw vs H Q E:=by
 obtain ⟨a,ns,rfl,hs,hl,q⟩:=h
 refine ⟨H,[.scr (ns.map .int)],fun d=>d=.bl true,Same.refl _,.cons (.scr hs (Reps.ofInts ns)) .nil,⟨ns,rfl,hl,rfl⟩,fun r H' d sh rr e=>?_⟩
 subst e
 cases rr.inv
 exact q H'
theorem walk_law {l:PySem.W.OpenLaw} {q:Program} {loose:List Str} {XP:(Str->Option Value)->Heap->Prop} {YP:World->Heap->Prop} {d:DefRec} {K:Params->PySem.W.Frag} {k:Nat} {x:Str} (hk:Room k callerA) (hn:l.most=some 63) (hdf:d.params.defaults=[])
  (hY:∀ (w:World) (h:Heap),YP w h->(K w.params).In h)
  (F:∀ (w:World) (mg:Str->Option Value) (fa:Addr) (h:Heap),(K w.params).In h->h.Ns mainGlobals mg->mg d.name=some (.ref fa) →
   ∃ fd:FuncData,(∀ (s:Shared) (u:Value),BindsTo s fd ⟨[u],[]⟩ [(x,u)])/\∀ base:Heap,(K w.params).In base->base.Ns mainGlobals mg->FnOk l.prog w (K w.params) mg base CX0 k fa fd [x] (spD (K w.params) fLaw)) :
  PySem.W.WalkO q loose XP YP l.row.toRowW d [] (fun f vs=>PySem.call f vs):=
 L2.walk_of (n:=63) (k:=k) (x:=x) (CX:=fun _=>CX0) (sp:=fun w=>spLaw (K w.params)) hn (by decide) hdf hk hY
  (fun w mg fa h h1 h2 h3=>by
   obtain ⟨fd,b,f⟩:=F w mg fa h h1 h2 h3
   exact ⟨fd,b,fun base kb nb=>(f base kb nb).imp fun vs H Q E z=>Zlx z⟩)
  (fun _ _ a ns hl _ hS=>⟨a,ns,rfl,hS,hl,fun _=>rfl⟩) fun _ _ _ _ _ z=>z
end L2
set_option Elab.async false
set_option linter.all false
set_option maxRecDepth 100000
namespace L2
open PySem PySem.Spec PyProof.Rows
def SqB (b:Bool) (K:PySem.W.Frag) (H:Hp) (a:Addr) (xs:List V):Prop:=match b with | true=>SqT K H a xs | false=>SqL K H a xs
def ItB (b:Bool) (h:Heap) (j a:Addr) (i:Nat):Prop:=match b with | true=>h.IsTupleIter j a i | false=>h.IsListIter j a i
def HsB (b:Bool) (h:Heap) (a:Addr) (ws:Array Value):Prop:=match b with | true=>h.IsTuple a ws | false=>h.IsList a ws
theorem ItB.at {b:Bool} {h h':Heap} {j a:Addr} {i:Nat} (x:ItB b h j a i) (e:∀ o,h.get? j=some o->h'.get? j=some o):ItB b h' j a i:=by
 cases b
 ·exact Heap.IsListIter.at (show h.IsListIter j a i from x) e
 ·exact Heap.IsTupleIter.at (show h.IsTupleIter j a i from x) e
theorem ItB.off {b:Bool} {h h':Heap} {j a c:Addr} {i:Nat} (x:ItB b h j a i) (e:Heap.ExtBut c h h') (n:j ≠ c):ItB b h' j a i:=x.at fun o q=>e j o n q
theorem ItB.obj {b:Bool} {h:Heap} {j a:Addr} {i:Nat} (x:ItB b h j a i):∃ o,h.get? j=some o/\o.data=.fields #[.ref a,.int i 0]:=by
 cases b <;> (obtain ⟨o,e,_,d⟩:=x; exact ⟨o,e,d⟩)
theorem HsB.off {b:Bool} {h h':Heap} {a c:Addr} {ws:Array Value} (x:HsB b h a ws) (e:Heap.ExtBut c h h') (n:a ≠ c):HsB b h' a ws:=by
 cases b <;> (obtain ⟨o,q,r⟩:=x; exact ⟨o,e a o n q,r⟩)
theorem HsB.lt {b:Bool} {h:Heap} {a:Addr} {ws:Array Value} (x:HsB b h a ws):a < h.objs.size:=by
 cases b <;> (obtain ⟨o,q,r⟩:=x; exact Heap.lt_size q)
theorem Inv.seqB {X:Cx} {pins:List (Addr × Obj)} {σ:St} {H:Hp} {s:Shared} {b:Bool} {a:Addr} {xs:List V} (I:Inv X pins σ H s) (h:SqB b X.K H a xs):∃ its:List Value,Vals xs its/\HsB b s.heap a its.toArray:=by
 cases b
 ·obtain ⟨its,r,p,_⟩:=I.list h
  exact ⟨its,r,p.isList⟩
 ·obtain ⟨its,r,p,_⟩:=I.tuple h
  exact ⟨its,r,p⟩
theorem Inv.seqB_inj {X:Cx} {pins:List (Addr × Obj)} {σ:St} {H:Hp} {s:Shared} {b:Bool} {a:Addr} {xs ys:List V} (I:Inv X pins σ H s) (h:SqB b X.K H a xs) (h':SqB b X.K H a ys):xs=ys:=by
 cases b
 ·exact I.list_inj h h'
 ·exact I.tuple_inj h h'
section
variable {prog:Program} {w:World} {A:Around} {E:Value->Shared->Prop} {s:Shared}
theorem Zgr {b:Bool} {j a:Addr} {i:Nat} {ws:Array Value} {x:Value} {Q:Value->Shared->Prop} (g:ItB b s.heap j a i) (l:HsB b s.heap a ws) (e:ws[i]? = some x)
  (q:∀ h',ItB b h' j a (i + 1)->Heap.SameBut j s.heap h' -> Q x { s with heap:=h' }):wpAny (model prog w) A (Builtin.SmallTypes.nextOf (.ref j)) Q E s:=by
 cases b
 ·exact wpAny_nextOf_list_item g l e q
 ·obtain ⟨o,g1,g2,g3⟩:=id g
  obtain ⟨u,l1,_,n,l2⟩:=l
  have ty:s.TypeIs (.ref j) "tuple_iterator":=⟨o,g1,g2⟩
  unfold Builtin.SmallTypes.nextOf
  refine wpAny_bind (wpAny_callSpecial?_slot (name:=Str.ofString "__next__") ty F.slot_tuple_iterator_next (wpAny_call_entry F.slot_tuple_iterator_next ty F.entry_tuple_iterator_next ?_ (F.args_tuple_iterator_next_1 _)))
  refine (show wpAny _ _ (field (.ref j) 0 >>= _) _ _ s from wpAny_bind (wpAny_field g1 g3 (x:=.ref a) rfl ?_))
  refine (show wpAny _ _ (if (Value.ref a == Value.none)=true then _ else _) _ _ s from ?_)
  rw [if_neg (by exact Bool.false_ne_true)]
  refine (show wpAny _ _ (field (.ref j) 1 >>= _) _ _ s from wpAny_bind (wpAny_field g1 g3 (x:=.int i 0) rfl ?_))
  refine (show wpAny _ _ (seqItems? (.ref a) >>= _) _ _ s from wpAny_bind (wpAny_seqItems l1 l2 ?_))
  simp only [Int.toNat_natCast,e]
  refine wpAny_bind (wpAny_setField g1 g3 (by simp) (wpAny_pure ⟨x,rfl,wpAny_pure (q _ ⟨_,Heap.get?_update_self _ g1 (Obj.isFreed_of_fields (Obj.data_mapFields g3 _)),(Obj.cls_mapFields ..).trans g2,?_⟩ (Heap.SameBut.update ..))⟩))
  rw [Obj.data_mapFields g3]; simp [rawInt]
theorem Znq {b:Bool} {j a:Addr} {i:Nat} {ws:Array Value} {Q:Value->Shared->Prop} (hh:A.handled=none) (g:ItB b s.heap j a i) (l:HsB b s.heap a ws) (e:ws[i]? = none)
  (q:∀ h' x,Heap.ExtBut j s.heap h' -> (∃ o,h'.get? x=some o/\o.cls=.type "StopIteration")->E (.ref x) { s with heap:=h' }):wpAny (model prog w) A (Builtin.SmallTypes.nextOf (.ref j)) Q E s:=by
 cases b
 ·exact wpAny_nextOf_list_end hh g l e q
 ·obtain ⟨o,g1,g2,g3⟩:=id g
  obtain ⟨u,l1,_,n,l2⟩:=l
  have ty:s.TypeIs (.ref j) "tuple_iterator":=⟨o,g1,g2⟩
  unfold Builtin.SmallTypes.nextOf
  refine wpAny_bind (wpAny_callSpecial?_slot (name:=Str.ofString "__next__") ty F.slot_tuple_iterator_next (wpAny_call_entry F.slot_tuple_iterator_next ty F.entry_tuple_iterator_next ?_ (F.args_tuple_iterator_next_1 _)))
  refine (show wpAny _ _ (field (.ref j) 0 >>= _) _ _ s from wpAny_bind (wpAny_field g1 g3 (x:=.ref a) rfl ?_))
  refine (show wpAny _ _ (if (Value.ref a == Value.none)=true then _ else _) _ _ s from ?_)
  rw [if_neg (by exact Bool.false_ne_true)]
  refine (show wpAny _ _ (field (.ref j) 1 >>= _) _ _ s from wpAny_bind (wpAny_field g1 g3 (x:=.int i 0) rfl ?_))
  refine (show wpAny _ _ (seqItems? (.ref a) >>= _) _ _ s from wpAny_bind (wpAny_seqItems l1 l2 ?_))
  simp only [Int.toNat_natCast,e]
  refine wpAny_bind (wpAny_rule (wpAny_bind (wpAny_setField g1 g3 (by simp) (show wpAny _ _ (newExc (.type "StopIteration") [] >>= _) _ _ _ from wpAny_bind ?_))))
  simp only [newExc,newTuple]
  refine wpAny_bind (wpAny_newObj_type (wpAny_bind (m:=firstArgMember _ _) (wpAny_of_eq (a:=Value.none) (by first | rfl | (simp only [firstArgMember]; rfl)) (wpAny_newObj_type ?_ (by size_fits)))) (by size_fits))
  simp only [raiseNew]
  refine wpAny_bind (wpAny_handled ?_)
  first | rw [show A.in1.handled=none from hh] | rw [hh]
  exact wpAny_bind (wpAny_pure (wpAny_throw (q _ _ (((Heap.SameBut.update ..).extBut.push _).push _) ⟨_,Heap.get?_push_size _ rfl,rfl⟩)))
theorem Zpa {b c:Bool} {z U O j1 j2 a1 a2:Addr} {k1 k2:Nat} {vs us:Array Value} {x y p r:Value} {Q:Option Value->Shared->Prop} (D:ZipApart z U O j1 j2 a1 a2)
  (gz:IsZip s.heap z U O .none) (gU:IsPair s.heap U (.ref j1) (.ref j2)) (gO:IsPair s.heap O p r) (g1:ItB b s.heap j1 a1 k1) (g2:ItB c s.heap j2 a2 k2) (l1:HsB b s.heap a1 vs) (l2:HsB c s.heap a2 us) (ex:vs[k1]? = some x) (ey:us[k2]? = some y)
  (q:∀ h',IsZip h' z U O (rawInt s.heap.objs.size)->IsPair h' O x y->ItB b h' j1 a1 (k1 + 1)->ItB c h' j2 a2 (k2 + 1)->IsPair h' s.heap.objs.size x y->h'.objs.size=s.heap.objs.size + 1 →
   (∀ d o,d ≠ z->d ≠ O->d ≠ j1->d ≠ j2->s.heap.get? d=some o->h'.get? d=some o)->Q (some (.ref s.heap.objs.size)) { s with heap:=h' }):wpAny (model prog w) A (pyNext (.ref z)) Q E s:=by
 have ty:s.TypeIs (.ref z) "zip":=⟨_,gz,rfl⟩
 unfold pyNext
 refine wpAny_bind (wpAny_attempt (wpAny_callSpecial?_slot (name:=Str.ofString "__next__") ty F.slot_zip_next (wpAny_call_entry F.slot_zip_next ty F.entry_zip_next ?_ (F.args_zip_next_1 _))))
 refine (show wpAny _ _ (field (.ref z) 2 >>= _) _ _ _ from wpAny_bind (wpAny_field gz rfl (x:=.bool false) rfl ?_))
 refine (show wpAny _ _ (field (.ref z) 3 >>= _) _ _ _ from wpAny_bind (wpAny_field gz rfl (x:=.ref U) rfl (wpAny_bind (wpAny_seqItems gU rfl ?_))))
 refine (show wpAny _ _ (Builtin.SmallTypes.ownedTupleIsFree (.ref z) >>= _) _ _ _ from wpAny_bind ?_)
 unfold Builtin.SmallTypes.ownedTupleIsFree
 refine wpAny_bind (wpAny_field gz rfl (x:=.none) rfl (wpAny_pure ?_))
 simp only [if_true]
 refine wpAny_bind (wpAny_rule (wpAny_bind (wpAny_field gz rfl (x:=.ref O) rfl (wpAny_bind (wpAny_setField_rec gz (by simp) fun h₁ z₁ s₁=>wpAny_bind ?_)))))
 replace z₁:IsZip h₁ z U O .ellipsis:=z₁
 simp only [List.zipIdx_cons,List.zipIdx_nil,List.forIn_cons,List.forIn_nil]
 refine wpAny_bind (wpAny_bind (wpAny_onRaise (show wpAny _ _ (Builtin.SmallTypes.nextOf (.ref j1) >>= _) _ _ _ from wpAny_bind (Zgr (g1.off s₁.extBut D.i1z) (l1.off s₁.extBut D.l1z) ex fun h₂ g₂ s₂=>wpAny_pure ?_))))
 have o₂:IsPair h₂ O p r:=s₂.extBut _ _ D.TOi1 (s₁.extBut _ _ D.TOz gO)
 refine wpAny_bind (wpAny_seqItems o₂ rfl (wpAny_bind (wpAny_updateSeq_pair o₂ fun h₃ o₃ s₃=>wpAny_bind (wpAny_letGo (wpAny_pure ?_)))))
 replace o₃:IsPair h₃ O x r:=o₃
 refine wpAny_bind (wpAny_bind (wpAny_onRaise (show wpAny _ _ (Builtin.SmallTypes.nextOf (.ref j2) >>= _) _ _ _ from wpAny_bind (Zgr (((g2.off s₁.extBut D.i2z).off s₂.extBut D.i12.symm).off s₃.extBut D.TOi2.symm) (((l2.off s₁.extBut D.l2z).off s₂.extBut D.l2i1).off s₃.extBut D.l2TO) ey fun h₄ g₄ s₄=>wpAny_pure ?_))))
 have o₄:IsPair h₄ O x r:=s₄.extBut _ _ D.TOi2 o₃
 refine wpAny_bind (wpAny_seqItems o₄ rfl (wpAny_bind (wpAny_updateSeq_pair o₄ fun h₅ o₅ s₅=>wpAny_bind (wpAny_letGo (wpAny_pure (wpAny_pure ?_))))))
 replace o₅:IsPair h₅ O x y:=o₅
 refine wpAny_bind (wpAny_seqItems o₅ rfl (wpAny_bind (wpAny_newTuple ?_)))
 have n5:h₅.objs.size=s.heap.objs.size:=by rw [s₅.1,s₄.1,s₃.1,s₂.1,s₁.1]
 have z₅:IsZip h₅ z U O .ellipsis:=s₅.extBut _ _ D.TOz.symm (s₄.extBut _ _ D.i2z.symm (s₃.extBut _ _ D.TOz.symm (s₂.extBut _ _ D.i1z.symm z₁)))
 have old:∀ d o,d ≠ z->d ≠ O->d ≠ j1->d ≠ j2->s.heap.get? d=some o->h₅.get? d=some o:=fun d o c1 c2 c3 c4 e=>s₅.extBut _ _ c2 (s₄.extBut _ _ c4 (s₃.extBut _ _ c2 (s₂.extBut _ _ c3 (s₁.extBut _ _ c1 e))))
 have t1:ItB b h₅ j1 a1 (k1 + 1):=((g₂.off s₃.extBut D.TOi1.symm).off s₄.extBut D.i12).off s₅.extBut D.TOi1.symm
 have t2:ItB c h₅ j2 a2 (k2 + 1):=g₄.off s₅.extBut D.TOi2.symm
 have zl:z < h₅.objs.size:=Heap.lt_size z₅
 refine (show wpAny _ _ (Builtin.SmallTypes.ownedTupleHandOut (.ref z) (.ref h₅.objs.size) >>= _) _ _ _ from wpAny_bind ?_)
 unfold Builtin.SmallTypes.ownedTupleHandOut
 have z₆:IsZip (h₅.push { cls:=.type "tuple",data:=.seq #[x,y] }) z U O .ellipsis:=Heap.get?_push_of_some _ z₅
 refine wpAny_bind (wpAny_setField_rec z₆ (by simp) fun h₇ z₇ s₇=>?_)
 replace z₇:IsZip h₇ z U O (rawInt h₅.objs.size):=z₇
 refine wpAny_setField_rec z₇ (by simp) fun h₈ z₈ s₈=>?_
 replace z₈:IsZip h₈ z U O (rawInt h₅.objs.size):=z₈
 have up:∀ d o,d ≠ z->h₅.get? d=some o->h₈.get? d=some o:=fun d o c1 e=>s₈.extBut _ _ c1 (s₇.extBut _ _ c1 (Heap.get?_push_of_some _ e))
 have new8:IsPair h₈ h₅.objs.size x y:=s₈.extBut _ _ (Nat.ne_of_gt zl) (s₇.extBut _ _ (Nat.ne_of_gt zl) (Heap.get?_push_size _ rfl))
 have n8:h₈.objs.size=h₅.objs.size + 1:=by rw [s₈.1,s₇.1,Heap.size_push]
 rw [n5] at z₈ new8 n8
 refine wpAny_pure ⟨_,rfl,wpAny_pure ?_⟩
 refine (show Q (some (.ref h₅.objs.size)) _ from ?_)
 rw [n5]
 exact q h₈ z₈ (up _ _ D.TOz o₅) (t1.at fun o e=>up _ o D.i1z e) (t2.at fun o e=>up _ o D.i2z e) new8 n8 fun d o c1 c2 c3 c4 e=>up d o c1 (old d o c1 c2 c3 c4 e)
theorem Zp8 {b c:Bool} {z U O j1 j2 a1 a2:Addr} {k1 k2:Nat} {vs us:Array Value} {p r:Value} {Q:Option Value->Shared->Prop} (hh:A.handled=none) (D:ZipApart z U O j1 j2 a1 a2)
  (gz:IsZip s.heap z U O .none) (gU:IsPair s.heap U (.ref j1) (.ref j2)) (gO:IsPair s.heap O p r) (g1:ItB b s.heap j1 a1 k1) (g2:ItB c s.heap j2 a2 k2) (l1:HsB b s.heap a1 vs) (l2:HsB c s.heap a2 us) (e:vs[k1]? = none\/us[k2]? = none)
  (q:∀ h',(∀ d o,d ≠ z->d ≠ O->d ≠ j1->d ≠ j2->s.heap.get? d=some o->h'.get? d=some o)->Q none { s with heap:=h' }):wpAny (model prog w) A (pyNext (.ref z)) Q E s:=by
 have ty:s.TypeIs (.ref z) "zip":=⟨_,gz,rfl⟩
 have fin:∀ {h':Heap} {x:Addr},(∀ d o,d ≠ z->d ≠ O->d ≠ j1->d ≠ j2->s.heap.get? d=some o->h'.get? d=some o)->(∃ o,h'.get? x=some o/\o.cls=.type "StopIteration")->wpAny (model prog w) A (do if (← isInstance (.ref x) (.type "StopIteration")) then pure none else throw (.ref x)) Q E { s with heap:=h' }:=fun {h' x} hk ⟨o,ho,hc⟩=>by
  refine wpAny_bind (wpAny_isInstance (T:="StopIteration") (b:=true) ⟨o,ho,hc⟩ isSubtype_stop ?_)
  exact wpAny_pure (q _ hk)
 unfold pyNext
 refine wpAny_bind (wpAny_attempt (wpAny_callSpecial?_slot (name:=Str.ofString "__next__") ty F.slot_zip_next (wpAny_call_entry F.slot_zip_next ty F.entry_zip_next ?_ (F.args_zip_next_1 _))))
 refine (show wpAny _ _ (field (.ref z) 2 >>= _) _ _ _ from wpAny_bind (wpAny_field gz rfl (x:=.bool false) rfl ?_))
 refine (show wpAny _ _ (field (.ref z) 3 >>= _) _ _ _ from wpAny_bind (wpAny_field gz rfl (x:=.ref U) rfl (wpAny_bind (wpAny_seqItems gU rfl ?_))))
 refine (show wpAny _ _ (Builtin.SmallTypes.ownedTupleIsFree (.ref z) >>= _) _ _ _ from wpAny_bind ?_)
 unfold Builtin.SmallTypes.ownedTupleIsFree
 refine wpAny_bind (wpAny_field gz rfl (x:=.none) rfl (wpAny_pure ?_))
 simp only [if_true]
 refine wpAny_bind (wpAny_rule (wpAny_bind (wpAny_field gz rfl (x:=.ref O) rfl (wpAny_bind (wpAny_setField_rec gz (by simp) fun h₁ z₁ s₁=>wpAny_bind ?_)))))
 replace z₁:IsZip h₁ z U O .ellipsis:=z₁
 simp only [List.zipIdx_cons,List.zipIdx_nil,List.forIn_cons,List.forIn_nil]
 refine wpAny_bind (wpAny_bind (wpAny_onRaise (show wpAny _ _ (Builtin.SmallTypes.nextOf (.ref j1) >>= _) _ _ _ from ?_)))
 cases ex:vs[k1]? with
 | none=>
  refine wpAny_bind (Znq hh (g1.off s₁.extBut D.i1z) (l1.off s₁.extBut D.l1z) ex fun h₂ y s₂ ⟨u,u1,u2⟩=>?_)
  have z₂:IsZip h₂ z U O .ellipsis:=s₂ _ _ D.i1z.symm z₁
  have yz:y ≠ z:=fun x=>by subst x; rw [z₂] at u1; cases u1; simp at u2
  exact wpAny_setField_rec z₂ (by simp) fun h₃ _ s₃=>fin (fun d o c1 _ c3 _ x=>s₃.extBut _ _ c1 (s₂ _ _ c3 (s₁.extBut _ _ c1 x))) ⟨u,s₃.extBut _ _ yz u1,u2⟩
 | some x=>
  have ey:us[k2]? = none:=by rcases e with h | h; rw [ex] at h; cases h; exact h
  refine wpAny_bind (Zgr (g1.off s₁.extBut D.i1z) (l1.off s₁.extBut D.l1z) ex fun h₂ g₂ s₂=>wpAny_pure ?_)
  have o₂:IsPair h₂ O p r:=s₂.extBut _ _ D.TOi1 (s₁.extBut _ _ D.TOz gO)
  refine wpAny_bind (wpAny_seqItems o₂ rfl (wpAny_bind (wpAny_updateSeq_pair o₂ fun h₃ o₃ s₃=>wpAny_bind (wpAny_letGo (wpAny_pure ?_)))))
  refine wpAny_bind (wpAny_bind (wpAny_onRaise (show wpAny _ _ (Builtin.SmallTypes.nextOf (.ref j2) >>= _) _ _ _ from ?_)))
  refine wpAny_bind (Znq hh (((g2.off s₁.extBut D.i2z).off s₂.extBut D.i12.symm).off s₃.extBut D.TOi2.symm) (((l2.off s₁.extBut D.l2z).off s₂.extBut D.l2i1).off s₃.extBut D.l2TO) ey fun h₄ y s₄ ⟨u,u1,u2⟩=>?_)
  have z₄:IsZip h₄ z U O .ellipsis:=s₄ _ _ D.i2z.symm (s₃.extBut _ _ D.TOz.symm (s₂.extBut _ _ D.i1z.symm z₁))
  have yz:y ≠ z:=fun x=>by subst x; rw [z₄] at u1; cases u1; simp at u2
  exact wpAny_setField_rec z₄ (by simp) fun h₅ _ s₅=>fin (fun d o c1 c2 c3 c4 x=>s₅.extBut _ _ c1 (s₄ _ _ c4 (s₃.extBut _ _ c2 (s₂.extBut _ _ c3 (s₁.extBut _ _ c1 x))))) ⟨u,s₅.extBut _ _ yz u1,u2⟩
end
section
abbrev zt1 (h:Heap) (a:Addr):Heap:=h.push ⟨.type "tuple_iterator",none,.fields #[.ref a,.int 0 0],#[]⟩
abbrev zt2 (h:Heap) (a c:Addr):Heap:=(zt1 h a).push ⟨.type "tuple_iterator",none,.fields #[.ref c,.int 0 0],#[]⟩
abbrev zt3 (h:Heap) (a c:Addr):Heap:=(zt2 h a c).push ⟨.type "tuple",none,.seq #[.ref h.objs.size,.ref (zt1 h a).objs.size],#[]⟩
abbrev zt4 (h:Heap) (a c:Addr):Heap:=(zt3 h a c).push ⟨.type "tuple",none,.seq #[.none,.none],#[]⟩
abbrev zt5 (h:Heap) (a c:Addr):Heap:=(zt4 h a c).push ⟨.type "zip",none,.fields #[.none,.bool false,.bool false,.ref (zt2 h a c).objs.size,.ref (zt3 h a c).objs.size],#[]⟩
theorem Zlz (a c:Addr) (vs us:Array Value) :
  Meets (Builtin.«zip.__new__» ⟨[.type "zip",.ref a,.ref c],[]⟩) (fun _ R s=>s.heap.IsTuple a vs/\s.heap.IsTuple c us/\R (.ok (.ret (.ref (zt4 s.heap a c).objs.size))) { s with heap:=zt5 s.heap a c }):=.of_wp fun prog w A R s h=>by
 obtain ⟨hp,g,d,tk,os⟩:=s; obtain ⟨u1,u2,h⟩:=h
 have sub0:=sub_zip
 have v1:Heap.IsTuple (Shared.heap ⟨hp,g,d,tk,os⟩) a vs:=u1
 have v2:Heap.IsTuple (Shared.heap ⟨hp.push { cls:=.type "tuple_iterator",data:=.fields #[.ref a,.int 0 0] },g,d,tk,os⟩) c us:=Heap.IsTuple.push u2 _
 wp_walk using wpAny_pyIter_tuple v1,wpAny_pyIter_tuple v2
 exact ⟨_,rfl,h⟩
variable {prog:Program} {w:World} {A:Around} {E:Value->Shared->Prop} {s:Shared}
theorem Zog {b:Bool} {a c:Addr} {vs us:Array Value} {Q:Value->Shared->Prop} (l1:HsB b s.heap a vs) (l2:HsB b s.heap c us)
  (q:∀ h',IsZip h' (s.heap.objs.size + 4) (s.heap.objs.size + 2) (s.heap.objs.size + 3) .none->IsPair h' (s.heap.objs.size + 2) (.ref s.heap.objs.size) (.ref (s.heap.objs.size + 1))->IsPair h' (s.heap.objs.size + 3) .none .none →
   ItB b h' s.heap.objs.size a 0->ItB b h' (s.heap.objs.size + 1) c 0->(∀ d o,s.heap.get? d=some o->h'.get? d=some o)->Q (.ref (s.heap.objs.size + 4)) { s with heap:=h' }):wpAny (model prog w) A (call (.type "zip") [.ref a,.ref c]) Q E s:=by
 cases b
 ·exact call_zip_2 l1 l2 fun h' b1 b2 b3 b4 b5 b6 hk=>q h' b1 b2 b3 b4 b5 hk
 ·refine callType_new F.called_zip (by decide) (F.typeCall_zip_2 _ _) (F.newCall_zip_2 _ _) (fun obj=>F.args_object_init_3 obj _ _) F.entry_zip_new (Zlz a c vs us) ⟨l1,l2,?_⟩
  have z1:(zt1 s.heap a).objs.size=s.heap.objs.size + 1:=Heap.size_push ..
  have z2:(zt2 s.heap a c).objs.size=s.heap.objs.size + 2:=by rw [Heap.size_push,z1]
  have z3:(zt3 s.heap a c).objs.size=s.heap.objs.size + 3:=by rw [Heap.size_push,z2]
  have z4:(zt4 s.heap a c).objs.size=s.heap.objs.size + 4:=by rw [Heap.size_push,z3]
  have p5:(zt5 s.heap a c).get? (zt4 s.heap a c).objs.size=some _:=Heap.get?_push_size _ rfl
  have p4:(zt5 s.heap a c).get? (zt3 s.heap a c).objs.size=some _:=Heap.get?_push_of_some _ (Heap.get?_push_size _ rfl)
  have p3:(zt5 s.heap a c).get? (zt2 s.heap a c).objs.size=some _:=Heap.get?_push_of_some _ (Heap.get?_push_of_some _ (Heap.get?_push_size _ rfl))
  have p2:(zt5 s.heap a c).get? (zt1 s.heap a).objs.size=some _:=Heap.get?_push_of_some _ (Heap.get?_push_of_some _ (Heap.get?_push_of_some _ (Heap.get?_push_size _ rfl)))
  have p1:(zt5 s.heap a c).get? s.heap.objs.size=some _:=Heap.get?_push_of_some _ (Heap.get?_push_of_some _ (Heap.get?_push_of_some _ (Heap.get?_push_of_some _ (Heap.get?_push_size _ rfl))))
  show _/\_
  rw [z2,z3,z4] at p5
  rw [z1,z2] at p3
  rw [z3] at p4
  rw [z1] at p2
  rw [z4]
  exact ⟨⟨_,p5,rfl⟩,q _ p5 p3 p4 ⟨_,p1,rfl,rfl⟩ ⟨_,p2,rfl,rfl⟩ fun d o e=>Heap.get?_push_of_some _ (Heap.get?_push_of_some _ (Heap.get?_push_of_some _ (Heap.get?_push_of_some _ (Heap.get?_push_of_some _ e))))⟩
end
def Izb (b:Bool) (K:PySem.W.Frag) (l1 l2:Addr):It:=
 ⟨fun i H=>∃ xs ys x y,SqB b K H l1 xs/\SqB b K H l2 ys/\xs[i]? = some x/\ys[i]? = some y,
  fun i H v H'=>∃ p x y,H p=none/\v=.ref p/\H' = upd H p (.tup [x,y])/\∀ xs ys,SqB b K H l1 xs->SqB b K H l2 ys->xs[i]? = some x/\ys[i]? = some y,
  fun i H=>∃ xs ys,SqB b K H l1 xs/\SqB b K H l2 ys/\(xs.length<=i\/ys.length<=i)⟩
theorem Zn3 {b:Bool} {P:Program} {w:World} {K:PySem.W.Frag} {es:List Expr} {kk:Nat} {tp:Pos} (l1 l2 z TI TO i1 i2:Addr) (D:ZipApart z TI TO i1 i2 l1 l2):Turn P w K (.Tuple es kk tp) (Izb b K l1 l2) [z,TI,TO,i1,i2] z
  (fun i h=>IsZip h z TI TO .none/\IsPair h TI (.ref i1) (.ref i2)/\(∃ a b,IsPair h TO a b)/\ItB b h i1 l1 i/\ItB b h i2 l2 i) where
 mem:=by simp
 obj:=fun i h st b2 hb=>by
  obtain ⟨hz,hTI,⟨a,b',hTO⟩,h1,h2⟩:=st
  obtain ⟨o1,e1,d1⟩:=h1.obj
  obtain ⟨o2,e2,d2⟩:=h2.obj
  simp only [List.mem_cons,List.not_mem_nil,or_false] at hb
  rcases hb with rfl | rfl | rfl | rfl | rfl
  ·exact ⟨_,hz,fun v q=>by cases q⟩
  ·exact ⟨_,hTI,fun v q=>by cases q⟩
  ·exact ⟨_,hTO,fun v q=>by cases q⟩
  ·exact ⟨o1,e1,fun v q=>by rw [d1] at q; cases q⟩
  ·exact ⟨o2,e2,fun v q=>by rw [d2] at q; cases q⟩
 keep:=fun i h h' st k=>by
  obtain ⟨hz,hTI,⟨a,b',hTO⟩,h1,h2⟩:=st
  exact ⟨k z (by simp) _ hz,k TI (by simp) _ hTI,⟨a,b',k TO (by simp) _ hTO⟩,h1.at fun o e=>k i1 (by simp) o e,h2.at fun o e=>k i2 (by simp) o e⟩
 item:=by
  intro X hP hw hK hc i pins s σ H E I hf st hg
  subst hP hw hK
  obtain ⟨hz,hTI,⟨a,b',hTO⟩,h1,h2⟩:=st
  obtain ⟨xs,ys,x,y,hq1,hq2,hx,hy⟩:=hg
  obtain ⟨its1,r1,p1⟩:=I.seqB hq1
  obtain ⟨its2,r2,p2⟩:=I.seqB hq2
  obtain ⟨u1,hu1,ru1⟩:=r1.get hx
  obtain ⟨u2,hu2,ru2⟩:=r2.get hy
  refine Zpa D hz hTI hTO h1 h2 p1 p2 (x:=u1) (y:=u2) (by simpa using hu1) (by simpa using hu2) fun h' b1 b2 b3 b4 b5 b6 hk=>?_
  refine ⟨_,rfl,wpAny_letOwnedTupleGo_zip (s:={ s with heap:=h' }) b1 fun h'' hz'' hs''=>?_⟩
  have lt:∀ {c o},s.heap.get? c=some o->c ≠ s.heap.objs.size:=fun e=>Nat.ne_of_lt (Heap.lt_size e)
  have hTz:s.heap.objs.size ≠ z:=Ne.symm (lt hz)
  have hTfree:H s.heap.objs.size=none:=I.hok.fresh (Nat.le_refl _)
  have kept:∀ c o,c ∉ [z,TI,TO,i1,i2]->s.heap.get? c=some o->h''.get? c=some o:=fun c o hc e=>by
   simp only [List.mem_cons,List.not_mem_nil,or_false,not_or] at hc
   exact hs''.extBut _ _ hc.1 (hk c o hc.1 hc.2.2.1 hc.2.2.2.1 hc.2.2.2.2 e)
  have hT:h''.get? s.heap.objs.size=some { cls:=.type "tuple",data:=.seq #[u1,u2] }:=hs''.extBut _ _ hTz b5
  have ntr:∀ c o,H c=some o->c ∉ [z,TI,TO,i1,i2]:=fun c o e hc=>by rw [(hf c hc).1] at e; cases e
  have hok:HOk X.prog X.w (upd H s.heap.objs.size (.tup [x,y])) h'':=fun c o e=>by
   by_cases hcT:c=s.heap.objs.size
   ·subst hcT
    rw [Zam] at e
    cases e
    exact ⟨by show 2<=sizeLine; decide,[u1,u2],.cons ru1 (.cons ru2 .nil),_,hT,⟨rfl,_,rfl⟩,rfl⟩
   ·rw [Zak hcT] at e
    refine (I.hok c o e).stay (fun d v hd q=>kept d v ?_ q) (fun d q=>by rw [Zak (Zan q hTfree)]; exact q) fun d zs q=>by rw [Zak (Zan q hTfree)]; exact q
    rcases hd with hd | hd
    ·rw [hd]; exact ntr c o e
    ·exact ntr d _ hd
  have I2:Inv X pins σ (upd H s.heap.objs.size (.tup [x,y])) { s with heap:=h'' }:=by
   refine I.call (g':=s.gens) (t':=s.toks) (d':=s.drawn) (ch:=[z,TI,TO,i1,i2]) ⟨fun c o e n hc hx=>kept c o hx e,fun c o e n hc hx=>⟨o.slots,kept c o hx e⟩,fun c o e n hx=>by rw [Zak (lt e)]; exact n,fun c o e hx=>⟨o,kept c o hx e⟩,
    fun c zs q=>by rw [Zak (Zan q hTfree)]; exact q,fun c o zs q=>by rw [Zak (Zan q hTfree)]; exact q,fun c zs q=>⟨#[],by rw [Zak (Zan q hTfree),q]; simp⟩⟩ hok I.bare fun c hcc=>?_
   obtain ⟨f0,f1,f2,f3,f4,f5⟩:=hf c hcc
   exact ⟨f3,f1,f4,f5⟩
  refine ⟨.ref s.heap.objs.size,_,I2,rfl,⟨s.heap.objs.size,x,y,hTfree,rfl,rfl,fun xs' ys' q1 q2=>?_⟩,⟨hz'',hs''.extBut _ _ D.TIz (hk _ _ D.TIz D.TITO D.TIi1 D.TIi2 hTI),⟨_,_,hs''.extBut _ _ D.TOz b2⟩,b3.off hs''.extBut D.i1z,b4.off hs''.extBut D.i2z⟩,fun c hcc=>?_⟩
  ·rw [I.seqB_inj q1 hq1,I.seqB_inj q2 hq2]; exact ⟨hx,hy⟩
  ·have hcl:c ≠ s.heap.objs.size:=by
    simp only [List.mem_cons,List.not_mem_nil,or_false] at hcc
    obtain ⟨_,e1,_⟩:=h1.obj
    obtain ⟨_,e2,_⟩:=h2.obj
    rcases hcc with rfl | rfl | rfl | rfl | rfl
    ·exact lt hz
    ·exact lt hTI
    ·exact lt hTO
    ·exact lt e1
    ·exact lt e2
   rw [Zak hcl]; exact (hf c hcc).1
 done:=by
  intro X hP hw hK hc i pins s σ H E I hf st hg
  subst hP hw hK
  obtain ⟨hz,hTI,⟨a,b',hTO⟩,h1,h2⟩:=st
  obtain ⟨xs,ys,hq1,hq2,hend⟩:=hg
  obtain ⟨its1,r1,p1⟩:=I.seqB hq1
  obtain ⟨its2,r2,p2⟩:=I.seqB hq2
  have l1':=r1.length
  have l2':=r2.length
  refine Zp8 (I.ok.hd hc) D hz hTI hTO h1 h2 p1 p2 ?_ fun h' hk=>⟨rfl,?_⟩
  ·rcases hend with q | q
   ·left; simp; omega
   ·right; simp; omega
  ·have kept:∀ c o,c ∉ [z,TI,TO,i1,i2]->s.heap.get? c=some o->h'.get? c=some o:=fun c o hc e=>by
    simp only [List.mem_cons,List.not_mem_nil,or_false,not_or] at hc
    exact hk c o hc.1 hc.2.2.1 hc.2.2.2.1 hc.2.2.2.2 e
   have ntr:∀ c o,H c=some o->c ∉ [z,TI,TO,i1,i2]:=fun c o e hc=>by rw [(hf c hc).1] at e; cases e
   refine I.call (g':=s.gens) (t':=s.toks) (d':=s.drawn) (ch:=[z,TI,TO,i1,i2]) ⟨fun c o e n hc hx=>kept c o hx e,fun c o e n hc hx=>⟨o.slots,kept c o hx e⟩,fun c o e n hx=>n,fun c o e hx=>⟨o,kept c o hx e⟩,
    fun c zs q=>q,fun c o zs q=>q,fun c zs q=>⟨#[],by rw [q]; simp⟩⟩ (fun c o e=>?_) I.bare fun c hcc=>?_
   ·refine (I.hok c o e).stay (fun d v hd q=>kept d v ?_ q) (fun d q=>q) fun d zs q=>q
    rcases hd with hd | hd
    ·rw [hd]; exact ntr c o e
    ·exact ntr d _ hd
   ·obtain ⟨f0,f1,f2,f3,f4,f5⟩:=hf c hcc
    exact ⟨f3,f1,f4,f5⟩
 self:=fun _ _ _ _ _ st h=>wpAny_pyIter_zip st.1 h
section
variable {X:Cx}
def iZip (K:PySem.W.Frag) (ta:TA):TI:=fun σ H R=>ta σ H fun vs H1=>∃ b l1 l2,vs=[.ref l1,.ref l2]/\(∃ xs,SqB b K H1 l1 xs)/\(∃ ys,SqB b K H1 l2 ys)/\R (Izb b K l1 l2) H1
theorem Zq1 (K:PySem.W.Frag) {es:List Expr} {kk:Nat} {tp:Pos} {a b:Expr} {ta:TA} {p pos:Pos} (hg:Gl X "zip") (hm:X.mg "zip" = none) (ha:PA X [a,b] ta) (hs:starEach [a,b] X.env=[(false,eval a X.env),(false,eval b X.env)]:=by rfl) (hs2:starEach [b] X.env=[(false,eval b X.env)]:=by rfl) (hK:X.K=K:=by rfl) :
  PI X (.Tuple es kk tp) (.Call (.Name "zip" p) [a,b] [] pos) (iZip K ta):=by
 subst hK
 intro pins s σ H R I h
 refine Call_ (Zet I hg hm (Zr6) (PyProof.Rows.callWith_type1 (thn (ha pos pins s σ H _ I h) fun us s1 ⟨vs,H1,I1,r1,q1⟩=>?_) (by rw [hs,hs2]) (by rw [hs2]; rfl)))
 obtain ⟨b,l1,l2,e,⟨xs,hx⟩,⟨ys,hy⟩,q⟩:=q1
 subst e
 obtain ⟨u1,u2,rfl,q1,q2⟩:=r1.two
 cases (show u1=Value.ref l1 from q1)
 cases (show u2=Value.ref l2 from q2)
 obtain ⟨its1,w1,p1⟩:=I1.seqB hx
 obtain ⟨its2,w2,p2⟩:=I1.seqB hy
 have lt1:l1 < s1.heap.objs.size:=p1.lt
 have lt2:l2 < s1.heap.objs.size:=p2.lt
 refine Zog p1 p2 fun h' b1 b2 b3 b4 b5 hk=>?_
 refine wpAny_pyIter_zip b1 ?_
 have I2:Inv X pins σ H1 { s1 with heap:=h' }:=I1.kept (t':=s1.toks) hk
 refine ⟨s1.heap.objs.size + 4,[s1.heap.objs.size + 4,s1.heap.objs.size + 2,s1.heap.objs.size + 3,s1.heap.objs.size,s1.heap.objs.size + 1],_,_,H1,rfl,I2,Zn3 l1 l2 _ _ _ _ _ (zipApart_new lt1 lt2),⟨b1,b2,⟨_,_,b3⟩,b4,b5⟩,fun b hb=>?_,q⟩
 have hge:s1.heap.objs.size<=b:=by
  simp only [List.mem_cons,List.not_mem_nil,or_false] at hb
  rcases hb with rfl | rfl | rfl | rfl | rfl <;> omega
 exact I1.fpOk hge (I1.hok.fresh hge)
end
end L2
set_option Elab.async false
set_option linter.all false
set_option maxRecDepth 100000
namespace L2
open PySem PySem.Spec PyProof.Rows
section
variable {X:Cx}
def rAll (K:PySem.W.Frag):List V->Hp->VK->Prop:=fun xs H Q=>∃ (p:Addr) (bs:List Bool),xs=[.ref p]/\SqL K H p (bs.map V.bl)/\Q (.bl (bs.all id)) H
theorem allK (K:PySem.W.Frag) (hc:X.calm=true) (hK:X.K=K:=by rfl):CallR X (.builtin "all") (rAll K):=by
 subst hK
 intro pins s σ H xs us Q I r h
 obtain ⟨p,bs,rfl,hx,q⟩:=h
 obtain ⟨u,rfl,ru⟩:=vals1 r
 cases (show u=Value.ref p from ru)
 obtain ⟨its,w1,p1,_⟩:=I.list hx
 have hlt:p < s.heap.objs.size:=by obtain ⟨o,e,_⟩:=p1.isList; exact Heap.lt_size e
 have hval:∀ (bs:List Bool) (its:List Value),Vals (bs.map V.bl) its->its=bs.map Value.bool:=by
  intro bs
  induction bs with
  | nil=>intro its h; cases h; rfl
  | cons b r ih=>intro its h; cases h with | cons h1 h2=>cases (show _=Value.bool b from h1); rw [ih _ h2]; rfl
 have e:=hval bs its w1
 subst e
 refine call_all_walk (wpAny_pyIter_list p1.isList ?_)
 refine ⟨s.heap.objs.size,_,_,_,_,_,fun i=>bs.getD i false,rfl,Walks.list (prog:=X.prog) (w:=X.w) (A:=X.A.in1) (show X.A.in1.handled=none from I.ok.hd hc) s.heap.objs.size p (Nat.ne_of_lt hlt) (bs.map Value.bool).toArray,⟨⟨_,Heap.get?_push_size _ rfl,rfl,rfl⟩,p1.isList.push _⟩,?_,fun h' tk hk=>?_⟩
 ·intro i v s0 Q0 E0 hv hq
  have hv:(bs.map Value.bool).toArray[i]? = some v:=hv
  have hv:(bs.map Value.bool)[i]? = some v:=by simpa using hv
  rw [List.getElem?_map] at hv
  cases z:bs[i]? with
  | none=>rw [z] at hv; cases hv
  | some b=>
   rw [z] at hv
   have hv:Value.bool b=v:=by simpa using hv
   subst hv
   have e0:bs.getD i false=b:=by rw [List.getD_eq_getElem?_getD,z]; rfl
   have hq:Q0 (bs.getD i false) s0:=hq
   rw [e0] at hq
   exact wpAny_truthy_bool hq
 ·have e:(List.range (bs.map Value.bool).toArray.size).all (fun i=>bs.getD i false)=bs.all id:=by
   rw [List.size_toArray,List.length_map]
   rw [Bool.eq_iff_iff,List.all_eq_true,List.all_eq_true]
   constructor
   ·intro hh b hb
    obtain ⟨i,hi,rfl⟩:=List.mem_iff_getElem.mp hb
    have:=hh i (List.mem_range.mpr hi)
    rw [List.getD_eq_getElem?_getD,List.getElem?_eq_getElem hi] at this
    exact this
   ·intro hh i hi
    rw [List.mem_range] at hi
    rw [List.getD_eq_getElem?_getD,List.getElem?_eq_getElem hi]
    exact hh _ (List.getElem_mem hi)
  rw [e]
  have I0:Inv X pins σ H { s with heap:=s.heap.push { cls:=.type "list_iterator",data:=.fields #[.ref p,.int 0 0] },toks:=s.toks }:=I.kept fun b o e=>Heap.get?_push_of_some _ e
  refine ⟨.bl (bs.all id),H,I0.turned (it:=s.heap.objs.size) (fun b o hb e=>hk b o (by simpa using hb) e) (I.hok.fresh (Nat.le_refl _)) (Nat.ne_of_gt I.lt) (.inr I.sz) ?_ ?_,rfl,q⟩
  ·have:=I.fpOk (b:=s.heap.objs.size) (H':=H) (Nat.le_refl _) (I.hok.fresh (Nat.le_refl _))
   exact this.2.2.2.2.1
  ·have:=I.fpOk (b:=s.heap.objs.size) (H':=H) (Nat.le_refl _) (I.hok.fresh (Nat.le_refl _))
   exact this.2.2.2.2.2
def rIsiU (K:PySem.W.Frag):List V->Hp->VK->Prop:=fun xs H Q=>rIsi K xs H Q\/∃ (x:V) (p:Addr) (ns:List String) (T:String) (b:Bool),xs=[x,.ref p]/\H p=some (.tup (ns.map V.ty))/\TyOf K H x (.type T)/\PySem.W.kitAny K (.type T) (ns.map Value.type)=some b/\Q (.bl b) H
theorem Zi6 {pins:List (Addr × Obj)} {σ:St} {H:Hp} {s:Shared} {x:V} {u t:Value} (I:Inv X pins σ H s) (rx:RelV x u) (ty:TyOf X.K H x t) (nt:∃ T,t=.type T):∃ Hh:Heap->Prop,PySem.W.KitX X.K u t Hh/\Hh s.heap/\u ≠ .builtin "__main__.__loader__#opaque":=by
 cases ty with
 | non=>cases (show u=Value.none from rx); exact ⟨_,PySem.W.kitx_none,True.intro,fun z=>nomatch z⟩
 | bl y=>cases (show u=Value.bool y from rx); exact ⟨_,PySem.W.kitx_bool,True.intro,fun z=>nomatch z⟩
 | int i=>obtain ⟨t,q⟩:=(show ∃ t,u=Value.int i t from rx); cases q; exact ⟨_,PySem.W.kitx_int,True.intro,fun z=>nomatch z⟩
 | str y=>obtain ⟨t,q⟩:=(show ∃ t,u=Value.str y t from rx); cases q; exact ⟨_,PySem.W.kitx_str,True.intro,fun z=>nomatch z⟩
 | flt y=>obtain ⟨t,q⟩:=(show ∃ t,u=Value.float y t from rx); cases q; exact ⟨_,PySem.W.kitx_float,True.intro,fun z=>nomatch z⟩
 | @lst a xs ea=>
  cases (show u=Value.ref a from rx)
  obtain ⟨_,_,n,_,h1⟩:=(show ObjOk X.prog X.w H s.heap a (.lst xs) from I.hok a _ ea)
  exact ⟨_,PySem.W.kitx_list,⟨_,h1,rfl⟩,fun z=>nomatch z⟩
 | @frz a ob xs ea=>
  cases (show u=Value.ref a from rx)
  obtain ⟨_,_,_,n,_,h1⟩:=(show ObjOk X.prog X.w H s.heap a (.frz ob (.lst xs)) from I.hok a _ ea)
  exact ⟨_,PySem.W.kitx_list,⟨_,h1,rfl⟩,fun z=>nomatch z⟩
 | @tup a xs ea=>
  cases (show u=Value.ref a from rx)
  obtain ⟨_,_,_,p⟩:=(show ObjOk X.prog X.w H s.heap a (.tup xs) from I.hok a _ ea)
  obtain ⟨o,h1,⟨h2,_⟩,_⟩:=p
  exact ⟨_,PySem.W.kitx_tuple,⟨o,h1,h2⟩,fun z=>nomatch z⟩
 | @dK a kvs ea=>
  cases (show u=Value.ref a from rx)
  obtain ⟨_,_,vs,_,p⟩:=(show ObjOk X.prog X.w H s.heap a (.dK kvs) from I.hok a _ ea)
  obtain ⟨o,es,ep,h1,h2,_⟩:=p
  exact ⟨_,PySem.W.kitx_dict,⟨o,h1,h2.1⟩,fun z=>nomatch z⟩
 | @dT a kvs ea=>
  cases (show u=Value.ref a from rx)
  obtain ⟨_,_,xs,_,o,es,ep,h1,h2,_⟩:=(show ObjOk X.prog X.w H s.heap a (.dT kvs) from I.hok a _ ea)
  exact ⟨_,PySem.W.kitx_dict,⟨o,h1,h2.1⟩,fun z=>nomatch z⟩
 | @ins a C dx fs ea cl ha hn htk hm=>obtain ⟨T,e⟩:=nt; cases e
theorem isiUK (K:PySem.W.Frag) (hK:X.K=K:=by rfl):CallR X (.builtin "isinstance") (rIsiU K):=by
 subst hK
 refine CallR.or Zg5 ?_
 intro pins s σ H xs us Q I r h
 obtain ⟨x,p,ns,T,b,rfl,hp,ty,e,q⟩:=h
 obtain ⟨u,u',rfl,rx,rn⟩:=vals2 r
 cases (show u' = Value.ref p from rn)
 obtain ⟨Hh,Z,hz,hne⟩:=Zi6 I rx ty ⟨T,rfl⟩
 obtain ⟨_,its,rv,o,ho,⟨hc,n,hd⟩,hdd⟩:=I.hok p _ hp
 have hv:∀ (ns:List String) (its:List Value),Vals (ns.map V.ty) its->its=ns.map Value.type:=by
  intro ns
  induction ns with
  | nil=>intro its h; cases h; rfl
  | cons b r ih=>intro its h; cases h with | cons h1 h2=>cases (show _=Value.type b from h1); rw [ih _ h2]; rfl
 have e2:=hv ns its rv
 subst e2
 obtain ⟨cls,dd,data,sl⟩:=o
 simp only at hc hd hdd
 subst hc hd hdd
 exact PySem.W.kia_tup Z I.kIn hz ho e hne fun tk=>⟨.bl b,H,I.tok _,rfl,q⟩
end
section
variable {K:PySem.W.Frag} {Δ:Evt}
theorem Zii {b:Bool} {G:Hp} {l1 l2:Addr} {xs ys:List V} {ds es:List D} (h1:∀ G1 H1,Same G G1->Same G1 H1->SqB b K H1 l1 xs) (h2:∀ G1 H1,Same G G1->Same G1 H1->SqB b K H1 l2 ys) (r1:Reps K G xs ds) (r2:Reps K G ys es) (hl:ds.length=es.length) :
  ItOk K G (Izb b K l1 l2) ((ds.zip es).map fun p=>D.tup [p.1,p.2]):=fun G1 H1 sg sh=>by
 have hl1:=r1.length
 have hl2:=r2.length
 have e1:=h1 G1 H1 sg sh
 have e2:=h2 G1 H1 sg sh
 refine ⟨⟨xs,ys,e1,e2,.inl (by rw [List.length_map,List.length_zip]; omega)⟩,fun i d hd=>?_⟩
 rw [List.getElem?_map] at hd
 cases q:(ds.zip es)[i]? with
 | none=>rw [q] at hd; cases hd
 | some pr=>
  rw [q] at hd
  have hd:D.tup [pr.1,pr.2]=d:=by simpa using hd
  subst hd
  rw [List.getElem?_zip_eq_some] at q
  obtain ⟨u,hu,ru⟩:=r1.get q.1
  obtain ⟨v,hv,rv⟩:=r2.get q.2
  refine ⟨⟨xs,ys,u,v,e1,e2,hu,hv⟩,fun x H2 ⟨p,a,b',hp,ex,eH,hab⟩=>?_⟩
  obtain ⟨ha,hb⟩:=hab xs ys e1 e2
  rw [hu] at ha; rw [hv] at hb
  cases ha; cases hb
  subst ex; subst eH
  have hG:G1 p=none:=by
   cases z:G1 p with
   | none=>rfl
   | some o=>rw [sh _ _ z] at hp; cases hp
  refine ⟨upd G1 p (.tup [u,v]),fun c o e=>by rw [Zak (Zan e hG)]; exact e,fun c o e=>by rw [Zak (Zan e hp)]; exact e,fun c o e=>?_,?_⟩
  ·by_cases hc:c=p
   ·subst hc; rw [Zam] at e ⊢; exact ⟨e,.inr hp⟩
   ·rw [Zak hc] at e ⊢; exact ⟨sh c o e,.inl e⟩
  ·have sg2:Same G1 (upd G1 p (.tup [u,v])):=fun c o e=>by rw [Zak (Zan e hG)]; exact e
   exact .tup Zam (.cons ((ru.mono sg).mono sg2) (.cons ((rv.mono sg).mono sg2) .nil))
theorem Zqa {ta:TA} {P:List D->Evt->Prop} (h:JA K ta Δ fun ds Δ1=>∃ as bs,ds=[.lst as,.lst bs]/\as.length=bs.length/\P ((as.zip bs).map fun p=>D.tup [p.1,p.2]) Δ1):JI K (iZip K ta) Δ P:=fun g G H σ R k c=>
 h g G H σ _ k fun vs ds G1 H1 Δ1 k1 s1 r1 hq_=>by
  obtain ⟨as,bs,e,hl,p1⟩:=hq_
  subst e
  obtain ⟨_,_,rfl,ra,rr⟩:=r1.inv
  next=>
   obtain ⟨_,_,rfl,rb,rr⟩:=rr.inv
   next=>
    cases rr.inv
    obtain ⟨_,_,rfl,ha,rsa⟩:=ra.inv
    next=>
     obtain ⟨_,_,rfl,hb,rsb⟩:=rb.inv
     next=>
      exact ⟨false,_,_,rfl,⟨_,SqL.of (k1.live _ _ ha)⟩,⟨_,SqL.of (k1.live _ _ hb)⟩,c _ _ G1 H1 Δ1 k1 s1 (Zii (fun _ _ sg sh=>SqL.of (sh _ _ (sg _ _ ha))) (fun _ _ sg sh=>SqL.of (sh _ _ (sg _ _ hb))) rsa rsb hl) p1⟩
theorem Znx {ta:TA} {P:List D->Evt->Prop} (h:JA K ta Δ fun ds Δ1=>∃ as bs,ds=[.tup as,.tup bs]/\as.length=bs.length/\P ((as.zip bs).map fun p=>D.tup [p.1,p.2]) Δ1):JI K (iZip K ta) Δ P:=fun g G H σ R k c=>
 h g G H σ _ k fun vs ds G1 H1 Δ1 k1 s1 r1 hq_=>by
  obtain ⟨as,bs,e,hl,p1⟩:=hq_
  subst e
  obtain ⟨_,_,rfl,ra,rr⟩:=r1.inv
  next=>
   obtain ⟨_,_,rfl,rb,rr⟩:=rr.inv
   next=>
    cases rr.inv
    obtain ⟨_,_,rfl,ha,rsa⟩:=ra.inv
    next=>
     obtain ⟨_,_,rfl,hb,rsb⟩:=rb.inv
     next=>
      exact ⟨true,_,_,rfl,⟨_,SqT.of (k1.live _ _ ha)⟩,⟨_,SqT.of (k1.live _ _ hb)⟩,c _ _ G1 H1 Δ1 k1 s1 (Zii (fun _ _ sg sh=>SqT.of (sh _ _ (sg _ _ ha))) (fun _ _ sg sh=>SqT.of (sh _ _ (sg _ _ hb))) rsa rsb hl) p1⟩
theorem Znk {bs:List Bool} {P:D->Evt->Prop} (p:P (.bl (bs.all id)) Δ):JC K (rAll K) [.lst (bs.map D.bl)] Δ P:=fun g G H σ Q vs k rs c=>by
 obtain ⟨_,_,rfl,r,t⟩:=rs.inv
 next=>
  cases t.inv
  obtain ⟨a,ws,rfl,ha,rs⟩:=r.inv
  next=>
   have e:∀ (bs:List Bool) (ws:List V),Reps K G ws (bs.map D.bl)->ws=bs.map V.bl:=by
    intro bs
    induction bs with
    | nil=>intro ws h; cases h; rfl
    | cons b r ih=>intro ws h; cases h with | cons h1 h2=>cases h1; rw [ih _ h2]; rfl
   have:=e bs ws rs
   subst this
   exact ⟨_,bs,rfl,SqL.of (k.live _ _ ha),c _ _ G H Δ k (Same.refl _) (.bl _) p⟩
theorem Zbv {d:D} {n T:String} {b:Bool} {P:D->Evt->Prop} (ht:tyD d=some T) (e:∀ K,PySem.W.kitOne K (.type T) (.type n)=some b) (p:P (.bl b) Δ):JC K (rIsiU K) [d,.ty n] Δ P:=fun g G H σ Q vs k rs c=>.inl (Zq5 ht e p g G H σ Q vs k rs c)
theorem Zlp {f:DSp} {ta:TA} {E:XK} {ds:List D} {P:D->Evt->Prop} (ha:∀ g G H σ,Ok K g G H σ Δ -> ∃ F,Same G F/\Same F H/\∀ Q:List V->Hp->Prop,(∀ vs,Reps K F vs ds->Q vs H)->ta σ H Q)
  (hf:f ds fun d=>∃ b,d=.bl b/\P (.bl b) Δ):JE K (tCall (spD K f) [] E ta) Δ P:=fun g G H σ Q k c=>by
 obtain ⟨F,s1,s2,q⟩:=ha g G H σ k
 refine q _ fun vs rs=>?_
 show spD K f (vs ++ []) H Q E
 rw [List.append_nil]
 refine ⟨F,ds,_,s2,rs,hf,fun r H' d sh rr ⟨b,e,p⟩=>?_⟩
 subst e
 cases rr.inv
 exact c _ _ G H' Δ (k.grow (Same.refl _) sh fun b o e=>⟨sh b o (k.live b o e),.inl e⟩) (Same.refl _) (.bl b) p
end
end L2
set_option Elab.async false
set_option linter.all false
set_option maxRecDepth 100000
namespace L2
open PySem PySem.Spec PyProof.Rows
section
variable {X:Cx}
end
end L2
set_option Elab.async false
set_option linter.all false
set_option maxRecDepth 100000
namespace L2
open PySem PySem.Spec PyProof.Rows PySem.SeqAt
theorem Zjy:∀ n:Nat,n < 200->minRun' n n 0<=n:=by decide +kernel
section
variable {prog:Program} {w:World} {A:Around} {E:Value->Shared->Prop} {s:Shared}
theorem Zpw {st:SortSt} {nrem a:Nat} {Q:AscSt->SortSt->Prop} (hc:∀ i,1<=i->i < nrem->∀ Q:Option Bool->SortSt->Prop,Q (some false) st->wpS (model prog w) A E s (ltAt' i (i - 1)) Q st) (ha:1<=a) (han:a<=nrem) (h:Q (none,nrem) st) :
  wpS (model prog w) A E s (ascLoop a nrem) Q st:=by
 unfold ascLoop
 refine wpS_forRange (I:=fun x c st'=>st' = st/\c=(none,x)) ?step ?fin ⟨rfl,rfl⟩
 case fin=>
  rintro c st' ⟨rfl,rfl⟩
  rw [show max a nrem=nrem by omega]
  exact h
 case step=>
  rintro x c st' hax hxn ⟨rfl,rfl⟩
  dsimp only
  refine wpS_bind (hc x (by omega) hxn _ ?_)
  simp only [Bool.false_eq_true,if_false]
  exact wpS_pure ⟨rfl,rfl⟩
theorem Zm3 {st:SortSt} {n:Nat} {Q:Unit->SortSt->Prop} (hs:(arrOf st).size=n) (hp:pendingOf st = #[]) (h2:2<=n) (hn:n < 200) (hc:∀ i,1<=i->i < n->∀ Q:Option Bool->SortSt->Prop,Q (some false) st->wpS (model prog w) A E s (ltAt' i (i - 1)) Q st)
  (h:∀ st',arrOf st' = arrOf st->failedOf st' = failedOf st->Q () st'):wpS (model prog w) A E s sortRuns' Q st:=by
 have hmr:=Zjy n hn
 rw [sortRuns'_eq]
 refine wpS_bind (wpS_get ?_)
 dsimp only
 simp only [hs]
 refine wpS_bind (wpS_mono (wpS_forRange
  (I:=fun x c st'=>(x=0/\c=(none,0)/\st' = st)\/(1<=x/\c=(none,n)/\st' = setPending st #[(0,n,0)]))
  (Q:=fun c st'=>c=(none,n)/\st' = setPending st #[(0,n,0)]) ?step ?fin (.inl ⟨rfl,rfl,rfl⟩)) ?post)
 case fin=>
  rintro c st' (⟨hx,_,_⟩ | ⟨_,hc,hD⟩)
  ·omega
  ·exact ⟨hc,hD⟩
 case step=>
  rintro x c st' _ hx (⟨rfl,rfl,rfl⟩ | ⟨hx1,rfl,rfl⟩)
  ·dsimp only
   rw [if_neg (by omega)]
   simp only [Nat.sub_zero,Nat.zero_add]
   rw [countRun0_eq]
   refine wpS_bind (wpS_bind (Zpw hc (Nat.le_refl 1) (by omega) ?_))
   dsimp only
   rw [if_pos (by simp)]
   refine wpS_pure ?_
   dsimp only
   rw [if_neg (by omega)]
   refine wpS_bind (wpS_get ?_)
   rw [hp]
   refine wpS_bind (wpS_modify (wpS_pure (.inr ⟨by omega,rfl,?_⟩)))
   rw [hp]
   rfl
  ·dsimp only
   rw [if_pos (Nat.le_refl _)]
   exact wpS_pure ⟨rfl,rfl⟩
 case post=>
  rintro c st' ⟨rfl,rfl⟩
  dsimp only
  refine wpS_bind (wpS_mono (wpS_forRange (I:=fun _ c st''=>st'' = setPending st #[(0,n,0)]/\c=(none,())) (Q:=fun c st''=>st'' = setPending st #[(0,n,0)]/\c=(none,())) ?_ (fun _ _ hh=>hh) ⟨rfl,rfl⟩) ?_)
  ·rintro x c st'' _ _ ⟨rfl,rfl⟩
   refine wpS_bind (wpS_get ?_)
   rw [if_pos (show (pendingOf (setPending st #[(0,n,0)])).size<=1 from Nat.le_refl 1)]
   exact wpS_pure ⟨rfl,rfl⟩
  ·rintro c st'' ⟨rfl,rfl⟩
   exact wpS_pure (h _ rfl rfl)
def KeepBut (a:Addr) (h h':Heap):Prop:=∀ b o,b ≠ a->h.get? b=some o->h'.get? b=some o
theorem Zfe {a:Addr} {vs:List Value} {n:Nat} {κ:SortKind} {P:Fin->Shared->Prop} (ho:s.heap.get? a=some (seqObj "list" vs.toArray n)) (hz:vs.length < 200)
  (hk:2<=vs.length->∀ h',KeepBut a s.heap h' -> ∀ Q:SortKind->Shared->Prop,Q κ { s with heap:=h' } -> wpAny (model prog w) A (keyKind' vs.toArray) Q E { s with heap:=h' })
  (hc:∀ h',KeepBut a s.heap h' -> ∀ i,1<=i->i < vs.length->∀ (E:Value->Shared->Prop) (Q:Bool->Shared->Prop),Q false { s with heap:=h' } -> wpAny (model prog w) A (keyLt' κ (vs.getD i .none) (vs.getD (i - 1) .none)) Q E { s with heap:=h' })
  (h:P (.done (.ret .none)) { s with heap:=sortedHeap s.heap a vs vs.toArray }):wpAny (model prog w) A (Builtin.«list.sort» ⟨[.ref a],[]⟩) P E s:=by
 rw [list_sort_plain]
 have ha:a < s.heap.objs.size:=Heap.lt_size ho
 have hsz:vs.toArray.size=vs.length:=by simp
 have hline:vs.length<=sizeLine:=by rw [sizeLine_eq]; omega
 refine wpAny_bind (listItems_at ho rfl ?_)
 refine wpAny_bind (listUpdate_at ho rfl ?_ (by rw [hsz]; exact hline) (Nat.zero_le _))
 obtain ⟨e1,ho1⟩:∃ e1,(s.heap.update a (Obj.mapSeq fun _=>#[])).get? a=some (seqObj "list" #[] e1):=⟨_,get?_update_seq ho (fun _=>#[])⟩
 refine wpAny_bind (seqEpoch_at ho1 rfl ?_)
 refine wpAny_bind (wpAny_newTuple ?_ hline)
 refine wpAny_bind (wpAny_newList ?_ (Nat.zero_le _))
 refine wpAny_holding ?_
 have ho6:(((s.heap.update a (Obj.mapSeq fun _=>#[])).push (seqObj "tuple" vs.toArray 0)).push (seqObj "list" #[] 0)).get? a=some (seqObj "list" #[] e1):=by
  rw [Heap.get?_push_ne _ _ _ (by rw [size_push',Heap.size_update]; exact Nat.ne_of_lt (Nat.lt_succ_of_lt ha)),Heap.get?_push_ne _ _ _ (by rw [Heap.size_update]; exact Nat.ne_of_lt ha)]
  exact ho1
 have keep:KeepBut a s.heap (((s.heap.update a (Obj.mapSeq fun _=>#[])).push (seqObj "tuple" vs.toArray 0)).push (seqObj "list" #[] 0)):=fun b o hb q=>
  Heap.get?_push_of_some _ (Heap.get?_push_of_some _ ((Heap.get?_update_ne _ _ _ _ hb).trans q))
 show wpAny (model prog w) A _ P E { s with heap:=((s.heap.update a (Obj.mapSeq fun _=>#[])).push (seqObj "tuple" vs.toArray 0)).push (seqObj "list" #[] 0) }
 dsimp only
 have out:((vs.toArray.zip vs.toArray).map (·.2))=vs.toArray:=by
  apply Array.toList_inj.mp
  rw [Array.toList_map,Array.toList_zip]
  exact List.map_snd_zip (Nat.le_refl _)
 by_cases h2:vs.toArray.size < 2
 ·rw [if_pos h2,if_pos h2]
  refine wpAny_bind (wpAny_pure ?_)
  rw [StateT.run_pure]
  refine wpAny_bind (wpAny_pure ?_)
  dsimp only
  refine wpAny_bind (seqEpoch_at ho6 rfl ?_)
  rw [show arrOf (SortSt.mk' general' (vs.toArray.zip vs.toArray) #[] 7 none)=vs.toArray.zip vs.toArray from rfl,out]
  refine wpAny_bind (listUpdate_at ho6 rfl ?_ (Nat.zero_le _) (by rw [hsz]; exact Nat.le_succ_of_le hline))
  simp only [bne_self_eq_false,Bool.false_eq_true,if_false]
  exact wpAny_pure h
 ·rw [if_neg h2,if_neg h2]
  refine wpAny_bind (hk (by omega) _ keep _ ?_)
  refine wpAny_bind (wpAny_mono (Zm3 (n:=vs.length) (st:=SortSt.mk' κ (vs.toArray.zip vs.toArray) #[] 7 none) (Q:=fun _ st'=>arrOf st' = vs.toArray.zip vs.toArray/\failedOf st' = none) ?_ rfl (by omega) hz ?_ ?_) ?_ fun _ _ e=>e)
  ·show (vs.toArray.zip vs.toArray).size=_
   rw [Array.size_zip,hsz,Nat.min_self]
  ·intro i h1 hi Q hq
   have g:∀ j,j < vs.length->(arrOf (SortSt.mk' κ (vs.toArray.zip vs.toArray) #[] 7 none))[j]? = some (vs.getD j .none,vs.getD j .none):=fun j hj=>by
    show (vs.toArray.zip vs.toArray)[j]? = _
    rw [<- Array.getElem?_toList,Array.toList_zip]
    show (vs.zip vs)[j]? = _
    rw [List.getElem?_zip_eq_some,List.getD_eq_getElem?_getD,List.getElem?_eq_getElem hj]
    exact ⟨rfl,rfl⟩
   rw [ltAt'_eq]
   refine wpS_bind (wpS_get ?_)
   show wpS _ _ _ _ (do let x ← elem' (arrOf (SortSt.mk' κ (vs.toArray.zip vs.toArray) #[] 7 none)) i; let y ← elem' (arrOf (SortSt.mk' κ (vs.toArray.zip vs.toArray) #[] 7 none)) (i - 1); lt' x y) Q _
   rw [elem'_eq,elem'_eq,g i hi,g (i - 1) (by omega)]
   refine wpS_bind (wpS_pure (wpS_bind (wpS_pure ?_)))
   rw [lt'_eq]
   refine wpS_bind (wpS_get ?_)
   refine wpS_bind (wpS_lift (wpAny_attempt (hc _ keep i h1 hi _ _ ⟨rfl,?_⟩)))
   exact wpS_pure hq
  ·exact fun st' a1 a2=>⟨a1,a2⟩
  rintro ⟨⟨⟩,st'⟩ s' ⟨rfl,har,hf⟩
  dsimp only
  refine wpAny_bind (seqEpoch_at ho6 rfl ?_)
  rw [har,out]
  refine wpAny_bind (listUpdate_at ho6 rfl ?_ (Nat.zero_le _) (by rw [hsz]; exact Nat.le_succ_of_le hline))
  rw [hf]
  simp only [bne_self_eq_false,Bool.false_eq_true,if_false]
  exact wpAny_pure h
theorem Ze3 {l:Addr} {vs:List Value} {κ:SortKind} {Q:Value->Shared->Prop} (hl:s.heap.IsList l vs.toArray) (hz:vs.length < 200)
  (hk:2<=vs.length->∀ h',(∀ b o,s.heap.get? b=some o->h'.get? b=some o)->∀ (E:Value->Shared->Prop) (Q:SortKind->Shared->Prop),Q κ { s with heap:=h' } -> wpAny (model prog w) A.in1.in1 (keyKind' vs.toArray) Q E { s with heap:=h' })
  (hc:∀ h',(∀ b o,s.heap.get? b=some o->h'.get? b=some o)->∀ i,1<=i->i < vs.length->∀ (E:Value->Shared->Prop) (Q:Bool->Shared->Prop),Q false { s with heap:=h' } -> wpAny (model prog w) A.in1.in1 (keyLt' κ (vs.getD i .none) (vs.getD (i - 1) .none)) Q E { s with heap:=h' })
  (h:Q (.ref (s.heap.objs.size + 1)) { s with heap:=sortedAll s.heap vs vs.toArray }):wpAny (model prog w) A (call (.builtin "sorted") [.ref l]) Q E s:=by
 have hline:vs.length<=sizeLine:=by rw [sizeLine_eq]; omega
 refine Calls.call_function_entry kind_sorted plain_sorted entry_sorted (args_sorted1 _) ?_
 unfold Builtin.«sorted»
 refine wpAny_bind (m:=checkCount "sorted" 1 1 _) (wpAny_pure ?_)
 refine wpAny_bind (collect_list hl ?_ hline)
 refine wpAny_bind (wpAny_newList ?_ hline)
 have hsz:((s.heap.push (seqObj "list" #[] 0)).update s.heap.objs.size (Obj.mapSeq (· ++ vs.toArray))).objs.size=s.heap.objs.size + 1:=by
  rw [Heap.size_update,size_push']
 have hoL:(((s.heap.push (seqObj "list" #[] 0)).update s.heap.objs.size (Obj.mapSeq (· ++ vs.toArray))).push (seqObj "list" vs.toArray 0)).get? (s.heap.objs.size + 1)=some (seqObj "list" vs.toArray 0):=by
  rw [<- hsz]; exact Heap.get?_push_size _ rfl
 have keep:∀ b o,s.heap.get? b=some o->(((s.heap.push (seqObj "list" #[] 0)).update s.heap.objs.size (Obj.mapSeq (· ++ vs.toArray))).push (seqObj "list" vs.toArray 0)).get? b=some o:=fun b o q=>by
  have hlt:b < s.heap.objs.size:=Heap.lt_size q
  rw [Heap.get?_push_ne _ _ _ (by rw [hsz]; exact Nat.ne_of_lt (Nat.lt_succ_of_lt hlt)),Heap.get?_update_ne _ _ _ _ (Nat.ne_of_lt hlt),Heap.get?_push_ne _ _ _ (Nat.ne_of_lt hlt)]
  exact q
 have up:∀ h',KeepBut (s.heap.objs.size + 1) (((s.heap.push (seqObj "list" #[] 0)).update s.heap.objs.size (Obj.mapSeq (· ++ vs.toArray))).push (seqObj "list" vs.toArray 0)) h' -> ∀ b o,s.heap.get? b=some o->h'.get? b=some o:=fun h' k b o q=>
  k b o (Nat.ne_of_lt (Nat.lt_succ_of_lt (Heap.lt_size q))) (keep b o q)
 show wpAny _ _ _ _ _ { s with heap:=((s.heap.push (seqObj "list" #[] 0)).update s.heap.objs.size (Obj.mapSeq (· ++ vs.toArray))).push (seqObj "list" vs.toArray 0) }
 rw [hsz]
 refine wpAny_bind (wpAny_holding (wpAny_call_entry slot_list_sort ⟨_,hoL,rfl⟩ entry_list_sort (Zfe (κ:=κ) hoL hz (fun h2 h' k Q q=>hk h2 h' (up h' k) _ Q q) (fun h' k i h1 hi E Q q=>hc h' (up h' k) i h1 hi E Q q) ⟨_,rfl,?_⟩) (args_list_sort _)))
 exact wpAny_pure ⟨_,rfl,h⟩
end
def RowAt (h:Heap) (v:Value) (r:List Int):Prop:=∃ (a:Addr) (its:List Value),v=.ref a/\IsTup h a its.toArray/\IntsAre its r
theorem RowAt.keep {h h':Heap} {v:Value} {r:List Int} (x:RowAt h v r) (k:∀ b o,h.get? b=some o->h'.get? b=some o):RowAt h' v r:=by
 obtain ⟨a,its,e,⟨o,ho,hc⟩,i⟩:=x
 exact ⟨a,its,e,⟨o,k a o ho,hc⟩,i⟩
section
variable {X:Cx}
def rInU (K:PySem.W.Frag) (neg:Bool):R2:=fun x y H Q=>rIn K neg x y H Q\/(∃ a o,y=.ref a/\DGet H a x o/\Q (.bl (if neg then !o.isSome else o.isSome)) H) ∨
 ∃ a S n i,y=.ref a/\x=.int i/\H a=some (.set S n)/\Q (.bl (if neg then !S i else S i)) H
theorem notinK (K:PySem.W.Frag) (hu:X.A.units + 1 < cLine) (hK:X.K=K:=by rfl):OpR X (compareOp .NotIn) (rInU K true):=by
 subst hK
 intro pins s σ H x y v u Q I rx ry h
 rcases h with h | ⟨a,o,rfl,hd,q⟩ | ⟨a,S,n,i,rfl,rfl,hs,q⟩
 ·exact Zfx pins s σ H x y v u Q I rx ry h
 ·cases ry
  exact Zpv hu I hd rx fun s' I'=>⟨.bl _,H,I',rfl,q⟩
 ·cases ry
  obtain ⟨t,rfl⟩:=rx
  exact wpAny_notInSet_of (knd:=intKind X.prog X.w) (k:=i) (by simp [intKind,Value.isInt]) rfl (I.hok a _ hs) ⟨.bl _,H,I.tok _,rfl,q⟩
end
section
variable {K:PySem.W.Frag} {Δ:Evt} {P:D->Evt->Prop}
def rowD (r:List Int):D:=.tup (r.map D.int)
theorem Zrx {n:Nat} {x:Slot} {ds:List D} {nx bk ct:Evt->Prop} {rt:D->Evt->Prop} {ro:OD->Evt->Prop} (hx:Δ[n]? = some x) (ho:x.od=some (.lst ds)) (p:nx (Δ.set n (x.put (.lst ds.reverse)))) :
  JS K (tDrop (tBM0 K "list" rReverse (tVar n))) Δ ⟨nx,rt,bk,ct,ro⟩:=fun g G H σ E k c=>by
 obtain ⟨a,o,h1,h2,h3,h4,h5⟩:=k.own n x _ hx ho
 cases o with
 | lst vs=>exact ⟨.ref a,h1,.inl ⟨rfl,_,SqL.of h2⟩,a,vs,rfl,rfl,h2,c.nx σ G _ _ (k.write hx ho h1 (show OwnRep K G (.lst vs.reverse) (.lst ds.reverse) from Reps.reverse h3)) p⟩
 | _=>exact absurd h3 (fun z=>z)
end
theorem Zmx {A:Around} {k:Nat} (hr:Room k A):A.units + 8 < cLine:=Nat.lt_of_le_of_lt (Nat.add_le_add_left (by decide:8<=64) _) hr.units
end L2
set_option Elab.async false
set_option linter.all false
set_option maxRecDepth 100000
namespace L2
open PySem PySem.Spec PyProof.Rows PySem.SeqAt
def flatD:D->Option V
 | .non=>some .non
 | .bl b=>some (.bl b)
 | .int i=>some (.int i)
 | .str x=>some (.str x)
 | _=>none
def eqFlat (d e:D):Bool:=match flatD d,flatD e with
 | some x,some y=>eqV x y
 | _,_=>false
def eqF:Nat->D->D->Bool
 | 0,_,_=>false
 | n + 1,.tup xs,.tup ys=>xs.length == ys.length && (xs.zip ys).all fun p=>eqF n p.1 p.2
 | n + 1,.lst xs,.lst ys=>xs.length == ys.length && (xs.zip ys).all fun p=>eqF n p.1 p.2
 | _ + 1,d,e=>eqFlat d e
def Dp:Nat->D->Prop
 | 0,_=>False
 | _ + 1,.int _=>True
 | n + 1,.tup xs=>∀ d ∈ xs,Dp n d
 | n + 1,.lst xs=>∀ d ∈ xs,Dp n d
 | _,_=>False
theorem Rep.uniq {K:PySem.W.Frag} {G:Hp}:∀ (n:Nat) {v:V} {d e:D},Rep K G v d->Rep K G v e->Dp n d->Dp n e->d=e
 | 0,_,_,_,_,_,h,_=>h.elim
 | n + 1,v,d,e,hd,he,pd,pe=>by
  have all:∀ {vs:List V} {xs ys:List D},Reps K G vs xs->Reps K G vs ys->(∀ d ∈ xs,Dp n d)->(∀ d ∈ ys,Dp n d)->xs=ys:=by
   intro vs
   induction vs with
   | nil=>intro xs ys h1 h2 _ _; cases h1; cases h2; rfl
   | cons v vs ih=>
    intro xs ys h1 h2 p1 p2
    cases h1 with
    | cons a1 b1=>
     cases h2 with
     | cons a2 b2=>
      rw [Rep.uniq n a1 a2 (p1 _ List.mem_cons_self) (p2 _ List.mem_cons_self),ih b1 b2 (fun d hd=>p1 d (List.mem_cons_of_mem _ hd)) fun d hd=>p2 d (List.mem_cons_of_mem _ hd)]
  cases d with
  | int i=>cases hd; cases he; rfl
  | tup xs=>
   cases hd with
   | tup ha ra=>
    cases e with
    | tup ys=>cases he with | tup hb rb=>rw [ha] at hb; cases hb; rw [all ra rb pd pe]
    | lst ys=>cases he with | lst hb rb=>rw [ha] at hb; cases hb
    | int i=>cases he
    | _=>exact pe.elim
  | lst xs=>
   cases hd with
   | lst ha ra=>
    cases e with
    | lst ys=>cases he with | lst hb rb=>rw [ha] at hb; cases hb; rw [all ra rb pd pe]
    | tup ys=>cases he with | tup hb rb=>rw [ha] at hb; cases hb
    | int i=>cases he
    | _=>exact pe.elim
  | _=>exact pd.elim
theorem Zfd:∀ (n:Nat) (d:D),Dp n d->eqF n d d=true
 | 0,_,h=>h.elim
 | n + 1,.int i,_=>by show (i == i)=true; simp
 | n + 1,.tup xs,h=>by
  show (xs.length == xs.length && (xs.zip xs).all fun p=>eqF n p.1 p.2)=true
  rw [beq_self_eq_true,Bool.true_and,List.all_eq_true]
  intro p hp
  obtain ⟨i,hi⟩:=List.mem_iff_getElem?.mp hp
  rw [List.getElem?_zip_eq_some] at hi
  have e:p.1=p.2:=Option.some.inj (hi.1.symm.trans hi.2)
  rw [<- e]
  exact Zfd n _ (h _ (List.mem_of_getElem? hi.1))
 | n + 1,.lst xs,h=>by
  show (xs.length == xs.length && (xs.zip xs).all fun p=>eqF n p.1 p.2)=true
  rw [beq_self_eq_true,Bool.true_and,List.all_eq_true]
  intro p hp
  obtain ⟨i,hi⟩:=List.mem_iff_getElem?.mp hp
  rw [List.getElem?_zip_eq_some] at hi
  have e:p.1=p.2:=Option.some.inj (hi.1.symm.trans hi.2)
  rw [<- e]
  exact Zfd n _ (h _ (List.mem_of_getElem? hi.1))
 | _ + 1,.non,h=>h.elim
 | _ + 1,.bl _,h=>h.elim
 | _ + 1,.str _,h=>h.elim
 | _ + 1,.ty _,h=>h.elim
 | _ + 1,.scr _,h=>h.elim
 | _ + 1,.adr _,h=>h.elim
 | _ + 1,.dct _ _,h=>h.elim
 | _ + 1,.exc _ _,h=>h.elim
def atZip (n:Nat) (xs ys:List D) (j:Nat):Bool:=match xs[j]?,ys[j]? with
 | some a,some b=>eqF n a b
 | _,_=>false
theorem Ze9 (n:Nat):∀ (xs ys:List D),(List.range (min xs.length ys.length)).all (atZip n xs ys)=(xs.zip ys).all fun p=>eqF n p.1 p.2
 | [],ys=>by simp
 | _ :: _,[]=>by simp
 | x :: xs,y :: ys=>by
  rw [List.length_cons,List.length_cons,Nat.succ_min_succ,List.range_succ_eq_map,List.all_cons,List.all_map,List.zip_cons_cons,List.all_cons,<- Ze9 n xs ys]
  rfl
section
variable {X:Cx}
theorem Zni:∀ (n:Nat) {A:Around} {pins:List (Addr × Obj)} {σ:St} {H G:Hp} {s:Shared} {x y:V} {v u:Value} {d e:D},Inv X pins σ H s->Same G H->Rep X.K G x d->Rep X.K G y e->RelV x v->RelV y u->Dp n d->Dp n e->A.units + n < cLine →
  EqAt A s v u (eqF n d e)/\(∀ a b,v=.ref a->u=.ref b->RcAt A s v u (eqF n d e))
 | 0,_,_,_,_,_,_,_,_,_,_,_,_,_,_,_,_,_,_,h,_,_=>h.elim
 | n + 1,A,pins,σ,H,G,s,x,y,v,u,d,e,I,sg,rx,ry,rv,ru,pd,pe,hu=>by
  have hu0:A.units < cLine:=by omega
  have hu1:A.in1.units + n < cLine:=by show A.units + 1 + n < cLine; omega
  have items:∀ {vs us:List V} {its its2:List Value} {xs ys:List D},Vals vs its->Vals us its2->Reps X.K G vs xs->Reps X.K G us ys->(∀ d ∈ xs,Dp n d)->(∀ d ∈ ys,Dp n d) →
    ∀ j (h1:j < its.toArray.size) (h2:j < its2.toArray.size),EqAt A.in1 s its.toArray[j] its2.toArray[j] (atZip n xs ys j):=by
   intro vs us its its2 xs ys w1 w2 r1 r2 p1 p2 j h1 h2
   have l1:=w1.length
   have l2:=r1.length
   have l3:=w2.length
   have l4:=r2.length
   have h1':j < its.length:=by simpa using h1
   have h2':j < its2.length:=by simpa using h2
   have hx:j < xs.length:=by omega
   have hy:j < ys.length:=by omega
   obtain ⟨a,ha1,ha2⟩:=r1.get (List.getElem?_eq_getElem hx)
   obtain ⟨b,hb1,hb2⟩:=r2.get (List.getElem?_eq_getElem hy)
   obtain ⟨va,hv1,hv2⟩:=w1.get ha1
   obtain ⟨vb,hw1,hw2⟩:=w2.get hb1
   have e1:its.toArray[j]=va:=by
    rw [List.getElem?_eq_getElem h1'] at hv1
    simpa using Option.some.inj hv1
   have e2:its2.toArray[j]=vb:=by
    rw [List.getElem?_eq_getElem h2'] at hw1
    simpa using Option.some.inj hw1
   have e3:atZip n xs ys j=eqF n xs[j] ys[j]:=by unfold atZip; rw [List.getElem?_eq_getElem hx,List.getElem?_eq_getElem hy]
   rw [e1,e2,e3]
   exact (Zni n I sg ha2 hb2 hv2 hw2 (p1 _ (List.getElem_mem hx)) (p2 _ (List.getElem_mem hy)) hu1).1
  have same:∀ a,v=.ref a->u=.ref a->eqF (n + 1) d e=true:=fun a h1 h2=>by
   have hx:x=.ref a:=by cases x <;> simp [RelV,h1] at rv <;> first | (rw [rv]) | skip
   have hy:y=.ref a:=by cases y <;> simp [RelV,h2] at ru <;> first | (rw [ru]) | skip
   rw [hx] at rx; rw [hy] at ry
   rw [Rep.uniq (n + 1) rx ry pd pe]
   exact Zfd (n + 1) e pe
  have lift:(∃ a,v=.ref a)->(∃ b,u=.ref b)->(∀ a b,v=.ref a->u=.ref b->RcAt A s v u (eqF (n + 1) d e))->EqAt A s v u (eqF (n + 1) d e)/\(∀ a b,v=.ref a->u=.ref b->RcAt A s v u (eqF (n + 1) d e)):=by
   rintro ⟨a,rfl⟩ ⟨b,rfl⟩ h
   refine ⟨?_,h⟩
   by_cases hab:a=b
   ·subst hab
    rw [same a rfl rfl]
    exact EqAt.same _
   ·exact .of_refs hab (h a b rfl rfl)
  cases d with
  | int i=>
   cases rx
   obtain ⟨t,rfl⟩:=rv
   refine ⟨?_,fun a b z=>nomatch z⟩
   cases e with
   | int j=>
    cases ry
    obtain ⟨t',rfl⟩:=ru
    exact EqAt.int_int i t j t'
   | tup ys=>
    cases ry with
    | tup hb rb=>
     cases ru
     obtain ⟨its,w1,pl,_⟩:=I.tuple (SqT.of (sg _ _ hb))
     exact EqAt.int_tuple i t pl hu0
   | lst ys=>
    cases ry with
    | lst hb rb=>
     cases ru
     obtain ⟨its,w1,pl,_⟩:=I.list (SqL.of (sg _ _ hb))
     exact EqAt.int_list i t pl.isList hu0
   | _=>exact pe.elim
  | tup xs=>
   cases rx with
   | @tup a vs _ ha ra=>
    cases rv
    obtain ⟨its,w1,pl,_⟩:=I.tuple (SqT.of (sg _ _ ha))
    cases e with
    | int j=>
     cases ry
     obtain ⟨t',rfl⟩:=ru
     exact ⟨EqAt.tuple_int j t' pl hu0,fun a b _ z=>nomatch z⟩
    | tup ys=>
     cases ry with
     | @tup b us _ hb rb=>
      cases ru
      obtain ⟨its2,w2,pl2,_⟩:=I.tuple (SqT.of (sg _ _ hb))
      refine lift ⟨_,rfl⟩ ⟨_,rfl⟩ fun _ _ _ _=>?_
      have z:=RcAt.tuples (A:=A) (s:=s) pl pl2 hu0 (items w1 w2 ra rb pd pe)
      have e1:((List.range (min its.toArray.size its2.toArray.size)).all (atZip n xs ys) && its.toArray.size == its2.toArray.size)=eqF (n + 1) (.tup xs) (.tup ys):=by
       show _=(xs.length == ys.length && (xs.zip ys).all fun p=>eqF n p.1 p.2)
       rw [<- Ze9,List.size_toArray,List.size_toArray,<- w1.length,<- w2.length,ra.length,rb.length,Bool.and_comm]
      rw [e1] at z
      exact z
    | lst ys=>
     cases ry with
     | @lst b us _ hb rb=>
      cases ru
      obtain ⟨its2,w2,pl2,_⟩:=I.list (SqL.of (sg _ _ hb))
      exact ⟨EqAt.tuple_list pl pl2.isList hu0,fun _ _ _ _=>RcAt.tuple_list pl pl2.isList hu0⟩
    | _=>exact pe.elim
  | lst xs=>
   cases rx with
   | @lst a vs _ ha ra=>
    cases rv
    obtain ⟨its,w1,pl,_⟩:=I.list (SqL.of (sg _ _ ha))
    cases e with
    | int j=>
     cases ry
     obtain ⟨t',rfl⟩:=ru
     exact ⟨EqAt.list_int j t' pl.isList hu0,fun a b _ z=>nomatch z⟩
    | tup ys=>
     cases ry with
     | @tup b us _ hb rb=>
      cases ru
      obtain ⟨its2,w2,pl2,_⟩:=I.tuple (SqT.of (sg _ _ hb))
      exact ⟨EqAt.list_tuple pl.isList pl2 hu0,fun _ _ _ _=>RcAt.list_tuple pl.isList pl2 hu0⟩
    | lst ys=>
     cases ry with
     | @lst b us _ hb rb=>
      cases ru
      obtain ⟨its2,w2,pl2,_⟩:=I.list (SqL.of (sg _ _ hb))
      refine lift ⟨_,rfl⟩ ⟨_,rfl⟩ fun _ _ _ _=>?_
      have l1:=w1.length
      have l2:=w2.length
      have l3:=ra.length
      have l4:=rb.length
      by_cases hl:xs.length=ys.length
      ·have hsz:its.toArray.size=its2.toArray.size:=by rw [List.size_toArray,List.size_toArray]; omega
       have z:=RcAt.lists (A:=A) (s:=s) pl.isList pl2.isList hsz hu0 (items w1 w2 ra rb pd pe)
       have e1:(List.range its.toArray.size).all (atZip n xs ys)=eqF (n + 1) (.lst xs) (.lst ys):=by
        show _=(xs.length == ys.length && (xs.zip ys).all fun p=>eqF n p.1 p.2)
        rw [<- Ze9,List.size_toArray,hl,beq_self_eq_true,Bool.true_and,Nat.min_self,show its.length=ys.length by omega]
       rw [e1] at z
       exact z
      ·have z:=RcAt.lists_lengths (A:=A) (s:=s) pl.isList pl2.isList (by rw [List.size_toArray,List.size_toArray]; simp; omega) hu0
       have e1:eqF (n + 1) (.lst xs) (.lst ys)=false:=by
        show (xs.length == ys.length && (xs.zip ys).all fun p=>eqF n p.1 p.2)=false
        rw [beq_eq_false_iff_ne.mpr hl,Bool.false_and]
       rw [e1]
       exact z
    | _=>exact pe.elim
  | _=>exact pd.elim
end
end L2
set_option Elab.async false
set_option linter.all false
set_option maxRecDepth 100000
namespace L2
open PySem PySem.Spec PyProof.Rows PySem.SeqAt
def Ris (xs:Array Nat):Prop:=∀ (i j a b:Nat),i < j->xs[i]? = some a->xs[j]? = some b->a < b
theorem Zfc (xs:Array Nat) (R:Ris xs) (j:Nat):∀ (fuel lo hi:Nat),hi - lo<=fuel->lo<=hi->hi<=xs.size->(∀ (i a:Nat),i < lo->xs[i]? = some a->a < j)->(∀ (i a:Nat),hi<=i->xs[i]? = some a->j<=a) →
  SetTable.below.go xs j fuel lo hi<=xs.size/\(∀ (i a:Nat),i < SetTable.below.go xs j fuel lo hi->xs[i]? = some a->a < j)/\∀ (i a:Nat),SetTable.below.go xs j fuel lo hi<=i->xs[i]? = some a->j<=a
 | 0,lo,hi,h1,h2,h3,h4,h5=>by
  have:lo=hi:=by omega
  subst this
  show lo<=xs.size/\_
  exact ⟨h3,h4,h5⟩
 | fuel + 1,lo,hi,h1,h2,h3,h4,h5=>by
  unfold SetTable.below.go
  by_cases hlt:lo < hi
  ·rw [if_pos hlt]
   dsimp only
   have hm:(lo + hi) / 2 < xs.size:=by omega
   have hg:xs.getD ((lo + hi) / 2) j=xs[(lo + hi) / 2]:=by simp [Array.getD,hm]
   by_cases hc:xs.getD ((lo + hi) / 2) j < j
   ·rw [if_pos hc]
    refine Zfc xs R j fuel _ _ (by omega) (by omega) h3 (fun i a hi' e=>?_) h5
    by_cases hi2:i=(lo + hi) / 2
    ·subst hi2
     rw [Array.getElem?_eq_getElem hm] at e
     cases e
     omega
    ·have:=R i ((lo + hi) / 2) a _ (by omega) e (Array.getElem?_eq_getElem hm)
     omega
   ·rw [if_neg hc]
    refine Zfc xs R j fuel _ _ (by omega) (by omega) (by omega) h4 fun i a hi' e=>?_
    by_cases hi2:i=(lo + hi) / 2
    ·subst hi2
     rw [Array.getElem?_eq_getElem hm] at e
     cases e
     omega
    ·have:=R ((lo + hi) / 2) i _ a (by omega) (Array.getElem?_eq_getElem hm) e
     omega
  ·rw [if_neg hlt]
   have:lo=hi:=by omega
   subst this
   exact ⟨h3,h4,h5⟩
theorem Zdl {xs:Array Nat} (R:Ris xs) (j:Nat):SetTable.below xs j<=xs.size/\(∀ (i a:Nat),i < SetTable.below xs j->xs[i]? = some a->a < j)/\∀ (i a:Nat),SetTable.below xs j<=i->xs[i]? = some a->j<=a:=
 Zfc xs R j xs.size 0 xs.size (by omega) (Nat.zero_le _) (Nat.le_refl _) (fun i a h=>by omega) fun i a h e=>by
  have:=(Array.getElem?_eq_some_iff.mp e).1; omega
theorem Zb6 {α:Type} (xs:Array α) (p:Nat) (x:α) (h:p<=xs.size):(SetTable.insertAt xs p x).toList=xs.toList.take p ++ x :: xs.toList.drop p:=by
 unfold SetTable.insertAt
 rw [Array.toList_append,Array.toList_push,Array.toList_extract,Array.toList_extract]
 simp [List.extract_eq_take_drop,List.append_assoc]
 rw [List.take_of_length_le (by simp)]
theorem Za8 {α:Type} (xs:Array α) (p:Nat) (x:α) (h:p<=xs.size) (i:Nat):(SetTable.insertAt xs p x)[i]? = if i < p then xs[i]? else if i=p then some x else xs[i - 1]?:=by
 rw [<- Array.getElem?_toList,Zb6 xs p x h]
 by_cases h1:i < p
 ·rw [if_pos h1,List.getElem?_append_left (by rw [List.length_take,Array.length_toList]; omega),List.getElem?_take_of_lt h1,Array.getElem?_toList]
 ·rw [if_neg h1,List.getElem?_append_right (by rw [List.length_take,Array.length_toList]; omega),List.length_take,Array.length_toList,Nat.min_eq_left h]
  by_cases h2:i=p
  ·rw [if_pos h2,h2,Nat.sub_self]; rfl
  ·rw [if_neg h2,show i - p=(i - 1 - p) + 1 by omega,List.getElem?_cons_succ,List.getElem?_drop,Array.getElem?_toList,show p + (i - 1 - p)=i - 1 by omega]
theorem Zor {xs:Array Nat} (R:Ris xs) {j:Nat} (hj:xs[SetTable.below xs j]? ≠ some j):Ris (SetTable.insertAt xs (SetTable.below xs j) j):=by
 obtain ⟨b1,b2,b3⟩:=Zdl R j
 have b4:∀ (i a:Nat),SetTable.below xs j<=i->xs[i]? = some a->j < a:=fun i a h e=>by
  have h1:=b3 i a h e
  by_cases hi:i=SetTable.below xs j
  ·subst hi
   rcases Nat.lt_or_eq_of_le h1 with z | z
   ·exact z
   ·subst z; exact absurd e hj
  ·obtain ⟨s1,s2⟩:=Array.getElem?_eq_some_iff.mp e
   have hlt:SetTable.below xs j < xs.size:=by omega
   have h2:=b3 _ _ (Nat.le_refl _) (Array.getElem?_eq_getElem hlt)
   have:=R (SetTable.below xs j) i _ a (by omega) (Array.getElem?_eq_getElem hlt) e
   omega
 intro i k a b hik ha hb
 rw [Za8 _ _ _ b1] at ha hb
 split at ha
 ·split at hb
  ·exact R i k a b hik ha hb
  ·split at hb
   ·cases hb; exact b2 i a (by omega) ha
   ·exact R i (k - 1) a b (by omega) ha hb
 ·split at ha
  ·cases ha
   rw [if_neg (by omega),if_neg (by omega)] at hb
   exact b4 (k - 1) b (by omega) hb
  ·rw [if_neg (by omega),if_neg (by omega)] at hb
   exact R (i - 1) (k - 1) a b (by omega) ha hb
theorem Zn9:Ris #[]:=fun i j a b _ e=>by simp at e
theorem Zlg (j:Nat):SetTable.has #[] j=false:=by unfold SetTable.has; simp
theorem Zl7 (owner:Array (Option Nat)) (m:Nat):Ris ((((List.range m).filterMap fun j=>(owner.getD j none).map (j,·)).map (·.1)).toArray):=by
 have pw:((List.range m).filterMap fun j=>(owner.getD j none).map (j,·)).Pairwise (fun a b=>a.1 < b.1):=by
  rw [List.pairwise_filterMap]
  refine List.Pairwise.imp ?_ List.pairwise_lt_range
  intro a b hab c hc d hd
  cases qa:owner.getD a none with
  | none=>rw [qa] at hc; cases hc
  | some k=>
   cases qb:owner.getD b none with
   | none=>rw [qb] at hd; cases hd
   | some l=>
    rw [qa] at hc; rw [qb] at hd
    have hc:(a,k)=c:=by simpa using hc
    have hd:(b,l)=d:=by simpa using hd
    subst hc hd
    exact hab
 intro i j a b hij ea eb
 rw [List.getElem?_toArray,List.getElem?_map] at ea eb
 cases qa:((List.range m).filterMap fun j=>(owner.getD j none).map (j,·))[i]? with
 | none=>rw [qa] at ea; cases ea
 | some c=>
  cases qb:((List.range m).filterMap fun j=>(owner.getD j none).map (j,·))[j]? with
  | none=>rw [qb] at eb; cases eb
  | some d=>
   rw [qa] at ea; rw [qb] at eb
   have ea:c.1=a:=by simpa using ea
   have eb:d.1=b:=by simpa using eb
   subst ea eb
   obtain ⟨i1,i2⟩:=List.getElem?_eq_some_iff.mp qa
   obtain ⟨j1,j2⟩:=List.getElem?_eq_some_iff.mp qb
   have:=List.pairwise_iff_getElem.mp pw i j i1 j1 hij
   rw [i2,j2] at this
   exact this
section
variable {prog:Program} {w:World}
section
variable {A:Around} {E:Value->Shared->Prop} {s:Shared}
end
end
section
variable {prog:Program} {w:World} {A:Around} {E:Value->Shared->Prop} {s:Shared}
end
end L2
namespace L2
open PySem PySem.Spec PyProof.Rows PySem.SeqAt
end L2
namespace L2
open PySem PySem.Spec PyProof.Rows PySem.SeqAt
section
variable {prog:Program} {w:World} {A:Around} {E:Value->Shared->Prop} {s:Shared}
end
end L2
namespace L2
open PySem PySem.Spec PyProof.Rows PySem.SeqAt
end L2
namespace L2
open PySem PySem.Spec PyProof.Rows PySem.SeqAt
end L2
namespace L2
open PySem PySem.Spec PyProof.Rows PySem.SeqAt
section
variable {K:PySem.W.Frag} {Δ:Evt}
end
end L2
set_option Elab.async false
set_option linter.all false
set_option maxRecDepth 100000
namespace L2
open PySem PySem.Spec PyProof.Rows
section
variable {X:Cx}
end
end L2
set_option Elab.async false
set_option linter.all false
set_option maxRecDepth 100000
namespace L2
open PySem PySem.Spec PyProof.Rows PySem.SeqAt
section
variable {K:PySem.W.Frag} {Δ:Evt} {P:D->Evt->Prop}
end
end L2
set_option Elab.async false
set_option linter.all false
set_option maxRecDepth 100000
namespace L2
open PySem PySem.Spec PyProof.Rows
end L2
set_option Elab.async false
set_option linter.all false
set_option maxRecDepth 100000
namespace L2
open PySem PySem.Spec PyProof.Rows
section
variable {K:PySem.W.Frag} {Δ:Evt}
end
end L2
set_option Elab.async false
set_option linter.all false
set_option maxRecDepth 100000
namespace L2
open PySem PySem.Spec PyProof.Rows PySem.SeqAt
section
variable {K:PySem.W.Frag} {Δ:Evt} {P:D->Evt->Prop}
end
end L2
set_option Elab.async false
set_option linter.all false
set_option maxRecDepth 100000
namespace L2
open PySem PySem.Spec PyProof.Rows
end L2
set_option Elab.async false
set_option linter.all false
set_option maxRecDepth 100000
namespace L2
open PySem PySem.Spec PyProof.Rows
section
variable {K:PySem.W.Frag} {Δ:Evt}
end
end L2
set_option Elab.async false
set_option linter.all false
set_option maxRecDepth 100000
namespace L2
open PySem PySem.Spec PyProof.Rows
section
variable {X:Cx}
end
end L2
set_option Elab.async false
set_option linter.all false
set_option maxRecDepth 100000
namespace L2
open PySem PySem.Spec PyProof.Rows
section
variable {X:Cx}
end
end L2
set_option Elab.async false
set_option linter.all false
set_option maxRecDepth 100000
namespace L2
open PySem PySem.Spec PyProof.Rows
end L2
set_option Elab.async false
set_option linter.all false
set_option maxRecDepth 100000
namespace L2
open PySem PySem.Spec PyProof.Rows
abbrev rlt:=HT.lexLt
theorem Zrl (x y:Int) (xs ys:List Int):rlt (x :: xs) (y :: ys)=if x=y then rlt xs ys else decide (x < y):=rfl
theorem RowAt.inj {h:Heap} {v:Value} {a b:List Int} (x:RowAt h v a) (y:RowAt h v b):a=b:=by
 obtain ⟨p,its,rfl,⟨o,ho,hc,n,hd⟩,hi⟩:=x
 obtain ⟨q,its2,e,⟨o2,ho2,hc2,n2,hd2⟩,hi2⟩:=y
 cases e
 rw [ho] at ho2; cases ho2
 rw [hd] at hd2
 have e:its=its2:=by
  have:=Data.seq.inj hd2
  simpa using this.1
 subst e
 clear hd hd2
 induction hi generalizing b with
 | nil=>cases hi2; rfl
 | cons n t _ ih=>cases hi2 with | cons _ _ r=>rw [ih r]
end L2
set_option Elab.async false
set_option linter.all false
set_option maxRecDepth 100000
namespace L2
open PySem PySem.Spec PyProof.Rows
section
variable {X:Cx}
end
end L2
set_option Elab.async false
set_option linter.all false
set_option maxRecDepth 100000
namespace L2
open PySem PySem.Spec PyProof.Rows
end L2
set_option Elab.async false
set_option linter.all false
set_option maxRecDepth 100000
namespace L2
open PySem PySem.Spec PyProof.Rows
end L2
set_option Elab.async false
set_option linter.all false
set_option maxRecDepth 100000
namespace L2
open PySem PySem.Spec PyProof.Rows
section
variable {K:PySem.W.Frag} {Δ:Evt}
end
section
variable {K:PySem.W.Frag} {Δ:Evt} {P:D->Evt->Prop}
end
end L2
set_option Elab.async false
set_option linter.all false
set_option maxRecDepth 100000
namespace L2
open PySem PySem.Spec PyProof.Rows
section
variable {X:Cx} {pins:List (Addr × Obj)} {σ:St} {H H':Hp} {s:Shared} {h':Heap} {b:Addr}
end
section
variable {X:Cx} {pins:List (Addr × Obj)} {σ:St} {H H':Hp} {s:Shared} {h':Heap} {a C T:Addr}
variable {M:Model} {E:Value->Shared->Prop} {Q:Unit->Shared->Prop}
end
end L2
set_option Elab.async false
set_option linter.all false
set_option maxRecDepth 100000
namespace L2
open PySem PySem.Spec PyProof.Rows
end L2
set_option Elab.async false
set_option linter.all false
set_option maxRecDepth 100000
namespace L2
open PySem PySem.Spec PyProof.Rows
end L2
set_option Elab.async false
set_option linter.all false
set_option maxRecDepth 100000
namespace L2
open PySem PySem.Spec PyProof.Rows
section
variable {X:Cx} {pins:List (Addr × Obj)} {σ:St} {H:Hp} {s:Shared} {a C:Addr}
end
end L2
set_option Elab.async false
set_option linter.all false
set_option maxRecDepth 100000
namespace L2
open PySem PySem.Spec PyProof.Rows
section
variable {X:Cx}
end
end L2
set_option Elab.async false
set_option linter.all false
set_option maxRecDepth 100000
namespace L2
open PySem PySem.Spec PyProof.Rows
section
variable {P:Program} {w:World} {K:PySem.W.Frag} {mg:Str->Option Value} {base:Heap}
end
section
variable {K:PySem.W.Frag} {Δ:Evt} {E:XK} {Xp:Addr->Prop} {nx bk ct:Evt->Prop} {rt:D->Evt->Prop} {ro:OD->Evt->Prop}
end
end L2
set_option Elab.async false
set_option linter.all false
set_option maxRecDepth 100000
namespace L2
open PySem PySem.Spec PyProof.Rows PySem.SeqAt
section
variable {K:PySem.W.Frag} {Δ:Evt} {P:D->Evt->Prop}
end
end L2
set_option Elab.async false
set_option linter.all false
set_option maxRecDepth 100000
namespace L2
open PySem PySem.Spec PyProof.Rows
end L2
set_option Elab.async false
set_option linter.all false
set_option maxRecDepth 100000
namespace L2
open PySem PySem.Spec PyProof.Rows
section
variable {K:PySem.W.Frag} {Δ:Evt}
end
end L2
set_option Elab.async false
set_option linter.all false
set_option maxRecDepth 100000
namespace L2
open PySem PySem.Spec PyProof.Rows
section
variable {X:Cx}
def CDivB (i j:Int):Prop:=0 < j/\j<=100000000000000000000000000000000000000000000000000000000000
theorem Zfb:OpR X (binaryOp .FloorDiv) (rI CDivB fun i j=>.int (i / j)):=opI fun i j _ _ _ _ _ hc q=>by
 have h1:(0:Int) < j:=hc.1
 have h2:=hc.2
 refine floordiv_int (by omega) (by rw [Int.fdiv_eq_ediv_of_nonneg i (by omega)]; exact q) (.inl (PyProof.noPylong_of_log2 ?_))
 have h3:j.natAbs<=100000000000000000000000000000000000000000000000000000000000:=by omega
 have h4:j.natAbs < 2 ^ 200:=Nat.lt_of_le_of_lt h3 (by decide)
 exact Nat.lt_trans ((Nat.log2_lt (by omega)).2 h4) (by decide)
end
section
variable {K:PySem.W.Frag} {Δ:Evt} {E:XK} {Xp:Addr->Prop} {P:D->Evt->Prop}
end
theorem Znb {vs:List Expr} {c} {p:Pos} {es:List Expr} {env:Env}:starEach (Expr.Tuple vs c p :: es) env=(false,eval (Expr.Tuple vs c p) env) :: starEach es env:=rfl
def keyPd:Key->PyData
 | .inl i=>.int i
 | .inr x=>.str x
mutual
def D.pd:D->PyData
 | .non=>.none
 | .bl b=>.bool b
 | .int i=>.int i
 | .str x=>.str x
 | .tup ds=>.tuple (D.pds ds)
 | .lst ds=>.list (D.pds ds)
 | .dct ks ds=>.dict ((ks.map keyPd).zip (D.pds ds))
 | _=>.none
def D.pds:List D->List PyData
 | []=>[]
 | d :: ds=>D.pd d :: D.pds ds
end
section
variable {X:Cx}
end
end L2
set_option Elab.async false
set_option linter.all false
set_option maxRecDepth 100000
namespace L2
open PySem PySem.Spec PyProof.Rows
section
variable {X:Cx}
end
section
variable {X:Cx}
end
def PV (K:PySem.W.Frag) (te:TE) (Δ:Evt) (d:D):Prop:=∀ P:D->Evt->Prop,P d Δ -> JE K te Δ P
def PVs (K:PySem.W.Frag) (ta:TA) (Δ:Evt) (ds:List D):Prop:=∀ P:List D->Evt->Prop,P ds Δ -> JA K ta Δ P
def PR2 (K:PySem.W.Frag) (r:R2) (d e:D) (Δ:Evt) (x:D):Prop:=∀ P:D->Evt->Prop,P x Δ -> JR2 K r d e Δ P
section
variable {K:PySem.W.Frag} {Δ:Evt}
theorem Zit {te:TE} {d:D} {P:D->Evt->Prop} (h:PV K te Δ d) (p:P d Δ):JE K te Δ P:=h P p
theorem Zqw {ta:TA} {ds:List D} {P:List D->Evt->Prop} (h:PVs K ta Δ ds) (p:P ds Δ):JA K ta Δ P:=h P p
theorem Zb1 {i:Nat} {d:D} (h:Δ[i]? = some (.val d)):PV K (tVar i) Δ d:=fun P p=>Zac h p
theorem Zci {i:Int}:PV K (tC (.int i)) Δ (.int i):=fun P p=>Zaj p
theorem Zps:PVs K tNil Δ []:=fun P p=>Zaf p
theorem Zie {ta:TE} {tr:TA} {d:D} {ds:List D} (h:PV K ta Δ d) (t:PVs K tr Δ ds):PVs K (tCons ta tr) Δ (d :: ds):=fun P p=>Zab (h _ (t _ p))
theorem Zcw {r:R2} {ta tb:TE} {d e x:D} (a:PV K ta Δ d) (b:PV K tb Δ e) (h:PR2 K r d e Δ x):PV K (tOp r ta tb) Δ x:=fun P p=>Zar (a _ (b _ (h P p)))
theorem Zq3 {ds:List D} {i:Int} {d:D} (h:atI ds i=some d):PR2 K (rIxU K) (.tup ds) (.int i) Δ d:=fun P p=>Zas h p
theorem Zrm {ds:List D} {i:Int} {d:D} (h:atI ds i=some d):PR2 K (rIxU K) (.lst ds) (.int i) Δ d:=fun P p=>Zg7 h p
theorem Zg0 {i j:Int}:PR2 K (rAddU K) (.int i) (.int j) Δ (.int (i + j)):=fun P p=>Zdk p
theorem Zsa {f:Int->Int->Int} {i j:Int}:PR2 K (rI0 fun i j=>.int (f i j)) (.int i) (.int j) Δ (.int (f i j)):=fun P p=>Zd6 p
theorem pr_I {C:Int->Int->Prop} {f:Int->Int->Int} {i j:Int} (hc:C i j):PR2 K (rI C fun i j=>.int (f i j)) (.int i) (.int j) Δ (.int (f i j)):=fun P p=>jr_I hc p
theorem Zjs {ta tb:TE} {ds:List D} {i:Int} {d:D} (a:PV K ta Δ (.tup ds)) (b:PV K tb Δ (.int i)) (h:atI ds i=some d):PV K (tOp (rIxU K) ta tb) Δ d:=Zcw a b (Zq3 h)
theorem Zp5 {ta tb:TE} {ds:List D} {i:Int} {d:D} (a:PV K ta Δ (.lst ds)) (b:PV K tb Δ (.int i)) (h:atI ds i=some d):PV K (tOp (rIxU K) ta tb) Δ d:=Zcw a b (Zrm h)
theorem Znf {n:Nat} {ds:List D} {i:Int} {d:D} (hx:Δ[n]? = some (.val (.tup ds))) (h:atI ds i=some d):PV K (tOp (rIxU K) (tVar n) (tC (.int i))) Δ d:=Zjs (Zb1 hx) Zci h
theorem Zpi {ta:TE} {ds:List D} (a:PV K ta Δ (.tup ds)):PV K (tCB (rLenU K) (tCons ta tNil)) Δ (.int ds.length):=fun P p=>Za6 (Zab (a _ (Zaf (Zbm (.inr rfl) p))))
end
end L2
set_option Elab.async false
set_option linter.all false
set_option maxRecDepth 100000
namespace L2
open PySem PySem.Spec PyProof.Rows PySem.SeqAt
section
variable {K:PySem.W.Frag} {Δ:Evt} {P:D->Evt->Prop}
end
end L2
set_option Elab.async false
set_option linter.all false
set_option maxRecDepth 100000
namespace L2
open PySem PySem.Spec PyProof.Rows PySem.SeqAt
section
variable {K:PySem.W.Frag} {Δ:Evt}
def valT (kvs:List (List Key × D)) (k:List Key):Option D:=(kvs.find? fun kv=>decide (kv.1=k)).map (·.2)
def putT (kvs:List (List Key × D)) (k:List Key) (v:D):List (List Key × D):=if (kvs.any fun kv=>decide (kv.1=k))=true then kvs.map (fun kv=>if kv.1=k then (kv.1,v) else kv) else kvs ++ [(k,v)]
def KTD (K:PySem.W.Frag) (G:Hp):List (List Key × V)->List (List Key × D)->Prop:=Paired (fun (p:List Key × V) (q:List Key × D)=>p.1=q.1/\Rep K G p.2 q.2)
theorem Zji {G:Hp} {k:List Key}:∀ {kvs:List (List Key × V)} {kds:List (List Key × D)},KTD K G kvs kds->(kvs.any fun kv=>decide (kv.1=k))=kds.any fun kv=>decide (kv.1=k)
 | _,_,.nil=>rfl
 | _ :: _,_ :: _,.cons ⟨e,_⟩ t=>by
  rw [List.any_cons,List.any_cons,Zji t,e]
theorem Zjt {G:Hp} {k:List Key} {v:V} {d:D} (rv:Rep K G v d):∀ {kvs:List (List Key × V)} {kds:List (List Key × D)},KTD K G kvs kds->KTD K G (kvs.map fun kv=>if kv.1=k then (kv.1,v) else kv) (kds.map fun kv=>if kv.1=k then (kv.1,d) else kv)
 | _,_,.nil=>.nil
 | p :: _,q :: _,.cons ⟨e,r⟩ t=>by
  refine .cons ?_ (Zjt rv t)
  dsimp only
  by_cases hk:p.1=k
  ·rw [if_pos hk,if_pos (e ▸ hk)]; exact ⟨e,rv⟩
  ·rw [if_neg hk,if_neg (e ▸ hk)]; exact ⟨e,r⟩
theorem Zny {G:Hp} {k:List Key} {v:V} {d:D} {kvs:List (List Key × V)} {kds:List (List Key × D)} (rv:Rep K G v d) (h:KTD K G kvs kds):KTD K G (putK kvs k v) (putT kds k d):=by
 unfold putK putT
 rw [Zji h]
 split
 ·exact Zjt rv h
 ·exact Paired.snoc h ⟨rfl,rv⟩
end
end L2
set_option Elab.async false
set_option linter.all false
set_option maxRecDepth 100000
namespace L2
open PySem PySem.Spec PyProof.Rows
section
variable {K:PySem.W.Frag} {Δ:Evt} {nx bk ct:Evt->Prop} {rt:D->Evt->Prop} {ro:OD->Evt->Prop}
end
end L2
set_option Elab.async false
set_option linter.all false
set_option maxRecDepth 100000
namespace L2
open PySem PySem.Spec PyProof.Rows
section
variable {K:PySem.W.Frag} {Δ:Evt} {P:D->Evt->Prop}
end
end L2
set_option Elab.async false
set_option linter.all false
set_option maxRecDepth 100000
namespace L2
open PySem PySem.Spec PyProof.Rows
end L2
set_option Elab.async false
set_option linter.all false
set_option maxRecDepth 100000
namespace HT
open PySem PyProof.Rows
end HT
namespace L2
open PySem PySem.Spec PyProof.Rows
section
variable {K:PySem.W.Frag} {Δ:Evt} {P:D->Evt->Prop}
end
end L2
set_option Elab.async false
set_option linter.all false
set_option maxRecDepth 100000
namespace L2
open PySem PySem.Spec PyProof.Rows
section
variable {prog:Program} {w:World} {A:Around} {R:Result->Shared->Prop} {I:Addr} {fp wr:List Addr} {G:Array GenState->Array GenState->Prop} {n:Nat} {P:Nat->Value->Prop} {St:Nat->Shared->Prop} {K:Type} [DecidableEq K] {knd:KeyKind prog w K}
end
section
variable {X:Cx}
end
end L2
set_option Elab.async false
set_option linter.all false
set_option maxRecDepth 100000
namespace L2
open PySem PySem.Spec PyProof.Rows
end L2
namespace L2
open PySem PySem.Spec PyProof.Rows
section
variable {prog:Program} {w:World} {A:Around} {E:Value->Shared->Prop} {s:Shared}
end
section
variable {K:PySem.W.Frag} {Δ:Evt} {P:D->Evt->Prop}
end
end L2
namespace L2
open PySem PySem.Spec PyProof.Rows
end L2
set_option Elab.async false
set_option linter.all false
set_option maxRecDepth 100000
namespace L2
open PySem PySem.Spec PyProof.Rows PySem.SeqAt
section
variable {prog:Program} {w:World} {A:Around} {E:Value->Shared->Prop} {s:Shared}
end
section
variable {K:PySem.W.Frag} {Δ:Evt}
end
end L2
set_option Elab.async false
set_option linter.all false
set_option maxRecDepth 100000
namespace L2
open PySem PySem.Spec PyProof.Rows PySem.SeqAt
theorem Zjg (a b:List Int):(((List.range (min a.length b.length)).all fun j=>decide (a.getD j 0=b.getD j 0)) && a.length == b.length)=decide (a=b):=by
 rw [Bool.eq_iff_iff,Bool.and_eq_true,List.all_eq_true,beq_iff_eq,decide_eq_true_iff]
 constructor
 ·rintro ⟨h1,h2⟩
  apply List.ext_getElem h2
  intro i hi hj
  have:=of_decide_eq_true (h1 i (List.mem_range.mpr (by omega)))
  rw [List.getD_eq_getElem?_getD,List.getD_eq_getElem?_getD,List.getElem?_eq_getElem hi,List.getElem?_eq_getElem hj] at this
  exact this
 ·rintro rfl
  exact ⟨fun j _=>decide_eq_true rfl,rfl⟩
section
variable {A:Around} {s:Shared}
theorem Zig {x y:Value} {a b:List Int} (hx:RowAt s.heap x a) (hy:RowAt s.heap y b) (hu:A.units < cLine):EqAt A s x y (decide (a=b)):=by
 obtain ⟨p,its,rfl,t1,i1⟩:=id hx
 obtain ⟨q,its2,rfl,t2,i2⟩:=id hy
 by_cases e:p=q
 ·subst e
  rw [decide_eq_true (hx.inj hy)]
  exact EqAt.same _
 ·have l1:=i1.length
  have l2:=i2.length
  have:=RcAt.tuples (A:=A) (s:=s) (e:=fun j=>decide (a.getD j 0=b.getD j 0)) t1 t2 hu fun j h1 h2=>by
   have h1':j < its.length:=by simpa using h1
   have h2':j < its2.length:=by simpa using h2
   obtain ⟨t,et⟩:=IntsAre.int_at i1 j _ (List.getElem?_eq_getElem h1')
   obtain ⟨t',et'⟩:=IntsAre.int_at i2 j _ (List.getElem?_eq_getElem h2')
   rw [List.getElem_toArray,List.getElem_toArray,et,et']
   have z:=EqAt.int_int (A:=A.in1) (s:=s) (a.getD j 0) t (b.getD j 0) t'
   rw [Bool.beq_eq_decide_eq] at z
   exact z
  rw [List.size_toArray,List.size_toArray,l1,l2,Zjg] at this
  exact EqAt.of_refs e this
end
def cLt:List (List Int)->List (List Int)->Bool
 | [],[]=>false
 | [],_ :: _=>true
 | _ :: _,[]=>false
 | x :: xs,y :: ys=>if x=y then cLt xs ys else rlt x y
def CodeAt (h:Heap) (v:Value) (c:List (List Int)):Prop:=∃ (a:Addr) (its:List Value),v=.ref a/\IsTup h a its.toArray/\Paired (RowAt h) its c
theorem CodeAt.keep {h h':Heap} {v:Value} {c:List (List Int)} (x:CodeAt h v c) (k:∀ b o,h.get? b=some o->h'.get? b=some o):CodeAt h' v c:=by
 obtain ⟨a,its,e,⟨o,ho,hc⟩,i⟩:=x
 exact ⟨a,its,e,⟨o,k a o ho,hc⟩,Paired.mapP i fun _ _ z=>z.keep k⟩
section
open PySem.AutoSeq1 (wpAny_loadPart')
open PySem.MeetsSeq PySem.MeetsSeq2 PySem.MeetsSeq3
theorem Zfl (l b:Addr) (items items2:Array Value) (n n2:Nat) (dd dd2:Option Addr) (sl sl2:Array (Option Value)) (ns ms:List (List Int)) :
  Meets (Builtin.«tuple.__lt__» ⟨[.ref l,.ref b],[]⟩)
   (fun A R s=>A.units + 1 < cLine/\(Paired (RowAt s.heap) items.toList ns/\Paired (RowAt s.heap) items2.toList ms)/\s.heap.get? l=some { cls:=.type "tuple",dict:=dd,data:=.seq items n,slots:=sl } /\ s.heap.get? b=some { cls:=.type "tuple",dict:=dd2,data:=.seq items2 n2,slots:=sl2 } ∧
    R (.ok (.ret (.bool (cLt ns ms)))) s):=
 .of_wp fun prog w A R s h=>by
  obtain ⟨hp,g,d,tk,os⟩:=s; obtain ⟨hu,⟨hi,hj⟩,hl,hb,h⟩:=h
  have f2:=AutoSeq1.sub_tuple_tuple
  have z1:items.size=ns.length:=by rw [<- Paired.length hi]; simp
  have z2:items2.size=ms.length:=by rw [<- Paired.length hj]; simp
  wp_walk using wpAny_loadPart' hl,wpAny_loadPart' hb,wpAny_forIn_list _ (fun rest b s'=>b.1=none/\s' = ⟨hp,g,d,tk,os⟩ /\ ∃ (vs ws:List Value) (ns' ms':List (List Int)),rest=vs.zip ws ∧
   Paired (RowAt hp) vs ns' /\ Paired (RowAt hp) ws ms' /\ ns'.length + items2.size=ms'.length + items.size/\R (.ok (.ret (.bool (cLt ns' ms')))) ⟨hp,g,d,tk,os⟩) _
  case turn=>
   rintro ⟨y,x⟩ rest b s' ⟨hb',rfl,vs,ws,ns',ms',hz,hvi,hwi,hlen,hR⟩
   cases hvi with
   | nil=>rw [List.zip_nil_left] at hz; cases hz
   | @cons _ a _ _ ra hvi'=>
    cases hwi with
    | nil=>rw [List.zip_nil_right] at hz; cases hz
    | @cons _ c _ _ rc hwi'=>
     rw [List.zip_cons_cons] at hz
     injection hz with hyx hrest
     injection hyx with hy hx
     subst hy hx
     have hR:R (.ok (.ret (.bool (if a=c then cLt _ _ else rlt a c)))) ⟨hp,g,d,tk,os⟩:=hR
     simp only [List.length_cons] at hlen
     have he:=Zig (A:=A.in1) (s:=⟨hp,g,d,tk,os⟩) ra rc (by show A.units + 1 < cLine; exact hu)
     refine wpAny_bind (he prog w _ _ ?_)
     by_cases e:a=c
     ·rw [if_pos e] at hR
      rw [decide_eq_true e]
      wp_walk
      exact ⟨rfl,rfl,_,_,_,_,hrest,hvi',hwi',by omega,hR⟩
     ·rw [if_neg e] at hR
      rw [decide_eq_false e]
      have hri:∀ (Q:Value->Shared->Prop) (E:Value->Shared->Prop),Q (.bool (rlt a c)) ⟨hp,g,d,tk,os⟩ -> wpAny (model prog w) A.in1 (richCompare .Lt y x) Q E ⟨hp,g,d,tk,os⟩:=fun Q E q=>by
       obtain ⟨l',its',rfl,⟨⟨c1,d1,dt1,sl1⟩,ho,hc,k1,hd⟩,hi'⟩:=ra
       obtain ⟨l2,its2',rfl,⟨⟨c2,d2,dt2,sl2'⟩,ho2,hc2,k2,hd2⟩,hi2'⟩:=rc
       simp only at hc hd hc2 hd2
       subst hc hd hc2 hd2
       exact richCompare_meets_room (op:=.Lt) ⟨_,ho,rfl⟩ ⟨_,ho2,rfl⟩ PySem.F.slot_tuple_lt PySem.F.entry_tuple_lt (PySem.F.args_tuple_lt_2 _ _) (HT.tuple_lt_ints l' l2 its'.toArray its2'.toArray k1 k2 d1 d2 sl1 sl2' a c (by simpa using hi') (by simpa using hi2'))
        ⟨ho,ho2,show Value.bool (HT.lexLt a c) ≠ Value.notImplemented/\_ from ⟨(fun x=>nomatch x),q⟩⟩ (by show A.units + 1 < cLine; exact hu)
      wp_walk using hri
      exact ⟨_,rfl,by simpa using hR⟩
  case fin=>
   rintro ⟨b1,b2⟩ s' ⟨hb',rfl,vs,ws,ns',ms',hz,hvi,hwi,hlen,hR⟩
   simp only at hb'
   subst hb'
   have hv:cLt ns' ms' = decide (items.size < items2.size):=by
    cases hvi with
    | nil=>
     cases hwi with
     | nil=>
      simp only [List.length_nil] at hlen
      exact (decide_eq_false (by omega)).symm
     | cons _ hw=>
      simp only [List.length_nil,List.length_cons] at hlen
      exact (decide_eq_true (by omega)).symm
    | cons _ hv=>
     cases hwi with
     | nil=>
      simp only [List.length_nil,List.length_cons] at hlen
      exact (decide_eq_false (by omega)).symm
     | cons _ hw=>
      rw [List.zip_cons_cons] at hz
      cases hz
   rw [hv] at hR
   wp_walk
   exact ⟨_,rfl,by simpa [Builtin.Tuple.tupleCompareSizes] using hR⟩
  ·exact ⟨rfl,rfl,_,_,_,_,rfl,hi,hj,by omega,h⟩
end
theorem Paired.getC {α β:Type} {R:α -> β -> Prop}:∀ {vs:List α} {rs:List β} {i:Nat} {v:α},Paired R vs rs->vs[i]? = some v->∃ r,rs[i]? = some r/\R v r
 | _,_,_,_,.nil,e=>by simp at e
 | _,_,0,_,.cons r _,e=>by simp at e; subst e; exact ⟨_,rfl,r⟩
 | _,_,i + 1,_,.cons _ t,e=>Paired.getC (i:=i) t (by simpa using e)
section
variable {prog:Program} {w:World} {A:Around} {E:Value->Shared->Prop} {s:Shared}
end
end L2
namespace L2
open PySem PySem.Spec PyProof.Rows PySem.SeqAt
def RowV (K:PySem.W.Frag) (H:Hp) (y:V) (r:List Int):Prop:=∃ b,y=.ref b/\SqT K H b (r.map V.int)
def CodeV (K:PySem.W.Frag) (H:Hp) (y:V) (c:List (List Int)):Prop:=∃ b zs,y=.ref b/\SqT K H b zs/\Paired (RowV K H) zs c
section
variable {X:Cx}
theorem Zdz {α:Type} {R:V -> α -> Prop} {T:Value -> α -> Prop} (h:∀ y u c,RelV y u->R y c->T u c):∀ {ys:List V} {us:List Value} {cs:List α},Vals ys us->Paired R ys cs->Paired T us cs
 | _,_,_,.nil,.nil=>.nil
 | _,_,_,.cons a b,.cons c d=>.cons (h _ _ _ a c) (Zdz h b d)
theorem Zqf {pins:List (Addr × Obj)} {s:Shared} {σ:St} {H:Hp} (I:Inv X pins σ H s) {y:V} {u:Value} {r:List Int} (ru:RelV y u) (h:RowV X.K H y r):RowAt s.heap u r:=by
 obtain ⟨b,rfl,hs⟩:=h
 obtain ⟨its,w1,p1,_⟩:=I.tuple hs
 exact ⟨b,its,ru,p1,Ziz w1⟩
theorem Zn8 {pins:List (Addr × Obj)} {s:Shared} {σ:St} {H:Hp} (I:Inv X pins σ H s) {y:V} {u:Value} {c:List (List Int)} (ru:RelV y u) (h:CodeV X.K H y c):CodeAt s.heap u c:=by
 obtain ⟨b,zs,rfl,hs,hp⟩:=h
 obtain ⟨its,w1,p1,_⟩:=I.tuple hs
 exact ⟨b,its,ru,p1,Zdz (R:=RowV X.K H) (T:=RowAt s.heap) (fun y u c a b=>Zqf I a b) w1 hp⟩
end
section
variable {K:PySem.W.Frag} {Δ:Evt} {P:D->Evt->Prop}
theorem Zpb {G:Hp} {H:Hp} (hs:Same G H) {v:V} {r:List Int} (h:Rep K G v (rowD r)):RowV K H v r:=by
 obtain ⟨a,vs,rfl,ha,rs⟩:=h.inv
 have ev:=rs.ints
 subst ev
 exact ⟨a,rfl,SqT.of (hs _ _ ha)⟩
theorem Zf1 {G:Hp} {H:Hp} (hs:Same G H):∀ {vs:List V} {c:List (List Int)},Reps K G vs (c.map rowD)->Paired (RowV K H) vs c
 | _,[],.nil=>.nil
 | _,r :: c,.cons a b=>.cons (Zpb hs a) (Zf1 hs b)
theorem Zeu {G:Hp} {H:Hp} (hs:Same G H):∀ {vs:List V} {cs:List (List (List Int))},Reps K G vs (cs.map fun c=>D.tup (c.map rowD))->Paired (CodeV K H) vs cs
 | _,[],.nil=>.nil
 | _,c :: cs,.cons a b=>by
  obtain ⟨p,ws,rfl,ha,rs⟩:=a.inv
  exact .cons ⟨p,ws,rfl,SqT.of (hs _ _ ha),Zf1 hs rs⟩ (Zeu hs b)
end
end L2
set_option Elab.async false
set_option linter.all false
set_option maxRecDepth 100000
namespace L2
open PySem PySem.Spec PyProof.Rows PySem.SeqAt
def rNeT (K:PySem.W.Frag):R2:=fun x y H Q=>∃ (G:Hp) (n:Nat) (xs ys:List D) (a b:Addr) (vs ws:List V),Same G H/\SqT K H a vs/\SqT K H b ws/\Reps K G vs xs/\Reps K G ws ys/\(∀ d ∈ xs,Dp n d)/\(∀ d ∈ ys,Dp n d)/\n<=5/\x=.ref a/\y=.ref b/\Q (.bl (!(eqF (n + 1) (.tup xs) (.tup ys)))) H
section
variable {X:Cx}
theorem neTK (K:PySem.W.Frag) (hv:X.A.units + 8 < cLine) (hK:X.K=K:=by rfl):OpR X (compareOp .NotEq) (rNeT K):=by
 subst hK
 intro pins s σ H x y v u Q I rx ry h
 obtain ⟨G,n,xs,ys,a,b,vs,ws,sg,h1,h2,ra,rb,pd,pe,hn,rfl,rfl,q⟩:=h
 cases rx; cases ry
 obtain ⟨its,w1,p1,_⟩:=I.tuple h1
 obtain ⟨its2,w2,p2,_⟩:=I.tuple h2
 have l1:=w1.length
 have l2:=w2.length
 have l3:=ra.length
 have l4:=rb.length
 have z:=RcNeAt.tuples (A:=X.A) (s:=s) (e:=atZip n xs ys) p1 p2 (by omega) fun j g1 g2=>by
  have g1':j < its.length:=by simpa using g1
  have g2':j < its2.length:=by simpa using g2
  have hx:j < xs.length:=by omega
  have hy:j < ys.length:=by omega
  obtain ⟨p,hp1,hp2⟩:=ra.get (List.getElem?_eq_getElem hx)
  obtain ⟨q,hq1,hq2⟩:=rb.get (List.getElem?_eq_getElem hy)
  obtain ⟨va,hv1,hv2⟩:=w1.get hp1
  obtain ⟨vb,hw1,hw2⟩:=w2.get hq1
  rw [List.getElem?_eq_getElem g1'] at hv1
  rw [List.getElem?_eq_getElem g2'] at hw1
  rw [List.getElem_toArray,List.getElem_toArray,Option.some.inj hv1,Option.some.inj hw1]
  have:=(Zni n (A:=X.A.in1) I sg hp2 hq2 hv2 hw2 (pd _ (List.getElem_mem hx)) (pe _ (List.getElem_mem hy)) (by show X.A.units + 1 + n < cLine; omega)).1
  unfold atZip
  rw [List.getElem?_eq_getElem hx,List.getElem?_eq_getElem hy]
  exact this
 have e1:(!((List.range (min its.toArray.size its2.toArray.size)).all (atZip n xs ys) && its.toArray.size == its2.toArray.size)) = !(eqF (n + 1) (.tup xs) (.tup ys)):=by
  show _ = !(xs.length == ys.length && (xs.zip ys).all fun p=>eqF n p.1 p.2)
  rw [<- Ze9,List.size_toArray,List.size_toArray,<- l1,<- l2,l3,l4,Bool.and_comm]
 rw [e1] at z
 exact z X.prog X.w _ _ ⟨.bl _,H,I,rfl,q⟩
end
section
variable {K:PySem.W.Frag} {Δ:Evt} {P:D->Evt->Prop}
theorem Zrj {n:Nat} {xs ys:List D} (hn:n<=5) (pd:∀ d ∈ xs,Dp n d) (pe:∀ d ∈ ys,Dp n d) (p:P (.bl (!(eqF (n + 1) (.tup xs) (.tup ys)))) Δ):JR2 K (rNeT K) (.tup xs) (.tup ys) Δ P:=fun g G H σ Q x y k rx ry c=>by
 obtain ⟨a,vs,rfl,ha,rs⟩:=rx.inv
 obtain ⟨b,ws,rfl,hb,rt⟩:=ry.inv
 exact ⟨G,n,xs,ys,a,b,vs,ws,k.live,SqT.of (k.live _ _ ha),SqT.of (k.live _ _ hb),rs,rt,pd,pe,hn,rfl,rfl,c _ _ G H Δ k (Same.refl _) (.bl _) p⟩
end
end L2
set_option Elab.async false
set_option linter.all false
set_option maxRecDepth 100000
namespace L2
open PySem PySem.Spec PyProof.Rows PySem.SeqAt
section
variable {K:PySem.W.Frag} {Δ:Evt} {P:D->Evt->Prop}
end
end L2
set_option Elab.async false
set_option linter.all false
set_option maxRecDepth 100000
namespace L2
open PySem PySem.Spec PyProof.Rows PySem.SeqAt
end L2
set_option Elab.async false
set_option linter.all false
set_option maxRecDepth 100000
namespace L2
open PySem PySem.Spec PyProof.Rows PySem.SeqAt
section
variable {X:Cx}
end
section
variable {prog:Program} {w:World} {A:Around} {E:Value->Shared->Prop} {s:Shared}
end
section
variable {K:PySem.W.Frag} {Δ:Evt} {P:D->Evt->Prop}
end
end L2
set_option Elab.async false
set_option linter.all false
set_option maxRecDepth 100000
namespace L2
open PySem PySem.Spec PyProof.Rows PySem.SeqAt
section
variable {prog:Program} {w:World} {A:Around} {E:Value->Shared->Prop} {s:Shared}
end
section
variable {K:PySem.W.Frag} {Δ:Evt}
end
section
variable {K:PySem.W.Frag} {Δ:Evt} {P:D->Evt->Prop}
end
section
variable {X:Cx}
end
end L2
set_option Elab.async false
set_option linter.all false
set_option maxRecDepth 100000
namespace L2
open PySem
def advM (m:Nat) (p:SetTable.Probe):SetTable.Probe:=
 if p.more > 0 then { p with j:=p.j + 1,more:=p.more - 1 } else
 let (i,perturb):=SetTable.leap m p.i p.perturb
 { p with j:=i,more:=SetTable.runEnd m i - i,i,perturb }
def prb (m:Nat) (h:Int):Nat->SetTable.Probe
 | 0=>{ j:=SetTable.bits h % (m + 1),more:=SetTable.runEnd m (SetTable.bits h % (m + 1)) - SetTable.bits h % (m + 1),i:=SetTable.bits h % (m + 1),perturb:=SetTable.bits h,dummy:=none }
 | n + 1=>advM m (prb m h n)
def lp (m:Nat) (h:Int):Nat->Nat × Nat
 | 0=>(SetTable.bits h % (m + 1),SetTable.bits h)
 | k + 1=>SetTable.leap m (lp m h k).1 (lp m h k).2
def runL (m i:Nat):Nat:=SetTable.runEnd m i - i
theorem Zj3 (m i:Nat):runL m i<=9:=by unfold runL SetTable.runEnd; split <;> omega
theorem Zgu {m i r:Nat} (h:i<=m) (hr:r<=runL m i):i + r<=m:=by
 unfold runL SetTable.runEnd at hr; split at hr <;> omega
theorem Zpo (m:Nat) (h:Int):∀ k,(lp m h k).1<=m
 | 0=>Nat.le_of_lt_succ (Nat.mod_lt _ (Nat.succ_pos m))
 | k + 1=>Nat.le_of_lt_succ (Nat.mod_lt _ (Nat.succ_pos m))
theorem Zd5 {m:Nat} {h:Int} {n i q:Nat} (e:prb m h n=⟨i,runL m i,i,q,none⟩):∀ r,r<=runL m i->prb m h (n + r)=⟨i + r,runL m i - r,i,q,none⟩
 | 0,_=>e
 | r + 1,hr=>by
  show advM m (prb m h (n + r))=_
  rw [Zd5 e r (by omega)]
  unfold advM
  rw [if_pos (show runL m i - r > 0 by omega)]
  rfl
theorem Zhx (m:Nat) (h:Int):∀ k,∃ n,n<=10 * k/\k<=n/\prb m h n=⟨(lp m h k).1,runL m (lp m h k).1,(lp m h k).1,(lp m h k).2,none⟩ /\ ∀ n',n' < n->∃ k' r,k' < k/\r<=runL m (lp m h k').1/\(prb m h n').j=(lp m h k').1 + r
 | 0=>⟨0,Nat.le_refl _,Nat.le_refl _,rfl,fun n' h=>absurd h (Nat.not_lt_zero _)⟩
 | k + 1=>by
  obtain ⟨n,h1,h0,h2,h3⟩:=Zhx m h k
  have h9:=Zj3 m (lp m h k).1
  refine ⟨n + runL m (lp m h k).1 + 1,by omega,by omega,?_,fun n' hn=>?_⟩
  ·show advM m (prb m h (n + runL m (lp m h k).1))=_
   rw [Zd5 h2 _ (Nat.le_refl _)]
   unfold advM
   rw [if_neg (show ¬ runL m (lp m h k).1 - runL m (lp m h k).1 > 0 by omega)]
   rfl
  ·by_cases hc:n' < n
   ·obtain ⟨k',r,a,b,c⟩:=h3 n' hc
    exact ⟨k',r,by omega,b,c⟩
   ·refine ⟨k,n' - n,by omega,by omega,?_⟩
    have:=Zd5 h2 (n' - n) (by omega)
    rw [show n + (n' - n)=n' by omega] at this
    rw [this]
theorem Zqh (m:Nat) (h:Int) (n:Nat):(prb m h n).j<=m:=by
 obtain ⟨n2,_,a1,_,a3⟩:=Zhx m h (n + 1)
 obtain ⟨k',r,_,b,c⟩:=a3 n (by omega)
 rw [c]; exact Zgu (Zpo m h k') b
def stp (m:Nat):Nat->Nat->Nat
 | 0,i=>i
 | k + 1,i=>(stp m k i * 5 + 1) % (m + 1)
def Cyc (m:Nat):Prop:=∀ i j,i<=m->j<=m->∃ k,k<=m/\stp m k i=j
theorem Zfm (m:Nat) (a:Nat):∀ b i,stp m (a + b) i=stp m b (stp m a i)
 | 0,i=>rfl
 | b + 1,i=>by show (stp m (a + b) i * 5 + 1) % (m + 1)=_; rw [Zfm m a b i]; rfl
theorem Zqd {m:Nat} (h1:stp m (m + 1) 0=0) (h2:∀ j,j < m + 1->∃ k,k < m + 1/\stp m k 0=j):Cyc m:=by
 intro i j hi hj
 obtain ⟨a,ha,rfl⟩:=h2 i (by omega)
 obtain ⟨b,hb,rfl⟩:=h2 j (by omega)
 by_cases c:a<=b
 ·exact ⟨b - a,by omega,by rw [<- Zfm,show a + (b - a)=b by omega]⟩
 ·refine ⟨m + 1 - a + b,by omega,?_⟩
  rw [<- Zfm,show a + (m + 1 - a + b)=(m + 1) + b by omega,Zfm,h1]
def orb (m:Nat):Nat->Nat->List Nat
 | 0,_=>[]
 | f + 1,i=>i :: orb m f ((i * 5 + 1) % (m + 1))
theorem Zf4 (m:Nat):∀ k i,stp m (k + 1) i=stp m k ((i * 5 + 1) % (m + 1))
 | 0,i=>rfl
 | k + 1,i=>by show (stp m (k + 1) i * 5 + 1) % (m + 1)=_; rw [Zf4 m k i]; rfl
theorem Zjc (m:Nat):∀ f i j,j ∈ orb m f i->∃ k,k < f/\stp m k i=j
 | 0,i,j,h=>by cases h
 | f + 1,i,j,h=>by
  rcases List.mem_cons.mp h with e | e
  ·exact ⟨0,by omega,e.symm⟩
  ·obtain ⟨k,a,b⟩:=Zjc m f _ j e
   exact ⟨k + 1,by omega,by rw [Zf4]; exact b⟩
def cycB (m:Nat):Bool:=stp m (m + 1) 0 == 0 && (List.range (m + 1)).all fun j=>(orb m (m + 1) 0).contains j
theorem Zme {m:Nat} (h:cycB m=true):Cyc m:=by
 unfold cycB at h
 rw [Bool.and_eq_true] at h
 refine Zqd (by simpa using h.1) fun j hj=>?_
 have:=List.all_eq_true.mp h.2 j (List.mem_range.mpr hj)
 exact Zjc m _ _ j (by simpa using this)
theorem cyc7:Cyc 7:=Zme (by decide +kernel)
theorem cyc31:Cyc 31:=Zme (by decide +kernel)
theorem cyc127:Cyc 127:=Zme (by decide +kernel)
theorem cyc511:Cyc 511:=Zme (by decide +kernel)
theorem Zne (m:Nat) (h:Int):∀ k,(lp m h k).2=SetTable.bits h / 32 ^ k
 | 0=>by show SetTable.bits h=_; rw [Nat.pow_zero,Nat.div_one]
 | k + 1=>by show (lp m h k).2 / 32=_; rw [Zne m h k,Nat.div_div_eq_div_mul,Nat.pow_succ]
theorem Zop (h:Int):SetTable.bits h < 2 ^ 64:=by
 unfold SetTable.bits
 have h1:=Int.emod_lt_of_pos h (show (0:Int) < 2 ^ 64 by decide)
 have h2:=Int.emod_nonneg h (show (2 ^ 64:Int) ≠ 0 by decide)
 have:((2:Int) ^ 64)=((2 ^ 64:Nat):Int):=by decide
 omega
theorem Zj4 (m:Nat) (h:Int):∀ k,lp m h (13 + k)=(stp m k (lp m h 13).1,0)
 | 0=>by
  have e:=Zne m h 13
  have b:=Zop h
  rw [Nat.div_eq_of_lt (Nat.lt_of_lt_of_le b (by decide))] at e
  show lp m h 13=((lp m h 13).1,0)
  rw [<- e]
 | k + 1=>by
  show SetTable.leap m (lp m h (13 + k)).1 (lp m h (13 + k)).2=_
  rw [Zj4 m h k]
  unfold SetTable.leap
  show ((stp m k (lp m h 13).1 * 5 + 1 + 0 / 32) % (m + 1),0 / 32)=_
  rw [Nat.zero_div]; rfl
theorem Zij {m:Nat} (hc:Cyc m) (h:Int) {j:Nat} (hj:j<=m):∃ k,k<=m + 13/\(lp m h k).1=j:=by
 obtain ⟨k,h1,h2⟩:=hc _ _ (Zpo m h 13) hj
 exact ⟨13 + k,by omega,by rw [Zj4,h2]⟩
theorem Zk6 {m:Nat} (hc:Cyc m) (h:Int) {j:Nat} (hj:j<=m):∃ n,n < 10 * (m + 15)/\(prb m h n).j=j:=by
 obtain ⟨k,h1,h2⟩:=Zij hc h hj
 obtain ⟨n,a,_,b,_⟩:=Zhx m h k
 exact ⟨n,by omega,by rw [b]; exact h2⟩
def Rch (m:Nat) (pl:Nat->Prop) (h:Int) (j:Nat):Prop:=∃ n,n < 10 * (m + 15)/\(prb m h n).j=j/\∀ n',n' < n->pl (prb m h n').j
theorem Rch.mono {m:Nat} {pl pl':Nat->Prop} {h:Int} {j:Nat} (r:Rch m pl h j) (i:∀ x,pl x->pl' x):Rch m pl' h j:=
 let ⟨n,a,b,c⟩:=r; ⟨n,a,b,fun n' hn=>i _ (c n' hn)⟩
structure STb (t:SetTable) (hs:List Int):Prop where
 dm:t.dummies = #[]
 cy:Cyc t.mask
 rs:Ris t.place
 sz:t.place.size=hs.length
 le:∀ (i j:Nat),t.place[i]? = some j->j<=t.mask
 rc:∀ (i j:Nat) (h:Int),t.place[i]? = some j->hs[i]? = some h->Rch t.mask (fun x=>∃ y:Nat,t.place[y]? = some x) h j
 ro:t.place.size < t.mask
theorem Zlq {xs:Array Nat} (R:Ris xs) {i j:Nat} (h:xs[i]? = some j):SetTable.below xs j=i:=by
 obtain ⟨b1,b2,b3⟩:=Zdl R j
 have hi:=(Array.getElem?_eq_some_iff.mp h).1
 rcases Nat.lt_trichotomy (SetTable.below xs j) i with c | c | c
 ·have hb:SetTable.below xs j < xs.size:=by omega
  have e:=Array.getElem?_eq_getElem hb
  have h1:=R _ _ _ _ c e h
  have h2:=b3 _ _ (Nat.le_refl _) e
  omega
 ·exact c
 ·have:=b2 i j c h; omega
theorem Zc7 {t:SetTable} (R:Ris t.place) {i j:Nat} (h:t.place[i]? = some j):t.slot j=.live i:=by
 unfold SetTable.slot
 dsimp only
 rw [Zlq R h,h]
 simp
theorem Zi2 {t:SetTable} (hd:t.dummies = #[]) {j:Nat} (h:∀ i:Nat,t.place[i]? ≠ some j):t.slot j=.empty:=by
 unfold SetTable.slot
 dsimp only
 rw [if_neg (by simpa using h _),hd,Zlg]
 simp
theorem Zeh (m:Nat) (h:Int):∀ n,(prb m h n).dummy=none
 | 0=>rfl
 | n + 1=>by
  show (advM m (prb m h n)).dummy=none
  unfold advM
  split
  ·exact Zeh m h n
  ·exact Zeh m h n
theorem Zk1 {t:SetTable} {hs:List Int} (T:STb t hs) {hashAt:Nat->Int} {h:Int} (hn:∀ i,i < t.place.size->hashAt i ≠ h) {n0:Nat} (h0:∀ i:Nat,t.place[i]? ≠ some (prb t.mask h n0).j) :
  ∀ fuel n,n<=n0->n0 < n + fuel->n0 < 10 * (t.mask + 15)->(∀ n',n' < n->∃ y:Nat,t.place[y]? = some (prb t.mask h n').j) →
   ∃ j,SetTable.probe.go t hashAt h fuel (prb t.mask h n)=some (.empty j none)/\j<=t.mask/\(∀ i:Nat,t.place[i]? ≠ some j)/\Rch t.mask (fun x=>∃ y:Nat,t.place[y]? = some x) h j
 | 0,n,h1,h2,_,_=>by omega
 | fuel + 1,n,h1,h2,h3,h4=>by
  unfold SetTable.probe.go
  by_cases c:∃ i:Nat,t.place[i]? = some (prb t.mask h n).j
  ·obtain ⟨i,hi⟩:=c
   rw [Zc7 T.rs hi]
   dsimp only
   have his:=(Array.getElem?_eq_some_iff.mp hi).1
   rw [if_neg (by simpa using hn i his)]
   have hne:n ≠ n0:=fun e=>by subst e; exact h0 i hi
   exact Zk1 T hn h0 fuel (n + 1) (by omega) (by omega) h3 fun n' hn'=>by
    rcases Nat.lt_or_eq_of_le (Nat.le_of_lt_succ hn') with z | z
    ·exact h4 n' z
    ·subst z; exact ⟨i,hi⟩
  ·have c':∀ i:Nat,t.place[i]? ≠ some (prb t.mask h n).j:=fun i z=>c ⟨i,z⟩
   rw [Zi2 T.dm c']
   dsimp only
   rw [Zeh]
   exact ⟨_,rfl,Zqh _ _ _,c',n,by omega,rfl,h4⟩
theorem Zia {t:SetTable} {hs:List Int} (T:STb t hs) {hashAt:Nat->Int} {h:Int} {i0:Nat} (hi0:hashAt i0=h) (hn:∀ i,i < t.place.size->hashAt i=h->i=i0) {n0:Nat} (h0:t.place[i0]? = some (prb t.mask h n0).j)
  (hb:∀ n',n' < n0->∃ y:Nat,t.place[y]? = some (prb t.mask h n').j):∀ fuel n,n<=n0->n0 < n + fuel->∃ j nx,SetTable.probe.go t hashAt h fuel (prb t.mask h n)=some (.candidate j i0 nx)/\t.place[i0]? = some j
 | 0,n,h1,h2=>by omega
 | fuel + 1,n,h1,h2=>by
  unfold SetTable.probe.go
  rcases Nat.lt_or_eq_of_le h1 with c | c
  ·obtain ⟨i,hi⟩:=hb n c
   rw [Zc7 T.rs hi]
   dsimp only
   have his:=(Array.getElem?_eq_some_iff.mp hi).1
   by_cases q:hashAt i=h
   ·have:=hn i his q
    subst this
    rw [if_pos (by simpa using q)]
    exact ⟨_,_,rfl,hi⟩
   ·rw [if_neg (by simpa using q)]
    exact Zia T hi0 hn h0 hb fuel (n + 1) (by omega) (by omega)
  ·subst c
   rw [Zc7 T.rs h0]
   dsimp only
   rw [if_pos (by simpa using hi0)]
   exact ⟨_,_,rfl,h0⟩
theorem Zja:∀ {ms l:List Nat},ms.Nodup->(∀ x ∈ ms,x ∈ l)->ms.length<=l.length
 | [],_,_,_=>Nat.zero_le _
 | x :: ms,l,h1,h2=>by
  rw [List.nodup_cons] at h1
  have hx:=h2 x (by simp)
  have:=Zja (ms:=ms) (l:=l.erase x) h1.2 fun y hy=>(List.mem_erase_of_ne (fun z:y=x=>h1.1 (z ▸ hy))).mpr (h2 y (by simp [hy]))
  rw [List.length_erase_of_mem hx] at this
  have:=List.length_pos_of_mem hx
  rw [List.length_cons]
  omega
theorem Zld {xs:Array Nat} {m:Nat} (h:xs.size < m):∃ j,j<=m/\∀ i:Nat,xs[i]? ≠ some j:=by
 refine Classical.byContradiction fun hc=>?_
 have all:∀ j,j<=m->∃ i:Nat,xs[i]? = some j:=fun j hj=>Classical.byContradiction fun z=>hc ⟨j,hj,fun i e=>z ⟨i,e⟩⟩
 have sub:(List.range (m + 1)).length<=xs.toList.length:=Zja List.nodup_range fun x hx=>by
  obtain ⟨i,e⟩:=all x (by have:=List.mem_range.mp hx; omega)
  exact Array.mem_toList_iff.mpr (Array.mem_of_getElem? e)
 rw [List.length_range,Array.length_toList] at sub
 omega
theorem Zkc {t:SetTable} {hs:List Int} (T:STb t hs) {hashAt:Nat->Int} {h:Int} (hn:∀ i,i < t.place.size->hashAt i ≠ h) :
  ∃ j,t.probe hashAt h (t.probeStart h)=some (.empty j none)/\j<=t.mask/\(∀ i:Nat,t.place[i]? ≠ some j)/\Rch t.mask (fun x=>∃ y:Nat,t.place[y]? = some x) h j:=by
 obtain ⟨j,h1,h2⟩:=Zld T.ro
 obtain ⟨n,a,rfl⟩:=Zk6 T.cy h h1
 exact Zk1 T hn h2 _ 0 (Nat.zero_le _) (by show n < 0 + 10 * SetTable.turns t.mask; unfold SetTable.turns; omega) a fun n' h=>absurd h (Nat.not_lt_zero _)
theorem Zgo {t:SetTable} {hs:List Int} (T:STb t hs) {hashAt:Nat->Int} {h:Int} {i0:Nat} (h0:hs[i0]? = some h) (ha:hashAt i0=h) (hn:∀ i,i < t.place.size->hashAt i=h->i=i0) :
  ∃ j nx,t.probe hashAt h (t.probeStart h)=some (.candidate j i0 nx)/\t.place[i0]? = some j:=by
 have hl:=(List.getElem?_eq_some_iff.mp h0).1
 rw [<- T.sz] at hl
 have e:=Array.getElem?_eq_getElem hl
 obtain ⟨n,a,b,c⟩:=T.rc _ _ _ e h0
 exact Zia T ha hn (by rw [b]; exact e) c _ 0 (Nat.zero_le _) (by show n < 0 + 10 * SetTable.turns t.mask; unfold SetTable.turns; omega)
theorem Zms {α:Type} (l:List α) (p:Nat) (x:α) (h:p<=l.length) (i:Nat):(l.take p ++ x :: l.drop p)[i]? = if i < p then l[i]? else if i=p then some x else l[i - 1]?:=by
 by_cases h1:i < p
 ·rw [if_pos h1,List.getElem?_append_left (by rw [List.length_take]; omega),List.getElem?_take_of_lt h1]
 ·rw [if_neg h1,List.getElem?_append_right (by rw [List.length_take]; omega),List.length_take,Nat.min_eq_left h]
  by_cases h2:i=p
  ·rw [if_pos h2,h2,Nat.sub_self]; rfl
  ·rw [if_neg h2,show i - p=(i - 1 - p) + 1 by omega,List.getElem?_cons_succ,List.getElem?_drop,show p + (i - 1 - p)=i - 1 by omega]
theorem Zkt {xs:Array Nat} {j:Nat} (hp:SetTable.below xs j<=xs.size) (y:Nat):(∃ i:Nat,(SetTable.insertAt xs (SetTable.below xs j) j)[i]? = some y) ↔ y=j\/∃ i:Nat,xs[i]? = some y:=by
 constructor
 ·rintro ⟨i,e⟩
  rw [Za8 _ _ _ hp] at e
  split at e
  ·exact .inr ⟨_,e⟩
  ·split at e
   ·exact .inl (Option.some.inj e).symm
   ·exact .inr ⟨_,e⟩
 ·rintro (rfl | ⟨i,e⟩)
  ·exact ⟨SetTable.below xs y,by rw [Za8 _ _ _ hp,if_neg (Nat.lt_irrefl _),if_pos rfl]⟩
  ·by_cases c:i < SetTable.below xs j
   ·exact ⟨i,by rw [Za8 _ _ _ hp,if_pos c]; exact e⟩
   ·exact ⟨i + 1,by rw [Za8 _ _ _ hp,if_neg (by omega),if_neg (by omega)]; exact e⟩
theorem STb.put {t:SetTable} {hs:List Int} (T:STb t hs) {h:Int} {j:Nat} (hj:j<=t.mask) (hf:∀ i:Nat,t.place[i]? ≠ some j) (hr:Rch t.mask (fun x=>∃ y:Nat,t.place[y]? = some x) h j) (hro:t.place.size + 1 < t.mask) :
  STb (t.put j).1 (hs.take (t.put j).2 ++ h :: hs.drop (t.put j).2)/\(t.put j).2<=hs.length:=by
 have hp:SetTable.below t.place j<=t.place.size:=(Zdl T.rs j).1
 have hd:(t.put j).1.dummies = #[]:=by
  show (if SetTable.has t.dummies j=true then _ else t.dummies) = #[]
  rw [T.dm,Zlg]; rfl
 have hz:(SetTable.insertAt t.place (SetTable.below t.place j) j).size=t.place.size + 1:=by
  rw [<- Array.length_toList,Zb6 _ _ _ hp,List.length_append,List.length_cons,List.length_take,List.length_drop,Array.length_toList]
  omega
 have hs1:=T.sz
 have up:∀ x,(∃ y:Nat,t.place[y]? = some x)->∃ y:Nat,(t.put j).1.place[y]? = some x:=fun x hx=>(Zkt hp x).mpr (.inr hx)
 refine ⟨⟨hd,T.cy,Zor T.rs (hf _),?_,fun i y e=>?_,fun i y g e1 e2=>?_,?_⟩,by rw [<- hs1]; exact hp⟩
 ·show (SetTable.insertAt t.place (SetTable.below t.place j) j).size=_
  rw [hz,List.length_append,List.length_cons,List.length_take,List.length_drop]
  show _=min (SetTable.below t.place j) hs.length + (hs.length - SetTable.below t.place j + 1)
  omega
 ·rcases (Zkt hp y).mp ⟨i,e⟩ with rfl | ⟨i',e'⟩
  ·exact hj
  ·exact T.le i' y e'
 ·have e1:(SetTable.insertAt t.place (SetTable.below t.place j) j)[i]? = some y:=e1
  have e2:(hs.take (SetTable.below t.place j) ++ h :: hs.drop (SetTable.below t.place j))[i]? = some g:=e2
  rw [Za8 _ _ _ hp] at e1
  rw [Zms _ _ _ (by omega)] at e2
  by_cases c1:i < SetTable.below t.place j
  ·rw [if_pos c1] at e1 e2
   exact (T.rc i y g e1 e2).mono up
  ·rw [if_neg c1] at e1 e2
   by_cases c2:i=SetTable.below t.place j
   ·rw [if_pos c2] at e1 e2
    cases e1; cases e2
    exact hr.mono up
   ·rw [if_neg c2] at e1 e2
    exact (T.rc _ y g e1 e2).mono up
 ·show (SetTable.insertAt t.place (SetTable.below t.place j) j).size < t.mask
  rw [hz]; exact hro
def fil (ow:Array (Option Nat)):Nat:=ow.toList.countP (·.isSome)
def Tkn (ow:Array (Option Nat)) (x:Nat):Prop:=∃ q,ow[x]? = some (some q)
theorem Zh1 {m:Nat} {ow:Array (Option Nat)} {h:Int} (hz:ow.size=m + 1) {k0:Nat} (h0:ow[(lp m h k0).1]? = some none) (hk0:k0<=m + 13):∀ fuel k,k<=k0->k0 < k + fuel →
  (∀ k' r,k' < k->r<=runL m (lp m h k').1->Tkn ow ((lp m h k').1 + r))->∃ j,SetTable.layClean.free m ow fuel (lp m h k).1 (lp m h k).2=some j/\j<=m/\ow[j]? = some none/\Rch m (Tkn ow) h j
 | 0,k,h1,h2,_=>by omega
 | fuel + 1,k,h1,h2,hb=>by
  have hle:=Zpo m h k
  have get:∀ r,r<=runL m (lp m h k).1->((ow.getD ((lp m h k).1 + r) (some 0)).isNone=true ↔ ow[(lp m h k).1 + r]? = some none)/\(¬ (ow.getD ((lp m h k).1 + r) (some 0)).isNone=true->Tkn ow ((lp m h k).1 + r)):=fun r hr=>by
   have hin:=Zgu hle hr
   have hlt:(lp m h k).1 + r < ow.size:=by omega
   have e:=Array.getElem?_eq_getElem hlt
   rw [Array.getD_eq_getD_getElem?,e,Option.getD_some]
   constructor
   ·cases ow[(lp m h k).1 + r] <;> simp
   ·intro z
    cases q:ow[(lp m h k).1 + r] with
    | none=>rw [q] at z; exact absurd rfl z
    | some v=>exact ⟨v,by rw [e,q]⟩
  have hlen:SetTable.runEnd m (lp m h k).1 + 1 - (lp m h k).1=runL m (lp m h k).1 + 1:=by
   unfold runL SetTable.runEnd; split <;> omega
  obtain ⟨n,n1,n2,n3,n4⟩:=Zhx m h k
  unfold SetTable.layClean.free
  rw [hlen]
  cases q:(List.range (runL m (lp m h k).1 + 1)).find? fun r=>(ow.getD ((lp m h k).1 + r) (some 0)).isNone with
  | some r=>
   dsimp only
   obtain ⟨q1,q2,q3⟩:=List.find?_range_eq_some.mp q
   have hr:r<=runL m (lp m h k).1:=by have:=List.mem_range.mp q2; omega
   have hr9:=Zj3 m (lp m h k).1
   refine ⟨_,rfl,Zgu hle hr,((get r hr).1).mp q1,n + r,by omega,by rw [Zd5 n3 r hr],fun n' hn'=>?_⟩
   by_cases c:n' < n
   ·obtain ⟨k',r',a,b,d⟩:=n4 n' c
    rw [d]; exact hb k' r' a b
   ·have hr':n' - n < r:=by omega
    have e:=Zd5 n3 (n' - n) (by omega)
    rw [show n + (n' - n)=n' by omega] at e
    rw [e]
    exact (get _ (by omega)).2 (by have z:=q3 (n' - n) hr'; intro z'; rw [z'] at z; cases z)
  | none=>
   dsimp only
   have hall:∀ r,r<=runL m (lp m h k).1->Tkn ow ((lp m h k).1 + r):=fun r hr=>(get r hr).2 (by have z:=List.find?_range_eq_none.mp q r (by omega); intro z'; rw [z'] at z; cases z)
   have hne:k ≠ k0:=fun e=>by
    subst e
    obtain ⟨v,hv⟩:=hall 0 (Nat.zero_le _)
    rw [Nat.add_zero,h0] at hv
    cases hv
   refine Zh1 hz h0 hk0 fuel (k + 1) (by omega) (by omega) fun k' r hk hr=>?_
   rcases Nat.lt_or_eq_of_le (Nat.le_of_lt_succ hk) with z | z
   ·exact hb k' r z hr
   ·subst z; exact hall r hr
structure Lai (m:Nat) (hs:List Int) (k:Nat) (ow:Array (Option Nat)):Prop where
 sz:ow.size=m + 1
 cn:fil ow=k
 at_:∀ (j q:Nat),ow[j]? = some (some q)->q < k/\∀ h,hs[q]? = some h->Rch m (Tkn ow) h j
 ex:∀ q,q < k->∃ j:Nat,ow[j]? = some (some q)
 inj:∀ (j j' q:Nat),ow[j]? = some (some q)->ow[j']? = some (some q)->j=j'
theorem Zot (m:Nat) (hs:List Int):Lai m hs 0 (Array.replicate (m + 1) none):=by
 have no:∀ (j q:Nat),(Array.replicate (m + 1) (none:Option Nat))[j]? ≠ some (some q):=fun j q e=>by
  rw [Array.getElem?_replicate] at e
  split at e <;> cases e
 refine ⟨Array.size_replicate,?_,fun j q e=>absurd e (no j q),fun q h=>absurd h (Nat.not_lt_zero _),fun j _ q e=>absurd e (no j q)⟩
 unfold fil
 rw [Array.toList_replicate,List.countP_replicate]
 rfl
theorem Zmj {m:Nat} {ow:Array (Option Nat)} (hz:ow.size=m + 1) (h:fil ow < m + 1):∃ j,j<=m/\ow[j]? = some none:=by
 refine Classical.byContradiction fun hc=>?_
 have all:∀ x ∈ ow.toList,x.isSome=true:=fun x hx=>by
  obtain ⟨i,hi⟩:=List.getElem?_of_mem hx
  rw [Array.getElem?_toList] at hi
  cases x with
  | some v=>rfl
  | none=>exact absurd ⟨i,by have:=(Array.getElem?_eq_some_iff.mp hi).1; omega,hi⟩ hc
 have:=List.countP_eq_length.mpr all
 unfold fil at h
 rw [this,Array.length_toList] at h
 omega
theorem Zlf {l:List (Option Nat)} {j:Nat} (v:Nat) (h:l[j]? = some none):(l.set j (some v)).countP (·.isSome)=l.countP (·.isSome) + 1:=by
 obtain ⟨h1,h2⟩:=List.getElem?_eq_some_iff.mp h
 rw [List.countP_set h1,h2]
 simp
theorem Zm6 {m:Nat} {hs:List Int} {k:Nat} {ow:Array (Option Nat)} (L:Lai m hs k ow) (hc:Cyc m) (hk:k<=m) {h:Int} (hh:hs[k]? = some h) :
  ∃ j,SetTable.layClean.free m ow (SetTable.turns m) (SetTable.bits h % (m + 1)) (SetTable.bits h)=some j/\Lai m hs (k + 1) (ow.setIfInBounds j (some k)):=by
 obtain ⟨j0,h1,h2⟩:=Zmj L.sz (by rw [L.cn]; omega)
 obtain ⟨k0,h3,h4⟩:=Zij hc h h1
 obtain ⟨j,e1,e2,e3,e4⟩:=Zh1 L.sz (h:=h) (k0:=k0) (by rw [h4]; exact h2) h3 (SetTable.turns m) 0 (Nat.zero_le _) (by unfold SetTable.turns; omega) fun k' r h=>absurd h (Nat.not_lt_zero _)
 have hj:j < ow.size:=by rw [L.sz]; omega
 have get:∀ x:Nat,(ow.setIfInBounds j (some k))[x]? = if j=x then some (some k) else ow[x]?:=fun x=>by
  rw [Array.getElem?_setIfInBounds]
  by_cases c:j=x
  ·rw [if_pos c,if_pos c,if_pos (by omega)]
  ·rw [if_neg c,if_neg c]
 have up:∀ x,Tkn ow x->Tkn (ow.setIfInBounds j (some k)) x:=fun x ⟨q,hq⟩=>by
  by_cases c:j=x
  ·exact ⟨k,by rw [get,if_pos c]⟩
  ·exact ⟨q,by rw [get,if_neg c]; exact hq⟩
 refine ⟨j,e1,⟨by rw [Array.size_setIfInBounds]; exact L.sz,?_,fun x q e=>?_,fun q hq=>?_,fun x x' q a b=>?_⟩⟩
 ·unfold fil
  rw [Array.toList_setIfInBounds,Zlf k (by rw [Array.getElem?_toList]; exact e3)]
  have:=L.cn
  unfold fil at this
  omega
 ·rw [get] at e
  by_cases c:j=x
  ·rw [if_pos c] at e
   cases e
   refine ⟨by omega,fun g hg=>?_⟩
   rw [hh] at hg
   cases hg
   rw [<- c]
   exact e4.mono up
  ·rw [if_neg c] at e
   obtain ⟨a,b⟩:=L.at_ x q e
   exact ⟨by omega,fun g hg=>(b g hg).mono up⟩
 ·rcases Nat.lt_or_eq_of_le (Nat.le_of_lt_succ hq) with z | z
  ·obtain ⟨x,hx⟩:=L.ex q z
   have c:j ≠ x:=fun c=>by rw [<- c,e3] at hx; cases hx
   exact ⟨x,by rw [get,if_neg c]; exact hx⟩
  ·subst z
   exact ⟨j,by rw [get,if_pos rfl]⟩
 ·rw [get] at a b
  by_cases c:j=x
  ·by_cases c':j=x'
   ·rw [<- c,c']
   ·rw [if_pos c] at a; rw [if_neg c'] at b
    cases a
    have:=(L.at_ _ _ b).1
    omega
  ·by_cases c':j=x'
   ·rw [if_neg c] at a; rw [if_pos c'] at b
    cases b
    have:=(L.at_ _ _ a).1
    omega
   ·rw [if_neg c] at a; rw [if_neg c'] at b
    exact L.inj x x' q a b
def layStep (m:Nat) (acc:Option (Array (Option Nat) × Nat)) (h:Int):Option (Array (Option Nat) × Nat):=do
 let (owner,k) ← acc
 let j ← SetTable.layClean.free m owner (SetTable.turns m) (SetTable.bits h % (m + 1)) (SetTable.bits h)
 pure (owner.setIfInBounds j (some k),k + 1)
theorem Zg8 (m:Nat) (hs:Array Int):SetTable.layClean m hs=(hs.toList.foldl (layStep m) (some (Array.replicate (m + 1) none,0))).map (·.1):=by
 rw [Array.foldl_toList]; rfl
theorem Zhw {m:Nat} {hs:List Int} (hc:Cyc m) (hm:hs.length<=m):∀ (rest:List Int) (k:Nat) (ow:Array (Option Nat)),Lai m hs k ow->hs.drop k=rest->k<=hs.length->∃ ow',rest.foldl (layStep m) (some (ow,k))=some (ow',hs.length)/\Lai m hs hs.length ow'
 | [],k,ow,L,e,hk=>by
  have:k=hs.length:=by
   have:=congrArg List.length e
   rw [List.length_drop,List.length_nil] at this
   omega
  subst this
  exact ⟨ow,rfl,L⟩
 | h :: rest,k,ow,L,e,hk=>by
  have hlt:k < hs.length:=by
   have:=congrArg List.length e
   rw [List.length_drop,List.length_cons] at this
   omega
  have hh:hs[k]? = some h:=by
   have:=List.getElem?_drop (xs:=hs) (i:=k) (j:=0)
   rw [e] at this
   simpa using this.symm
  obtain ⟨j,e1,L1⟩:=Zm6 L hc (by omega) hh
  have es:layStep m (some (ow,k)) h=some (ow.setIfInBounds j (some k),k + 1):=by
   show (SetTable.layClean.free m ow (SetTable.turns m) (SetTable.bits h % (m + 1)) (SetTable.bits h)).bind (fun j=>some (ow.setIfInBounds j (some k),k + 1))=_
   rw [e1]; rfl
  rw [List.foldl_cons,es]
  refine Zhw hc hm rest (k + 1) _ L1 ?_ (by omega)
  rw [<- List.drop_drop,e]; rfl
def liveL (ow:Array (Option Nat)) (m:Nat):List (Nat × Nat):=(List.range (m + 1)).filterMap fun j=>(ow.getD j none).map (j,·)
theorem Zb5 {m:Nat} {ow:Array (Option Nat)} (hz:ow.size=m + 1) (j q:Nat):(j,q) ∈ liveL ow m ↔ ow[j]? = some (some q):=by
 unfold liveL
 rw [List.mem_filterMap]
 constructor
 ·rintro ⟨x,hx,e⟩
  have hx:=List.mem_range.mp hx
  have g:=Array.getElem?_eq_getElem (show x < ow.size by omega)
  rw [Array.getD_eq_getD_getElem?,g,Option.getD_some] at e
  cases z:ow[x] with
  | none=>rw [z] at e; cases e
  | some v=>
   rw [z] at e
   cases e
   rw [g,z]
 ·intro e
  have hx:=(Array.getElem?_eq_some_iff.mp e).1
  refine ⟨j,List.mem_range.mpr (by omega),?_⟩
  rw [Array.getD_eq_getD_getElem?,e]
  rfl
theorem Ziv (m:Nat) (ow:Array (Option Nat)):(liveL ow m).Pairwise fun a b=>a.1 < b.1:=by
 unfold liveL
 rw [List.pairwise_filterMap]
 refine List.Pairwise.imp ?_ List.pairwise_lt_range
 intro a b hab c hc d hd
 cases qa:ow.getD a none with
 | none=>rw [qa] at hc; cases hc
 | some k=>
  cases qb:ow.getD b none with
  | none=>rw [qb] at hd; cases hd
  | some l=>
   rw [qa] at hc; rw [qb] at hd
   have hc:(a,k)=c:=by simpa using hc
   have hd:(b,l)=d:=by simpa using hd
   subst hc hd
   exact hab
theorem Zkk {m:Nat} {hs:List Int} {k:Nat} {ow:Array (Option Nat)} (L:Lai m hs k ow):((liveL ow m).map (·.2)).Perm (List.range k):=by
 have nd:((liveL ow m).map (·.2)).Nodup:=by
  rw [List.nodup_iff_pairwise_ne,List.pairwise_map]
  refine List.Pairwise.imp_of_mem ?_ (Ziv m ow)
  intro a b ha hb hab e
  obtain ⟨j,q⟩:=a
  obtain ⟨j',q'⟩:=b
  simp only at hab e
  subst e
  have:=L.inj _ _ _ ((Zb5 L.sz _ _).mp ha) ((Zb5 L.sz _ _).mp hb)
  omega
 refine (List.perm_ext_iff_of_nodup nd List.nodup_range).mpr fun q=>?_
 rw [List.mem_map,List.mem_range]
 constructor
 ·rintro ⟨⟨j,q'⟩,h1,rfl⟩
  exact (L.at_ _ _ ((Zb5 L.sz _ _).mp h1)).1
 ·intro h
  obtain ⟨j,hj⟩:=L.ex q h
  exact ⟨(j,q),(Zb5 L.sz _ _).mpr hj,rfl⟩
theorem Zhj {α:Type} {es:Array α}:∀ (l:List Nat),(∀ q ∈ l,q < es.size)->(l.filterMap (es[·]?)).length=l.length/\∀ x:Nat,(l.filterMap (es[·]?))[x]? = (l[x]?).bind (es[·]?)
 | [],_=>⟨rfl,fun x=>by simp⟩
 | q :: l,h=>by
  obtain ⟨i1,i2⟩:=Zhj l fun x hx=>h x (List.mem_cons_of_mem _ hx)
  have e:=Array.getElem?_eq_getElem (h q (by simp))
  rw [List.filterMap_cons_some e]
  refine ⟨by rw [List.length_cons,List.length_cons,i1],fun x=>?_⟩
  cases x with
  | zero=>show some _=_; rw [<- e]; rfl
  | succ x=>show (l.filterMap (es[·]?))[x]? = _; rw [i2]; rfl
theorem Zmr {α:Type} (es:Array α):(List.range es.size).filterMap (es[·]?)=es.toList:=by
 apply List.ext_getElem?
 intro i
 rw [(Zhj (es:=es) (List.range es.size) fun q h=>List.mem_range.mp h).2]
 by_cases c:i < es.size
 ·rw [List.getElem?_range c,Array.getElem?_toList]; rfl
 ·rw [List.getElem?_eq_none (show (List.range es.size).length<=i by rw [List.length_range]; omega),List.getElem?_eq_none (show es.toList.length<=i by rw [Array.length_toList]; omega)]; rfl
theorem Zpy {m fg mv:Nat} {ld pn:Bool} {hs:Array Int} (hc:Cyc m) (hm:hs.size < m):∃ t' order,SetTable.laid m fg mv ld pn hs=some (t',order)/\t'.mask=m/\t'.led=ld/\t'.plain=pn/\STb t' (order.toList.filterMap (hs[·]?))/\order.toList.Perm (List.range hs.size):=by
 obtain ⟨ow,e1,L⟩:=Zhw (m:=m) (hs:=hs.toList) hc (by rw [Array.length_toList]; omega) hs.toList 0 _ (Zot m hs.toList) (by simp) (Nat.zero_le _)
 rw [Array.length_toList] at e1 L
 have e2:SetTable.layClean m hs=some ow:=by rw [Zg8,e1]; rfl
 have pm:=Zkk L
 refine ⟨{ mask:=m,place:=((liveL ow m).map (·.1)).toArray,dummies:=#[],finger:=fg,led:=ld,moves:=mv,plain:=pn },((liveL ow m).map (·.2)).toArray,?_,rfl,rfl,rfl,?_,by simpa using pm⟩
 ·unfold SetTable.laid
  rw [e2]; rfl
 have hq:∀ q ∈ (liveL ow m).map (·.2),q < hs.size:=fun q h=>List.mem_range.mp ((pm.mem_iff).mp h)
 obtain ⟨f1,f2⟩:=Zhj (es:=hs) _ hq
 have hl:(liveL ow m).length=hs.size:=by have:=pm.length_eq; rwa [List.length_map,List.length_range] at this
 have pl:∀ (i j:Nat),((liveL ow m).map (·.1)).toArray[i]? = some j->∃ q,(liveL ow m)[i]? = some (j,q):=fun i j e=>by
  rw [List.getElem?_toArray,List.getElem?_map] at e
  cases z:(liveL ow m)[i]? with
  | none=>rw [z] at e; cases e
  | some p=>rw [z] at e; obtain ⟨a,b⟩:=p; cases e; exact ⟨b,rfl⟩
 have tk:∀ x,Tkn ow x->∃ y:Nat,((liveL ow m).map (·.1)).toArray[y]? = some x:=fun x ⟨q,hx⟩=>by
  obtain ⟨y,hy⟩:=List.getElem?_of_mem ((Zb5 L.sz x q).mpr hx)
  exact ⟨y,by rw [List.getElem?_toArray,List.getElem?_map,hy]; rfl⟩
 refine ⟨rfl,hc,Zl7 ow (m + 1),?_,fun i j e=>?_,fun i j h e1 e2=>?_,?_⟩
 ·show ((liveL ow m).map (·.1)).toArray.size=_
  rw [List.size_toArray,List.length_map,f1,List.length_map]
 ·obtain ⟨q,hq'⟩:=pl i j e
  have:=(Zb5 L.sz _ _).mp (List.mem_of_getElem? hq')
  have:=(Array.getElem?_eq_some_iff.mp this).1
  have hz:=L.sz
  show j<=m
  omega
 ·obtain ⟨q,hq'⟩:=pl i j e1
  rw [f2,List.getElem?_map,hq'] at e2
  have e2:hs[q]? = some h:=e2
  have:=(L.at_ _ _ ((Zb5 L.sz _ _).mp (List.mem_of_getElem? hq'))).2 h (by rw [Array.getElem?_toList]; exact e2)
  exact this.mono tk
 ·show ((liveL ow m).map (·.1)).toArray.size < m
  rw [List.size_toArray,List.length_map,hl]; exact hm
end L2
set_option Elab.async false
set_option linter.all false
set_option maxRecDepth 100000
namespace L2
open PySem PySem.Spec PyProof.Rows
def hashP (k:Int × Int):Int:=reduceHash (Builtin.Tuple.tupleHashOf [hashInt k.1,hashInt k.2])
def SmP (k:Int × Int):Prop:=0<=k.1/\k.1 < 64/\0<=k.2/\k.2 < 2
def allP:List (Int × Int):=(List.range 64).flatMap fun i:Nat=>[((i:Int),0),((i:Int),1)]
theorem Zib {k:Int × Int} (h:SmP k):k ∈ allP:=by
 obtain ⟨h1,h2,h3,h4⟩:=h
 unfold allP
 rw [List.mem_flatMap]
 refine ⟨k.1.toNat,List.mem_range.mpr (by omega),?_⟩
 have:k.2=0\/k.2=1:=by omega
 rcases this with e | e
 ·exact List.mem_cons.mpr (.inl (Prod.ext (by show k.1=((k.1.toNat:Nat):Int); omega) e))
 ·exact List.mem_cons.mpr (.inr (List.mem_singleton.mpr (Prod.ext (by show k.1=((k.1.toNat:Nat):Int); omega) e)))
def nodB:List Int->Bool
 | []=>true
 | x :: l=>l.all (fun y=>y != x) && nodB l
theorem Zkw:∀ {l:List Int},nodB l=true->l.Nodup
 | [],_=>List.nodup_nil
 | x :: l,h=>by
  unfold nodB at h
  rw [Bool.and_eq_true,List.all_eq_true] at h
  exact List.nodup_cons.mpr ⟨fun hx=>by have:=h.1 x hx; simp at this,Zkw h.2⟩
theorem Zma:(allP.map hashP).Nodup:=Zkw (by decide +kernel)
theorem Zek {α β:Type} {f:α -> β}:∀ {l:List α},(l.map f).Nodup->∀ {a b:α},a ∈ l->b ∈ l->f a=f b->a=b
 | [],_,a,b,ha,_,_=>by cases ha
 | x :: l,h,a,b,ha,hb,e=>by
  rw [List.map_cons,List.nodup_cons] at h
  rcases List.mem_cons.mp ha with ha | ha
  ·rcases List.mem_cons.mp hb with hb | hb
   ·rw [ha,hb]
   ·rw [ha] at e; exact absurd (e ▸ List.mem_map_of_mem hb) h.1
  ·rcases List.mem_cons.mp hb with hb | hb
   ·rw [hb] at e; exact absurd (e ▸ List.mem_map_of_mem ha) h.1
   ·exact Zek h.2 ha hb e
theorem Zhk {a b:Int × Int} (ha:SmP a) (hb:SmP b) (e:hashP a=hashP b):a=b:=Zek Zma (Zib ha) (Zib hb) e
def entP (hf:Int × Int->Int) (x:(Int × Int) × Addr):Int × Value:=(hf x.1,.ref x.2)
structure StG (hf:Int × Int->Int) (h:Heap) (a:Addr) (o:Obj) (es:Array (Int × Value)) (ep:Nat) (t:SetTable) (xs:List ((Int × Int) × Addr)):Prop where
 ob:h.get? a=some o
 ex:o.ExactSet
 da:o.data=.set es ep t
 el:es.toList.Perm (xs.map (entP hf))
 tb:STb t (es.toList.map (·.1))
 nf:es.size * 5 < t.mask * 3
 mks:t.mask=7\/t.mask=31\/t.mask=127\/t.mask=511
def PSt (hf:Int × Int->Int) (a:Addr) (xs:List ((Int × Int) × Addr)) (h:Heap):Prop:=∃ o es ep t,StG hf h a o es ep t xs
theorem PSt.keep {hf:Int × Int->Int} {a:Addr} {xs:List ((Int × Int) × Addr)} {h h':Heap} (x:PSt hf a xs h) (k:∀ o,h.get? a=some o->h'.get? a=some o):PSt hf a xs h':=by
 obtain ⟨o,es,ep,t,g⟩:=x
 exact ⟨o,es,ep,t,k _ g.ob,g.ex,g.da,g.el,g.tb,g.nf,g.mks⟩
theorem StG.size {hf:Int × Int->Int} {h:Heap} {a:Addr} {o:Obj} {es:Array (Int × Value)} {ep:Nat} {t:SetTable} {xs:List ((Int × Int) × Addr)} (g:StG hf h a o es ep t xs):es.size=xs.length:=by
 have:=g.el.length_eq
 rwa [Array.length_toList,List.length_map] at this
theorem StG.psz {hf:Int × Int->Int} {h:Heap} {a:Addr} {o:Obj} {es:Array (Int × Value)} {ep:Nat} {t:SetTable} {xs:List ((Int × Int) × Addr)} (g:StG hf h a o es ep t xs):t.place.size=es.size:=by
 have:=g.tb.sz
 rwa [List.length_map,Array.length_toList] at this
theorem StG.fits {hf:Int × Int->Int} {h:Heap} {a:Addr} {o:Obj} {es:Array (Int × Value)} {ep:Nat} {t:SetTable} {xs:List ((Int × Int) × Addr)} (g:StG hf h a o es ep t xs):t.fits es.size=true:=by
 unfold SetTable.fits SetTable.fill
 rw [g.tb.dm,g.psz]
 have:=g.tb.ro
 rw [g.psz] at this
 simp
 omega
theorem StG.gave {hf:Int × Int->Int} {h:Heap} {a:Addr} {o:Obj} {es:Array (Int × Value)} {ep:Nat} {t:SetTable} {xs:List ((Int × Int) × Addr)} (g:StG hf h a o es ep t xs):t.gaveWay=false:=by
 unfold SetTable.gaveWay
 rcases g.mks with e | e | e | e <;> rw [e] <;> rfl
section
variable {prog:Program} {w:World} {A:Around} {E:Value->Shared->Prop} {s:Shared}
abbrev IsP (prog:Program) (w:World) (h:Heap) (k:Int × Int) (a:Addr):Prop:=IsTupleKey (PySem.intKind prog w) h [k.1,k.2] a
theorem Zc8 {k:Int × Int} {a:Addr} {Q:Bool->Shared->Prop} (hk:IsP prog w s.heap k a) (h:Q false s):wpAny (model prog w) A (ofAClassStatement 8 (.ref a)) Q E s:=by
 have hT:=hk.typeIs
 obtain ⟨o,items,n,ho,_,hd,hi⟩:=hk
 unfold ofAClassStatement
 refine wpAny_bind (wpAny_typeOf hT ?_)
 dsimp only
 refine wpAny_bind (wpAny_pure ?_)
 simp only [Bool.not_true,Bool.false_eq_true,↓reduceIte]
 refine wpAny_bind (wpAny_seqItems ho hd ?_)
 dsimp only
 refine wpAny_bind ?_
 rw [<- Array.forIn_toList]
 refine wpAny_forIn_list _ (fun rest (r:Option Bool × Unit) s'=>r.1=none/\s' = s/\∀ v ∈ rest,carriedByValue v=true) _ ?_ ?_ _ _ ⟨rfl,rfl,hi.byValue⟩
 ·rintro v rest r s' ⟨hr,rfl,hall⟩
  have e:ofAClassStatement 7 v=pure false:=by
   have:=hall v List.mem_cons_self
   cases v with
   | ref a=>simp [carriedByValue] at this
   | _=>rfl
  rw [e]
  refine wpAny_bind (wpAny_pure ?_)
  simp only [Bool.false_eq_true,if_false]
  exact wpAny_pure ⟨rfl,rfl,fun u hu'=>hall u (List.mem_cons_of_mem _ hu')⟩
 ·rintro ⟨r1,r2⟩ s' ⟨hr,rfl,_⟩
  simp only at hr
  subst hr
  exact wpAny_pure h
theorem noneSeen {b:Addr} {k:Int × Int} (hk:IsP prog w s.heap k b):∀ (ys:List Value) {Q:Bool->Shared->Prop},(∀ y ∈ ys,∃ k' c,y=.ref c/\IsP prog w s.heap k' c)->Q false s->wpAny (model prog w) A (searchCouldBeSeen (.ref b) ys) Q E s:=by
 intro ys Q hy h
 unfold searchCouldBeSeen
 refine wpAny_bind ?_
 refine wpAny_forIn_list _ (fun rest (r:Option Bool × Unit) s'=>r.1=none/\s' = s/\∀ y ∈ rest,∃ k' c,y=.ref c/\IsP prog w s.heap k' c) _ ?_ ?_ _ _ ⟨rfl,rfl,hy⟩
 ·rintro v rest r s' ⟨hr,rfl,hall⟩
  obtain ⟨k',c,rfl,hk'⟩:=hall v List.mem_cons_self
  dsimp only
  split
  ·exact wpAny_pure ⟨rfl,rfl,fun u hu'=>hall u (List.mem_cons_of_mem _ hu')⟩
  ·refine wpAny_bind (wpAny_eqIsQuiet_tuple hk ?_)
   simp only [Bool.not_true,Bool.false_eq_true,↓reduceIte]
   refine wpAny_bind (wpAny_eqIsQuiet_tuple hk' ?_)
   simp only [Bool.not_true,Bool.false_eq_true,↓reduceIte]
   refine wpAny_bind (Zc8 hk ?_)
   simp only [Bool.false_eq_true,↓reduceIte]
   refine wpAny_bind (Zc8 hk' ?_)
   simp only [Bool.false_eq_true,↓reduceIte]
   exact wpAny_pure ⟨rfl,rfl,fun u hu'=>hall u (List.mem_cons_of_mem _ hu')⟩
 ·rintro ⟨r1,r2⟩ s' ⟨hr,rfl,_⟩
  simp only at hr
  subst hr
  exact wpAny_pure h
theorem nodH {hf:Int × Int->Int} (hfi:∀ {a b:Int × Int},SmP a->SmP b->hf a=hf b->a=b):∀ {xs:List ((Int × Int) × Addr)},(xs.map (·.1)).Nodup->(∀ x ∈ xs,SmP x.1)->(xs.map ((·.1) ∘ entP hf)).Nodup
 | [],_,_=>List.nodup_nil
 | x :: xs,h,hs=>by
  rw [List.map_cons,List.nodup_cons] at h ⊢
  refine ⟨fun hx=>?_,nodH hfi h.2 fun y hy=>hs y (List.mem_cons_of_mem _ hy)⟩
  obtain ⟨y,hy,e⟩:=List.mem_map.mp hx
  exact h.1 (List.mem_map.mpr ⟨y,hy,hfi (hs y (List.mem_cons_of_mem _ hy)) (hs x (by simp)) e⟩)
theorem Ze4 {hf:Int × Int->Int} (hfi:∀ {a b:Int × Int},SmP a->SmP b->hf a=hf b->a=b) {adding:Bool} {a b:Addr} {o:Obj} {es:Array (Int × Value)} {ep:Nat} {t:SetTable} {xs:List ((Int × Int) × Addr)} {k:Int × Int} {Q:SetFound->Shared->Prop} (hu:A.units < cLine) (g:StG hf s.heap a o es ep t xs)
  (hm:∀ x ∈ xs,SmP x.1/\IsP prog w s.heap x.1 x.2) (nd:(xs.map (·.1)).Nodup) (hk:SmP k) (hkb:IsP prog w s.heap k b)
  (hin:k ∈ xs.map (·.1)->∀ i:Option Nat,(adding=false->i.isSome=true)->Q (.there i) s)
  (hout:k ∉ xs.map (·.1)->∀ j,j<=t.mask->(∀ i:Nat,t.place[i]? ≠ some j)->Rch t.mask (fun x=>∃ y:Nat,t.place[y]? = some x) (hf k) j->Q (.free j false) s) :
  wpAny (model prog w) A (setSearch a (.ref b) (hf k) adding) Q E s:=by
 unfold setSearch setSearchFrom
 refine wpAny_bind (wpAny_setState_of g.ob g.da g.fits ?_)
 dsimp only
 rw [g.gave]
 simp only [Bool.false_eq_true,↓reduceIte,Option.getD_none]
 have ent:∀ (i:Nat) (e:Int × Value),es[i]? = some e->∃ x ∈ xs,e=entP hf x:=fun i e he=>by
  have:e ∈ xs.map (entP hf):=g.el.mem_iff.mp (by rw [Array.mem_toList_iff]; exact Array.mem_of_getElem? he)
  obtain ⟨x,hx,rfl⟩:=List.mem_map.mp this
  exact ⟨x,hx,rfl⟩
 by_cases c:k ∈ xs.map (·.1)
 ·obtain ⟨x0,hx0,rfl⟩:=List.mem_map.mp c
  have:entP hf x0 ∈ es.toList:=g.el.mem_iff.mpr (List.mem_map_of_mem hx0)
  obtain ⟨i0,hi0⟩:=List.getElem?_of_mem this
  have hi1:es[i0]? = some (hf x0.1,Value.ref x0.2):=by rw [<- Array.getElem?_toList]; exact hi0
  have hn:∀ i,i < t.place.size->(es[i]?.map (·.1)).getD 0=hf x0.1->i=i0:=fun i hi e=>by
   rw [g.psz] at hi
   have he:=Array.getElem?_eq_getElem hi
   obtain ⟨x,hx,ex⟩:=ent _ _ he
   rw [he] at e
   have e:es[i].1=hf x0.1:=e
   rw [ex] at e
   have e2:=hfi (hm x hx).1 hk e
   have nd2:(es.toList.map (·.1)).Nodup:=by
    have p:=g.el.map (·.1)
    refine p.nodup_iff.mpr ?_
    rw [List.map_map]
    exact nodH hfi nd fun y hy=>(hm y hy).1
   have h1:(es.toList.map (·.1))[i]? = some (hf x0.1):=by rw [List.getElem?_map,Array.getElem?_toList,he,ex,<- e2]; rfl
   have h2:(es.toList.map (·.1))[i0]? = some (hf x0.1):=by rw [List.getElem?_map,hi0]; rfl
   obtain ⟨l1,v1⟩:=List.getElem?_eq_some_iff.mp h1
   obtain ⟨l2,v2⟩:=List.getElem?_eq_some_iff.mp h2
   exact (List.getElem_inj nd2).mp (v1.trans v2.symm)
  obtain ⟨j,nx,e1,e2⟩:=Zgo g.tb (h:=hf x0.1) (i0:=i0) (by rw [List.getElem?_map,hi0]; rfl) (hashAt:=fun i=>(es[i]?.map (·.1)).getD 0) (by show (es[i0]?.map (·.1)).getD 0=_; rw [hi1]; rfl) hn
  have hs:=Zc7 g.tb.rs e2
  generalize hp:t.probe _ (hf x0.1) (t.probeStart (hf x0.1))=r
  obtain rfl:r=some (.candidate j i0 nx):=hp.symm.trans e1
  dsimp only
  have seen:∀ y ∈ ((es.filter fun x=>x.1 == hf x0.1).toList.map (·.2)),∃ k' c,y=Value.ref c/\IsP prog w s.heap k' c:=fun y hy=>by
   obtain ⟨e,he,rfl⟩:=List.mem_map.mp hy
   have he:e ∈ es.toList:=by
    rw [Array.toList_filter] at he
    exact (List.mem_filter.mp he).1
   obtain ⟨x,hx,rfl⟩:=List.mem_map.mp (g.el.mem_iff.mp he)
   exact ⟨x.1,x.2,rfl,(hm x hx).2⟩
  have hx2:=(hm x0 hx0).2
  have same:t.sameMemory t.moves t.mask=some true:=by unfold SetTable.sameMemory; rw [if_pos (by simp)]
  rw [hi1]
  dsimp only
  by_cases hl:t.led=true
  ·rw [hl]
   simp only [Bool.not_true,Bool.false_eq_true,↓reduceIte]
   refine wpAny_bind (wpAny_holding (wpAny_eqBool_tuple hu hx2 hkb ?_))
   refine wpAny_bind (wpAny_setState_of g.ob g.da g.fits ?_)
   dsimp only
   rw [same,decide_eq_true rfl]
   cases adding
   ·simp only [Bool.false_and,Bool.false_eq_true,↓reduceIte]
    rw [hs]
    dsimp only
    rw [hi1]
    dsimp only
    refine wpAny_bind (wpAny_isSame_ref_self ?_)
    refine wpAny_bind (wpAny_pure ?_)
    simp only [↓reduceIte]
    exact wpAny_pure (hin c _ fun _=>rfl)
   ·simp only [Bool.and_self,↓reduceIte]
    exact wpAny_pure (hin c _ fun z=>Bool.noConfusion z)
  ·rw [Bool.eq_false_iff.mpr hl]
   simp only [Bool.not_false,↓reduceIte]
   refine wpAny_bind (noneSeen hkb _ seen ?_)
   simp only [Bool.false_eq_true,↓reduceIte]
   refine wpAny_bind (wpAny_holding (wpAny_eqBool_tuple hu hx2 hkb ?_))
   refine wpAny_bind (wpAny_setState_of g.ob g.da g.fits ?_)
   dsimp only
   rw [same,decide_eq_true rfl]
   cases adding
   ·simp only [Bool.false_and,Bool.false_eq_true,↓reduceIte]
    rw [hs]
    dsimp only
    rw [hi1]
    dsimp only
    refine wpAny_bind (wpAny_isSame_ref_self ?_)
    refine wpAny_bind (wpAny_pure ?_)
    simp only [↓reduceIte]
    exact wpAny_pure (hin c _ fun _=>rfl)
   ·simp only [Bool.and_self,↓reduceIte]
    exact wpAny_pure (hin c _ fun z=>Bool.noConfusion z)
 ·have hn:∀ i,i < t.place.size->(es[i]?.map (·.1)).getD 0 ≠ hf k:=fun i hi e=>by
   rw [g.psz] at hi
   have he:=Array.getElem?_eq_getElem hi
   obtain ⟨x,hx,ex⟩:=ent _ _ he
   rw [he] at e
   have e:es[i].1=hf k:=e
   rw [ex] at e
   exact c (List.mem_map.mpr ⟨x,hx,hfi (hm x hx).1 hk e⟩)
  obtain ⟨j,e1,e2,e3,e4⟩:=Zkc g.tb hn
  generalize hp:t.probe _ (hf k) (t.probeStart (hf k))=r
  obtain rfl:r=some (.empty j none):=hp.symm.trans e1
  exact wpAny_pure (hout c j e2 e3 e4)
theorem noScan {b:Addr} (es:Array (Int × Value)):byScan (.ref b) es=false:=rfl
variable {hf:Int × Int->Int} (hfi:∀ {a b:Int × Int},SmP a->SmP b->hf a=hf b->a=b)
include hfi
theorem Zm2 {a b:Addr} {xs:List ((Int × Int) × Addr)} {k:Int × Int} {Q:Option Nat->Shared->Prop} (hu:A.units < cLine) (g:PSt hf a xs s.heap)
  (hm:∀ x ∈ xs,SmP x.1/\IsP prog w s.heap x.1 x.2) (nd:(xs.map (·.1)).Nodup) (hk:SmP k) (hkb:IsP prog w s.heap k b)
  (h:∀ r:Option Nat,r.isSome=decide (k ∈ xs.map (·.1))->Q r s):wpAny (model prog w) A (setFind a (.ref b) (hf k)) Q E s:=by
 obtain ⟨o,es,ep,t,g⟩:=g
 unfold setFind setFindIn
 refine wpAny_bind (wpAny_setState_of g.ob g.da g.fits ?_)
 dsimp only
 rw [noScan]
 simp only [Bool.false_eq_true,↓reduceIte]
 refine wpAny_bind (Ze4 hfi hu g hm nd hk hkb (fun c i hi=>?_) fun c j _ _ _=>?_)
 ·exact wpAny_pure (h i (by rw [decide_eq_true c]; exact hi rfl))
 ·exact wpAny_pure (h none (by rw [decide_eq_false c]; rfl))
theorem PSt.typeIs {a:Addr} {xs:List ((Int × Int) × Addr)} (g:PSt hf a xs s.heap):s.TypeIs (.ref a) "set":=let ⟨o,_,_,_,g⟩:=g; ⟨o,g.ob,g.ex.1⟩
theorem Zh4 {k:Int × Int} {b:Addr} (hfe:∀ (k:Int × Int),tupleKeyHash (PySem.intKind prog w) [k.1,k.2]=hf k) {Q:Int->Shared->Prop} (hu:A.units < cLine) (hkb:IsP prog w s.heap k b) (h:Q (hf k) { s with toks:=s.toks + 3 }):wpAny (model prog w) A (pyHash (.ref b)) Q E s:=
 wpAny_pyHash_tuple hu hkb (by rw [hfe]; exact h)
theorem Zgh {a b:Addr} {xs:List ((Int × Int) × Addr)} {k:Int × Int} (hfe:∀ (k:Int × Int),tupleKeyHash (PySem.intKind prog w) [k.1,k.2]=hf k) {Q:Bool->Shared->Prop} (hu:A.units + 1 < cLine) (g:PSt hf a xs s.heap)
  (hm:∀ x ∈ xs,SmP x.1/\IsP prog w s.heap x.1 x.2) (nd:(xs.map (·.1)).Nodup) (hk:SmP k) (hkb:IsP prog w s.heap k b)
  (h:Q (decide (k ∈ xs.map (·.1))) { s with toks:=s.toks + 3 }):wpAny (model prog w) A (contains (.ref a) (.ref b)) Q E s:=by
 unfold contains
 try with_reducible refine wpAny_holding ?_
 have hT:=g.typeIs hfi
 refine wpAny_bind (wpAny_specialOf hT F.slot_set_contains.lookup ?_)
 show wpAny _ _ (if (some (Value.builtin "set.__contains__") == some Value.none)=true then _ else _) _ E s
 rw [if_neg (by rw [beq_builtin_none]; exact Bool.false_ne_true)]
 refine wpAny_bind (wpAny_callSpecialUnlessNone?_slot (name:=Str.ofString "__contains__") hT F.slot_set_contains
  (wpAny_call_entry F.slot_set_contains hT entry_set_contains ?_ (F.args_set_contains_2 _ _)))
 unfold Builtin.«frozenset.__contains__» Builtin.Frozenset.oneOther
 simp only [List.isEmpty_nil,bind_assoc]
 unfold Builtin.Frozenset.addrOf Builtin.Frozenset.withSetAsKey setContains
 refine wpAny_bind (wpAny_pure ?_)
 try dsimp only
 refine wpAny_bind (wpAny_pure ?_)
 try dsimp only
 refine wpAny_bind (wpAny_tryCatch ?_)
 refine wpAny_holding ?_
 refine wpAny_bind (Zh4 hfi hfe ?_ hkb ?_)
 ·exact hu
 refine wpAny_bind (Zm2 hfi ?_ (s:={ s with toks:=s.toks + 3 }) g hm nd hk hkb fun r hr=>?_)
 ·exact hu
 refine wpAny_pure ?_
 show wpAny _ _ (ret (Value.bool r.isSome)) _ _ _
 rw [hr]
 exact wpAny_pure ⟨_,rfl,wpAny_truthy_bool h⟩
theorem Zkg {a b:Addr} {xs:List ((Int × Int) × Addr)} {k:Int × Int} (hfe:∀ (k:Int × Int),tupleKeyHash (PySem.intKind prog w) [k.1,k.2]=hf k) {Q:Value->Shared->Prop} (hu:A.units + 1 < cLine) (g:PSt hf a xs s.heap)
  (hm:∀ x ∈ xs,SmP x.1/\IsP prog w s.heap x.1 x.2) (nd:(xs.map (·.1)).Nodup) (hk:SmP k) (hkb:IsP prog w s.heap k b)
  (h:Q (.bool (!decide (k ∈ xs.map (·.1)))) { s with toks:=s.toks + 3 }):wpAny (model prog w) A (compareOp .NotIn (.ref b) (.ref a)) Q E s:=by
 show wpAny _ _ (do return .bool (!(← contains (.ref a) (.ref b)))) Q E s
 exact wpAny_bind (Zgh hfi hfe hu g hm nd hk hkb (wpAny_pure h))
omit hfi in
theorem Zgs {k:Int × Int} {a:Addr} {Q:Bool->Shared->Prop} (hk:IsP prog w s.heap k a) (h:Q true s):wpAny (model prog w) A (hashByValue 8 (.ref a)) Q E s:=by
 have hT:=hk.typeIs
 obtain ⟨o,items,n,ho,_,hd,hi⟩:=hk
 unfold hashByValue
 refine wpAny_bind (wpAny_specialOf hT F.slot_tuple_hash.lookup ?_)
 dsimp only
 refine wpAny_bind (wpAny_seqItems ho hd ?_)
 rw [Option.getD_some]
 refine wpAny_bind ?_
 rw [<- Array.forIn_toList]
 refine wpAny_forIn_list _ (fun rest (r:Option Bool × Unit) s'=>r.1=none/\s' = s/\∃ ks,ItemsAre (PySem.intKind prog w) ks rest) _ ?_ ?_ _ _ ⟨rfl,rfl,_,hi⟩
 ·rintro v rest r s' ⟨hr,rfl,ks,hall⟩
  cases hall with
  | cons h1 h2=>
   obtain ⟨t,rfl⟩:=Value.isInt_shape h1
   unfold hashByValue
   refine wpAny_bind (wpAny_pure ?_)
   simp only [Bool.not_true,Bool.false_eq_true,if_false]
   exact wpAny_pure ⟨rfl,rfl,_,h2⟩
 ·rintro ⟨r1,r2⟩ s' ⟨hr,rfl,_⟩
  simp only at hr
  subst hr
  exact wpAny_pure h
omit hfi in
theorem Zg9 (a:Addr) (wanted:Nat):setRelay a wanted=(do
  let (es,_,t) ← setState a
  if SetTable.sizeAbove wanted > sizeLine then unsupported "set:memory"
  let (es,t) ← (do
   let some (t,order):=t.relaid (es.map (·.1)) wanted | unsupported "internal:set-table-without-room"
   let es':=order.filterMap (es[·]?)
   if es'.size != es.size then unsupported "internal:set-table-lost-an-element"
   pure (es',t))
  storeSet a es t):=rfl
omit hfi in
theorem StG.store {h:Heap} {a:Addr} {o:Obj} {es:Array (Int × Value)} {ep:Nat} {t:SetTable} (ho:h.get? a=some o) (hx:o.ExactSet) (hd:o.data=.set es ep t) (es':Array (Int × Value)) (t':SetTable) :
  (h.update a (Obj.putSet es' t')).get? a=some { o with data:=.set es' (ep + 1) t' }:=by
 have:=Heap.get?_update_self (Obj.putSet es' t') ho (by rw [putSet_of es' t' hd]; rfl)
 rw [putSet_of es' t' hd] at this; exact this
theorem Zlw {a b:Addr} {o:Obj} {es:Array (Int × Value)} {ep:Nat} {t:SetTable} {xs:List ((Int × Int) × Addr)} {k:Int × Int} {Q:Bool->Shared->Prop} (g:StG hf s.heap a o es ep t xs) (hb:xs.length<=200)
  {j:Nat} (j1:j<=t.mask) (j2:∀ i:Nat,t.place[i]? ≠ some j) (j3:Rch t.mask (fun x=>∃ y:Nat,t.place[y]? = some x) (hf k) j)
  (h:∀ h',Heap.SameBut a s.heap h' -> PSt hf a (xs ++ [(k,b)]) h' -> Q true { s with heap:=h' }) :
  wpAny (model prog w) A (do
   storeSet a (SetTable.insertAt es (t.put j).2 (hf k,Value.ref b)) (t.put j).1
   if (!false && (t.put j).1.tooFull)=true then do
    setRelay a (SetTable.grown (es.size + 1))
    pure true
   else pure true) Q E s:=by
 have hsz:=g.size
 have hps:=g.psz
 have hnf:=g.nf
 have hmk:=g.mks
 obtain ⟨T,hp⟩:=g.tb.put j1 j2 j3 (by omega)
 rw [List.length_map,Array.length_toList] at hp
 obtain ⟨p,ep'⟩:∃ p,(t.put j).2=p:=⟨_,rfl⟩
 obtain ⟨t1,et⟩:∃ t1,(t.put j).1=t1:=⟨_,rfl⟩
 have em:t1.mask=t.mask:=by rw [<- et]; rfl
 rw [ep',et] at T ⊢
 rw [ep'] at hp
 obtain ⟨es1,ee⟩:∃ es1,SetTable.insertAt es p (hf k,Value.ref b)=es1:=⟨_,rfl⟩
 have hl1:es1.toList=es.toList.take p ++ (hf k,Value.ref b) :: es.toList.drop p:=by rw [<- ee]; exact Zb6 _ _ _ hp
 have T1:STb t1 (es1.toList.map (·.1)):=by
  rw [hl1,List.map_append,List.map_cons,List.map_take,List.map_drop]; exact T
 have el1:es1.toList.Perm ((xs ++ [(k,b)]).map (entP hf)):=by
  rw [hl1,List.map_append]
  refine List.perm_middle.trans ?_
  rw [List.take_append_drop]
  exact (List.perm_append_comm (l₁:=[_]) (l₂:=es.toList)).trans (g.el.append (List.Perm.refl _))
 have z1:es1.size=es.size + 1:=by
  rw [<- Array.length_toList,hl1,List.length_append,List.length_cons,List.length_take,List.length_drop,Array.length_toList]; omega
 have pz1:t1.place.size=es1.size:=by have:=T1.sz; rwa [List.length_map,Array.length_toList] at this
 have f1:t1.fits es1.size=true:=by
  unfold SetTable.fits SetTable.fill
  rw [T1.dm,pz1]
  have:=T1.ro
  rw [pz1] at this
  simp
  omega
 rw [ee]
 refine wpAny_bind (wpAny_storeSet_of g.ob g.da ?_ (by rw [z1,sizeLine_eq]; omega))
 have ho1:=StG.store g.ob g.ex g.da es1 t1
 have sb:=Heap.SameBut.update s.heap a (Obj.putSet es1 t1)
 by_cases c:t1.tooFull=true
 ·rw [c]
  simp only [Bool.not_false,Bool.and_self,↓reduceIte]
  have c':(t1.place.size + t1.dummies.size) * 5 ≥ t1.mask * 3:=by simpa [SetTable.tooFull,SetTable.fill] using c
  rw [T1.dm,pz1,z1,em] at c'
  have c':(es.size + 1 + 0) * 5 ≥ t.mask * 3:=c'
  obtain ⟨M,e1,e2,e3,e4⟩:∃ M,SetTable.sizeAbove (SetTable.grown (es.size + 1)) - 1=M/\Cyc M/\(M=7\/M=31\/M=127\/M=511)/\(es.size + 1) * 5 < M * 3/\SetTable.sizeAbove (SetTable.grown (es.size + 1))<=sizeLine:=by
   rcases hmk with m | m | m | m
   ·obtain e:es.size + 1=5:=by omega
    rw [e]; exact ⟨31,by decide,cyc31,.inr (.inl rfl),by decide,by decide⟩
   ·obtain e:es.size + 1=19:=by omega
    rw [e]; exact ⟨127,by decide,cyc127,.inr (.inr (.inl rfl)),by decide,by decide⟩
   ·obtain e:es.size + 1=77:=by omega
    rw [e]; exact ⟨511,by decide,cyc511,.inr (.inr (.inr rfl)),by decide,by decide⟩
   ·omega
  rw [Zg9]
  refine wpAny_bind (wpAny_bind (wpAny_setState_of ho1 rfl f1 ?_))
  dsimp only
  rw [if_neg (by omega)]
  obtain ⟨t2,order,q1,q2,q3,q4,T2,pm⟩:=Zpy (m:=M) (fg:=t1.finger) (mv:=t1.movedTo M) (ld:=t1.led) (pn:=t1.plain) (hs:=es1.map (·.1)) e2 (by rw [Array.size_map,z1]; omega)
  have q:t1.relaid (es1.map (·.1)) (SetTable.grown (es.size + 1))=some (t2,order):=by
   unfold SetTable.relaid
   rw [e1]; exact q1
  rw [q]
  dsimp only
  rw [Array.size_map] at pm
  have hq:∀ x ∈ order.toList,x < es1.size:=fun x hx=>List.mem_range.mp (pm.mem_iff.mp hx)
  obtain ⟨f2,f3⟩:=Zhj (es:=es1) order.toList hq
  have ol:order.toList.length=es1.size:=by have:=pm.length_eq; rwa [List.length_range] at this
  have fl:(order.filterMap (es1[·]?)).toList=order.toList.filterMap (es1[·]?):=Array.toList_filterMap
  have z2:(order.filterMap (es1[·]?)).size=es1.size:=by rw [<- Array.length_toList,fl,f2,ol]
  have el2:(order.filterMap (es1[·]?)).toList.Perm ((xs ++ [(k,b)]).map (entP hf)):=by
   rw [fl]
   refine (pm.filterMap _).trans ?_
   rw [Zmr]; exact el1
  have T2':STb t2 ((order.filterMap (es1[·]?)).toList.map (·.1)):=by
   have:(order.filterMap (es1[·]?)).toList.map (·.1)=order.toList.filterMap ((es1.map (·.1))[·]?):=by
    rw [fl,List.map_filterMap]
    congr 1
    funext x
    rw [Array.getElem?_map]
   rw [this]; exact T2
  rw [if_neg (by rw [z2]; simp)]
  refine wpAny_bind (wpAny_pure ?_)
  dsimp only
  refine wpAny_storeSet_of ho1 rfl ?_ (by rw [z2,z1,sizeLine_eq]; omega)
  refine wpAny_pure (h _ (sb.trans (Heap.SameBut.update _ a _)) ⟨_,_,_,t2,StG.store ho1 g.ex rfl _ t2,g.ex,rfl,el2,T2',?_,by rw [q2]; exact e3⟩)
  rw [z2,z1,q2]; exact e4.1
 ·rw [Bool.eq_false_iff.mpr c]
  simp only [Bool.and_false,Bool.false_eq_true,↓reduceIte]
  refine wpAny_pure (h _ sb ⟨_,es1,ep + 1,t1,ho1,g.ex,rfl,el1,T1,?_,by rw [em]; exact hmk⟩)
  have c':¬ (t1.place.size + t1.dummies.size) * 5 ≥ t1.mask * 3:=by simpa [SetTable.tooFull,SetTable.fill] using c
  rw [T1.dm,pz1] at c'
  have c':¬ (es1.size + 0) * 5 ≥ t1.mask * 3:=c'
  omega
theorem Zfi {a b:Addr} {xs:List ((Int × Int) × Addr)} {k:Int × Int} {Q:Bool->Shared->Prop} (hu:A.units < cLine) (g:PSt hf a xs s.heap)
  (hm:∀ x ∈ xs,SmP x.1/\IsP prog w s.heap x.1 x.2) (nd:(xs.map (·.1)).Nodup) (hk:SmP k) (hkb:IsP prog w s.heap k b) (hb:xs.length<=200)
  (h:∀ (r:Bool) h',Heap.SameBut a s.heap h' -> PSt hf a (if k ∈ xs.map (·.1) then xs else xs ++ [(k,b)]) h' -> Q r { s with heap:=h' }) :
  wpAny (model prog w) A (setAddHashed a (.ref b) (hf k)) Q E s:=by
 obtain ⟨o,es,ep,t,g⟩:=g
 unfold setAddHashed setAddHashedIn
 refine wpAny_holding ?_
 refine wpAny_bind (wpAny_setState_of g.ob g.da g.fits ?_)
 dsimp only
 rw [noScan]
 simp only [Bool.false_eq_true,↓reduceIte]
 refine wpAny_bind (Ze4 hfi hu g hm nd hk hkb (fun c i hi=>?_) fun c j j1 j2 j3=>?_)
 ·dsimp only
  have:=h false s.heap (Heap.SameBut.refl _ _)
  rw [if_pos c] at this
  exact wpAny_pure (this ⟨o,es,ep,t,g⟩)
 ·dsimp only
  refine wpAny_bind (wpAny_setState_of g.ob g.da g.fits ?_)
  dsimp only
  have tail:wpAny (model prog w) A (do
   storeSet a (SetTable.insertAt es (t.put j).2 (hf k,Value.ref b)) (t.put j).1
   if (!false && (t.put j).1.tooFull)=true then do
    setRelay a (SetTable.grown (es.size + 1))
    pure true
   else pure true) Q E s:=Zlw hfi g hb j1 j2 j3 fun h' sb P=>h true h' sb (by rw [if_neg c]; exact P)
  split
  ·refine wpAny_bind (Zgs hkb ?_)
   simpa only [↓reduceIte] using tail
  ·refine wpAny_bind (wpAny_pure ?_)
   simpa only [↓reduceIte] using tail
theorem Zgy {a b:Addr} {xs:List ((Int × Int) × Addr)} {k:Int × Int} (hfe:∀ (k:Int × Int),tupleKeyHash (PySem.intKind prog w) [k.1,k.2]=hf k) {Q:Value->Shared->Prop} (hu:A.units + 1 < cLine) (g:PSt hf a xs s.heap)
  (hm:∀ x ∈ xs,SmP x.1/\IsP prog w s.heap x.1 x.2) (nd:(xs.map (·.1)).Nodup) (hk:SmP k) (hkb:IsP prog w s.heap k b) (hb:xs.length<=200)
  (h:∀ h',Heap.SameBut a s.heap h' -> PSt hf a (if k ∈ xs.map (·.1) then xs else xs ++ [(k,b)]) h' -> Q .none { s with heap:=h',toks:=s.toks + 3 }) :
  wpAny (model prog w) A (call (.builtin "set.add") [.ref a,.ref b]) Q E s:=by
 refine wpAny_call_entry F.slot_set_add (g.typeIs hfi) F.entry_set_add ?_ (F.args_set_add_2 _ _)
 unfold Builtin.«set.add» Builtin.Frozenset.oneOther
 simp only [List.isEmpty_nil,bind_assoc]
 unfold Builtin.Frozenset.addrOf setAdd
 refine wpAny_bind (wpAny_pure ?_)
 try dsimp only
 refine wpAny_bind (wpAny_pure ?_)
 try dsimp only
 refine wpAny_bind ?_
 refine wpAny_holding ?_
 refine wpAny_bind (Zh4 hfi hfe ?_ hkb ?_)
 ·exact hu
 refine Zfi hfi ?_ (s:={ s with toks:=s.toks + 3 }) g hm nd hk hkb hb fun r h' hsb hS'=>?_
 ·exact hu
 show wpAny _ _ (ret Value.none) _ _ _
 exact wpAny_pure ⟨_,rfl,h h' hsb hS'⟩
end
end L2
set_option Elab.async false
set_option linter.all false
set_option maxRecDepth 100000
namespace L2
open PySem PySem.Spec PyProof.Rows
def MemT (H:Hp) (xs:List ((Int × Int) × Addr)):Prop:=(xs.map (·.1)).Nodup/\∀ x ∈ xs,SmP x.1/\H x.2=some (.tup [.int x.1.1,.int x.1.2])
theorem Zj0 {P:Program} {w:World} {H:Hp} {h:Heap} {b:Addr} {k:Int × Int} (ok:HOk P w H h) (e:H b=some (.tup [.int k.1,.int k.2])):IsP P w h k b:=by
 obtain ⟨_,its,r,o,h1,⟨h2,n,h3⟩,_⟩:=(show ObjOk P w H h b (.tup [.int k.1,.int k.2]) from ok b _ e)
 obtain ⟨u,v,rfl,⟨t1,rfl⟩,⟨t2,rfl⟩⟩:=r.two
 exact ⟨o,_,n,h1,h2,h3,.cons (by simp [PySem.intKind,Value.isInt]) (.cons (by simp [PySem.intKind,Value.isInt]) .nil)⟩
theorem Zk2 {P:Program} {w:World} {H:Hp} {h:Heap} {xs:List ((Int × Int) × Addr)} (ok:HOk P w H h) (m:MemT H xs):∀ x ∈ xs,SmP x.1/\IsP P w h x.1 x.2:=fun x hx=>⟨(m.2 x hx).1,Zj0 ok (m.2 x hx).2⟩
theorem Zoz {P:Program} {w:World} {H:Hp} {h:Heap} {p p':Addr} {xs:List ((Int × Int) × Addr)} (ok:HOk P w H h) (e:H p=some (.ext (PSt hashP p' xs))):p' = p/\PSt hashP p xs h:=by
 obtain ⟨f,⟨o,ho⟩,st⟩:=(show ObjOk P w H h p (.ext (PSt hashP p' xs)) from ok p _ e)
 by_cases c:p' = p
 ·subst c; exact ⟨rfl,f⟩
 ·have f0:=f
  obtain ⟨o',es,ep,t,g⟩:=f0
  have f2:=st h (h.update p' fun o=>{ o with data:=.seq #[] 0 }) f fun o q=>by
   rw [(Heap.SameBut.update h p' _).2 p (Ne.symm c)]; exact q
  obtain ⟨o2,es2,ep2,t2,g2⟩:=f2
  have e2:=Heap.get?_update_self (fun o:Obj=>{ o with data:=.seq #[] 0 }) g.ob rfl
  have:=g2.ob
  rw [e2] at this
  cases this
  exact absurd g2.da (fun z=>by cases z)
theorem Znl {P:Program} {w:World} {H:Hp} {h:Heap} {p:Addr} {xs:List ((Int × Int) × Addr)} (f:PSt hashP p xs h):ObjOk P w H h p (.ext (PSt hashP p xs)):=
 ⟨f,let ⟨o,_,_,_,g⟩:=f; ⟨o,g.ob⟩,fun h1 h2 a b=>a.keep b⟩
section
variable {X:Cx}
def rSet0T:List V->Hp->VK->Prop:=fun xs H Q=>xs=[]/\∀ p,H p=none->Q (.ref p) (upd H p (.ext (PSt hashP p [])))
theorem Zpk (led:Bool):STb (SetTable.fresh 0 0 led) []:=⟨rfl,cyc7,Zn9,rfl,fun i j e=>by simp [SetTable.fresh] at e,fun i j h e=>by simp [SetTable.fresh] at e,by show 0 < 7; decide⟩
theorem Zi5:CallR X (.type "set") rSet0T:=by
 intro pins s σ H xs us Q I r h
 obtain ⟨rfl,q⟩:=h
 cases r
 refine call_set_0 fun led=>⟨.ref s.heap.objs.size,_,I.laid (t':=s.toks) (fun _ _ z=>Heap.get?_push_of_some _ z) (Nat.le_refl _) ?_,rfl,q _ (I.hok.fresh (Nat.le_refl _))⟩
 exact Znl ⟨_,#[],0,_,Heap.get?_push_size _ rfl,⟨rfl,rfl,rfl⟩,rfl,List.Perm.refl _,Zpk led,by show 0 * 5 < 7 * 3; decide,.inl rfl⟩
def rNinT:R2:=fun x y H Q=>∃ a a' b xs k,y=.ref a/\x=.ref b/\H a=some (.ext (PSt hashP a' xs))/\MemT H xs/\SmP k/\H b=some (.tup [.int k.1,.int k.2])/\Q (.bl (!decide (k ∈ xs.map (·.1)))) H
theorem ninT (hu:X.A.units + 1 < cLine):OpR X (compareOp .NotIn) rNinT:=by
 intro pins s σ H x y v u Q I rx ry h
 obtain ⟨a,a',b,xs,k,rfl,rfl,ha,hm,hk,hb,q⟩:=h
 cases rx
 cases ry
 obtain ⟨rfl,f⟩:=Zoz I.hok ha
 exact Zkg Zhk (fun _=>rfl) hu f (Zk2 I.hok hm) hm.1 hk (Zj0 I.hok hb) ⟨.bl _,H,I.tok _,rfl,q⟩
def rSAddT:V->List V->Hp->VK->Prop:=fun x vs H Q=>∃ a a' b xs k,x=.ref a/\vs=[.ref b]/\H a=some (.ext (PSt hashP a' xs))/\MemT H xs/\SmP k/\H b=some (.tup [.int k.1,.int k.2])/\xs.length<=200 ∧
 Q .non (upd H a (.ext (PSt hashP a (if k ∈ xs.map (·.1) then xs else xs ++ [(k,b)]))))
theorem Zhu (hu:X.A.units + 1 < cLine):MtM X "set.add" rSAddT:=by
 intro pins s σ H x vs v us Q I rx rv h
 obtain ⟨a,a',b,xs,k,rfl,rfl,ha,hm,hk,hb,hn,q⟩:=h
 cases rx
 obtain ⟨u,rfl,ru⟩:=rv.one
 cases ru
 obtain ⟨rfl,f⟩:=Zoz I.hok ha
 refine Zgy Zhk (fun _=>rfl) hu f (Zk2 I.hok hm) hm.1 hk (Zj0 I.hok hb) hn fun h' sb P=>?_
 refine ⟨.non,_,Zgw I (by rw [ha]; trivial) sb ?_ (Znl P),rfl,q⟩
 obtain ⟨o,_,_,_,g⟩:=P; exact ⟨o,g.ob⟩
def tyS (x:V) (H:Hp):Prop:=∃ p p' xs,x=.ref p/\H p=some (.ext (PSt hashP p' xs))
def tBMS (r:V->List V->Hp->VK->Prop) (to:TE) (t:TA):TE:=fun σ H Q=>to σ H fun x H1=>tyS x H1/\t σ H1 fun xs H2=>r x xs H2 Q
theorem Zru {pins:List (Addr × Obj)} {σ:St} {H:Hp} {s:Shared} {x:V} {v:Value} (I:Inv X pins σ H s) (r:RelV x v) (ty:tyS x H) :
  s.TypeIs v "set" /\ ∀ a,v=.ref a->∃ ob,s.heap.get? a=some ob/\ob.dict=none:=by
 obtain ⟨p,p',xs,rfl,e⟩:=ty
 cases r
 obtain ⟨rfl,o,es,ep,t,g⟩:=Zoz I.hok e
 exact ⟨⟨o,g.ob,g.ex.1⟩,fun a e2=>by cases e2; exact ⟨o,g.ob,g.ex.2.1⟩⟩
variable {o e:Expr} {es:List Expr} {to:TE} {t:TA} {name:Str} {apos cpos:Pos} {id:String} {r:V->List V->Hp->VK->Prop}
theorem bmS (pa:PlainAttrs "set") (slot:PySem.Slot "set" name id) (hty:typeOf (.builtin id)=pure (.type "method_descriptor")) (hm:MtM X id r) (ho:PE X o to) (ha:PA X (e :: es) t)
  (hbase:attributeBase o name X.env (eval o X.env)=eval o X.env:=by rfl)
  (hfew:((backTo cpos (starEach (e :: es) X.env)).all (fun x=>!x.1) && (backToKw cpos (keywordEach [] X.env)).all (fun x=>x.1.isSome)
   && decide ((e :: es).length + ([]:List Keyword).length + (if ([]:List Keyword).isEmpty then 0 else 1) < 30))=true:=by rfl)
  (hline:(apos.endLine == cpos.line)=true:=by rfl) (hs:starEach (e :: es) X.env=(false,eval e X.env) :: starEach es X.env:=by rfl) (hplain:(backTo cpos (starEach es X.env)).any (·.1)=false:=by rfl) :
  PE X (.Call (.Attribute o name apos) (e :: es) [] cpos) (tBMS r to t):=by
 intro pins s σ H Q I h
 refine wpAny_Call_method_late hbase hfew hline rfl (thn (ho pins s σ H _ I h) fun v s1 ⟨x,H1,I1,r1,ty,q1⟩=>?_)
 obtain ⟨h1,h2⟩:=Zru I1 r1 ty
 refine ⟨"set",id,pa,slot,hty,h1,h2,?_⟩
 have hA:=ha cpos pins s1 σ H1 _ I1 q1
 rw [hs] at hA ⊢
 refine Calls.callWith_builtin (by show (false || (backTo cpos (starEach es X.env)).any (·.1))=false; rw [hplain] <;> rfl) (Calls.evalArgs_plain ?_)
 exact thn hA fun us s2 ⟨vs,H2,I2,r2,q2⟩=>hm pins s2 σ H2 x vs v us Q I2 r1 r2 q2
end
def stR (ks:List (Int × Int)):Hp->(Heap->Prop)->Prop:=fun G φ=>∃ a xs,φ = PSt hashP a xs/\xs.map (·.1)=ks/\MemT G xs
def stO (ks:List (Int × Int)):OD:=.ext (stR ks)
def dP (k:Int × Int):D:=.tup [.int k.1,.int k.2]
theorem MemT.mono {G G':Hp} {xs:List ((Int × Int) × Addr)} (s:Same G G') (m:MemT G xs):MemT G' xs:=⟨m.1,fun x hx=>⟨(m.2 x hx).1,s _ _ (m.2 x hx).2⟩⟩
def addP (ks:List (Int × Int)) (k:Int × Int):List (Int × Int):=if k ∈ ks then ks else ks ++ [k]
section
variable {K:PySem.W.Frag} {Δ:Evt} {P:D->Evt->Prop}
theorem Zlc {G:Hp} {o:HO} {ks:List (Int × Int)} (h:OwnRep K G o (stO ks)):∃ a xs,o=.ext (PSt hashP a xs)/\xs.map (·.1)=ks/\MemT G xs:=by
 cases o with
 | ext φ=>
  obtain ⟨G0,s,a,xs,rfl,e,m⟩:=h
  exact ⟨a,xs,rfl,e,m.mono s⟩
 | _=>exact h.elim
theorem Zrn {G:Hp} {v:V} {k:Int × Int} (r:Rep K G v (dP k)):∃ b,v=.ref b/\G b=some (.tup [.int k.1,.int k.2]):=by
 obtain ⟨b,vs,rfl,ha,rs⟩:=r.inv
 obtain ⟨u,us,rfl,r1,rs1⟩:=rs.inv
 obtain ⟨u2,us2,rfl,r2,rs2⟩:=rs1.inv
 cases r1.inv
 cases r2.inv
 cases rs2.inv
 exact ⟨b,rfl,ha⟩
theorem Zoq {Po:OD->Evt->Prop} (p:Po (stO []) Δ):JO K (tCB rSet0T tNil) Δ Po:=fun g G H σ Q k c=>by
 refine ⟨rfl,fun l hl=>?_⟩
 obtain ⟨k2,pd⟩:=k.fresh (od:=stO []) hl (show OwnRep K G (.ext (PSt hashP l [])) (stO []) from ⟨G,Same.refl _,l,[],rfl,rfl,List.nodup_nil,fun x h=>nomatch h⟩)
 exact c l _ G _ Δ k2 (Same.refl _) pd p
theorem Zoa {n:Nat} {ta:TE} (h:JE K ta Δ fun d Δ1=>∃ x ks k,Δ1[n]? = some x/\x.od=some (stO ks)/\d=dP k/\SmP k/\P (.bl (!decide (k ∈ ks))) Δ1):JE K (tOp rNinT ta (tVar n)) Δ P:=fun g G H σ Q k c=>
 h g G H σ _ k fun v d G1 H1 Δ1 k1 s1 r1 hq_=>by
  obtain ⟨x,ks,kk,q1,q2,q3,q4,p⟩:=hq_
  subst q3
  obtain ⟨b,rfl,hb⟩:=Zrn r1
  obtain ⟨a,o,w1,w2,w3,w4,w5⟩:=k1.own n x _ q1 q2
  obtain ⟨a',xs,rfl,e,m⟩:=Zlc w3
  refine ⟨.ref a,w1,a,a',b,xs,kk,rfl,rfl,w2,m.mono fun b o hb=>k1.live b o hb,q4,k1.live _ _ hb,?_⟩
  rw [e]
  exact c _ _ G1 H1 Δ1 k1 s1 (.bl _) p
theorem Zhf {n:Nat} {te:TE} {x:Slot} {ks0:List (Int × Int)} {nx bk ct:Evt->Prop} {rt:D->Evt->Prop} {ro:OD->Evt->Prop} (hx:Δ[n]? = some x) (ho:x.od=some (stO ks0))
  (h:JE K te Δ fun d Δ1=>∃ y ks k,Δ1[n]? = some y/\y.od=some (stO ks)/\d=dP k/\SmP k/\ks.length<=200/\nx (Δ1.set n (y.put (stO (addP ks k))))) :
  JS K (tDrop (tBMS rSAddT (tVar n) (tCons te tNil))) Δ ⟨nx,rt,bk,ct,ro⟩:=fun g G H σ E k c=>by
 obtain ⟨a,o,h1,h2,h3,h4,h5⟩:=k.own n x _ hx ho
 obtain ⟨a0,xs0,rfl,_,_⟩:=Zlc h3
 refine ⟨.ref a,h1,⟨a,a0,xs0,rfl,h2⟩,h g G H σ _ k fun v d G1 H1 Δ1 k1 s1 r1 ⟨y,ks,kk,q1,q2,q3,q4,q5,p⟩=>?_⟩
 subst q3
 obtain ⟨b,rfl,hb⟩:=Zrn r1
 obtain ⟨a',o',w1,w2,w3,w4,w5⟩:=k1.own n y _ q1 q2
 rw [h1] at w1; cases w1
 obtain ⟨a1,xs,rfl,e,m⟩:=Zlc w3
 refine ⟨a,a1,b,xs,kk,rfl,rfl,w2,m.mono fun b o hb=>k1.live b o hb,q4,k1.live _ _ hb,by rw [<- e,List.length_map] at q5; exact q5,c.nx σ G1 _ _ (k1.write q1 q2 h1 ?_) p⟩
 refine ⟨G1,Same.refl _,a,_,rfl,?_,?_⟩
 ·unfold addP
  rw [e]
  split
  ·exact e
  ·rw [List.map_append,e]; rfl
 ·rw [e]
  by_cases cc:kk ∈ ks
  ·rw [if_pos cc]; exact m
  ·rw [if_neg cc]
   refine ⟨?_,fun x hx=>?_⟩
   ·rw [List.map_append,e]
    exact List.nodup_append.mpr ⟨e ▸ m.1,by simp,fun x hx y hy=>by
     have:y=kk:=by simpa using hy
     subst this
     exact fun z=>cc (z ▸ hx)⟩
   ·rcases List.mem_append.mp hx with hx | hx
    ·exact m.2 x hx
    ·have:x=(kk,b):=by simpa using hx
     subst this
     exact ⟨q4,hb⟩
end
end L2
namespace L2
open PySem PySem.Spec PyProof.Rows
section
variable {K:PySem.W.Frag} {Δ:Evt} {P:D->Evt->Prop}
theorem Zm9 {Po:OD->Evt->Prop} (p:Po (.dtt []) Δ):JO K tDNewT Δ Po:=fun g G H σ Q k c q hq=>by
 obtain ⟨k2,pd⟩:=k.fresh (od:=.dtt []) hq (show OwnRep K G (.dT []) (.dtt []) from .nil)
 exact c q _ G _ Δ k2 (Same.refl _) pd p
theorem Zik {G:Hp} {v:V} {ks:List Int} (r:Rep K G v (.tup (ks.map D.int))):∃ b,v=.ref b/\G b=some (.tup ((ks.map (Sum.inl:Int->Key)).map kV)):=by
 obtain ⟨b,vs,rfl,ha,rs⟩:=r.inv
 have:=rs.ints
 subst this
 exact ⟨b,rfl,by rw [ha,List.map_map]; rfl⟩
theorem Zhl {n:Nat} {ti te:TE} {nx bk ct:Evt->Prop} {rt:D->Evt->Prop} {ro:OD->Evt->Prop} (h:JE K te Δ fun d Δ1=>(∃ x od,Δ1[n]? = some x/\x.od=some od)/\JE K ti Δ1 fun e Δ2=>∃ (x:Slot) (kvs:List (List Key × D)) (ks:List Int),Δ2[n]? = some x/\x.od=some (.dtt kvs)/\e=.tup (ks.map D.int)/\kvs.length < sizeLine/\nx (Δ2.set n (x.put (.dtt (putT kvs (ks.map .inl) d))))) :
  JS K (tAsg te (gSub (tVar n) ti rSetU)) Δ ⟨nx,rt,bk,ct,ro⟩:=fun g G H σ E k c=>
 h g G H σ _ k fun v d G1 H1 Δ1 k1 s1 r1 hq_=>by
  obtain ⟨⟨x,od,hx,ho⟩,p1⟩:=hq_
  obtain ⟨a,o,h1,h2,h3,h4,h5⟩:=k1.own n x _ hx ho
  refine ⟨.ref a,h1,p1 g G1 H1 σ _ k1 fun u e G2 H2 Δ2 k2 s2 r2 ⟨y,kvs,ks,q1,q2,q3,q4,p⟩=>?_⟩
  subst q3
  obtain ⟨b,rfl,hb⟩:=Zik r2
  obtain ⟨a',o',w1,w2,w3,w4,w5⟩:=k2.own n y _ q1 q2
  rw [h1] at w1; cases w1
  cases o' with
  | dT vs=>
   have w3':KTD K G2 vs kvs:=w3
   exact .inr ⟨a,_,rfl,DPut.t w2 (k2.live _ _ hb) (by rw [Paired.length w3']; exact q4),c.nx σ G2 _ _ (k2.write q1 q2 h1 (show OwnRep K G2 (.dT (putK vs (ks.map .inl) v)) (.dtt (putT kvs (ks.map .inl) d)) from Zny (r1.mono s2) w3')) p⟩
  | _=>exact absurd w3 (fun z=>z)
theorem Zhm {G:Hp} {k:List Key}:∀ {kvs:List (List Key × V)} {kds:List (List Key × D)},KTD K G kvs kds->(valV kvs k).isSome=(valT kds k).isSome
 | _,_,.nil=>rfl
 | (k1,v1) :: kvs,(k2,d2) :: kds,.cons ⟨e,r⟩ t=>by
  have e:k1=k2:=e
  subst e
  by_cases hk:k1=k
  ·subst hk
   rw [Zc9 (p:=(k1,v1)) rfl,show valT ((k1,d2) :: kds) k1=some d2 by simp [valT,List.find?_cons]]
   rfl
  ·rw [Zdb (p:=(k1,v1)) hk,show valT ((k1,d2) :: kds) k=valT kds k by simp [valT,List.find?_cons,hk]]
   exact Zhm t
theorem Zof {neg:Bool} {n:Nat} {ta:TE} (h:JE K ta Δ fun d Δ1=>∃ (x:Slot) (kvs:List (List Key × D)) (ks:List Int),Δ1[n]? = some x/\x.od=some (.dtt kvs)/\d=.tup (ks.map D.int)/\P (.bl (if neg then !(valT kvs (ks.map .inl)).isSome else (valT kvs (ks.map .inl)).isSome)) Δ1):JE K (tOp (rInU K neg) ta (tVar n)) Δ P:=fun g G H σ Q k c=>
 h g G H σ _ k fun v d G1 H1 Δ1 k1 s1 r1 hq_=>by
  obtain ⟨x,kvs,ks,q1,q2,q3,p⟩:=hq_
  subst q3
  obtain ⟨b,rfl,hb⟩:=Zik r1
  obtain ⟨a,o,w1,w2,w3,w4,w5⟩:=k1.own n x _ q1 q2
  cases o with
  | dT vs=>
   have e:=Zhm (k:=ks.map .inl) (show KTD K G1 vs kvs from w3)
   exact ⟨.ref a,w1,.inr (.inl ⟨a,_,rfl,DGet.t w2 (k1.live _ _ hb),by rw [e]; exact c _ _ G1 H1 Δ1 k1 s1 (.bl _) p⟩)⟩
  | _=>exact absurd w3 (fun z=>z)
end
end L2
namespace L2
open PySem PySem.Spec PyProof.Rows
section
variable {K:PySem.W.Frag} {Δ:Evt} {nx bk ct:Evt->Prop} {rt:D->Evt->Prop} {ro:OD->Evt->Prop}
theorem Zl9 {i j:Nat} (p:nx ((Δ.set i (.own (.dct []))).set j (.own (.dct [])))):JS K (tPar i j (tCons tDNewK (tCons tDNewK tNil))) Δ ⟨nx,rt,bk,ct,ro⟩:=fun g G H σ E k c a ha b hb=>by
 obtain ⟨k2,pd⟩:=k.fresh (od:=.dct []) ha (show OwnRep K G (.dK []) (.dct []) from .nil)
 have k3:=k2.setOwn' i pd
 obtain ⟨k4,pd2⟩:=k3.fresh (od:=.dct []) hb (show OwnRep K G (.dK []) (.dct []) from .nil)
 exact ⟨_,_,rfl,c.nx _ G _ _ (k4.setOwn' j pd2) p⟩
end
end L2
set_option Elab.async false
set_option linter.all false
set_option maxRecDepth 100000
namespace L2
open PySem PySem.Spec PyProof.Rows PySem.SeqAt
def codLe (a b:List (List Int)):Prop:=a=[]\/∃ x y s t,a=x :: s/\b=y :: t/\x ≠ y/\rlt y x=false
def AscC (cs:List (List (List Int))):Prop:=∀ i a b,cs[i]? = some a->cs[i + 1]? = some b->codLe a b
theorem Zl6 {a b:List (List Int)} (h:codLe a b):cLt b a=false:=by
 rcases h with rfl | ⟨x,y,s,t,rfl,rfl,h1,h2⟩
 ·cases b <;> rfl
 ·show (if y=x then _ else rlt y x)=false
  rw [if_neg (Ne.symm h1)]; exact h2
section
variable {prog:Program} {w:World} {A:Around} {E:Value->Shared->Prop} {s:Shared}
theorem Zrg {x y:Value} {a b:List Int} {Q:Value->Shared->Prop} (hu:A.units < cLine) (hx:RowAt s.heap x a) (hy:RowAt s.heap y b) (h:Q (.bool (rlt a b)) s):wpAny (model prog w) A (richCompare .Lt x y) Q E s:=by
 obtain ⟨l,its,rfl,⟨⟨c1,d1,dt1,sl1⟩,ho,hc,k1,hd⟩,hi⟩:=hx
 obtain ⟨l2,its2,rfl,⟨⟨c2,d2,dt2,sl2⟩,ho2,hc2,k2,hd2⟩,hi2⟩:=hy
 simp only at hc hd hc2 hd2
 subst hc hd hc2 hd2
 exact richCompare_meets_room (op:=.Lt) ⟨_,ho,rfl⟩ ⟨_,ho2,rfl⟩ PySem.F.slot_tuple_lt PySem.F.entry_tuple_lt (PySem.F.args_tuple_lt_2 _ _) (HT.tuple_lt_ints l l2 its.toArray its2.toArray k1 k2 d1 d2 sl1 sl2 a b (by simpa using hi) (by simpa using hi2))
  ⟨ho,ho2,show Value.bool (HT.lexLt a b) ≠ Value.notImplemented/\_ from ⟨(fun x=>nomatch x),h⟩⟩ hu
theorem Zi0 {vs:List Value} {cs:List (List (List Int))} (p:Paired (CodeAt s.heap) vs cs):∀ v ∈ vs,PySem.W.Looks (model prog w) s.heap (typeOf v) (.type "tuple"):=by
 intro v hv
 induction p with
 | nil=>cases hv
 | cons q t ih=>
  rcases List.mem_cons.mp hv with e | hv
  ·subst e
   obtain ⟨a,its,rfl,⟨o,ho,hc,_⟩,_⟩:=q
   have z:PySem.W.Looks (model prog w) s.heap (typeOf (.ref a)) o.cls:=(PySem.W.Looks.ld ho).andThen .now
   rw [hc] at z
   exact z
  ·exact ih hv
theorem Zeb:∀ (vs:List Value) (cs:List (List (List Int))) {Q:List (Option Value)->Shared->Prop},Paired (CodeAt s.heap) vs cs →
  (∀ fs:List (Option Value),Paired (fun (f:Option Value) (c:List (List Int))=>c=[]->f=none) fs cs->Q fs s)->wpAny (model prog w) A (vs.mapM firstOfTuple') Q E s
 | [],[],_,_,h=>by rw [List.mapM_nil]; exact wpAny_pure (h [] .nil)
 | v :: vs,c :: cs,Q,.cons p t,h=>by
  obtain ⟨a,its,rfl,⟨o,ho,hc,n,hd⟩,hi⟩:=p
  rw [List.mapM_cons]
  refine wpAny_bind ?_
  rw [PySem.W.kas_first_eq]
  refine wpAny_bind (PySem.W.Looks.here (show PySem.W.Looks (model prog w) s.heap (typeOf (.ref a)) o.cls from (PySem.W.Looks.ld ho).andThen .now) ?_)
  rw [hc,if_neg (by first | decide | simp)]
  refine wpAny_bind (listItems_at ho hd (wpAny_pure ?_))
  refine wpAny_bind (Zeb vs cs (Q:=fun bs s'=>wpAny _ A (pure (its.toArray[0]? :: bs)) Q E s') t fun fs pf=>wpAny_pure (h _ (.cons ?_ pf)))
  intro e
  subst e
  cases hi
  rfl
theorem Zi3 {vs:List Value} {cs:List (List (List Int))} {Q:SortKind->Shared->Prop} (p:Paired (CodeAt s.heap) vs ([] :: cs)) (h:Q oneType' s):wpAny (model prog w) A (keyKind' vs.toArray) Q E s:=by
 have hT:=Zi0 (prog:=prog) (w:=w) p
 rw [keyKind'_eq,List.mapM_toArray,map_eq_pure_bind]
 refine wpAny_bind (wpAny_bind (Zeb vs _ p fun fs pf=>wpAny_pure ?_))
 cases pf with
 | @cons f _ fs _ hf _=>
  have hf:f=none:=hf rfl
  subst hf
  rw [if_neg (by simp),if_neg (by simp)]
  rw [oneTypeOnly'_eq,List.mapM_toArray,map_eq_pure_bind]
  refine wpAny_bind (wpAny_bind (wpAny_bind (PySem.W.kas_mapM (r:=.type "tuple") _ (fun v hv Q' hq=>(hT v hv).here hq) (wpAny_pure ?_))))
  cases p with
  | @cons v _ vs _ _ _=>
   have hall:((List.map (fun _=>Value.type "tuple") (v :: vs)).toArray.all fun x=>x == Value.type "tuple")=true:=by
    simp only [List.all_toArray,List.all_map,List.all_eq_true]
    intro _ _
    exact (by decide:(Value.type "tuple" == Value.type "tuple")=true)
   have h0:(List.map (fun _=>Value.type "tuple") (v :: vs)).toArray[0]? = some (Value.type "tuple"):=by simp
   rw [h0]
   simp only [hall,if_true]
   exact wpAny_pure (wpAny_pure h)
theorem Zi7 {vs:List Value} {cs:List (List (List Int))} {Q:SortKind->Shared->Prop} (p:Paired (CodeAt s.heap) vs cs) (hne:∀ r ∈ cs,r ≠ []) (h1:cs ≠ []) (h:Q (tuples' false) s):wpAny (model prog w) A (keyKind' vs.toArray) Q E s:=by
 have ex:∃ fs:List Value,PySem.W.KatTups s.heap vs fs/\fs.length=cs.length/\∀ v ∈ fs,PySem.W.Looks (model prog w) s.heap (typeOf v) (.type "tuple"):=by
  clear h h1
  induction p with
  | nil=>exact ⟨[],trivial,rfl,fun _ h=>nomatch h⟩
  | @cons v r vs cs q t ih=>
   obtain ⟨fs,k1,k2,k3⟩:=ih fun r hr=>hne r (List.mem_cons_of_mem _ hr)
   obtain ⟨a,its,rfl,⟨o,ho,hc,n,hd⟩,hi⟩:=q
   cases hi with
   | nil=>exact absurd rfl (hne [] List.mem_cons_self)
   | @cons u x us l hx hl=>
    refine ⟨u :: fs,.cons ho hc hd (by simp) k1,by rw [List.length_cons,List.length_cons,k2],fun v hv=>?_⟩
    rcases List.mem_cons.mp hv with e | hv
    ·subst e
     obtain ⟨b,its2,rfl,⟨o2,ho2,hc2,_⟩,_⟩:=hx
     have z:PySem.W.Looks (model prog w) s.heap (typeOf (.ref b)) o2.cls:=(PySem.W.Looks.ld ho2).andThen .now
     rw [hc2] at z
     exact z
    ·exact k3 v hv
 obtain ⟨fs,k1,k2,k3⟩:=ex
 have hpos:0 < cs.length:=List.length_pos_iff.mpr h1
 exact PySem.W.kat_kind k1 (by omega) k3 (by decide) h
theorem Zl0 {v u:Value} {a b:List (List Int)} {Q:Bool->Shared->Prop} (hu:A.units + 2 < cLine) (pa:CodeAt s.heap u a) (pb:CodeAt s.heap v b) (hle:codLe a b) (h:Q false s):wpAny (model prog w) A (keyLt' oneType' v u) Q E s:=by
 obtain ⟨l,its,rfl,⟨⟨c1,d1,dt1,sl1⟩,ho,hc,n,hd⟩,hi⟩:=pb
 obtain ⟨k,its2,rfl,⟨⟨c2,d2,dt2,sl2⟩,ho2,hc2,n2,hd2⟩,hi2⟩:=pa
 simp only at hc hd hc2 hd2
 subst hc hd hc2 hd2
 rw [keyLt'_oneType,oneLt'_eq]
 simp only [if_true]
 refine wpAny_bind (wpAny_cRoomFor (by omega) ?_)
 refine wpAny_bind (wpAny_callSpecialIfBound?_slot (T:="tuple") ⟨_,ho,rfl⟩ F.slot_tuple_lt (call_meets F.slot_tuple_lt ⟨_,ho,rfl⟩ F.entry_tuple_lt (F.args_tuple_lt_2 _ _) (Zfl l k its.toArray its2.toArray n n2 d1 d2 sl1 sl2 b a) ⟨?_,⟨by simpa using hi,by simpa using hi2⟩,ho,ho2,?_⟩))
 ·show A.units + 1 < cLine; omega
 ·rw [Zl6 hle]
  exact wpAny_truthy_bool h
theorem Zmh {v u:Value} {a b:List (List Int)} {Q:Bool->Shared->Prop} (hu:A.units + 2 < cLine) (pa:CodeAt s.heap u a) (pb:CodeAt s.heap v b) (hne:a ≠ []) (hle:codLe a b) (h:Q false s):wpAny (model prog w) A (keyLt' (tuples' false) v u) Q E s:=by
 obtain ⟨l,its,rfl,⟨o1,ho,hc,n,hd⟩,hi⟩:=pb
 obtain ⟨k,its2,rfl,⟨o2,ho2,hc2,n2,hd2⟩,hi2⟩:=pa
 rcases hle with z | ⟨x,y,s',t',rfl,rfl,h1,h2⟩
 ·exact absurd z hne
 ·cases hi with
  | @cons u1 _ us1 _ q1 _=>
   cases hi2 with
   | @cons u2 _ us2 _ q2 _=>
    refine PySem.W.kat_lt ho hd ho2 hd2 ?_
    show PySem.W.KatLex prog w A false _ Q ((u1,u2) :: us1.zip us2) 0 s
    refine PySem.W.kat_cons (Zig q1 q2 (by omega) prog w _ _ ?_)
    rw [decide_eq_false (Ne.symm h1)]
    refine PySem.W.kat_no ?_
    rw [oneLt'_eq]
    simp only [Bool.false_and,Bool.false_eq_true,if_false]
    refine wpAny_bind (Zrg (by omega) q1 q2 ?_)
    rw [h2]
    exact wpAny_truthy_bool h
end
section
variable {X:Cx}
def rSortC (K:PySem.W.Frag):List V->Hp->VK->Prop:=fun xs H Q=>∃ p us cs,xs=[.ref p]/\SqL K H p us/\us.length < 200/\Paired (CodeV K H) us cs/\AscC cs/\∀ l,H l=none->Q (.ref l) (upd H l (.lst us))
theorem Zn4 {cs:List (List (List Int))} (h:AscC cs) (h0:∀ r,cs[0]? = some r->r ≠ []):∀ r ∈ cs,r ≠ []:=by
 intro r hr
 obtain ⟨i,hi⟩:=List.getElem?_of_mem hr
 cases i with
 | zero=>exact h0 r hi
 | succ i=>
  have hl:=(List.getElem?_eq_some_iff.mp hi).1
  have e:=List.getElem?_eq_getElem (show i < cs.length by omega)
  have:∀ j,j < cs.length->∀ c,cs[j]? = some c->c ≠ []:=by
   intro j
   induction j with
   | zero=>intro _ c hc; exact h0 c hc
   | succ j ih=>
    intro hj c hc
    have e:=List.getElem?_eq_getElem (show j < cs.length by omega)
    rcases h j _ _ e hc with z | ⟨x,y,s,t,_,z,_⟩
    ·exact absurd z (ih (by omega) _ e)
    ·rw [z]; exact fun z=>nomatch z
  exact this _ hl _ hi
theorem Paired.getV {β:Type} {R:Value -> β -> Prop} {vs:List Value} {rs:List β} {i:Nat} (p:Paired R vs rs) (h:i < vs.length):∃ r,rs[i]? = some r/\R (vs.getD i .none) r:=by
 obtain ⟨r,h1,h2⟩:=Paired.getC p (List.getElem?_eq_getElem h)
 refine ⟨r,h1,?_⟩
 rw [List.getD_eq_getElem?_getD,List.getElem?_eq_getElem h]; exact h2
theorem sortCK (K:PySem.W.Frag) (hu:X.A.units + 8 < cLine) (hK:X.K=K:=by rfl):CallR X (.builtin "sorted") (rSortC K):=by
 subst hK
 intro pins s σ H xs us Q I r h
 obtain ⟨p,ys,cs,rfl,hx,hl,hp,ha,q⟩:=h
 obtain ⟨u,rfl,ru⟩:=vals1 r
 cases (show u=Value.ref p from ru)
 obtain ⟨its,w1,p1,hz⟩:=I.list hx
 have pr:Paired (CodeAt s.heap) its cs:=Zdz (R:=CodeV X.K H) (T:=CodeAt s.heap) (fun y u c ru h=>Zn8 I ru h) w1 hp
 have hlen:=w1.length
 have hrl:=Paired.length pr
 have fin:EP X pins σ Q (.ref (s.heap.objs.size + 1)) { s with heap:=sortedAll s.heap its its.toArray }:=by
  obtain ⟨e,he⟩:=sortedAll_at s.heap its its.toArray
  refine ⟨.ref (s.heap.objs.size + 1),_,I.laid (t':=s.toks) (fun _ _ z=>sortedAll_old z) (Nat.le_succ _) (show ObjOk X.prog X.w _ _ _ (.lst ys) from ⟨hz,its,e,w1,he⟩),rfl,q _ (I.hok.fresh (Nat.le_succ _))⟩
 have hu2:X.A.in1.in1.units + 2 < cLine:=Nat.lt_of_le_of_lt (by show X.A.units + 1 + 1 + 2<=X.A.units + 8; omega) hu
 have cmp:∀ i,1<=i->i < its.length->∃ a b,cs[i - 1]? = some a/\CodeAt s.heap (its.getD (i - 1) .none) a/\CodeAt s.heap (its.getD i .none) b/\codLe a b:=fun i h1 hi=>by
  obtain ⟨a,ha1,ha2⟩:=Paired.getV (i:=i - 1) pr (by omega)
  obtain ⟨b,hb1,hb2⟩:=Paired.getV (i:=i) pr hi
  exact ⟨a,b,ha1,ha2,hb2,ha (i - 1) a b ha1 (by rw [show i - 1 + 1=i by omega]; exact hb1)⟩
 by_cases h0:cs[0]? = some []
 ·refine Ze3 (κ:=oneType') p1.isList (by omega) (fun _ h' k E Q hq=>?_) (fun h' k i h1 hi E Q hq=>?_) fin
  ·cases cs with
   | nil=>cases h0
   | cons r0 cs=>
    have:r0=[]:=by simpa using h0
    subst this
    exact Zi3 (s:={ s with heap:=h' }) (Paired.mapP pr fun v r z=>z.keep k) hq
  ·obtain ⟨a,b,_,c1,c2,c3⟩:=cmp i h1 hi
   exact Zl0 (s:={ s with heap:=h' }) hu2 (c1.keep k) (c2.keep k) c3 hq
 ·have hne:∀ r ∈ cs,r ≠ []:=Zn4 ha fun r hr e=>h0 (by rw [hr,e])
  refine Ze3 (κ:=tuples' false) p1.isList (by omega) (fun h2 h' k E Q hq=>?_) (fun h' k i h1 hi E Q hq=>?_) fin
  ·exact Zi7 (s:={ s with heap:=h' }) (Paired.mapP pr fun v r z=>z.keep k) hne (by intro z; subst z; rw [List.length_nil] at hrl; omega) hq
  ·obtain ⟨a,b,c0,c1,c2,c3⟩:=cmp i h1 hi
   exact Zmh (s:={ s with heap:=h' }) hu2 (c1.keep k) (c2.keep k) (hne a (List.mem_of_getElem? c0)) c3 hq
end
section
variable {K:PySem.W.Frag} {Δ:Evt} {P:D->Evt->Prop}
def codD (c:List (List Int)):D:=.tup (c.map rowD)
theorem Zhp {ta:TA} {Po:OD->Evt->Prop} (h:JA K ta Δ fun ds Δ1=>∃ cs:List (List (List Int)),ds=[.lst (cs.map codD)]/\cs.length < 200/\AscC cs/\Po (.lst (cs.map codD)) Δ1):JO K (tCB (rSortC K) ta) Δ Po:=fun g G H σ Q k c=>
 h g G H σ _ k fun vs ds G1 H1 Δ1 k1 s1 r1 hq_=>by
  obtain ⟨cs,e,hl,ha,p⟩:=hq_
  subst e
  obtain ⟨_,_,rfl,r,t⟩:=r1.inv
  cases t.inv
  obtain ⟨a,us,rfl,ha',rr⟩:=r.inv
  have hlen:=rr.length
  rw [List.length_map] at hlen
  refine ⟨a,us,cs,rfl,SqL.of (k1.live _ _ ha'),by omega,Zeu k1.live rr,ha,fun l hl=>?_⟩
  obtain ⟨k2,pd⟩:=k1.fresh (od:=.lst (cs.map codD)) hl (show OwnRep K G1 (.lst us) (.lst (cs.map codD)) from rr)
  exact c l _ G1 _ Δ1 k2 s1 pd p
end
end L2
set_option Elab.async false
set_option linter.all false
set_option maxRecDepth 100000
set_option maxHeartbeats 4000000
namespace Lw
open PySem L2
def top (i:Nat):Stmt:=PySem.Challenge.pw_holefloor_k20_crossed_faces.main.body.getD i (.Pass ⟨0,0,0,0⟩)
abbrev s_place_of:Stmt:=top 1
abbrev s_follower:Stmt:=top 3
abbrev s_forerunner:Stmt:=top 4
abbrev s_crossed_onward:Stmt:=top 6
abbrev s_back_of:Stmt:=top 7
abbrev s_hand_beyond:Stmt:=top 8
abbrev s_round_from:Stmt:=top 9
abbrev s_crossed_faces:Stmt:=top 10
abbrev s_law_pen:Stmt:=top 12
abbrev s_law_draw:Stmt:=top 13
abbrev s_law_web:Stmt:=top 14
abbrev s_law_order:Stmt:=top 15
abbrev s_law_partner:Stmt:=top 16
abbrev s_law_whole:Stmt:=top 17
abbrev s_law_crossed:Stmt:=top 18
abbrev s_law_same:Stmt:=top 19
abbrev s_law_crossings:Stmt:=top 20
abbrev s_law:Stmt:=top 21
theorem sc_place_of:FnScope ["web","end"] ["web","end"] (defScope s_place_of):=⟨rfl,rfl,rfl,by decide +kernel,rfl,by decide +kernel,by decide +kernel⟩
theorem sc_follower:FnScope ["web","order","end","row"] ["web","order","end"] (defScope s_follower):=⟨rfl,rfl,rfl,by decide +kernel,rfl,by decide +kernel,by decide +kernel⟩
theorem sc_forerunner:FnScope ["web","order","end","row"] ["web","order","end"] (defScope s_forerunner):=⟨rfl,rfl,rfl,by decide +kernel,rfl,by decide +kernel,by decide +kernel⟩
theorem sc_crossed_onward:FnScope ["web","order","crossings","state","partner"] ["web","order","crossings","state"] (defScope s_crossed_onward):=⟨rfl,rfl,rfl,by decide +kernel,rfl,by decide +kernel,by decide +kernel⟩
theorem sc_back_of:FnScope ["web","crossings","state"] ["web","crossings","state"] (defScope s_back_of):=⟨rfl,rfl,rfl,by decide +kernel,rfl,by decide +kernel,by decide +kernel⟩
theorem sc_hand_beyond:FnScope ["crossings","state","end","hand"] ["crossings","state"] (defScope s_hand_beyond):=⟨rfl,rfl,rfl,by decide +kernel,rfl,by decide +kernel,by decide +kernel⟩
theorem sc_round_from:FnScope ["web","order","crossings","state","come_through","come"] ["web","order","crossings","state"] (defScope s_round_from):=⟨rfl,rfl,rfl,by decide +kernel,rfl,by decide +kernel,by decide +kernel⟩
theorem sc_crossed_faces:FnScope ["web","order","crossings","told","gone","end","face","state"] ["web","order","crossings"] (defScope s_crossed_faces):=⟨rfl,rfl,rfl,by decide +kernel,rfl,by decide +kernel,by decide +kernel⟩
theorem sc_law_pen:FnScope ["_law_script"] ["_law_script"] (defScope s_law_pen):=⟨rfl,rfl,rfl,by decide +kernel,rfl,by decide +kernel,by decide +kernel⟩
theorem sc_law_draw:FnScope ["_law_pen_here","_law_many","_law_digit","_law_at","_law_cell","_law_number"] ["_law_pen_here","_law_many"] (defScope s_law_draw):=⟨rfl,rfl,rfl,by decide +kernel,rfl,by decide +kernel,by decide +kernel⟩
theorem sc_law_web:FnScope ["_law_pen_here","_law_places","_law_ties","_law_many","_law_way","_law_count","_law_found","_law_k","_law_a","_law_b"] ["_law_pen_here","_law_places","_law_ties"] (defScope s_law_web):=⟨rfl,rfl,rfl,by decide +kernel,rfl,by decide +kernel,by decide +kernel⟩
theorem sc_law_order:FnScope ["_law_pen_here","_law_web_here","_law_rows","_law_k","_law_row","!0","!1","!2","!3","!4","!5","!6","!7","!8","!9","!10","!11","!12","!13","!14","!15","!16","!17","!18","!19","!20","!21","!22","!23","!24"] ["_law_pen_here","_law_web_here"] (defScope s_law_order):=⟨rfl,rfl,rfl,by decide +kernel,rfl,by decide +kernel,by decide +kernel⟩
theorem sc_law_partner:FnScope ["_law_end"] ["_law_end"] (defScope s_law_partner):=⟨rfl,rfl,rfl,by decide +kernel,rfl,by decide +kernel,by decide +kernel⟩
theorem sc_law_whole:FnScope ["_law_found"] ["_law_found"] (defScope s_law_whole):=⟨rfl,rfl,rfl,by decide +kernel,rfl,by decide +kernel,by decide +kernel⟩
theorem sc_law_crossed:FnScope ["_law_order_here","_law_crossings_here","_law_behind","_law_ahead","_law_row","_law_k","_law_found","_law_met","_law_end","_law_walk","_law_state","_law_other","_law_hand"] ["_law_order_here","_law_crossings_here"] (defScope s_law_crossed):=⟨rfl,rfl,rfl,by decide +kernel,rfl,by decide +kernel,by decide +kernel⟩
theorem sc_law_same:FnScope ["_law_found","_law_due"] ["_law_found","_law_due"] (defScope s_law_same):=⟨rfl,rfl,rfl,by decide +kernel,rfl,by decide +kernel,by decide +kernel⟩
theorem sc_law_crossings:FnScope ["_law_pen_here","_law_web_here","_law_way","_law_found"] ["_law_pen_here","_law_web_here"] (defScope s_law_crossings):=⟨rfl,rfl,rfl,by decide +kernel,rfl,by decide +kernel,by decide +kernel⟩
theorem sc_law:FnScope ["_law_script","_law_pen_here","_law_web_here","_law_order_here","_law_crossings_here","_law_turned","_law_due","_law_further","_law_found","_law_second","_law_other"] ["_law_script"] (defScope s_law):=⟨rfl,rfl,rfl,by decide +kernel,rfl,by decide +kernel,by decide +kernel⟩
def Mb (mg:Str->Option Value):Prop:=∀ x ∈ ["abs","all","bool","int","isinstance","len","list","max","min","range","set","sorted","tuple","zip"],mg x=none
local macro_rules | `(tactic| walk_at "js")=>`(tactic| first
 | with_reducible refine Zai (t:=tAsg _ _) ?_
 | with_reducible refine Zai (t:=tPar _ _ _) ?_
 | with_reducible refine Zai (t:=tDrop _) ?_
 | with_reducible refine iteF ?_
 | with_reducible refine iteT ?_
 | with_reducible refine Zaw ?_
 | with_reducible refine Za9 ?_
 | with_reducible refine Zbx ?_
 | with_reducible refine Zgp ?_
 | with_reducible refine Zat ?_
 | refine Zpr rfl rfl ?_
 | refine Zh6 rfl rfl ?_
 | with_reducible refine Zar ?_
 | with_reducible refine Zsj ?_
 | with_reducible refine Zaj ?_
 | with_reducible refine Zpn ?_
 | with_reducible refine Zqn ?_
 | with_reducible refine Zel ?_
 | with_reducible refine Za6 ?_
 | with_reducible refine Zau ?_
 | refine Zes rfl rfl ?_
 | refine Zd7 rfl rfl ?_
 | with_reducible refine Zbg ?_
 | with_reducible refine Zcf ?_
 | with_reducible refine Zrb ?_
 | with_reducible refine Zj2 ?_
 | with_reducible refine Zsh ?_
 | with_reducible refine Zrt ?_
 | with_reducible refine Zfh ?_
 | with_reducible refine Zn0 ?_
 | with_reducible refine Zow ?_
 | with_reducible refine Zaf ?_
 | with_reducible refine Zab ?_
 | with_reducible refine Zbf ?_
 | with_reducible refine Ze0 ?_
 | with_reducible refine Zq4 ?_
 | with_reducible refine Zej ?_
 | with_reducible refine Zbt ?_
 | with_reducible refine Zce ?_
 | with_reducible refine Zdk ?_
 | with_reducible refine Zd6 ?_
 | with_reducible refine Zpg ?_
 | with_reducible refine Zer ?_
 | with_reducible refine Zsk ?_
 | with_reducible refine Zp6 ?_
 | with_reducible refine Zim ?_
 | with_reducible refine Zcq ?_
 | refine Zac rfl ?_
 | refine Zas rfl ?_
 | refine Zg7 rfl ?_
 | refine Zbm (Or.inl rfl) ?_
 | refine Zbm (Or.inr rfl) ?_
 | refine Zc0 (Or.inl rfl) ?_
 | refine Zc0 (Or.inr rfl) ?_
 | refine Znm (Or.inl rfl) ?_
 | refine Znm (Or.inr rfl) ?_
 | refine Zmo ?_
 | refine ⟨⟨_,_,rfl,rfl⟩,?_⟩
 | refine ⟨_,_,_,_,rfl,rfl,rfl,rfl,?_⟩
 | refine ⟨_,rfl,?_⟩
 | refine jr_I (by first | (show (0:Int) < _; omega) | exact ⟨by omega,by omega⟩ | exact Or.inl ⟨by omega,by omega⟩ | exact Or.inr ⟨by omega,by omega⟩ | exact ⟨by decide,by decide,by decide⟩) ?_)
local macro_rules | `(tactic| walk_at "draw")=>`(tactic| first | refine Zct rfl rfl (by assumption) (by omega) (by omega) fun _ _ _ _ _=>?_ | refine ⟨_,_,rfl,rfl,by assumption,_,rfl,by omega,by omega,fun _ _ _ _ _=>?_⟩)
def Pen (ps:List D):Prop:=∃ (cs:List Int) (at_ num:Int),ps=[.lst (cs.map .int),.int at_,.int num]/\0<=at_/\0<=num/\cs.length<=63
def fDraw:BSp:=fun ps ds Post=>Pen ps/\∃ m:Int,ds=[.int m]/\1<=m/\m<=100000000000000000000000000000000000000000000000000000000000/\∀ r ps',Pen ps' -> 0<=r->r < m->Post (.int r) ps'
abbrev LendQ (f:BSp) (i:Nat) (P:D->Evt->Prop):List D->Evt->Prop:=fun ds Δ1=>∃ y ps,Δ1[i]? = some y/\y.od=some (.lst ps)/\f ps ds fun d ps'=>P d (Δ1.set i (y.put (.lst ps')))
theorem Zes {K:PySem.W.Frag} {Δ:Evt} {P:D->Evt->Prop} {f:BSp} {ta:TA} {E:XK} {i:Nat} {x:Slot} {od:OD} (hx:Δ[i]? = some x) (ho:x.od=some od) (h:JA K ta Δ (LendQ f i P)):JE K (tCall (spB K f) [] E (tCons (tVar i) ta)) Δ P:=Zd7 hx ho h
theorem Zct {Δ1:Evt} {i:Nat} {y:Slot} {ps:List D} {m:Int} {P:D->Evt->Prop} (hx:Δ1[i]? = some y) (ho:y.od=some (.lst ps)) (hp:Pen ps) (h1:1<=m) (h2:m<=100000000000000000000000000000000000000000000000000000000000) (h:∀ r ps',Pen ps' -> 0<=r->r < m->P (.int r) (Δ1.set i (y.put (.lst ps')))) :
  LendQ fDraw i P [.int m] Δ1:=⟨y,ps,hx,ho,hp,m,rfl,h1,h2,h⟩
theorem Zsc {K:PySem.W.Frag} {Δ:Evt} {E:XK} {i:Nat} {y:Slot} {ps:List D} {m:Int} {P:D->Evt->Prop} (hx:Δ[i]? = some y) (ho:y.od=some (.lst ps)) (hp:Pen ps) (h1:1<=m) (h2:m<=100000000000000000000000000000000000000000000000000000000000) (h:∀ r ps',Pen ps' -> 0<=r->r < m->P (.int r) (Δ.set i (y.put (.lst ps')))) :
  JE K (tCall (spB K fDraw) [] E (tCons (tVar i) (tCons (tC (.int m)) tNil))) Δ P:=Zes hx ho (Zab (Zaj (Zaf (Zct hx ho hp h1 h2 h))))
section
variable {P:Program} {w:World} {K:PySem.W.Frag} {mg:Str->Option Value} {base:Heap} {f:Addr} {fd:FuncData}
theorem Zo5 (mb:Mb mg) (F:Fun K "_law_draw" "_law_draw" s_law_draw f fd):FnOk P w K mg base CX0 1 f fd ["_law_pen_here","_law_many"] (spB K fDraw):=by
 refine F.ok sc_law_draw (Zfk fun ps ds Post h=>by obtain ⟨_,m,rfl,_⟩:=h; rfl) (fun cdv A outer s H vs Q E hr h=>?_)
 have hu:=Zca hr
 refine ⟨_,(Zad (Zcb (Za0 Zpu (Za2 (ixK K hu) (pv 0) Zag (fun _ _=>rfl)) Zag (nomark _)) (Zad (Zao (i:=2) sc_law_draw.nd rfl (Or.inl rfl) (Zaq Zbd (Za2 (ixK K hu) (pv 0) Zag (fun _ _=>rfl)) (pv 1))) (Zad (Zdo (Zaq Zfb (Za2 (ixK K hu) (pv 0) Zag (fun _ _=>rfl)) (pv 1)) (Zd4 (pv 0) Zag (setU hu))) (Zah (Zax (pv 2))))) Za4) (Zad (Zao (i:=3) sc_law_draw.nd rfl (Or.inl rfl) (Za2 (ixK K hu) (pv 0) Zag (fun _ _=>rfl))) (Zad (Zdo (Zaq (addK K) (pv 3) Zag) (Zd4 (pv 0) Zag (setU hu))) (Zad (Zao (i:=4) sc_law_draw.nd rfl (Or.inl rfl) Zag) (Zad (Zcb (Za0 Zpu (Zal (lenK K) rfl (mb "len" (by decide)) Zbs (Zaa (Za2 (ixK K hu) (pv 0) Zag (fun _ _=>rfl)) Zae)) Zag (nomark _)) (Zah (Zao (i:=4) sc_law_draw.nd rfl (Or.inl rfl) (Za2 (ixK K hu) (Za2 (ixK K hu) (pv 0) Zag (fun _ _=>rfl)) (Zaq Zbd (pv 3) (Zal (lenK K) rfl (mb "len" (by decide)) Zbs (Zaa (Za2 (ixK K hu) (pv 0) Zag (fun _ _=>rfl)) Zae))) (fun _ _=>rfl)))) Za4) (Zad (Zcb (PW.pt (pw_and (Za0 Zqy (pv 3) (Zal (lenK K) rfl (mb "len" (by decide)) Zbs (Zaa (Za2 (ixK K hu) (pv 0) Zag (fun _ _=>rfl)) Zae)) (nomark _)) (pw_and1 (Za0 Zsf (Zal Zfo rfl (mb "abs" (by decide)) Zko (Zaa (pv 4) Zae)) (Zaq Zp3 Zag Zag) (nomark _))))) (Zad (Zdo (Zaq Zfb (Zal Zfo rfl (mb "abs" (by decide)) Zko (Zaa (pv 4) Zae)) (pv 1)) (Zd4 (pv 0) Zag (setU hu))) (Zah (Zax (Zaq Zbd (Zal Zfo rfl (mb "abs" (by decide)) Zko (Zaa (pv 4) Zae)) (pv 1))))) Za4) (Zad (Zao (i:=5) sc_law_draw.nd rfl (Or.inl rfl) (Zaq Zbd (Zaq Zdf (Zaq (addK K) (Zaq (addK K) (Zaq Zbd (pv 4) Zag) (Zaq Zdf Zag (pv 3))) Zag) Zag) Zag)) (Zad (Zao (i:=5) sc_law_draw.nd rfl (Or.inl rfl) (Zaq Zbd (Zaq (addK K) (Zaq (addK K) (Zaq Zdf (pv 5) (pv 5)) (Zaq Zdf Zag (pv 5))) (pv 3)) Zag)) (Zah (Zax (Zaq Zbd (Zaq Zfb (Zaq Zbd (Zaq Zdf (pv 5) Zag) Zag) Zag) (pv 1)))))))))))),Zmf (fun ps ds Post hf=>?_) h⟩
 obtain ⟨⟨cs,at_,num,rfl,h1,h2,h3⟩,m,rfl,h4,h5,q⟩:=hf
 refine ⟨by simp,?_⟩
 dsimp only [cxOf,startD,List.tail,List.map,List.length,List.replicate]
 refine Zbc (fun Δ=>¬ 0 < num /\ Δ = [.bor (.lst [.lst (cs.map .int),.int at_,.int num]),.val (.int m),.any,.any,.any,.any]) ?_ ?_
 ·repeat walk_at "js"
  refine ite2 (fun c=>?_) (fun c=>?_)
  ·have c:=of_decide_eq_true c
   repeat walk_at "js"
   exact q _ _ ⟨cs,at_,num / m,rfl,h1,Int.ediv_nonneg h2 (by omega),h3⟩ (Int.emod_nonneg _ (by omega)) (Int.emod_lt_of_pos _ (by omega))
  ·repeat walk_at "js"
   exact ⟨of_decide_eq_false (Bool.eq_false_iff.mpr c),rfl⟩
 rintro Δ1 ⟨hn,rfl⟩
 repeat walk_at "js"
 refine Zbc (fun Δ=>∃ c:Int,Δ = [.bor (.lst [.lst (cs.map .int),.int (at_ + 1),.int num]),.val (.int m),.any,.val (.int at_),.val (.int c),.any]) ?_ ?_
 ·repeat walk_at "js"
  refine ite2 (fun c=>?_) (fun c=>?_)
  ·have c:=of_decide_eq_true c
   rw [List.length_map] at c
   repeat walk_at "js"
   rw [List.length_map]
   repeat walk_at "js"
   obtain ⟨cell,_,hc⟩:=Zjm (f:=D.int) (xs:=cs) (i:=at_ % (cs.length:Int)) (Int.emod_nonneg _ (by omega)) (Int.emod_lt_of_pos _ (by omega))
   refine Zg7 hc ?_
   exact ⟨cell,rfl⟩
  ·repeat walk_at "js"
   exact ⟨11,rfl⟩
 rintro Δ1 ⟨cell,rfl⟩
 refine Zbc (fun Δ=>Δ = [.bor (.lst [.lst (cs.map .int),.int (at_ + 1),.int num]),.val (.int m),.any,.val (.int at_),.val (.int cell),.any]) ?_ ?_
 ·repeat walk_at "js"
  refine ite2 (fun c=>?_) (fun c=>?_)
  ·repeat walk_at "js"
   refine ite2 (fun c=>?_) (fun c=>?_)
   ·repeat walk_at "js"
    have ha:0<=(if cell < 0 then -cell else cell):=by split <;> omega
    exact q _ _ ⟨cs,at_ + 1,_,rfl,by omega,Int.ediv_nonneg ha (by omega),h3⟩ (Int.emod_nonneg _ (by omega)) (Int.emod_lt_of_pos _ (by omega))
   ·repeat walk_at "js"
    rfl
  ·repeat walk_at "js"
   rfl
 rintro Δ1 rfl
 repeat walk_at "js"
 exact q _ _ ⟨cs,at_ + 1,num,rfl,by omega,h2,h3⟩ (Int.emod_nonneg _ (by omega)) (Int.emod_lt_of_pos _ (by omega))
end
def fPen:NSp:=fun ds Post=>∃ ns:List Int,ds=[.scr (ns.map .int)]/\ns.length<=63/\∀ ps,Pen ps->Post ps
section
variable {P:Program} {w:World} {K:PySem.W.Frag} {mg:Str->Option Value} {base:Heap} {f:Addr} {fd:FuncData}
theorem Zqs (mb:Mb mg) (F:Fun K "_law_pen" "_law_pen" s_law_pen f fd):FnOk P w K mg base CX0 1 f fd ["_law_script"] (spN K fPen):=by
 refine F.ok sc_law_pen (Zgq fun ds Post h=>by obtain ⟨ns,rfl,_⟩:=h; rfl) (fun cdv A outer s H vs Q E hr h=>?_)
 have hu:=Zca hr
 refine ⟨_,(Zah (Zax (Zf9 (Zaa (Zdy ["_law_cell"] (show CompSc (defScope s_law_pen) ["_law_script"] _ [] [] from ⟨rfl,by decide +kernel,by decide +kernel,by decide +kernel,rfl,by decide +kernel⟩) rfl (seqK K (Zlk (slK K) (pv 0) Zo6 (Znw Zag))) (fun _ _ _ _ _=>(Zaz (i:=0) (show List.Nodup (["_law_cell"]:List Str) from by decide) rfl (Or.inl rfl))) (fun _ _ _ _ _=>Zcu) (fun _ _ _ _ _=>(pv 0))) (Zaa Zag (Zaa Zag Zae)))))),Zoi (fun ds Post hf=>?_) h⟩
 obtain ⟨ns,rfl,h1,q⟩:=hf
 refine ⟨by simp,?_⟩
 dsimp only [cxOf,startD,List.tail,List.map,List.length,List.replicate]
 refine Zg6 (Zgc (Zab (Zdq (by decide) (Zno ?_))))
 repeat walk_at "js"
 have e:cutD (ns.map D.int) none (some 63)=ns.map D.int:=by
  unfold cutD
  have e1:HT.sIx (ns.map D.int).length 0 none=0:=rfl
  have e2:HT.sIx (ns.map D.int).length (ns.map D.int).length (some 63)=ns.length:=by
   rw [List.length_map]; show min (Int.toNat 63) ns.length=_; omega
  rw [e1,e2,List.drop_zero,Nat.sub_zero,List.take_of_length_le (by simp)]
 rw [e]
 refine ⟨_,Or.inl rfl,by rw [List.length_map]; exact Nat.lt_of_le_of_lt h1 (by decide),fun _=>true,fun d=>d,fun i d hd=>?_,?_⟩
 ·repeat walk_at "js"
  exact ⟨rfl,Zac rfl ⟨rfl,_,rfl⟩⟩
 ·repeat walk_at "js"
  refine ⟨by show 3<=sizeLine; decide,_,rfl,q _ ⟨ns,0,0,?_,by decide,by decide,h1⟩⟩
  simp
end
def encTie (t:Int × Int):D:=.tup [.int t.1,.int t.2]
def encWeb (n:Int) (ts:List (Int × Int)):D:=.tup [.int n,.tup (ts.map encTie)]
structure WebOk (n:Int) (ts:List (Int × Int)):Prop where
 lo:1<=n
 hi:n<=25
 len:ts.length<=24
 tie:∀ t ∈ ts,0<=t.1/\t.1 < n/\0<=t.2/\t.2 < n
def fWeb:BSp:=fun ps ds Post=>Pen ps/\∃ a b:Int,ds=[.int a,.int b]/\1<=a/\a<=25/\0<=b/\b<=24/\∀ n ts ps',Pen ps' -> WebOk n ts->n<=a->(ts.length:Int)<=b->Post (encWeb n ts) ps'
theorem Zrh {Δ1:Evt} {i:Nat} {y:Slot} {ps:List D} {a b:Int} {P:D->Evt->Prop} (hx:Δ1[i]? = some y) (ho:y.od=some (.lst ps)) (hp:Pen ps) (h1:1<=a) (h2:a<=25) (h3:0<=b) (h4:b<=24) (h:∀ n ts ps',Pen ps' -> WebOk n ts->n<=a->(ts.length:Int)<=b->P (encWeb n ts) (Δ1.set i (y.put (.lst ps')))) :
  LendQ fWeb i P [.int a,.int b] Δ1:=⟨y,ps,hx,ho,hp,a,b,rfl,h1,h2,h3,h4,h⟩
theorem Zjl:2<=sizeLine:=by decide
theorem Zgb {K:PySem.W.Frag} {Δ:Evt} {i:Nat} {v c:Int} {P:Bool->Evt->Prop} (hx:Δ[i]? = some (.val (.int v))) (h1:v=c->P true Δ) (h2:¬ v=c->P false Δ):JT K (tTest (tOp rEq (tVar i) (tC (.int c)))) Δ P:=
 Zbf (Zar (Zac hx (Zaj (Zer ⟨_,rfl,by
  by_cases h:v=c
  ·rw [decide_eq_true h]; exact h1 h
  ·rw [decide_eq_false h]; exact h2 h⟩))))
def wSt (py:List D) (a b n way k:Int) (fs:List D) (i u v:Int):Evt:=[.bor (.lst py),.val (.int a),.val (.int b),.val (.int n),.val (.int way),.val (.int k),.own (.lst fs),.val (.int i),.val (.int u),.val (.int v)]
def wQ (py:List D) (a b n way k:Int) (fs:List D) (i:Int):Evt->Prop:=fun Δ=>∃ u v:Int,0<=u/\u < n/\0<=v/\v < n /\ Δ = wSt py a b n way k fs i u v
def wR (py:List D) (a b n way k:Int) (fs:List D) (i:Int):Evt->Prop:=fun Δ=>∃ u v:Int,0<=u/\u < n/\0<=v /\ Δ = wSt py a b n way k fs i u v
def wL (a b n way k:Int) (i:Nat):Evt->Prop:=fun Δ=>∃ (ps:List D) (ts:List (Int × Int)) (x7 x8 x9:Slot),Pen ps/\ts.length=i/\(∀ t ∈ ts,0<=t.1/\t.1 < n/\0<=t.2/\t.2 < n) /\ Δ = [.bor (.lst ps),.val (.int a),.val (.int b),.val (.int n),.val (.int way),.val (.int k),.own (.lst (ts.map encTie)),x7,x8,x9]
section
variable {P:Program} {w:World} {K:PySem.W.Frag} {mg:Str->Option Value} {base:Heap} {f:Addr} {fd:FuncData}
theorem Zr5 (mb:Mb mg) (C__law_draw:Callee P w K mg base 1 "_law_draw" ["_law_pen_here","_law_many"] (spB K fDraw)) (F:Fun K "_law_web" "_law_web" s_law_web f fd):FnOk P w K mg base CX0 2 f fd ["_law_pen_here","_law_places","_law_ties"] (spB K fWeb):=by
 refine F.ok sc_law_web (Zfk fun ps ds Post h=>by obtain ⟨_,a,b,rfl,_⟩:=h; rfl) (fun cdv A outer s H vs Q E hr h=>?_)
 have hu:=Zca hr
 refine ⟨_,(Zad (Zao (i:=3) sc_law_web.nd rfl (Or.inl rfl) (Zaq (addK K) Zag (Zay C__law_draw (hr.mono (by decide)) (Zaa (pv 0) (Zaa (pv 1) Zae))))) (Zad (Zao (i:=4) sc_law_web.nd rfl (Or.inl rfl) (Zay C__law_draw (hr.mono (by decide)) (Zaa (pv 0) (Zaa Zag Zae)))) (Zad (Zao (i:=5) sc_law_web.nd rfl (Or.inl rfl) (Zay C__law_draw (hr.mono (by decide)) (Zaa (pv 0) (Zaa (Zaq (addK K) (pv 2) Zag) Zae)))) (Zad (Zcb (Za0 Zb8 (pv 4) Zag (nomark _)) (Zad (Zao (i:=3) sc_law_web.nd rfl (Or.inl rfl) (pv 1)) (Zah (Zao (i:=5) sc_law_web.nd rfl (Or.inl rfl) (pv 2)))) Za4) (Zad (Zao (i:=6) sc_law_web.nd rfl (Or.inl rfl) (Zf9 Zae)) (Zad (Zd9 PassesOwn.never rfl (Zbz rfl (mb "range" (by decide)) (Zaa (pv 5) Zae)) (Zaz (i:=7) sc_law_web.nd rfl (Or.inl rfl)) (Zad (Zj5 (i:=8) (j:=9) rfl sc_law_web.nd rfl rfl (by decide) rfl rfl (Zaa (Zay C__law_draw (hr.mono (by decide)) (Zaa (pv 0) (Zaa (pv 3) Zae))) (Zaa (Zay C__law_draw (hr.mono (by decide)) (Zaa (pv 0) (Zaa (pv 3) Zae))) Zae)) rfl) (Zad (Zcb (Za0 Zb8 (pv 4) Zag (nomark _)) (Zah (Zj5 (i:=8) (j:=9) rfl sc_law_web.nd rfl rfl (by decide) rfl rfl (Zaa (Zaq Zbd (pv 7) (pv 3)) (Zaa (Zaq Zbd (Zaq (addK K) (pv 7) Zag) (pv 3)) Zae)) rfl)) Za4) (Zad (Zcb (Za0 Zb8 (pv 4) Zag (nomark _)) (Zah (Zao (i:=8) sc_law_web.nd rfl (Or.inl rfl) Zag)) Za4) (Zad (Zcb (Za0 Zb8 (pv 4) Zag (nomark _)) (Zah (Zao (i:=9) sc_law_web.nd rfl (Or.inl rfl) (Zaq (addK K) (Zaq Zbd (pv 8) Zag) (Zaq Zdf (Zaq Zd8 (pv 9) Zag) Zag)))) Za4) (Zad (Zcb (PW.pt (pw_and (Za0 Zb8 (pv 4) Zag (nomark _)) (pw_and1 (Za0 Zb8 (Zaq Zbd (pv 9) Zag) Zag (nomark _))))) (Zah (Zao (i:=9) sc_law_web.nd rfl (Or.inl rfl) (pv 8))) Za4) (Zah (Zbu (bmK K PySem.F.plainAttrs_list PySem.F.slot_list_append PySem.F.type_list_append Zbo (pv 6) (Zaa (Zbp (Zaa (pv 8) (Zaa (Zal (Zgj rfl) rfl (mb "min" (by decide)) Zng (Zaa (pv 9) (Zaa (Zaq Zde (pv 3) Zag) Zae))) Zae))) Zae)))))))))) (Zah (Zax (Zbp (Zaa (pv 3) (Zaa (Zbk (tupK K) rfl (mb "tuple" (by decide)) Zbh (Zaa (pv 6) Zae)) Zae))))))))))),Zmf (fun ps ds Post hf=>?_) h⟩
 obtain ⟨hp,a,b,rfl,h1,h2,h3,h4,q⟩:=hf
 refine ⟨by simp,?_⟩
 dsimp only [cxOf,startD,List.tail,List.map,List.length,List.replicate]
 refine Zai (Zat (Zar (Zaj (Zes rfl rfl (Zab (Zac rfl (Zaf (Zct (m:=a) rfl rfl hp h1 (Int.le_trans h2 (by decide)) fun r0 ps0 hp0 hr0 hs0=>Zdk ?_))))))))
 refine Zai (Zat (Zsc rfl rfl hp0 (by decide) (by decide) fun way ps1 hp1 hw0 hw1=>?_))
 refine Zai (Zat (Zes rfl rfl (Zab (Zit (Zcw (Zb1 rfl) Zci Zg0) (Zaf (Zct (m:=b + 1) rfl rfl hp1 (Int.add_le_add h3 (Int.le_refl 1)) (Int.le_trans (Int.add_le_add h4 (Int.le_refl 1)) (by decide)) fun cnt ps2 hp2 hc0 hc1=>?_))))))
 refine Zbc (fun Δ=>∃ n k:Int,1<=n/\n<=a/\0<=k/\k<=b /\ Δ = [.bor (.lst ps2),.val (.int a),.val (.int b),.val (.int n),.val (.int way),.val (.int k),.any,.any,.any,.any]) ?_ ?_
 ·refine Zbx (Zgb rfl (fun c=>iteT ?_) (fun c=>iteF (Zaw ⟨1 + r0,cnt,Int.le_add_of_nonneg_right hr0,by omega,hc0,Int.le_of_lt_add_one hc1,rfl⟩)))
  exact Zai (Zat (Zac rfl (Zat (Zac rfl ⟨a,b,h1,Int.le_refl _,h3,Int.le_refl _,rfl⟩))))
 rintro Δ1 ⟨n,k,hn0,hn1,hk0,hk1,rfl⟩
 have hn2:0 < n:=Int.lt_of_lt_of_le (by decide) hn0
 have hn3:n ≠ 0:=Int.ne_of_gt hn2
 refine Zai (Zb4 (Zgc (Zaf ⟨by decide,?_⟩)))
 refine Zbc (wL a b n way k k.toNat) ?_ ?_
 ·refine Zef (Zb0 (Zab (Zac rfl (Zaf ⟨_,rfl,by omega,by omega,?_⟩))))
  refine ⟨wL a b n way k,⟨ps2,[],.any,.any,.any,hp2,rfl,fun _ h=>(nomatch h),rfl⟩,?_,fun Δ2 h=>by rw [Zbb] at h; exact h⟩
  rintro i d Δ2 hd ⟨ps,ts,x7,x8,x9,hp',hl,ht,rfl⟩
  obtain ⟨hi,rfl⟩:=Zcj hd
  generalize (0 + (i:Int))=I
  refine Zcq (Zai (Zgp (Zab (Zes rfl rfl (Zab (Zac rfl (Zaf (Zct (m:=n) rfl rfl hp' hn0 (by omega) fun x px hpx hx0 hx1=>?_))))))))
  refine Zab (Zes rfl rfl (Zab (Zac rfl (Zaf (Zct (m:=n) rfl rfl hpx hn0 (by omega) fun y py hpy hy0 hy1=>Zaf ⟨_,_,rfl,?_⟩)))))
  refine Zbc (wQ py a b n way k (ts.map encTie) I) ?_ ?_
  ·refine Zbx (Zgb rfl (fun c=>iteT ?_) (fun c=>iteF (Zaw ⟨x,y,hx0,hx1,hy0,hy1,rfl⟩)))
   exact Zgp (Zqw (Zie (Zcw (Zb1 rfl) (Zb1 rfl) (pr_I hn2)) (Zie (Zcw (Zcw (Zb1 rfl) Zci Zg0) (Zb1 rfl) (pr_I hn2)) Zps)) ⟨_,_,rfl,_,_,Int.emod_nonneg _ hn3,Int.emod_lt_of_pos _ hn2,Int.emod_nonneg _ hn3,Int.emod_lt_of_pos _ hn2,rfl⟩)
  rintro Δ3 ⟨u,v,hu0,hu1,hv0,hv1,rfl⟩
  refine Zbc (wQ py a b n way k (ts.map encTie) I) ?_ ?_
  ·exact Zbx (Zgb rfl (fun c=>iteT (Zat (Zaj ⟨0,v,Int.le_refl _,hn2,hv0,hv1,rfl⟩))) (fun c=>iteF (Zaw ⟨u,v,hu0,hu1,hv0,hv1,rfl⟩)))
  rintro Δ3 ⟨u,v,hu0,hu1,hv0,hv1,rfl⟩
  refine Zbc (wR py a b n way k (ts.map encTie) I) ?_ ?_
  ·refine Zbx (Zgb rfl (fun c=>iteT ?_) (fun c=>iteF (Zaw ⟨u,v,hu0,hu1,hv0,rfl⟩)))
   exact Zat (Zit (Zcw (Zcw (Zb1 rfl) Zci (pr_I (show (0:Int) < 2 by decide))) (Zcw (Zcw (Zb1 rfl) Zci (pr_I ⟨by decide,by decide⟩)) Zci (pr_I (Or.inr ⟨by decide,by decide⟩))) Zg0) ⟨u,_,hu0,hu1,by omega,rfl⟩)
  rintro Δ3 ⟨u,v,hu0,hu1,hv0,rfl⟩
  refine Zbc (wR py a b n way k (ts.map encTie) I) ?_ ?_
  ·refine Zbx (Ze0 (Zgb rfl (fun c=>iteT ?_) (fun c=>iteF (iteF (Zaw ⟨u,v,hu0,hu1,hv0,rfl⟩)))))
   refine Zbf (Zar (Zit (Zcw (Zb1 rfl) Zci (pr_I (show (0:Int) < 2 by decide))) (Zaj (Zer ⟨_,rfl,ite2 (fun c=>?_) (fun c=>Zaw ⟨u,v,hu0,hu1,hv0,rfl⟩)⟩))))
   exact Zat (Zac rfl ⟨u,u,hu0,hu1,hu0,rfl⟩)
  rintro Δ3 ⟨u,v,hu0,hu1,hv0,rfl⟩
  refine Zez rfl rfl (Zbg (Zab (Zac rfl (Zab (Za6 (Zab (Zac rfl (Zab (Zit (Zcw (Zb1 rfl) Zci Zsa) (Zaf (Zim (Zaf ?_))))))))))))
  refine ⟨Zjl,_,_,rfl,rfl,?_,py,ts ++ [(u,if n - 1 < v then n - 1 else v)],.val (.int I),.val (.int u),.val (.int v),hpy,by rw [List.length_append,hl]; rfl,fun t h=>?_,?_⟩
  ·rw [List.length_map]; exact small1000 (by omega)
  ·rcases List.mem_append.mp h with h | h
   ·exact ht t h
   ·rw [List.mem_singleton.mp h]
    refine ⟨hu0,hu1,?_,?_⟩
    ·show 0<=(if n - 1 < v then n - 1 else v); split <;> omega
    ·show (if n - 1 < v then n - 1 else v) < n; split <;> omega
  ·rw [List.map_append]; rfl
 rintro Δ1 ⟨ps3,ts,x7,x8,x9,hp3,hl,ht,rfl⟩
 refine Za9 (Zbg (Zab (Zac rfl (Zab (Za6 (Zab (Zd2 rfl (Zaf (Zc0 (Or.inl rfl) (Zaf ⟨Zjl,?_⟩))))))))))
 exact ⟨_,rfl,q n ts _ hp3 ⟨hn0,by omega,by omega,ht⟩ hn1 (by omega)⟩
end
def placeAt (ts:List (Int × Int)) (e:Nat):Int:=match ts[e / 2]? with
 | some t=>if e % 2=0 then t.1 else t.2
 | none=>-1
def encRow (r:List Int):D:=.tup (r.map .int)
def encOrd (o:List (List Int)):D:=.tup (o.map encRow)
def endsBelow (ts:List (Int × Int)) (m:Nat) (p:Int):List Int:=((List.range m).filter fun e=>decide (placeAt ts e=p)).map fun e:Nat=>(e:Int)
structure RowOk (ts:List (Int × Int)) (m:Nat) (p:Int) (r:List Int):Prop where
 perm:r.Perm (endsBelow ts m p)
 first:r.head? = (endsBelow ts m p).head?
structure OrdOk (n:Int) (ts:List (Int × Int)) (o:List (List Int)):Prop where
 len:(o.length:Int)=n
 row:∀ (p:Nat) r,o[p]? = some r->RowOk ts (2 * ts.length) (p:Int) r
theorem Zcr (ts:List (Int × Int)) (k:Nat) (p:Int):endsBelow ts (k + 1) p=endsBelow ts k p ++ (if placeAt ts k=p then [(k:Int)] else []):=by
 unfold endsBelow
 rw [List.range_succ,List.filter_append,List.map_append]
 congr 1
 by_cases h:placeAt ts k=p
 ·simp [List.filter_cons,h]
 ·simp [List.filter_cons,h]
theorem Zfv (ts:List (Int × Int)) (m:Nat) (p:Int):(endsBelow ts m p).length<=m:=by
 unfold endsBelow
 rw [List.length_map]
 exact Nat.le_trans (List.length_filter_le _ _) (by rw [List.length_range]; exact Nat.le_refl _)
theorem RowOk.len {ts:List (Int × Int)} {m:Nat} {p:Int} {r:List Int} (h:RowOk ts m p r):r.length<=m:=by rw [h.perm.length_eq]; exact Zfv ts m p
theorem RowOk.stay {ts:List (Int × Int)} {k:Nat} {p:Int} {r:List Int} (h:RowOk ts k p r) (hp:placeAt ts k ≠ p):RowOk ts (k + 1) p r:=by
 have e:=Zcr ts k p
 rw [if_neg hp,List.append_nil] at e
 exact ⟨by rw [e]; exact h.perm,by rw [e]; exact h.first⟩
theorem RowOk.put {ts:List (Int × Int)} {k j:Nat} {p:Int} {r:List Int} (h:RowOk ts k p r) (hp:placeAt ts k=p) (hj:j<=r.length) (h1:r ≠ []->1<=j):RowOk ts (k + 1) p (r.take j ++ (k:Int) :: r.drop j):=by
 have e:=Zcr ts k p
 rw [if_pos hp] at e
 refine ⟨?_,?_⟩
 ·rw [e]
  refine List.perm_middle.trans ?_
  rw [List.take_append_drop]
  exact (List.Perm.cons _ h.perm).trans (List.perm_append_singleton _ _).symm
 ·rw [e]
  cases r with
  | nil=>
   have z:endsBelow ts k p=[]:=List.Perm.eq_nil h.perm.symm
   rw [z]
   have:j=0:=by simpa using hj
   subst this
   rfl
  | cons x r'=>
   have h2:=h1 (by simp)
   obtain ⟨j',rfl⟩:∃ j',j=j' + 1:=⟨j - 1,by omega⟩
   have h3:=h.first
   show some x=_
   cases q:endsBelow ts k p with
   | nil=>rw [q] at h3; cases h3
   | cons y l=>rw [q] at h3; exact h3
theorem Zns {ts:List (Int × Int)} {k:Nat} (h:k < 2 * ts.length):∃ t,ts[k / 2]? = some t/\atI (ts.map encTie) ((0 + (k:Int)) / 2)=some (encTie t)/\atI [D.int t.1,D.int t.2] ((0 + (k:Int)) % 2)=some (.int (placeAt ts k)):=by
 have hk:k / 2 < ts.length:=by omega
 refine ⟨ts[k / 2],List.getElem?_eq_getElem hk,?_,?_⟩
 ·have e:(0 + (k:Int)) / 2=((k / 2:Nat):Int):=by omega
  rw [e]
  exact Zbi (by rw [List.getElem?_map,List.getElem?_eq_getElem hk]; rfl)
 ·have e2:placeAt ts k=if k % 2=0 then ts[k / 2].1 else ts[k / 2].2:=by
   unfold placeAt; rw [List.getElem?_eq_getElem hk]
  rw [e2]
  have e:(0 + (k:Int)) % 2=((k % 2:Nat):Int):=by omega
  rw [e]
  by_cases h0:k % 2=0
  ·rw [if_pos h0,h0]; exact Zbi rfl
  ·have h1:k % 2=1:=by omega
   rw [if_neg h0,h1]; exact Zbi rfl
theorem Zdx {n:Int} {ts:List (Int × Int)} (hW:WebOk n ts) {k:Nat} (h:k < 2 * ts.length):0<=placeAt ts k/\placeAt ts k < n:=by
 have hk:k / 2 < ts.length:=by omega
 have:=hW.tie _ (List.getElem_mem hk)
 unfold placeAt
 rw [List.getElem?_eq_getElem hk]
 dsimp only
 split <;> omega
def fOrder:BSp:=fun ps ds Post=>Pen ps/\∃ n ts,ds=[encWeb n ts]/\WebOk n ts/\∀ o ps',Pen ps' -> OrdOk n ts o->Post (encOrd o) ps'
theorem Zhh {Δ1:Evt} {i:Nat} {y:L2.Slot} {ps:List D} {n:Int} {ts:List (Int × Int)} {P:D->Evt->Prop} (hx:Δ1[i]? = some y) (ho:y.od=some (.lst ps)) (hp:Pen ps) (hW:WebOk n ts) (h:∀ o ps',Pen ps' -> OrdOk n ts o->P (encOrd o) (Δ1.set i (y.put (.lst ps')))) :
  LendQ fOrder i P [encWeb n ts] Δ1:=⟨y,ps,hx,ho,hp,n,ts,rfl,hW,h⟩
def oSt (ps:List D) (n:Int) (ts:List (Int × Int)) (cs:List (Addr × List Int)) (x3 x4:L2.Slot):Evt:=.bor (.lst ps) :: .val (encWeb n ts) :: .val (.lst (cs.map fun c=>D.adr c.1)) :: x3 :: x4 :: (cs.map (fun c=>L2.Slot.ownA c.1 (.lst (c.2.map D.int))) ++ List.replicate (25 - n.toNat) .any)
def oP (n:Int) (ts:List (Int × Int)) (k:Nat):Evt->Prop:=fun Δ=>∃ (ps:List D) (cs:List (Addr × List Int)) (x3 x4:L2.Slot),Pen ps/\cs.length=n.toNat/\(∀ (p:Nat) c,cs[p]? = some c->RowOk ts k (p:Int) c.2) /\ Δ = oSt ps n ts cs x3 x4
theorem Zkp {n:Int} {ts:List (Int × Int)} {ps:List D} {as:List Addr} (hn2:n<=25) (hal:as.length=(List.map (fun _=>OD.lst []) ((rngD 0 n.toNat).filter fun _=>true)).length):∃ cs:List (Addr × List Int),cs.length=n.toNat/\(∀ (p:Nat) c,cs[p]? = some c->c.2=[]) ∧
  L2.putN 5 (as.zip (List.map (fun _=>OD.lst []) ((rngD 0 n.toNat).filter fun _=>true))) ([.bor (.lst ps),.val (encWeb n ts),.val (.lst (as.map D.adr)),.any,.any] ++ List.replicate 25 .any)=oSt ps n ts cs .any .any:=by
 have eR:(rngD 0 n.toNat).filter (fun _=>true)=rngD 0 n.toNat:=by simp
 rw [eR,List.length_map,Zbb] at hal
 have eO:(rngD 0 n.toNat).map (fun _=>OD.lst [])=List.replicate n.toNat (OD.lst []):=by
  rw [List.map_const',Zbb]
 rw [eR,eO]
 generalize hcs:as.map (fun a=>((a,[]):Addr × List Int))=cs
 have hcl:cs.length=n.toNat:=by rw [<- hcs,List.length_map,hal]
 have e1:as.map D.adr=cs.map fun c=>D.adr c.1:=by rw [<- hcs,List.map_map]; rfl
 have e2:as.zip (List.replicate n.toNat (OD.lst []))=cs.map fun c=>(c.1,OD.lst (c.2.map D.int)):=by
  rw [<- hcs,List.map_map,<- hal]
  clear e1 hcl hcs hal
  induction as with
  | nil=>rfl
  | cons a r ih=>rw [List.length_cons,List.replicate_succ,List.zip_cons_cons,ih]; rfl
 have e3:=Zju (cs.map fun c=>(c.1,OD.lst (c.2.map D.int))) [.bor (.lst ps),.val (encWeb n ts),.val (.lst (cs.map fun c=>D.adr c.1)),.any,.any] [] 25 (by rw [List.length_map]; omega)
 rw [List.append_nil,List.append_nil,List.map_map,List.length_map,hcl] at e3
 refine ⟨cs,hcl,fun p c hc=>?_,by rw [e1,e2]; exact e3⟩
 rw [<- hcs,List.getElem?_map] at hc
 cases q:as[p]? with
 | none=>rw [q] at hc; cases hc
 | some a=>rw [q] at hc; cases hc; rfl
theorem Zr7 {ps:List D} {n:Int} {ts:List (Int × Int)} {cs:List (Addr × List Int)} {x3 x4:L2.Slot} {p:Nat} {c:Addr × List Int} (h:cs[p]? = some c):(oSt ps n ts cs x3 x4)[p + 5]? = some (.ownA c.1 (.lst (c.2.map D.int))):=by
 show (cs.map (fun c=>L2.Slot.ownA c.1 (.lst (c.2.map D.int))) ++ List.replicate (25 - n.toNat) .any)[p]? = _
 rw [List.getElem?_append_left (by rw [List.length_map]; exact (List.getElem?_eq_some_iff.mp h).1),List.getElem?_map,h]; rfl
theorem Zov {ps ps':List D} {n:Int} {ts:List (Int × Int)} {cs:List (Addr × List Int)} {x3 x4:L2.Slot} {p:Nat} {c:Addr × List Int} {r:List Int} {v:L2.Slot} (h:cs[p]? = some c) (hv:v=.ownA c.1 (.lst (r.map D.int))):(oSt ps n ts cs x3 x4).set (p + 5) v=oSt ps n ts (cs.set p (c.1,r)) x3 x4:=by
 have hp:=(List.getElem?_eq_some_iff.mp h).1
 have ea:(cs.set p (c.1,r)).map (fun c=>D.adr c.1)=cs.map fun c=>D.adr c.1:=by
  rw [List.map_set]
  apply List.ext_getElem?
  intro i
  by_cases hii:i=p
  ·subst hii
   rw [List.getElem?_set_self (by rw [List.length_map]; exact hp),List.getElem?_map,h]; rfl
  ·rw [List.getElem?_set_ne (Ne.symm hii)]
 unfold oSt
 rw [ea,List.map_set,hv,<- List.set_append_left _ _ (by rw [List.length_map]; exact hp)]
 rfl
section
variable {P:Program} {w:World} {K:PySem.W.Frag} {mg:Str->Option Value} {base:Heap} {f:Addr} {fd:FuncData}
theorem Zl1 (mb:Mb mg) (C__law_draw:Callee P w K mg base 1 "_law_draw" ["_law_pen_here","_law_many"] (spB K fDraw)) (F:Fun K "_law_order" "_law_order" s_law_order f fd):FnOk P w K mg base CX0 2 f fd ["_law_pen_here","_law_web_here"] (spB K fOrder):=by
 refine F.ok sc_law_order (Zfk fun ps ds Post h=>by obtain ⟨_,n,ts,rfl,_⟩:=h; rfl) (fun cdv A outer s H vs Q E hr h=>?_)
 have hu:=Zca hr
 refine ⟨_,(Zad (Zl2 5 (show ∀ x ∈ (["_law_pen_here","_law_web_here","_law_rows","_law_k","_law_row","!0","!1","!2","!3","!4","!5","!6","!7","!8","!9","!10","!11","!12","!13","!14","!15","!16","!17","!18","!19","!20","!21","!22","!23","!24"]:List Str).drop 5,(defScope s_law_order).names.lookup x=none from by decide +kernel) (Zc4 (i:=2) ["_law_place"] (show CompSc (defScope s_law_order) ["_law_pen_here","_law_web_here","_law_rows","_law_k","_law_row","!0","!1","!2","!3","!4","!5","!6","!7","!8","!9","!10","!11","!12","!13","!14","!15","!16","!17","!18","!19","!20","!21","!22","!23","!24"] _ [] [] from ⟨rfl,by decide +kernel,by decide +kernel,by decide +kernel,rfl,by decide +kernel⟩) rfl sc_law_order.nd rfl (Or.inl rfl) (Zbz rfl (mb "range" (by decide)) (Zaa (Za2 (ixK K hu) (pv 1) Zag (fun _ _=>rfl)) Zae)) (fun _ _ _ _ _=>(Zaz (i:=0) (show List.Nodup (["_law_place"]:List Str) from by decide) rfl (Or.inl rfl))) (fun _ _ _ _ _=>Zcu) (fun _ _ _ _ _=>(Zf9 Zae)))) (Zad (Zd9 PassesOwn.never rfl (Zbz rfl (mb "range" (by decide)) (Zaa (Zaq Zdf Zag (Zal (lenK K) rfl (mb "len" (by decide)) Zbs (Zaa (Za2 (ixK K hu) (pv 1) Zag (fun _ _=>rfl)) Zae))) Zae)) (Zaz (i:=3) sc_law_order.nd rfl (Or.inl rfl)) (Zad (Zao (i:=4) sc_law_order.nd rfl (Or.inl rfl) (Za2 (ixK K hu) (pv 2) (Za2 (ixK K hu) (Za2 (ixK K hu) (Za2 (ixK K hu) (pv 1) Zag (fun _ _=>rfl)) (Zaq Zd8 (pv 3) Zag) (fun _ _=>rfl)) (Zaq Zbd (pv 3) Zag) (fun _ _=>rfl)) (fun _ _=>rfl))) (Zah (Zbu (bmK K PySem.F.plainAttrs_list PySem.F.slot_list_insert PySem.F.type_list_insert Zj6 (pv 4) (Zaa (Zal (Zgj rfl) rfl (mb "min" (by decide)) Zng (Zaa (Zal (lenK K) rfl (mb "len" (by decide)) Zbs (Zaa (pv 4) Zae)) (Zaa (Zaq (addK K) Zag (Zay C__law_draw (hr.mono (by decide)) (Zaa (pv 0) (Zaa (Zal (Zj9 rfl) rfl (mb "max" (by decide)) Zr1 (Zaa Zag (Zaa (Zal (lenK K) rfl (mb "len" (by decide)) Zbs (Zaa (pv 4) Zae)) Zae))) Zae)))) Zae))) (Zaa (pv 3) Zae))))))) (Zah (Zax (Zbk (tupK K) rfl (mb "tuple" (by decide)) Zbh (Zaa (Zdy ["_law_row"] (show CompSc (defScope s_law_order) ["_law_pen_here","_law_web_here","_law_rows","_law_k","_law_row","!0","!1","!2","!3","!4","!5","!6","!7","!8","!9","!10","!11","!12","!13","!14","!15","!16","!17","!18","!19","!20","!21","!22","!23","!24"] _ [] [] from ⟨rfl,by decide +kernel,by decide +kernel,by decide +kernel,rfl,by decide +kernel⟩) rfl (seqK K (pv 2)) (fun _ _ _ _ _=>(Zaz (i:=0) (show List.Nodup (["_law_row"]:List Str) from by decide) rfl (Or.inl rfl))) (fun _ _ _ _ _=>Zcu) (fun _ _ _ _ _=>(Zbk (tupK K) rfl (mb "tuple" (by decide)) Zbh (Zaa (pv 0) Zae)))) Zae)))))),Zmf (fun ps ds Post hf=>?_) h⟩
 obtain ⟨hp,n,ts,rfl,hW,q⟩:=hf
 refine ⟨by simp,?_⟩
 dsimp only [cxOf,startD,List.tail,List.map,List.length]
 have hn:=hW.lo
 have hn2:=hW.hi
 have hts:=hW.len
 -- the rows
 refine Zai (Zp0 (Zlr (by decide) (Zb0 ?_)))
 refine Zab (Zar (Zac rfl (Zaj (Zas (d:=.int n) rfl (Zaf ⟨n,rfl,by omega,by omega,?_⟩)))))
 refine ⟨by rw [Zbb]; exact small1000 (by omega),fun _=>true,fun _=>.lst [],fun i d hd=>?_,by decide,?_,fun as hal hnd=>?_⟩
 ·exact Zce ⟨rfl,Zgc (Zaf ⟨by decide,rfl,_,rfl⟩)⟩
 ·rw [List.length_map]
  have e:((rngD 0 n.toNat).filter fun _=>true).length<=25:=Nat.le_trans (List.length_filter_le _ _) (by rw [Zbb]; omega)
  show 5 + _<=30
  omega
 obtain ⟨cs,hcl,hce,e⟩:=Zkp (ps:=ps) (ts:=ts) hn2 hal
 refine Eq.mpr (congrArg (fun Δ=>JS K _ Δ _) e) ?_
 -- the loop
 refine Zbc (oP n ts (2 * ts.length)) ?_ ?_
 ·refine Zef (Zb0 (Zab (Zit (Zcw Zci (Zpi (Znf (ds:=[.int n,.tup (ts.map encTie)]) rfl rfl)) (pr_I (Or.inl ⟨by decide,by decide⟩))) (Zaf ⟨_,rfl,?_,?_,?_⟩))))
  ·rw [List.length_map]; omega
  ·rw [List.length_map]; omega
  have eL:((2:Int) * ((ts.map encTie).length:Int)).toNat=2 * ts.length:=by rw [List.length_map]; omega
  refine ⟨oP n ts,⟨ps,cs,.any,.any,hp,hcl,fun p c hc=>by rw [hce p c hc]; exact ⟨List.Perm.refl _,rfl⟩,rfl⟩,?_,fun Δ h=>by rw [Zbb,eL] at h; exact h⟩
  ·rintro k d Δ2 hd ⟨ps,cs,x3,x4,hp,hcl,hrow,rfl⟩
   rw [eL] at hd
   obtain ⟨hk,rfl⟩:=Zcj hd
   obtain ⟨t,ht1,ht2,ht3⟩:=Zns hk
   obtain ⟨pl0,pl1⟩:=Zdx hW hk
   obtain ⟨c,hc1,hc2⟩:=Zjm (f:=fun c:Addr × List Int=>D.adr c.1) (xs:=cs) (i:=placeAt ts k) pl0 (by omega)
   have hR:=hrow _ c hc1
   have hRl:=hR.len
   have ep:((placeAt ts k).toNat:Int)=placeAt ts k:=Int.toNat_of_nonneg pl0
   have hsl:∀ (ps:List D) (x3 x4:L2.Slot),(oSt ps n ts cs x3 x4)[(placeAt ts k).toNat + 5]? = some (.ownA c.1 (.lst (c.2.map D.int))):=fun ps x3 x4=>Zr7 hc1
   have hlen:(c.2.map D.int).length=c.2.length:=List.length_map _
   refine Zcq (Zai (Zat (Zit (Zp5 (d:=.adr c.1) (Zb1 rfl) (Zjs (Zjs (Znf (d:=.tup (ts.map encTie)) rfl rfl) (Zcw (Zb1 rfl) Zci (pr_I ⟨by decide,by decide⟩)) ht2) (Zcw (Zb1 rfl) Zci (pr_I (by show (0:Int) < 2; decide))) ht3) hc2) ?_)))
   refine Zon (a:=c.1) rfl (hsl ps _ _) ?_
   refine Za6 (Zab (Zkb rfl (hsl ps _ _) (Zab (Zar (Zaj (Zes rfl rfl (Zab (Za6 (Zab (Zaj (Zab (Zkb rfl (hsl ps _ _) (Zaf (Zim (Zaf ?_)))))))))))))))
   refine Zct rfl rfl hp (by split <;> omega) (by split <;> omega) fun r ps' hp' hr0 hr1=>?_
   refine Zdk (Zaf (Zim (Zac rfl ⟨_,_,_,rfl,hsl ps' _ _,by rw [hlen]; exact small1000 (by omega),by split <;> omega,by split <;> omega,?_⟩)))
   generalize hi:insI (c.2.map D.int).length (if 1 + r < ((c.2.map D.int).length:Int) then 1 + r else ((c.2.map D.int).length:Int))=j
   have hj:j<=c.2.length/\(c.2 ≠ []->1<=j):=by
    rw [<- hi,hlen]
    unfold insI
    refine ⟨?_,fun h=>?_⟩
    ·split <;> split <;> omega
    ·have:=List.length_pos_iff.mpr h
     split <;> split <;> omega
   refine ⟨ps',cs.set (placeAt ts k).toNat (c.1,c.2.take j ++ (k:Int) :: c.2.drop j),.val (.int (0 + (k:Int))),.val (.adr c.1),hp',by rw [List.length_set]; exact hcl,fun p c' hc'=>?_,Zov (ps:=ps') (ps':=ps') hc1 ?_⟩
   ·by_cases hpp:p=(placeAt ts k).toNat
    ·subst hpp
     rw [List.getElem?_set_self (by omega)] at hc'
     cases hc'
     exact hR.put (by omega) hj.1 hj.2
    ·rw [List.getElem?_set_ne (Ne.symm hpp)] at hc'
     exact (hrow p c' hc').stay (by omega)
   ·rw [List.map_append,List.map_take,List.map_cons,List.map_drop,Int.zero_add]
 -- the end
 rintro Δ1 ⟨ps3,cs3,x3,x4,hp3,hcl3,hrow3,rfl⟩
 refine JS.conv (Δ':=.bor (.lst ps3) :: .val (encWeb n ts) :: .val (.lst (cs3.map fun c=>D.lst (c.2.map D.int))) :: x3 :: x4 :: (List.replicate cs3.length .any ++ List.replicate (25 - n.toNat) .any)) (fun g G H σ k=>?_) ?_
 ·have:=Ok.thaw (cs:=cs3.map fun c=>(c.1,c.2.map D.int)) (R:=[.bor (.lst ps3),.val (encWeb n ts),.val (.lst (cs3.map fun c=>D.adr c.1)),x3,x4]) (T:=List.replicate (25 - n.toNat) .any) (i:=2) (g:=g) (G:=G) (H:=H) (σ:=σ) (K:=K) (by rw [List.map_map]; exact k) (by rw [List.map_map]; rfl)
  rw [List.map_map,List.length_map] at this
  exact this
 refine Za9 (Za6 (Zab (Zdq (by decide) (Zno (Zac rfl ⟨_,Or.inl rfl,?_,fun _=>true,fun d=>match d with | .lst ds=>.tup ds | d=>d,fun i d hd=>?_,?_⟩)))))
 ·rw [List.length_map]; exact small1000 (by omega)
 ·rw [List.getElem?_map] at hd
  cases q:cs3[i]? with
  | none=>rw [q] at hd; cases hd
  | some c=>
   rw [q] at hd
   have hd:D.lst (c.2.map D.int)=d:=by simpa using hd
   subst hd
   exact Zce ⟨rfl,Za6 (Zab (Zac rfl (Zaf (Zc0 (Or.inl rfl) ⟨rfl,_,rfl⟩))))⟩
 ·refine Zaf (Zc0 (Or.inl rfl) ⟨ps3,rfl,?_⟩)
  have e:((cs3.map fun c=>D.lst (c.2.map D.int)).filter fun _=>true).map (fun d=>match d with | .lst ds=>D.tup ds | d=>d)=(cs3.map (·.2)).map encRow:=by
   rw [List.filter_eq_self.mpr (by simp),List.map_map,List.map_map]
   rfl
  rw [e]
  exact q _ _ hp3 ⟨by rw [List.length_map]; omega,fun p r hr=>by
   rw [List.getElem?_map] at hr
   cases z:cs3[p]? with
   | none=>rw [z] at hr; cases hr
   | some c=>rw [z] at hr; cases hr; exact hrow3 p c z⟩
end
def nextIn (r:List Int) (x:Int):Int:=r.getD ((r.idxOf x + 1) % r.length) 0
def rowPairs (r:List Int):List (Int × Int):=(List.range r.length).map fun k=>(r.getD ((k + r.length - 1) % r.length) 0,r.getD k 0)
def rowAt (ts:List (Int × Int)) (o:List (List Int)) (e:Nat):List Int:=o.getD (placeAt ts e).toNat []
def partner (e:Nat):Nat:=if e % 2=0 then e + 1 else e - 1
theorem Za3 {e m:Nat} (h:e < 2 * m):partner e < 2 * m:=by unfold partner; split <;> omega
theorem Zfq {ts:List (Int × Int)} {m:Nat} {p x:Int}:x ∈ endsBelow ts m p ↔ ∃ e:Nat,e < m/\placeAt ts e=p/\(e:Int)=x:=by
 unfold endsBelow
 rw [List.mem_map]
 constructor
 ·rintro ⟨e,he,rfl⟩
  rw [List.mem_filter,List.mem_range] at he
  exact ⟨e,he.1,of_decide_eq_true he.2,rfl⟩
 ·rintro ⟨e,h1,h2,rfl⟩
  exact ⟨e,by rw [List.mem_filter,List.mem_range]; exact ⟨h1,decide_eq_true h2⟩,rfl⟩
theorem Zeg (ts:List (Int × Int)) (m:Nat) (p:Int):(endsBelow ts m p).Nodup:=by
 unfold endsBelow
 refine List.Pairwise.map _ (fun a b h=>?_) (List.Pairwise.filter _ List.nodup_range)
 intro e; exact h (by omega)
theorem RowOk.nodup {ts:List (Int × Int)} {m:Nat} {p:Int} {r:List Int} (h:RowOk ts m p r):r.Nodup:=h.perm.nodup_iff.mpr (Zeg ts m p)
theorem RowOk.mem {ts:List (Int × Int)} {m:Nat} {p x:Int} {r:List Int} (h:RowOk ts m p r):x ∈ r ↔ ∃ e:Nat,e < m/\placeAt ts e=p/\(e:Int)=x:=h.perm.mem_iff.trans Zfq
theorem Zba {n:Int} {ts:List (Int × Int)} {o:List (List Int)} (hW:WebOk n ts) (hO:OrdOk n ts o) {e:Nat} (he:e < 2 * ts.length) :
  o[(placeAt ts e).toNat]? = some (rowAt ts o e)/\RowOk ts (2 * ts.length) (placeAt ts e) (rowAt ts o e)/\(e:Int) ∈ rowAt ts o e:=by
 obtain ⟨p0,p1⟩:=Zdx hW he
 have hl:=hO.len
 have hk:(placeAt ts e).toNat < o.length:=by omega
 have q:o[(placeAt ts e).toNat]? = some (rowAt ts o e):=by
  unfold rowAt; rw [List.getElem?_eq_getElem hk,List.getD_eq_getElem?_getD,List.getElem?_eq_getElem hk]; rfl
 have r:=hO.row _ _ q
 rw [show ((placeAt ts e).toNat:Int)=placeAt ts e by omega] at r
 exact ⟨q,r,r.mem.mpr ⟨e,he,rfl,rfl⟩⟩
theorem OrdOk.flat {n:Int} {ts:List (Int × Int)} {o:List (List Int)} (h:OrdOk n ts o):o.flatten.Nodup:=by
 unfold List.Nodup
 rw [List.pairwise_flatten]
 refine ⟨fun r hr=>?_,?_⟩
 ·obtain ⟨p,hp,e⟩:=List.mem_iff_getElem.mp hr
  exact (h.row p r (by rw [List.getElem?_eq_getElem hp,e])).nodup
 ·rw [List.pairwise_iff_getElem]
  intro i j hi hj hij x hx y hy hxy
  subst hxy
  obtain ⟨e,_,e1,e2⟩:=(h.row i _ (List.getElem?_eq_getElem hi)).mem.mp hx
  obtain ⟨f,_,f1,f2⟩:=(h.row j _ (List.getElem?_eq_getElem hj)).mem.mp hy
  have:e=f:=by omega
  subst this
  omega
theorem Zco {r:List Int} {x:Int} (h:x ∈ r):r.idxOf x < r.length/\r[r.idxOf x]? = some x/\∀ m,m < r.idxOf x->r[m]? ≠ some x:=by
 have hl:=List.idxOf_lt_length_of_mem h
 refine ⟨hl,?_,fun m hm e=>?_⟩
 ·rw [List.getElem?_eq_getElem hl,List.getElem_idxOf hl]
 ·obtain ⟨h1,h2⟩:=List.getElem?_eq_some_iff.mp e
  have:=List.not_of_lt_findIdx (p:=(· == x)) (xs:=r) hm
  rw [h2] at this
  simp at this
theorem Zdn (r:List Int):(rowPairs r).length=r.length:=by simp [rowPairs]
theorem Zdp {r:List Int} {k:Nat} (h:k < r.length):(rowPairs r)[k]? = some (r.getD ((k + r.length - 1) % r.length) 0,r.getD k 0):=by
 unfold rowPairs; rw [List.getElem?_map,List.getElem?_range h]; rfl
theorem Zk3 {r:List Int} {x:Int} (h:x ∈ r):(x,nextIn r x) ∈ rowPairs r:=by
 obtain ⟨h1,h2,_⟩:=Zco h
 have hpos:0 < r.length:=by omega
 have hm:(r.idxOf x + 1) % r.length < r.length:=Nat.mod_lt _ hpos
 refine List.mem_of_getElem? (i:=(r.idxOf x + 1) % r.length) ?_
 rw [Zdp hm]
 congr 1
 have e:((r.idxOf x + 1) % r.length + r.length - 1) % r.length=r.idxOf x:=by
  by_cases hl:r.idxOf x + 1=r.length
  ·rw [hl,Nat.mod_self,Nat.zero_add,Nat.mod_eq_of_lt (by omega)]; omega
  ·rw [Nat.mod_eq_of_lt (by omega:r.idxOf x + 1 < r.length),show r.idxOf x + 1 + r.length - 1=r.idxOf x + r.length by omega,Nat.add_mod_right,Nat.mod_eq_of_lt h1]
 rw [e,List.getD_eq_getElem?_getD,h2]
 rfl
theorem Zc6 {r:List Int} {y:Int × Int} (h:y ∈ rowPairs r):y.1 ∈ r:=by
 unfold rowPairs at h
 obtain ⟨k,hk,rfl⟩:=List.mem_map.mp h
 rw [List.mem_range] at hk
 have:(k + r.length - 1) % r.length < r.length:=Nat.mod_lt _ (by omega)
 dsimp only
 rw [List.getD_eq_getElem?_getD,List.getElem?_eq_getElem this]
 exact List.getElem_mem this
theorem Zep {r:List Int} (h:r.Nodup):((rowPairs r).map (·.1)).Nodup:=by
 unfold rowPairs
 rw [List.map_map]
 unfold List.Nodup
 rw [List.pairwise_map,List.pairwise_iff_getElem]
 intro i j hi hj hij
 rw [List.length_range] at hi hj
 rw [List.getElem_range,List.getElem_range]
 have h1:(i + r.length - 1) % r.length < r.length:=Nat.mod_lt _ (by omega)
 have h2:(j + r.length - 1) % r.length < r.length:=Nat.mod_lt _ (by omega)
 show r.getD ((i + r.length - 1) % r.length) 0 ≠ r.getD ((j + r.length - 1) % r.length) 0
 rw [List.getD_eq_getElem?_getD,List.getD_eq_getElem?_getD,List.getElem?_eq_getElem h1,List.getElem?_eq_getElem h2]
 intro e
 have e2:=(List.getElem_inj h).mp (show r[(i + r.length - 1) % r.length]=r[(j + r.length - 1) % r.length] from e)
 have f1:(i + r.length - 1) % r.length=if i=0 then r.length - 1 else i - 1:=by
  split
  ·subst_vars; rw [Nat.zero_add,Nat.mod_eq_of_lt (by omega)]
  ·rw [show i + r.length - 1=(i - 1) + r.length by omega,Nat.add_mod_right,Nat.mod_eq_of_lt (by omega)]
 have f2:(j + r.length - 1) % r.length=j - 1:=by
  rw [show j + r.length - 1=(j - 1) + r.length by omega,Nat.add_mod_right,Nat.mod_eq_of_lt (by omega)]
 rw [f1,f2] at e2
 split at e2 <;> omega
def encPair (y:Int × Int):Key × D:=(.inl y.1,.int y.2)
theorem Zpc {l:List (Int × Int)} {x y:Int} (h:x ∉ l.map (·.1)):putD (l.map encPair) (.inl x) (.int y)=(l ++ [(x,y)]).map encPair:=by
 unfold putD
 rw [if_neg,List.map_append]
 ·rfl
 ·rw [List.any_map,List.any_eq_true]
  rintro ⟨z,hz,e⟩
  have e:(Sum.inl z.1:Key)=Sum.inl x:=of_decide_eq_true e
  injection e with e
  exact h (List.mem_map.mpr ⟨z,hz,e⟩)
theorem Znh {l:List (Int × Int)} (nd:(l.map (·.1)).Nodup) {x y:Int} (h:(x,y) ∈ l):valD (l.map encPair) (.inl x)=some (.int y):=by
 induction l with
 | nil=>cases h
 | cons z r ih=>
  rw [List.map_cons,List.nodup_cons] at nd
  rw [List.map_cons]
  unfold valD
  rcases List.mem_cons.mp h with e | h
  ·subst e
   rw [List.find?_cons_of_pos (by simp [encPair])]; rfl
  ·have hne:z.1 ≠ x:=fun e=>nd.1 (by rw [e]; exact List.mem_map.mpr ⟨_,h,rfl⟩)
   rw [List.find?_cons_of_neg (by simp [encPair]; exact fun e=>hne e)]
   exact ih nd.2 h
theorem Zir {o:List (List Int)} {x:Int} (h:x ∈ (o.flatMap rowPairs).map (·.1)):x ∈ o.flatten:=by
 obtain ⟨y,hy,rfl⟩:=List.mem_map.mp h
 obtain ⟨r,hr,hy⟩:=List.mem_flatMap.mp hy
 exact List.mem_flatten.mpr ⟨r,hr,Zc6 hy⟩
theorem Zcy:∀ {o:List (List Int)},o.flatten.Nodup->((o.flatMap rowPairs).map (·.1)).Nodup
 | [],_=>List.nodup_nil
 | r :: o,h=>by
  rw [List.flatten_cons,List.nodup_append] at h
  rw [List.flatMap_cons,List.map_append,List.nodup_append]
  refine ⟨Zep h.1,Zcy h.2.1,fun a ha b hb=>?_⟩
  obtain ⟨y,hy,rfl⟩:=List.mem_map.mp ha
  exact h.2.2 _ (Zc6 hy) _ (Zir hb)
theorem Zqt (k:Nat):k ||| 1=2 * (k / 2) + 1:=by
 apply Nat.eq_of_testBit_eq
 intro i
 rw [Nat.testBit_or]
 cases i with
 | zero=>rw [Nat.testBit_zero,Nat.testBit_zero,Nat.testBit_zero]; simp
 | succ i=>
  rw [Nat.testBit_succ,Nat.testBit_succ,Nat.testBit_succ,show (2 * (k / 2) + 1) / 2=k / 2 by omega]
  simp
theorem Zjq (k:Nat):Builtin.bitXor (k:Int) 1=(partner k:Int):=by
 have e1:Builtin.bitAnd (k:Int) 1=((k % 2:Nat):Int):=by
  unfold Builtin.bitAnd
  rw [decide_eq_true (show (0:Int)<=(k:Int) by omega),decide_eq_true (show (0:Int)<=1 by decide)]
  show ((((k:Int).toNat &&& (1:Int).toNat:Nat)):Int)=_
  rw [Int.toNat_natCast,show (1:Int).toNat=1 from rfl,Nat.and_one_is_mod]
 have e2:Builtin.bitOr (k:Int) 1=((2 * (k / 2) + 1:Nat):Int):=by
  unfold Builtin.bitOr Builtin.bitAnd
  rw [decide_eq_false (show ¬ (0:Int)<=Builtin.bitNot (k:Int) by unfold Builtin.bitNot; omega),decide_eq_false (show ¬ (0:Int)<=Builtin.bitNot 1 by decide)]
  show Builtin.bitNot (Builtin.bitNot (((Builtin.bitNot (Builtin.bitNot (k:Int))).toNat ||| (Builtin.bitNot (Builtin.bitNot 1)).toNat:Nat):Int))=_
  have n1:∀ x:Int,Builtin.bitNot (Builtin.bitNot x)=x:=fun x=>by unfold Builtin.bitNot; omega
  rw [n1,n1,n1,Int.toNat_natCast,show (1:Int).toNat=1 from rfl,Zqt]
 unfold Builtin.bitXor
 rw [e1,e2]
 unfold partner
 split <;> omega
theorem Zcl {α:Type} [DecidableEq α]:∀ {l m:List α},l.Nodup->(∀ x ∈ l,x ∈ m)->l.length<=m.length
 | [],_,_,_=>Nat.zero_le _
 | x :: l,m,nd,h=>by
  rw [List.nodup_cons] at nd
  have hx:=h x List.mem_cons_self
  have:=Zcl (l:=l) (m:=m.erase x) nd.2 fun y hy=>by
   have hne:y ≠ x:=fun e=>nd.1 (e ▸ hy)
   exact (List.mem_erase_of_ne hne).mpr (h y (List.mem_cons_of_mem _ hy))
  rw [List.length_erase_of_mem hx] at this
  have hpos:0 < m.length:=List.length_pos_of_mem hx
  rw [List.length_cons]
  omega
theorem OrdOk.flat_len {n:Int} {ts:List (Int × Int)} {o:List (List Int)} (h:OrdOk n ts o):o.flatten.length<=2 * ts.length:=by
 have:=Zcl (m:=(List.range (2 * ts.length)).map fun e:Nat=>(e:Int)) h.flat fun x hx=>by
  obtain ⟨r,hr,hx⟩:=List.mem_flatten.mp hx
  obtain ⟨p,hp,e⟩:=List.mem_iff_getElem.mp hr
  obtain ⟨k,hk,_,rfl⟩:=(h.row p r (by rw [List.getElem?_eq_getElem hp,e])).mem.mp hx
  exact List.mem_map.mpr ⟨k,List.mem_range.mpr hk,rfl⟩
 rw [List.length_map,List.length_range] at this
 exact this
theorem Zn7 {n:Int} {ts:List (Int × Int)} {o:List (List Int)} (hW:WebOk n ts) (hO:OrdOk n ts o) {e:Nat} (he:e < 2 * ts.length):valD ((o.flatMap rowPairs).map encPair) (.inl (e:Int))=some (.int (nextIn (rowAt ts o e) e)):=by
 obtain ⟨g1,g2,g3⟩:=Zba hW hO he
 exact Znh (Zcy hO.flat) (List.mem_flatMap.mpr ⟨_,List.mem_of_getElem? g1,Zk3 g3⟩)
theorem Znd {l:List Int} (nd:l.Nodup) {j:Nat} {x:Int} (h:l[j]? = some x):l.idxOf x=j:=by
 obtain ⟨h1,h2⟩:=List.getElem?_eq_some_iff.mp h
 obtain ⟨i1,i2,_⟩:=Zco (r:=l) (x:=x) (by rw [<- h2]; exact List.getElem_mem h1)
 obtain ⟨i3,i4⟩:=List.getElem?_eq_some_iff.mp i2
 exact (List.getElem_inj nd).mp (i4.trans h2.symm)
def nxI (n k:Nat):Nat:=if k + 1=n then 0 else k + 1
def pvI (n k:Nat):Nat:=if k=0 then n - 1 else k - 1
theorem Zo7 {n k:Nat} (h:k < n):(k + 1) % n=nxI n k:=by
 unfold nxI
 split
 ·rename_i e; rw [e,Nat.mod_self]
 ·rw [Nat.mod_eq_of_lt (by omega)]
def prevIn (r:List Int) (x:Int):Int:=r.getD (pvI r.length (r.idxOf x)) 0
theorem Zd3 {r:List Int} (nd:r.Nodup) {k:Nat} {x:Int} (h:r[k]? = some x):nextIn r x=r.getD (nxI r.length k) 0:=by
 unfold nextIn
 rw [Znd nd h,Zo7 (List.getElem?_eq_some_iff.mp h).1]
theorem Zk4 {r:List Int} (nd:r.Nodup) {k:Nat} {x:Int} (h:r[k]? = some x):prevIn r x=r.getD (pvI r.length k) 0:=by
 unfold prevIn
 rw [Znd nd h]
theorem Zjo {r:List Int} {k:Nat} (hk:k < r.length):atI (r.map D.int) ((k:Int) - 1)=some (.int (r.getD (pvI r.length k) 0)):=by
 unfold pvI
 by_cases h0:k=0
 ·subst h0
  rw [if_pos rfl]
  obtain ⟨r',y,rfl⟩:∃ r' y,r=r' ++ [y]:=⟨r.dropLast,r.getLast (by intro z; subst z; simp at hk),(List.dropLast_concat_getLast _).symm⟩
  show atI ((r' ++ [y]).map D.int) (-1)=_
  rw [List.map_append,List.map_singleton,Znc]
  simp
 ·rw [if_neg h0,show (k:Int) - 1=((k - 1:Nat):Int) by omega]
  exact Zbi (by rw [List.getElem?_map,List.getD_eq_getElem?_getD,List.getElem?_eq_getElem (by omega:k - 1 < r.length)]; rfl)
section
variable {P:Program} {w:World} {K:PySem.W.Frag} {mg:Str->Option Value} {base:Heap} {f:Addr} {fd:FuncData}
def fPlace:DSp:=fun ds Post=>∃ n ts,∃ e:Nat,ds=[encWeb n ts,.int e]/\e < 2 * ts.length/\Post (.int (placeAt ts e))
def folOf (ts:List (Int × Int)) (o:List (List Int)) (e:Nat):Int:=nextIn (rowAt ts o e) e
def fFol:DSp:=fun ds Post=>∃ n ts o,∃ e:Nat,ds=[encWeb n ts,encOrd o,.int e]/\WebOk n ts/\OrdOk n ts o/\e < 2 * ts.length/\Post (.int (folOf ts o e))
def fPart:DSp:=fun ds Post=>∃ e:Nat,ds=[.int e]/\Post (.int (partner e))
theorem Zlu (mb:Mb mg) (F:Fun K "place_of" "place_of" s_place_of f fd):FnOk P w K mg base CX0 1 f fd ["web","end"] (spD K fPlace):=by
 refine F.ok sc_place_of (Zbn fun ds Post h=>by obtain ⟨_,_,_,rfl,_⟩:=h; rfl) (fun cdv A outer s H vs Q E hr h=>?_)
 have hu:=Zca hr
 refine ⟨_,(Zah (Zax (Za2 (ixK K hu) (Za2 (ixK K hu) (Za2 (ixK K hu) (pv 0) Zag (fun _ _=>rfl)) (Zaq Zd8 (pv 1) Zag) (fun _ _=>rfl)) (Zaq Zbd (pv 1) Zag) (fun _ _=>rfl)))),Zd1 (fun ds Post hf=>?_) h⟩
 obtain ⟨n,ts,e,rfl,he,q⟩:=hf
 refine ⟨by simp,?_⟩
 dsimp only [startD,List.tail,List.map,List.length]
 obtain ⟨t,h1,h2,h3⟩:=Zns he
 rw [Int.zero_add] at h2 h3
 refine Za9 (Zar (Zar (Zar (Zac rfl (Zaj (Zas (d:=.tup (ts.map encTie)) rfl ?_))))))
 refine Zar (Zac rfl (Zaj (jr_I ⟨by omega,by omega⟩ (Zas h2 ?_))))
 exact Zar (Zac rfl (Zaj (jr_I (by show (0:Int) < 2; omega) (Zas h3 q))))
theorem Zgt (mb:Mb mg) (C_place_of:Callee P w K mg base 1 "place_of" ["web","end"] (spD K fPlace)) (F:Fun K "follower" "follower" s_follower f fd):FnOk P w K mg base CX0 2 f fd ["web","order","end"] (spD K fFol):=by
 refine F.ok sc_follower (Zbn fun ds Post h=>by obtain ⟨_,_,_,_,rfl,_⟩:=h; rfl) (fun cdv A outer s H vs Q E hr h=>?_)
 have hu:=Zca hr
 refine ⟨_,(Zad (Zao (i:=3) sc_follower.nd rfl (Or.inl rfl) (Za2 (ixK K hu) (pv 1) (Zay C_place_of (hr.mono (by decide)) (Zaa (pv 0) (Zaa (pv 2) Zae))) (fun _ _=>rfl))) (Zah (Zax (Za2 (ixK K hu) (pv 3) (Zaq Zbd (Zaq (addK K) (bmK K PySem.F.plainAttrs_tuple PySem.F.slot_tuple_index PySem.F.type_tuple_index (idxK K) (pv 3) (Zaa (pv 2) Zae)) Zag) (Zal (lenK K) rfl (mb "len" (by decide)) Zbs (Zaa (pv 3) Zae))) (fun _ _=>rfl))))),Zd1 (fun ds Post hf=>?_) h⟩
 obtain ⟨n,ts,o,e,rfl,hW,hO,he,q⟩:=hf
 refine ⟨by simp,?_⟩
 dsimp only [startD,List.tail,List.map,List.length]
 obtain ⟨g1,g2,g3⟩:=Zba hW hO he
 obtain ⟨p0,p1⟩:=Zdx hW he
 obtain ⟨i1,i2,i3⟩:=Zco g3
 have hat:atI (o.map encRow) (placeAt ts e)=some (encRow (rowAt ts o e)):=by
  have ep:placeAt ts e=(((placeAt ts e).toNat:Nat):Int):=by omega
  rw [ep]
  exact Zbi (by rw [List.getElem?_map,g1]; rfl)
 refine Zai (Zat (Zar (Zac rfl (Zau (Zab (Zac rfl (Zab (Zac rfl (Zaf ⟨n,ts,e,rfl,he,Zas hat ?_⟩)))))))))
 refine Za9 (Zar (Zac rfl (Zar (Zar (Zfh (Zac rfl ⟨rowAt ts o e,rfl,Zac rfl ⟨e,(rowAt ts o e).idxOf (e:Int),rfl,i2,i3,?_⟩⟩))))))
 refine Zaj (Zdk ?_)
 refine Za6 (Zab (Zac rfl (Zaf (Zbm (Or.inr rfl) ?_))))
 rw [List.length_map]
 refine jr_I (by show (0:Int) < _; omega) ?_
 have e1:(((rowAt ts o e).idxOf (e:Int):Int) + 1) % ((rowAt ts o e).length:Int)=((((rowAt ts o e).idxOf (e:Int) + 1) % (rowAt ts o e).length:Nat):Int):=by push_cast; rfl
 rw [e1]
 have hm:((rowAt ts o e).idxOf (e:Int) + 1) % (rowAt ts o e).length < (rowAt ts o e).length:=Nat.mod_lt _ (by omega)
 refine Zas (d:=.int (folOf ts o e)) (Zbi ?_) q
 rw [List.getElem?_map,List.getElem?_eq_getElem hm]
 unfold folOf nextIn
 rw [List.getD_eq_getElem?_getD,List.getElem?_eq_getElem hm]
 rfl
theorem Zi9 (mb:Mb mg) (F:Fun K "_law_partner" "_law_partner" s_law_partner f fd):FnOk P w K mg base CX0 1 f fd ["_law_end"] (spD K fPart):=by
 refine F.ok sc_law_partner (Zbn fun ds Post h=>by obtain ⟨_,rfl,_⟩:=h; rfl) (fun cdv A outer s H vs Q E hr h=>?_)
 have hu:=Zca hr
 refine ⟨_,(Zah (Zax (Zaq Zde (Zaq (addK K) (pv 0) Zag) (Zaq Zdf Zag (Zaq Zbd (pv 0) Zag))))),Zd1 (fun ds Post hf=>?_) h⟩
 obtain ⟨e,rfl,q⟩:=hf
 refine ⟨by simp,?_⟩
 dsimp only [startD,List.tail,List.map,List.length]
 repeat walk_at "js"
 have e1:(e:Int) + 1 - 2 * ((e:Int) % 2)=(partner e:Int):=by unfold partner; split <;> omega
 rw [e1]
 exact q
end
section
variable {P:Program} {w:World} {K:PySem.W.Frag} {mg:Str->Option Value} {base:Heap} {f:Addr} {fd:FuncData}
def fFore:DSp:=fun ds Post=>∃ n ts o,∃ e:Nat,ds=[encWeb n ts,encOrd o,.int e]/\WebOk n ts/\OrdOk n ts o/\e < 2 * ts.length/\Post (.int (prevIn (rowAt ts o e) e))
theorem Zfs (mb:Mb mg) (C_place_of:Callee P w K mg base 1 "place_of" ["web","end"] (spD K fPlace)) (F:Fun K "forerunner" "forerunner" s_forerunner f fd):FnOk P w K mg base CX0 2 f fd ["web","order","end"] (spD K fFore):=by
 refine F.ok sc_forerunner (Zbn fun ds Post h=>by obtain ⟨_,_,_,_,rfl,_⟩:=h; rfl) (fun cdv A outer s H vs Q E hr h=>?_)
 have hu:=Zca hr
 refine ⟨_,(Zad (Zao (i:=3) sc_forerunner.nd rfl (Or.inl rfl) (Za2 (ixK K hu) (pv 1) (Zay C_place_of (hr.mono (by decide)) (Zaa (pv 0) (Zaa (pv 2) Zae))) (fun _ _=>rfl))) (Zah (Zax (Za2 (ixK K hu) (pv 3) (Zaq Zde (bmK K PySem.F.plainAttrs_tuple PySem.F.slot_tuple_index PySem.F.type_tuple_index (idxK K) (pv 3) (Zaa (pv 2) Zae)) Zag) (fun _ _=>rfl))))),Zd1 (fun ds Post hf=>?_) h⟩
 obtain ⟨n,ts,o,e,rfl,hW,hO,he,q⟩:=hf
 refine ⟨by simp,?_⟩
 dsimp only [startD,List.tail,List.map,List.length]
 obtain ⟨g1,g2,g3⟩:=Zba hW hO he
 obtain ⟨p0,p1⟩:=Zdx hW he
 obtain ⟨i1,i2,i3⟩:=Zco g3
 have hat:atI (o.map encRow) (placeAt ts e)=some (encRow (rowAt ts o e)):=by
  have ep:placeAt ts e=(((placeAt ts e).toNat:Nat):Int):=by omega
  rw [ep]
  exact Zbi (by rw [List.getElem?_map,g1]; rfl)
 refine Zai (Zat (Zar (Zac rfl (Zau (Zab (Zac rfl (Zab (Zac rfl (Zaf ⟨n,ts,e,rfl,he,Zas hat ?_⟩)))))))))
 refine Za9 (Zar (Zac rfl (Zar (Zfh (Zac rfl ⟨rowAt ts o e,rfl,Zac rfl ⟨e,(rowAt ts o e).idxOf (e:Int),rfl,i2,i3,?_⟩⟩)))))
 exact Zaj (Zd6 (Zas (Zjo i1) q))
end
def iter (f:Int->Int) (e:Int):Nat->Int
 | 0=>e
 | n + 1=>f (iter f e n)
def walkL (f:Int->Int) (e:Int) (n:Nat):List Int:=(List.range n).map (iter f e)
structure OneOne (f:Int->Int) (m:Nat):Prop where
 to:∀ x,0<=x->x < (m:Int)->0<=f x/\f x < (m:Int)
 inj:∀ x y,0<=x->x < (m:Int)->0<=y->y < (m:Int)->f x=f y->x=y
def NdTo (f:Int->Int) (e:Int) (n:Nat):Prop:=∀ i j,i < n->j < n->iter f e i=iter f e j->i=j
structure IsOrb (f:Int->Int) (e:Int) (n:Nat):Prop where
 pos:0 < n
 back:iter f e n=e
 nd:NdTo f e n
theorem Zfg (f:Int->Int) (e:Int) (j n:Nat):iter f (iter f e j) n=iter f e (j + n):=by
 induction n with
 | zero=>rfl
 | succ n ih=>show f (iter f (iter f e j) n)=f (iter f e (j + n)); rw [ih]
theorem Zcc (f:Int->Int) (e:Int) (n:Nat):(walkL f e n).length=n:=by unfold walkL; rw [List.length_map,List.length_range]
theorem Zgn (f:Int->Int) (e:Int) (a b:Nat):walkL f e (a + b)=walkL f e a ++ walkL f (iter f e a) b:=by
 unfold walkL
 rw [List.range_add,List.map_append,List.map_map]
 congr 1
 apply List.map_congr_left
 intro i _
 exact (Zfg f e a i).symm
theorem Zdi (f:Int->Int) (e:Int) (n:Nat):walkL f e (n + 1)=walkL f e n ++ [iter f e n]:=by rw [Zgn]; rfl
theorem Zav {f:Int->Int} {e x:Int} {n:Nat}:x ∈ walkL f e n ↔ ∃ i,i < n/\iter f e i=x:=by
 unfold walkL
 rw [List.mem_map]
 constructor
 ·rintro ⟨i,h,rfl⟩; exact ⟨i,List.mem_range.mp h,rfl⟩
 ·rintro ⟨i,h,rfl⟩; exact ⟨i,List.mem_range.mpr h,rfl⟩
theorem IsOrb.uniq {f:Int->Int} {e:Int} {n k:Nat} (h:IsOrb f e n) (h':IsOrb f e k):n=k:=by
 rcases Nat.lt_trichotomy n k with z | z | z
 ·have:=h'.nd n 0 z h'.pos (by rw [h.back]; rfl)
  have:=h.pos; omega
 ·exact z
 ·have:=h.nd k 0 z h.pos (by rw [h'.back]; rfl)
  have:=h'.pos; omega
noncomputable def per (f:Int->Int) (e:Int):Nat:=Classical.epsilon (IsOrb f e)
noncomputable def orb (f:Int->Int) (e:Int):List Int:=walkL f e (per f e)
theorem IsOrb.per {f:Int->Int} {e:Int} {n:Nat} (h:IsOrb f e n):Lw.per f e=n:=(Classical.epsilon_spec (p:=IsOrb f e) ⟨n,h⟩).uniq h
theorem IsOrb.orb {f:Int->Int} {e:Int} {n:Nat} (h:IsOrb f e n):Lw.orb f e=walkL f e n:=by unfold Lw.orb; rw [h.per]
section
variable {f:Int->Int} {m:Nat} (F:OneOne f m) {e:Int} (h0:0<=e) (h1:e < (m:Int))
include F h0 h1
theorem Zbe (n:Nat):0<=iter f e n/\iter f e n < (m:Int):=by
 induction n with
 | zero=>exact ⟨h0,h1⟩
 | succ n ih=>exact F.to _ ih.1 ih.2
theorem Ze7 {n:Nat} (hn:1<=n) (nd:NdTo f e n) (hne:iter f e n ≠ e):NdTo f e (n + 1):=by
 have key:∀ j,j < n->iter f e n ≠ iter f e j:=by
  intro j hj q
  cases j with
  | zero=>exact hne q
  | succ j=>
   obtain ⟨k,rfl⟩:∃ k,n=k + 1:=⟨n - 1,by omega⟩
   have a:=Zbe F h0 h1 k
   have b:=Zbe F h0 h1 j
   have:=nd k j (by omega) (by omega) (F.inj _ _ a.1 a.2 b.1 b.2 q)
   omega
 intro i j hi hj q
 by_cases hin:i=n
 ·by_cases hjn:j=n
  ·omega
  ·subst hin; exact absurd q (key j (by omega))
 ·by_cases hjn:j=n
  ·subst hjn; exact absurd q.symm (key i (by omega))
  ·exact nd i j (by omega) (by omega) q
theorem Zhb {n:Nat} (nd:NdTo f e n):n<=m:=by
 have hn:(walkL f e n).Nodup:=by
  unfold walkL List.Nodup
  rw [List.pairwise_map,List.pairwise_iff_getElem]
  intro i j hi hj hij
  rw [List.length_range] at hi hj
  rw [List.getElem_range,List.getElem_range]
  intro q
  have:=nd i j hi hj q
  omega
 have:=Zcl (m:=(List.range m).map fun e:Nat=>(e:Int)) hn fun x hx=>by
  obtain ⟨i,hi,rfl⟩:=Zav.mp hx
  have:=Zbe F h0 h1 i
  exact List.mem_map.mpr ⟨(iter f e i).toNat,List.mem_range.mpr (by omega),by omega⟩
 rw [Zcc,List.length_map,List.length_range] at this
 exact this
theorem Zj8:NdTo f e 1:=fun i j hi hj _=>by omega
theorem Zqg:∃ n,IsOrb f e n:=by
 apply Classical.byContradiction
 intro hn
 have all:∀ n,NdTo f e (n + 1):=by
  intro n
  induction n with
  | zero=>exact Zj8 F h0 h1
  | succ n ih=>
   refine Ze7 F h0 h1 (by omega) ih fun q=>hn ⟨n + 1,by omega,q,ih⟩
 have:=Zhb F h0 h1 (all m)
 omega
theorem Zex:IsOrb f e (per f e):=by
 obtain ⟨n,h⟩:=Zqg F h0 h1
 rw [h.per]; exact h
theorem Zhy:e ∈ orb f e:=Zav.mpr ⟨0,(Zex F h0 h1).pos,rfl⟩
theorem Zkn:(orb f e).length<=m:=by
 unfold orb; rw [Zcc]; exact Zhb F h0 h1 (Zex F h0 h1).nd
theorem Zc2 (k:Nat):iter f e k ∈ orb f e:=by
 have O:=Zex F h0 h1
 induction k with
 | zero=>exact Zhy F h0 h1
 | succ k ih=>
  obtain ⟨i,hi,q⟩:=Zav.mp ih
  show f (iter f e k) ∈ _
  rw [<- q]
  by_cases hl:i + 1=per f e
  ·have:f (iter f e i)=e:=by
    have:=O.back; rw [<- hl] at this; exact this
   rw [this]; exact Zhy F h0 h1
  ·exact Zav.mpr ⟨i + 1,by omega,rfl⟩
theorem Zf3 {x:Int} (hx:x ∈ orb f e):0<=x/\x < (m:Int):=by
 obtain ⟨i,_,rfl⟩:=Zav.mp hx
 exact Zbe F h0 h1 i
theorem Zlt {x:Int} (hx:x ∈ orb f e):e ∈ orb f x:=by
 have O:=Zex F h0 h1
 obtain ⟨j,hj,rfl⟩:=Zav.mp hx
 have a:=Zbe F h0 h1 j
 have:=Zc2 F a.1 a.2 (per f e - j)
 rw [Zfg,show j + (per f e - j)=per f e by omega,O.back] at this
 exact this
theorem Zmm:∃ l,orb f e=e :: l:=by
 have O:=Zex F h0 h1
 unfold orb
 obtain ⟨n,hn⟩:∃ n,per f e=1 + n:=⟨per f e - 1,by have:=O.pos; omega⟩
 rw [hn,Zgn]
 exact ⟨_,rfl⟩
end
section
variable {f:Int->Int} {m:Nat} (F:OneOne f m)
include F
end
theorem Zl8 {r:List Int} {x:Int} (h:x ∈ r):nextIn r x ∈ r:=by
 obtain ⟨h1,_,_⟩:=Zco h
 have hm:(r.idxOf x + 1) % r.length < r.length:=Nat.mod_lt _ (by omega)
 unfold nextIn
 rw [List.getD_eq_getElem?_getD,List.getElem?_eq_getElem hm]
 exact List.getElem_mem hm
theorem Zl3 {r:List Int} (nd:r.Nodup) {x y:Int} (hx:x ∈ r) (hy:y ∈ r) (h:nextIn r x=nextIn r y):x=y:=by
 obtain ⟨i,hi⟩:=List.mem_iff_getElem?.mp hx
 obtain ⟨j,hj⟩:=List.mem_iff_getElem?.mp hy
 obtain ⟨i1,i2⟩:=List.getElem?_eq_some_iff.mp hi
 obtain ⟨j1,j2⟩:=List.getElem?_eq_some_iff.mp hj
 rw [Zd3 nd hi,Zd3 nd hj,List.getD_eq_getElem?_getD,List.getD_eq_getElem?_getD] at h
 have a:nxI r.length i < r.length:=by unfold nxI; split <;> omega
 have b:nxI r.length j < r.length:=by unfold nxI; split <;> omega
 rw [List.getElem?_eq_getElem a,List.getElem?_eq_getElem b] at h
 have e:=(List.getElem_inj nd).mp (show r[nxI r.length i]=r[nxI r.length j] from h)
 have:i=j:=by unfold nxI at e; split at e <;> split at e <;> omega
 subst this
 rw [hi] at hj
 exact Option.some.inj hj
theorem Zap (e:Nat):partner (partner e)=e:=by unfold partner; split <;> split <;> omega
def onI (ts:List (Int × Int)) (o:List (List Int)) (x:Int):Int:=folOf ts o (partner x.toNat)
theorem Zfp {n:Int} {ts:List (Int × Int)} {o:List (List Int)} (hW:WebOk n ts) (hO:OrdOk n ts o) {e:Nat} (he:e < 2 * ts.length):∃ g:Nat,g < 2 * ts.length/\placeAt ts g=placeAt ts e/\(g:Int)=folOf ts o e:=by
 obtain ⟨g1,g2,g3⟩:=Zba hW hO he
 exact g2.mem.mp (Zl8 g3)
theorem Zq2 {n:Int} {ts:List (Int × Int)} {o:List (List Int)} (hW:WebOk n ts) (hO:OrdOk n ts o):OneOne (onI ts o) (2 * ts.length):=by
 refine ⟨fun x h0 h1=>?_,fun x y h0 h1 h2 h3 q=>?_⟩
 ·obtain ⟨g,hg,_,e⟩:=Zfp hW hO (Za3 (show x.toNat < 2 * ts.length by omega))
  unfold onI
  rw [<- e]
  omega
 ·have hx:=Za3 (show x.toNat < 2 * ts.length by omega)
  have hy:=Za3 (show y.toNat < 2 * ts.length by omega)
  obtain ⟨g,hg,pg,eg⟩:=Zfp hW hO hx
  obtain ⟨k,hk,pk,ek⟩:=Zfp hW hO hy
  unfold onI at q
  have egk:g=k:=by omega
  subst egk
  have hp:placeAt ts (partner x.toNat)=placeAt ts (partner y.toNat):=pg.symm.trans pk
  obtain ⟨_,r2,r3⟩:=Zba hW hO hx
  obtain ⟨_,_,r6⟩:=Zba hW hO hy
  have er:rowAt ts o (partner y.toNat)=rowAt ts o (partner x.toNat):=by unfold rowAt; rw [hp]
  unfold folOf at q
  rw [er] at q r6
  have:=Zl3 r2.nodup r3 r6 q
  have e1:partner x.toNat=partner y.toNat:=by omega
  have e2:=congrArg partner e1
  rw [Zap,Zap] at e2
  omega
def lone (o:List (List Int)):Nat:=(o.filter fun r=>r.isEmpty).length
theorem Zhc (o:List (List Int)):lone o<=o.length:=List.length_filter_le _ _
theorem Zkd (o:List (List Int)) (p:D->Bool) (hp:∀ r:List Int,p (rowD r)=r.isEmpty) (g:D->D) (hg:∀ d,g d=.tup []):((o.map rowD).filter p).map g=(List.replicate (lone o) ([]:List Int)).map rowD:=by
 unfold lone
 induction o with
 | nil=>rfl
 | cons r o ih=>
  rw [List.map_cons,List.filter_cons,List.filter_cons,hp]
  cases h:r.isEmpty with
  | true=>simp only [if_true]; rw [List.map_cons,List.length_cons,List.replicate_succ,List.map_cons,ih,hg]; rfl
  | false=>simp only [Bool.false_eq_true,if_false]; exact ih
theorem OrdOk.flat_eq {n:Int} {ts:List (Int × Int)} {o:List (List Int)} (hW:WebOk n ts) (h:OrdOk n ts o):o.flatten.length=2 * ts.length:=by
 have h1:=h.flat_len
 have h2:=Zcl (l:=(List.range (2 * ts.length)).map fun e:Nat=>(e:Int)) (m:=o.flatten) ?_ fun x hx=>by
  obtain ⟨e,he,rfl⟩:=List.mem_map.mp hx
  rw [List.mem_range] at he
  obtain ⟨g1,g2,g3⟩:=Zba hW h he
  exact List.mem_flatten.mpr ⟨_,List.mem_of_getElem? g1,g3⟩
 ·rw [List.length_map,List.length_range] at h2; omega
 ·refine List.Pairwise.map _ (fun a b q=>?_) List.nodup_range
  intro e; exact q (by omega)
def Lv:Nat->D->Prop
 | 0,_=>False
 | _ + 1,.int _=>True
 | m + 1,.lst ds=>ds.length<=1000/\∀ d ∈ ds,Lv m d
 | m + 1,.tup ds=>ds.length<=1000/\∀ d ∈ ds,Lv m d
 | _,_=>False
def fSame (m:Nat):DSp:=fun ds Post=>∃ d,ds=[d,d]/\Lv m d/\Post (.bl true)
def isIntD:D->Option Bool
 | .int _=>some true
 | .lst _=>some false
 | .tup _=>some false
 | _=>none
def fWholeB:DSp:=fun ds Post=>∃ d b,ds=[d]/\isIntD d=some b/\Post (.bl b)
section
variable {P:Program} {w:World} {K:PySem.W.Frag} {mg:Str->Option Value} {base:Heap} {f:Addr} {fd:FuncData}
theorem Zcs:2<=sizeLine:=by decide
theorem Zhn (ds:List D):(((ds.zip ds).map fun p=>D.tup [p.1,p.2]).filter fun _=>true).map (fun _=>D.bl true)=(List.replicate ds.length true).map D.bl:=by
 rw [List.filter_eq_self.mpr (by simp),List.map_const',List.map_replicate,List.length_map,List.length_zip,Nat.min_self]
theorem Zh3 (n:Nat):(List.replicate n true).all id=true:=by
 rw [List.all_eq_true]; intro x hx; rw [(List.mem_replicate.mp hx).2]; rfl
theorem Zf5 {ds:List D} {i:Nat} {d:D} (hd':((ds.zip ds).map fun p=>D.tup [p.1,p.2])[i]? = some d):∃ e,e ∈ ds/\d=.tup [e,e]:=by
 rw [List.getElem?_map] at hd'
 cases z:(ds.zip ds)[i]? with
 | none=>rw [z] at hd'; cases hd'
 | some pr=>
  rw [z] at hd'
  have hd':D.tup [pr.1,pr.2]=d:=by simpa using hd'
  rw [List.getElem?_zip_eq_some] at z
  have e:pr.1=pr.2:=Option.some.inj (z.1.symm.trans z.2)
  exact ⟨pr.1,List.mem_of_getElem? z.1,by rw [<- hd',<- e]⟩
theorem Zkv (mb:Mb mg) (F:Fun K "_law_whole" "_law_whole" s_law_whole f fd):FnOk P w K mg base CX0 1 f fd ["_law_found"] (spD K fWholeB):=by
 refine F.ok sc_law_whole (Zbn fun ds Post h=>by obtain ⟨_,_,rfl,_⟩:=h; rfl) (fun cdv A outer s H vs Q E hr h=>?_)
 have hu:=Zca hr
 refine ⟨_,(Zah (Zax (Zih (Zal (isiUK K) rfl (mb "isinstance" (by decide)) Za5 (Zaa (pv 0) (Zaa (Zdj rfl (mb "int" (by decide)) Zqk (show RelV (.ty "int") _ from rfl)) Zae))) (Zh8 (Zqv (Zal (isiUK K) rfl (mb "isinstance" (by decide)) Za5 (Zaa (pv 0) (Zaa (Zdj rfl (mb "bool" (by decide)) Zo3 (show RelV (.ty "bool") _ from rfl)) Zae)))))))),Zd1 (fun ds Post hf=>?_) h⟩
 obtain ⟨d,b,rfl,hb,q⟩:=hf
 refine ⟨by simp,?_⟩
 dsimp only [startD,List.tail,List.map,List.length]
 cases d with
 | int i=>
  cases hb
  refine Za9 (Zcf (Za6 (Zab (Zac rfl (Zab (Zel (Zaf (Zbv (T:="int") (b:=true) rfl (fun _=>by rfl) ⟨_,rfl,?_⟩))))))))
  rw [if_pos rfl]
  refine Zj2 (Za6 (Zab (Zac rfl (Zab (Zel (Zaf (Zbv (T:="int") (b:=false) rfl (fun _=>by rfl) ⟨_,rfl,?_⟩)))))))
  exact q
 | lst l=>
  cases hb
  exact Za9 (Zcf (Za6 (Zab (Zac rfl (Zab (Zel (Zaf (Zbv (T:="list") (b:=false) rfl (fun _=>by rfl) ⟨_,rfl,iteF q⟩))))))))
 | tup l=>
  cases hb
  exact Za9 (Zcf (Za6 (Zab (Zac rfl (Zab (Zel (Zaf (Zbv (T:="tuple") (b:=false) rfl (fun _=>by rfl) ⟨_,rfl,iteF q⟩))))))))
 | _=>cases hb
theorem Zl5 {m:Nat} (mb:Mb mg) (C__law_whole:Callee P w K mg base 1 "_law_whole" ["_law_found"] (spD K fWholeB)) (C__law_same:Callee P w K mg base (m + 1) "_law_same" ["_law_found","_law_due"] (spD K (fSame m))) (F:Fun K "_law_same" "_law_same" s_law_same f fd):FnOk P w K mg base CX0 (m + 2) f fd ["_law_found","_law_due"] (spD K (fSame (m + 1))):=by
 refine F.ok sc_law_same (Zbn fun ds Post h=>by obtain ⟨_,rfl,_⟩:=h; rfl) (fun cdv A outer s H vs Q E hr h=>?_)
 have hu:=Zca hr
 refine ⟨_,(Zad (Zcb (truK K (Zay C__law_whole (hr.mono (by first|decide|omega)) (Zaa (pv 1) Zae)) (fun _=>rfl)) (Zah (Zax (Zih (Zay C__law_whole (hr.mono (by first|decide|omega)) (Zaa (pv 0) Zae)) (Zh8 (Zke Zb8 (pv 0) (pv 1) (nomark _)))))) Za4) (Zad (Zcb (PW.pt (pw_and (truK K (Zal (isiUK K) rfl (mb "isinstance" (by decide)) Za5 (Zaa (pv 1) (Zaa (Zdj rfl (mb "list" (by decide)) Zki (show RelV (.ty "list") _ from rfl)) Zae))) (fun _=>rfl)) (pw_and1 (Ze6 (truK K (Zal (isiUK K) rfl (mb "isinstance" (by decide)) Za5 (Zaa (pv 0) (Zaa (Zdj rfl (mb "list" (by decide)) Zki (show RelV (.ty "list") _ from rfl)) Zae))) (fun _=>rfl)))))) (Zah (Zax Zin)) Za4) (Zad (Zcb (PW.pt (pw_and (truK K (Zal (isiUK K) rfl (mb "isinstance" (by decide)) Za5 (Zaa (pv 1) (Zaa (Zdj rfl (mb "tuple" (by decide)) Zbh (show RelV (.ty "tuple") _ from rfl)) Zae))) (fun _=>rfl)) (pw_and1 (Ze6 (truK K (Zal (isiUK K) rfl (mb "isinstance" (by decide)) Za5 (Zaa (pv 0) (Zaa (Zdj rfl (mb "tuple" (by decide)) Zbh (show RelV (.ty "tuple") _ from rfl)) Zae))) (fun _=>rfl)))))) (Zah (Zax Zin)) Za4) (Zah (Zax (Zih (Zke Zb8 (Zal (lenK K) rfl (mb "len" (by decide)) Zbs (Zaa (pv 0) Zae)) (Zal (lenK K) rfl (mb "len" (by decide)) Zbs (Zaa (pv 1) Zae)) (nomark _)) (Zh8 (Zal (allK K rfl) rfl (mb "all" (by decide)) Zqz (Zaa (Zdy ["_law_one","_law_other"] (show CompSc (defScope s_law_same) ["_law_found","_law_due"] _ [] [] from ⟨rfl,by decide +kernel,by decide +kernel,by decide +kernel,rfl,by decide +kernel⟩) rfl (Zq1 K rfl (mb "zip" (by decide)) (Zaa (pv 0) (Zaa (pv 1) Zae))) (fun _ _ _ _ _=>(gtupK (n:=2) K rfl (Zdv (Zaz (i:=0) (show List.Nodup (["_law_one","_law_other"]:List Str) from by decide) rfl (Or.inl rfl)) (Zdv (Zaz (i:=1) (show List.Nodup (["_law_one","_law_other"]:List Str) from by decide) rfl (Or.inl rfl)) Zkm)))) (fun _ _ _ _ _=>Zcu) (fun _ _ _ _ _=>(Zay C__law_same (hr.mono (by first|decide|omega)) (Zaa (pv 0) (Zaa (pv 1) Zae))))) Zae))))))))),Zd1 (fun ds Post hf=>?_) h⟩
 obtain ⟨d,rfl,hd,q⟩:=hf
 refine ⟨by simp,?_⟩
 dsimp only [startD,List.tail,List.map,List.length]
 cases d with
 | int i=>
  refine Zai (Zbx (Zbt (Zau (Zab (Zac rfl (Zaf ⟨_,true,rfl,rfl,_,rfl,?_⟩))))))
  refine iteT (Za9 (Zcf (Zau (Zab (Zac rfl (Zaf ⟨_,true,rfl,rfl,_,rfl,?_⟩))))))
  refine iteT (Zar (Zac rfl (Zac rfl (Zer ?_))))
  rw [decide_eq_true rfl]
  exact q
 | lst ds=>
  obtain ⟨hl,hd⟩:=hd
  refine Zai (Zbx (Zbt (Zau (Zab (Zac rfl (Zaf ⟨_,false,rfl,rfl,_,rfl,iteF (Zaw ?_)⟩))))))
  refine Zai (Zbx (Ze0 (Zbt (Za6 (Zab (Zac rfl (Zab (Zel (Zaf (Zbv (T:="list") (b:=true) rfl (fun _=>by rfl) ⟨_,rfl,iteT ?_⟩))))))))))
  refine Zej (Zbt (Za6 (Zab (Zac rfl (Zab (Zel (Zaf (Zbv (T:="list") (b:=true) rfl (fun _=>by rfl) ⟨_,rfl,iteF (Zaw ?_)⟩))))))))
  refine Zai (Zbx (Ze0 (Zbt (Za6 (Zab (Zac rfl (Zab (Zel (Zaf (Zbv (T:="list") (b:=false) rfl (fun _=>by rfl) ⟨_,rfl,iteF (iteF (Zaw ?_))⟩))))))))))
  refine Za9 (Zcf (Zar (Za6 (Zab (Zac rfl (Zaf (Zbm (Or.inl rfl) (Za6 (Zab (Zac rfl (Zaf (Zbm (Or.inl rfl) (Zer ⟨_,rfl,?_⟩)))))))))))))
  rw [decide_eq_true rfl]
  refine iteT (Za6 (Zab (Zhq (by decide) (Zqa (Zab (Zac rfl (Zab (Zac rfl (Zaf ⟨ds,ds,rfl,rfl,?_,fun _=>true,fun _=>.bl true,fun i d hd'=>?_,?_⟩)))))))))
  ·rw [List.length_map,List.length_zip]; exact small1000 (by omega)
  ·obtain ⟨e,he,rfl⟩:=Zf5 hd'
   exact ⟨_,_,rfl,Zce ⟨rfl,Zau (Zab (Zac rfl (Zab (Zac rfl (Zaf ⟨e,rfl,hd _ he,rfl,_,_,rfl⟩)))))⟩⟩
  ·refine Zaf ?_
   rw [Zhn]
   refine Znk ?_
   rw [Zh3]
   exact q
 | tup ds=>
  obtain ⟨hl,hd⟩:=hd
  refine Zai (Zbx (Zbt (Zau (Zab (Zac rfl (Zaf ⟨_,false,rfl,rfl,_,rfl,iteF (Zaw ?_)⟩))))))
  refine Zai (Zbx (Ze0 (Zbt (Za6 (Zab (Zac rfl (Zab (Zel (Zaf (Zbv (T:="tuple") (b:=false) rfl (fun _=>by rfl) ⟨_,rfl,iteF (iteF (Zaw ?_))⟩))))))))))
  refine Zai (Zbx (Ze0 (Zbt (Za6 (Zab (Zac rfl (Zab (Zel (Zaf (Zbv (T:="tuple") (b:=true) rfl (fun _=>by rfl) ⟨_,rfl,iteT ?_⟩))))))))))
  refine Zej (Zbt (Za6 (Zab (Zac rfl (Zab (Zel (Zaf (Zbv (T:="tuple") (b:=true) rfl (fun _=>by rfl) ⟨_,rfl,iteF (Zaw ?_)⟩))))))))
  refine Za9 (Zcf (Zar (Za6 (Zab (Zac rfl (Zaf (Zbm (Or.inr rfl) (Za6 (Zab (Zac rfl (Zaf (Zbm (Or.inr rfl) (Zer ⟨_,rfl,?_⟩)))))))))))))
  rw [decide_eq_true rfl]
  refine iteT (Za6 (Zab (Zhq (by decide) (Znx (Zab (Zac rfl (Zab (Zac rfl (Zaf ⟨ds,ds,rfl,rfl,?_,fun _=>true,fun _=>.bl true,fun i d hd'=>?_,?_⟩)))))))))
  ·rw [List.length_map,List.length_zip]; exact small1000 (by omega)
  ·obtain ⟨e,he,rfl⟩:=Zf5 hd'
   exact ⟨_,_,rfl,Zce ⟨rfl,Zau (Zab (Zac rfl (Zab (Zac rfl (Zaf ⟨e,rfl,hd _ he,rfl,_,_,rfl⟩)))))⟩⟩
  ·refine Zaf ?_
   rw [Zhn]
   refine Znk ?_
   rw [Zh3]
   exact q
 | _=>exact hd.elim
theorem Zkj (mb:Mb mg) (C__law_whole:Callee P w K mg base 1 "_law_whole" ["_law_found"] (spD K fWholeB)) (F:Fun K "_law_same" "_law_same" s_law_same f fd) (b:Binds K fd ["_law_found","_law_due"] []) (kp:PySem.W.keepIn K (.ref f)=true) (hm:mg "_law_same" = some (.ref f)):∀ m:Nat,FnOk P w K mg base CX0 (m + 1) f fd ["_law_found","_law_due"] (spD K (fSame m))
 | 0=>by
  have no:∀ vs H Q E,¬ spD K (fSame 0) vs H Q E:=fun vs H Q E ⟨_,_,_,_,_,⟨_,_,hd,_⟩,_⟩=>hd
  exact ⟨fun vs H Q E h=>absurd h (no vs H Q E),fun A outer s H args us vs Q E _ _ _ _ h=>absurd h (no vs H Q E)⟩
 | m + 1=>Zl5 mb C__law_whole ⟨⟨f,fd,Zkj mb C__law_whole F b kp hm m,b,kp,hm⟩⟩ F
theorem Zmy (mb:Mb mg) (C__law_whole:Callee P w K mg base 1 "_law_whole" ["_law_found"] (spD K fWholeB)) (F:Fun K "_law_same" "_law_same" s_law_same f fd) (b:Binds K fd ["_law_found","_law_due"] []) (kp:PySem.W.keepIn K (.ref f)=true) (hm:mg "_law_same" = some (.ref f)):∀ m:Nat,FnOk P w K mg base CX0 m f fd ["_law_found","_law_due"] (spD K (fSame (m - 1)))
 | 0=>by
  have no:∀ vs H Q E,¬ spD K (fSame 0) vs H Q E:=fun vs H Q E ⟨_,_,_,_,_,⟨_,_,hd,_⟩,_⟩=>hd
  exact ⟨fun vs H Q E h=>absurd h (no vs H Q E),fun A outer s H args us vs Q E _ _ _ _ h=>absurd h (no vs H Q E)⟩
 | m + 1=>Zkj mb C__law_whole F b kp hm m
end
def stD (s:Int):D:=.tup [.int (s / 2),.int (s % 2)]
theorem Zli (x:Int):stD (2 * x)=.tup [.int x,.int 0]:=by unfold stD; rw [show 2 * x / 2=x by omega,show 2 * x % 2=0 by omega]
theorem Zp9 (x:Int):stD (2 * x + 1)=.tup [.int x,.int 1]:=by unfold stD; rw [show (2 * x + 1) / 2=x by omega,show (2 * x + 1) % 2=1 by omega]
structure CrOk (ts:List (Int × Int)) (cs:List Int):Prop where
 len:cs.length=ts.length
 bit:∀ c ∈ cs,c=0\/c=1
def gHand (cs:List Int) (s:Int):Int:=(s % 2 + cs.getD (s / 4).toNat 0) % 2
def preOf (ts:List (Int × Int)) (o:List (List Int)) (e:Nat):Int:=prevIn (rowAt ts o e) e
def cOn (ts:List (Int × Int)) (o:List (List Int)) (cs:List Int) (s:Int):Int:=if gHand cs s=0 then 2 * folOf ts o (partner (s / 2).toNat) else 2 * preOf ts o (partner (s / 2).toNat) + 1
def bkI (cs:List Int) (s:Int):Int:=2 * ((partner (s / 2).toNat:Nat):Int) + (1 - gHand cs s)
theorem CrOk.at {ts:List (Int × Int)} {cs:List Int} (h:CrOk ts cs) {k:Nat} (hk:k < ts.length):∃ c,cs[k]? = some c/\cs.getD k 0=c/\(c=0\/c=1):=by
 have hk':k < cs.length:=by rw [h.len]; exact hk
 refine ⟨cs[k],List.getElem?_eq_getElem hk',?_,h.bit _ (List.getElem_mem hk')⟩
 rw [List.getD_eq_getElem?_getD,List.getElem?_eq_getElem hk']; rfl
theorem Zfy (cs:List Int) (s:Int):gHand cs s=0\/gHand cs s=1:=by unfold gHand; omega
def fHand:DSp:=fun ds Post=>∃ (ts:List (Int × Int)) (cs:List Int) (s:Nat),ds=[encRow cs,stD s]/\CrOk ts cs/\s < 4 * ts.length/\Post (.int (gHand cs s))
def fCrOn:DSp:=fun ds Post=>∃ n ts o cs,∃ s:Nat,ds=[encWeb n ts,encOrd o,encRow cs,stD s]/\WebOk n ts/\OrdOk n ts o/\CrOk ts cs/\s < 4 * ts.length/\Post (stD (cOn ts o cs s))
def fCross:BSp:=fun ps ds Post=>Pen ps/\∃ n ts,ds=[encWeb n ts]/\WebOk n ts/\∀ cs ps',Pen ps' -> CrOk ts cs->Post (encRow cs) ps'
section
variable {P:Program} {w:World} {K:PySem.W.Frag} {mg:Str->Option Value} {base:Heap} {f:Addr} {fd:FuncData}
theorem Zoo (mb:Mb mg) (F:Fun K "hand_beyond" "hand_beyond" s_hand_beyond f fd):FnOk P w K mg base CX0 1 f fd ["crossings","state"] (spD K fHand):=by
 refine F.ok sc_hand_beyond (Zbn fun ds Post h=>by obtain ⟨_,_,_,rfl,_⟩:=h; rfl) (fun cdv A outer s H vs Q E hr h=>?_)
 have hu:=Zca hr
 refine ⟨_,(Zad (Zdo (pv 1) (gtupK (n:=2) K rfl (Zdv (Zaz (i:=2) sc_hand_beyond.nd rfl (Or.inl rfl)) (Zdv (Zaz (i:=3) sc_hand_beyond.nd rfl (Or.inl rfl)) Zkm)))) (Zah (Zax (Zm4 (Za0 Zb8 (Za2 (ixK K hu) (pv 0) (Zaq Zd8 (pv 2) Zag) (fun _ _=>rfl)) Zag (nomark _)) (Zaq Zde Zag (pv 3)) (pv 3))))),Zd1 (fun ds Post hf=>?_) h⟩
 obtain ⟨ts,cs,t,rfl,hC,ht,q⟩:=hf
 refine ⟨by simp,?_⟩
 dsimp only [startD,List.tail,List.map,List.length,List.replicate]
 obtain ⟨c,c1,c2,c3⟩:=hC.at (k:=t / 4) (by omega)
 have hat:atI (cs.map D.int) ((t:Int) / 2 / 2)=some (.int c):=by
  rw [show (t:Int) / 2 / 2=((t / 4:Nat):Int) by omega]
  exact Zbi (by rw [List.getElem?_map,c1]; rfl)
 have hg:gHand cs t=((t:Int) % 2 + c) % 2:=by unfold gHand; rw [show ((t:Int) / 4).toNat=t / 4 by omega,c2]
 refine Zai (Zrs (Zac rfl (Zr8 rfl (Zhe (Zcq (Zhe (Zcq (Zol ?_))))))))
 refine Za9 (Zlo (Zbf (Zar (Zar (Zac rfl (Zar (Zac rfl (Zaj (jr_I ⟨by omega,by omega⟩ (Zas hat (Zaj (Zer ⟨_,rfl,?_⟩))))))))))))
 refine ite2 (fun z=>?_) (fun z=>?_)
 ·have z:c=1:=of_decide_eq_true z
  refine Zar (Zaj (Zac rfl (Zd6 ?_)))
  rw [hg] at q
  rw [show (1:Int) - (t:Int) % 2=((t:Int) % 2 + c) % 2 by omega]
  exact q
 ·have z:¬ c=1:=of_decide_eq_false (Bool.eq_false_iff.mpr z)
  refine Zac rfl ?_
  rw [hg] at q
  rw [show (t:Int) % 2=((t:Int) % 2 + c) % 2 by omega]
  exact q
theorem Zpm (mb:Mb mg) (C_hand_beyond:Callee P w K mg base 1 "hand_beyond" ["crossings","state"] (spD K fHand)) (C_follower:Callee P w K mg base 2 "follower" ["web","order","end"] (spD K fFol)) (C_forerunner:Callee P w K mg base 2 "forerunner" ["web","order","end"] (spD K fFore)) (F:Fun K "crossed_onward" "crossed_onward" s_crossed_onward f fd):FnOk P w K mg base CX0 3 f fd ["web","order","crossings","state"] (spD K fCrOn):=by
 refine F.ok sc_crossed_onward (Zbn fun ds Post h=>by obtain ⟨_,_,_,_,_,rfl,_⟩:=h; rfl) (fun cdv A outer s H vs Q E hr h=>?_)
 have hu:=Zca hr
 refine ⟨_,(Zad (Zao (i:=4) sc_crossed_onward.nd rfl (Or.inl rfl) (Zaq Znj (Za2 (ixK K hu) (pv 3) Zag (fun _ _=>rfl)) Zag)) (Zad (Zcb (Za0 Zb8 (Zay C_hand_beyond (hr.mono (by decide)) (Zaa (pv 2) (Zaa (pv 3) Zae))) Zag (nomark _)) (Zah (Zax (Zbp (Zaa (Zay C_follower (hr.mono (by decide)) (Zaa (pv 0) (Zaa (pv 1) (Zaa (pv 4) Zae)))) (Zaa Zag Zae))))) Za4) (Zah (Zax (Zbp (Zaa (Zay C_forerunner (hr.mono (by decide)) (Zaa (pv 0) (Zaa (pv 1) (Zaa (pv 4) Zae)))) (Zaa Zag Zae))))))),Zd1 (fun ds Post hf=>?_) h⟩
 obtain ⟨n,ts,o,cs,t,rfl,hW,hO,hC,ht,q⟩:=hf
 refine ⟨by simp,?_⟩
 dsimp only [startD,List.tail,List.map,List.length,List.replicate]
 have he:t / 2 < 2 * ts.length:=by omega
 refine Zai (Zat (Zar (Zar (Zac rfl (Zaj (Zas (d:=.int ((t / 2:Nat):Int)) (by rw [show ((t / 2:Nat):Int)=(t:Int) / 2 by omega]; rfl) (Zaj (Zd6 ?_))))))))
 rw [Zjq]
 have ee:((t:Int) / 2).toNat=t / 2:=by omega
 refine Zai (Zbx (Zbf (Zar (Zau (Zab (Zac rfl (Zab (Zac rfl (Zaf ⟨ts,cs,t,rfl,hC,ht,Zaj (Zer ⟨_,rfl,?_⟩)⟩)))))))))
 refine ite2 (fun z=>?_) (fun z=>?_)
 ·have z:gHand cs t=0:=of_decide_eq_true z
  refine Za9 (Zbg (Zab (Zau (Zab (Zac rfl (Zab (Zac rfl (Zab (Zac rfl (Zaf ⟨n,ts,o,partner (t / 2),rfl,hW,hO,Za3 he,Zab (Zaj (Zaf ⟨Zcs,?_⟩))⟩))))))))))
  have q':=q
  unfold cOn at q'
  rw [if_pos z,Zli,ee] at q'
  exact q'
 ·have z:¬ gHand cs t=0:=of_decide_eq_false (Bool.eq_false_iff.mpr z)
  refine Zaw (Za9 (Zbg (Zab (Zau (Zab (Zac rfl (Zab (Zac rfl (Zab (Zac rfl (Zaf ⟨n,ts,o,partner (t / 2),rfl,hW,hO,Za3 he,Zab (Zaj (Zaf ⟨Zcs,?_⟩))⟩)))))))))))
  have q':=q
  unfold cOn at q'
  rw [if_neg z,Zp9,ee] at q'
  exact q'
theorem Zmw (mb:Mb mg) (C__law_draw:Callee P w K mg base 1 "_law_draw" ["_law_pen_here","_law_many"] (spB K fDraw)) (F:Fun K "_law_crossings" "_law_crossings" s_law_crossings f fd):FnOk P w K mg base CX0 2 f fd ["_law_pen_here","_law_web_here"] (spB K fCross):=by
 refine F.ok sc_law_crossings (Zfk fun ps ds Post h=>by obtain ⟨_,_,_,rfl,_⟩:=h; rfl) (fun cdv A outer s H vs Q E hr h=>?_)
 have hu:=Zca hr
 refine ⟨_,(Zad (Zao (i:=2) sc_law_crossings.nd rfl (Or.inr rfl) (Zay C__law_draw (hr.mono (by decide)) (Zaa (pv 0) (Zaa Zag Zae)))) (Zad (Zc4 (i:=3) ["_law_tie"] (show CompSc (defScope s_law_crossings) ["_law_pen_here","_law_web_here","_law_way","_law_found"] _ ["_law_pen_here"] [0] from ⟨rfl,by decide +kernel,by decide +kernel,by decide +kernel,rfl,by decide +kernel⟩) rfl sc_law_crossings.nd rfl (Or.inl rfl) (seqK K (Za2 (ixK K hu) (pv 1) Zag (fun _ _=>rfl))) (fun _ _ _ _ _=>(Zaz (i:=0) (show List.Nodup (["_law_tie","_law_pen_here"]:List Str) from by decide) rfl (Or.inl rfl))) (fun _ _ _ _ _=>Zcu) (fun _ _ _ _ _=>(Zay C__law_draw (hr.mono (by decide)) (Zaa (pv 1) (Zaa Zag Zae))))) (Zad (Zcb (Za0 Zqy (pv 2) Zag (nomark _)) (Zah (Zc4 (i:=3) ["_law_tie"] (show CompSc (defScope s_law_crossings) ["_law_pen_here","_law_web_here","_law_way","_law_found"] _ ["_law_way"] [2] from ⟨rfl,by decide +kernel,by decide +kernel,by decide +kernel,rfl,by decide +kernel⟩) rfl sc_law_crossings.nd rfl (Or.inl rfl) (seqK K (Za2 (ixK K hu) (pv 1) Zag (fun _ _=>rfl))) (fun _ _ _ _ _=>(Zaz (i:=0) (show List.Nodup (["_law_tie","_law_way"]:List Str) from by decide) rfl (Or.inl rfl))) (fun _ _ _ _ _=>Zcu) (fun _ _ _ _ _=>(pv 1)))) Za4) (Zah (Zax (Zbk (tupK K) rfl (mb "tuple" (by decide)) Zbh (Zaa (pv 3) Zae))))))),Zmf (fun ps ds Post hf=>?_) h⟩
 obtain ⟨hp,n,ts,rfl,hW,q⟩:=hf
 refine ⟨by simp,?_⟩
 dsimp only [cxOf,startD,List.tail,List.map,List.length,List.replicate]
 have hw2:=hW.len
 refine Zai (Zat (Zd7 rfl rfl (Zab (Zaj (Zaf ⟨_,_,rfl,rfl,hp,4,rfl,by omega,by omega,fun way ps1 hp1 w0 w1=>?_⟩)))))
 refine Zbc (fun Δ=>∃ (cs:List Int) (psx:List D),Pen psx/\CrOk ts cs /\ Δ = [.bor (.lst psx),.val (encWeb n ts),.val (.int way),.val (.lst (cs.map .int))]) ?_ ?_
 ·refine Zat (Zlb (by decide) (Zcx (Zar (Zac rfl (Zaj (Zas (d:=.tup (ts.map encTie)) rfl ⟨_,rfl,?_,fun i ys Δ=>∃ (cs:List Int) (psx:List D) (x:L2.Slot),Pen psx/\cs.length=i/\(∀ c ∈ cs,c=0\/c=1)/\ys=cs.map .int /\ Δ = [x,.bor (.lst psx)],?_,?_,?_⟩))))))
  ·rw [List.length_map]; exact small1000 (by omega)
  ·exact ⟨[],ps1,.any,hp1,rfl,fun _ h=>(nomatch h),rfl,rfl⟩
  ·rintro i d ys Δ2 hd ⟨cs,psx,x,hpx,hl,hb,rfl,rfl⟩
   refine Zdh (by decide) (Zce ?_)
   rw [if_pos rfl]
   refine Zd7 rfl rfl (Zab (Zaj (Zaf ⟨_,_,rfl,rfl,hpx,2,rfl,by omega,by omega,fun r ps' hp' r0 r1=>?_⟩)))
   refine ⟨cs ++ [r],ps',.val d,hp',by rw [List.length_append,hl]; rfl,fun c hc=>?_,by rw [List.map_append]; rfl,rfl⟩
   rcases List.mem_append.mp hc with z | z
   ·exact hb c z
   ·rw [List.mem_singleton] at z; subst z; omega
  ·rintro ys Δ2 ⟨cs,psx,x,hpx,hl,hb,rfl,rfl⟩
   rw [List.length_map] at hl
   exact ⟨cs,psx,hpx,⟨hl,hb⟩,rfl⟩
 rintro Δ1 ⟨cs,psx,hpx,hC,rfl⟩
 refine Zbc (fun Δ=>∃ (cs:List Int),CrOk ts cs /\ Δ = [.bor (.lst psx),.val (encWeb n ts),.val (.int way),.val (.lst (cs.map .int))]) ?_ ?_
 ·refine Zbx (Zbf (Zar (Zac rfl (Zaj (Zpg ⟨_,rfl,ite2 (fun z=>?_) (fun z=>?_)⟩)))))
  ·have z:way < 2:=of_decide_eq_true z
   refine Zat (Zdq (by decide) (Zcx (Zar (Zac rfl (Zaj (Zas (d:=.tup (ts.map encTie)) rfl ⟨_,rfl,?_,fun _=>true,fun _=>.int way,fun i d hd=>?_,?_⟩))))))
   ·rw [List.length_map]; exact small1000 (by omega)
   ·exact Zce ⟨rfl,Zac rfl ⟨rfl,_,rfl⟩⟩
   ·refine ⟨List.replicate ts.length way,⟨by rw [List.length_replicate],fun c hc=>?_⟩,?_⟩
    ·rw [List.mem_replicate] at hc; omega
    ·have e:((ts.map encTie).filter fun _=>true).map (fun _=>D.int way)=(List.replicate ts.length way).map D.int:=by
      rw [List.filter_eq_self.mpr (by simp),List.map_map,List.map_replicate,List.eq_replicate_iff]
      refine ⟨by rw [List.length_map],fun b hb=>?_⟩
      obtain ⟨t,_,rfl⟩:=List.mem_map.mp hb
      rfl
     rw [e]; rfl
  ·exact Zaw ⟨cs,hC,rfl⟩
 rintro Δ1 ⟨cs,hC,rfl⟩
 exact Za9 (Za6 (Zab (Zac rfl (Zaf (Zc0 (Or.inl rfl) ⟨psx,rfl,q cs psx hpx hC⟩)))))
end
theorem Zcg (e:Nat):partner e / 2=e / 2:=by unfold partner; split <;> omega
section
variable {n:Int} {ts:List (Int × Int)} {o:List (List Int)} {cs:List Int}
theorem Znt (hW:WebOk n ts) (hO:OrdOk n ts o) {x:Nat} (hx:x < 2 * ts.length):∃ k:Nat,k < 2 * ts.length/\preOf ts o x=(k:Int)/\folOf ts o k=(x:Int):=by
 obtain ⟨g1,g2,g3⟩:=Zba hW hO hx
 have nd:=g2.nodup
 obtain ⟨i,hi⟩:=List.mem_iff_getElem?.mp g3
 have hil:=(List.getElem?_eq_some_iff.mp hi).1
 have ep:=Zk4 nd hi
 have hj:pvI (rowAt ts o x).length i < (rowAt ts o x).length:=by unfold pvI; split <;> omega
 rw [List.getD_eq_getElem?_getD,List.getElem?_eq_getElem hj] at ep
 have hmem:prevIn (rowAt ts o x) x ∈ rowAt ts o x:=by rw [ep]; exact List.getElem_mem hj
 obtain ⟨k,hk,pk,ek⟩:=g2.mem.mp hmem
 refine ⟨k,hk,ek.symm,?_⟩
 have er:rowAt ts o k=rowAt ts o x:=by unfold rowAt; rw [pk]
 have hkj:(rowAt ts o x)[pvI (rowAt ts o x).length i]? = some (k:Int):=by
  rw [List.getElem?_eq_getElem hj,ek,ep]; rfl
 unfold folOf
 rw [er,Zd3 nd hkj]
 have:nxI (rowAt ts o x).length (pvI (rowAt ts o x).length i)=i:=by
  unfold nxI pvI; repeat' split
  all_goals omega
 rw [this,List.getD_eq_getElem?_getD,hi]
 rfl
theorem Zrk (hW:WebOk n ts) (hO:OrdOk n ts o) {x:Nat} (hx:x < 2 * ts.length):∃ k:Nat,k < 2 * ts.length/\folOf ts o x=(k:Int)/\preOf ts o k=(x:Int):=by
 obtain ⟨g,hg,_,e⟩:=Zfp hW hO hx
 obtain ⟨k,hk,h1,h2⟩:=Znt hW hO hg
 have h3:=(Zq2 hW hO).inj ((partner k:Nat):Int) ((partner x:Nat):Int) (by omega) (by have:=Za3 hk; omega) (by omega) (by have:=Za3 hx; omega) (by unfold onI; rw [Int.toNat_natCast,Int.toNat_natCast,Zap,Zap,h2,e])
 have h4:partner k=partner x:=by omega
 have h5:=congrArg partner h4
 rw [Zap,Zap] at h5
 subst h5
 exact ⟨g,hg,e.symm,h1⟩
theorem Zje (cs:List Int) (e:Nat) {h:Int} (hh:h=0\/h=1):gHand cs (2 * (e:Int) + h)=(h + cs.getD (e / 2) 0) % 2:=by
 unfold gHand
 rw [show ((2 * (e:Int) + h) / 4).toNat=e / 2 by omega,show (2 * (e:Int) + h) % 2=h by omega]
theorem Zdt (ts:List (Int × Int)) (o:List (List Int)) (cs:List Int) (e:Nat) {h:Int} (hh:h=0\/h=1):cOn ts o cs (2 * (e:Int) + h)=if (h + cs.getD (e / 2) 0) % 2=0 then 2 * folOf ts o (partner e) else 2 * preOf ts o (partner e) + 1:=by
 unfold cOn
 rw [Zje cs e hh,show ((2 * (e:Int) + h) / 2).toNat=e by omega]
theorem Zdg (cs:List Int) (e:Nat) {h:Int} (hh:h=0\/h=1):bkI cs (2 * (e:Int) + h)=2 * ((partner e:Nat):Int) + (1 - (h + cs.getD (e / 2) 0) % 2):=by
 unfold bkI
 rw [Zje cs e hh,show ((2 * (e:Int) + h) / 2).toNat=e by omega]
theorem Zha {m:Nat} {x:Int} (h0:0<=x) (h1:x < ((4 * m:Nat):Int)):∃ (e:Nat) (h:Int),e < 2 * m/\(h=0\/h=1)/\x=2 * (e:Int) + h:=⟨(x / 2).toNat,x % 2,by omega,by omega,by omega⟩
theorem cbit (hC:CrOk ts cs) {e:Nat} (he:e < 2 * ts.length):cs.getD (e / 2) 0=0\/cs.getD (e / 2) 0=1:=by
 obtain ⟨c,_,h1,h2⟩:=hC.at (k:=e / 2) (by omega)
 rw [h1]; exact h2
theorem Zmz (hC:CrOk ts cs) {x:Int} (h0:0<=x) (h1:x < ((4 * ts.length:Nat):Int)):bkI cs (bkI cs x)=x/\0<=bkI cs x/\bkI cs x < ((4 * ts.length:Nat):Int):=by
 obtain ⟨e,h,he,hh,rfl⟩:=Zha h0 h1
 have hc:=cbit hC he
 have hp:=Za3 he
 rw [Zdg cs e hh]
 refine ⟨?_,by omega,by omega⟩
 rw [Zdg cs (partner e) (by omega),Zap,Zcg]
 omega
theorem Zla (hW:WebOk n ts) (hO:OrdOk n ts o) (hC:CrOk ts cs) {x:Int} (h0:0<=x) (h1:x < ((4 * ts.length:Nat):Int)):cOn ts o cs (bkI cs (cOn ts o cs x))=bkI cs x/\0<=cOn ts o cs x/\cOn ts o cs x < ((4 * ts.length:Nat):Int):=by
 obtain ⟨e,h,he,hh,rfl⟩:=Zha h0 h1
 have hc:=cbit hC he
 have hp:=Za3 he
 rw [Zdg cs e hh,Zdt ts o cs e hh]
 by_cases z:(h + cs.getD (e / 2) 0) % 2=0
 ·rw [if_pos z]
  obtain ⟨k,hk,k1,k2⟩:=Zrk hW hO hp
  have hck:=cbit hC hk
  rw [k1]
  refine ⟨?_,by omega,by omega⟩
  rw [show 2 * (k:Int)=2 * (k:Int) + 0 by omega,Zdg cs k (Or.inl rfl),Zdt ts o cs (partner k) (by omega),Zcg,Zap,if_neg (by omega),k2]
  omega
 ·rw [if_neg z]
  obtain ⟨k,hk,k1,k2⟩:=Znt hW hO hp
  have hck:=cbit hC hk
  rw [k1]
  refine ⟨?_,by omega,by omega⟩
  rw [Zdg cs k (Or.inr rfl),Zdt ts o cs (partner k) (by omega),Zcg,Zap,if_pos (by omega),k2]
  omega
theorem Zh0 (hW:WebOk n ts) (hO:OrdOk n ts o) (hC:CrOk ts cs):OneOne (cOn ts o cs) (4 * ts.length):=by
 refine ⟨fun x h0 h1=>(Zla hW hO hC h0 h1).2,fun x y h0 h1 h2 h3 q=>?_⟩
 have e1:=(Zla hW hO hC h0 h1).1
 have e2:=(Zla hW hO hC h2 h3).1
 rw [q,e2] at e1
 rw [<- (Zmz hC h0 h1).1,<- e1,(Zmz hC h2 h3).1]
theorem Zsi (hC:CrOk ts cs) {x:Int} (h0:0<=x) (h1:x < ((4 * ts.length:Nat):Int)):bkI cs x ≠ x/\bkI cs x ≠ cOn ts o cs x:=by
 obtain ⟨e,h,he,hh,rfl⟩:=Zha h0 h1
 have hc:=cbit hC he
 rw [Zdg cs e hh,Zdt ts o cs e hh]
 constructor
 ·have:partner e ≠ e:=by unfold partner; split <;> omega
  omega
 ·split <;> omega
theorem Zp7 (hW:WebOk n ts) (hO:OrdOk n ts o) (hC:CrOk ts cs) {x:Int} (h0:0<=x) (h1:x < ((4 * ts.length:Nat):Int)) (k:Nat):iter (cOn ts o cs) x k ≠ bkI cs x:=by
 intro q
 have F:=Zh0 hW hO hC
 have key:∀ j,j<=k->bkI cs (iter (cOn ts o cs) x j)=iter (cOn ts o cs) x (k - j):=by
  intro j
  induction j with
  | zero=>intro _; exact q.symm
  | succ j ih=>
   intro hj
   have i1:=ih (by omega)
   have r1:=Zbe F h0 h1 j
   have r2:=Zbe F h0 h1 (j + 1)
   have r3:=Zbe F h0 h1 (k - (j + 1))
   have b2:=(Zmz hC r2.1 r2.2).2
   refine F.inj _ _ b2.1 b2.2 r3.1 r3.2 ?_
   have e1:=(Zla hW hO hC r1.1 r1.2).1
   rw [show cOn ts o cs (iter (cOn ts o cs) x (k - (j + 1)))=iter (cOn ts o cs) x (k - j) by rw [show k - j=(k - (j + 1)) + 1 by omega]; rfl,<- i1]
   exact e1
 have r1:=Zbe F h0 h1 (k / 2)
 have z:=Zsi (o:=o) hC r1.1 r1.2
 have e:=key (k / 2) (by omega)
 by_cases hk:k % 2=0
 ·rw [show k - k / 2=k / 2 by omega] at e
  exact z.1 e
 ·rw [show k - k / 2=k / 2 + 1 by omega] at e
  exact z.2 e
end
section
variable {P:Program} {w:World} {K:PySem.W.Frag} {mg:Str->Option Value} {base:Heap} {f:Addr} {fd:FuncData}
theorem Zra (s:Int):Dp 2 (stD s):=by
 intro e he
 rcases List.mem_cons.mp he with z | z
 ·subst z; exact trivial
 ·rcases List.mem_cons.mp z with z | z
  ·subst z; exact trivial
  ·cases z
theorem Zqi (s t:Int):eqF 2 (stD s) (stD t)=decide (s=t):=by
 show (true && ((s / 2 == t / 2) && ((s % 2 == t % 2) && true)))=_
 by_cases h:s=t
 ·subst h; simp
 ·rw [decide_eq_false h,Bool.true_and,Bool.and_true,Bool.and_eq_false_iff]
  by_cases h2:s / 2=t / 2
  ·right; simp; omega
  ·left; simpa using h2
def fBack:DSp:=fun ds Post=>∃ (d:D) (ts:List (Int × Int)) (cs:List Int) (s:Nat),ds=[d,encRow cs,stD s]/\CrOk ts cs/\s < 4 * ts.length/\Post (stD (bkI cs s))
theorem Znr (cs:List Int) (t:Nat):stD (bkI cs t)=.tup [.int ((partner (t / 2):Nat):Int),.int (1 - gHand cs t)]:=by
 have:=Zfy cs t
 unfold stD bkI
 rw [show ((t:Int) / 2).toNat=t / 2 by omega,show (2 * ((partner (t / 2):Nat):Int) + (1 - gHand cs t)) / 2=((partner (t / 2):Nat):Int) by omega,show (2 * ((partner (t / 2):Nat):Int) + (1 - gHand cs t)) % 2=1 - gHand cs t by omega]
theorem Zp1 (mb:Mb mg) (C_hand_beyond:Callee P w K mg base 1 "hand_beyond" ["crossings","state"] (spD K fHand)) (F:Fun K "back_of" "back_of" s_back_of f fd):FnOk P w K mg base CX0 2 f fd ["web","crossings","state"] (spD K fBack):=by
 refine F.ok sc_back_of (Zbn fun ds Post h=>by obtain ⟨_,_,_,_,rfl,_⟩:=h; rfl) (fun cdv A outer s H vs Q E hr h=>?_)
 have hu:=Zca hr
 refine ⟨_,(Zah (Zax (Zbp (Zaa (Zaq Znj (Za2 (ixK K hu) (pv 2) Zag (fun _ _=>rfl)) Zag) (Zaa (Zaq Zde Zag (Zay C_hand_beyond (hr.mono (by decide)) (Zaa (pv 1) (Zaa (pv 2) Zae)))) Zae))))),Zd1 (fun ds Post hf=>?_) h⟩
 obtain ⟨d,ts,cs,t,rfl,hC,ht,q⟩:=hf
 refine ⟨by simp,?_⟩
 dsimp only [startD,List.tail,List.map,List.length,List.replicate]
 rw [Znr] at q
 refine Za9 (Zbg (Zab (Zar (Zar (Zac rfl (Zaj (Zas (d:=.int ((t / 2:Nat):Int)) (by rw [show ((t / 2:Nat):Int)=(t:Int) / 2 by omega]; rfl) (Zaj (Zd6 ?_)))))))))
 rw [Zjq]
 exact Zab (Zar (Zaj (Zau (Zab (Zac rfl (Zab (Zac rfl (Zaf ⟨ts,cs,t,rfl,hC,ht,Zd6 (Zaf ⟨Zcs,q⟩)⟩))))))))
end
section
variable {n:Int} {ts:List (Int × Int)} {o:List (List Int)} {cs:List Int}
structure StB (f b:Int->Int) (m:Nat):Prop where
 one:OneOne f m
 bb:∀ x,0<=x->x < (m:Int)->b (b x)=x/\0<=b x/\b x < (m:Int)
 fb:∀ x,0<=x->x < (m:Int)->f (b (f x))=b x
 out:∀ x,0<=x->x < (m:Int)->∀ k,iter f x k ≠ b x
theorem Zj1 (hW:WebOk n ts) (hO:OrdOk n ts o) (hC:CrOk ts cs):StB (cOn ts o cs) (bkI cs) (4 * ts.length):=
 ⟨Zh0 hW hO hC,fun x h0 h1=>Zmz hC h0 h1,fun x h0 h1=>(Zla hW hO hC h0 h1).1,fun x h0 h1 k=>Zp7 hW hO hC h0 h1 k⟩
end
def CrM (f b:Int->Int) (k:Nat) (x:Int):Prop:=∃ e:Nat,e < k/\(x ∈ orb f (2 * (e:Int))\/∃ y ∈ orb f (2 * (e:Int)),b y=x)
open Classical in
noncomputable def frB (f b:Int->Int) (k:Nat):Bool:=!decide (CrM f b k (2 * (k:Int)))
noncomputable def crTo (f b:Int->Int) (k:Nat):List (List Int):=((List.range k).filter (frB f b)).map fun e:Nat=>orb f (2 * (e:Int))
theorem Zed {f b:Int->Int} {k:Nat}:frB f b k=true ↔ ¬ CrM f b k (2 * (k:Int)):=by
 unfold frB
 rw [Bool.not_eq_true',decide_eq_false_iff_not]
theorem Zc5 (f b:Int->Int) (k:Nat):crTo f b (k + 1)=crTo f b k ++ (if frB f b k=true then [orb f (2 * (k:Int))] else []):=by
 unfold crTo
 rw [List.range_succ,List.filter_append,List.map_append]
 congr 1
 by_cases h:frB f b k=true
 ·rw [if_pos h,List.filter_cons_of_pos h]; rfl
 ·rw [if_neg h,List.filter_cons_of_neg h]; rfl
theorem Zfw (f b:Int->Int) (k:Nat):(crTo f b k).length<=k:=by
 unfold crTo
 rw [List.length_map]
 exact Nat.le_trans (List.length_filter_le _ _) (by rw [List.length_range]; exact Nat.le_refl _)
section
variable {f b:Int->Int} {m:Nat} (S:StB f b m)
include S
theorem Zm0 {e x:Int} (h0:0<=e) (h1:e < (m:Int)) (hx:x ∈ orb f e):∃ z ∈ orb f e,f z=x:=by
 obtain ⟨i,hi,rfl⟩:=Zav.mp hx
 cases i with
 | zero=>
  have O:=Zex S.one h0 h1
  have hp:=O.pos
  refine ⟨iter f e (per f e - 1),Zc2 S.one h0 h1 _,?_⟩
  have:=O.back
  rw [show per f e=(per f e - 1) + 1 by omega] at this
  exact this
 | succ i=>exact ⟨iter f e i,Zc2 S.one h0 h1 _,rfl⟩
theorem Zh2 {k:Nat} (hk:2 * k<=m) {x:Int} (h:CrM f b k x):0<=x/\x < (m:Int)/\CrM f b k (f x)/\CrM f b k (b x):=by
 obtain ⟨e,he,h⟩:=h
 have e0:(0:Int)<=2 * (e:Int):=by omega
 have e1:2 * (e:Int) < (m:Int):=by omega
 rcases h with h | ⟨y,hy,rfl⟩
 ·obtain ⟨r0,r1⟩:=Zf3 S.one e0 e1 h
  obtain ⟨i,_,hi⟩:=Zav.mp h
  exact ⟨r0,r1,⟨e,he,.inl (by rw [<- hi]; exact Zc2 S.one e0 e1 (i + 1))⟩,⟨e,he,.inr ⟨x,h,rfl⟩⟩⟩
 ·obtain ⟨z,hz,rfl⟩:=Zm0 S e0 e1 hy
  obtain ⟨r0,r1⟩:=Zf3 S.one e0 e1 hz
  obtain ⟨q0,q1⟩:=Zf3 S.one e0 e1 hy
  obtain ⟨bb,b0,b1⟩:=S.bb _ q0 q1
  refine ⟨b0,b1,⟨e,he,.inr ⟨z,hz,(S.fb z r0 r1).symm⟩⟩,⟨e,he,.inl (by rw [bb]; exact hy)⟩⟩
theorem Zdc {k:Nat} (hk:2 * k<=m) {x:Int} (h:CrM f b k x):∀ j,CrM f b k (iter f x j)
 | 0=>h
 | j + 1=>(Zh2 S hk (Zdc hk h j)).2.2.1
theorem Zmp {k:Nat} (hk:2 * k<=m) {x:Int} (h0:0<=x) (h1:x < (m:Int)) {y:Int} (hy:y ∈ orb f x) (h:CrM f b k y):CrM f b k x:=by
 obtain ⟨r0,r1⟩:=Zf3 S.one h0 h1 hy
 have:=Zlt S.one h0 h1 hy
 obtain ⟨i,_,rfl⟩:=Zav.mp this
 exact Zdc S hk h i
theorem Zds {k:Nat} (hk:2 * k + 2<=m) {x:Int}:CrM f b (k + 1) x ↔ CrM f b k x\/(frB f b k=true/\(x ∈ orb f (2 * (k:Int))\/∃ y ∈ orb f (2 * (k:Int)),b y=x)):=by
 constructor
 ·rintro ⟨e,he,h⟩
  rcases Nat.lt_or_eq_of_le (Nat.le_of_lt_succ he) with c | c
  ·exact .inl ⟨e,c,h⟩
  ·subst c
   by_cases q:CrM f b e (2 * (e:Int))
   ·left
    rcases h with h | ⟨y,hy,rfl⟩
    ·obtain ⟨i,_,rfl⟩:=Zav.mp h
     exact Zdc S (by omega) q i
    ·obtain ⟨i,_,rfl⟩:=Zav.mp hy
     exact (Zh2 S (by omega) (Zdc S (by omega) q i)).2.2.2
   ·right
    exact ⟨Zed.mpr q,h⟩
 ·rintro (⟨e,he,h⟩ | ⟨_,h⟩)
  ·exact ⟨e,by omega,h⟩
  ·exact ⟨k,by omega,h⟩
end
def stRow (s:Int):List Int:=[s / 2,s % 2]
def crD (r:List Int):D:=.tup (r.map stD)
theorem Zn5 (r:List Int):crD r=codD (r.map stRow):=by
 unfold crD codD
 rw [List.map_map]
 rfl
noncomputable def allC (ts:List (Int × Int)) (o:List (List Int)) (cs:List Int):List (List Int):=List.replicate (lone o) [] ++ crTo (cOn ts o cs) (bkI cs) (2 * ts.length)
theorem Zjf {f b:Int->Int} {m k:Nat} (S:StB f b m) (hk:2 * k<=m) {i:Nat} {r:List Int} (h:(crTo f b k)[i]? = some r):∃ (e:Nat) (l:List Int),((List.range k).filter (frB f b))[i]? = some e/\e < k/\r=2 * (e:Int) :: l:=by
 unfold crTo at h
 rw [List.getElem?_map] at h
 cases z:((List.range k).filter (frB f b))[i]? with
 | none=>rw [z] at h; cases h
 | some e=>
  rw [z] at h
  have h:orb f (2 * (e:Int))=r:=by simpa using h
  have he:=List.mem_range.mp (List.mem_filter.mp (List.mem_of_getElem? z)).1
  obtain ⟨l,hl⟩:=Zmm S.one (e:=2 * (e:Int)) (by omega) (by omega)
  exact ⟨e,l,rfl,he,by rw [<- h,hl]⟩
theorem Zna {f b:Int->Int} {m k:Nat} (S:StB f b m) (hk:2 * k<=m) (z:Nat):AscC ((List.replicate z [] ++ crTo f b k).map (List.map stRow)):=by
 intro i a c ha hc
 rw [List.getElem?_map] at ha hc
 by_cases h:i < z
 ·rw [List.getElem?_append_left (by rw [List.length_replicate]; exact h),List.getElem?_replicate,if_pos h] at ha
  left
  have:([]:List (List Int))=a:=by simpa using ha
  exact this.symm
 ·rw [List.getElem?_append_right (by rw [List.length_replicate]; omega),List.length_replicate] at ha hc
  cases za:(crTo f b k)[i - z]? with
  | none=>rw [za] at ha; cases ha
  | some ra=>
   cases zc:(crTo f b k)[i + 1 - z]? with
   | none=>rw [zc] at hc; cases hc
   | some rc=>
    rw [za] at ha; rw [zc] at hc
    obtain ⟨e,l,q1,q2,rfl⟩:=Zjf S hk za
    obtain ⟨e',l',q3,q4,rfl⟩:=Zjf S hk zc
    have hlt:e < e':=by
     have pw:((List.range k).filter (frB f b)).Pairwise (· < ·):=List.Pairwise.filter _ List.pairwise_lt_range
     obtain ⟨a1,a2⟩:=List.getElem?_eq_some_iff.mp q1
     obtain ⟨b1,b2⟩:=List.getElem?_eq_some_iff.mp q3
     have:=List.pairwise_iff_getElem.mp pw (i - z) (i + 1 - z) a1 b1 (by omega)
     rw [a2,b2] at this
     exact this
    have ha:stRow (2 * (e:Int)) :: l.map stRow=a:=by simpa using ha
    have hc:stRow (2 * (e':Int)) :: l'.map stRow=c:=by simpa using hc
    refine .inr ⟨_,_,_,_,ha.symm,hc.symm,?_,?_⟩
    ·unfold stRow
     rw [show 2 * (e:Int) / 2=e by omega,show 2 * (e':Int) / 2=e' by omega]
     intro w
     have:=(List.cons.inj w).1
     omega
    ·unfold stRow
     rw [show 2 * (e:Int) / 2=e by omega,show 2 * (e':Int) / 2=e' by omega,Zrl,if_neg (by omega)]
     exact decide_eq_false (by omega)
section
variable {n:Int} {ts:List (Int × Int)} {o:List (List Int)} {cs:List Int}
theorem Zdr (hW:WebOk n ts) (hO:OrdOk n ts o):(allC ts o cs).length<=100:=by
 unfold allC
 rw [List.length_append,List.length_replicate]
 have:=Zfw (cOn ts o cs) (bkI cs) (2 * ts.length)
 have:=Zhc o
 have:=hO.len
 have:=hW.hi
 have:=hW.len
 omega
theorem Zjd (hW:WebOk n ts) (hO:OrdOk n ts o) (hC:CrOk ts cs):∀ r ∈ allC ts o cs,r.length<=96:=by
 intro r hr
 unfold allC at hr
 rcases List.mem_append.mp hr with h | h
 ·rw [(List.mem_replicate.mp h).2]; simp
 ·unfold crTo at h
  obtain ⟨e,he,rfl⟩:=List.mem_map.mp h
  rw [List.mem_filter,List.mem_range] at he
  have:=Zkn (Zh0 hW hO hC) (e:=2 * (e:Int)) (by omega) (by omega)
  have:=hW.len
  omega
theorem Zic (hW:WebOk n ts) (hO:OrdOk n ts o) (hC:CrOk ts cs):AscC ((allC ts o cs).map (List.map stRow)):=Zna (Zj1 hW hO hC) (by omega) _
end
theorem Znv (l:List (List Int)):l.map crD=(l.map (List.map stRow)).map codD:=by
 rw [List.map_map]
 exact List.map_congr_left fun r _=>Zn5 r
def prI (x:Int):Int × Int:=(x / 2,x % 2)
theorem Zn6 (x:Int):dP (prI x)=stD x:=rfl
theorem Zoh {x y:Int} (h:prI x=prI y):x=y:=by
 have h1:x / 2=y / 2:=congrArg Prod.fst h
 have h2:x % 2=y % 2:=congrArg Prod.snd h
 omega
structure StK (m:Nat) (ks:List (Int × Int)) (M:Int->Prop):Prop where
 nd:ks.Nodup
 rg:∀ p ∈ ks,∃ x:Nat,x < m/\p=prI (x:Int)
 mem:∀ x:Nat,x < m->(prI (x:Int) ∈ ks ↔ M (x:Int))
theorem StK.len {m:Nat} {ks:List (Int × Int)} {M:Int->Prop} (h:StK m ks M):ks.length<=m:=by
 have h1:ks.length<=((List.range m).map fun x:Nat=>prI (x:Int)).length:=by
  have gen:∀ {ms l:List (Int × Int)},ms.Nodup->(∀ x ∈ ms,x ∈ l)->ms.length<=l.length:=by
   intro ms
   induction ms with
   | nil=>intro l _ _; exact Nat.zero_le _
   | cons x ms ih=>
    intro l h1 h2
    rw [List.nodup_cons] at h1
    have hx:=h2 x (by simp)
    have:=ih (l:=l.erase x) h1.2 fun y hy=>(List.mem_erase_of_ne (fun z:y=x=>h1.1 (z ▸ hy))).mpr (h2 y (by simp [hy]))
    rw [List.length_erase_of_mem hx] at this
    have:=List.length_pos_of_mem hx
    rw [List.length_cons]
    omega
  exact gen h.nd fun p hp=>by
   obtain ⟨x,hx,rfl⟩:=h.rg p hp
   exact List.mem_map.mpr ⟨x,List.mem_range.mpr hx,rfl⟩
 rwa [List.length_map,List.length_range] at h1
theorem Zht {ks:List (Int × Int)} {k q:Int × Int}:q ∈ addP ks k ↔ q ∈ ks\/q=k:=by
 unfold addP
 split
 ·rename_i h
  exact ⟨.inl,fun z=>by rcases z with z | z; exact z; rw [z]; exact h⟩
 ·rw [List.mem_append,List.mem_singleton]
theorem StK.add {m:Nat} {ks:List (Int × Int)} {M:Int->Prop} (h:StK m ks M) {x:Nat} (hx:x < m):StK m (addP ks (prI (x:Int))) fun y=>M y\/y=(x:Int):=by
 refine ⟨?_,fun p hp=>?_,fun y hy=>?_⟩
 ·unfold addP
  split
  ·exact h.nd
  ·rename_i hn
   exact List.nodup_append.mpr ⟨h.nd,by simp,fun a ha b hb=>by
    have:b=prI (x:Int):=by simpa using hb
    subst this
    exact fun z=>hn (z ▸ ha)⟩
 ·rcases Zht.mp hp with hp | hp
  ·exact h.rg p hp
  ·exact ⟨x,hx,hp⟩
 ·rw [Zht,h.mem y hy]
  constructor
  ·rintro (z | z)
   ·exact .inl z
   ·exact .inr (Zoh z)
  ·rintro (z | z)
   ·exact .inl z
   ·exact .inr (by rw [z])
theorem StK.cong {m:Nat} {ks:List (Int × Int)} {M M':Int->Prop} (h:StK m ks M) (e:∀ x:Nat,x < m->(M (x:Int) ↔ M' (x:Int))):StK m ks M':=⟨h.nd,h.rg,fun x hx=>(h.mem x hx).trans (e x hx)⟩
theorem Zod (m:Nat) {M:Int->Prop} (h:∀ x:Nat,x < m->¬ M (x:Int)):StK m [] M:=⟨List.nodup_nil,(fun p hp=>nomatch hp),fun x hx=>⟨fun z=>(nomatch z),fun z=>(h x hx z).elim⟩⟩
theorem smP {T x:Nat} (hT:T<=24) (hx:x < 4 * T):SmP (prI (x:Int)):=by
 unfold SmP prI
 simp only
 omega
def fRnd:DSp:=fun ds Post=>∃ n ts o cs,∃ s:Nat,ds=[encWeb n ts,encOrd o,encRow cs,stD s]/\WebOk n ts/\OrdOk n ts o/\CrOk ts cs/\s < 4 * ts.length/\Post (crD (orb (cOn ts o cs) s))
def fCrF:NSp:=fun ds Post=>∃ n ts o cs,ds=[encWeb n ts,encOrd o,encRow cs]/\WebOk n ts/\OrdOk n ts o/\CrOk ts cs/\Post ((allC ts o cs).map crD)
theorem Zif (o:List (List Int)) (p:D->Bool) (hp:∀ r:List Int,p (rowD r)=r.isEmpty) (g:D->D) (hg:∀ d,g d=.tup []):((o.map rowD).filter p).map g=(List.replicate (lone o) ([]:List Int)).map crD:=by
 rw [Zkd o p hp g hg]
 rw [List.map_replicate,List.map_replicate]; rfl
section
variable {P:Program} {w:World} {K:PySem.W.Frag} {mg:Str->Option Value} {base:Heap} {f:Addr} {fd:FuncData}
theorem Zqu (mb:Mb mg) (C_crossed_onward:Callee P w K mg base 3 "crossed_onward" ["web","order","crossings","state"] (spD K fCrOn)) (F:Fun K "round_from" "round_from" s_round_from f fd):FnOk P w K mg base CX0 4 f fd ["web","order","crossings","state"] (spD K fRnd):=by
 refine F.ok sc_round_from (Zbn fun ds Post h=>by obtain ⟨_,_,_,_,_,rfl,_⟩:=h; rfl) (fun cdv A outer s H vs Q E hr h=>?_)
 have hu:=Zca hr
 have hv:=Zmx hr
 refine ⟨_,(Zad (Zao (i:=4) sc_round_from.nd rfl (Or.inl rfl) (Zf9 (Zaa (pv 3) Zae))) (Zad (Zao (i:=5) sc_round_from.nd rfl (Or.inl rfl) (Zay C_crossed_onward (hr.mono (by decide)) (Zaa (pv 0) (Zaa (pv 1) (Zaa (pv 2) (Zaa (pv 3) Zae)))))) (Zad (Zhr PassesOwn.never (Za0 (neTK K hv) (pv 5) (pv 3) (nomark _)) (Zad (Zbu (bmK K PySem.F.plainAttrs_list PySem.F.slot_list_append PySem.F.type_list_append Zbo (pv 4) (Zaa (pv 5) Zae))) (Zah (Zao (i:=5) sc_round_from.nd rfl (Or.inl rfl) (Zay C_crossed_onward (hr.mono (by decide)) (Zaa (pv 0) (Zaa (pv 1) (Zaa (pv 2) (Zaa (pv 5) Zae))))))))) (Zah (Zax (Zbk (tupK K) rfl (mb "tuple" (by decide)) Zbh (Zaa (pv 4) Zae))))))),Zd1 (fun ds Post hf=>?_) h⟩
 obtain ⟨n,ts,o,cs,e,rfl,hW,hO,hC,he,q⟩:=hf
 refine ⟨by simp,?_⟩
 dsimp only [startD,List.tail,List.map,List.length,List.replicate]
 have O:=Zh0 hW hO hC
 have hw:=hW.len
 have h0:(0:Int)<=(e:Int):=by omega
 have h1:(e:Int) < ((4 * ts.length:Nat):Int):=by omega
 refine Zai (Zb4 (Zgc (Zab (Zac rfl (Zaf ⟨by show 1<=sizeLine; decide,?_⟩)))))
 refine Zai (Zat (Zau (Zab (Zac rfl (Zab (Zac rfl (Zab (Zac rfl (Zab (Zac rfl (Zaf ⟨n,ts,o,cs,e,rfl,hW,hO,hC,he,?_⟩)))))))))))
 refine Zbc (fun Δ=>∃ k:Nat,IsOrb (cOn ts o cs) e k /\ Δ = [.val (encWeb n ts),.val (encOrd o),.val (encRow cs),.val (stD e),.own (.lst ((walkL (cOn ts o cs) e k).map stD)),.val (stD (iter (cOn ts o cs) e k))]) ?_ ?_
 ·refine Zh5 (fun μ Δ=>∃ k:Nat,1<=k/\NdTo (cOn ts o cs) e k /\ μ = 4 * ts.length - k /\ Δ = [.val (encWeb n ts),.val (encOrd o),.val (encRow cs),.val (stD e),.own (.lst ((walkL (cOn ts o cs) e k).map stD)),.val (stD (iter (cOn ts o cs) e k))]) ⟨_,1,Nat.le_refl _,Zj8 O h0 h1,rfl,rfl⟩ ?_
  rintro μ Δ1 ⟨k,hk,nd,rfl,rfl⟩
  have hkm:=Zhb O h0 h1 nd
  have r:=Zbe O h0 h1 k
  refine Zbf (Zar (Zac rfl (Zac rfl (Zrj (n:=1) (by decide) (Zra _) (Zra _) ⟨_,rfl,?_⟩))))
  show if (!(eqF 2 (stD _) (stD _)))=true then _ else _
  rw [Zqi]
  by_cases hb:iter (cOn ts o cs) e k=e
  ·rw [decide_eq_true hb]
   exact iteF ⟨k,⟨by omega,hb,nd⟩,rfl⟩
  ·rw [decide_eq_false hb]
   have nd2:=Ze7 O h0 h1 hk nd hb
   have hkm2:=Zhb O h0 h1 nd2
   refine iteT (Zai (Zez rfl rfl (Zac rfl ⟨_,_,rfl,rfl,?_,?_⟩)))
   ·rw [List.length_map,Zcc]; exact small1000 (by omega)
   refine Zat (Zau (Zab (Zac rfl (Zab (Zac rfl (Zab (Zac rfl (Zab (Zac rfl (Zaf ⟨n,ts,o,cs,(iter (cOn ts o cs) e k).toNat,?_,hW,hO,hC,by omega,?_⟩))))))))))
   ·rw [show (((iter (cOn ts o cs) e k).toNat:Nat):Int)=iter (cOn ts o cs) e k by omega]
   refine ⟨4 * ts.length - (k + 1),by omega,k + 1,by omega,nd2,rfl,?_⟩
   rw [Zdi,List.map_append,show (((iter (cOn ts o cs) e k).toNat:Nat):Int)=iter (cOn ts o cs) e k by omega]
   rfl
 rintro Δ1 ⟨k,O1,rfl⟩
 have hkm:=Zhb O h0 h1 O1.nd
 rw [O1.orb] at q
 exact Za9 (Za6 (Zab (Zd2 rfl (Zaf (Zc0 (Or.inl rfl) q)))))
theorem Zrz (mb:Mb mg) (C_round_from:Callee P w K mg base 4 "round_from" ["web","order","crossings","state"] (spD K fRnd)) (C_back_of:Callee P w K mg base 2 "back_of" ["web","crossings","state"] (spD K fBack)) (F:Fun K "crossed_faces" "crossed_faces" s_crossed_faces f fd):FnOk P w K mg base CX0 5 f fd ["web","order","crossings"] (spN K fCrF):=by
 refine F.ok sc_crossed_faces (Zgq fun ds Post h=>by obtain ⟨_,_,_,_,rfl,_⟩:=h; rfl) (fun cdv A outer s H vs Q E hr h=>?_)
 have hu:=Zca hr
 have hv:=Zmx hr
 refine ⟨_,(Zad (Zc4 (i:=3) ["row"] (show CompSc (defScope s_crossed_faces) ["web","order","crossings","told","gone","end","face","state"] _ [] [] from ⟨rfl,by decide +kernel,by decide +kernel,by decide +kernel,rfl,by decide +kernel⟩) rfl sc_crossed_faces.nd rfl (Or.inl rfl) (seqK K (pv 1)) (fun _ _ _ _ _=>(Zaz (i:=0) (show List.Nodup (["row"]:List Str) from by decide) rfl (Or.inl rfl))) (fun _ _ _ _ _=>(Zka (Ze6 (truK K (pv 0) (fun _=>rfl))))) (fun _ _ _ _ _=>(Zbp Zae))) (Zad (Zao (i:=4) sc_crossed_faces.nd rfl (Or.inl rfl) (Zip Zi5 rfl (mb "set" (by decide)) Zrp)) (Zad (Zd9 PassesOwn.never rfl (Zbz rfl (mb "range" (by decide)) (Zaa (Zaq Zdf Zag (Zal (lenK K) rfl (mb "len" (by decide)) Zbs (Zaa (Za2 (ixK K hu) (pv 0) Zag (fun _ _=>rfl)) Zae))) Zae)) (Zaz (i:=5) sc_crossed_faces.nd rfl (Or.inl rfl)) (Zah (Zcb (Za0 (ninT hu) (Zbp (Zaa (pv 5) (Zaa Zag Zae))) (pv 4) rfl) (Zad (Zao (i:=6) sc_crossed_faces.nd rfl (Or.inl rfl) (Zay C_round_from (hr.mono (by decide)) (Zaa (pv 0) (Zaa (pv 1) (Zaa (pv 2) (Zaa (Zbp (Zaa (pv 5) (Zaa Zag Zae))) Zae)))))) (Zad (Zbu (bmK K PySem.F.plainAttrs_list PySem.F.slot_list_append PySem.F.type_list_append Zbo (pv 3) (Zaa (pv 6) Zae))) (Zah (Zd9 PassesOwn.never rfl (seqK K (pv 6)) (Zaz (i:=7) sc_crossed_faces.nd rfl (Or.inl rfl)) (Zad (Zbu (bmS PySem.F.plainAttrs_set PySem.F.slot_set_add PySem.F.type_set_add (Zhu hu) (pv 4) (Zaa (pv 7) Zae))) (Zah (Zbu (bmS PySem.F.plainAttrs_set PySem.F.slot_set_add PySem.F.type_set_add (Zhu hu) (pv 4) (Zaa (Zay C_back_of (hr.mono (by decide)) (Zaa (pv 0) (Zaa (pv 2) (Zaa (pv 7) Zae)))) Zae))))))))) Za4))) (Zah (Zax (Zal (sortCK K hv) rfl (mb "sorted" (by decide)) Zga (Zaa (pv 3) Zae))))))),Zoi (fun ds Post hf=>?_) h⟩
 obtain ⟨n,ts,o,cs,rfl,hW,hO,hC,q⟩:=hf
 refine ⟨by simp,?_⟩
 dsimp only [startD,List.tail,List.map,List.length,List.replicate]
 have S:=Zj1 hW hO hC
 have O:=S.one
 have hw:=hW.len
 have hn:=hW.hi
 have ho:=hO.len
 have hlone:=Zhc o
 refine Zai (Zb4 (Zhz (by decide) (Zcx (Zac rfl ⟨_,rfl,?_,fun d=>match d with | .tup ds=>ds.isEmpty | _=>false,fun _=>.tup [],fun i d hd=>?_,?_⟩))))
 ·rw [List.length_map]; exact small1000 (by omega)
 ·rw [List.getElem?_map] at hd
  cases z:o[i]? with
  | none=>rw [z] at hd; cases hd
  | some r=>
   rw [z] at hd
   have hd:encRow r=d:=by simpa using hd
   subst hd
   refine Zej (Zbt (Zac rfl ⟨_,rfl,?_,?_⟩))
   ·cases r <;> rfl
   ·cases r with
    | nil=>exact iteT (Zbg (Zaf ⟨by decide,rfl,_,rfl⟩))
    | cons x t=>exact iteF ⟨_,rfl⟩
 rw [show o.map encRow=o.map rowD from rfl,Zif o _ (fun r=>by cases r <;> rfl) _ fun _=>rfl]
 refine Zai (Zb4 (Zoq ?_))
 refine Zbc (fun Δ=>∃ (ks:List (Int × Int)) (x5 x6 x7:L2.Slot),Δ = [.val (encWeb n ts),.val (encOrd o),.val (encRow cs),.own (.lst ((allC ts o cs).map crD)),.own (stO ks),x5,x6,x7]) ?_ ?_
 ·refine Zef (Zb0 ?_)
  refine Zab (Zar (Zaj (Za6 ?_)))
  refine Zab (Zar (Zac rfl (Zaj (Zas (d:=.tup (ts.map encTie)) rfl ?_))))
  refine Zaf (Zbm (Or.inr rfl) ?_)
  rw [List.length_map]
  refine jr_I (Or.inl ⟨by omega,by omega⟩) (Zaf ⟨_,rfl,by omega,by omega,?_⟩)
  have eL:((2:Int) * (ts.length:Int)).toNat=2 * ts.length:=by omega
  rw [eL]
  refine ⟨fun k Δ=>∃ (ks:List (Int × Int)) (x5 x6 x7:L2.Slot),StK (4 * ts.length) ks (CrM (cOn ts o cs) (bkI cs) k) /\ Δ = [.val (encWeb n ts),.val (encOrd o),.val (encRow cs),.own (.lst ((List.replicate (lone o) [] ++ crTo (cOn ts o cs) (bkI cs) k).map crD)),.own (stO ks),x5,x6,x7],⟨[],.any,.any,.any,Zod _ (fun x _ ⟨e,he,_⟩=>absurd he (Nat.not_lt_zero _)),?_⟩,?_,?_⟩
  ·rw [show crTo (cOn ts o cs) (bkI cs) 0=[] from rfl,List.append_nil]; rfl
  ·rintro k d Δ2 hd ⟨ks,x5,x6,x7,hS,rfl⟩
   obtain ⟨hk,rfl⟩:=Zcj hd
   rw [Int.zero_add]
   have fl:=Zfw (cOn ts o cs) (bkI cs) k
   have e2:((2 * k:Nat):Int)=2 * (k:Int):=by omega
   refine Zcq (Zbx (Zbf (Zoa (Zbg (Zab (Zac rfl (Zab (Zaj (Zaf ⟨Zcs,_,ks,prI ((2 * k:Nat):Int),rfl,rfl,?_,smP hw (by omega),_,rfl,?_⟩)))))))))
   ·rw [Zn6,e2,Zli]
   by_cases hm:CrM (cOn ts o cs) (bkI cs) k ((2 * k:Nat):Int)
   ·rw [decide_eq_true ((hS.mem (2 * k) (by omega)).mpr hm)]
    have hl:frB (cOn ts o cs) (bkI cs) k=false:=by
     rw [Bool.eq_false_iff]; intro z; exact Zed.mp z (e2 ▸ hm)
    refine iteF (Zaw ⟨ks,.val (.int (k:Int)),x6,x7,hS.cong fun x hx=>?_,?_⟩)
    ·rw [Zds S (by omega),hl]; simp
    ·rw [Zc5,if_neg (by rw [hl]; exact Bool.false_ne_true),List.append_nil]; rfl
   ·rw [decide_eq_false (fun z=>hm ((hS.mem (2 * k) (by omega)).mp z))]
    have hl:frB (cOn ts o cs) (bkI cs) k=true:=Zed.mpr (e2 ▸ hm)
    have ol:=Zkn O (e:=2 * (k:Int)) (by omega) (by omega)
    refine iteT (Zai (Zat (Zau (Zab (Zac rfl (Zab (Zac rfl (Zab (Zac rfl (Zab (Zbg (Zab (Zac rfl (Zab (Zaj (Zaf ⟨Zcs,Zaf ⟨n,ts,o,cs,2 * k,?_,hW,hO,hC,by omega,?_⟩⟩))))))))))))))))
    ·rw [e2,Zli]
    rw [e2]
    refine Zai (Zez rfl rfl (Zac rfl ⟨_,_,rfl,rfl,?_,?_⟩))
    ·rw [List.length_map,List.length_append,List.length_replicate]; exact small1000 (by omega)
    refine Zef (Zcx (Zac rfl ⟨_,rfl,fun i Δ=>∃ (ks2:List (Int × Int)) (x7:L2.Slot),StK (4 * ts.length) ks2 (fun x=>CrM (cOn ts o cs) (bkI cs) k x\/x ∈ (orb (cOn ts o cs) (2 * (k:Int))).take i\/∃ y ∈ (orb (cOn ts o cs) (2 * (k:Int))).take i,bkI cs y=x) /\ Δ = [.val (encWeb n ts),.val (encOrd o),.val (encRow cs),.own (.lst ((List.replicate (lone o) [] ++ crTo (cOn ts o cs) (bkI cs) k).map crD ++ [crD (orb (cOn ts o cs) (2 * (k:Int)))])),.own (stO ks2),.val (.int (k:Int)),.val (crD (orb (cOn ts o cs) (2 * (k:Int)))),x7],⟨ks,_,hS.cong fun x hx=>by rw [List.take_zero]; simp,rfl⟩,?_,?_⟩))
    ·rintro i d Δ3 hd ⟨ks2,x7,hS2,rfl⟩
     rw [List.getElem?_map] at hd
     cases z:(orb (cOn ts o cs) (2 * (k:Int)))[i]? with
     | none=>rw [z] at hd; cases hd
     | some y=>
      rw [z] at hd
      have hd:stD y=d:=by simpa using hd
      subst hd
      obtain ⟨r0,r1⟩:=Zf3 O (by omega) (by omega) (List.mem_of_getElem? z)
      obtain ⟨Y,rfl⟩:∃ Y:Nat,y=(Y:Int):=⟨y.toNat,by omega⟩
      have hY:Y < 4 * ts.length:=by omega
      obtain ⟨_,b0,b1⟩:=S.bb _ r0 r1
      obtain ⟨B,hB⟩:∃ B:Nat,bkI cs (Y:Int)=(B:Int):=⟨(bkI cs (Y:Int)).toNat,by omega⟩
      have hB4:B < 4 * ts.length:=by omega
      have l2:=hS2.len
      have S3:=hS2.add hY
      have l3:=S3.len
      refine Zcq (Zai (Zhf rfl rfl (Zac rfl ⟨_,ks2,prI (Y:Int),rfl,rfl,Zn6 _,smP hw hY,by omega,?_⟩)))
      refine Zhf rfl rfl (Zau (Zab (Zac rfl (Zab (Zac rfl (Zab (Zac rfl (Zaf ⟨_,ts,cs,Y,rfl,hC,hY,_,_,prI (B:Int),rfl,rfl,?_,smP hw hB4,by omega,_,_,(S3.add hB4).cong fun x hx=>?_,rfl⟩))))))))
      ·rw [Zn6,<- hB]
      ·rw [List.take_add_one,z]
       simp only [Option.toList_some,List.mem_append,List.mem_singleton]
       constructor
       ·rintro ((a | a) | a)
        ·rcases a with a | a | ⟨y,a,b⟩
         ·exact .inl a
         ·exact .inr (.inl (.inl a))
         ·exact .inr (.inr ⟨y,.inl a,b⟩)
        ·exact .inr (.inl (.inr a))
        ·exact .inr (.inr ⟨_,.inr rfl,by rw [hB,a]⟩)
       ·rintro (a | (a | a) | ⟨y,a | a,b⟩)
        ·exact .inl (.inl (.inl a))
        ·exact .inl (.inl (.inr (.inl a)))
        ·exact .inl (.inr a)
        ·exact .inl (.inl (.inr (.inr ⟨y,a,b⟩)))
        ·subst a; exact .inr (by rw [<- b,hB])
    ·rintro Δ3 ⟨ks2,x7,hS2,rfl⟩
     rw [List.length_map] at hS2
     rw [List.take_length] at hS2
     refine ⟨ks2,.val (.int (k:Int)),.val (crD (orb (cOn ts o cs) (2 * (k:Int)))),x7,hS2.cong fun x hx=>?_,?_⟩
     ·rw [Zds S (by omega),hl]; simp
     ·rw [Zc5,if_pos hl,<- List.append_assoc,List.map_append (l₂:=[orb (cOn ts o cs) (2 * (k:Int))])]
      rfl
  ·rintro Δ2 ⟨ks,x5,x6,x7,hS,rfl⟩
   rw [Zbb]
   exact ⟨ks,_,_,_,rfl⟩
 rintro Δ1 ⟨ks,x5,x6,x7,rfl⟩
 have al:=Zdr (cs:=cs) hW hO
 rw [Znv] at q ⊢
 exact Zg6 (Zhp (Zab (Zd2 rfl (Zaf ⟨_,rfl,by rw [List.length_map]; omega,Zic hW hO hC,_,rfl,q⟩))))
end
section
variable {P:Program} {w:World} {K:PySem.W.Frag} {mg:Str->Option Value} {base:Heap} {f:Addr} {fd:FuncData}
theorem Zo0 {Δ:Evt} {Pd:D->Evt->Prop} {n:Nat} {x:L2.Slot} {kvs:List (Key × D)} (hx:Δ[n]? = some x) (ho:x.od=some (.dct kvs)) (p:Pd (.int kvs.length) Δ):JE K (tCB (rLenU K) (tCons (tVar n) tNil)) Δ Pd:=fun g G H σ Q k c=>by
 obtain ⟨a,o,h1,h2,h3,h4,h5⟩:=k.own n x _ hx ho
 cases o with
 | dK vs=>
  have hl:vs.length=kvs.length:=Paired.length h3
  refine ⟨.ref a,h1,.inr ⟨a,vs,rfl,h2,?_⟩⟩
  rw [hl]
  exact c _ _ G H Δ k (Same.refl _) (.int _) p
 | _=>exact absurd h3 (fun z=>z)
end
def rowPairsB (r:List Int):List (Int × Int):=(List.range r.length).map fun k=>(r.getD k 0,r.getD (pvI r.length k) 0)
theorem Zc3 (r:List Int):(rowPairsB r).length=r.length:=by simp [rowPairsB]
theorem Zb7 {r:List Int} {k:Nat} (h:k < r.length):(rowPairsB r)[k]? = some (r.getD k 0,r.getD (pvI r.length k) 0):=by
 unfold rowPairsB; rw [List.getElem?_map,List.getElem?_range h]; rfl
theorem Zeq (r:List Int):(rowPairsB r).map (·.1)=r:=by
 apply List.ext_getElem?
 intro k
 rw [List.getElem?_map]
 by_cases h:k < r.length
 ·rw [Zb7 h,List.getElem?_eq_getElem h,List.getD_eq_getElem?_getD,List.getElem?_eq_getElem h]; rfl
 ·rw [List.getElem?_eq_none (by rw [Zc3]; omega),List.getElem?_eq_none (by omega)]; rfl
theorem Ziy {r:List Int} {x:Int} (h:x ∈ r):(x,prevIn r x) ∈ rowPairsB r:=by
 obtain ⟨h1,h2,_⟩:=Zco h
 refine List.mem_of_getElem? (i:=r.idxOf x) ?_
 rw [Zb7 h1]
 congr 1
 rw [List.getD_eq_getElem?_getD,h2]
 rfl
theorem Zcv (o:List (List Int)):(o.flatMap rowPairsB).map (·.1)=o.flatten:=by
 induction o with
 | nil=>rfl
 | cons r o ih=>rw [List.flatMap_cons,List.map_append,ih,Zeq,List.flatten_cons]
theorem Zmb {n:Int} {ts:List (Int × Int)} {o:List (List Int)} (hW:WebOk n ts) (hO:OrdOk n ts o) {e:Nat} (he:e < 2 * ts.length):valD ((o.flatMap rowPairsB).map encPair) (.inl (e:Int))=some (.int (preOf ts o e)):=by
 obtain ⟨g1,g2,g3⟩:=Zba hW hO he
 exact Znh (by rw [Zcv]; exact hO.flat) (List.mem_flatMap.mpr ⟨_,List.mem_of_getElem? g1,Ziy g3⟩)
theorem Zi1 {A B:List (Int × Int)} {y:Int × Int} (h:((A ++ y :: B).map (·.1)).Nodup):y.1 ∉ A.map (·.1):=by
 rw [List.map_append,List.nodup_append] at h
 intro hm
 exact h.2.2 _ hm _ (by rw [List.map_cons]; exact List.mem_cons_self) rfl
theorem Zhi {g:List Int->List (Int × Int)} {o:List (List Int)} (nd:((o.flatMap g).map (·.1)).Nodup) {i:Nat} {r:List Int} (z:o[i]? = some r) {k:Nat} {x y:Int} (hk:(g r)[k]? = some (x,y)) :
  putD (((o.take i).flatMap g ++ (g r).take k).map encPair) (.inl x) (.int y)=((o.take i).flatMap g ++ (g r).take (k + 1)).map encPair/\((o.take i).flatMap g ++ (g r).take k).length < (o.flatMap g).length:=by
 have tk:o.take (i + 1)=o.take i ++ [r]:=by rw [List.take_add_one,z]; rfl
 have eo:o.flatMap g=(o.take i).flatMap g ++ (g r ++ (o.drop (i + 1)).flatMap g):=by
  conv=>lhs; rw [<- List.take_append_drop (i + 1) o,tk]
  rw [List.flatMap_append,List.flatMap_append]
  simp [List.append_assoc]
 have eT:(g r).take (k + 1)=(g r).take k ++ [(x,y)]:=by rw [List.take_add_one,hk]; rfl
 have eD:g r=(g r).take k ++ (x,y) :: (g r).drop (k + 1):=by
  conv=>lhs; rw [<- List.take_append_drop (k + 1) (g r),eT]
  simp
 have hlt:=(List.getElem?_eq_some_iff.mp hk).1
 refine ⟨?_,?_⟩
 ·rw [eo,eD,List.append_assoc,<- List.append_assoc,List.cons_append] at nd
  rw [Zpc (Zi1 nd),eT,List.append_assoc]
 ·rw [eo,List.length_append,List.length_append,List.length_append,List.length_take]; omega
theorem Zk7 {g:List Int->List (Int × Int)} {o:List (List Int)} {i:Nat} {r:List Int} (z:o[i]? = some r) {k:Nat} (hk:k=(g r).length):(o.take i).flatMap g ++ (g r).take k=(o.take (i + 1)).flatMap g:=by
 subst hk
 rw [List.take_length,List.take_add_one,z,List.flatMap_append]
 simp
def keyI (x:Int):List Key:=(stRow x).map .inl
theorem Zmn {x y:Int} (h:keyI x=keyI y):x=y:=by
 have h1:(Sum.inl (x / 2):Key)=.inl (y / 2):=(List.cons.inj h).1
 have h2:(Sum.inl (x % 2):Key)=.inl (y % 2):=(List.cons.inj (List.cons.inj h).2).1
 injection h1 with h1
 injection h2 with h2
 omega
structure MtK (m:Nat) (kvs:List (List Key × D)) (M:Int->Prop):Prop where
 mem:∀ x:Nat,x < m->((valT kvs (keyI (x:Int))).isSome=true ↔ M (x:Int))
theorem Zgl (kvs:List (List Key × D)) (k:List Key):(valT kvs k).isSome=kvs.any fun kv=>decide (kv.1=k):=by
 unfold valT
 rw [Option.isSome_map,Bool.eq_iff_iff,List.find?_isSome,List.any_eq_true]
theorem Zm1 (kvs:List (List Key × D)) (k q:List Key) (v:D):((putT kvs k v).any fun kv=>decide (kv.1=q))=((kvs.any fun kv=>decide (kv.1=q)) || decide (k=q)):=by
 unfold putT
 by_cases c:(kvs.any fun kv=>decide (kv.1=k))=true
 ·rw [if_pos c,List.any_map]
  have e:((fun kv:List Key × D=>decide (kv.1=q)) ∘ fun kv=>if kv.1=k then (kv.1,v) else kv)=fun kv=>decide (kv.1=q):=by
   funext kv
   show decide ((if kv.1=k then (kv.1,v) else kv).1=q)=_
   split <;> rfl
  rw [e]
  by_cases h:k=q
  ·subst h; rw [c]; rfl
  ·rw [decide_eq_false h,Bool.or_false]
 ·rw [if_neg c,List.any_append]
  simp
theorem Zh7 (kvs:List (List Key × D)) (k:List Key) (v:D):(putT kvs k v).length<=kvs.length + 1:=by
 unfold putT
 split
 ·rw [List.length_map]; omega
 ·rw [List.length_append]; exact Nat.le_refl _
theorem MtK.put {m:Nat} {kvs:List (List Key × D)} {M:Int->Prop} (h:MtK m kvs M) {x:Int} (v:D):MtK m (putT kvs (keyI x) v) fun y=>M y\/y=x:=by
 refine ⟨fun y hy=>?_⟩
 rw [Zgl,Zm1,Bool.or_eq_true,<- Zgl,h.mem y hy,decide_eq_true_eq]
 exact ⟨fun z=>z.imp id fun z=>(Zmn z).symm,fun z=>z.imp id fun z=>by rw [z]⟩
theorem MtK.cong {m:Nat} {kvs:List (List Key × D)} {M M':Int->Prop} (h:MtK m kvs M) (e:∀ x:Nat,x < m->(M (x:Int) ↔ M' (x:Int))):MtK m kvs M':=⟨fun x hx=>(h.mem x hx).trans (e x hx)⟩
theorem Znz (m:Nat) {M:Int->Prop} (h:∀ x:Nat,x < m->¬ M (x:Int)):MtK m [] M:=⟨fun x hx=>⟨fun z=>Bool.noConfusion z,fun z=>(h x hx z).elim⟩⟩
def fLCr:NSp:=fun ds Post=>∃ n ts o cs,ds=[encOrd o,encRow cs]/\WebOk n ts/\OrdOk n ts o/\CrOk ts cs/\Post ((allC ts o cs).map crD)
section
variable {P:Program} {w:World} {K:PySem.W.Frag} {mg:Str->Option Value} {base:Heap} {f:Addr} {fd:FuncData}
theorem Zq6 (mb:Mb mg) (C__law_partner:Callee P w K mg base 1 "_law_partner" ["_law_end"] (spD K fPart)) (F:Fun K "_law_crossed" "_law_crossed" s_law_crossed f fd):FnOk P w K mg base CX0 2 f fd ["_law_order_here","_law_crossings_here"] (spN K fLCr):=by
 refine F.ok sc_law_crossed (Zgq fun ds Post h=>by obtain ⟨_,_,_,_,rfl,_⟩:=h; rfl) (fun cdv A outer s H vs Q E hr h=>?_)
 have hu:=Zca hr
 have hv:=Zmx hr
 refine ⟨_,(Zad (Zj5 (i:=2) (j:=3) rfl sc_law_crossed.nd rfl rfl (by decide) rfl rfl (Zaa Zil (Zaa Zil Zae)) rfl) (Zad (Zd9 PassesOwn.never rfl (seqK K (pv 0)) (Zaz (i:=4) sc_law_crossed.nd rfl (Or.inl rfl)) (Zah (Zd9 PassesOwn.never rfl (Zbz rfl (mb "range" (by decide)) (Zaa (Zal (lenK K) rfl (mb "len" (by decide)) Zbs (Zaa (pv 4) Zae)) Zae)) (Zaz (i:=5) sc_law_crossed.nd rfl (Or.inl rfl)) (Zad (Zdo (Za2 (ixK K hu) (pv 4) (pv 5) (fun _ _=>rfl)) (Zd4 (pv 2) (Za2 (ixK K hu) (pv 4) (Zaq Zde (pv 5) Zag) (fun _ _=>rfl)) (setU hu))) (Zah (Zdo (Za2 (ixK K hu) (pv 4) (Zaq Zde (pv 5) Zag) (fun _ _=>rfl)) (Zd4 (pv 3) (Za2 (ixK K hu) (pv 4) (pv 5) (fun _ _=>rfl)) (setU hu)))))))) (Zad (Zc4 (i:=6) ["_law_row"] (show CompSc (defScope s_law_crossed) ["_law_order_here","_law_crossings_here","_law_behind","_law_ahead","_law_row","_law_k","_law_found","_law_met","_law_end","_law_walk","_law_state","_law_other","_law_hand"] _ [] [] from ⟨rfl,by decide +kernel,by decide +kernel,by decide +kernel,rfl,by decide +kernel⟩) rfl sc_law_crossed.nd rfl (Or.inl rfl) (seqK K (pv 0)) (fun _ _ _ _ _=>(Zaz (i:=0) (show List.Nodup (["_law_row"]:List Str) from by decide) rfl (Or.inl rfl))) (fun _ _ _ _ _=>(Zka (Za0 Zb8 (Zal (lenK K) rfl (mb "len" (by decide)) Zbs (Zaa (pv 0) Zae)) Zag (nomark _)))) (fun _ _ _ _ _=>(Zbp Zae))) (Zad (Zao (i:=7) sc_law_crossed.nd rfl (Or.inl rfl) Zmk) (Zad (Zd9 PassesOwn.never rfl (Zbz rfl (mb "range" (by decide)) (Zaa (Zal (lenK K) rfl (mb "len" (by decide)) Zbs (Zaa (pv 2) Zae)) Zae)) (Zaz (i:=8) sc_law_crossed.nd rfl (Or.inl rfl)) (Zad (Zao (i:=9) sc_law_crossed.nd rfl (Or.inl rfl) (Zf9 Zae)) (Zad (Zao (i:=10) sc_law_crossed.nd rfl (Or.inl rfl) (Zbp (Zaa (pv 8) (Zaa Zag Zae)))) (Zad (Zhr PassesOwn.never (Za0 (notinK K hu) (pv 10) (pv 7) rfl) (Zad (Zao (i:=11) sc_law_crossed.nd rfl (Or.inl rfl) (Zay C__law_partner (hr.mono (by decide)) (Zaa (Za2 (ixK K hu) (pv 10) Zag (fun _ _=>rfl)) Zae))) (Zad (Zao (i:=12) sc_law_crossed.nd rfl (Or.inl rfl) (Zaq Zbd (Zaq (addK K) (Za2 (ixK K hu) (pv 10) Zag (fun _ _=>rfl)) (Za2 (ixK K hu) (pv 1) (Zaq Zd8 (Za2 (ixK K hu) (pv 10) Zag (fun _ _=>rfl)) Zag) (fun _ _=>rfl))) Zag)) (Zad (Zdo Zin (Zd4 (pv 7) (pv 10) (setU hu))) (Zad (Zdo Zin (Zd4 (pv 7) (Zbp (Zaa (pv 11) (Zaa (Zaq Zde Zag (pv 12)) Zae))) (setU hu))) (Zad (Zbu (bmK K PySem.F.plainAttrs_list PySem.F.slot_list_append PySem.F.type_list_append Zbo (pv 9) (Zaa (pv 10) Zae))) (Zad (Zao (i:=10) sc_law_crossed.nd rfl (Or.inl rfl) (Zbp (Zaa (Za2 (ixK K hu) (pv 2) (pv 11) (fun _ _=>rfl)) (Zaa Zag Zae)))) (Zah (Zcb (Za0 Zb8 (pv 12) Zag (nomark _)) (Zah (Zao (i:=10) sc_law_crossed.nd rfl (Or.inl rfl) (Zbp (Zaa (Za2 (ixK K hu) (pv 3) (pv 11) (fun _ _=>rfl)) (Zaa Zag Zae))))) Za4))))))))) (Zah (Zcb (Za0 Zpu (Zal (lenK K) rfl (mb "len" (by decide)) Zbs (Zaa (pv 9) Zae)) Zag (nomark _)) (Zah (Zbu (bmK K PySem.F.plainAttrs_list PySem.F.slot_list_append PySem.F.type_list_append Zbo (pv 6) (Zaa (Zbk (tupK K) rfl (mb "tuple" (by decide)) Zbh (Zaa (pv 9) Zae)) Zae)))) Za4)))))) (Zah (Zax (Zal (sortCK K hv) rfl (mb "sorted" (by decide)) Zga (Zaa (pv 6) Zae))))))))),Zoi (fun ds Post hf=>?_) h⟩
 obtain ⟨n,ts,o,cs,rfl,hW,hO,hC,q⟩:=hf
 refine ⟨by simp,?_⟩
 dsimp only [startD,List.tail,List.map,List.length,List.replicate]
 have S:=Zj1 hW hO hC
 have O:=S.one
 have hw:=hW.len
 have hn:=hW.hi
 have ho:=hO.len
 have hlone:=Zhc o
 have hfe:=hO.flat_eq hW
 have hpA:=Zcy hO.flat
 have hpB:((o.flatMap rowPairsB).map (·.1)).Nodup:=by rw [Zcv]; exact hO.flat
 have hlA:(o.flatMap rowPairs).length=2 * ts.length:=by
  rw [<- hfe]
  clear q hO hfe hpA hpB hlone ho S O
  induction o with
  | nil=>rfl
  | cons r l ih=>rw [List.flatMap_cons,List.flatten_cons,List.length_append,List.length_append,Zdn,ih]
 have hlB:(o.flatMap rowPairsB).length=2 * ts.length:=by rw [<- hfe,<- Zcv,List.length_map]
 obtain ⟨da,eda⟩:∃ da,(o.flatMap rowPairs).map encPair=da:=⟨_,rfl⟩
 obtain ⟨db,edb⟩:∃ db,(o.flatMap rowPairsB).map encPair=db:=⟨_,rfl⟩
 refine Zai (Zl9 ?_)
 refine Zbc (fun Δ=>∃ x4 x5:L2.Slot,Δ = [.val (encOrd o),.val (encRow cs),.own (.dct da),.own (.dct db),x4,x5,.any,.any,.any,.any,.any,.any,.any]) ?_ ?_
 ·refine Zef (Zcx (Zac rfl ⟨o.map encRow,rfl,fun i Δ=>∃ x4 x5:L2.Slot,Δ = [.val (encOrd o),.val (encRow cs),.own (.dct (((o.take i).flatMap rowPairs).map encPair)),.own (.dct (((o.take i).flatMap rowPairsB).map encPair)),x4,x5,.any,.any,.any,.any,.any,.any,.any],⟨_,_,rfl⟩,?_,?_⟩))
  ·rintro i d Δ2 hd ⟨x4,x5,rfl⟩
   rw [List.getElem?_map] at hd
   cases z:o[i]? with
   | none=>rw [z] at hd; cases hd
   | some r=>
    rw [z] at hd
    have hd:encRow r=d:=by simpa using hd
    subst hd
    have hi:i < o.length:=(List.getElem?_eq_some_iff.mp z).1
    have hrl:r.length<=48:=by have:=(hO.row i r z).len; omega
    refine Zcq (Zef (Zb0 (Zab (Za6 (Zab (Zac rfl (Zaf (Zbm (Or.inr rfl) (Zaf ⟨_,rfl,?_,?_,?_⟩)))))))))
    ·rw [List.length_map]; omega
    ·rw [List.length_map]; omega
    rw [List.length_map,Int.toNat_natCast]
    refine ⟨fun k Δ=>∃ x5:L2.Slot,Δ = [.val (encOrd o),.val (encRow cs),.own (.dct (((o.take i).flatMap rowPairs ++ (rowPairs r).take k).map encPair)),.own (.dct (((o.take i).flatMap rowPairsB ++ (rowPairsB r).take k).map encPair)),.val (encRow r),x5,.any,.any,.any,.any,.any,.any,.any],⟨_,by rw [List.take_zero,List.take_zero,List.append_nil,List.append_nil]; rfl⟩,?_,?_⟩
    ·rintro k d Δ2 hd ⟨x5,rfl⟩
     obtain ⟨hk,rfl⟩:=Zcj hd
     rw [Int.zero_add]
     have hpv:(k + r.length - 1) % r.length=pvI r.length k:=by
      unfold pvI
      split
      ·rename_i h0; subst h0; rw [Nat.zero_add,Nat.mod_eq_of_lt (by omega)]
      ·rw [show k + r.length - 1=(k - 1) + r.length by omega,Nat.add_mod_right,Nat.mod_eq_of_lt (by omega)]
     have hgA:=Zdp hk
     rw [hpv] at hgA
     have hgB:=Zb7 hk
     have a1:atI (r.map D.int) (k:Int)=some (.int (r.getD k 0)):=Zbi (by rw [List.getElem?_map,List.getD_eq_getElem?_getD,List.getElem?_eq_getElem hk]; rfl)
     have a2:=Zjo hk
     obtain ⟨pA,lA⟩:=Zhi hpA z hgA
     obtain ⟨pB,lB⟩:=Zhi hpB z hgB
     refine Zcq (Zai (Zjz (Zar (Zac rfl (Zac rfl (Zas a1 ⟨⟨_,_,rfl,rfl⟩,Zar (Zac rfl (Zar (Zac rfl (Zaj (Zd6 (Zas a2 ⟨_,_,_,rfl,rfl,rfl,?_,?_⟩))))))⟩))))))
     ·rw [List.length_map]; exact small1000 (by omega)
     refine Zjz (Zar (Zac rfl (Zar (Zac rfl (Zaj (Zd6 (Zas a2 ⟨⟨_,_,rfl,rfl⟩,Zar (Zac rfl (Zac rfl (Zas a1 ⟨_,_,_,rfl,rfl,rfl,?_,?_⟩)))⟩)))))))
     ·rw [List.length_map]; exact small1000 (by omega)
     refine ⟨.val (.int (k:Int)),?_⟩
     show [_,_,L2.Slot.own (.dct (putD _ _ _)),L2.Slot.own (.dct (putD _ _ _)),_,_,_,_,_,_,_,_,_]=_
     rw [pA,pB]
    ·rintro Δ2 ⟨x5,rfl⟩
     rw [Zbb]
     refine ⟨.val (encRow r),x5,?_⟩
     rw [Zk7 z (Zdn r).symm,Zk7 z (Zc3 r).symm]
  ·rintro Δ2 ⟨x4,x5,rfl⟩
   rw [List.length_map,List.take_length,eda,edb]
   exact ⟨x4,x5,rfl⟩
 rintro Δ1 ⟨x4,x5,rfl⟩
 have lda:da.length=2 * ts.length:=by rw [<- eda,List.length_map]; exact hlA
 have vA:∀ {e:Nat},e < 2 * ts.length->valD da (.inl (e:Int))=some (.int (folOf ts o e)):=fun he=>by rw [<- eda]; exact Zn7 hW hO he
 have vB:∀ {e:Nat},e < 2 * ts.length->valD db (.inl (e:Int))=some (.int (preOf ts o e)):=fun he=>by rw [<- edb]; exact Zmb hW hO he
 refine Zai (Zb4 (Zhz (by decide) (Zcx (Zac rfl ⟨_,rfl,?_,fun d=>match d with | .tup ds=>decide ((ds.length:Int)=0) | _=>false,fun _=>.tup [],fun i d hd=>?_,?_⟩))))
 ·rw [List.length_map]; exact small1000 (by omega)
 ·rw [List.getElem?_map] at hd
  cases z:o[i]? with
  | none=>rw [z] at hd; cases hd
  | some r=>
   rw [z] at hd
   have hd:encRow r=d:=by simpa using hd
   subst hd
   refine Zbf (Zar (Za6 (Zab (Zac rfl (Zaf (Zbm (Or.inr rfl) (Zaj (Zer ⟨_,rfl,rfl,?_⟩))))))))
   by_cases hz:((r.map D.int).length:Int)=0
   ·rw [decide_eq_true hz]
    exact iteT (Zbg (Zaf ⟨by decide,rfl,_,rfl⟩))
   ·rw [decide_eq_false hz]
    exact iteF ⟨_,rfl⟩
 rw [show o.map encRow=o.map rowD from rfl,Zif o _ (fun r=>by
  show decide (((r.map D.int).length:Int)=0)=r.isEmpty
  cases r with
  | nil=>rfl
  | cons x t=>rw [List.length_map,List.length_cons]; exact decide_eq_false (by omega)) _ fun _=>rfl]
 refine Zai (Zb4 (Zm9 ?_))
 refine Zbc (fun Δ=>∃ (kvs:List (List Key × D)) (x8 x9 x10 x11 x12:L2.Slot),Δ = [.val (encOrd o),.val (encRow cs),.own (.dct da),.own (.dct db),x4,x5,.own (.lst ((allC ts o cs).map crD)),.own (.dtt kvs),x8,x9,x10,x11,x12]) ?_ ?_
 ·refine Zef (Zb0 (Zab (Zo0 rfl rfl (Zaf ⟨_,rfl,?_,?_,?_⟩))))
  ·omega
  ·rw [lda]; omega
  rw [lda,Int.toNat_natCast]
  refine ⟨fun k Δ=>∃ (kvs:List (List Key × D)) (x8 x9 x10 x11 x12:L2.Slot),MtK (4 * ts.length) kvs (CrM (cOn ts o cs) (bkI cs) k)/\kvs.length<=192 * k /\ Δ = [.val (encOrd o),.val (encRow cs),.own (.dct da),.own (.dct db),x4,x5,.own (.lst ((List.replicate (lone o) [] ++ crTo (cOn ts o cs) (bkI cs) k).map crD)),.own (.dtt kvs),x8,x9,x10,x11,x12],⟨[],.any,.any,.any,.any,.any,Znz _ (fun x _ ⟨e,he,_⟩=>absurd he (Nat.not_lt_zero _)),Nat.zero_le _,?_⟩,?_,?_⟩
  ·rw [show crTo (cOn ts o cs) (bkI cs) 0=[] from rfl,List.append_nil]; rfl
  ·rintro k d Δ2 hd ⟨kvs,x8,x9,x10,x11,x12,hms,hml,rfl⟩
   obtain ⟨hk,rfl⟩:=Zcj hd
   rw [Int.zero_add]
   have h0:(0:Int)<=2 * (k:Int):=by omega
   have h1:2 * (k:Int) < ((4 * ts.length:Nat):Int):=by omega
   have fl:=Zfw (cOn ts o cs) (bkI cs) k
   refine Zcq (Zai (Zb4 (Zgc (Zaf ⟨by decide,?_⟩))))
   refine Zai (Zat (Zbg (Zab (Zac rfl (Zab (Zaj (Zaf ⟨Zcs,?_⟩)))))))
   rw [<- Zli]
   refine Zbc (fun Δ=>∃ (j:Nat) (kv2:List (List Key × D)) (x11 x12:L2.Slot),((j=0/\CrM (cOn ts o cs) (bkI cs) k (2 * (k:Int)))\/(IsOrb (cOn ts o cs) (2 * (k:Int)) j/\¬ CrM (cOn ts o cs) (bkI cs) k (2 * (k:Int))))/\MtK (4 * ts.length) kv2 (fun x=>CrM (cOn ts o cs) (bkI cs) k x\/x ∈ walkL (cOn ts o cs) (2 * (k:Int)) j\/∃ y ∈ walkL (cOn ts o cs) (2 * (k:Int)) j,bkI cs y=x)/\kv2.length<=192 * k + 2 * j/\j<=96 ∧
    Δ = [.val (encOrd o),.val (encRow cs),.own (.dct da),.own (.dct db),x4,x5,.own (.lst ((List.replicate (lone o) [] ++ crTo (cOn ts o cs) (bkI cs) k).map crD)),.own (.dtt kv2),.val (.int (k:Int)),.own (.lst ((walkL (cOn ts o cs) (2 * (k:Int)) j).map stD)),.val (stD (iter (cOn ts o cs) (2 * (k:Int)) j)),x11,x12]) ?_ ?_
   ·refine Zh5 (fun μ Δ=>∃ (j:Nat) (kv2:List (List Key × D)) (x11 x12:L2.Slot),(j=0\/¬ CrM (cOn ts o cs) (bkI cs) k (2 * (k:Int)))/\NdTo (cOn ts o cs) (2 * (k:Int)) j /\ μ = 4 * ts.length - j/\MtK (4 * ts.length) kv2 (fun x=>CrM (cOn ts o cs) (bkI cs) k x\/x ∈ walkL (cOn ts o cs) (2 * (k:Int)) j\/∃ y ∈ walkL (cOn ts o cs) (2 * (k:Int)) j,bkI cs y=x)/\kv2.length<=192 * k + 2 * j ∧
     Δ = [.val (encOrd o),.val (encRow cs),.own (.dct da),.own (.dct db),x4,x5,.own (.lst ((List.replicate (lone o) [] ++ crTo (cOn ts o cs) (bkI cs) k).map crD)),.own (.dtt kv2),.val (.int (k:Int)),.own (.lst ((walkL (cOn ts o cs) (2 * (k:Int)) j).map stD)),.val (stD (iter (cOn ts o cs) (2 * (k:Int)) j)),x11,x12]) ⟨_,0,kvs,_,_,.inl rfl,fun i j hi=>by omega,rfl,hms.cong fun x hx=>?_,hml,rfl⟩ ?_
    ·rw [show walkL (cOn ts o cs) (2 * (k:Int)) 0=[] from rfl]; simp
    rintro μ Δ1 ⟨j,kv2,x11,x12,hj,nd,rfl,hm2,hl2,rfl⟩
    have hjm:=Zhb O h0 h1 nd
    have r:=Zbe O h0 h1 j
    obtain ⟨Y,hY⟩:∃ Y:Nat,iter (cOn ts o cs) (2 * (k:Int)) j=(Y:Int):=⟨(iter (cOn ts o cs) (2 * (k:Int)) j).toNat,by omega⟩
    have hY4:Y < 4 * ts.length:=by omega
    refine Zbf (Zof (Zac rfl ⟨_,kv2,stRow (iter (cOn ts o cs) (2 * (k:Int)) j),rfl,rfl,rfl,_,rfl,?_⟩))
    show if (!(valT kv2 (keyI (iter (cOn ts o cs) (2 * (k:Int)) j))).isSome)=true then _ else _
    by_cases hb:(valT kv2 (keyI (iter (cOn ts o cs) (2 * (k:Int)) j))).isSome=true
    ·rw [hb]
     refine iteF ⟨j,kv2,x11,x12,?_,hm2,hl2,by omega,rfl⟩
     rw [hY] at hb
     have hb:=(hm2.mem Y hY4).mp hb
     rw [<- hY] at hb
     rcases hb with hb | hb | ⟨y,hy,hb⟩
     ·have hM:=Zmp S (by omega) h0 h1 (Zc2 O h0 h1 j) hb
      rcases hj with hj | hj
      ·exact .inl ⟨hj,hM⟩
      ·exact absurd hM hj
     ·obtain ⟨i,hi,e⟩:=Zav.mp hb
      have hj1:1<=j:=by omega
      have hj2:¬ CrM (cOn ts o cs) (bkI cs) k (2 * (k:Int)):=by
       rcases hj with hj | hj
       ·omega
       ·exact hj
      refine .inr ⟨⟨by omega,?_,nd⟩,hj2⟩
      apply Classical.byContradiction
      intro hne
      have:=Ze7 O h0 h1 hj1 nd hne i j (by omega) (by omega) e
      omega
     ·obtain ⟨i,hi,rfl⟩:=Zav.mp hy
      have ri:=Zbe O h0 h1 i
      refine absurd ?_ (S.out _ ri.1 ri.2 (j - i))
      rw [Zfg,show i + (j - i)=j by omega]
      exact hb.symm
    ·rw [Bool.eq_false_iff.mpr hb]
     have hb:¬ (CrM (cOn ts o cs) (bkI cs) k (Y:Int)\/(Y:Int) ∈ walkL (cOn ts o cs) (2 * (k:Int)) j\/∃ y ∈ walkL (cOn ts o cs) (2 * (k:Int)) j,bkI cs y=(Y:Int)):=fun z=>hb (by rw [hY]; exact (hm2.mem Y hY4).mpr z)
     have hM:¬ CrM (cOn ts o cs) (bkI cs) k (2 * (k:Int)):=fun z=>hb (.inl (hY ▸ Zdc S (by omega) z j))
     have nd2:NdTo (cOn ts o cs) (2 * (k:Int)) (j + 1):=by
      by_cases hj0:j=0
      ·subst hj0; exact Zj8 O h0 h1
      ·refine Ze7 O h0 h1 (by omega) nd fun z=>hb (.inr (.inl (Zav.mpr ⟨0,by omega,by rw [<- hY,z]; rfl⟩)))
     have hjm2:=Zhb O h0 h1 nd2
     have hE:Y / 2 < 2 * ts.length:=by omega
     have hp:=Za3 hE
     have eY2:((Y / 2:Nat):Int)=(Y:Int) / 2:=by omega
     obtain ⟨c,c1,c2,c3⟩:=hC.at (show Y / 4 < ts.length by omega)
     have a1:atI (cs.map D.int) ((Y:Int) / 2 / 2)=some (.int c):=by
      rw [show (Y:Int) / 2 / 2=((Y / 4:Nat):Int) by omega]
      exact Zbi (by rw [List.getElem?_map,c1]; rfl)
     have hg:gHand cs (Y:Int)=((Y:Int) % 2 + c) % 2:=by
      unfold gHand
      rw [show ((Y:Int) / 4).toNat=Y / 4 by omega,c2]
     have hon:iter (cOn ts o cs) (2 * (k:Int)) (j + 1)=cOn ts o cs (Y:Int):=by show cOn ts o cs (iter (cOn ts o cs) (2 * (k:Int)) j)=_; rw [hY]
     rw [hY]
     have eb:=Znr cs Y
     refine iteT (Zai (Zat (Zau (Zab (Zar (Zac rfl (Zaj (Zas (d:=.int ((Y / 2:Nat):Int)) (by rw [eY2]; rfl) (Zaf ⟨Y / 2,rfl,?_⟩)))))))))
     refine Zai (Zat (Zar (Zar (Zar (Zac rfl (Zaj (Zas (d:=.int ((Y:Int) % 2)) rfl ?_)))))))
     refine Zar (Zac rfl (Zar (Zar (Zac rfl (Zaj (Zas (d:=.int ((Y:Int) / 2)) rfl (Zaj (jr_I ⟨by omega,by omega⟩ (Zas a1 (Zdk (Zaj (jr_I (by show (0:Int) < 2; decide) ?_))))))))))))
     rw [<- hg]
     refine Zai (Zhl (Zpn ⟨⟨_,_,rfl,rfl⟩,Zac rfl ⟨_,kv2,stRow (Y:Int),rfl,rfl,rfl,?_,?_⟩⟩))
     ·exact Nat.lt_of_le_of_lt (m:=192 * 48 + 192) (by omega) (by decide)
     have hl3:=Zh7 kv2 (keyI (Y:Int)) (.bl true)
     have hm3:=hm2.put (x:=(Y:Int)) (.bl true)
     refine Zai (Zhl (Zpn ⟨⟨_,_,rfl,rfl⟩,Zbg (Zab (Zac rfl (Zab (Zar (Zaj (Zac rfl (Zd6 (Zaf ⟨Zcs,_,_,stRow (bkI cs (Y:Int)),rfl,rfl,eb.symm,?_,?_⟩))))))))⟩))
     ·exact Nat.lt_of_le_of_lt (m:=192 * 48 + 193) (by show (putT kv2 (keyI (Y:Int)) (.bl true)).length<=_; omega) (by decide)
     have hl4:=Zh7 (putT kv2 (keyI (Y:Int)) (.bl true)) (keyI (bkI cs (Y:Int))) (.bl true)
     have hm4:=hm3.put (x:=bkI cs (Y:Int)) (.bl true)
     refine Zai (Zez rfl rfl (Zac rfl ⟨_,_,rfl,rfl,?_,?_⟩))
     ·rw [List.length_map,Zcc]; exact small1000 (by omega)
     have fin:∃ m',m' < 4 * ts.length - j/\m' = 4 * ts.length - (j + 1):=⟨_,by omega,rfl⟩
     have hm5:MtK (4 * ts.length) (putT (putT kv2 (keyI (Y:Int)) (.bl true)) (keyI (bkI cs (Y:Int))) (.bl true)) (fun x=>CrM (cOn ts o cs) (bkI cs) k x\/x ∈ walkL (cOn ts o cs) (2 * (k:Int)) (j + 1)\/∃ y ∈ walkL (cOn ts o cs) (2 * (k:Int)) (j + 1),bkI cs y=x):=by
      refine hm4.cong fun x hx=>?_
      rw [Zdi,hY]
      simp only [List.mem_append,List.mem_singleton]
      constructor
      ·rintro ((a | a) | a)
       ·rcases a with a | a | ⟨y,a,b⟩
        ·exact .inl a
        ·exact .inr (.inl (.inl a))
        ·exact .inr (.inr ⟨y,.inl a,b⟩)
       ·exact .inr (.inl (.inr a))
       ·exact .inr (.inr ⟨_,.inr rfl,a.symm⟩)
      ·rintro (a | (a | a) | ⟨y,a | a,b⟩)
       ·exact .inl (.inl (.inl a))
       ·exact .inl (.inl (.inr (.inl a)))
       ·exact .inl (.inr a)
       ·exact .inl (.inl (.inr (.inr ⟨y,a,b⟩)))
       ·subst a; exact .inr b.symm
     have ew:(walkL (cOn ts o cs) (2 * (k:Int)) j).map stD ++ [stD (Y:Int)]=(walkL (cOn ts o cs) (2 * (k:Int)) (j + 1)).map stD:=by rw [Zdi,List.map_append,hY]; rfl
     refine Zai (Zat (Zbg (Zab (Zkz rfl rfl (Zac rfl ⟨_,_,_,_,rfl,rfl,rfl,vA hp,Zab (Zaj (Zaf ⟨Zcs,?_⟩))⟩)))))
     refine Zbx (Zbf (Zar (Zac rfl (Zaj (Zer ⟨_,rfl,?_⟩)))))
     rcases Zfy cs (Y:Int) with hz | hz
     ·rw [hz]
      refine iteF (Zaw ⟨4 * ts.length - (j + 1),by omega,j + 1,_,.val (.int ((partner (Y / 2):Nat):Int)),.val (.int 0),.inr hM,nd2,rfl,hm5,by omega,?_⟩)
      have:D.tup [.int (folOf ts o (partner (Y / 2))),.int 0]=stD (iter (cOn ts o cs) (2 * (k:Int)) (j + 1)):=by
       rw [hon]; unfold cOn; rw [if_pos hz,Zli,show ((Y:Int) / 2).toNat=Y / 2 by omega]
      rw [<- ew,<- this]
      rfl
     ·rw [hz]
      refine iteT (Zat (Zbg (Zab (Zkz rfl rfl (Zac rfl ⟨_,_,_,_,rfl,rfl,rfl,vB hp,Zab (Zaj (Zaf ⟨Zcs,4 * ts.length - (j + 1),by omega,j + 1,_,.val (.int ((partner (Y / 2):Nat):Int)),.val (.int 1),.inr hM,nd2,rfl,hm5,by omega,?_⟩))⟩)))))
      have:D.tup [.int (preOf ts o (partner (Y / 2))),.int 1]=stD (iter (cOn ts o cs) (2 * (k:Int)) (j + 1)):=by
       rw [hon]; unfold cOn; rw [if_neg (by rw [hz]; decide),Zp9,show ((Y:Int) / 2).toNat=Y / 2 by omega]
      rw [<- ew,<- this]
      rfl
   rintro Δ1 ⟨j,kv2,x11,x12,hj,hm2,hl2,hj96,rfl⟩
   refine Zbx (Zbf (Zar (Zh6 rfl rfl (Zaj (Zpg ⟨_,rfl,?_⟩)))))
   rw [List.length_map,Zcc]
   rcases hj with ⟨rfl,hM⟩ | ⟨hI,hM⟩
   ·have hl:frB (cOn ts o cs) (bkI cs) k=false:=by rw [Bool.eq_false_iff]; exact fun z=>Zed.mp z hM
    refine iteF (Zaw ⟨kv2,.val (.int (k:Int)),.own (.lst []),.val (stD (2 * (k:Int))),x11,x12,hm2.cong fun x hx=>?_,by omega,?_⟩)
    ·rw [Zds S (by omega),hl,show walkL (cOn ts o cs) (2 * (k:Int)) 0=[] from rfl]; simp
    ·rw [Zc5,if_neg (by rw [hl]; exact Bool.false_ne_true),List.append_nil]
     rfl
   ·have hl:frB (cOn ts o cs) (bkI cs) k=true:=Zed.mpr hM
    have eo:=hI.orb
    rw [show decide ((0:Int) < (j:Int))=true from decide_eq_true (by have:=hI.pos; omega)]
    refine iteT (Zez rfl rfl (Za6 (Zab (Zd2 rfl (Zaf (Zc0 (Or.inl rfl) ⟨_,_,rfl,rfl,?_,kv2,.val (.int (k:Int)),.val (.lst ((walkL (cOn ts o cs) (2 * (k:Int)) j).map stD)),.val (stD (iter (cOn ts o cs) (2 * (k:Int)) j)),x11,x12,hm2.cong fun x hx=>?_,?_,?_⟩))))))
    ·rw [List.length_map,List.length_append,List.length_replicate]; exact small1000 (by omega)
    ·rw [Zds S (by omega),hl,<- eo]; simp
    ·omega
    ·rw [Zc5,if_pos hl,<- List.append_assoc,List.map_append (l₂:=[orb (cOn ts o cs) (2 * (k:Int))]),eo]
     rfl
  ·rintro Δ2 ⟨kvs,x8,x9,x10,x11,x12,hms,hml,rfl⟩
   rw [Zbb]
   exact ⟨kvs,_,_,_,_,_,rfl⟩
 rintro Δ1 ⟨kvs,x8,x9,x10,x11,x12,rfl⟩
 have al:=Zdr (cs:=cs) hW hO
 rw [Znv] at q ⊢
 exact Zg6 (Zhp (Zab (Zd2 rfl (Zaf ⟨_,rfl,by rw [List.length_map]; omega,Zic hW hO hC,_,rfl,q⟩))))
end
section
variable {K:PySem.W.Frag} {Δ:Evt} {P:D->Evt->Prop}
theorem Zkf {f:DSp} {i j:Nat} {ds:List D} {d:D} {E:XK} (hi:Δ[i]? = some (.own (.lst ds))) (hj:(Δ.set i .any)[j]? = some (.val d)) (hf:f [.lst ds,d] fun d=>∃ b,d=.bl b/\P (.bl b) Δ):JE K (tCall (spD K f) [] E (tCons (tVar i) (tCons (tVar j) tNil))) Δ P:=by
 refine Zlp (ds:=[.lst ds,d]) (fun g G H σ k=>?_) hf
 obtain ⟨a,h1,pd⟩:=k.take hi
 obtain ⟨o,q1,q2,_⟩:=id pd
 cases o with
 | lst vs=>
  obtain ⟨k2,sg,r⟩:=(k.drop i).freeze pd q1
  obtain ⟨u,h2,r2⟩:=k2.val j _ hj
  exact ⟨_,sg,k2.live,fun Q q=>⟨.ref a,h1,u,h2,q _ (.cons r (.cons r2 .nil))⟩⟩
 | _=>exact absurd q2 (fun z=>z)
end
theorem Zql {l:List (List Int)} (h1:l.length<=1000) (h2:∀ r ∈ l,r.length<=1000):Lv 4 (.lst (l.map crD)):=by
 refine ⟨by rw [List.length_map]; exact h1,fun d hd=>?_⟩
 obtain ⟨r,hr,rfl⟩:=List.mem_map.mp hd
 refine ⟨by rw [List.length_map]; exact h2 r hr,fun e he=>?_⟩
 obtain ⟨s,_,rfl⟩:=List.mem_map.mp he
 refine ⟨by show 2<=1000; omega,fun e he=>?_⟩
 rcases List.mem_cons.mp he with z | z
 ·subst z; exact trivial
 ·rcases List.mem_cons.mp z with z | z
  ·subst z; exact trivial
  ·cases z
theorem Zou {ts:List (Int × Int)} {cs:List Int} (h:CrOk ts cs):CrOk ts (cs.map fun c=>1 - c):=by
 refine ⟨by rw [List.length_map]; exact h.len,fun c hc=>?_⟩
 obtain ⟨x,hx,rfl⟩:=List.mem_map.mp hc
 have:=h.bit x hx
 omega
section
variable {P:Program} {w:World} {K:PySem.W.Frag} {mg:Str->Option Value} {base:Heap} {f:Addr} {fd:FuncData}
theorem ok_law (mb:Mb mg) (C__law_pen:Callee P w K mg base 1 "_law_pen" ["_law_script"] (spN K fPen)) (C__law_web:Callee P w K mg base 2 "_law_web" ["_law_pen_here","_law_places","_law_ties"] (spB K fWeb))
  (C__law_order:Callee P w K mg base 2 "_law_order" ["_law_pen_here","_law_web_here"] (spB K fOrder)) (C__law_crossings:Callee P w K mg base 2 "_law_crossings" ["_law_pen_here","_law_web_here"] (spB K fCross)) (C__law_crossed:Callee P w K mg base 2 "_law_crossed" ["_law_order_here","_law_crossings_here"] (spN K fLCr)) (C_crossed_faces:Callee P w K mg base 5 "crossed_faces" ["web","order","crossings"] (spN K fCrF))
  (C__law_same:Callee P w K mg base 5 "_law_same" ["_law_found","_law_due"] (spD K (fSame 4)))
  (F:Fun K "law" "law" s_law f fd):FnOk P w K mg base CX0 6 f fd ["_law_script"] (spD K fLaw):=by
 refine F.ok sc_law (Zbn fun ds Post h=>by obtain ⟨_,rfl,_⟩:=h; rfl) (fun cdv A outer s H vs Q E hr h=>?_)
 have hu:=Zca hr
 have hv:=Zmx hr
 refine ⟨_,(Zad (Zao (i:=1) sc_law.nd rfl (Or.inl rfl) (Zay C__law_pen (hr.mono (by decide)) (Zaa (pv 0) Zae))) (Zad (Zao (i:=2) sc_law.nd rfl (Or.inl rfl) (Zay C__law_web (hr.mono (by decide)) (Zaa (pv 1) (Zaa Zag (Zaa Zag Zae))))) (Zad (Zao (i:=3) sc_law.nd rfl (Or.inl rfl) (Zay C__law_order (hr.mono (by decide)) (Zaa (pv 1) (Zaa (pv 2) Zae)))) (Zad (Zao (i:=4) sc_law.nd rfl (Or.inl rfl) (Zay C__law_crossings (hr.mono (by decide)) (Zaa (pv 1) (Zaa (pv 2) Zae)))) (Zad (Zao (i:=5) sc_law.nd rfl (Or.inl rfl) (Zbk (tupK K) rfl (mb "tuple" (by decide)) Zbh (Zaa (Zdy ["_law_one"] (show CompSc (defScope s_law) ["_law_script","_law_pen_here","_law_web_here","_law_order_here","_law_crossings_here","_law_turned","_law_due","_law_further","_law_found","_law_second","_law_other"] _ [] [] from ⟨rfl,by decide +kernel,by decide +kernel,by decide +kernel,rfl,by decide +kernel⟩) rfl (seqK K (pv 4)) (fun _ _ _ _ _=>(Zaz (i:=0) (show List.Nodup (["_law_one"]:List Str) from by decide) rfl (Or.inl rfl))) (fun _ _ _ _ _=>Zcu) (fun _ _ _ _ _=>(Zaq Zde Zag (pv 0)))) Zae))) (Zad (Zao (i:=6) sc_law.nd rfl (Or.inl rfl) (Zay C__law_crossed (hr.mono (by decide)) (Zaa (pv 3) (Zaa (pv 4) Zae)))) (Zad (Zao (i:=7) sc_law.nd rfl (Or.inl rfl) (Zay C__law_crossed (hr.mono (by decide)) (Zaa (pv 3) (Zaa (pv 5) Zae)))) (Zad (Zao (i:=8) sc_law.nd rfl (Or.inl rfl) (Zay C_crossed_faces (hr.mono (by decide)) (Zaa (pv 2) (Zaa (pv 3) (Zaa (pv 4) Zae))))) (Zad (Zao (i:=9) sc_law.nd rfl (Or.inl rfl) (Zay C_crossed_faces (hr.mono (by decide)) (Zaa (pv 2) (Zaa (pv 3) (Zaa (pv 5) Zae))))) (Zad (Zcb (PW.pt (pw_or (Ze6 (truK K (Zay C__law_same (hr.mono (by decide)) (Zaa (pv 8) (Zaa (pv 6) Zae))) (fun _=>rfl))) (pw_or1 (Ze6 (truK K (Zay C__law_same (hr.mono (by decide)) (Zaa (pv 9) (Zaa (pv 7) Zae))) (fun _=>rfl)))))) (Zah (Zax Zin)) Za4) (Zad (Zao (i:=10) sc_law.nd rfl (Or.inl rfl) (Zay C__law_order (hr.mono (by decide)) (Zaa (pv 1) (Zaa (pv 2) Zae)))) (Zad (Zcb (Ze6 (truK K (Zay C__law_same (hr.mono (by decide)) (Zaa (Zay C_crossed_faces (hr.mono (by decide)) (Zaa (pv 2) (Zaa (pv 10) (Zaa (pv 4) Zae)))) (Zaa (Zay C__law_crossed (hr.mono (by decide)) (Zaa (pv 10) (Zaa (pv 4) Zae))) Zae))) (fun _=>rfl))) (Zah (Zax Zin)) Za4) (Zad (Zbu (bm0K K PySem.F.plainAttrs_list PySem.F.slot_list_reverse PySem.F.type_list_reverse Zix (pv 8))) (Zad (Zbu (bmK K PySem.F.plainAttrs_list PySem.F.slot_list_append PySem.F.type_list_append Zbo (pv 8) (Zaa (Zbp (@Zaa _ _ _ _ _ (Zbp (Zaa Zag (Zaa Zag Zae))) Zae (@Znb _ _ _ _ _))) Zae))) (Zah (Zax (Zih (Zay C__law_same (hr.mono (by decide)) (Zaa (Zay C_crossed_faces (hr.mono (by decide)) (Zaa (pv 2) (Zaa (pv 3) (Zaa (pv 4) Zae)))) (Zaa (pv 6) Zae))) (Zh8 (Zay C__law_same (hr.mono (by decide)) (Zaa (pv 9) (Zaa (pv 7) Zae))))))))))))))))))))),Zd1 (fun ds Post hf=>?_) h⟩
 obtain ⟨ns,rfl,hl,q⟩:=hf
 refine ⟨by simp,?_⟩
 dsimp only [startD,List.tail,List.map,List.length]
 refine Zai (Zb4 (Zch (Zab (Zac rfl (Zaf ⟨ns,rfl,hl,fun ps hp=>?_⟩)))))
 show JS _ _ [_,_,_,_,_,_,_,_,_,_,_] _
 refine Zai (Zat (Zes rfl rfl (Zab (Zaj (Zab (Zaj (Zaf (Zrh rfl rfl hp (by omega) (by omega) (by omega) (by omega) fun n ts ps1 hp1 hW _ _=>?_))))))))
 show JS _ _ [_,_,_,_,_,_,_,_,_,_,_] _
 refine Zai (Zat (Zes rfl rfl (Zab (Zac rfl (Zaf (Zhh rfl rfl hp1 hW fun o ps2 hp2 hO=>?_))))))
 show JS _ _ [_,_,_,_,_,_,_,_,_,_,_] _
 refine Zai (Zat (Zd7 rfl rfl (Zab (Zac rfl (Zaf ⟨_,_,rfl,rfl,hp2,n,ts,rfl,hW,fun cs ps3 hp3 hC=>?_⟩)))))
 show JS _ _ [_,_,_,_,_,_,_,_,_,_,_] _
 have hw:=hW.len
 have hcl:=hC.len
 have hC2:=Zou hC
 refine Zai (Zat (Za6 (Zab (Zdq (by decide) (Zcx (Zac rfl ⟨_,rfl,?_,fun _=>true,fun d=>match d with | .int c=>.int (1 - c) | d=>d,fun i d hd=>?_,?_⟩))))))
 ·rw [List.length_map]; exact small1000 (by omega)
 ·rw [List.getElem?_map] at hd
  cases z:cs[i]? with
  | none=>rw [z] at hd; cases hd
  | some c=>
   rw [z] at hd
   have hd:D.int c=d:=by simpa using hd
   subst hd
   exact Zce ⟨rfl,Zar (Zaj (Zac rfl (Zd6 ⟨rfl,_,rfl⟩)))⟩
 have et:((cs.map D.int).filter fun _=>true).map (fun d=>match d with | .int c=>D.int (1 - c) | d=>d)=(cs.map fun c=>1 - c).map D.int:=by
  rw [List.filter_eq_self.mpr (by simp),List.map_map,List.map_map]; rfl
 rw [et]
 refine Zaf (Zc0 (Or.inl rfl) ?_)
 show JS _ _ [_,_,_,_,_,_,_,_,_,_,_] _
 have v1:∀ {o':List (List Int)} {cs':List Int},OrdOk n ts o' -> CrOk ts cs' -> Lv 4 (.lst ((allC ts o' cs').map crD)):=fun hO' hC'=>Zql (Nat.le_trans (Zdr hW hO') (by decide)) fun r hr=>by have:=Zjd hW hO' hC' r hr; omega
 refine Zai (Zat (Zb3 (Zch (Zab (Zac rfl (Zab (Zac rfl (Zaf ⟨n,ts,o,cs,rfl,hW,hO,hC,_,rfl,?_⟩))))))))
 show JS _ _ [_,_,_,_,_,_,_,_,_,_,_] _
 refine Zai (Zat (Zb3 (Zch (Zab (Zac rfl (Zab (Zac rfl (Zaf ⟨n,ts,o,cs.map fun c=>1 - c,rfl,hW,hO,hC2,_,rfl,?_⟩))))))))
 show JS _ _ [_,_,_,_,_,_,_,_,_,_,_] _
 refine Zai (Zb4 (Zch (Zab (Zac rfl (Zab (Zac rfl (Zab (Zac rfl (Zaf ⟨n,ts,o,cs,rfl,hW,hO,hC,?_⟩)))))))))
 show JS _ _ [_,_,_,_,_,_,_,_,_,_,_] _
 refine Zai (Zat (Zb3 (Zch (Zab (Zac rfl (Zab (Zac rfl (Zab (Zac rfl (Zaf ⟨n,ts,o,cs.map fun c=>1 - c,rfl,hW,hO,hC2,_,rfl,?_⟩))))))))))
 show JS _ _ [_,_,_,_,_,_,_,_,_,_,_] _
 refine Zai (Zbx (Zq4 (Zej (Zbt (Zkf rfl rfl ⟨_,rfl,v1 hO hC,true,rfl,true,rfl,iteF ?_⟩)))))
 refine Zej (Zbt (Zau (Zab (Zac rfl (Zab (Zac rfl (Zaf ⟨_,rfl,v1 hO hC2,true,rfl,iteF (Zaw ?_)⟩)))))))
 refine Zai (Zat (Zes rfl rfl (Zab (Zac rfl (Zaf (Zhh rfl rfl hp3 hW fun o2 ps4 hp4 hO2=>?_))))))
 show JS _ _ [_,_,_,_,_,_,_,_,_,_,_] _
 refine Zai (Zbx (Zej (Zbt (Zau (Zab (Zb3 (Zch (Zab (Zac rfl (Zab (Zac rfl (Zab (Zac rfl (Zaf ⟨n,ts,o2,cs,rfl,hW,hO2,hC,_,rfl,?_⟩))))))))))))))
 refine Zab (Zb3 (Zch (Zab (Zac rfl (Zab (Zac rfl (Zaf ⟨n,ts,o2,cs,rfl,hW,hO2,hC,_,rfl,Zaf ⟨_,rfl,v1 hO2 hC,true,rfl,iteF (Zaw ?_)⟩⟩)))))))
 refine Zai (Zrx rfl rfl ?_)
 show JS _ _ [_,_,_,_,_,_,_,_,_,_,_] _
 refine Zai (Zez rfl rfl (Zbg (Zab (Zbg (Zab (Zaj (Zab (Zaj (Zaf ⟨Zcs,Zaf ⟨by show 1<=sizeLine; decide,_,_,rfl,rfl,?_,?_⟩⟩)))))))))
 ·rw [List.length_reverse,List.length_map]; exact small1000 (by have:=Zdr (cs:=cs) hW hO; omega)
 refine Za9 (Zcf (Zau (Zab (Zb3 (Zch (Zab (Zac rfl (Zab (Zac rfl (Zab (Zac rfl (Zaf ⟨n,ts,o,cs,rfl,hW,hO,hC,_,rfl,?_⟩))))))))))))
 refine Zab (Zac rfl (Zaf ⟨_,rfl,v1 hO hC,true,rfl,iteT ?_⟩))
 exact Zau (Zab (Zac rfl (Zab (Zac rfl (Zaf ⟨_,rfl,v1 hO hC2,q⟩)))))
end
theorem lenS {us:List Value} {n:Nat} (h:us.length=n + 1):∃ a t,us=a :: t/\t.length=n:=by
 cases us with
 | nil=>exact absurd h.symm (Nat.succ_ne_zero n)
 | cons a t=>exact ⟨a,t,rfl,Nat.succ.inj h⟩
theorem bK1 {α:Type _} {g r:List Value -> α} (h:∀ a0,g [a0]=r [a0]) (us:List Value) (l:us.length=1):g us=r us:=by
 obtain ⟨a0,u0,rfl,h0⟩:=lenS l
 obtain rfl:=List.eq_nil_of_length_eq_zero h0
 exact h a0
theorem bK2 {α:Type _} {g r:List Value -> α} (h:∀ a0 a1,g [a0,a1]=r [a0,a1]) (us:List Value) (l:us.length=2):g us=r us:=by
 obtain ⟨a0,u0,rfl,h0⟩:=lenS l
 obtain ⟨a1,u1,rfl,h1⟩:=lenS h0
 obtain rfl:=List.eq_nil_of_length_eq_zero h1
 exact h a0 a1
theorem bK3 {α:Type _} {g r:List Value -> α} (h:∀ a0 a1 a2,g [a0,a1,a2]=r [a0,a1,a2]) (us:List Value) (l:us.length=3):g us=r us:=by
 obtain ⟨a0,u0,rfl,h0⟩:=lenS l
 obtain ⟨a1,u1,rfl,h1⟩:=lenS h0
 obtain ⟨a2,u2,rfl,h2⟩:=lenS h1
 obtain rfl:=List.eq_nil_of_length_eq_zero h2
 exact h a0 a1 a2
theorem bK4 {α:Type _} {g r:List Value -> α} (h:∀ a0 a1 a2 a3,g [a0,a1,a2,a3]=r [a0,a1,a2,a3]) (us:List Value) (l:us.length=4):g us=r us:=by
 obtain ⟨a0,u0,rfl,h0⟩:=lenS l
 obtain ⟨a1,u1,rfl,h1⟩:=lenS h0
 obtain ⟨a2,u2,rfl,h2⟩:=lenS h1
 obtain ⟨a3,u3,rfl,h3⟩:=lenS h2
 obtain rfl:=List.eq_nil_of_length_eq_zero h3
 exact h a0 a1 a2 a3
def FnE (K:PySem.W.Frag) (x:Str) (st:Stmt):Prop:=∃ (f:Addr) (fd:FuncData),PySem.W.nsIn K mainGlobals x=some (some (.ref f))/\Fun K x x st f fd
theorem fnE {K:PySem.W.Frag} {x:Str} {st:Stmt} {f:Addr} {oc kV doc pm cdv ct:Value} {od an:Option Addr} {sl:Array (Option Value)} (a:PySem.W.nsIn K mainGlobals x=some (some (.ref f))) (l:K.lookup f=some ⟨oc,od,.func (PySem.W.fnOf x x (defArgs st) (defBody st) (defScope st) .none kV doc pm an cdv ct),sl⟩) (c:PySem.W.codeIn K cdv x=true) (k:PySem.W.keepIn K (.ref f)=true):FnE K x st:=⟨f,_,a,Zq0 l c k⟩
theorem Zn2 {P:Program} {w:World} {K:PySem.W.Frag} {mg:Str->Option Value} {base h:Heap} (X:K.In h) (G:h.Ns mainGlobals mg) {x:Str} {st:Stmt} {ps:List Str} {lv:Nat} {sp:Sp} (e:FnE K x st) (ok:∀ {f:Addr} {fd:FuncData},Fun K x x st f fd->FnOk P w K mg base CX0 lv f fd ps sp) (hb:∀ (kV doc pm:Value) (an:Option Addr) (cdv ct:Value) (us:List Value),us.length=ps.length->bindArgs (PySem.W.fnOf x x (defArgs st) (defBody st) (defScope st) .none kV doc pm an cdv ct) ⟨us,[]⟩ = pure (ps.zip us)):Callee P w K mg base lv x ps sp:=by
 obtain ⟨f,fd,a,F⟩:=e
 exact ⟨⟨f,fd,ok F,F.binds hb,F.kp,PySem.W.mg_of X G a⟩⟩
theorem Zln {P:Program} {w:World} {K:PySem.W.Frag} {mg:Str->Option Value} {base h:Heap} (X:K.In h) (G:h.Ns mainGlobals mg) {x:Str} {st:Stmt} {ps:List Str} {lv:Nat} {sp:Sp} (e:FnE K x st) (ok:∀ {f:Addr} {fd:FuncData},Fun K x x st f fd->Binds K fd ps []->PySem.W.keepIn K (.ref f)=true->mg x=some (.ref f)->FnOk P w K mg base CX0 lv f fd ps sp) (hb:∀ (kV doc pm:Value) (an:Option Addr) (cdv ct:Value) (us:List Value),us.length=ps.length->bindArgs (PySem.W.fnOf x x (defArgs st) (defBody st) (defScope st) .none kV doc pm an cdv ct) ⟨us,[]⟩ = pure (ps.zip us)):Callee P w K mg base lv x ps sp:=by
 obtain ⟨f,fd,a,F⟩:=e
 exact ⟨⟨f,fd,ok F (F.binds hb) F.kp (PySem.W.mg_of X G a),F.binds hb,F.kp,PySem.W.mg_of X G a⟩⟩
theorem all_mk {l:PySem.W.OpenLaw} {w:World} {K:PySem.W.Frag} {h:Heap} {mg:Str->Option Value} {fa:Addr} (X:K.In h) (G:h.Ns mainGlobals mg) (hfa:mg "law" = some (.ref fa))
  (e1:FnE K "_law_draw" s_law_draw)
  (e2:FnE K "_law_pen" s_law_pen)
  (e3:FnE K "_law_web" s_law_web)
  (e4:FnE K "_law_order" s_law_order)
  (e5:FnE K "place_of" s_place_of)
  (e6:FnE K "follower" s_follower)
  (e7:FnE K "forerunner" s_forerunner)
  (e8:FnE K "hand_beyond" s_hand_beyond)
  (e9:FnE K "crossed_onward" s_crossed_onward)
  (e10:FnE K "back_of" s_back_of)
  (e11:FnE K "round_from" s_round_from)
  (e12:FnE K "crossed_faces" s_crossed_faces)
  (e13:FnE K "_law_partner" s_law_partner)
  (e14:FnE K "_law_crossed" s_law_crossed)
  (e15:FnE K "_law_whole" s_law_whole)
  (e16:FnE K "_law_same" s_law_same)
  (e17:FnE K "_law_crossings" s_law_crossings)
  (e18:FnE K "law" s_law)
  (z0:PySem.W.nsIn K mainGlobals "abs" = some none)
  (z1:PySem.W.nsIn K mainGlobals "all" = some none)
  (z2:PySem.W.nsIn K mainGlobals "bool" = some none)
  (z3:PySem.W.nsIn K mainGlobals "int" = some none)
  (z4:PySem.W.nsIn K mainGlobals "isinstance" = some none)
  (z5:PySem.W.nsIn K mainGlobals "len" = some none)
  (z6:PySem.W.nsIn K mainGlobals "list" = some none)
  (z7:PySem.W.nsIn K mainGlobals "max" = some none)
  (z8:PySem.W.nsIn K mainGlobals "min" = some none)
  (z9:PySem.W.nsIn K mainGlobals "range" = some none)
  (z10:PySem.W.nsIn K mainGlobals "set" = some none)
  (z11:PySem.W.nsIn K mainGlobals "sorted" = some none)
  (z12:PySem.W.nsIn K mainGlobals "tuple" = some none)
  (z13:PySem.W.nsIn K mainGlobals "zip" = some none) :
  ∃ fd:FuncData,(∀ (s:Shared) (v:Value),BindsTo s fd ⟨[v],[]⟩ [("_law_script",v)])/\∀ base:Heap,K.In base->base.Ns mainGlobals mg->FnOk l.prog w K mg base CX0 6 fa fd ["_law_script"] (spD K fLaw):=by
 obtain ⟨f,fd,a,F⟩:=e18
 have e:=hfa.symm.trans (PySem.W.mg_of X G a)
 cases e
 have mb:Mb mg:=by
  intro x hx
  simp only [List.mem_cons,List.not_mem_nil,or_false] at hx
  rcases hx with rfl | rfl | rfl | rfl | rfl | rfl | rfl | rfl | rfl | rfl | rfl | rfl | rfl | rfl
  ·exact PySem.W.mg_none_of X G z0
  ·exact PySem.W.mg_none_of X G z1
  ·exact PySem.W.mg_none_of X G z2
  ·exact PySem.W.mg_none_of X G z3
  ·exact PySem.W.mg_none_of X G z4
  ·exact PySem.W.mg_none_of X G z5
  ·exact PySem.W.mg_none_of X G z6
  ·exact PySem.W.mg_none_of X G z7
  ·exact PySem.W.mg_none_of X G z8
  ·exact PySem.W.mg_none_of X G z9
  ·exact PySem.W.mg_none_of X G z10
  ·exact PySem.W.mg_none_of X G z11
  ·exact PySem.W.mg_none_of X G z12
  ·exact PySem.W.mg_none_of X G z13
 obtain ⟨oc,od,kV,doc,pm,an,cdv,ct,osl,rfl,lk,hcd⟩:=F.ex
 refine ⟨PySem.W.fnOf "law" "law" (defArgs s_law) (defBody s_law) (defScope s_law) .none kV doc pm an cdv ct,fun s v=>.of_eq rfl,fun base _ _=>?_⟩
 have M:=@Zn2 l.prog w K mg base h X G
 have MR:=@Zln l.prog w K mg base h X G
 have C1:=M e1 (Zo5 mb) fun _ _ _ _ _ _=>bK2 fun _ _=>rfl
 have C2:=M e2 (Zqs mb) fun _ _ _ _ _ _=>bK1 fun _=>rfl
 have C3:=M e3 (Zr5 mb C1) fun _ _ _ _ _ _=>bK3 fun _ _ _=>rfl
 have C4:=M e4 (Zl1 mb C1) fun _ _ _ _ _ _=>bK2 fun _ _=>rfl
 have C5:=M e5 (Zlu mb) fun _ _ _ _ _ _=>bK2 fun _ _=>rfl
 have C6:=M e6 (Zgt mb C5) fun _ _ _ _ _ _=>bK3 fun _ _ _=>rfl
 have C7:=M e7 (Zfs mb C5) fun _ _ _ _ _ _=>bK3 fun _ _ _=>rfl
 have C8:=M e8 (Zoo mb) fun _ _ _ _ _ _=>bK2 fun _ _=>rfl
 have C9:=M e9 (Zpm mb C8 C6 C7) fun _ _ _ _ _ _=>bK4 fun _ _ _ _=>rfl
 have C10:=M e10 (Zp1 mb C8) fun _ _ _ _ _ _=>bK3 fun _ _ _=>rfl
 have C11:=M e11 (Zqu mb C9) fun _ _ _ _ _ _=>bK4 fun _ _ _ _=>rfl
 have C12:=M e12 (Zrz mb C11 C10) fun _ _ _ _ _ _=>bK3 fun _ _ _=>rfl
 have C13:=M e13 (Zi9 mb) fun _ _ _ _ _ _=>bK1 fun _=>rfl
 have C14:=M e14 (Zq6 mb C13) fun _ _ _ _ _ _=>bK2 fun _ _=>rfl
 have C15:=M e15 (Zkv mb) fun _ _ _ _ _ _=>bK1 fun _=>rfl
 have C16:=MR e16 (fun F b k m=>Zmy mb C15 F b k m 5) fun _ _ _ _ _ _=>bK2 fun _ _=>rfl
 have C17:=M e17 (Zmw mb C1) fun _ _ _ _ _ _=>bK2 fun _ _=>rfl
 exact ok_law mb C2 C3 C4 C17 C14 C12 C16 F
end Lw
open PySem PySem.W PyProof.Rows
set_option maxRecDepth 100000 in
set_option maxHeartbeats 0 in
theorem PySem.Challenge.cw_holefloor_k20_crossed_faces_holds : PySem.Challenge.rw_holefloor_k20_crossed_faces.Holds := by
 w_on; o_law; k_head; (case hw=>w_witness2)
 k_fill
 refine L2.walk_law (k:=6) (x:="_law_script") (l:=PySem.Challenge.rw_holefloor_k20_crossed_faces) ⟨rfl,by decide,by decide,rfl⟩ rfl rfl (fun w h Y=>PySem.W.kIn_of Y) ?F
 case F=>
  intro w mg fa h KX G hmg
  refine' Lw.all_mk KX G hmg ?e1 ?e2 ?e3 ?e4 ?e5 ?e6 ?e7 ?e8 ?e9 ?e10 ?e11 ?e12 ?e13 ?e14 ?e15 ?e16 ?e17 ?e18 ?z0 ?z1 ?z2 ?z3 ?z4 ?z5 ?z6 ?z7 ?z8 ?z9 ?z10 ?z11 ?z12 ?z13
  all_goals first | (refine' Lw.fnE ?a ?l ?c ?k; (case a=>k_is); (case l=>k_is); (case c=>k_is); (case k=>k_is)) | k_is

