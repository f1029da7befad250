import PyProof.Rows.All
import Wide.All
import OpenK.AllK
import Wide.FinOn
import Lean
import PyProof.EqAt
import PyProof.EqKinds
import PyProof.TupleCall
import KE.KSortTup
import PyProof.NeKinds
import PyProof.ExcBaseAll.ValueError
import PyProof.ExcArgsOwn
import PyProof.NsDelKeeps
import PyProof.RulesAs
import PyProof.FString
import PySem.Challenge.RW_holefloor_k36_whole_there_and_back
set_option Elab.async false
set_option linter.all false
set_option maxRecDepth 100000
namespace L2
open PySem PySem.Spec PyProof.Rows
abbrev Key:=Sum Int Str
def keyIs:Key->Value->Bool
 | .inl k,v=>Value.isInt k v
 | .inr x,v=>Value.isStrOf x v
def keyH (w:World):Key->Int
 | .inl k=>hashInt k
 | .inr x=>hashStr w x
theorem Zbn:∀ {k:Key} {v:Value},keyIs k v=true->(∃ i t,k=Sum.inl i/\v=Value.int i t)\/(∃ x t,k=Sum.inr x/\v=Value.str x t)
 | .inl i,v,h=>by
  obtain ⟨t,e⟩:=Value.isInt_shape (k:=i) (v:=v) h
  exact .inl ⟨i,t,rfl,e⟩
 | .inr x,v,h=>by
  obtain ⟨t,e⟩:=Value.isStrOf_shape (x:=x) (v:=v) h
  exact .inr ⟨x,t,rfl,e⟩
theorem Zj8 (i:Int) (t:Tok):keyIs (.inl i) (.int i t)=true:=by simp [keyIs,Value.isInt]
theorem Zj5 (x:Str) (t:Tok):keyIs (.inr x) (.str x t)=true:=by simp [keyIs,Value.isStrOf]
theorem Zo1 (a b:Int):decide ((Sum.inl a:Key)=Sum.inl b)=(a == b):=by
 by_cases e:a=b
 ·subst e; simp
 ·have h:¬ (Sum.inl a:Key)=Sum.inl b:=fun q=>e (Sum.inl.inj q)
  rw [decide_eq_false h]
  exact (beq_eq_false_iff_ne.mpr e).symm
theorem Zpb (a b:Str):decide ((Sum.inr a:Key)=Sum.inr b)=decide (a=b):=by
 by_cases e:a=b
 ·subst e; simp
 ·have h:¬ (Sum.inr a:Key)=Sum.inr b:=fun q=>e (Sum.inr.inj q)
  rw [decide_eq_false h,decide_eq_false e]
theorem Zpa (a:Int) (b:Str):decide ((Sum.inl a:Key)=Sum.inr b)=false:=decide_eq_false (fun q=>nomatch q)
theorem Zpz (a:Str) (b:Int):decide ((Sum.inr a:Key)=Sum.inl b)=false:=decide_eq_false (fun q=>nomatch q)
def mixKind (prog:Program) (w:World):PySem.KeyKind prog w Key where
 is:=keyIs
 hash:=keyH w
 inj:=fun v a b ha hb=>by
  rcases Zbn ha with ⟨i,t,rfl,rfl⟩ | ⟨x,t,rfl,rfl⟩
  ·rcases Zbn hb with ⟨j,u,rfl,e⟩ | ⟨y,u,rfl,e⟩
   ·injection e with e1 _; rw [e1]
   ·exact nomatch e
  ·rcases Zbn hb with ⟨j,u,rfl,e⟩ | ⟨y,u,rfl,e⟩
   ·exact nomatch e
   ·injection e with e1 _; rw [e1]
 byValue:=fun k v h=>by
  rcases Zbn h with ⟨i,t,rfl,rfl⟩ | ⟨x,t,rfl,rfl⟩ <;> rfl
 pyHash:=fun hv h=>by
  rcases Zbn hv with ⟨i,t,rfl,rfl⟩ | ⟨x,t,rfl,rfl⟩
  ·exact wpAny_pyHash_int h
  ·exact wpAny_pyHash_str h
 eqBool:=fun hu hv h=>by
  rcases Zbn hu with ⟨i,t,rfl,rfl⟩ | ⟨x,t,rfl,rfl⟩
  ·rcases Zbn hv with ⟨j,u,rfl,rfl⟩ | ⟨y,u,rfl,rfl⟩
   ·rw [Zo1] at h; exact wpAny_eqBool_int h
   ·rw [Zpa] at h; exact SeqAt.EqAt.int_str i t y u _ _ _ _ h
  ·rcases Zbn hv with ⟨j,u,rfl,rfl⟩ | ⟨y,u,rfl,rfl⟩
   ·rw [Zpz] at h; exact SeqAt.EqAt.str_int x t j u _ _ _ _ h
   ·rw [Zpb] at h; exact wpAny_eqBool_str h
 «strs»:=fun k x t v h=>by
  rcases Zbn h with ⟨i,u,rfl,e⟩ | ⟨y,u,rfl,e⟩
  ·exact nomatch e
  ·injection e with e1 _
   subst e1
   cases v <;> rfl
theorem Zhf (prog:Program) (w:World) (i:Int) (t:Tok):(mixKind prog w).is (.inl i) (.int i t)=true:=Zj8 i t
theorem Zhd (prog:Program) (w:World) (x:Str) (t:Tok):(mixKind prog w).is (.inr x) (.str x t)=true:=Zj5 x t
end L2
namespace L2
open PySem PySem.Spec PyProof.Rows
inductive V where
 | non | bl (b:Bool) | int (i:Int) | str (x:Str) | byt (b:Array UInt8) | flt (b:UInt64) | ref (a:Addr) | ty (n:String)
 deriving DecidableEq
def RelV:V->Value->Prop
 | .non,u=>u=Value.none
 | .bl b,u=>u=Value.bool b
 | .int i,u=>∃ t,u=Value.int i t
 | .str x,u=>∃ t,u=Value.str x t
 | .byt b,u=>∃ t,u=Value.bytes b t
 | .flt b,u=>∃ t,u=Value.float b t
 | .ref a,u=>u=Value.ref a
 | .ty n,u=>u=Value.type n
abbrev Vals:List V->List Value->Prop:=Paired RelV
theorem Vals.length {xs:List V} {us:List Value} (r:Vals xs us):xs.length=us.length:=Paired.length r
theorem Vals.get:∀ {xs:List V} {us:List Value} {i:Nat} {x:V},Vals xs us->xs[i]? = some x->∃ u,us[i]? = some u/\RelV x u
 | _,_,_,_,.nil,e=>by simp at e
 | _,_,0,_,.cons r _,e=>by simp at e; subst e; exact ⟨_,rfl,r⟩
 | _,_,i + 1,x,.cons _ t,e=>by
  obtain ⟨u,h1,h2⟩:=Vals.get (i:=i) (x:=x) t (by simpa using e)
  exact ⟨u,by simpa using h1,h2⟩
theorem Vals.set {x:V} {u:Value} (r:RelV x u):∀ {xs:List V} {us:List Value} (i:Nat),Vals xs us->Vals (xs.set i x) (us.set i u)
 | _,_,_,.nil=>.nil
 | _,_,0,.cons _ t=>.cons r t
 | _,_,i + 1,.cons q t=>.cons q (Vals.set r i t)
theorem Vals.append:∀ {xs ys:List V} {us ws:List Value},Vals xs us->Vals ys ws->Vals (xs ++ ys) (us ++ ws)
 | _,_,_,_,.nil,s=>s
 | _,_,_,_,.cons r t,s=>.cons r (Vals.append t s)
theorem Vals.take:∀ {xs:List V} {us:List Value} (n:Nat),Vals xs us->Vals (xs.take n) (us.take n)
 | _,_,0,_=>.nil
 | _,_,_ + 1,.nil=>.nil
 | _,_,n + 1,.cons r t=>.cons r (Vals.take n t)
theorem Vals.drop:∀ {xs:List V} {us:List Value} (n:Nat),Vals xs us->Vals (xs.drop n) (us.drop n)
 | _,_,0,r=>r
 | _,_,_ + 1,.nil=>.nil
 | _,_,n + 1,.cons _ t=>Vals.drop n t
def RelO:Option V->Option Value->Prop
 | some v,some u=>RelV v u
 | none,none=>True
 | _,_=>False
def KV {κ:Type}:List (κ × V)->List (κ × Value)->Prop:=Paired fun (p:κ × V) (q:κ × Value)=>p.1=q.1/\RelV p.2 q.2
def kV:Key->V
 | .inl i=>.int i
 | .inr x=>.str x
inductive HO where
 /-- a list -/
 | lst (xs:List V)
 /-- a tuple (never changes) -/
 | tup (xs:List V)
 /-- a dict whose keys are ints and texts; one whose keys are tuples of ints and texts (the empty one is both) -/
 | dK (kvs:List (Key × V)) | dT (kvs:List (List Key × V))
 /-- a set of ints: its members,its size -/
 | set (S:Int->Bool) (n:Nat)
 /-- an instance of the class at C,its dict at dx,its attributes -/
 | ins (C dx:Addr) (fs:List (Str × V))
 /-- the dict of the instance at x -/
 | own (x:Addr)
 /-- the dict of an exception -/
 | xd (fs:List (Str × V))
 /-- a bound method,f of x -/
 | met (f x:Addr)
 /-- a range object lo,lo + 1,.. below hi -/
 | rng (lo hi:Int)
 /-- a thing that is known to the object (the script; a dict while a loop walks it): read,never written while it is so -/
 | frz (o:Obj) (u:HO)
 /-- a code object's table -/
 | tbl (ps:Array Value)
 /-- any other thing,by what is true of its one object (a def of one's own: SetO a S n:=HO.ext fun h=>..) -/
 | ext (φ:Heap->Prop)
abbrev Hp:=Addr->Option HO
def upd (H:Hp) (a:Addr) (o:HO):Hp:=fun b=>if b=a then some o else H b
theorem Zat {H:Hp} {a:Addr} {o:HO}:upd H a o a=some o:=by unfold upd; rw [if_pos rfl]
theorem Zao {H:Hp} {a b:Addr} {o:HO} (h:b ≠ a):upd H a o b=H b:=by unfold upd; rw [if_neg h]
theorem Znx {H:Hp} {a:Addr} {o u:HO}:upd (upd H a o) a u=upd H a u:=by
 funext b; unfold upd; split <;> rfl
theorem Zqi {H:Hp} {a b:Addr} {o u:HO} (h:H a=some o) (h':H b=some u) (d:o ≠ u):a ≠ b:=by
 intro e; subst e; rw [h] at h'; exact d (Option.some.inj h')
theorem Zaq {H:Hp} {a b:Addr} {o:HO} (h:H a=some o) (h':H b=none):a ≠ b:=by
 intro e; subst e; rw [h] at h'; cases h'
def IsTupN (h:Heap) (a:Addr) (its:Array Value):Prop:=∃ o,h.get? a=some o/\(o.cls=.type "tuple" /\ ∃ n,o.data=.seq its n)/\o.dict=none
theorem IsTupN.tup {h:Heap} {a:Addr} {its:Array Value} (x:IsTupN h a its):IsTup h a its:=let ⟨o,e,c,_⟩:=x; ⟨o,e,c⟩
theorem IsTupN.new (h:Heap) (items:Array Value):IsTupN (h.push { cls:=.type "tuple",data:=.seq items }) h.objs.size items:=⟨_,Heap.get?_push_size _ rfl,⟨rfl,_,rfl⟩,rfl⟩
section
variable (P:Program) (w:World)
def ObjOk (H:Hp) (h:Heap) (a:Addr):HO->Prop
 | .lst xs=>xs.length<=sizeLine/\∃ (its:List Value) (n:Nat),Vals xs its/\h.get? a=some { cls:=.type "list",data:=.seq its.toArray n }
 | .tup xs=>xs.length<=sizeLine/\∃ its:List Value,Vals xs its/\IsTupN h a its.toArray
 | .dK kvs=>kvs.length<=sizeLine/\(a == sysModules)=false/\∃ vs,KV kvs vs/\h.DictOf (mixKind P w) a vs
 | .dT kvs=>kvs.length<=sizeLine/\(a == sysModules)=false/\∃ xs:List (List Key × Addr × Value),
   Paired (fun (p:List Key × V) (q:List Key × Addr × Value)=>p.1=q.1/\H q.2.1=some (.tup (p.1.map kV))/\RelV p.2 q.2.2) kvs xs ∧
   ∃ o es ep,h.get? a=some o/\o.ExactDict/\o.data=.dict es ep/\es.toList=xs.map (entryOfKey (tupleKind (mixKind P w)))/\(xs.map (·.1)).Nodup
 | .set S n=>h.SetOf (intKind P w) a S n
 | .ins C dx fs=>H dx=some (.own a)/\fs.length<=1000/\dx ≠ a/\h.get? a=some (PySem.W.instObj C dx) ∧
   ∃ mA,h.Ns1 dx mA/\(∀ f,RelO (fs.lookup f) (mA f))/\PySem.Within mA (fs.map (·.1))
 | .own _=>∃ o,h.get? a=some o
 | .xd fs=>∃ mA,h.Ns1 a mA/\∀ f,RelO (fs.lookup f) (mA f)
 | .rng lo hi=>∃ t u v,h.get? a=some { cls:=.type "range",data:=.fields #[.int lo t,.int hi u,.int 1 v] }
 | .frz o u=>h.get? a=some o/\ObjOk H h a u
 | .tbl ps=>h.get? a=some { cls:=.none,data:=.fields ps }
 | .met f x=>h.get? a=some (PySem.W.methodObj (.ref f) (.ref x))
 | .ext φ=>φ h/\(∃ o,h.get? a=some o)/\∀ h1 h2:Heap,φ h1->(∀ o,h1.get? a=some o->h2.get? a=some o) -> φ h2
def HOk (H:Hp) (h:Heap):Prop:=∀ a o,H a=some o->ObjOk P w H h a o
end
section
variable {P:Program} {w:World} {H H':Hp} {h h':Heap} {a:Addr} {o:HO}
theorem ObjOk.lt (x:ObjOk P w H h a o):a < h.objs.size:=by
 cases o with
 | lst xs=>obtain ⟨_,_,_,_,e⟩:=x; exact Heap.lt_size e
 | tup xs=>obtain ⟨_,_,_,p⟩:=x; exact p.tup.lt
 | dK kvs=>obtain ⟨_,_,_,_,o,_,_,e,_⟩:=x; exact Heap.lt_size e
 | dT kvs=>obtain ⟨_,_,_,_,o,_,_,e,_⟩:=x; exact Heap.lt_size e
 | set S n=>obtain ⟨o,_,_,_,e,_⟩:=x; exact Heap.lt_size e
 | ins C dx fs=>obtain ⟨_,_,_,e,_⟩:=x; exact Heap.lt_size e
 | own y=>obtain ⟨_,e⟩:=x; exact Heap.lt_size e
 | xd fs=>obtain ⟨_,⟨_,_,_,e,_⟩,_⟩:=x; exact Heap.lt_size e
 | rng lo hi=>obtain ⟨_,_,_,e⟩:=x; exact Heap.lt_size e
 | frz ob u=>obtain ⟨e,_⟩:=x; exact Heap.lt_size e
 | tbl ps=>exact Heap.lt_size (show h.get? a=some _ from x)
 | met f y=>exact Heap.lt_size (show h.get? a=some _ from x)
 | ext φ=>obtain ⟨_,⟨_,e⟩,_⟩:=x; exact Heap.lt_size e
theorem Paired.mapP {α β:Type} {F G:α -> β -> Prop}:∀ {l₁:List α} {l₂:List β},Paired F l₁ l₂ -> (∀ a b,F a b->G a b)->Paired G l₁ l₂
 | _,_,.nil,_=>.nil
 | _,_,.cons r t,f=>.cons (f _ _ r) (Paired.mapP t f)
theorem ObjOk.stay (x:ObjOk P w H h a o) (k:∀ b u,(b=a\/H b=some (.own a))->h.get? b=some u->h'.get? b=some u)
  (ho:∀ b,H b=some (.own a)->H' b=some (.own a)) (ht:∀ b xs,H b=some (.tup xs)->H' b=some (.tup xs)):ObjOk P w H' h' a o:=by
 induction o with
 | lst xs=>obtain ⟨z,its,n,r,e⟩:=x; exact ⟨z,its,n,r,k _ _ (.inl rfl) e⟩
 | tup xs=>obtain ⟨z,its,r,ob,e,c⟩:=x; exact ⟨z,its,r,ob,k _ _ (.inl rfl) e,c⟩
 | dK kvs=>obtain ⟨z,y,vs,r,ob,es,ep,e,c⟩:=x; exact ⟨z,y,vs,r,ob,es,ep,k _ _ (.inl rfl) e,c⟩
 | dT kvs=>
  obtain ⟨z,y,xs,r,ob,es,ep,e,c⟩:=x
  exact ⟨z,y,xs,Paired.mapP r fun p q z=>⟨z.1,ht _ _ z.2.1,z.2.2⟩,ob,es,ep,k _ _ (.inl rfl) e,c⟩
 | set S n=>obtain ⟨ob,es,ep,t,e,c⟩:=x; exact ⟨ob,es,ep,t,k _ _ (.inl rfl) e,c⟩
 | ins C dx fs=>
  obtain ⟨d,z,ne,e,mA,⟨od,es,ep,e2,c⟩,r⟩:=x
  exact ⟨ho _ d,z,ne,k _ _ (.inl rfl) e,mA,⟨od,es,ep,k _ _ (.inr d) e2,c⟩,r⟩
 | own y=>obtain ⟨ob,e⟩:=x; exact ⟨ob,k _ _ (.inl rfl) e⟩
 | xd fs=>obtain ⟨mA,⟨od,es,ep,e,c⟩,r⟩:=x; exact ⟨mA,⟨od,es,ep,k _ _ (.inl rfl) e,c⟩,r⟩
 | rng lo hi=>obtain ⟨t,u,v,e⟩:=x; exact ⟨t,u,v,k _ _ (.inl rfl) e⟩
 | frz ob u ih=>obtain ⟨e,q⟩:=x; exact ⟨k _ _ (.inl rfl) e,ih q⟩
 | tbl ps=>
  have e:h.get? a=some { cls:=.none,data:=.fields ps }:=x
  show h'.get? a=some { cls:=.none,data:=.fields ps }
  exact k a _ (.inl rfl) e
 | met f y=>
  have e:h.get? a=some (PySem.W.methodObj (.ref f) (.ref y)):=x
  show h'.get? a=some (PySem.W.methodObj (.ref f) (.ref y))
  exact k a _ (.inl rfl) e
 | ext φ=>obtain ⟨p,⟨o,e⟩,st⟩:=x; exact ⟨st _ _ p fun o q=>k _ _ (.inl rfl) q,⟨o,k _ _ (.inl rfl) e⟩,st⟩
theorem HOk.lt (x:HOk P w H h) (e:H a=some o):a < h.objs.size:=(x a o e).lt
theorem HOk.fresh (x:HOk P w H h) (e:h.objs.size<=a):H a=none:=by
 cases q:H a with
 | none=>rfl
 | some u=>exact absurd (Nat.lt_of_lt_of_le (x.lt q) e) (Nat.lt_irrefl _)
theorem HOk.kept (x:HOk P w H h) (k:∀ b u,h.get? b=some u->h'.get? b=some u):HOk P w H h':=fun a o e=>
 (x a o e).stay (fun b u _ q=>k b u q) (fun _ q=>q) fun _ _ q=>q
theorem HOk.laid (x:HOk P w H h) (k:∀ b u,h.get? b=some u->h'.get? b=some u) (hp:h.objs.size<=a) (new:ObjOk P w (upd H a o) h' a o):HOk P w (upd H a o) h':=fun b u e=>by
 have hn:=x.fresh hp
 by_cases hb:b=a
 ·subst hb; rw [Zat] at e; cases e; exact new
 ·rw [Zao hb] at e
  exact (x b u e).stay (fun c v _ q=>k c v q) (fun c q=>by rw [Zao (Zaq q hn)]; exact q) fun c xs q=>by rw [Zao (Zaq q hn)]; exact q
end
def Rd (H:Hp) (a:Addr) (u:HO):Prop:=H a=some u\/∃ o,H a=some (.frz o u)
theorem Rd.ok {P:Program} {w:World} {H:Hp} {h:Heap} {a:Addr} {u:HO} (r:Rd H a u) (x:HOk P w H h):ObjOk P w H h a u:=by
 rcases r with r | ⟨o,r⟩
 ·exact x a u r
 ·obtain ⟨_,q⟩:=x a _ r
  exact q
def Mut:Option HO->Prop
 | some (.lst _)=>True
 | some (.dK _)=>True
 | some (.dT _)=>True
 | some (.set _ _)=>True
 | some (.ins _ _ _)=>True
 | some (.ext _)=>True
 | _=>False
section
variable {P:Program} {w:World} {H:Hp} {h h':Heap} {x e:Addr} {o':HO}
theorem HOk.write (ok:HOk P w H h) (mu:Mut (H x)) (he:e=x\/H e=some (.own x)) (k:∀ b u,b ≠ e->h.get? b=some u->h'.get? b=some u) (heo:∃ u,h'.get? e=some u)
  (new:ObjOk P w (upd H x o') h' x o'):HOk P w (upd H x o') h':=fun b u q=>by
 have nown:∀ c y,H c=some (.own y)->c ≠ x:=fun c y r z=>by subst z; rw [r] at mu; exact mu
 have ntup:∀ c xs,H c=some (.tup xs)->c ≠ x:=fun c xs r z=>by subst z; rw [r] at mu; exact mu
 by_cases hb:b=x
 ·subst hb; rw [Zat] at q; cases q; exact new
 ·rw [Zao hb] at q
  by_cases hbe:b=e
  ·have q':H b=some (.own x):=by
    rcases he with z | z
    ·exact absurd (hbe.trans z) hb
    ·rw [hbe]; exact z
   rw [q] at q'; cases q'
   obtain ⟨v,hv⟩:=heo
   exact ⟨v,by rw [hbe]; exact hv⟩
  ·refine (ok b u q).stay (fun c v hc r=>k c v ?_ r) (fun c r=>by rw [Zao (nown c b r)]; exact r) fun c xs r=>by rw [Zao (ntup c xs r)]; exact r
   rcases hc with rfl | hc
   ·exact hbe
   ·rintro rfl
    rcases he with z | z
    ·exact nown c b hc z
    ·rw [hc] at z; cases z; exact hb rfl
end
structure Un (fs ex:List Addr) (H H':Hp) (h h':Heap):Prop where
 keep:∀ b o,h.get? b=some o->H b=none->b ∉ fs->b ∉ ex->h'.get? b=some o
 slot:∀ b o,h.get? b=some o->H b=none->b ∈ fs->b ∉ ex->∃ sl,h'.get? b=some { o with slots:=sl }
 free:∀ b o,h.get? b=some o->H b=none->b ∉ ex->H' b=none
 there:∀ b o,h.get? b=some o->b ∉ ex->∃ o',h'.get? b=some o'
 tups:∀ b xs,H b=some (.tup xs)->H' b=some (.tup xs)
 frzs:∀ b o u,H b=some (.frz o u)->H' b=some (.frz o u)
 tbls:∀ b ps,H b=some (.tbl ps)->∃ more,H' b=some (.tbl (ps ++ more))
section
variable {fs fs' ex ex':List Addr} {H H1 H2:Hp} {h h1 h2 h':Heap} {a x e:Addr} {o:HO}
theorem Un.any (u:Un fs ex H H1 h h1) {b:Addr} {ob:Obj} (q:h.get? b=some ob) (n:H b=none) (hx:b ∉ ex):∃ sl,h1.get? b=some { ob with slots:=sl }:=by
 by_cases hb:b ∈ fs
 ·exact u.slot b ob q n hb hx
 ·exact ⟨ob.slots,u.keep b ob q n hb hx⟩
theorem Un.kept (k:∀ b u,h.get? b=some u->h'.get? b=some u):Un fs ex H H h h':=
 ⟨fun b ob q _ _ _=>k b ob q,fun b ob q _ _ _=>⟨ob.slots,k b ob q⟩,fun _ _ _ n _=>n,fun b ob q _=>⟨ob,k b ob q⟩,fun _ _ q=>q,fun _ _ _ q=>q,fun _ ps q=>⟨#[],by rw [q]; simp⟩⟩
theorem Un.refl:Un fs ex H H h h:=Un.kept fun _ _ q=>q
theorem Un.laid (k:∀ b u,h.get? b=some u->h'.get? b=some u) (hp:h.objs.size<=a) (hn:H a=none):Un fs ex H (upd H a o) h h' where
 keep:=fun b u q _ _ _=>k b u q
 slot:=fun b u q _ _ _=>⟨u.slots,k b u q⟩
 free:=fun b u q n _=>by rw [Zao (Nat.ne_of_lt (Nat.lt_of_lt_of_le (Heap.lt_size q) hp))]; exact n
 there:=fun b u q _=>⟨u,k b u q⟩
 tups:=fun b xs q=>by rw [Zao (Zaq q hn)]; exact q
 frzs:=fun b u xs q=>by rw [Zao (Zaq q hn)]; exact q
 tbls:=fun b ps q=>⟨#[],by rw [Zao (Zaq q hn),q]; simp⟩
theorem Un.write (mu:Mut (H x)) (he:e=x\/H e=some (.own x)) (k:∀ b u,b ≠ e->h.get? b=some u->h'.get? b=some u) (heo:∃ u,h'.get? e=some u):Un fs ex H (upd H x o) h h':=by
 have hx:∀ b,H b=none->b ≠ x:=fun b n z=>by subst z; rw [n] at mu; exact mu
 have hb:∀ b,H b=none->b ≠ e:=fun b n z=>by
  subst z
  rcases he with r | r
  ·exact hx b n r
  ·rw [n] at r; cases r
 have hm:∀ b u,H b=some u->¬ Mut (some u)->b ≠ x:=fun b u q nm z=>by subst z; rw [q] at mu; exact nm mu
 refine ⟨fun b u q n _ _=>k b u (hb b n) q,fun b u q n _ _=>⟨u.slots,k b u (hb b n) q⟩,fun b u q n _=>by rw [Zao (hx b n)]; exact n,fun b u q _=>?_,
  fun b xs q=>by rw [Zao (hm b _ q fun z=>z)]; exact q,fun b u xs q=>by rw [Zao (hm b _ q fun z=>z)]; exact q,fun b ps q=>⟨#[],by rw [Zao (hm b _ q fun z=>z),q]; simp⟩⟩
 by_cases hbe:b=e
 ·subst hbe; exact heo
 ·exact ⟨u,k b u hbe q⟩
end
def trk (h:Heap) (H:Hp):List Addr:=(List.range h.objs.size).filter fun a=>(H a).isSome
def hidT (h:Heap) (H:Hp):Heap:=PySem.W.hideAll h (trk h H)
theorem Zi6 (h:Heap) (H:Hp):(hidT h H).objs.size=h.objs.size:=PySem.W.hideAll_size _ _
theorem Zk9 {h:Heap} {H:Hp} {b:Addr} {o:Obj} (e:h.get? b=some o) (n:H b=none):(hidT h H).get? b=some o:=
 PySem.W.hideAll_get _ e fun hm=>by
  have q:(H b).isSome=true:=(List.mem_filter.mp hm).2
  rw [n] at q; simp at q
theorem Zod {h:Heap} {H:Hp} {b:Addr} {o:Obj} (e:(hidT h H).get? b=some o):h.get? b=some o/\H b=none:=by
 have e':h.get? b=some o:=PySem.W.of_hideAll (trk h H) e
 refine ⟨e',?_⟩
 cases q:H b with
 | none=>rfl
 | some x=>
  have hm:b ∈ trk h H:=List.mem_filter.mpr ⟨List.mem_range.mpr (Heap.lt_size e'),by simp [q]⟩
  have z:(hidT h H).get? b=none:=PySem.W.hideAll_none (trk h H) hm
  rw [z] at e; cases e
def allNews (g h:Heap) (L:Addr):List (Addr × Obj):=(List.range h.objs.size).filterMap fun a=>if a=L\/(g.get? a).isSome=true then none else (h.get? a).map fun o=>(a,o)
def rest (g h:Heap) (L d:Addr):List (Addr × Obj):=(allNews g h L).filter fun p=>decide (p.1 ≠ d)
end L2
namespace L2
open PySem PySem.Spec PyProof.Rows
structure Mod (K:PySem.W.Frag) (mg:Str->Option Value) (base:Heap):Prop where
 kin:K.In base
 glob:base.Ns mainGlobals mg
 blt:∃ mb,base.Ns builtinsNs mb/\∀ x:Str,x ≠ "__name__" -> mb x=bootBuiltins x
 nolimit:base.NoLimit
structure Cx where
 prog:Program
 w:World
 K:PySem.W.Frag
 mg:Str->Option Value
 base:Heap
 A:Around
 N:List Str
 s₀:Shared
 H₀:Hp
 env:Env
 outer:List Env
 stack:List Env
 ex:List Addr
 fn:Str->Bool
 calm:Bool
 pn:List (Addr × Obj)
 xe:Value->Shared->Prop
def frs (l:List Env):List Addr:=l.filterMap (·.frame)
abbrev Cx.fs (X:Cx):List Addr:=frs X.outer
def Vis (sc:Scope) (x:Str):Prop:=sc.names.lookup x=some .local\/sc.names.lookup x=some .cell\/sc.names.lookup x=some .free
def Loc (sc:Scope) (x:Str):Prop:=sc.names.lookup x=some .local\/sc.names.lookup x=some .cell
def Look (env:Env) (h:Heap) (m:Str->Option Value) (x:Str) (u:Value):Prop:=
 (env.kindOf x=some .local/\m x=some u)\/((env.kindOf x=some .cell\/env.kindOf x=some .free)/\∃ c,env.cells.lookup x=some c/\h.IsCell c (some u))
structure Cx.Ok (X:Cx):Prop where
 mod:Mod X.K X.mg X.base
 kind:X.env.scope.kind=.function
 glob:X.env.globals=mainGlobals
 blt:X.env.builtins=builtinsNs
 above:X.s₀.heap.objs.size<=X.env.locals
 inj:∀ x y c,X.env.cells.lookup x=some c->X.env.cells.lookup y=some c->x=y
 has:∀ x,(X.env.kindOf x=some .cell\/X.env.kindOf x=some .free)->∃ c,X.env.cells.lookup x=some c
 cab:∀ x c,X.fn x=true->X.env.cells.lookup x=some c->X.s₀.heap.objs.size<=c
 hd:X.calm=true->X.A.handled=none
 frames:X.A.frames=some X.stack
 stk:X.stack=X.outer\/(X.stack=X.env :: X.outer/\X.env.frame=some X.env.locals)
 exf:∀ b ∈ X.ex,b ≠ X.env.locals/\∀ x c,X.env.cells.lookup x=some c->c ≠ b
 bs:∀ b o,X.base.get? b=some o->X.s₀.heap.get? b=some o/\X.H₀ b=none
 bsz:X.base.objs.size<=X.s₀.heap.objs.size
 noex:∀ b o,X.base.get? b=some o->b ∉ X.ex
 exfs:∀ b ∈ X.ex,b ∉ X.fs
 funs:X.s₀.heap.FunFrames X.base X.outer
 frf:∀ b ∈ X.fs,X.H₀ b=none
structure Inv (X:Cx) (pins:List (Addr × Obj)) (σ:List (Option V)) (H:Hp) (s:Shared):Prop where
 ok:X.Ok
 os:s.os=X.s₀.os
 bare:AllBare s.gens
 base:Un X.fs X.ex X.H₀ H X.s₀.heap s.heap
 loc:∃ m,s.heap.Ns X.env.locals m/\∀ (i:Nat) (x:Str) (v:V),X.N[i]? = some x -> σ[i]? = some (some v)->Vis X.env.scope x->∃ u,RelV v u/\Look X.env s.heap m x u
 cell:∀ x c,X.env.cells.lookup x=some c->∃ v,s.heap.IsCell c v
 free:H X.env.locals=none
 freeC:∀ x c,X.env.cells.lookup x=some c->H c=none
 pin:∀ p ∈ X.pn ++ pins,s.heap.get? p.1=some p.2/\H p.1=none/\p.1 ≠ X.env.locals/\p.1 ∉ X.fs/\∀ v,p.2.data ≠ .cell v
 hok:HOk X.prog X.w H s.heap
 len:σ.length=X.N.length
section
variable {X:Cx} {pins:List (Addr × Obj)} {σ:List (Option V)} {H H':Hp} {s:Shared} {h':Heap}
theorem Cx.Ok.nofr (ok:X.Ok) {b:Addr} {o:Obj} (e:X.base.get? b=some o):b ∉ X.fs:=fun hb=>by
 have:=(ok.funs.mem hb).1
 rw [e] at this; cases this
theorem Inv.bs (I:Inv X pins σ H s):∀ b o,X.base.get? b=some o->s.heap.get? b=some o/\H b=none:=fun b o e=>
 ⟨I.base.keep b o (I.ok.bs b o e).1 (I.ok.bs b o e).2 (I.ok.nofr e) (I.ok.noex b o e),I.base.free b o (I.ok.bs b o e).1 (I.ok.bs b o e).2 (I.ok.noex b o e)⟩
theorem Inv.bk (I:Inv X pins σ H s):∀ b o,X.base.get? b=some o->s.heap.get? b=some o:=fun b o e=>(I.bs b o e).1
theorem Inv.mod (I:Inv X pins σ H s):Mod X.K X.mg X.base:=I.ok.mod
theorem Inv.kIn (I:Inv X pins σ H s):X.K.In s.heap:=I.ok.mod.kin.keeps I.bk
theorem Inv.lt (I:Inv X pins σ H s):X.env.locals < s.heap.objs.size:=let ⟨_,hn,_⟩:=I.loc; hn.lt
theorem Inv.sz (I:Inv X pins σ H s):X.s₀.heap.objs.size<=s.heap.objs.size:=Nat.le_trans I.ok.above (Nat.le_of_lt I.lt)
theorem Inv.nofs (I:Inv X pins σ H s) {a:Addr} (h:s.heap.objs.size<=a):a ∉ X.fs:=fun hb=>by
 obtain ⟨_,o,ho,_⟩:=I.ok.funs.mem hb
 exact absurd (Nat.lt_of_lt_of_le (Heap.lt_size ho) (Nat.le_trans I.sz h)) (Nat.lt_irrefl _)
theorem Inv.cne (I:Inv X pins σ H s):∀ x c,X.env.cells.lookup x=some c->c ≠ X.env.locals:=fun x c e z=>by
 obtain ⟨v,o,ho,hd⟩:=I.cell x c e
 obtain ⟨m,⟨o',es,ep,ho',hd',_⟩,_⟩:=I.loc
 rw [z,ho'] at ho; cases ho; rw [hd'] at hd; cases hd
theorem Inv.funs (I:Inv X pins σ H s):s.heap.FunFrames X.base X.outer:=by
 have all:∀ (l:List Env),(∀ b ∈ frs l,b ∈ X.fs)->X.s₀.heap.FunFrames X.base l->s.heap.FunFrames X.base l:=by
  intro l
  induction l with
  | nil=>intro _ _; trivial
  | cons env r ih=>
   intro hs hl
   obtain ⟨hk,⟨L,o,hf,hn,ho,hd⟩,hr⟩:=hl
   have hL:L ∈ X.fs:=hs L (by unfold frs; rw [List.filterMap_cons,hf]; exact List.mem_cons_self)
   obtain ⟨sl,e⟩:=I.base.slot L o ho (I.ok.frf L hL) hL fun z=>I.ok.exfs L z hL
   exact ⟨hk,⟨L,_,hf,hn,e,hd⟩,ih (fun b hb=>hs b (by unfold frs; rw [List.filterMap_cons,hf]; exact List.mem_cons_of_mem _ hb)) hr⟩
 exact all X.outer (fun _ hb=>hb) I.ok.funs
theorem Inv.stack (I:Inv X pins σ H s):s.heap.FunFrames X.base X.stack:=by
 rcases I.ok.stk with e | ⟨e,hf⟩
 ·rw [e]; exact I.funs
 ·rw [e]
  obtain ⟨m,hn,_⟩:=I.loc
  refine .cons (by rw [I.ok.kind]; decide) hf hn ?_ I.funs
  exact Heap.get?_none_of_le (Nat.le_trans I.ok.bsz I.ok.above)
theorem Inv.stkSub (I:Inv X pins σ H s):∀ b ∈ frs X.stack,b ∈ X.env.locals :: X.fs:=fun b hb=>by
 rcases I.ok.stk with e | ⟨e,hf⟩
 ·rw [e] at hb; exact List.mem_cons_of_mem _ hb
 ·rw [e] at hb
  unfold frs at hb
  rw [List.filterMap_cons,hf] at hb
  exact hb
theorem Inv.stkFree (I:Inv X pins σ H s):∀ b ∈ frs X.stack,H b=none:=fun b hb=>by
 rcases List.mem_cons.mp (I.stkSub b hb) with e | hb
 ·rw [e]; exact I.free
 ·obtain ⟨_,o,ho,_⟩:=I.ok.funs.mem hb
  exact I.base.free b o ho (I.ok.frf b hb) fun z=>I.ok.exfs b z hb
theorem Inv.step {g':Array GenState} {t':Nat} {d':Drawn} {ch:List Addr} (I:Inv X pins σ H s)
  (hch:∀ b ∈ ch,(b ∈ X.ex\/X.s₀.heap.objs.size<=b)/\b ≠ X.env.locals/\(∀ x c,X.env.cells.lookup x=some c->c ≠ b)/\∀ p ∈ X.pn ++ pins,p.1 ≠ b)
  (keep:∀ b o,b ≠ X.env.locals->b ∉ X.fs->b ∉ ch->s.heap.get? b=some o->H b=none->h'.get? b=some o)
  (slot:∀ b o,b ≠ X.env.locals->b ∈ X.fs->b ∉ ch->s.heap.get? b=some o->H b=none->∃ sl,h'.get? b=some { o with slots:=sl }) (free:∀ b o,b ∉ ch->s.heap.get? b=some o->H b=none->H' b=none)
  (there:∀ b o,b ∉ ch->s.heap.get? b=some o->∃ o',h'.get? b=some o')
  (tups:∀ b xs,H b=some (.tup xs)->H' b=some (.tup xs)) (frzs:∀ b o u,H b=some (.frz o u)->H' b=some (.frz o u)) (tbls:∀ b ps,H b=some (.tbl ps)->∃ more,H' b=some (.tbl (ps ++ more)))
  (ns:∀ m,s.heap.Ns X.env.locals m->h'.Ns X.env.locals m) (hok:HOk X.prog X.w H' h') (hg:AllBare g') :
  Inv X pins σ H' { s with heap:=h',gens:=g',drawn:=d',toks:=t' }:=by
 have neL:∀ b o,X.s₀.heap.get? b=some o->b ≠ X.env.locals:=fun b o e=>Nat.ne_of_lt (Nat.lt_of_lt_of_le (Heap.lt_size e) I.ok.above)
 have neC:∀ b o,X.s₀.heap.get? b=some o->b ∉ X.ex->b ∉ ch:=fun b o e hx hb=>by
  rcases (hch b hb).1 with z | z
  ·exact hx z
  ·exact absurd (Nat.lt_of_lt_of_le (Heap.lt_size e) z) (Nat.lt_irrefl _)
 have cellK:∀ x c,X.env.cells.lookup x=some c->∀ v,s.heap.IsCell c v->h'.IsCell c v:=fun x c e v hq_=>by
  obtain ⟨o,ho,hd⟩:=hq_
  have nch:c ∉ ch:=fun z=>(hch c z).2.2.1 x c e rfl
  by_cases hc:c ∈ X.fs
  ·obtain ⟨sl,q⟩:=slot c o (I.cne x c e) hc nch ho (I.freeC x c e)
   exact ⟨_,q,hd⟩
  ·exact ⟨o,keep c o (I.cne x c e) hc nch ho (I.freeC x c e),hd⟩
 refine ⟨I.ok,I.os,hg,⟨fun b o e n hb hx=>?_,fun b o e n hb hx=>?_,fun b o e n hx=>?_,fun b o e hx=>?_,fun b xs e=>tups b xs (I.base.tups b xs e),fun b o xs e=>frzs b o xs (I.base.frzs b o xs e),fun b ps e=>?_⟩,?_,fun x c e=>?_,?_,fun x c e=>?_,fun p hp=>?_,hok,I.len⟩
 ·exact keep b o (neL b o e) hb (neC b o e hx) (I.base.keep b o e n hb hx) (I.base.free b o e n hx)
 ·obtain ⟨sl,e1⟩:=I.base.slot b o e n hb hx
  obtain ⟨sl',e2⟩:=slot b _ (neL b o e) hb (neC b o e hx) e1 (I.base.free b o e n hx)
  exact ⟨sl',e2⟩
 ·obtain ⟨o',e1⟩:=I.base.there b o e hx
  exact free b o' (neC b o e hx) e1 (I.base.free b o e n hx)
 ·obtain ⟨o',e1⟩:=I.base.there b o e hx
  exact there b o' (neC b o e hx) e1
 ·obtain ⟨m1,e1⟩:=I.base.tbls b ps e
  obtain ⟨m2,e2⟩:=tbls b _ e1
  exact ⟨m1 ++ m2,by rw [e2,Array.append_assoc]⟩
 ·obtain ⟨m,hn,hl⟩:=I.loc
  refine ⟨m,ns m hn,fun i x v e1 e2 e3=>?_⟩
  obtain ⟨u,r,l⟩:=hl i x v e1 e2 e3
  refine ⟨u,r,?_⟩
  rcases l with l | ⟨k,c,e,z⟩
  ·exact .inl l
  ·exact .inr ⟨k,c,e,cellK x c e _ z⟩
 ·obtain ⟨v,z⟩:=I.cell x c e
  exact ⟨v,cellK x c e v z⟩
 ·obtain ⟨m,⟨o,_,_,ho,_⟩,_⟩:=I.loc
  exact free _ o (fun z=>(hch _ z).2.1 rfl) ho I.free
 ·obtain ⟨v,o,ho,hd⟩:=I.cell x c e
  exact free c o (fun z=>(hch c z).2.2.1 x c e rfl) ho (I.freeC x c e)
 ·obtain ⟨e,n,ne,nf,d⟩:=I.pin p hp
  have nch:p.1 ∉ ch:=fun z=>(hch p.1 z).2.2.2 p hp rfl
  exact ⟨keep p.1 p.2 ne nf nch e n,free p.1 p.2 nch e n,ne,nf,d⟩
theorem Inv.un {t':Nat} (I:Inv X pins σ H s) (u:Un X.fs [] H H' s.heap h') (hok:HOk X.prog X.w H' h'):Inv X pins σ H' { s with heap:=h',toks:=t' }:=by
 obtain ⟨m,⟨o,es,ep,ho,r⟩,_⟩:=id I.loc
 obtain ⟨sl,hL⟩:=u.any ho I.free (by simp)
 exact I.step (g':=s.gens) (d':=s.drawn) (ch:=[]) (fun _ z=>nomatch z) (fun b o _ hb _ e n=>u.keep b o e n hb (by simp)) (fun b o _ hb _ e n=>u.slot b o e n hb (by simp)) (fun b o _ e n=>u.free b o e n (by simp)) (fun b o _ e=>u.there b o e (by simp)) u.tups u.frzs u.tbls (fun m' hm=>by
  obtain ⟨o',es',ep',ho',r'⟩:=hm
  rw [ho] at ho'; cases ho'
  exact ⟨_,es',ep',hL,r'⟩) hok I.bare
theorem Inv.call {g':Array GenState} {t':Nat} {d':Drawn} {ch:List Addr} (I:Inv X pins σ H s) (u:Un (frs X.stack) ch H H' s.heap h') (hok:HOk X.prog X.w H' h') (hg:AllBare g')
  (hch:∀ b ∈ ch,(b ∈ X.ex\/X.s₀.heap.objs.size<=b)/\b ≠ X.env.locals/\(∀ x c,X.env.cells.lookup x=some c->c ≠ b)/\∀ p ∈ X.pn ++ pins,p.1 ≠ b) :
  Inv X pins σ H' { s with heap:=h',gens:=g',drawn:=d',toks:=t' }:=by
 obtain ⟨m,⟨o,es,ep,ho,r⟩,_⟩:=id I.loc
 obtain ⟨sl,hL⟩:=u.any ho I.free fun z=>(hch _ z).2.1 rfl
 exact I.step (ch:=ch) hch (fun b o hL hb hc e n=>u.keep b o e n (fun z=>(List.mem_cons.mp (I.stkSub b z)).elim hL hb) hc) (fun b o _ _ hc e n=>u.any e n hc) (fun b o hc e n=>u.free b o e n hc) (fun b o hc e=>u.there b o e hc) u.tups u.frzs u.tbls (fun m' hm=>by
  obtain ⟨o',es',ep',ho',r'⟩:=hm
  rw [ho] at ho'; cases ho'
  exact ⟨_,es',ep',hL,r'⟩) hok hg
theorem Inv.turned {t':Nat} {it:Addr} (I:Inv X pins σ H s) (k:∀ b o,b ≠ it->s.heap.get? b=some o->h'.get? b=some o) (hn:H it=none) (hL:it ≠ X.env.locals)
  (h1:it ∈ X.ex\/X.s₀.heap.objs.size<=it) (h2:∀ x c,X.env.cells.lookup x=some c->c ≠ it) (h3:∀ p ∈ X.pn ++ pins,p.1 ≠ it):Inv X pins σ H { s with heap:=h',toks:=t' }:=by
 have nit:∀ b u,H b=some u->b ≠ it:=fun b u e z=>by rw [z,hn] at e; cases e
 refine I.step (g':=s.gens) (d':=s.drawn) (ch:=[it]) (fun b hb=>?_) (fun b o _ _ hc e _=>k b o (fun z=>hc (by simp [z])) e) (fun b o _ _ hc e _=>⟨o.slots,k b o (fun z=>hc (by simp [z])) e⟩) (fun _ _ _ _ n=>n)
  (fun b o hc e=>⟨o,k b o (fun z=>hc (by simp [z])) e⟩) (fun _ _ e=>e) (fun _ _ _ e=>e) (fun b ps e=>⟨#[],by rw [e]; simp⟩) (fun m hm=>?_) (fun b u e=>?_) I.bare
 ·have e:b=it:=by simpa using hb
  subst e
  exact ⟨h1,hL,h2,h3⟩
 ·obtain ⟨o,es,ep,ho,r⟩:=hm
  exact ⟨o,es,ep,k _ o (Ne.symm hL) ho,r⟩
 ·refine (I.hok b u e).stay (fun c v hc q=>k c v ?_ q) (fun _ q=>q) fun _ _ q=>q
  rcases hc with z | z
  ·rw [z]; exact nit b u e
  ·exact nit c _ z
theorem Inv.tok (I:Inv X pins σ H s) (t:Nat):Inv X pins σ H { s with toks:=t }:=I.un (h':=s.heap) (t':=t) Un.refl I.hok
theorem Inv.kept {t':Nat} (I:Inv X pins σ H s) (k:∀ b u,s.heap.get? b=some u->h'.get? b=some u):Inv X pins σ H { s with heap:=h',toks:=t' }:=I.un (Un.kept k) (I.hok.kept k)
theorem Inv.laid {a:Addr} {o:HO} {t':Nat} (I:Inv X pins σ H s) (k:∀ b u,s.heap.get? b=some u->h'.get? b=some u) (hp:s.heap.objs.size<=a) (new:ObjOk X.prog X.w (upd H a o) h' a o) :
  Inv X pins σ (upd H a o) { s with heap:=h',toks:=t' }:=I.un (Un.laid k hp (I.hok.fresh hp)) (I.hok.laid k hp new)
theorem Inv.write {x e:Addr} {o:HO} {t':Nat} (I:Inv X pins σ H s) (mu:Mut (H x)) (he:e=x\/H e=some (.own x)) (k:∀ b u,b ≠ e->s.heap.get? b=some u->h'.get? b=some u) (heo:∃ u,h'.get? e=some u)
  (new:ObjOk X.prog X.w (upd H x o) h' x o):Inv X pins σ (upd H x o) { s with heap:=h',toks:=t' }:=I.un (Un.write mu he k heo) (I.hok.write mu he k heo new)
theorem Inv.pins_of {pins':List (Addr × Obj)} (I:Inv X pins σ H s) (h:∀ p ∈ pins',s.heap.get? p.1=some p.2/\H p.1=none/\p.1 ≠ X.env.locals/\p.1 ∉ X.fs/\∀ v,p.2.data ≠ .cell v):Inv X pins' σ H s:=
 ⟨I.ok,I.os,I.bare,I.base,I.loc,I.cell,I.free,I.freeC,fun p hp=>(List.mem_append.mp hp).elim (fun z=>I.pin p (List.mem_append_left _ z)) (h p),I.hok,I.len⟩
theorem Zh4 {N:List Str} (hN:N.Nodup) {i j:Nat} {x:Str} (a:N[i]? = some x) (b:N[j]? = some x):i=j:=by
 obtain ⟨h1,e1⟩:=List.getElem?_eq_some_iff.mp a
 obtain ⟨h2,e2⟩:=List.getElem?_eq_some_iff.mp b
 exact (List.getElem_inj hN).mp (e1.trans e2.symm)
theorem Zg1 {M:Model} {A:Around} {E:Value->Shared->Prop} {i:Nat} {x:Str} {v:V} {u:Value} {Q:Unit->Shared->Prop} (I:Inv X pins σ H s) (hN:X.N.Nodup) (hi:X.N[i]? = some x) (hx:Loc X.env.scope x) (r:RelV v u)
  (h:∀ s',Inv X pins (σ.set i (some v)) H s' -> (∃ a,Heap.SameBut a s.heap s'.heap/\(a=X.env.locals\/X.env.cells.lookup x=some a))->Q () s') (hf:X.fn x=true\/X.env.scope.names.lookup x=some .local:=by first | exact .inl rfl | exact .inr rfl | assumption):wpAny M A (storeName X.env x u) Q E s:=by
 obtain ⟨m,hn,hl⟩:=id I.loc
 have hcls:(X.env.scope.kind == .class || (X.env.scope.kind == .module && X.env.locals != X.env.globals))=false:=by rw [I.ok.kind]; rfl
 have hiσ:i < σ.length:=by rw [I.len]; exact (List.getElem?_eq_some_iff.mp hi).1
 have cne:=I.cne
 have tracked:∀ {a:Addr} {h':Heap},(∃ o,s.heap.get? a=some o/\H a=none)->Heap.SameBut a s.heap h' -> HOk X.prog X.w H h':=fun {a h'} ha hs b ob e=>by
  obtain ⟨_,_,hfree⟩:=ha
  refine (I.hok b ob e).stay (fun c w' hc q=>(hs.2 c ?_).trans q) (fun _ q=>q) fun _ _ q=>q
  rintro rfl
  rcases hc with rfl | hc
  ·rw [hfree] at e; cases e
  ·rw [hfree] at hc; cases hc
 rcases hx with hk | hk
 ·refine wpAny_storeName_local hk hn (fun h' hn' hs=>?_) hcls
  obtain ⟨oL,_,_,hoL,_⟩:=id hn
  refine h _ ⟨I.ok,I.os,I.bare,⟨fun b o e n hb hx=>?_,fun b o e n hb hx=>?_,I.base.free,fun b o e hx=>?_,I.base.tups,I.base.frzs,I.base.tbls⟩,⟨_,hn',fun j y v' e1 e2 e3=>?_⟩,fun y c e=>?_,I.free,I.freeC,fun p hp=>?_,tracked ⟨oL,hoL,I.free⟩ hs,by simpa using I.len⟩ ⟨_,hs,.inl rfl⟩
  ·exact (hs.2 b (Nat.ne_of_lt (Nat.lt_of_lt_of_le (Heap.lt_size e) I.ok.above))).trans (I.base.keep b o e n hb hx)
  ·obtain ⟨sl,e1⟩:=I.base.slot b o e n hb hx
   exact ⟨sl,(hs.2 b (Nat.ne_of_lt (Nat.lt_of_lt_of_le (Heap.lt_size e) I.ok.above))).trans e1⟩
  ·obtain ⟨o',e1⟩:=I.base.there b o e hx
   exact ⟨o',(hs.2 b (Nat.ne_of_lt (Nat.lt_of_lt_of_le (Heap.lt_size e) I.ok.above))).trans e1⟩
  ·by_cases hj:j=i
   ·subst hj
    rw [hi] at e1; cases e1
    rw [List.getElem?_set_self hiσ] at e2
    cases e2
    exact ⟨u,r,.inl ⟨hk,by simp⟩⟩
   ·rw [List.getElem?_set_ne (Ne.symm hj)] at e2
    obtain ⟨u',r',q⟩:=hl j y v' e1 e2 e3
    refine ⟨u',r',?_⟩
    rcases q with ⟨k,e⟩ | ⟨k,c,e,z⟩
    ·refine .inl ⟨k,?_⟩
     have:y ≠ x:=fun e=>hj (Zh4 hN e1 (e ▸ hi))
     simp [this,e]
    ·exact .inr ⟨k,c,e,z.sameBut hs (cne y c e)⟩
  ·obtain ⟨w',z⟩:=I.cell y c e
   exact ⟨w',z.sameBut hs (cne y c e)⟩
  ·obtain ⟨e,n,ne,nf,d⟩:=I.pin p hp
   exact ⟨(hs.2 p.1 ne).trans e,n,ne,nf,d⟩
 ·have hfn:X.fn x=true:=by
   rcases hf with z | z
   ·exact z
   ·rw [z] at hk; cases hk
  obtain ⟨c,hc⟩:=I.ok.has x (.inl hk)
  obtain ⟨w',z⟩:=I.cell x c hc
  refine wpAny_storeName_cell I.ok.kind hk hc z (fun h' hc' hs=>?_)
  obtain ⟨oc,hoc,hocd⟩:=id z
  refine h { s with heap:=h' } ⟨I.ok,I.os,I.bare,⟨fun b o e n hb hx=>?_,fun b o e n hb hx=>?_,I.base.free,fun b o e hx=>?_,I.base.tups,I.base.frzs,I.base.tbls⟩,⟨m,hn.sameBut hs (Ne.symm (cne x c hc)),fun j y v' e1 e2 e3=>?_⟩,fun y c' e=>?_,I.free,I.freeC,fun p hp=>?_,tracked ⟨oc,hoc,I.freeC x c hc⟩ hs,by simpa using I.len⟩ ⟨c,hs,.inr hc⟩
  ·exact (hs.2 b (Nat.ne_of_lt (Nat.lt_of_lt_of_le (Heap.lt_size e) (I.ok.cab x c hfn hc)))).trans (I.base.keep b o e n hb hx)
  ·obtain ⟨sl,e1⟩:=I.base.slot b o e n hb hx
   exact ⟨sl,(hs.2 b (Nat.ne_of_lt (Nat.lt_of_lt_of_le (Heap.lt_size e) (I.ok.cab x c hfn hc)))).trans e1⟩
  ·obtain ⟨o',e1⟩:=I.base.there b o e hx
   exact ⟨o',(hs.2 b (Nat.ne_of_lt (Nat.lt_of_lt_of_le (Heap.lt_size e) (I.ok.cab x c hfn hc)))).trans e1⟩
  ·by_cases hj:j=i
   ·subst hj
    rw [hi] at e1; cases e1
    rw [List.getElem?_set_self hiσ] at e2
    cases e2
    exact ⟨u,r,.inr ⟨.inl hk,c,hc,hc'⟩⟩
   ·rw [List.getElem?_set_ne (Ne.symm hj)] at e2
    obtain ⟨u',r',q⟩:=hl j y v' e1 e2 e3
    refine ⟨u',r',?_⟩
    rcases q with q | ⟨k,c',e,z'⟩
    ·exact .inl q
    ·refine .inr ⟨k,c',e,z'.sameBut hs ?_⟩
     rintro rfl
     exact hj (Zh4 hN e1 (I.ok.inj _ _ _ e hc ▸ hi))
  ·by_cases hcc:c' = c
   ·subst hcc; exact ⟨_,hc'⟩
   ·obtain ⟨w2,z2⟩:=I.cell y c' e
    exact ⟨w2,z2.sameBut hs hcc⟩
  ·obtain ⟨e,n,ne,nf,d⟩:=I.pin p hp
   refine ⟨(hs.2 p.1 ?_).trans e,n,ne,nf,d⟩
   intro q
   rw [q,hoc] at e
   have q':oc=p.2:=Option.some.inj e
   exact d w' (by rw [<- q']; exact hocd)
theorem Zeo {M:Model} {A:Around} {E:Value->Shared->Prop} {i:Nat} {x:Str} {v:V} {u:Value} {Q:Unit->Shared->Prop} (I:Inv X pins σ H s) (hN:X.N.Nodup) (hi:X.N[i]? = some x) (hx:Loc X.env.scope x) (r:RelV v u)
  (h:∀ s',Inv X pins (σ.set i (some v)) H s' -> Q () s') (hf:X.fn x=true\/X.env.scope.names.lookup x=some .local:=by first | exact .inl rfl | exact .inr rfl | assumption):wpAny M A (storeName X.env x u) Q E s:=
 Zg1 I hN hi hx r (fun s' I' _=>h s' I') hf
theorem Inv.call' {s':Shared} {ch:List Addr} (I:Inv X pins σ H s) (ho:s'.os=s.os) (u:Un (frs X.stack) ch H H' s.heap s'.heap) (hok:HOk X.prog X.w H' s'.heap) (hg:AllBare s'.gens)
  (hch:∀ b ∈ ch,(b ∈ X.ex\/X.s₀.heap.objs.size<=b)/\b ≠ X.env.locals/\(∀ x c,X.env.cells.lookup x=some c->c ≠ b)/\∀ p ∈ X.pn ++ pins,p.1 ≠ b):Inv X pins σ H' s':=by
 obtain ⟨h',g',d',t',o'⟩:=s'
 have e:o' = s.os:=ho
 subst e
 exact I.call (g':=g') (t':=t') (d':=d') u hok hg hch
end
abbrev XK:=Value->Option Addr->Hp->Prop
abbrev St:=List (Option V)
abbrev VK:=V->Hp->Prop
abbrev TE:=St->Hp->VK->Prop
abbrev TT:=St->Hp->(Bool->Hp->Prop)->Prop
abbrev TA:=St->Hp->(List V->Hp->Prop)->Prop
structure Ends where
 nx:St->Hp->Prop
 rt:VK
 bk:St->Hp->Prop:=fun _ _=>False
 ct:St->Hp->Prop:=fun _ _=>False
abbrev TS:=Ends->St->Hp->Prop
def EP (X:Cx) (pins:List (Addr × Obj)) (σ:St) (Q:VK) (u:Value) (s':Shared):Prop:=∃ v H',Inv X pins σ H' s' /\ RelV v u/\Q v H'
def TP (X:Cx) (pins:List (Addr × Obj)) (σ:St) (Q:Bool->Hp->Prop) (b:Bool) (s':Shared):Prop:=∃ H',Inv X pins σ H' s' /\ Q b H'
def AP (X:Cx) (pins:List (Addr × Obj)) (σ:St) (Q:List V->Hp->Prop) (us:List Value) (s':Shared):Prop:=∃ vs H',Inv X pins σ H' s' /\ Vals vs us/\Q vs H'
def SP (X:Cx) (pins:List (Addr × Obj)) (D:Ends) (f:Flow) (s':Shared):Prop:=
 match f with
 | .next=>∃ σ' H',Inv X pins σ' H' s' /\ D.nx σ' H'
 | .brk=>∃ σ' H',Inv X pins σ' H' s' /\ D.bk σ' H'
 | .cont=>∃ σ' H',Inv X pins σ' H' s' /\ D.ct σ' H'
 | .ret u=>∃ v σ' H',Inv X pins σ' H' s' /\ RelV v u/\D.rt v H'
def PE (X:Cx) (e:Expr) (t:TE):Prop:=
 ∀ (pins:List (Addr × Obj)) (s:Shared) (σ:St) (H:Hp) (Q:VK),Inv X pins σ H s->t σ H Q->wpAny (model X.prog X.w) X.A (eval e X.env) (EP X pins σ Q) X.xe s
def PT (X:Cx) (e:Expr) (t:TT):Prop:=
 ∀ (pins:List (Addr × Obj)) (s:Shared) (σ:St) (H:Hp) (Q:Bool->Hp->Prop),Inv X pins σ H s->t σ H Q->wpAny (model X.prog X.w) X.A (isTrue e X.env (eval e X.env)) (TP X pins σ Q) X.xe s
def PW (X:Cx) (e:Expr) (t:TT):Prop:=
 ∀ (whole:Sem Value) (pins:List (Addr × Obj)) (s:Shared) (σ:St) (H:Hp) (Q:Bool->Hp->Prop),Inv X pins σ H s->t σ H Q->wpAny (model X.prog X.w) X.A (isTrue e X.env whole) (TP X pins σ Q) X.xe s
theorem PW.pt {X:Cx} {e:Expr} {t:TT} (h:PW X e t):PT X e t:=h _
def PA (X:Cx) (es:List Expr) (t:TA):Prop:=
 ∀ (pos:Pos) (pins:List (Addr × Obj)) (s:Shared) (σ:St) (H:Hp) (Q:List V->Hp->Prop),Inv X pins σ H s->t σ H Q->wpAny (model X.prog X.w) X.A (spliced (backTo pos (starEach es X.env))) (AP X pins σ Q) X.xe s
def PS (X:Cx) (st:Stmt) (t:TS):Prop:=
 ∀ (pins:List (Addr × Obj)) (s:Shared) (σ:St) (H:Hp) (D:Ends),Inv X pins σ H s->t D σ H->wpAny (model X.prog X.w) X.A (exec st X.env) (SP X pins D) X.xe s
def PSs (X:Cx) (st:List Stmt) (t:TS):Prop:=
 ∀ (pins:List (Addr × Obj)) (s:Shared) (σ:St) (H:Hp) (D:Ends),Inv X pins σ H s->t D σ H->wpAny (model X.prog X.w) X.A (execs st X.env) (SP X pins D) X.xe s
theorem thn {α:Type} {t:Sem α} {Q Q':α -> Shared->Prop} {M:Model} {A:Around} {E:Value->Shared->Prop} {s:Shared} (h:wpAny M A t Q E s) (hQ:∀ a s,Q a s->Q' a s):wpAny M A t Q' E s:=wpAny_mono h hQ fun _ _ x=>x
end L2
namespace L2
open PySem PySem.Spec PyProof.Rows
section
variable {X:Cx}
def tVar (i:Nat):TE:=fun σ H Q=>∃ v,σ[i]? = some (some v)/\Q v H
def tC (v:V):TE:=fun _ H Q=>Q v H
theorem Zpc {i:Nat} {x:Str} {pos:Pos} (hN:X.N[i]? = some x) (hv:Vis X.env.scope x) (hd:(x == ("__debug__":Str))=false:=by decide) (hcd:(x == ("__classdict__":Str))=false:=by decide):PE X (.Name x pos) (tVar i):=by
 intro pins s σ H Q I h
 obtain ⟨v,e,h⟩:=h
 obtain ⟨m,hn,hl⟩:=I.loc
 obtain ⟨u,r,l⟩:=hl i x v hN e hv
 have fin:EP X pins σ Q u s:=⟨v,H,I,r,h⟩
 rcases l with ⟨hk,hm⟩ | ⟨hk,c,hc,hcell⟩
 ·exact wpAny_Name (wpAny_loadName_local I.ok.kind hk hn hm fin) hd
 ·rcases hk with hk | hk
  ·exact wpAny_Name (wpAny_loadName_cell I.ok.kind hk hc hcell fin) hd
  ·exact wpAny_Name (wpAny_loadName_free I.ok.kind hk hc hcell fin hcd) hd
theorem Zaf {i j pos}:PE X (.Constant (.int i) j pos) (tC (.int i)):=fun _ _ _ H _ I h=>wpAny_Constant_int ⟨.int i,H,I.tok _,⟨_,rfl⟩,h⟩
theorem Zje {b j pos}:PE X (.Constant (.bool b) j pos) (tC (.bl b)):=fun _ _ _ H _ I h=>Constant_bool ⟨.bl b,H,I,rfl,h⟩
theorem Zgz {x j pos}:PE X (.Constant (.str x) j pos) (tC (.str x)):=fun _ _ _ H _ I h=>Calls.Constant_str ⟨.str x,H,I.tok _,⟨_,rfl⟩,h⟩
def Gl (X:Cx) (x:Str):Prop:=X.env.kindOf x=some .globalImplicit
theorem Zjk {E:Value->Shared->Prop} {pins:List (Addr × Obj)} {s:Shared} {σ:St} {H:Hp} {x:Str} {u:Value} {pos:Pos} {Q:Value->Shared->Prop} (I:Inv X pins σ H s) (hg:Gl X x) (hm:X.mg x=some u) (h:Q u s)
  (hd:(x == ("__debug__":Str))=false:=by decide):wpAny (model X.prog X.w) X.A (eval (.Name x pos) X.env) Q E s:=
 Calls.Name_function_global I.ok.kind hg (Calls.loadGlobal_global (by rw [I.ok.glob]; exact I.mod.glob.keeps I.bk) hm h) hd
theorem Zff {E:Value->Shared->Prop} {pins:List (Addr × Obj)} {s:Shared} {σ:St} {H:Hp} {x:Str} {u:Value} {pos:Pos} {Q:Value->Shared->Prop} (I:Inv X pins σ H s) (hg:Gl X x) (hm:X.mg x=none) (hv:bootBuiltins x=some u) (h:Q u s)
  (hn:x ≠ "__name__":=by decide) (hd:(x == ("__debug__":Str))=false:=by decide):wpAny (model X.prog X.w) X.A (eval (.Name x pos) X.env) Q E s:=by
 obtain ⟨mb,h1,h2⟩:=I.mod.blt
 exact Calls.Name_function_global I.ok.kind hg (Calls.loadGlobal_builtin (by rw [I.ok.glob]; exact I.mod.glob.keeps I.bk) hm (by rw [I.ok.blt]; exact h1.keeps I.bk) ((h2 x hn).trans hv) h) hd
theorem Zne {x:Str} {v:V} {u:Value} {pos:Pos} (hg:Gl X x) (hm:X.mg x=some u) (r:RelV v u) (hd:(x == ("__debug__":Str))=false:=by decide):PE X (.Name x pos) (tC v):=
 fun _ _ _ H _ I h=>Zjk I hg hm ⟨v,H,I,r,h⟩ hd
theorem Zc6 {x:Str} {v:V} {u:Value} {pos:Pos} (hg:Gl X x) (hm:X.mg x=none) (hv:bootBuiltins x=some u) (r:RelV v u) (hn:x ≠ "__name__":=by decide) (hd:(x == ("__debug__":Str))=false:=by decide):PE X (.Name x pos) (tC v):=
 fun _ _ _ H _ I h=>Zff I hg hm hv ⟨v,H,I,r,h⟩ hn hd
variable {a b:Expr} {ta tb:TE} {pos:Pos}
variable {tA tB':TT} {rest:List Expr}
def tAnd (t u:TT):TT:=fun σ H Q=>t σ H fun c H1=>if c=true then u σ H1 Q else Q false H1
def tOr (t u:TT):TT:=fun σ H Q=>t σ H fun c H1=>if c=true then Q true H1 else u σ H1 Q
def tNot (t:TT):TT:=fun σ H Q=>t σ H fun c H1=>Q (!c) H1
theorem pw_and1 (ha:PT X a tA):PW X (.BoolOp .And [a] pos) tA:=by
 intro wh pins s σ H Q I h
 refine isTrue_and (thn (ha pins s σ H Q I h) fun c s1 e=>?_)
 cases c with
 | true=>exact isTrue_and_nil e
 | false=>exact e
theorem pw_or1 (ha:PT X a tA):PW X (.BoolOp .Or [a] pos) tA:=by
 intro wh pins s σ H Q I h
 refine isTrue_or (thn (ha pins s σ H Q I h) fun c s1 e=>?_)
 cases c with
 | false=>exact isTrue_or_nil e
 | true=>exact e
theorem pw_and (ha:PT X a tA) (hb:PW X (.BoolOp .And (b :: rest) pos) tB'):PW X (.BoolOp .And (a :: b :: rest) pos) (tAnd tA tB'):=by
 intro wh pins s σ H Q I h
 refine isTrue_and (thn (ha pins s σ H _ I h) fun c s1 ⟨H1,I1,q1⟩=>?_)
 cases c with
 | true=>exact hb wh pins s1 σ H1 Q I1 q1
 | false=>exact ⟨H1,I1,q1⟩
theorem pw_or (ha:PT X a tA) (hb:PW X (.BoolOp .Or (b :: rest) pos) tB'):PW X (.BoolOp .Or (a :: b :: rest) pos) (tOr tA tB'):=by
 intro wh pins s σ H Q I h
 refine isTrue_or (thn (ha pins s σ H _ I h) fun c s1 ⟨H1,I1,q1⟩=>?_)
 cases c with
 | true=>exact ⟨H1,I1,q1⟩
 | false=>exact hb wh pins s1 σ H1 Q I1 q1
theorem Zef (ha:PT X a tA):PT X (.UnaryOp .Not a pos) (tNot tA):=by
 intro pins s σ H Q I h
 exact isTrue_not (ha pins s σ H (fun c H1=>Q (!c) H1) I h)
def tAndV (ta tb:TE):TE:=fun σ H Q=>ta σ H fun x H1=>∃ c,x=.bl c/\if c=true then tb σ H1 Q else Q (.bl false) H1
def tOrV (ta tb:TE):TE:=fun σ H Q=>ta σ H fun x H1=>∃ c,x=.bl c/\if c=true then Q (.bl true) H1 else tb σ H1 Q
def tNotV (ta:TE):TE:=fun σ H Q=>ta σ H fun x H1=>∃ c,x=.bl c/\Q (.bl (!c)) H1
theorem Zet {op} {t:TE} (h:PE X a t):PE X (.BoolOp op [a] pos) t:=fun pins s σ H Q I hw=>BoolOp_one (h pins s σ H Q I hw)
theorem Zes (ha:PE X a ta) (hb:PE X (.BoolOp .And (b :: rest) pos) tb):PE X (.BoolOp .And (a :: b :: rest) pos) (tAndV ta tb):=by
 intro pins s σ H Q I h
 refine BoolOp_and (thn (ha pins s σ H _ I h) fun v s1 ⟨x,H1,I1,r1,q1⟩=>?_)
 obtain ⟨c,rfl,q1⟩:=q1
 cases r1
 refine wpAny_truthy_bool ?_
 cases c with
 | true=>exact hb pins s1 σ H1 Q I1 q1
 | false=>exact ⟨.bl false,H1,I1,rfl,q1⟩
theorem Zkg (ha:PE X a ta):PE X (.UnaryOp .Not a pos) (tNotV ta):=by
 intro pins s σ H Q I h
 refine UnaryOp_ (thn (ha pins s σ H _ I h) fun v s1 ⟨x,H1,I1,r1,q1⟩=>?_)
 obtain ⟨c,rfl,q1⟩:=q1
 cases r1
 exact not_of (wpAny_truthy_bool ⟨.bl (!c),H1,I1,rfl,q1⟩)
def tIf (t:TT) (ta tb:TE):TE:=fun σ H Q=>t σ H fun c H1=>if c=true then ta σ H1 Q else tb σ H1 Q
theorem Zej {c:Expr} (hc:PT X c tA) (ha:PE X a ta) (hb:PE X b tb):PE X (.IfExp c a b pos) (tIf tA ta tb):=by
 intro pins s σ H Q I h
 refine wpAny_IfExp (thn (hc pins s σ H _ I h) fun d s1 ⟨H1,I1,q1⟩=>?_)
 cases d with
 | true=>exact ha pins s1 σ H1 Q I1 q1
 | false=>exact hb pins s1 σ H1 Q I1 q1
end
end L2
namespace L2
open PySem PySem.Spec PyProof.Rows
def SqL (K:PySem.W.Frag) (H:Hp) (a:Addr) (xs:List V):Prop:=
 Rd H a (.lst xs) ∨
  ∃ (o:Obj) (its:Array Value) (n:Nat),K.lookup a=some o/\o.cls=.type "list" /\ o.dict=none/\o.data=.seq its n/\its.size<=sizeLine/\Vals xs its.toList
def SqT (K:PySem.W.Frag) (H:Hp) (a:Addr) (xs:List V):Prop:=
 Rd H a (.tup xs) ∨
  ∃ (o:Obj) (its:Array Value) (n:Nat),K.lookup a=some o/\o.cls=.type "tuple" /\ o.data=.seq its n/\its.size<=sizeLine/\Vals xs its.toList
def absV:Value->Option V
 | .none=>some .non
 | .bool b=>some (.bl b)
 | .int i _=>some (.int i)
 | .str x _=>some (.str x)
 | .bytes b _=>some (.byt b)
 | .float b _=>some (.flt b)
 | .ref a=>some (.ref a)
 | .type n=>some (.ty n)
 | _=>none
theorem RelV.abs {x:V} {u:Value} (r:RelV x u):absV u=some x:=by
 cases x with
 | non=>cases r; rfl
 | bl _=>cases r; rfl
 | int _=>obtain ⟨t,rfl⟩:=r; rfl
 | str _=>obtain ⟨t,rfl⟩:=r; rfl
 | byt _=>obtain ⟨t,rfl⟩:=r; rfl
 | flt _=>obtain ⟨t,rfl⟩:=r; rfl
 | ref _=>cases r; rfl
 | ty _=>cases r; rfl
theorem RelV.inj {x y:V} {u:Value} (r:RelV x u) (q:RelV y u):x=y:=Option.some.inj (r.abs.symm.trans q.abs)
theorem Vals.inj:∀ {xs ys:List V} {us:List Value},Vals xs us->Vals ys us->xs=ys
 | _,_,_,.nil,.nil=>rfl
 | _,_,_,.cons r t,.cons r' t'=>by rw [r.inj r',Vals.inj t t']
section
variable {X:Cx} {pins:List (Addr × Obj)} {σ:St} {H:Hp} {s:Shared} {a:Addr} {xs ys:List V}
theorem SqL.of {K:PySem.W.Frag} (h:H a=some (.lst xs)):SqL K H a xs:=.inl (.inl h)
theorem SqT.of {K:PySem.W.Frag} (h:H a=some (.tup xs)):SqT K H a xs:=.inl (.inl h)
theorem Inv.list (I:Inv X pins σ H s) (h:SqL X.K H a xs):∃ its:List Value,Vals xs its/\PlainL s.heap a its.toArray/\xs.length<=sizeLine:=by
 rcases h with h | ⟨o,its,n,hk,hc,hd,hs,hz,r⟩
 ·obtain ⟨z,its,n,r,e⟩:=h.ok I.hok
  exact ⟨its,r,⟨_,n,e,rfl,rfl,rfl⟩,z⟩
 ·refine ⟨its.toList,r,⟨o,n,I.kIn a o hk,hc,hd,by simpa using hs⟩,?_⟩
  have e:=r.length
  simp only [Array.length_toList] at e
  omega
theorem Inv.tuple (I:Inv X pins σ H s) (h:SqT X.K H a xs):∃ its:List Value,Vals xs its/\IsTup s.heap a its.toArray/\xs.length<=sizeLine:=by
 rcases h with h | ⟨o,its,n,hk,hc,hs,hz,r⟩
 ·obtain ⟨z,its,r,p⟩:=h.ok I.hok
  exact ⟨its,r,p.tup,z⟩
 ·refine ⟨its.toList,r,⟨o,I.kIn a o hk,hc,n,by simpa using hs⟩,?_⟩
  have e:=r.length
  simp only [Array.length_toList] at e
  omega
theorem Inv.list_inj (I:Inv X pins σ H s) (h:SqL X.K H a xs) (h':SqL X.K H a ys):xs=ys:=by
 obtain ⟨its,r,⟨o,n,e,_,_,d⟩,_⟩:=I.list h
 obtain ⟨its',r',⟨o',n',e',_,_,d'⟩,_⟩:=I.list h'
 rw [e] at e'; cases e'
 rw [d] at d'
 injection d' with d1 _
 have:its=its':=by simpa using congrArg Array.toList d1
 subst this
 exact r.inj r'
theorem Inv.tuple_inj (I:Inv X pins σ H s) (h:SqT X.K H a xs) (h':SqT X.K H a ys):xs=ys:=by
 obtain ⟨its,r,⟨o,e,_,n,d⟩,_⟩:=I.tuple h
 obtain ⟨its',r',⟨o',e',_,n',d'⟩,_⟩:=I.tuple h'
 rw [e] at e'; cases e'
 rw [d] at d'
 injection d' with d1 _
 have:its=its':=by simpa using congrArg Array.toList d1
 subst this
 exact r.inj r'
end
abbrev Cx.wish (X:Cx) (E:Value->Shared->Prop):Cx:={ X with xe:=E }
abbrev Cx.nox (X:Cx):Cx:=X.wish fun _ _=>False
theorem Cx.Ok.wish {X:Cx} (ok:X.Ok) (E:Value->Shared->Prop):(X.wish E).Ok:=
 ⟨ok.mod,ok.kind,ok.glob,ok.blt,ok.above,ok.inj,ok.has,ok.cab,ok.hd,ok.frames,ok.stk,ok.exf,ok.bs,ok.bsz,ok.noex,ok.exfs,ok.funs,ok.frf⟩
theorem Cx.Ok.unwish {X:Cx} {E:Value->Shared->Prop} (ok:(X.wish E).Ok):X.Ok:=
 ⟨ok.mod,ok.kind,ok.glob,ok.blt,ok.above,ok.inj,ok.has,ok.cab,ok.hd,ok.frames,ok.stk,ok.exf,ok.bs,ok.bsz,ok.noex,ok.exfs,ok.funs,ok.frf⟩
section
variable {X:Cx} {pins:List (Addr × Obj)} {σ:St} {H:Hp} {s:Shared} {E:Value->Shared->Prop}
theorem Inv.wish (I:Inv X pins σ H s) (E:Value->Shared->Prop):Inv (X.wish E) pins σ H s:=⟨I.ok.wish E,I.os,I.bare,I.base,I.loc,I.cell,I.free,I.freeC,I.pin,I.hok,I.len⟩
theorem Inv.unwish (I:Inv (X.wish E) pins σ H s):Inv X pins σ H s:=⟨I.ok.unwish,I.os,I.bare,I.base,I.loc,I.cell,I.free,I.freeC,I.pin,I.hok,I.len⟩
theorem SP.unwish {D:Ends} {f:Flow} {s':Shared} (h:SP (X.wish E) pins D f s'):SP X pins D f s':=by
 cases f with
 | next=>obtain ⟨σ',H',I,q⟩:=h; exact ⟨σ',H',I.unwish,q⟩
 | brk=>obtain ⟨σ',H',I,q⟩:=h; exact ⟨σ',H',I.unwish,q⟩
 | cont=>obtain ⟨σ',H',I,q⟩:=h; exact ⟨σ',H',I.unwish,q⟩
 | ret u=>obtain ⟨v,σ',H',I,r,q⟩:=h; exact ⟨v,σ',H',I.unwish,r,q⟩
theorem PSs.nox {st:List Stmt} {t:TS} (h:PSs X.nox st t):PSs X st t:=fun pins s σ H D I hw=>
 wpAny_mono (h pins s σ H D (I.wish _) hw) (fun _ _ q=>q.unwish) fun _ _ z=>False.elim z
end
section
variable {X:Cx} {st:Stmt} {rest:List Stmt} {t u:TS} {e:Expr} {te:TE} {pos:Pos}
def tNext:TS:=fun D σ H=>D.nx σ H
def tSeq (t u:TS):TS:=fun D σ H=>t { D with nx:=u D } σ H
theorem Za2:PSs X [] tNext:=fun _ _ σ H _ I h=>wpAny_execs_nil ⟨σ,H,I,h⟩
theorem Zae (h1:PS X st t) (h2:PSs X rest u):PSs X (st :: rest) (tSeq t u):=by
 intro pins s σ H D I h
 refine wpAny_execs_cons (thn (h1 pins s σ H { D with nx:=u D } I h) fun f s1 q=>?_)
 cases f with
 | next=>
  obtain ⟨σ',H',I',q⟩:=q
  exact h2 pins s1 σ' H' D I' q
 | ret v=>exact q
 | brk=>exact q
 | cont=>exact q
theorem Zal (h1:PS X st t):PSs X [st] t:=by
 intro pins s σ H D I h
 refine wpAny_execs_cons (thn (h1 pins s σ H D I h) fun f s1 q=>?_)
 cases f with
 | next=>exact wpAny_execs_nil q
 | ret v=>exact q
 | brk=>exact q
 | cont=>exact q
theorem Inv.quiet {pins:List (Addr × Obj)} {σ:St} {H:Hp} {s:Shared} (I:Inv X pins σ H s):interactive X.env=false:=by simp [interactive,I.ok.kind]
def tDrop (te:TE):TS:=fun D σ H=>te σ H fun _ H1=>D.nx σ H1
theorem Zkl (he:PE X e te) (hs:swapsWith e none pos.line X.env=pure false:=by rfl):PS X (.Expr e pos) (tDrop te):=by
 intro pins s σ H D I h
 exact wpAny_Expr_any (thn (he pins s σ H _ I h) fun v s1 ⟨x,H1,I1,r1,q1⟩=>⟨σ,H1,I1,q1⟩) I.quiet hs
def tRet (te:TE):TS:=fun D σ H=>te σ H D.rt
theorem Zaz (he:PE X e te):PS X (.Return (some e) pos) (tRet te):=by
 intro pins s σ H D I h
 exact wpAny_Return_some (thn (he pins s σ H _ I h) fun v s1 ⟨x,H1,I1,r1,q1⟩=>⟨x,σ,H1,I1,r1,q1⟩)
def tIfS (c:TT) (t u:TS):TS:=fun D σ H=>c σ H fun b H1=>if b=true then t D σ H1 else u D σ H1
theorem Zb9 {c:Expr} {a b:List Stmt} {tc:TT} (hc:PT X c tc) (ha:PSs X a t) (hb:PSs X b u):PS X (.If c a b pos) (tIfS tc t u):=by
 intro pins s σ H D I h
 refine wpAny_If (thn (hc pins s σ H _ I h) fun d s1 ⟨H1,I1,q1⟩=>?_)
 cases d with
 | true=>exact ha pins s1 σ H1 D I1 q1
 | false=>exact hb pins s1 σ H1 D I1 q1
def tNever:TS:=fun _ _ _=>False
theorem Zd2 {sts:List Stmt}:PSs X sts tNever:=fun _ _ _ _ _ _ h=>h.elim
end
abbrev TG:=V->St->Hp->(St->Hp->Prop)->Prop
abbrev TGs:=List V->St->Hp->(St->Hp->Prop)->Prop
def PG (X:Cx) (target:Expr) (t:TG):Prop:=
 ∀ (pins:List (Addr × Obj)) (s:Shared) (σ:St) (H:Hp) (v:V) (u:Value) (Q:St->Hp->Prop),Inv X pins σ H s->RelV v u->t v σ H Q →
  wpAny (model X.prog X.w) X.A (assign target X.env u) (fun _ s'=>∃ σ' H',Inv X pins σ' H' s' /\ Q σ' H') X.xe s
def PGs (X:Cx) (ts:List Expr) (t:TGs):Prop:=
 ∀ (pins:List (Addr × Obj)) (s:Shared) (σ:St) (H:Hp) (vs:List V) (us:List Value) (Q:St->Hp->Prop),Inv X pins σ H s->Vals vs us->t vs σ H Q →
  wpAny (model X.prog X.w) X.A (assignInOrder ((assignEach ts X.env).map (·.2)) us) (fun _ s'=>∃ σ' H',Inv X pins σ' H' s' /\ Q σ' H') X.xe s
abbrev TSet:=V->V->V->Hp->(Hp->Prop)->Prop
def PSet (X:Cx) (t:TSet):Prop:=
 ∀ (pins:List (Addr × Obj)) (s:Shared) (σ:St) (H:Hp) (o i v:V) (ov iv u:Value) (Q:Hp->Prop),Inv X pins σ H s->RelV o ov->RelV i iv->RelV v u->t o i v H Q →
  wpAny (model X.prog X.w) X.A (setItem ov iv u) (fun _ s'=>∃ H',Inv X pins σ H' s' /\ Q H') X.xe s
section
variable {X:Cx} {pos:Pos}
def gName (i:Nat):TG:=fun v σ H Q=>Q (σ.set i (some v)) H
theorem Zay {i:Nat} {x:Str} (hN:X.N.Nodup) (hi:X.N[i]? = some x) (hx:Loc X.env.scope x) (hf:X.fn x=true\/X.env.scope.names.lookup x=some .local:=by first | exact .inl rfl | exact .inr rfl | assumption):PG X (.Name x pos) (gName i):=by
 intro pins s σ H v u Q I r h
 exact wpAny_assign_Name (Zeo I hN hi hx r (fun s' I'=>⟨_,H,I',h⟩) hf)
def gNil:TGs:=fun vs σ H Q=>vs=[]/\Q σ H
def gCons (t:TG) (u:TGs):TGs:=fun vs σ H Q=>∃ v r,vs=v :: r/\t v σ H fun σ' H'=>u r σ' H' Q
theorem Zdb:PGs X [] gNil:=by
 intro pins s σ H vs us Q I r h
 obtain ⟨e,h⟩:=h
 subst e
 cases r
 exact assignInOrder_nil ⟨σ,H,I,h⟩
theorem Zbi {e:Expr} {es:List Expr} {t:TG} {u:TGs} (h1:PG X e t) (h2:PGs X es u)
  (hs:(assignEach (e :: es) X.env).map (·.2)=assign e X.env :: (assignEach es X.env).map (·.2):=by rfl):PGs X (e :: es) (gCons t u):=by
 intro pins s σ H vs us Q I r h
 obtain ⟨v,vr,e1,h⟩:=h
 subst e1
 cases r with
 | cons r rr=>
  rw [hs]
  refine assignInOrder_cons (thn (h1 pins s σ H _ _ _ I r h) fun _ s1 ⟨σ1,H1,I1,q1⟩=>?_)
  exact h2 pins s1 σ1 H1 _ _ Q I1 rr q1
def gTup (K:PySem.W.Frag) (n:Nat) (t:TGs):TG:=fun v σ H Q=>∃ a xs,v=.ref a/\SqT K H a xs/\xs.length=n/\t xs σ H Q
theorem Zoj {es:List Expr} {k:Nat} {t:TGs} {n:Nat} (hc:X.calm=true) (h:PGs X es t)
  (hn:(assignEach es X.env).length=n:=by rfl) (hst:(assignEach es X.env).findIdx? (·.1)=none:=by rfl):PG X (.Tuple es k pos) (gTup X.K n t):=by
 intro pins s σ H v u Q I r hw
 obtain ⟨a,xs,e1,hq,hl,hw⟩:=hw
 subst e1
 cases r
 obtain ⟨its,rv,ht,hz⟩:=I.tuple hq
 refine assign_Tuple_tuple (I.ok.hd hc) ht (by simp [hn,<- hl,rv.length]) hst fun h' hx=>?_
 have I1:Inv X pins σ H { s with heap:=h' }:=I.kept (t':=s.toks) fun b o e=>hx b o (Nat.ne_of_lt (Heap.lt_size e)) e
 exact h pins _ σ H xs _ Q I1 (by simpa using rv) hw
def gSub (to ti:TE) (t:TSet):TG:=fun v σ H Q=>to σ H fun o H1=>ti σ H1 fun i H2=>t o i v H2 fun H3=>Q σ H3
theorem Zd1 {o i:Expr} {to ti:TE} {t:TSet} (ho:PE X o to) (hi:PE X i ti) (hs:PSet X t)
  (ha:∀ v,assign (.Subscript o i pos) X.env v=(do
   let ov ← holding [v] (eval o X.env)
   let iv ← holding [v,ov] (eval i X.env)
   standAt pos
   holding [v,ov,iv] (setItem ov iv v)
   release [v,ov,iv] []):=by intro _; rfl):PG X (.Subscript o i pos) (gSub to ti t):=by
 intro pins s σ H v u Q I r h
 rw [ha]
 refine wpAny_bind (wpAny_holding (thn (ho pins s σ H _ I h) fun ov s1 ⟨x,H1,I1,r1,q1⟩=>?_))
 refine wpAny_bind (wpAny_holding (thn (hi pins s1 σ H1 _ I1 q1) fun iv s2 ⟨y,H2,I2,r2,q2⟩=>?_))
 refine wpAny_bind (wpAny_standAt (wpAny_bind (wpAny_holding (thn (hs pins s2 σ H2 x y v ov iv u _ I2 r1 r2 r q2) fun _ s3 ⟨H3,I3,q3⟩=>?_))))
 exact wpAny_release ⟨σ,H3,I3,q3⟩
def tAsg (te:TE) (g:TG):TS:=fun D σ H=>te σ H fun x H1=>g x σ H1 D.nx
theorem Zc1 {tg e:Expr} {te:TE} {g:TG} (he:PE X e te) (hg:PG X tg g) (hs:swapsWithSole [tg] e pos.line X.env=pure false:=by rfl) (hw:swappedStores [tg] e X.env=pure none:=by rfl)
  (h1:(assignEach [tg] X.env).map (·.2)=[assign tg X.env]:=by rfl):PS X (.Assign [tg] e pos) (tAsg te g):=by
 intro pins s σ H D I h
 refine wpAny_Assign_stores (thn (he pins s σ H _ I h) fun v s1 ⟨x,H1,I1,r1,q1⟩=>?_) hs hw
 rw [h1]
 exact thn (hg pins s1 σ H1 x v _ I1 r1 q1) fun _ s2 q=>q
theorem Zav {i:Nat} {x:Str} {e:Expr} {te:TE} {pos':Pos} (hN:X.N.Nodup) (hi:X.N[i]? = some x) (hx:Loc X.env.scope x) (he:PE X e te) (hs:swapsWith e (some (.Name x pos')) pos.line X.env=pure false:=by rfl) (hf:X.fn x=true\/X.env.scope.names.lookup x=some .local:=by first | exact .inl rfl | exact .inr rfl | assumption) :
  PS X (.Assign [.Name x pos'] e pos) (tAsg te (gName i)):=by
 intro pins s σ H D I h
 refine wpAny_Assign_Name (thn (he pins s σ H _ I h) fun v s1 ⟨y,H1,I1,r1,q1⟩=>?_) hs
 exact Zeo I1 hN hi hx r1 (fun s2 I2=>⟨_,H1,I2,q1⟩) hf
def tPar (i j:Nat) (ta:TA):TS:=fun D σ H=>ta σ H fun vs H1=>∃ v w,vs=[v,w]/\D.nx ((σ.set i (some v)).set j (some w)) H1
theorem Zms {i j:Nat} {x y:Str} {a b:Expr} {ta:TA} {px py pt:Pos} {kt k2 pt2} (hc:X.calm=true) (hN:X.N.Nodup) (hi:X.N[i]? = some x) (hj:X.N[j]? = some y) (hij:i ≠ j)
  (hx:X.env.scope.names.lookup x=some .local) (hy:X.env.scope.names.lookup y=some .local) (ha:PA X [a,b] ta)
  (hw:swappedStores [.Tuple [.Name x px,.Name y py] kt pt] (.Tuple [a,b] k2 pt2) X.env=pure (some [x,y]))
  (hs:swapsWithSole [.Tuple [.Name x px,.Name y py] kt pt] (.Tuple [a,b] k2 pt2) pos.line X.env=pure false:=by rfl) :
  PS X (.Assign [.Tuple [.Name x px,.Name y py] kt pt] (.Tuple [a,b] k2 pt2) pos) (tPar i j ta):=by
 intro pins s σ H D I h
 rw [exec_Assign_arm]
 refine wpAny_bind (wpAny_standAt ?_)
 rw [hs]
 refine wpAny_bind (wpAny_pure ?_)
 rw [if_neg (by decide)]
 refine wpAny_bind (Tuple_ (thn (ha _ pins s σ H _ I h) fun us s1 ⟨vs,H1,I1,r1,q1⟩=>?_))
 obtain ⟨v,w,e1,q1⟩:=q1
 subst e1
 obtain ⟨u1,u2,rfl,rv,rw'⟩:∃ u1 u2,us=[u1,u2]/\RelV v u1/\RelV w u2:=by
  cases r1 with
  | cons p q=>
   cases q with
   | cons p' q'=>
    cases q'
    exact ⟨_,_,rfl,p,p'⟩
 refine wpAny_newObj_type ?_ (by show 2<=sizeLine; decide)
 have I2:Inv X pins σ H1 { s1 with heap:=s1.heap.push { cls:=.type "tuple",data:=.seq [u1,u2].toArray } }:=I1.kept (t':=s1.toks) fun b o e=>Heap.get?_push_of_some _ e
 rw [hw]
 refine wpAny_bind (wpAny_pure ?_)
 show wpAny (model X.prog X.w) X.A (do rule "assign.swapped-stores"; let items ← unpackItems (.ref s1.heap.objs.size) 2 none; assignInOrder [fun v=>bindName X.env y v,fun v=>bindName X.env x v] items.reverse; pure Flow.next) _ _ _
 refine wpAny_bind (wpAny_rule (wpAny_bind (unpackItems_tuple (items:=#[u1,u2]) (I.ok.hd hc) (IsTup.new s1.heap _) fun h' hx'=>?_)))
 have I3:=I2.kept (h':=h') (t':=s1.toks) fun b o e=>hx' b o (Nat.ne_of_lt (Heap.lt_size e)) e
 show wpAny _ _ (assignInOrder [fun v=>bindName X.env y v,fun v=>bindName X.env x v] [u2,u1] >>= fun _=>pure Flow.next) _ _ _
 refine wpAny_bind (assignInOrder_cons (wpAny_bindName (Zeo I3 hN hj (.inl hy) rw' (fun s2 I4=>?_) (.inr hy))))
 refine assignInOrder_cons (wpAny_bindName (Zeo I4 hN hi (.inl hx) rv (fun s3 I5=>assignInOrder_nil (wpAny_pure ?_)) (.inr hx)))
 rw [List.set_comm _ _ (Ne.symm hij)] at I5
 exact ⟨_,H1,I5,q1⟩
end
structure It where
 go:Nat->Hp->Prop
 yld:Nat->Hp->V->Hp->Prop
 stop:Nat->Hp->Prop
def FpOk (X:Cx) (pins:List (Addr × Obj)) (H:Hp) (b:Addr):Prop:=
 H b=none/\b ≠ X.env.locals/\b ∉ X.fs/\(b ∈ X.ex\/X.s₀.heap.objs.size<=b)/\(∀ x c,X.env.cells.lookup x=some c->c ≠ b)/\∀ p ∈ X.pn ++ pins,p.1 ≠ b
theorem Inv.fpOk {X:Cx} {pins:List (Addr × Obj)} {σ:St} {H H':Hp} {s:Shared} {b:Addr} (I:Inv X pins σ H s) (hb:s.heap.objs.size<=b) (hn:H' b=none):FpOk X pins H' b:=by
 refine ⟨hn,Nat.ne_of_gt (Nat.lt_of_lt_of_le I.lt hb),I.nofs hb,.inr (Nat.le_trans I.sz hb),fun x c e z=>?_,fun p hp z=>?_⟩
 ·obtain ⟨v,q⟩:=I.cell x c e
  exact absurd (Nat.lt_of_lt_of_le q.lt (by rw [z]; exact hb)) (Nat.lt_irrefl _)
 ·exact absurd (Nat.lt_of_lt_of_le (Heap.lt_size (I.pin p hp).1) (by rw [z]; exact hb)) (Nat.lt_irrefl _)
structure TurnG (Cm:Cx->Prop) (P:Program) (w:World) (K:PySem.W.Frag) (tg:Expr) (J:It) (fp:List Addr) (it:Addr) (tn:Nat->Heap->Prop):Prop where
 mem:it ∈ fp
 obj:∀ i h,tn i h->∀ b ∈ fp,∃ o,h.get? b=some o/\∀ v,o.data ≠ .cell v
 keep:∀ i h h',tn i h->(∀ b ∈ fp,∀ o,h.get? b=some o->h'.get? b=some o)->tn i h'
 item:∀ (X:Cx),X.prog=P->X.w=w->X.K=K->Cm X->∀ (i:Nat) (pins:List (Addr × Obj)) (s:Shared) (σ:St) (H:Hp) (E:Value->Shared->Prop),Inv X pins σ H s->(∀ b ∈ fp,FpOk X pins H b)->tn i s.heap->J.go i H →
  wpAny (model P w) X.A (pyNext (.ref it)) (fun r s1=>∃ u,r=some u ∧
   wpAny (model P w) X.A (letOwnedTupleGo tg (.ref it) u) (fun _ s2=>∃ x H',Inv X pins σ H' s2/\RelV x u/\J.yld i H x H' /\ tn (i + 1) s2.heap/\∀ b ∈ fp,H' b=none) E s1) E s
 done:∀ (X:Cx),X.prog=P->X.w=w->X.K=K->Cm X->∀ (i:Nat) (pins:List (Addr × Obj)) (s:Shared) (σ:St) (H:Hp) (E:Value->Shared->Prop),Inv X pins σ H s->(∀ b ∈ fp,FpOk X pins H b)->tn i s.heap->J.stop i H →
  wpAny (model P w) X.A (pyNext (.ref it)) (fun r s1=>r=none/\Inv X pins σ H s1) E s
 self:∀ (A:Around) (i:Nat) (s:Shared) (Q:Value->Shared->Prop) (E:Value->Shared->Prop),tn i s.heap->Q (.ref it) s->wpAny (model P w) A (pyIter (.ref it)) Q E s
abbrev Turn:=TurnG fun X=>X.calm=true
abbrev TI:=St->Hp->(It->Hp->Prop)->Prop
def PIEG (Cm:Cx->Prop) (X:Cx) (pins:List (Addr × Obj)) (σ:St) (tg:Expr) (R:It->Hp->Prop) (itv:Value) (s2:Shared):Prop:=
 ∃ (it:Addr) (fp:List Addr) (tn:Nat->Heap->Prop) (J:It) (H':Hp),itv=.ref it/\Inv X pins σ H' s2/\TurnG Cm X.prog X.w X.K tg J fp it tn/\tn 0 s2.heap/\(∀ b ∈ fp,FpOk X pins H' b)/\R J H'
def PIG (Cm:Cx->Prop) (X:Cx) (tg iter:Expr) (wi:TI):Prop:=
 ∀ (pins:List (Addr × Obj)) (s:Shared) (σ:St) (H:Hp) (R:It->Hp->Prop),Inv X pins σ H s->wi σ H R →
  wpAny (model X.prog X.w) X.A (eval iter X.env) (fun v s1=>wpAny (model X.prog X.w) X.A (pyIter v) (PIEG Cm X pins σ tg R) X.xe s1) X.xe s
abbrev PIE:=PIEG fun X=>X.calm=true
abbrev PI:=PIG fun X=>X.calm=true
theorem Znd {M:Model} {A:Around} {E:Value->Shared->Prop} {s:Shared} {tg:Expr} {it:Addr} {u:Value} {o:Obj} {n:String} {vs:Array Value} {Q:Unit->Shared->Prop} (ho:s.heap.get? it=some o) (hc:o.cls=.type n) (hd:o.data=.fields vs)
  (hn:["enumerate","zip","dict_itemiterator","dict_reverseitemiterator","odict_iterator","itertools.zip_longest","itertools.pairwise"].contains n=false) (hQ:Q () s):wpAny M A (letOwnedTupleGo tg (.ref it) u) Q E s:=by
 unfold letOwnedTupleGo
 cases tg <;> first
  | exact wpAny_pure hQ
  | (cases u <;> first
      | exact wpAny_pure hQ
      | (refine wpAny_bind (wpAny_load ho ?_)
         rw [hc,hd]
         show wpAny M A (if (["enumerate","zip","dict_itemiterator","dict_reverseitemiterator","odict_iterator","itertools.zip_longest","itertools.pairwise"].contains n && vs[0]? == some (rawInt _))=true then _ else _) Q E s
         rw [if_neg (by intro h; rw [hn,Bool.false_and] at h; cases h)]
         exact wpAny_pure hQ))
def Itl (K:PySem.W.Frag) (a:Addr):It:=
 ⟨fun i H=>∃ xs x,SqL K H a xs/\xs[i]? = some x,fun i H x H'=>H' = H/\∀ xs,SqL K H a xs->xs[i]? = some x,fun i H=>∃ xs,SqL K H a xs/\xs.length<=i⟩
def Itt (K:PySem.W.Frag) (a:Addr):It:=
 ⟨fun i H=>∃ xs x,SqT K H a xs/\xs[i]? = some x,fun i H x H'=>H' = H/\∀ xs,SqT K H a xs->xs[i]? = some x,fun i H=>∃ xs,SqT K H a xs/\xs.length<=i⟩
def Itr (lo:Int) (n:Nat):It:=⟨fun i _=>i < n,fun i H x H'=>H' = H/\x=.int (lo + i),fun i _=>n<=i⟩
theorem Ziz {P:Program} {w:World} {K:PySem.W.Frag} {tg:Expr} (a it:Addr):Turn P w K tg (Itl K a) [it] it (fun i h=>h.IsListIter it a i) where
 mem:=by simp
 obj:=fun i h st b hb=>by
  have e:b=it:=by simpa using hb
  subst e
  obtain ⟨o,e,c,d⟩:=st
  exact ⟨o,e,fun v z=>by rw [d] at z; cases z⟩
 keep:=fun i h h' st k=>st.at fun o e=>k it (by simp) o e
 item:=by
  intro X hP hw hK hc i pins s σ H E I hf st hg
  subst hP hw hK
  obtain ⟨xs,x,hq,hx⟩:=hg
  obtain ⟨its,rv,p,hz⟩:=I.list hq
  obtain ⟨u,hu,ru⟩:=rv.get hx
  obtain ⟨f0,f1,f2,f3,f4,f5⟩:=hf it (by simp)
  refine wpAny_pyNext_list_item st p.isList (x:=u) (by simpa using hu) fun h' st' sb=>?_
  have I1:Inv X pins σ H { s with heap:=h' }:=I.turned (t':=s.toks) (fun b o hb e=>(sb.2 b hb).trans e) f0 f1 f3 f4 f5
  obtain ⟨o,e,c,d⟩:=id st'
  exact ⟨u,rfl,Znd (s:={ s with heap:=h' }) e c d (by decide) ⟨x,H,I1,ru,⟨rfl,fun ys hy=>by rw [I.list_inj hy hq]; exact hx⟩,st',fun b hb=>(hf b hb).1⟩⟩
 done:=by
  intro X hP hw hK hc i pins s σ H E I hf st hg
  subst hP hw hK
  obtain ⟨xs,hq,hx⟩:=hg
  obtain ⟨its,rv,p,hz⟩:=I.list hq
  obtain ⟨f0,f1,f2,f3,f4,f5⟩:=hf it (by simp)
  have hl:=rv.length
  exact wpAny_pyNext_list_end (I.ok.hd hc) st p.isList (by simp; omega) fun h' eb=>⟨rfl,I.turned (t':=s.toks) (fun b o hb e=>eb b o hb e) f0 f1 f3 f4 f5⟩
 self:=fun _ _ _ _ _ st h=>wpAny_pyIter_listiter st h
theorem Zio {P:Program} {w:World} {K:PySem.W.Frag} {tg:Expr} (a it:Addr):Turn P w K tg (Itt K a) [it] it (fun i h=>h.IsTupleIter it a i) where
 mem:=by simp
 obj:=fun i h st b hb=>by
  have e:b=it:=by simpa using hb
  subst e
  obtain ⟨o,e,c,d⟩:=st
  exact ⟨o,e,fun v z=>by rw [d] at z; cases z⟩
 keep:=fun i h h' st k=>st.at fun o e=>k it (by simp) o e
 item:=by
  intro X hP hw hK hc i pins s σ H E I hf st hg
  subst hP hw hK
  obtain ⟨xs,x,hq,hx⟩:=hg
  obtain ⟨its,rv,p,hz⟩:=I.tuple hq
  obtain ⟨u,hu,ru⟩:=rv.get hx
  obtain ⟨f0,f1,f2,f3,f4,f5⟩:=hf it (by simp)
  refine wpAny_pyNext_tuple_item st (show s.heap.IsTuple a its.toArray from p) (x:=u) (by simpa using hu) fun h' st' sb=>?_
  have I1:Inv X pins σ H { s with heap:=h' }:=I.turned (t':=s.toks) (fun b o hb e=>(sb.2 b hb).trans e) f0 f1 f3 f4 f5
  obtain ⟨o,e,c,d⟩:=id st'
  exact ⟨u,rfl,Znd (s:={ s with heap:=h' }) e c d (by decide) ⟨x,H,I1,ru,⟨rfl,fun ys hy=>by rw [I.tuple_inj hy hq]; exact hx⟩,st',fun b hb=>(hf b hb).1⟩⟩
 done:=by
  intro X hP hw hK hc i pins s σ H E I hf st hg
  subst hP hw hK
  obtain ⟨xs,hq,hx⟩:=hg
  obtain ⟨its,rv,p,hz⟩:=I.tuple hq
  obtain ⟨f0,f1,f2,f3,f4,f5⟩:=hf it (by simp)
  have hl:=rv.length
  exact wpAny_pyNext_tuple_end (I.ok.hd hc) st (show s.heap.IsTuple a its.toArray from p) (by simp; omega) fun h' eb=>⟨rfl,I.turned (t':=s.toks) (fun b o hb e=>eb b o hb e) f0 f1 f3 f4 f5⟩
 self:=fun _ _ _ _ _ st h=>wpAny_pyIter_tupleiter st h
theorem Ziu {P:Program} {w:World} {K:PySem.W.Frag} {tg:Expr} (it:Addr) (lo:Int) (n:Nat):Turn P w K tg (Itr lo n) [it] it (fun i h=>IsRangeIter h it (lo + (i:Nat) * 1) ((n:Int) - (i:Nat)) 1) where
 mem:=by simp
 obj:=fun i h st b hb=>by
  have e:b=it:=by simpa using hb
  subst e
  exact ⟨_,st,fun v z=>by
   have z':Data.fields _=Data.cell v:=z
   cases z'⟩
 keep:=fun i h h' st k=>k it (by simp) _ st
 item:=by
  intro X hP hw hK hc i pins s σ H E I hf st hg
  subst hP hw hK
  obtain ⟨f0,f1,f2,f3,f4,f5⟩:=hf it (by simp)
  have W:=Walks.range (prog:=X.prog) (w:=X.w) (I.ok.hd hc) it lo 1 n
  refine W.item i s _ _ hg st fun v h' tk hv st' kk=>?_
  obtain ⟨t,rfl⟩:=hv
  have I1:Inv X pins σ H { s with heap:=h',toks:=tk }:=I.turned (fun b o hb e=>kk b o (by simpa using hb) e) f0 f1 f3 f4 f5
  refine ⟨_,rfl,Znd (s:={ s with heap:=h',toks:=tk }) (n:="range_iterator") st' rfl rfl (by decide) ⟨.int (lo + i),H,I1,⟨t,?_⟩,⟨rfl,rfl⟩,st',fun b hb=>(hf b hb).1⟩⟩
  rw [Int.mul_one]
 done:=by
  intro X hP hw hK hc i pins s σ H E I hf st hg
  subst hP hw hK
  obtain ⟨f0,f1,f2,f3,f4,f5⟩:=hf it (by simp)
  exact wpAny_pyNext_range_end (I.ok.hd hc) st (by have:n<=i:=hg; omega) fun h' eb=>⟨rfl,I.turned (t':=s.toks) (fun b o hb e=>eb b o hb e) f0 f1 f3 f4 f5⟩
 self:=fun _ _ _ _ _ st h=>wpAny_pyIter_rangeiter st h
end L2
namespace L2
open PySem PySem.Spec PyProof.Rows
section
variable {X:Cx} {tg:Expr}
def iList (K:PySem.W.Frag) (tl:TE):TI:=fun σ H R=>tl σ H fun x H1=>∃ a,x=.ref a/\(∃ xs,SqL K H1 a xs)/\R (Itl K a) H1
def iTup (K:PySem.W.Frag) (tl:TE):TI:=fun σ H R=>tl σ H fun x H1=>∃ a,x=.ref a/\(∃ xs,SqT K H1 a xs)/\R (Itt K a) H1
theorem Zoi {l:Expr} {tl:TE} (hl:PE X l tl):PI X tg l (iList X.K tl):=by
 intro pins s σ H R I h
 refine thn (hl pins s σ H _ I h) fun v s1 ⟨x,H1,I1,r1,q1⟩=>?_
 obtain ⟨a,e,⟨xs,hq⟩,q⟩:=q1
 subst e
 cases r1
 obtain ⟨its,rv,p,hz⟩:=I1.list hq
 refine wpAny_pyIter_list p.isList ?_
 refine ⟨s1.heap.objs.size,[s1.heap.objs.size],_,_,H1,rfl,I1.kept (t':=s1.toks) fun b o e=>Heap.get?_push_of_some _ e,Ziz a _,⟨_,Heap.get?_push_size _ rfl,rfl,rfl⟩,fun b hb=>?_,q⟩
 have e:b=s1.heap.objs.size:=by simpa using hb
 subst e
 exact I1.fpOk (Nat.le_refl _) (I1.hok.fresh (Nat.le_refl _))
theorem Zo8 {l:Expr} {tl:TE} (hl:PE X l tl):PI X tg l (iTup X.K tl):=by
 intro pins s σ H R I h
 refine thn (hl pins s σ H _ I h) fun v s1 ⟨x,H1,I1,r1,q1⟩=>?_
 obtain ⟨a,e,⟨xs,hq⟩,q⟩:=q1
 subst e
 cases r1
 obtain ⟨its,rv,p,hz⟩:=I1.tuple hq
 refine wpAny_pyIter_tuple (show s1.heap.IsTuple a its.toArray from p) ?_
 refine ⟨s1.heap.objs.size,[s1.heap.objs.size],_,_,H1,rfl,I1.kept (t':=s1.toks) fun b o e=>Heap.get?_push_of_some _ e,Zio a _,⟨_,Heap.get?_push_size _ rfl,rfl,rfl⟩,fun b hb=>?_,q⟩
 have e:b=s1.heap.objs.size:=by simpa using hb
 subst e
 exact I1.fpOk (Nat.le_refl _) (I1.hok.fresh (Nat.le_refl _))
theorem range_it {pins:List (Addr × Obj)} {σ:St} {H:Hp} {s:Shared} {R:It->Hp->Prop} {E:Value->Shared->Prop} {lo hi:Int} {t u v:Tok} {tk:Nat} (I:Inv X pins σ H s) (h1:-(2 ^ 62)<=lo) (h2:lo < 2 ^ 62) (h3:-(2 ^ 62)<=hi) (h4:hi < 2 ^ 62)
  (q:R (Itr lo (hi - lo).toNat) H):wpAny (model X.prog X.w) X.A (pyIter (.ref s.heap.objs.size)) (PIE X pins σ tg R) E { s with heap:=s.heap.push { cls:=.type "range",data:=.fields #[.int lo t,.int hi u,.int 1 v] },toks:=tk }:=by
 refine wpAny_pyIter_range (IsRange.new ..) (small_one h1 h2 h3 h4) ?_
 have I1:Inv X pins σ H { s with heap:=s.heap.push { cls:=.type "range",data:=.fields #[.int lo t,.int hi u,.int 1 v] },toks:=tk }:=I.kept fun b o e=>Heap.get?_push_of_some _ e
 refine ⟨(s.heap.push { cls:=.type "range",data:=.fields #[.int lo t,.int hi u,.int 1 v] }).objs.size,[(s.heap.push { cls:=.type "range",data:=.fields #[.int lo t,.int hi u,.int 1 v] }).objs.size],_,_,H,rfl,
  I1.kept (t':=tk) fun b o e=>Heap.get?_push_of_some _ e,Ziu _ lo (hi - lo).toNat,?_,fun b hb=>?_,q⟩
 ·have e1:lo + ((0:Nat):Int) * 1=lo:=by simp
  have e2:(((hi - lo).toNat:Nat):Int) - ((0:Nat):Int)=Builtin.Range.rangeSize lo hi 1:=by rw [rangeSize_one]; split <;> omega
  show IsRangeIter _ _ (lo + ((0:Nat):Int) * 1) ((((hi - lo).toNat:Nat):Int) - ((0:Nat):Int)) 1
  rw [e1,e2]
  exact Heap.get?_push_size _ rfl
 ·have e:b=(s.heap.push { cls:=.type "range",data:=.fields #[.int lo t,.int hi u,.int 1 v] }).objs.size:=by simpa using hb
  subst e
  exact I1.fpOk (Nat.le_refl _) (I1.hok.fresh (Nat.le_refl _))
def iRng1 (ta:TA):TI:=fun σ H R=>ta σ H fun vs H1=>∃ j:Int,vs=[.int j] /\ -(2 ^ 62)<=j/\j < 2 ^ 62/\R (Itr 0 j.toNat) H1
theorem Zcc {a:Expr} {ta:TA} {p pos:Pos} (hg:Gl X "range") (hm:X.mg "range" = none) (ha:PA X [a] ta) (hs:starEach [a] X.env=[(false,eval a X.env)]:=by rfl):PI X tg (.Call (.Name "range" p) [a] [] pos) (iRng1 ta):=by
 intro pins s σ H R I h
 refine Call_ (Zff I hg hm boot_range (PyProof.Rows.callWith_type1 (thn (ha pos pins s σ H _ I h) fun us s1 ⟨vs,H1,I1,r1,q1⟩=>?_) hs rfl))
 obtain ⟨j,e,q1,q2,q⟩:=q1
 subst e
 cases r1 with
 | cons r rr=>
  cases rr
  obtain ⟨t,rfl⟩:=r
  exact call_range_1 (range_it I1 (by omega) (by omega) q1 q2 (by simpa using q))
def tFor (wi:TI) (g:TG) (tb:TS):TS:=fun D σ H=>wi σ H fun J H1=>∃ W:Nat->Nat->St->Hp->Prop,(∃ m,W 0 m σ H1)/\∀ i m σ H,W i m σ H →
 (J.stop i H/\D.nx σ H)\/(J.go i H/\∃ N:St->Hp->Prop,(∀ σ' H',N σ' H' -> ∃ m',m' < m/\W (i + 1) m' σ' H')/\∀ x H',J.yld i H x H' -> g x σ H' fun σ2 H2=>tb { D with nx:=N,ct:=N,bk:=D.nx } σ2 H2)
def pinsAt (fp:List Addr) (h:Heap):List (Addr × Obj):=fp.filterMap fun b=>(h.get? b).map fun o=>(b,o)
theorem Zdh {fp:List Addr} {h:Heap} {b:Addr} {o:Obj} (hb:b ∈ fp) (e:h.get? b=some o):(b,o) ∈ pinsAt fp h:=List.mem_filterMap.mpr ⟨b,hb,by rw [e]; rfl⟩
theorem Zkp {fp:List Addr} {h:Heap} {p:Addr × Obj} (hp:p ∈ pinsAt fp h):p.1 ∈ fp/\h.get? p.1=some p.2:=by
 obtain ⟨b,hb,e⟩:=List.mem_filterMap.mp hp
 cases q:h.get? b with
 | none=>rw [q] at e; cases e
 | some o=>
  rw [q] at e
  have e':(b,o)=p:=Option.some.inj e
  subst e'
  exact ⟨hb,q⟩
theorem Inv.pinned {pins:List (Addr × Obj)} {σ:St} {H:Hp} {s:Shared} {fp:List Addr} (I:Inv X pins σ H s) (hf:∀ b ∈ fp,FpOk X pins H b) (ho:∀ b ∈ fp,∃ o,s.heap.get? b=some o/\∀ v,o.data ≠ .cell v):Inv X (pins ++ pinsAt fp s.heap) σ H s:=
 I.pins_of fun p hp=>(List.mem_append.mp hp).elim (fun z=>I.pin p (List.mem_append_right _ z)) fun z=>by
  obtain ⟨hb,e⟩:=Zkp z
  obtain ⟨f0,f1,f2,_⟩:=hf p.1 hb
  obtain ⟨o,e',d⟩:=ho p.1 hb
  rw [e] at e'; cases e'
  exact ⟨e,f0,f1,f2,d⟩
theorem Inv.unpinned {pins pl:List (Addr × Obj)} {σ:St} {H:Hp} {s:Shared} (I:Inv X (pins ++ pl) σ H s):Inv X pins σ H s:=I.pins_of fun p hp=>I.pin p (List.mem_append_right _ (List.mem_append_left _ hp))
theorem Zh2 {iter:Expr} {body:List Stmt} {wi:TI} {g:TG} {tb:TS} {pos:Pos} (hp:PassesOwn (model X.prog X.w) X.A X.env X.xe) (hc:X.calm=true) (hi:PI X tg iter wi) (hg:PG X tg g) (hb:PSs X body tb)
  (hs:∀ x,foldedSetIterable iter X.env x=pure x:=by intro _; rfl):PS X (.For tg iter body [] pos) (tFor wi g tb):=by
 intro pins s σ H D I h
 refine wpAny_For (thn (hi pins s σ H _ I h) fun v s1 h1=>thn h1 fun itv s2 h2=>?_) hs
 obtain ⟨it,fp,tn,J,H2,e,I2,T,st2,f2,W,⟨m0,w0⟩,turn⟩:=h2
 subst e
 -- what stays true of the iterator's objects through the loop
 have stat:∀ {H':Hp},(∀ b ∈ fp,H' b=none)->∀ b ∈ fp,FpOk X pins H' b:=fun hn b hb=>⟨hn b hb,(f2 b hb).2⟩
 refine codeAny_forLoop_any (fun n s'=>∃ i σ' H',Inv X pins σ' H' s' /\ tn i s'.heap/\(∀ b ∈ fp,H' b=none)/\W i n σ' H') ?_ m0 ⟨0,σ,H2,I2,st2,fun b hb=>(f2 b hb).1,w0⟩
 rintro n s3 ⟨i,σ3,H3,I3,st3,fr3,w3⟩
 rcases turn i n σ3 H3 w3 with ⟨stop,qn⟩ | ⟨go,N,hN,step⟩
 ·refine wpAny_passesOwn hp (thn (T.done X rfl rfl rfl hc i pins s3 σ3 H3 X.xe I3 (stat fr3) st3 stop) fun r s4 ⟨hr,I4⟩=>?_)
  subst hr
  exact wpAny_execs_nil ⟨σ3,H3,I4,qn⟩
 ·refine wpAny_passesOwn hp (thn (T.item X rfl rfl rfl hc i pins s3 σ3 H3 X.xe I3 (stat fr3) st3 go) fun r s4 ⟨u,hr,h4⟩=>?_)
  subst hr
  refine wpAny_passesOwn hp (thn h4 fun _ s5 ⟨x,H5,I5,r5,y5,st5,fr5⟩=>?_)
  have I5':=I5.pinned (stat fr5) (T.obj _ _ st5)
  refine wpAny_passesOwn hp (thn (hg _ s5 σ3 H5 x u _ I5' r5 (step x H5 y5)) fun _ s6 ⟨σ6,H6,I6,q6⟩=>?_)
  refine wpAny_passesOwn hp (thn (hb _ s6 σ6 H6 _ I6 q6) fun f s7 q7=>?_)
  have again:∀ {σ7:St} {H7:Hp},Inv X (pins ++ pinsAt fp s5.heap) σ7 H7 s7->N σ7 H7->∃ m,m < n/\∃ i σ' H',Inv X pins σ' H' s7/\tn i s7.heap/\(∀ b ∈ fp,H' b=none)/\W i m σ' H':=fun {σ7 H7} I7 n7=>by
   obtain ⟨m',hm,w7⟩:=hN σ7 H7 n7
   refine ⟨m',hm,i + 1,σ7,H7,I7.unpinned,T.keep _ _ _ st5 fun b hb o e=>(I7.pin (b,o) (List.mem_append_right _ (List.mem_append_right _ (Zdh hb e)))).1,fun b hb=>?_,w7⟩
   obtain ⟨o,e,d⟩:=T.obj _ _ st5 b hb
   exact (I7.pin (b,o) (List.mem_append_right _ (List.mem_append_right _ (Zdh hb e)))).2.1
  cases f with
  | next=>obtain ⟨σ7,H7,I7,n7⟩:=q7; exact again I7 n7
  | cont=>obtain ⟨σ7,H7,I7,n7⟩:=q7; exact again I7 n7
  | brk=>obtain ⟨σ7,H7,I7,q7⟩:=q7; exact ⟨σ7,H7,I7.unpinned,q7⟩
  | ret v=>obtain ⟨x7,σ7,H7,I7,r7,q7⟩:=q7; exact ⟨x7,σ7,H7,I7.unpinned,r7,q7⟩
end
end L2
namespace L2
open PySem PySem.Spec PyProof.Rows
abbrev R2:=V->V->Hp->VK->Prop
def OpR (X:Cx) (f:Value->Value->Sem Value) (r:R2):Prop:=
 ∀ (pins:List (Addr × Obj)) (s:Shared) (σ:St) (H:Hp) (x y:V) (v u:Value) (Q:VK),Inv X pins σ H s->RelV x v->RelV y u->r x y H Q →
  wpAny (model X.prog X.w) X.A (f v u) (EP X pins σ Q) X.xe s
def UnR (X:Cx) (f:Value->Sem Value) (r:V->Hp->VK->Prop):Prop:=
 ∀ (pins:List (Addr × Obj)) (s:Shared) (σ:St) (H:Hp) (x:V) (v:Value) (Q:VK),Inv X pins σ H s->RelV x v->r x H Q →
  wpAny (model X.prog X.w) X.A (f v) (EP X pins σ Q) X.xe s
def CallR (X:Cx) (f:Value) (r:List V->Hp->VK->Prop):Prop:=
 ∀ (pins:List (Addr × Obj)) (s:Shared) (σ:St) (H:Hp) (xs:List V) (us:List Value) (Q:VK),Inv X pins σ H s->Vals xs us->r xs H Q →
  wpAny (model X.prog X.w) X.A (call f us) (EP X pins σ Q) X.xe s
def TruR (X:Cx) (r:V->Hp->(Bool->Hp->Prop)->Prop):Prop:=
 ∀ (pins:List (Addr × Obj)) (s:Shared) (σ:St) (H:Hp) (x:V) (v:Value) (Q:Bool->Hp->Prop),Inv X pins σ H s->RelV x v->r x H Q →
  wpAny (model X.prog X.w) X.A (truthy v) (TP X pins σ Q) X.xe s
def tOp (r:R2) (ta tb:TE):TE:=fun σ H Q=>ta σ H fun x H1=>tb σ H1 fun y H2=>r x y H2 Q
def tUn (r:V->Hp->VK->Prop) (ta:TE):TE:=fun σ H Q=>ta σ H fun x H1=>r x H1 Q
def rI (C:Int->Int->Prop) (g:Int->Int->V):R2:=fun x y H Q=>∃ i j,x=.int i/\y=.int j/\C i j/\Q (g i j) H
def rI0 (g:Int->Int->V):R2:=fun x y H Q=>∃ i j,x=.int i/\y=.int j/\Q (g i j) H
def rU (g:Int->V):V->Hp->VK->Prop:=fun x H Q=>∃ i,x=.int i/\Q (g i) H
section
variable {X:Cx} {a b c:Expr} {ta tb tc:TE} {pos:Pos}
theorem binT (ha:PE X a ta) (hb:PE X b tb) {pins:List (Addr × Obj)} {s:Shared} {σ:St} {H:Hp} {R:V->V->Hp->Prop} (I:Inv X pins σ H s)
  (h:ta σ H fun x H1=>tb σ H1 fun y H2=>R x y H2) {Q:Value->Shared->Prop} {f:Value->Value->Sem Value}
  (hf:∀ v u s2 x y H2,Inv X pins σ H2 s2->RelV x v->RelV y u->R x y H2->wpAny (model X.prog X.w) X.A (f v u) Q X.xe s2) :
  wpAny (model X.prog X.w) X.A (eval a X.env) (fun v s₁=>wpAny (model X.prog X.w) X.A (eval b X.env) (fun u s₂=>wpAny (model X.prog X.w) X.A (f v u) Q X.xe s₂) X.xe s₁) X.xe s:=by
 refine thn (ha pins s σ H _ I h) fun v s1 ⟨x,H1,I1,r1,q1⟩=>?_
 refine thn (hb pins s1 σ H1 _ I1 q1) fun u s2 ⟨y,H2,I2,r2,q2⟩=>?_
 exact hf v u s2 x y H2 I2 r1 r2 q2
theorem Zap {op:Operator} {r:R2} (ho:OpR X (binaryOp op) r) (ha:PE X a ta) (hb:PE X b tb):PE X (.BinOp a op b pos) (tOp r ta tb):=by
 intro pins s σ H Q I h
 exact wpAny_BinOp (binT ha hb I h fun v u s2 x y H2 I2 rx ry q=>ho pins s2 σ H2 x y v u Q I2 rx ry q)
theorem Zpw {op:UnaryOp} {r:V->Hp->VK->Prop} (ho:UnR X (unaryOp op) r) (ha:PE X a ta):PE X (.UnaryOp op a pos) (tUn r ta):=by
 intro pins s σ H Q I h
 exact UnaryOp_ (thn (ha pins s σ H _ I h) fun v s1 ⟨x,H1,I1,r1,q1⟩=>ho pins s1 σ H1 x v Q I1 r1 q1)
theorem opI {f:Value->Value->Sem Value} {C:Int->Int->Prop} {g:Int->Int->Int}
  (rule:∀ (i j:Int) (t u:Tok) (s:Shared) (Q:Value->Shared->Prop) (E:Value->Shared->Prop),C i j->Q (.int (g i j) s.toks) { s with toks:=s.toks + 1 } -> wpAny (model X.prog X.w) X.A (f (.int i t) (.int j u)) Q E s) :
  OpR X f (rI C fun i j=>.int (g i j)):=by
 intro pins s σ H x y v u Q I rx ry h
 obtain ⟨i,j,rfl,rfl,hc,q⟩:=h
 obtain ⟨t,rfl⟩:=rx
 obtain ⟨t',rfl⟩:=ry
 exact rule i j t t' s _ _ hc ⟨.int (g i j),H,I.tok _,⟨_,rfl⟩,q⟩
theorem opI0 {f:Value->Value->Sem Value} {g:Int->Int->Int}
  (rule:∀ (i j:Int) (t u:Tok) (s:Shared) (Q:Value->Shared->Prop) (E:Value->Shared->Prop),Q (.int (g i j) s.toks) { s with toks:=s.toks + 1 } -> wpAny (model X.prog X.w) X.A (f (.int i t) (.int j u)) Q E s) :
  OpR X f (rI0 fun i j=>.int (g i j)):=by
 intro pins s σ H x y v u Q I rx ry h
 obtain ⟨i,j,rfl,rfl,q⟩:=h
 obtain ⟨t,rfl⟩:=rx
 obtain ⟨t',rfl⟩:=ry
 exact rule i j t t' s _ _ ⟨.int (g i j),H,I.tok _,⟨_,rfl⟩,q⟩
theorem opB0 {f:Value->Value->Sem Value} {g:Int->Int->Bool}
  (rule:∀ (i j:Int) (t u:Tok) (s:Shared) (Q:Value->Shared->Prop) (E:Value->Shared->Prop),Q (.bool (g i j)) s->wpAny (model X.prog X.w) X.A (f (.int i t) (.int j u)) Q E s) :
  OpR X f (rI0 fun i j=>.bl (g i j)):=by
 intro pins s σ H x y v u Q I rx ry h
 obtain ⟨i,j,rfl,rfl,q⟩:=h
 obtain ⟨t,rfl⟩:=rx
 obtain ⟨t',rfl⟩:=ry
 exact rule i j t t' s _ _ ⟨.bl (g i j),H,I,rfl,q⟩
def CDiv (i j:Int):Prop:=0 < j/\j < 1073741824
def CPow (i j:Int):Prop:=0<=j/\j<=1000000/\i.natAbs < 2 ^ 64
def CMul (i j:Int):Prop:=(-(2 ^ 64) < i/\i < 2 ^ 64)\/(-(2 ^ 64) < j/\j < 2 ^ 64)
theorem CMul.ok {i j:Int} (h:CMul i j):IntMulOk i j:=by
 rcases h with ⟨h1,h2⟩ | ⟨h1,h2⟩
 ·exact .of_left (intBits_le_64 h1 h2)
 ·exact .of_right (intBits_le_64 h1 h2)
theorem Zo5:OpR X (binaryOp .Add) (rI0 fun i j=>.int (i + j)):=opI0 fun _ _ _ _ _ _ _ q=>add_int q
theorem Zdp:OpR X (binaryOp .Sub) (rI0 fun i j=>.int (i - j)):=opI0 fun _ _ _ _ _ _ _ q=>sub_int q
theorem Zb6:OpR X (binaryOp .Mult) (rI CMul fun i j=>.int (i * j)):=opI fun _ _ _ _ _ _ _ hc q=>mul_int q hc.ok
theorem Zc8:OpR X (binaryOp .FloorDiv) (rI CDiv fun i j=>.int (i / j)):=opI fun i j _ _ _ _ _ hc q=>by
 have h1:(0:Int) < j:=hc.1
 have h2:j < 1073741824:=hc.2
 exact floordiv_int (by omega) (by rw [Int.fdiv_eq_ediv_of_nonneg i (by omega)]; exact q) (.inl (PyProof.noPylong_small (by omega)))
theorem Zb5:OpR X (binaryOp .Mod) (rI (fun _ j=>0 < j) fun i j=>.int (i % j)):=opI fun i j _ _ _ _ _ hc q=>by
 have h1:(0:Int) < j:=hc
 exact mod_int' (by omega) (by rw [Int.fmod_eq_emod_of_nonneg i (by omega)]; exact q)
theorem Zor:OpR X (binaryOp .Pow) (rI CPow fun i j=>.int (i ^ j.toNat)):=opI fun _ _ _ _ _ _ _ hc q=>pow_int_small hc.1 hc.2.1 hc.2.2 q
theorem Zp0:OpR X (binaryOp .BitXor) (rI0 fun i j=>.int (Builtin.bitXor i j)):=opI0 fun _ _ _ _ _ _ _ q=>xor_int q
theorem unI {f:Value->Sem Value} {g:Int->Int}
  (rule:∀ (i:Int) (t:Tok) (s:Shared) (Q:Value->Shared->Prop) (E:Value->Shared->Prop),Q (.int (g i) s.toks) { s with toks:=s.toks + 1 } -> wpAny (model X.prog X.w) X.A (f (.int i t)) Q E s) :
  UnR X f (rU fun i=>.int (g i)):=by
 intro pins s σ H x v Q I rx h
 obtain ⟨i,rfl,q⟩:=h
 obtain ⟨t,rfl⟩:=rx
 exact rule i t s _ _ ⟨.int (g i),H,I.tok _,⟨_,rfl⟩,q⟩
theorem Zmj:UnR X (unaryOp .USub) (rU fun i=>.int (-i)):=unI fun _ _ _ _ _ q=>neg_int q
end
def scal:V->V->Bool
 | .non,.non=>true | .non,.int _=>true | .int _,.non=>true | .non,.bl _=>true | .bl _,.non=>true | .non,.str _=>true | .str _,.non=>true
 | .int _,.int _=>true | .bl _,.bl _=>true | .str _,.str _=>true | .byt _,.byt _=>true
 | .int _,.str _=>true | .str _,.int _=>true | .bl _,.str _=>true | .str _,.bl _=>true
 | _,_=>false
def rEq:R2:=fun x y H Q=>scal x y=true/\Q (.bl (decide (x=y))) H
def rNe:R2:=fun x y H Q=>scal x y=true/\Q (.bl (!decide (x=y))) H
theorem Zfx {i j:Int}:decide (V.int i=V.int j)=(i == j):=by
 rw [Bool.eq_iff_iff]
 simp
theorem Zmt {i j:Bool}:decide (V.bl i=V.bl j)=(i == j):=by
 rw [Bool.eq_iff_iff]
 simp
theorem Zkc {i j:Str}:decide (V.str i=V.str j)=(i == j):=by
 rw [Bool.eq_iff_iff]
 simp
theorem Zkd {i j:Array UInt8}:decide (V.byt i=V.byt j)=(i.toList == j.toList):=by
 rw [Bool.eq_iff_iff]
 cases i
 cases j
 simp
section
variable {X:Cx} {a b c:Expr} {ta tb tc:TE} {pos:Pos}
theorem Zbc {pins:List (Addr × Obj)} {σ:St} {H:Hp} {s:Shared} {Q:VK} {k k':Bool} (I:Inv X pins σ H s) (q:Q (.bl k) H) (e:k=k'):EP X pins σ Q (.bool k') s:=by
 subst e
 exact ⟨.bl k,H,I,rfl,q⟩
theorem Zqy:OpR X (compareOp .Eq) rEq:=by
 intro pins s σ H x y v u Q I rx ry h
 obtain ⟨hs,q⟩:=h
 cases x with
 | non=>
  cases rx
  cases y with
  | non=>cases ry; exact PySem.EqNone.eq_none_none (Zbc I q (by simp))
  | bl j=>cases ry; exact PySem.EqNone.eq_none_bool (Zbc I q (by simp))
  | int j=>obtain ⟨t',rfl⟩:=ry; exact PySem.EqNone.eq_none_int (Zbc I q (by simp))
  | str j=>obtain ⟨t',rfl⟩:=ry; exact PySem.EqNone.eq_none_str (Zbc I q (by simp))
  | _=>exact absurd (show false=true from hs) Bool.false_ne_true
 | bl i=>
  cases rx
  cases y with
  | non=>cases ry; exact PySem.EqNone.eq_bool_none (Zbc I q (by simp))
  | bl j=>cases ry; exact eq_bool (Zbc I q Zmt)
  | str j=>obtain ⟨t',rfl⟩:=ry; exact PySem.EqMixed.eq_bool_str (Zbc I q (by simp))
  | _=>exact absurd (show false=true from hs) Bool.false_ne_true
 | int i=>
  obtain ⟨t,rfl⟩:=rx
  cases y with
  | non=>cases ry; exact PySem.EqNone.eq_int_none (Zbc I q (by simp))
  | int j=>obtain ⟨t',rfl⟩:=ry; exact eq_int (Zbc I q Zfx)
  | str j=>obtain ⟨t',rfl⟩:=ry; exact PySem.EqMixed.eq_int_str (Zbc I q (by simp))
  | _=>exact absurd (show false=true from hs) Bool.false_ne_true
 | str i=>
  obtain ⟨t,rfl⟩:=rx
  cases y with
  | non=>cases ry; exact PySem.EqNone.eq_str_none (Zbc I q (by simp))
  | bl j=>cases ry; exact PySem.EqMixed.eq_str_bool (Zbc I q (by simp))
  | int j=>obtain ⟨t',rfl⟩:=ry; exact PySem.EqMixed.eq_str_int (Zbc I q (by simp))
  | str j=>obtain ⟨t',rfl⟩:=ry; exact eq_str (Zbc I q Zkc)
  | _=>exact absurd (show false=true from hs) Bool.false_ne_true
 | byt i=>
  obtain ⟨t,rfl⟩:=rx
  cases y with
  | byt j=>obtain ⟨t',rfl⟩:=ry; exact PySem.W.eq_bytes (Zbc I q Zkd)
  | _=>exact absurd (show false=true from hs) Bool.false_ne_true
 | _=>cases y <;> exact absurd (show false=true from hs) Bool.false_ne_true
theorem Zql:OpR X (compareOp .NotEq) rNe:=by
 intro pins s σ H x y v u Q I rx ry h
 obtain ⟨hs,q⟩:=h
 cases x with
 | non=>
  cases rx
  cases y with
  | non=>cases ry; exact PySem.EqNone.ne_none_none (Zbc I q (by simp))
  | bl j=>cases ry; exact PySem.EqNone.ne_none_bool (Zbc I q (by simp))
  | int j=>obtain ⟨t',rfl⟩:=ry; exact PySem.EqNone.ne_none_int (Zbc I q (by simp))
  | str j=>obtain ⟨t',rfl⟩:=ry; exact PySem.EqNone.ne_none_str (Zbc I q (by simp))
  | _=>exact absurd (show false=true from hs) Bool.false_ne_true
 | bl i=>
  cases rx
  cases y with
  | non=>cases ry; exact PySem.EqNone.ne_bool_none (Zbc I q (by simp))
  | bl j=>cases ry; exact ne_bool (Zbc I q (congrArg not Zmt))
  | str j=>obtain ⟨t',rfl⟩:=ry; exact PySem.EqMixed.ne_bool_str (Zbc I q (by simp))
  | _=>exact absurd (show false=true from hs) Bool.false_ne_true
 | int i=>
  obtain ⟨t,rfl⟩:=rx
  cases y with
  | non=>cases ry; exact PySem.EqNone.ne_int_none (Zbc I q (by simp))
  | int j=>obtain ⟨t',rfl⟩:=ry; exact ne_int (Zbc I q (congrArg not Zfx))
  | str j=>obtain ⟨t',rfl⟩:=ry; exact PySem.EqMixed.ne_int_str (Zbc I q (by simp))
  | _=>exact absurd (show false=true from hs) Bool.false_ne_true
 | str i=>
  obtain ⟨t,rfl⟩:=rx
  cases y with
  | non=>cases ry; exact PySem.EqNone.ne_str_none (Zbc I q (by simp))
  | bl j=>cases ry; exact PySem.EqMixed.ne_str_bool (Zbc I q (by simp))
  | int j=>obtain ⟨t',rfl⟩:=ry; exact PySem.EqMixed.ne_str_int (Zbc I q (by simp))
  | str j=>obtain ⟨t',rfl⟩:=ry; exact ne_str (Zbc I q (congrArg not Zkc))
  | _=>exact absurd (show false=true from hs) Bool.false_ne_true
 | byt i=>
  obtain ⟨t,rfl⟩:=rx
  cases y with
  | byt j=>obtain ⟨t',rfl⟩:=ry; exact PySem.W.ne_bytes (Zbc I q (congrArg not Zkd))
  | _=>exact absurd (show false=true from hs) Bool.false_ne_true
 | _=>cases y <;> exact absurd (show false=true from hs) Bool.false_ne_true
theorem Zkj:OpR X (compareOp .Lt) (rI0 fun i j=>.bl (decide (i < j))):=opB0 fun _ _ _ _ _ _ _ q=>lt_int q
theorem Znu:OpR X (compareOp .LtE) (rI0 fun i j=>.bl (decide (i<=j))):=opB0 fun _ _ _ _ _ _ _ q=>le_int q
theorem Ze9:OpR X (compareOp .Gt) (rI0 fun i j=>.bl (decide (j < i))):=opB0 fun _ _ _ _ _ _ _ q=>gt_int q
theorem Zqg:OpR X (compareOp .GtE) (rI0 fun i j=>.bl (decide (j<=i))):=opB0 fun _ _ _ _ _ _ _ q=>ge_int q
theorem OpR.or {f:Value->Value->Sem Value} {r r':R2} (h:OpR X f r) (h':OpR X f r'):OpR X f (fun x y H Q=>r x y H Q\/r' x y H Q):=by
 intro pins s σ H x y v u Q I rx ry q
 rcases q with q | q
 ·exact h pins s σ H x y v u Q I rx ry q
 ·exact h' pins s σ H x y v u Q I rx ry q
theorem nomark (b:Expr) {op:CmpOp} (h:op ≠ .In:=by decide) (h2:op ≠ .NotIn:=by decide):behindInMarks op b=false:=by
 have e1:(op == CmpOp.In)=false:=by cases op <;> first | rfl | exact absurd rfl h
 have e2:(op == CmpOp.NotIn)=false:=by cases op <;> first | rfl | exact absurd rfl h2
 cases b <;> simp [behindInMarks,e1,e2]
theorem Zd8 {op:CmpOp} {r:R2} (ho:OpR X (compareOp op) r) (ha:PE X a ta) (hb:PE X b tb) (hm:behindInMarks op b=false):PE X (.Compare a [op] [b] pos) (tOp r ta tb):=by
 intro pins s σ H Q I h
 exact wpAny_Compare1 (binT ha hb I h fun v u s2 x y H2 I2 rx ry q=>ho pins s2 σ H2 x y v u Q I2 rx ry q) hm
def tTest (t:TE):TT:=fun σ H Q=>t σ H fun x H'=>∃ k,x=.bl k/\Q k H'
theorem Zaw {op:CmpOp} {r:R2} (ho:OpR X (compareOp op) r) (ha:PE X a ta) (hb:PE X b tb) (hm:behindInMarks op b=false):PT X (.Compare a [op] [b] pos) (tTest (tOp r ta tb)):=by
 intro pins s σ H Q I h
 refine wpAny_isTrue_Compare1 (thn (ha pins s σ H _ I h) fun v s1 ⟨x,H1,I1,r1,q1⟩=>thn (hb pins s1 σ H1 _ I1 q1) fun u s2 ⟨y,H2,I2,r2,q2⟩=>
  thn (ho pins s2 σ H2 x y v u _ I2 r1 r2 q2) fun c s3 ⟨z,H3,I3,r3,k,e,q3⟩=>?_) hm
 subst e
 cases r3
 exact wpAny_truthy_bool ⟨H3,I3,q3⟩
def tChain (r r':R2) (ta tb tc:TE):TE:=fun σ H Q=>ta σ H fun x H1=>tb σ H1 fun y H2=>r x y H2 fun z H3=>∃ k,z=.bl k ∧
 (if k=true then tc σ H3 fun w' H4=>r' y w' H4 Q else Q (.bl false) H3)
theorem Zif {op op':CmpOp} {r r':R2} (ho:OpR X (compareOp op) r) (ho':OpR X (compareOp op') r') (ha:PE X a ta) (hb:PE X b tb) (hc:PE X c tc)
  (hm:lastMarks [op,op'] [b,c]=false:=by with_unfolding_all rfl):PE X (.Compare a [op,op'] [b,c] pos) (tChain r r' ta tb tc):=by
 intro pins s σ H Q I h
 refine Compare_chain (thn (ha pins s σ H _ I h) fun v s1 ⟨x,H1,I1,r1,q1⟩=>chain_link (thn (hb pins s1 σ H1 _ I1 q1) fun u s2 ⟨y,H2,I2,r2,q2⟩=>
  thn (ho pins s2 σ H2 x y v u _ I2 r1 r2 q2) fun d s3 ⟨z,H3,I3,r3,k,e,q3⟩=>?_)) hm
 subst e
 cases r3
 refine wpAny_truthy_bool ?_
 cases k with
 | false=>exact ite_ff ⟨.bl false,H3,I3,rfl,q3⟩
 | true=>exact ite_tt (chain_last (thn (hc pins s3 σ H3 _ I3 q3) fun w' s4 ⟨z',H4,I4,r4,q4⟩=>ho' pins s4 σ H4 y z' u w' Q I4 r2 r4 q4))
theorem Zlz {op op':CmpOp} {r r':R2} (ho:OpR X (compareOp op) r) (ho':OpR X (compareOp op') r') (ha:PE X a ta) (hb:PE X b tb) (hc:PE X c tc)
  (hm:lastMarks [op,op'] [b,c]=false:=by with_unfolding_all rfl):PT X (.Compare a [op,op'] [b,c] pos) (tTest (tChain r r' ta tb tc)):=by
 intro pins s σ H Q I h
 refine isTrue_chain (thn (ha pins s σ H _ I h) fun v s1 ⟨x,H1,I1,r1,q1⟩=>test_link (thn (hb pins s1 σ H1 _ I1 q1) fun u s2 ⟨y,H2,I2,r2,q2⟩=>
  thn (ho pins s2 σ H2 x y v u _ I2 r1 r2 q2) fun d s3 ⟨z,H3,I3,r3,k,e,q3⟩=>?_)) hm
 subst e
 cases r3
 refine wpAny_truthy_bool ?_
 cases k with
 | false=>
  obtain ⟨k',e',q'⟩:=q3
  cases e'
  exact ite_ff ⟨H3,I3,q'⟩
 | true=>
  refine ite_tt (test_last (thn (hc pins s3 σ H3 _ I3 q3) fun w' s4 ⟨z',H4,I4,r4,q4⟩=>thn (ho' pins s4 σ H4 y z' u w' _ I4 r2 r4 q4) fun d' s5 ⟨z2,H5,I5,r5,k2,e2,q5⟩=>?_))
  subst e2
  cases r5
  exact wpAny_truthy_bool ⟨H5,I5,q5⟩
def TruV (K:PySem.W.Frag) (x:V) (H:Hp) (k:Bool):Prop:=
 match x with
 | .non=>k=false
 | .bl b=>k=b
 | .int i=>k=(i != 0)
 | .str y=>y.length<=sizeLine/\k=((y.length:Int) != 0)
 | .byt y=>y.size<=sizeLine/\k=((y.size:Int) != 0)
 | .ref p=>(∃ xs,SqL K H p xs/\k = !xs.isEmpty)\/(∃ xs,SqT K H p xs/\k = !xs.isEmpty)\/∃ kvs,H p=some (.dK kvs)/\k = !kvs.isEmpty
 | _=>False
theorem Zim {κ:Type} {kvs:List (κ × V)} {vs:List (κ × Value)} (r:KV kvs vs):(!vs.isEmpty) = !kvs.isEmpty:=by
 cases r <;> rfl
theorem Zfj {xs:List V} {its:List Value} (r:Vals xs its):(!its.toArray.isEmpty) = !xs.isEmpty:=by
 cases r <;> simp
theorem line63:(sizeLine:Nat) < 2 ^ 63:=by rw [sizeLine_eq]; decide
theorem Zpl:TruR X (fun x H Q=>∃ k,TruV X.K x H k/\Q k H):=by
 intro pins s σ H x v Q I rx h
 obtain ⟨k,e,q⟩:=h
 have hl:=line63
 have hs:sizeLine=16777216:=sizeLine_eq
 cases x with
 | non=>
  cases rx
  have e':k=false:=e
  subst e'
  exact truthy_none ⟨H,I,q⟩
 | bl b=>
  cases rx
  have e':k=b:=e
  subst e'
  exact wpAny_truthy_bool ⟨H,I,q⟩
 | int i=>
  obtain ⟨t,rfl⟩:=rx
  have e':k=(i != 0):=e
  subst e'
  exact PySem.P.truthy_int ⟨H,I,q⟩
 | str y=>
  obtain ⟨t,rfl⟩:=rx
  obtain ⟨hy,e'⟩:y.length<=sizeLine/\k=((y.length:Int) != 0):=e
  subst e'
  exact PySem.P.truthy_str (by omega) ⟨H,I.tok _,q⟩
 | byt y=>
  obtain ⟨t,rfl⟩:=rx
  obtain ⟨hy,e'⟩:y.size<=sizeLine/\k=((y.size:Int) != 0):=e
  subst e'
  exact PySem.W.truthy_bytes (by omega) ⟨H,I.tok _,q⟩
 | ref p=>
  cases rx
  have e':(∃ xs,SqL X.K H p xs/\k = !xs.isEmpty)\/(∃ xs,SqT X.K H p xs/\k = !xs.isEmpty)\/∃ kvs,H p=some (.dK kvs)/\k = !kvs.isEmpty:=e
  rcases e' with ⟨xs,hx,e'⟩ | ⟨xs,hx,e'⟩ | ⟨kvs,hx,e'⟩
  ·subst e'
   obtain ⟨its,r,pl,hz⟩:=I.list hx
   have hlen:=r.length
   exact wpAny_truthy_list pl.isList (by simp only [List.size_toArray]; omega) ⟨H,I.tok _,by rw [Zfj r]; exact q⟩
  ·subst e'
   obtain ⟨its,r,pl,hz⟩:=I.tuple hx
   have hlen:=r.length
   exact truthy_tuple pl (by simp only [List.size_toArray]; omega) ⟨H,I.tok _,by rw [Zfj r]; exact q⟩
  ·subst e'
   obtain ⟨hz,hS,vs,r,m⟩:kvs.length<=sizeLine/\(p == sysModules)=false/\∃ vs,KV kvs vs/\s.heap.DictOf (mixKind X.prog X.w) p vs:=I.hok p _ hx
   have hlen:kvs.length=vs.length:=Paired.length r
   exact wpAny_truthy_dict hS m (by omega) ⟨H,I.tok _,by rw [Zim r]; exact q⟩
 | _=>exact (show False from e).elim
theorem Zlk (ha:PE X a ta) (he:∀ whole,isTrue a X.env whole=(do let v ← whole; standAt a.pos; holding [v] (truthy v))) :
  PT X a (fun σ H Q=>ta σ H fun x H'=>∃ k,TruV X.K x H' k/\Q k H'):=by
 intro pins s σ H Q I h
 exact isTrue_plain (thn (ha pins s σ H _ I h) fun v s1 ⟨x,H1,I1,r1,q1⟩=>Zpl pins s1 σ H1 x v Q I1 r1 q1) (he _)
theorem vals1 {x:V} {us:List Value} (r:Vals [x] us):∃ u,us=[u]/\RelV x u:=by
 cases r with
 | cons r1 r2=>cases r2; exact ⟨_,rfl,r1⟩
theorem vals2 {x y:V} {us:List Value} (r:Vals [x,y] us):∃ u w',us=[u,w']/\RelV x u/\RelV y w':=by
 cases r with
 | cons r1 r2=>
  cases r2 with
  | cons r3 r4=>cases r4; exact ⟨_,_,rfl,r1,r3⟩
theorem Zf2:CallR X (.builtin "abs") (fun xs H Q=>∃ i,xs=[.int i]/\Q (.int (if i < 0 then -i else i)) H):=by
 intro pins s σ H xs us Q I r h
 obtain ⟨i,rfl,q⟩:=h
 obtain ⟨u,rfl,t,rfl⟩:=vals1 r
 exact call_abs_int fun u tk=>⟨.int (if i < 0 then -i else i),H,I.tok _,⟨_,rfl⟩,q⟩
theorem Zgw (hc:X.calm=true):CallR X (.builtin "max") (fun xs H Q=>∃ i j,xs=[.int i,.int j]/\Q (.int (if j > i then j else i)) H):=by
 intro pins s σ H xs us Q I r h
 obtain ⟨i,j,rfl,q⟩:=h
 obtain ⟨u,w',rfl,⟨t,rfl⟩,⟨t',rfl⟩⟩:=vals2 r
 refine max_two_ints (I.ok.hd hc) fun h' tk k=>⟨_,H,I.kept k,?_,q⟩
 by_cases hj:j > i
 ·rw [if_pos hj,if_pos hj]; exact ⟨_,rfl⟩
 ·rw [if_neg hj,if_neg hj]; exact ⟨_,rfl⟩
theorem Zer (hc:X.calm=true):CallR X (.builtin "min") (fun xs H Q=>∃ i j,xs=[.int i,.int j]/\Q (.int (if j < i then j else i)) H):=by
 intro pins s σ H xs us Q I r h
 obtain ⟨i,j,rfl,q⟩:=h
 obtain ⟨u,w',rfl,⟨t,rfl⟩,⟨t',rfl⟩⟩:=vals2 r
 refine min_two_ints (I.ok.hd hc) fun h' tk k=>⟨_,H,I.kept k,?_,q⟩
 by_cases hj:j < i
 ·rw [if_pos hj,if_pos hj]; exact ⟨_,rfl⟩
 ·rw [if_neg hj,if_neg hj]; exact ⟨_,rfl⟩
theorem Zeu:CallR X (.type "int") (fun xs H Q=>(∃ i,xs=[.int i]/\Q (.int i) H)\/∃ k,xs=[.bl k]/\Q (.int (if k then 1 else 0)) H):=by
 intro pins s σ H xs us Q I r h
 rcases h with ⟨i,rfl,q⟩ | ⟨k,rfl,q⟩
 ·obtain ⟨u,rfl,t,rfl⟩:=vals1 r
  exact call_int_int ⟨.int i,H,I,⟨_,rfl⟩,q⟩
 ·obtain ⟨u,rfl,r1⟩:=vals1 r
  cases r1
  exact call_int_bool ⟨.int (if k then 1 else 0),H,I.tok _,⟨_,rfl⟩,q⟩
end
end L2
namespace L2
open PySem PySem.Spec PyProof.Rows
structure ObjM (h:Heap) (x dx C:Addr) (mA:Str->Option Value):Prop where
 obj:h.get? x=some (PySem.W.instObj C dx)
 ns:h.Ns1 dx mA
 ne:dx ≠ x
theorem Zkx {h:Heap} {dx:Addr} {mA:Str->Option Value} (n:h.Ns1 dx mA):∃ od,h.get? dx=some od/\∀ name,PySem.W.lookIn name od=some (mA name):=by
 obtain ⟨o,es,ep,ho,hd,hk,_,hm⟩:=n
 refine ⟨o,ho,fun name=>?_⟩
 have e:=hm name
 unfold nsFind findBy at e
 rw [<- Array.find?_toList] at e
 unfold PySem.W.lookIn
 rw [hd]
 dsimp only
 split
 ·rename_i y q
  rw [q] at e
  exact congrArg some e
 ·rename_i q
  rw [q] at e
  have a:es.toList.any (·.refKey)=false:=by
   rw [List.any_eq_false]
   intro y hy
   obtain ⟨z,t,hkey⟩:=hk y (Array.mem_toList_iff.mp hy)
   simp [DictEntry.refKey,hkey]
  have a':¬ es.toList.any (·.refKey)=true:=by rw [a]; exact Bool.false_ne_true
  rw [if_neg a']
  exact congrArg some e
theorem ObjM.look {h:Heap} {x dx C:Addr} {mA:Str->Option Value} (I:ObjM h x dx C mA):∃ od,PySem.W.InstAt h x (PySem.W.instObj C dx) C (some od)/\∀ name,PySem.W.lookIn name od=some (mA name):=
 let ⟨od,ho,hl⟩:=Zkx I.ns
 ⟨od,⟨I.obj,rfl,rfl,ho⟩,hl⟩
theorem RelO.some_of {v:V} {o:Option Value} (r:RelO (some v) o):∃ u,o=some u/\RelV v u:=by
 cases o with
 | none=>exact (show False from r).elim
 | some u=>exact ⟨u,rfl,r⟩
section
variable {P:Program} {w:World} {H H':Hp} {h h':Heap} {a C dx:Addr} {fs fs':List (Str × V)}
theorem Zoc (hok:HOk P w H h) (e:H a=some (.ins C dx fs)):∃ mA,ObjM h a dx C mA/\(∀ f,RelO (fs.lookup f) (mA f))/\PySem.Within mA (fs.map (·.1))/\fs.length<=1000/\H dx=some (.own a):=by
 obtain ⟨d,z,ne,ob,mA,n,r,q⟩:=(show ObjOk P w H h a (.ins C dx fs) from hok a _ e)
 exact ⟨mA,⟨ob,n,ne⟩,r,q,z,d⟩
end
structure Cls (K:PySem.W.Frag) (C:Addr):Prop where
 pg:PySem.W.plainGet K C Str.empty=true
 hd:PySem.W.hasDictIn K C=true
 po:PySem.W.plainOver K C=true
 sa:PySem.W.findIn K (.ref C) "__setattr__" = some (some (.builtin "object.__setattr__"))
theorem Cls.get {K:PySem.W.Frag} {C:Addr} (c:Cls K C) (f:Str):PySem.W.plainGet K C f=true:=c.pg
section
variable {X:Cx} {pins:List (Addr × Obj)} {σ:St} {H:Hp} {s:Shared} {a C dx:Addr} {fs:List (Str × V)} {f:Str} {v:V} {A:Around} {E:Value->Shared->Prop}
end
section
variable {X:Cx} {pins:List (Addr × Obj)} {σ:St} {H:Hp} {s:Shared} {A:Around} {E:Value->Shared->Prop} {Q:Value->Shared->Prop} {c:Value} {b:Bool}
inductive TyOf (K:PySem.W.Frag) (H:Hp):V->Value->Prop where
 | non:TyOf K H .non (.type "NoneType")
 | bl (x:Bool):TyOf K H (.bl x) (.type "bool")
 | int (i:Int):TyOf K H (.int i) (.type "int")
 | str (x:Str):TyOf K H (.str x) (.type "str")
 | flt (x:UInt64):TyOf K H (.flt x) (.type "float")
 | lst {a:Addr} {xs:List V} (e:H a=some (.lst xs)):TyOf K H (.ref a) (.type "list")
 | frz {a:Addr} {o:Obj} {xs:List V} (e:H a=some (.frz o (.lst xs))):TyOf K H (.ref a) (.type "list")
 | tup {a:Addr} {xs:List V} (e:H a=some (.tup xs)):TyOf K H (.ref a) (.type "tuple")
 | dK {a:Addr} {kvs:List (Key × V)} (e:H a=some (.dK kvs)):TyOf K H (.ref a) (.type "dict")
 | dT {a:Addr} {kvs:List (List Key × V)} (e:H a=some (.dT kvs)):TyOf K H (.ref a) (.type "dict")
 | ins {a C dx:Addr} {fs:List (Str × V)} (e:H a=some (.ins C dx fs)) (cl:Cls K C) (ha:PySem.W.findIn K (.ref C) "__class__" = some (some (.builtin "object.__class__")))
   (hn:PySem.W.specialIn K (.builtin "object.__class__") "__get__" = some (some (.builtin "getset_descriptor.__get__"))) (htk:PySem.W.takesIn K (.builtin "object.__class__")=some true)
   (hm:PySem.W.mroIn K C (.type "object")=some true):TyOf K H (.ref a) (.ref C)
theorem Zjg {x:V} {u t:Value} (I:Inv X pins σ H s) (rx:RelV x u) (ty:TyOf X.K H x t) (e:PySem.W.kitOne X.K t c=some b) (h:∀ tk,Q (.bool b) { s with toks:=tk }) :
  wpAny (model X.prog X.w) A (call (.builtin "isinstance") [u,c]) Q E s:=by
 cases ty with
 | non=>cases (show u=Value.none from rx); exact PySem.W.kia_one PySem.W.kitx_none I.kIn True.intro e (fun z=>nomatch z) h
 | bl y=>cases (show u=Value.bool y from rx); exact PySem.W.kia_one PySem.W.kitx_bool I.kIn True.intro e (fun z=>nomatch z) h
 | int i=>obtain ⟨t,q⟩:=(show ∃ t,u=Value.int i t from rx); cases q; exact PySem.W.kia_one PySem.W.kitx_int I.kIn True.intro e (fun z=>nomatch z) h
 | str y=>obtain ⟨t,q⟩:=(show ∃ t,u=Value.str y t from rx); cases q; exact PySem.W.kia_one PySem.W.kitx_str I.kIn True.intro e (fun z=>nomatch z) h
 | flt y=>obtain ⟨t,q⟩:=(show ∃ t,u=Value.float y t from rx); cases q; exact PySem.W.kia_one PySem.W.kitx_float I.kIn True.intro e (fun z=>nomatch z) h
 | @lst a xs ea=>
  cases (show u=Value.ref a from rx)
  obtain ⟨_,_,n,_,h1⟩:=(show ObjOk X.prog X.w H s.heap a (.lst xs) from I.hok a _ ea)
  exact PySem.W.kia_one PySem.W.kitx_list I.kIn ⟨_,h1,rfl⟩ e (fun z=>nomatch z) h
 | @frz a ob xs ea=>
  cases (show u=Value.ref a from rx)
  obtain ⟨_,_,_,n,_,h1⟩:=(show ObjOk X.prog X.w H s.heap a (.frz ob (.lst xs)) from I.hok a _ ea)
  exact PySem.W.kia_one PySem.W.kitx_list I.kIn ⟨_,h1,rfl⟩ e (fun z=>nomatch z) h
 | @tup a xs ea=>
  cases (show u=Value.ref a from rx)
  obtain ⟨_,_,_,p⟩:=(show ObjOk X.prog X.w H s.heap a (.tup xs) from I.hok a _ ea)
  obtain ⟨o,h1,⟨h2,_⟩,_⟩:=p
  exact PySem.W.kia_one PySem.W.kitx_tuple I.kIn ⟨o,h1,h2⟩ e (fun z=>nomatch z) h
 | @dK a kvs ea=>
  cases (show u=Value.ref a from rx)
  obtain ⟨_,_,vs,_,p⟩:=(show ObjOk X.prog X.w H s.heap a (.dK kvs) from I.hok a _ ea)
  obtain ⟨o,es,ep,h1,h2,_⟩:=p
  exact PySem.W.kia_one PySem.W.kitx_dict I.kIn ⟨o,h1,h2.1⟩ e (fun z=>nomatch z) h
 | @dT a kvs ea=>
  cases (show u=Value.ref a from rx)
  obtain ⟨_,_,xs,_,o,es,ep,h1,h2,_⟩:=(show ObjOk X.prog X.w H s.heap a (.dT kvs) from I.hok a _ ea)
  exact PySem.W.kia_one PySem.W.kitx_dict I.kIn ⟨o,h1,h2.1⟩ e (fun z=>nomatch z) h
 | @ins a C dx fs ea cl ha hn htk hm=>
  cases (show u=Value.ref a from rx)
  obtain ⟨mA,O,_⟩:=Zoc I.hok ea
  obtain ⟨od,J,_⟩:=O.look
  exact PySem.W.kia_one (PySem.W.kitx_own (cl.get _) cl.hd ha hn htk hm) I.kIn J e (fun z=>nomatch z) h
end
end L2
namespace L2
open PySem PySem.Spec PyProof.Rows
structure Room (k:Nat) (A:Around):Prop where
 hd:A.handled=none
 dp:A.depth + 3 * k + 5 < recursionLimit
 un:A.units + 16 * k + 200 < cLine
 gd:A.guards=some []
theorem Room.mono {j k:Nat} {A:Around} (r:Room k A) (h:j<=k):Room j A:=⟨r.hd,by have:=r.dp; omega,by have:=r.un; omega,r.gd⟩
theorem Room.deeper {k:Nat} {A:Around} (r:Room (k + 1) A) (env:Env):Room k (A.deeper env):=
 ⟨r.hd,by have:=r.dp; show A.depth + 1 + 3 * k + 5 < _; omega,by have:=r.un; show A.units + 3 + 16 * k + 200 < _; omega,r.gd⟩
theorem Room.depth {k:Nat} {A:Around} (r:Room k A):A.depth < recursionLimit:=by have:=r.dp; omega
theorem Room.units {k:Nat} {A:Around} (r:Room k A):A.units + 64 < cLine:=by have:=r.un; omega
def tNil:TA:=fun _ H Q=>Q [] H
def tCons (ta:TE) (tr:TA):TA:=fun σ H Q=>ta σ H fun x H1=>tr σ H1 fun xs H2=>Q (x :: xs) H2
section
variable {X:Cx} {e:Expr} {es:List Expr} {te:TE} {t:TA} {pos:Pos}
theorem Zad:PA X [] tNil:=fun _ _ _ _ H Q I h=>Calls.spliced_nil ⟨[],H,I,.nil,h⟩
theorem Zaa (ha:PE X e te) (hr:PA X es t) (hs:starEach (e :: es) X.env=(false,eval e X.env) :: starEach es X.env:=by rfl):PA X (e :: es) (tCons te t):=by
 intro pos pins s σ H Q I h
 rw [hs]
 show wpAny _ _ (spliced ((false,eval e X.env) :: backTo pos (starEach es X.env))) _ _ s
 refine Calls.spliced_cons (thn (ha pins s σ H _ I h) fun u s1 ⟨x,H1,I1,r1,q1⟩=>?_)
 exact thn (hr pos pins s1 σ H1 _ I1 q1) fun us s2 ⟨xs,H2,I2,r2,q2⟩=>⟨x :: xs,H2,I2,.cons r1 r2,q2⟩
def tTup (t:TA):TE:=fun σ H Q=>t σ H fun xs H1=>xs.length<=sizeLine/\∀ p,H1 p=none->Q (.ref p) (upd H1 p (.tup xs))
def tLst (t:TA):TE:=fun σ H Q=>t σ H fun xs H1=>xs.length<=sizeLine/\∀ p,H1 p=none->Q (.ref p) (upd H1 p (.lst xs))
theorem Zbb {x1} (h:PA X es t):PE X (.Tuple es x1 pos) (tTup t):=by
 intro pins s σ H Q I hq
 refine wpAny_Tuple_spliced (thn (h pos pins s σ H _ I hq) fun us s1 ⟨xs,H1,I1,r,z,q⟩=>⟨by rw [<- r.length]; exact z,?_⟩)
 have hf:H1 s1.heap.objs.size=none:=I1.hok.fresh (Nat.le_refl _)
 refine ⟨.ref s1.heap.objs.size,upd H1 s1.heap.objs.size (.tup xs),I1.laid (t':=s1.toks) (fun b u e=>Heap.get?_push_of_some _ e) (Nat.le_refl _) ?_,rfl,q _ hf⟩
 exact ⟨z,us,r,⟨_,Heap.get?_push_size _ rfl,⟨rfl,_,rfl⟩,rfl⟩⟩
theorem Zgl (h:PA X es t):PE X (.List es pos) (tLst t):=by
 intro pins s σ H Q I hq
 refine wpAny_List_spliced (thn (h pos pins s σ H _ I hq) fun us s1 ⟨xs,H1,I1,r,z,q⟩=>⟨by rw [<- r.length]; exact z,?_⟩)
 have hf:H1 s1.heap.objs.size=none:=I1.hok.fresh (Nat.le_refl _)
 refine ⟨.ref s1.heap.objs.size,upd H1 s1.heap.objs.size (.lst xs),I1.laid (t':=s1.toks) (fun b u e=>Heap.get?_push_of_some _ e) (Nat.le_refl _) ?_,rfl,q _ hf⟩
 exact ⟨z,us,0,r,Heap.get?_push_size _ rfl⟩
end
abbrev Sp:=List V->Hp->VK->XK->Prop
abbrev CXT:=List Env->Hp->Shared->XK->Value->Shared->Prop
structure Env0 (P:Program) (w:World) (K:PySem.W.Frag) (mg:Str->Option Value) (base:Heap) (A:Around) (outer:List Env) (s:Shared) (H:Hp):Prop where
 frames:A.frames=some outer
 mod:Mod K mg base
 bs:∀ b o,base.get? b=some o->s.heap.get? b=some o/\H b=none
 bsz:base.objs.size<=s.heap.objs.size
 funs:s.heap.FunFrames base outer
 frf:∀ b ∈ frs outer,H b=none
 hok:HOk P w H s.heap
 bare:AllBare s.gens
def CE (outer:List Env) (P:Program) (w:World) (H:Hp) (s:Shared) (Q:VK) (u:Value) (s':Shared):Prop:=
 ∃ v H',s'.os=s.os/\AllBare s'.gens/\Un (frs outer) [] H H' s.heap s'.heap/\HOk P w H' s'.heap/\RelV v u/\Q v H'
def CR (CX:CXT) (outer:List Env) (P:Program) (w:World) (H:Hp) (s:Shared) (Q:VK) (E:XK) (r:Result) (s':Shared):Prop:=
 match r with
 | .ok (.ret u)=>CE outer P w H s Q u s'
 | .ok _=>False
 | .error e=>CX outer H s E e s'
structure FnOk (P:Program) (w:World) (K:PySem.W.Frag) (mg:Str->Option Value) (base:Heap) (CX:CXT) (k:Nat) (f:Addr) (fd:FuncData) (ps:List Str) (sp:Sp):Prop where
 len:∀ vs H Q E,sp vs H Q E->vs.length=ps.length
 run:∀ (A:Around) (outer:List Env) (s:Shared) (H:Hp) (args:Args) (us:List Value) (vs:List V) (Q:VK) (E:XK),Room k A->Env0 P w K mg base A outer s H->BindsTo s fd args (ps.zip us)->Vals vs us->sp vs H Q E →
  codeAny (model P w) A (.call (.ref f) args) (CR CX outer P w H s Q E) s
theorem FnOk.imp {P:Program} {w:World} {K:PySem.W.Frag} {mg:Str->Option Value} {base:Heap} {CX:CXT} {k:Nat} {f:Addr} {fd:FuncData} {ps:List Str} {sp sp':Sp} (F:FnOk P w K mg base CX k f fd ps sp)
  (h:∀ vs H Q E,sp' vs H Q E->sp vs H Q E):FnOk P w K mg base CX k f fd ps sp':=
 ⟨fun vs H Q E q=>F.len vs H Q E (h _ _ _ _ q),fun A outer s H args us vs Q E hr he hb hv hs=>F.run A outer s H args us vs Q E hr he hb hv (h _ _ _ _ hs)⟩
section
variable {X:Cx} {pins:List (Addr × Obj)} {σ:St} {H:Hp} {s s':Shared}
theorem Inv.env0 (I:Inv X pins σ H s):Env0 X.prog X.w X.K X.mg X.base X.A X.stack s H:=
 ⟨I.ok.frames,I.ok.mod,I.bs,Nat.le_trans I.ok.bsz I.sz,I.stack,I.stkFree,I.hok,I.bare⟩
theorem Inv.after {Q:VK} {u:Value} (I:Inv X pins σ H s) (h:CE X.stack X.prog X.w H s Q u s'):EP X pins σ Q u s':=by
 obtain ⟨v,H',os,bare,un,hok,r,q⟩:=h
 obtain ⟨hh,g,d,t,os'⟩:=s'
 obtain rfl:os' = s.os:=os
 exact ⟨v,H',I.call (h':=hh) (g':=g) (d':=d) (t':=t) (ch:=[]) un hok bare (fun b z=>absurd z (by simp)),r,q⟩
end
def tCall (sp:Sp) (dvs:List V) (E:XK) (t:TA):TE:=fun σ H Q=>t σ H fun vs H1=>sp (vs ++ dvs) H1 Q E
def Binds (K:PySem.W.Frag) (fd:FuncData) (ps:List Str) (ds:List Value):Prop:=
 ∀ (s:Shared) (us:List Value),K.In s.heap->(us ++ ds).length=ps.length->BindsTo s fd ⟨us,[]⟩ (ps.zip (us ++ ds))
theorem Binds.all {K:PySem.W.Frag} {fd:FuncData} {ps:List Str} (h:∀ us:List Value,us.length=ps.length->bindArgs fd ⟨us,[]⟩ = pure (ps.zip us)):Binds K fd ps []:=fun s us _ hl=>by
 rw [List.append_nil] at hl ⊢
 exact .of_eq (h us hl)
def Passes (CX:CXT) (X:Cx) (E:XK):Prop:=∀ (pins:List (Addr × Obj)) (σ:St) (H:Hp) (s:Shared) (e:Value) (s':Shared),Inv X pins σ H s->CX X.stack H s E e s' -> X.xe e s'
section
variable {X:Cx} {CX:CXT} {k:Nat} {f C:Addr} {fd:FuncData} {ps:List Str} {sp:Sp} {dvs:List V} {ds:List Value} {E:XK} {x m:Str} {p pos apos:Pos} {e o:Expr} {es:List Expr} {ta:TE} {t:TA}
theorem Zph {pins:List (Addr × Obj)} {σ:St} {H:Hp} {s:Shared} {Q:VK} {us:List Value} {vs:List V} (F:FnOk X.prog X.w X.K X.mg X.base CX k f fd ps sp) (hr:Room k X.A) (hb:Binds X.K fd ps ds) (hd:Vals dvs ds) (hx:Passes CX X E)
  (I:Inv X pins σ H s) (r:Vals vs us) (h:sp (vs ++ dvs) H Q E):wpAny (model X.prog X.w) X.A (call (.ref f) us) (EP X pins σ Q) X.xe s:=by
 have r2:Vals (vs ++ dvs) (us ++ ds):=r.append hd
 have hl:(us ++ ds).length=ps.length:=by rw [<- r2.length]; exact F.len _ _ _ _ h
 refine wpAny_call (codeAny_mono (F.run X.A X.stack s H ⟨us,[]⟩ (us ++ ds) (vs ++ dvs) Q E hr I.env0 (hb s us I.kIn hl) r2 h) fun r s' hq=>?_)
 cases r with
 | error e=>exact hx pins σ H s e s' I hq
 | ok fl=>
  cases fl with
  | ret u=>exact I.after hq
  | next=>exact False.elim hq
  | brk=>exact False.elim hq
  | cont=>exact False.elim hq
theorem Zno (F:FnOk X.prog X.w X.K X.mg X.base CX k f fd ps sp) (hr:Room k X.A) (hg:Gl X x) (hm:X.mg x=some (.ref f)) (hk:PySem.W.keepIn X.K (.ref f)=true) (hb:Binds X.K fd ps ds) (hd:Vals dvs ds) (hx:Passes CX X E)
  (ha:PA X (e :: es) t) (hdb:(x == ("__debug__":Str))=false:=by decide) (he:starEach (e :: es) X.env=(false,eval e X.env) :: starEach es X.env:=by rfl) (hpl:(backTo pos (starEach es X.env)).any (·.1)=false:=by rfl) :
  PE X (.Call (.Name x p) (e :: es) [] pos) (tCall sp dvs E t):=by
 intro pins s σ H Q I h
 refine wpAny_Call_Name_kw (Zjk I hg hm ?_ hdb)
 refine PySem.W.callWith_K (h₀:=X.base) I.ok.mod.kin hk (thn (ha pos pins s σ H _ I h) fun us s1 ⟨vs,H1,I1,r,q⟩=>⟨I1.kIn,?_⟩) he hpl
 exact Zph F hr hb hd hx I1 r q
end
section
variable {X:Cx} {CX:CXT} {k:Nat} {f C:Addr} {fd:FuncData} {ps ks:List Str} {sp:Sp} {E:XK} {x m:Str} {p pos apos kpos:Pos} {e o:Expr} {es:List Expr} {kws:List Keyword} {te ta:TE} {t tk:TA} {nm:Option Str}
variable {g:List Value->List Value->List Value} {gV:List V->List V->List V}
end
structure FnScope (N P:List Str) (sc:Scope):Prop where
 kind:sc.kind=.function
 co:sc.isCoroutine=false
 gen:sc.isGenerator=false
 nd:N.Nodup
 pre:N.take P.length=P
 par:∀ x ∈ P,sc.names.lookup x=some .local\/sc.names.lookup x=some .cell
 nofree:∀ y ∈ sc.names,y.2 ≠ .free
theorem Zgg {kindOf:Str->Option NameKind} {x:Str}:∀ {binds:List (Str × Value)} {m:Str->Option Value},(∀ v,(x,v) ∉ binds)->bindL kindOf binds m x=m x
 | [],_,_=>rfl
 | (n,v) :: r,m,h=>by
  unfold bindL
  rw [Zgg fun w hw=>h w (List.mem_cons_of_mem _ hw)]
  split
  ·have:x ≠ n:=by rintro rfl; exact h v List.mem_cons_self
   simp [this]
  ·rfl
theorem Zgy {kindOf:Str->Option NameKind} {x:Str}:∀ {binds:List (Str × Value)} {m:Str->Option Value},(∀ v,(x,v) ∉ binds)->bindC kindOf binds m x=m x
 | [],_,_=>rfl
 | (n,v) :: r,m,h=>by
  unfold bindC
  rw [Zgy fun w hw=>h w (List.mem_cons_of_mem _ hw)]
  split
  ·rfl
  ·have:x ≠ n:=by rintro rfl; exact h v List.mem_cons_self
   simp [this]
theorem Zgn {kindOf:Str->Option NameKind} {x:Str} {v:Value}:∀ {P:List Str} {vs:List Value} {i:Nat} {m:Str->Option Value},P.Nodup->P[i]? = some x->vs[i]? = some v->kindOf x=some .local →
  bindL kindOf (P.zip vs) m x=some v
 | [],_,_,_,_,h,_,_=>by simp at h
 | _ :: _,[],_,_,_,_,h,_=>by simp at h
 | p :: P,w :: vs,0,m,nd,h1,h2,hk=>by
  simp at h1 h2; subst h1; subst h2
  show bindL kindOf ((p,w) :: P.zip vs) m p=_
  unfold bindL
  rw [Zgg fun v hv=>(List.nodup_cons.mp nd).1 (List.of_mem_zip hv).1,if_pos hk]
  simp
 | p :: P,w :: vs,i + 1,m,nd,h1,h2,hk=>by
  show bindL kindOf ((p,w) :: P.zip vs) m x=_
  unfold bindL
  exact Zgn (i:=i) (List.nodup_cons.mp nd).2 (by simpa using h1) (by simpa using h2) hk
theorem Zgm {kindOf:Str->Option NameKind} {x:Str} {v:Value}:∀ {P:List Str} {vs:List Value} {i:Nat} {m:Str->Option Value},P.Nodup->P[i]? = some x->vs[i]? = some v->kindOf x ≠ some .local →
  bindC kindOf (P.zip vs) m x=some v
 | [],_,_,_,_,h,_,_=>by simp at h
 | _ :: _,[],_,_,_,_,h,_=>by simp at h
 | p :: P,w :: vs,0,m,nd,h1,h2,hk=>by
  simp at h1 h2; subst h1; subst h2
  show bindC kindOf ((p,w) :: P.zip vs) m p=_
  unfold bindC
  rw [Zgy fun v hv=>(List.nodup_cons.mp nd).1 (List.of_mem_zip hv).1,if_neg hk]
  simp
 | p :: P,w :: vs,i + 1,m,nd,h1,h2,hk=>by
  show bindC kindOf ((p,w) :: P.zip vs) m x=_
  unfold bindC
  exact Zgm (i:=i) (List.nodup_cons.mp nd).2 (by simpa using h1) (by simpa using h2) hk
def start (N:List Str) (vs:List V):St:=vs.map some ++ List.replicate (N.length - vs.length) none
def cxOf (CX:CXT) (P:Program) (w:World) (K:PySem.W.Frag) (mg:Str->Option Value) (base:Heap) (N:List Str) (qual:Str) (scope:Scope) (f:Addr) (cd:Value) (A:Around) (outer:List Env) (s:Shared) (H:Hp) (E:XK):Cx where
 prog:=P
 w:=w
 K:=K
 mg:=mg
 base:=base
 A:=A.deeper (envOfC qual scope s.heap.objs.size f cd)
 N:=N
 s₀:=s
 H₀:=H
 env:=envOfC qual scope s.heap.objs.size f cd
 outer:=outer
 stack:=envOfC qual scope s.heap.objs.size f cd :: outer
 ex:=[]
 calm:=true
 fn:=fun _=>true
 pn:=[]
 xe:=fun e s'=>wpAny (model P w) (A.deeper (envOfC qual scope s.heap.objs.size f cd)) (leaving (envOfC qual scope s.heap.objs.size f cd) e) (fun _ s''=>CX outer H s E e s'') (fun e' s''=>CX outer H s E e' s'') s'
theorem Zij {sc:Scope} {n:Nat} {x:Str} (h:sc.names.lookup x=some .cell):∃ c,(cellsFrom n sc.names []).lookup x=some c:=by
 have q:=PySem.W.cellsFrom_some sc.names n [] (.inl h)
 exact Option.isSome_iff_exists.mp q
theorem Zji {CX:CXT} {P:Program} {w:World} {K:PySem.W.Frag} {mg:Str->Option Value} {base:Heap} {N ps:List Str} {qual:Str} {scope:Scope} {f:Addr} {cd:Value} {A:Around} {outer:List Env} {s s1:Shared} {H:Hp} {E:XK} {us:List Value} {vs:List V}
  (S:FnScope N ps scope) (hd:A.handled=none) (e0:Env0 P w K mg base A outer s H) (hl:vs.length=ps.length) (r:Vals vs us)
  (x:InCallC s s.heap.objs.size (bindL (envOfC qual scope s.heap.objs.size f cd).kindOf (ps.zip us) fun _=>none) (cellsFrom (s.heap.objs.size + 1) scope.names []) (bindC (envOfC qual scope s.heap.objs.size f cd).kindOf (ps.zip us) fun _=>none) s1) :
  Inv (cxOf CX P w K mg base N qual scope f cd A outer s H E) [] (start N vs) H s1:=by
 have hpl:ps.length<=N.length:=by have:=congrArg List.length S.pre; rw [List.length_take] at this; omega
 obtain ⟨h1,tk,rfl,hk⟩:=x.done
 have noA:∀ b:Addr,b ∉ (cxOf CX P w K mg base N qual scope f cd A outer s H E).ex:=fun b z=>absurd (show b ∈ ([]:List Addr) from z) (by simp)
 refine ⟨⟨e0.mod,S.kind,rfl,rfl,Nat.le_refl _,fun y z c h1 h2=>?_,fun y hy=>?_,fun y c _ h=>?_,fun _=>hd,Around.frames_deeper e0.frames,.inr ⟨rfl,rfl⟩,fun b z=>absurd z (noA b),e0.bs,e0.bsz,fun b _ _=>noA b,fun b z=>absurd z (noA b),e0.funs,e0.frf⟩,
  rfl,e0.bare,Un.kept hk,⟨_,x.toInCall.ns,fun i y v h1 h2 h3=>?_⟩,fun y c h=>⟨_,x.cell y c h⟩,e0.hok.fresh (Nat.le_refl _),fun y c h=>?_,fun p hp=>absurd (show p ∈ ([]:List (Addr × Obj)) from hp) (by simp),e0.hok.kept hk,?_⟩
 ·exact name_of_addr x.apart (PySem.mem_of_lookup h1) (PySem.mem_of_lookup h2)
 ·have hy:scope.names.lookup y=some .cell\/scope.names.lookup y=some .free:=hy
  rcases hy with hy | hy
  ·exact Zij hy
  ·exact absurd rfl (S.nofree _ (PySem.mem_of_lookup hy))
 ·exact Nat.le_of_lt (x.above y c (PySem.mem_of_lookup h))
 ·have hi:i < vs.length:=by
   unfold start at h2
   by_cases hi:i < vs.length
   ·exact hi
   ·rw [List.getElem?_append_right (by simpa using hi)] at h2
    rw [List.getElem?_replicate] at h2
    split at h2 <;> cases h2
  have ha:vs[i]? = some v:=by
   unfold start at h2
   rw [List.getElem?_append_left (by simpa using hi),List.getElem?_map] at h2
   cases e:vs[i]? with
   | none=>rw [e] at h2; cases h2
   | some a=>rw [e] at h2; cases h2; rfl
  obtain ⟨u,hu,rv⟩:=r.get ha
  have hp:ps[i]? = some y:=by
   rw [<- S.pre,List.getElem?_take_of_lt (by omega)]; exact h1
  have ndP:ps.Nodup:=by rw [<- S.pre]; exact S.nd.sublist (List.take_sublist _ _)
  refine ⟨u,rv,?_⟩
  rcases S.par y (List.mem_of_getElem? hp) with k | k
  ·exact .inl ⟨k,Zgn ndP hp hu k⟩
  ·obtain ⟨c,e⟩:=Zij (n:=s.heap.objs.size + 1) k
   refine .inr ⟨.inl k,c,e,?_⟩
   have q:=x.cell y c e
   rw [Zgm ndP hp hu (by show scope.names.lookup y ≠ _; rw [k]; decide)] at q
   exact q
 ·exact e0.hok.fresh (Nat.le_of_lt (x.above y c (PySem.mem_of_lookup h)))
 ·unfold start
  show _=N.length
  rw [List.length_append,List.length_map,List.length_replicate]
  omega
theorem Zqp {CX:CXT} {P:Program} {w:World} {K:PySem.W.Frag} {mg:Str->Option Value} {base:Heap} {k:Nat} {f:Addr} {name qual:Str} {params:Arguments} {body:List Stmt} {scope:Scope} {dV kV doc pm cdv ct oc:Value} {an od:Option Addr}
  {osl:Array (Option Value)} {N ps:List Str} {sp:Sp} (lk:K.lookup f=some ⟨oc,od,.func (PySem.W.fnOf name qual params body scope dV kV doc pm an cdv ct),osl⟩) (hcd:PySem.W.codeIn K cdv qual=true) (S:FnScope N ps scope)
  (len:∀ vs H Q E,sp vs H Q E->vs.length=ps.length)
  (hbody:∀ (A:Around) (outer:List Env) (s:Shared) (H:Hp) (vs:List V) (Q:VK) (E:XK),Room k (A.deeper (envOfC qual scope s.heap.objs.size f cdv))->sp vs H Q E →
   ∃ t,PSs (cxOf CX P w K mg base N qual scope f cdv A outer s H E) body t/\t { nx:=fun _ H'=>Q .non H',rt:=Q } (start N vs) H) :
  FnOk P w K mg base CX (k + 1) f (PySem.W.fnOf name qual params body scope dV kV doc pm an cdv ct) ps sp:=by
 refine ⟨len,fun A outer s H args us vs Q E hr e0 hb r hsp=>?_⟩
 have hl:=len _ _ _ _ hsp
 have KX:K.In s.heap:=e0.mod.kin.keeps fun b o e=>(e0.bs b o e).1
 have lim:s.heap.NoLimit:=e0.mod.nolimit.keeps fun b o e=>(e0.bs b o e).1
 have hkind:∀ y ∈ ps.zip us,scope.names.lookup y.1=some .local\/(scope.names.lookup y.1=some .cell/\((cellsFrom (s.heap.objs.size + 1) scope.names []).lookup y.1).isSome=true):=fun ⟨n,v⟩ hy=>by
  rcases S.par n (List.of_mem_zip hy).1 with q | q
  ·exact .inl q
  ·exact .inr ⟨q,PySem.W.cellsFrom_some _ _ _ (.inl q)⟩
 refine codeAny_call_function hr.depth (KX _ _ lk) rfl S.co S.gen rfl (PySem.W.codeRec_of KX hcd) (hb _ _ _ _ ?_)
 refine wpAny_newFunctionEnv_cells S.kind hkind fun env he s1 x=>?_
 subst he
 refine ⟨lim.keeps x.toInCall.keep,codeAny_func ?_⟩
 obtain ⟨t,ht,hq⟩:=hbody A outer s H vs Q E (hr.deeper _) hsp
 have I:Inv (cxOf CX P w K mg base N qual scope f cdv A outer s H E) [] (start N vs) H s1:=Zji S hr.hd e0 hl r x
 refine wpAny_mono (ht [] s1 (start N vs) H _ I hq) (fun fl s' hs=>?_) fun e s' hs=>hs
 have fin:∀ {σ':St} {H':Hp} {v:V} {u:Value},Inv (cxOf CX P w K mg base N qual scope f cdv A outer s H E) [] σ' H' s' -> RelV v u->Q v H' -> CE outer P w H s Q u s':=
  fun {σ' H' v u} J rv q=>⟨v,H',J.os,J.bare,J.base,J.hok,rv,q⟩
 cases fl with
 | ret u=>
  obtain ⟨v,σ',H',J,rv,q⟩:=hs
  exact fin J rv q
 | next=>
  obtain ⟨σ',H',J,q⟩:=hs
  exact fin (v:=V.non) (u:=Value.none) J rfl q
 | brk=>
  obtain ⟨_,_,_,q⟩:=hs
  exact False.elim q
 | cont=>
  obtain ⟨_,_,_,q⟩:=hs
  exact False.elim q
end L2
namespace L2
open PySem PySem.Spec PyProof.Rows
section
variable {X:Cx} {x:Str} {p pos:Pos} {e:Expr} {es:List Expr} {t:TA} {id T:String} {r:List V->Hp->VK->Prop}
def tCB (r:List V->Hp->VK->Prop) (t:TA):TE:=fun σ H Q=>t σ H fun vs H1=>r vs H1 Q
theorem Zai (hc:CallR X (.builtin id) r) (hg:Gl X x) (hm:X.mg x=none) (hv:bootBuiltins x=some (.builtin id)) (ha:PA X (e :: es) t) (hn:x ≠ "__name__":=by decide) (hdb:(x == ("__debug__":Str))=false:=by decide)
  (he:starEach (e :: es) X.env=(false,eval e X.env) :: starEach es X.env:=by rfl) (hpl:(backTo pos (starEach es X.env)).any (·.1)=false:=by rfl):PE X (.Call (.Name x p) (e :: es) [] pos) (tCB r t):=by
 intro pins s σ H Q I h
 refine wpAny_Call_Name_kw (Zff I hg hm hv ?_ hn hdb)
 exact PyProof.Rows.callWith_builtin1 (thn (ha pos pins s σ H _ I h) fun us s1 ⟨vs,H1,I1,r1,q1⟩=>hc pins s1 σ H1 vs us Q I1 r1 q1) he hpl
theorem Za6 (hc:CallR X (.type T) r) (hg:Gl X x) (hm:X.mg x=none) (hv:bootBuiltins x=some (.type T)) (ha:PA X (e :: es) t) (hn:x ≠ "__name__":=by decide) (hdb:(x == ("__debug__":Str))=false:=by decide)
  (he:starEach (e :: es) X.env=(false,eval e X.env) :: starEach es X.env:=by rfl) (hpl:(backTo pos (starEach es X.env)).any (·.1)=false:=by rfl):PE X (.Call (.Name x p) (e :: es) [] pos) (tCB r t):=by
 intro pins s σ H Q I h
 refine wpAny_Call_Name_kw (Zff I hg hm hv ?_ hn hdb)
 exact PyProof.Rows.callWith_type1 (thn (ha pos pins s σ H _ I h) fun us s1 ⟨vs,H1,I1,r1,q1⟩=>hc pins s1 σ H1 vs us Q I1 r1 q1) he hpl
end
end L2
namespace HT
open PySem PyProof.Rows
section
open PySem.SeqAt
open PySem.AutoSeq1 (wpAny_loadPart')
open PySem.MeetsSeq PySem.MeetsSeq2 PySem.MeetsSeq3
end
section
variable {prog:Program} {w:World} {A:Around} {E:Value->Shared->Prop} {s:Shared}
theorem cat_tup {t b:Addr} {vs ws:List Value} {Q:Value->Shared->Prop} (ht:IsTup s.heap t vs.toArray) (hb:IsTup s.heap b ws.toArray) (hv:vs ≠ [])
  (h1:ws=[]->Q (.ref t) s) (h2:ws ≠ []->Q (.ref s.heap.objs.size) { s with heap:=s.heap.push { cls:=.type "tuple",data:=.seq (vs ++ ws).toArray } })
  (hsz:vs.length + ws.length<=sizeLine):wpAny (model prog w) A (binaryOp .Add (.ref t) (.ref b)) Q E s:=by
 obtain ⟨⟨cls,dd,data,sl⟩,ho,hc,n,hd⟩:=id ht
 obtain ⟨⟨cls2,dd2,data2,sl2⟩,ho2,hc2,n2,hd2⟩:=id hb
 simp only at hc hd hc2 hd2
 subst hc hd hc2 hd2
 have e:vs.toArray ++ ws.toArray=(vs ++ ws).toArray:=by simp
 by_cases hw:ws=[]
 ·exact concat_meets ⟨_,ho,rfl⟩ ⟨_,ho2,rfl⟩ noFill_tuple_add seq_tuple_add PySem.F.slot_tuple_add PySem.F.entry_tuple_add (PySem.F.args_tuple_add_2 _ _)
   (tuple_addW1 t b vs.toArray ws.toArray n n2 dd dd2 sl sl2 (by simpa using hv) (by simp [hw])) ⟨ho,ho2,h1 hw⟩
 ·refine concat_meets ⟨_,ho,rfl⟩ ⟨_,ho2,rfl⟩ noFill_tuple_add seq_tuple_add PySem.F.slot_tuple_add PySem.F.entry_tuple_add (PySem.F.args_tuple_add_2 _ _)
   (tuple_addW2 t b vs.toArray ws.toArray n n2 dd dd2 sl sl2 (by simpa using hv) (by simpa using hw) (by rw [List.size_toArray,List.size_toArray]; exact hsz)) ⟨ho,ho2,?_⟩
  rw [e]
  exact h2 hw
def sIx (n d:Nat):Option Int->Nat
 | none=>d
 | some v=>if v < 0 then (v + (n:Int)).toNat else min v.toNat n
theorem sIx_none (n d:Nat):sIx n d none=d:=rfl
theorem sIx_nat (n d k:Nat):sIx n d (some (k:Int))=min k n:=by
 show (if (k:Int) < 0 then ((k:Int) + (n:Int)).toNat else min (k:Int).toNat n)=min k n
 rw [if_neg (by omega),Int.toNat_natCast]
theorem Zp1 (n d:Nat) (hd:d<=n) (o:Option Int):sIx n d o<=n:=by
 cases o with
 | none=>exact hd
 | some v=>
  show (if v < 0 then (v + (n:Int)).toNat else min v.toNat n)<=n
  by_cases hv:v < 0
  ·rw [if_pos hv]; omega
  ·rw [if_neg hv]; exact Nat.min_le_right _ _
theorem Zi9 (v:Int) (n d:Nat):(if v < 0 then max (v + (n:Int)) 0 else min v (n:Int))=((sIx n d (some v):Nat):Int):=by
 show (if v < 0 then max (v + (n:Int)) 0 else min v (n:Int))=(((if v < 0 then (v + (n:Int)).toNat else min v.toNat n):Nat):Int)
 by_cases hv:v < 0
 ·simp only [if_pos hv]; omega
 ·simp only [if_neg hv]; omega
theorem Zin (lo hi:Option Int) (n:Nat):Builtin.Slice.sliceAdjust lo hi 1 (n:Int)=(((sIx n 0 lo:Nat):Int),((sIx n n hi:Nat):Int)):=by
 have h1:¬ ((1:Int) < 0):=by omega
 unfold Builtin.Slice.sliceAdjust
 simp only [h1,if_false]
 refine Prod.ext ?_ ?_
 ·cases lo with
  | none=>rfl
  | some v=>exact Zi9 v n 0
 ·cases hi with
  | none=>rfl
  | some v=>exact Zi9 v n n
theorem Zip (i j:Nat):Builtin.Slice.slicePlaces (i:Int) (j:Int) 1=j - i:=by
 unfold Builtin.Slice.slicePlaces
 have h1:(1:Int) > 0:=by omega
 simp only [h1,if_true,Int.ediv_one]
 split <;> omega
theorem Zfa {v:Value} {o:Option Int} {Q:Option Int->Shared->Prop} (p:IsPart v o) (h:Q o s):wpAny (model prog w) A (Builtin.Slice.slicePartIndex v) Q E s:=by
 cases p with
 | none=>exact slicePart_none h
 | int i t=>exact slicePart_int h
theorem Zda {sl:Addr} {vl vu:Value} {lo hi:Option Int} {n:Nat} {Q:Int × Int × Nat->Shared->Prop} (hs:s.heap.IsSliceOf sl vl vu .none) (pl:IsPart vl lo) (pu:IsPart vu hi)
  (h:Q (((sIx n 0 lo:Nat):Int),1,sIx n n hi - sIx n 0 lo) s):wpAny (model prog w) A (Builtin.Slice.sliceApplied (.ref sl) (pure (n:Int))) Q E s:=by
 obtain ⟨os,hos,hcs,hds⟩:=id hs
 unfold Builtin.Slice.sliceApplied Builtin.Slice.sliceFields
 refine wpAny_bind (wpAny_bind (wpAny_field hos hds (x:=vl) rfl (wpAny_bind (wpAny_field hos hds (x:=vu) rfl (wpAny_bind (wpAny_field hos hds (x:=.none) rfl (wpAny_pure ?_)))))))
 refine wpAny_bind (slicePart_none ?_)
 show wpAny _ _ (if ((1:Int) == 0)=true then _ else _) _ _ s
 rw [if_neg (by decide)]
 refine wpAny_bind (Zfa pl (wpAny_bind (Zfa pu (wpAny_bind (wpAny_pure ?_)))))
 show wpAny _ _ (match Builtin.Slice.sliceAdjust lo hi 1 (n:Int) with | (lo,hi)=>pure (lo,(1:Int),Builtin.Slice.slicePlaces lo hi 1)) _ _ s
 rw [Zin lo hi n]
 show wpAny _ _ (pure (((sIx n 0 lo:Nat):Int),(1:Int),Builtin.Slice.slicePlaces ((sIx n 0 lo:Nat):Int) ((sIx n n hi:Nat):Int) 1)) _ _ s
 rw [Zip]
 exact wpAny_pure h
theorem Zk2 (xs:Array Value) (i k:Nat):((List.range k).filterMap fun (m:Nat)=>xs[((i:Int) + (m:Int) * 1).toNat]?).toArray=((xs.toList.drop i).take k).toArray:=by
 have e:(fun (m:Nat)=>xs[((i:Int) + (m:Int) * 1).toNat]?)=fun m=>xs[i + m]?:=by
  funext m
  have:((i:Int) + (m:Int) * 1).toNat=i + m:=by omega
  rw [this]
 rw [e]
 have:=pick_run xs i k
 rw [List.filterMap_map] at this
 have e2:((fun x=>xs[x]?) ∘ fun x=>i + x)=fun m=>xs[i + m]?:=rfl
 rw [e2] at this
 rw [this]
theorem getItem_tuple_cut {t sl:Addr} {items:Array Value} {vl vu:Value} {lo hi:Option Int} {Q:Value->Shared->Prop} (ht:IsTup s.heap t items) (hs:s.heap.IsSliceOf sl vl vu .none) (pl:IsPart vl lo) (pu:IsPart vu hi)
  (hw:¬ (sIx items.size 0 lo=0/\sIx items.size items.size hi=items.size))
  (h:Q (.ref s.heap.objs.size) { s with heap:=s.heap.push { cls:=.type "tuple",data:=.seq ((items.toList.drop (sIx items.size 0 lo)).take (sIx items.size items.size hi - sIx items.size 0 lo)).toArray } })
  (hsz:items.size<=sizeLine):wpAny (model prog w) A (getItem (.ref t) (.ref sl)) Q E s:=by
 have htake:sizeOk (.seq ((items.toList.drop (sIx items.size 0 lo)).take (sIx items.size items.size hi - sIx items.size 0 lo)).toArray):=by
  show ((items.toList.drop (sIx items.size 0 lo)).take (sIx items.size items.size hi - sIx items.size 0 lo)).toArray.size<=sizeLine
  rw [List.size_toArray,List.length_take,List.length_drop,Array.length_toList]
  omega
 have hj:sIx items.size items.size hi<=items.size:=Zp1 _ _ (Nat.le_refl _) hi
 obtain ⟨os,hos,hcs,hds⟩:=id hs
 have hTs:s.TypeIs (.ref sl) "slice":=⟨os,hos,hcs⟩
 unfold getItem
 try with_reducible refine wpAny_holding ?_
 first | refine wpAny_bind (wpAny_pure ?_) | skip
 refine wpAny_bind (wpAny_sequenceKey ht.typeIs (by decide) ?_)
 refine wpAny_bind (wpAny_callSpecial?_slot (name:=Str.ofString "__getitem__") ht.typeIs PyProof.Rows.slot_tuple_getitem
  (wpAny_call_entry PyProof.Rows.slot_tuple_getitem ht.typeIs entry_tuple_getitem ?_ (args_tuple_getitem _ _)))
 show wpAny _ _ (Builtin.Tuple.tupleItemsOf (.ref t) >>= _) _ _ s
 refine wpAny_bind (tupleItemsOf_ ht ?_)
 refine wpAny_bind (wpAny_typeOf hTs ?_)
 rw [if_pos (by decide)]
 refine wpAny_bind (Zda hs pl pu ?_)
 have hno:¬ ((((sIx items.size 0 lo:Nat):Int) == 0 && (1:Int) == 1 && (sIx items.size items.size hi - sIx items.size 0 lo) == items.size)=true):=by
  intro q
  rw [Bool.and_eq_true,Bool.and_eq_true] at q
  have q1:((sIx items.size 0 lo:Nat):Int)=0:=eq_of_beq q.1.1
  have q2:sIx items.size items.size hi - sIx items.size 0 lo=items.size:=eq_of_beq q.2
  exact hw ⟨by omega,by omega⟩
 show wpAny _ _ (if (((sIx items.size 0 lo:Nat):Int) == 0 && (1:Int) == 1 && (sIx items.size items.size hi - sIx items.size 0 lo) == items.size)=true then _ else _) _ _ s
 rw [if_neg hno,Zk2]
 first
  | exact wpAny_bind (m:=Builtin.Tuple.tupleExact _) (wpAny_newObj_type (wpAny_pure ⟨_,rfl,wpAny_pure h⟩) htake)
  | exact wpAny_bind (m:=Builtin.Tuple.tupleExact _) (wpAny_newObj_type (wpAny_bind (wpAny_pure (wpAny_pure ⟨_,rfl,wpAny_pure h⟩))) htake)
  | exact wpAny_bind (wpAny_bind (m:=Builtin.Tuple.tupleExact _) (wpAny_newObj_type (wpAny_pure (wpAny_pure ⟨_,rfl,wpAny_pure h⟩)) htake))
  | exact wpAny_bind (wpAny_bind (m:=Builtin.Tuple.tupleExact _) (wpAny_newObj_type (wpAny_pure ⟨_,rfl,wpAny_pure h⟩) htake))
end
end HT
namespace L2
open PySem PySem.Spec PyProof.Rows
abbrev TO:=St->Hp->(Option Int->Hp->Prop)->Prop
def PO (X:Cx) (e:Option Expr) (t:TO):Prop:=
 ∀ (pins:List (Addr × Obj)) (s:Shared) (σ:St) (H:Hp) (Q:Option Int->Hp->Prop),Inv X pins σ H s->t σ H Q →
  wpAny (model X.prog X.w) X.A (evalPart e X.env) (fun u s'=>∃ o H',Inv X pins σ H' s' /\ IsPart u o/\Q o H') X.xe s
def tNoPart:TO:=fun _ H Q=>Q none H
def tPart (t:TE):TO:=fun σ H Q=>t σ H fun x H1=>∃ i,x=.int i/\Q (some i) H1
theorem Zir {ns:List Int}:∀ {us:List Value},Vals (ns.map V.int) us->IntsAre us ns:=by
 induction ns with
 | nil=>intro us r; rw [List.map_nil] at r; cases r; exact .nil
 | cons n ns ih=>
  intro us r
  rw [List.map_cons] at r
  cases r with
  | cons r1 r2=>
   obtain ⟨t,e⟩:=r1
   subst e
   exact .cons n t (ih r2)
section
variable {X:Cx} {e:Expr} {te:TE} {lo hi:Option Expr} {tl th:TO} {pos p2:Pos}
theorem Zbx:PO X none tNoPart:=by
 intro pins s σ H Q I h
 rw [evalPart_none]
 exact wpAny_pure ⟨none,H,I,.none,h⟩
theorem Zbs (h:PE X e te):PO X (some e) (tPart te):=by
 intro pins s σ H Q I hw
 rw [evalPart_some]
 refine thn (h pins s σ H _ I hw) fun u s1 ⟨x,H1,I1,r1,q1⟩=>?_
 obtain ⟨i,rfl,q⟩:=q1
 obtain ⟨t,rfl⟩:=r1
 exact ⟨some i,H1,I1,.int i t,q⟩
def SlR (X:Cx) (r:V->Option Int->Option Int->Hp->VK->Prop):Prop:=
 ∀ (pins:List (Addr × Obj)) (s:Shared) (σ:St) (H:Hp) (x:V) (v vl vu:Value) (lo hi:Option Int) (sl:Addr) (Q:VK),Inv X pins σ H s->RelV x v->s.heap.IsSliceOf sl vl vu .none->IsPart vl lo->IsPart vu hi->r x lo hi H Q →
  ∃ T id,typeLookup (.type T) "__getitem__" = pure (some (.builtin id))/\s.TypeIs v T/\wpAny (model X.prog X.w) X.A (getItem v (.ref sl)) (EP X pins σ Q) X.xe s
theorem SlR.or {r r':V->Option Int->Option Int->Hp->VK->Prop} (h:SlR X r) (h':SlR X r'):SlR X (fun x lo hi H Q=>r x lo hi H Q\/r' x lo hi H Q):=by
 intro pins s σ H x v vl vu lo hi sl Q I rx hs pl pu q
 rcases q with q | q
 ·exact h pins s σ H x v vl vu lo hi sl Q I rx hs pl pu q
 ·exact h' pins s σ H x v vl vu lo hi sl Q I rx hs pl pu q
def tSl (r:V->Option Int->Option Int->Hp->VK->Prop) (te:TE) (tl th:TO):TE:=fun σ H Q=>te σ H fun x H1=>tl σ H1 fun l H2=>th σ H2 fun u H3=>r x l u H3 Q
theorem Zbg {r:V->Option Int->Option Int->Hp->VK->Prop} (hr:SlR X r) (he:PE X e te) (hl:PO X lo tl) (hu:PO X hi th):PE X (.Subscript e (.Slice lo hi none p2) pos) (tSl r te tl th):=by
 intro pins s σ H Q I h
 refine Subscript_ (thn (he pins s σ H _ I h) fun v s1 ⟨x,H1,I1,r1,q1⟩=>?_)
 refine wpAny_Slice (thn (hl pins s1 σ H1 _ I1 q1) fun vl s2 ⟨l,H2,I2,pl,q2⟩=>thn (hu pins s2 σ H2 _ I2 q2) fun vu s3 ⟨u,H3,I3,pu,q3⟩=>?_)
 rw [evalPart_none]
 refine wpAny_pure ?_
 have I4:Inv X pins σ H3 { s3 with heap:=s3.heap.push { cls:=.type "slice",data:=.fields #[vl,vu,.none] } }:=I3.kept (t':=s3.toks) fun b ob q=>Heap.get?_push_of_some _ q
 obtain ⟨T,id,hT,ht,hg⟩:=hr pins { s3 with heap:=s3.heap.push { cls:=.type "slice",data:=.fields #[vl,vu,.none] } } σ H3 x v vl vu l u s3.heap.objs.size Q I4 r1 (Heap.IsSliceOf.new ..) pl pu q3
 show wpAny (model X.prog X.w) X.A (subscriptTail e (.Slice lo hi none p2) v (.ref s3.heap.objs.size)) (EP X pins σ Q) X.xe { s3 with heap:=s3.heap.push { cls:=.type "slice",data:=.fields #[vl,vu,.none] } }
 exact tail_any (ops:=[.ref s3.heap.objs.size,v]) ht hT hg (by with_unfolding_all rfl)
def cutV (xs:List V) (lo hi:Option Int):List V:=(xs.drop (HT.sIx xs.length 0 lo)).take (HT.sIx xs.length xs.length hi - HT.sIx xs.length 0 lo)
theorem Ze3 (xs:List V) (lo hi:Option Int):(cutV xs lo hi).length<=xs.length:=by
 unfold cutV
 rw [List.length_take,List.length_drop]
 omega
def rSlT (K:PySem.W.Frag):V->Option Int->Option Int->Hp->VK->Prop:=fun x lo hi H Q=>∃ a xs,x=.ref a/\SqT K H a xs ∧
 ¬ (HT.sIx xs.length 0 lo=0/\HT.sIx xs.length xs.length hi=xs.length)/\∀ p,H p=none->Q (.ref p) (upd H p (.tup (cutV xs lo hi)))
theorem Zpm:SlR X (rSlT X.K):=by
 intro pins s σ H x v vl vu lo hi sl Q I rx hs pl pu h
 obtain ⟨a,xs,rfl,hx,hw,q⟩:=h
 cases rx
 obtain ⟨its,r,ht,hz⟩:=I.tuple hx
 have hlen:its.toArray.size=xs.length:=by rw [List.size_toArray]; exact r.length.symm
 refine ⟨"tuple",_,PyProof.Rows.slot_tuple_getitem.lookup,ht.typeIs,?_⟩
 refine HT.getItem_tuple_cut ht hs pl pu (by rw [hlen]; exact hw) ?_ (by rw [hlen]; exact hz)
 rw [hlen]
 refine ⟨.ref s.heap.objs.size,_,I.laid (t':=s.toks) (o:=.tup (cutV xs lo hi)) (fun b ob q=>Heap.get?_push_of_some _ q) (Nat.le_refl _) ?_,rfl,q _ (I.hok.fresh (Nat.le_refl _))⟩
 exact ⟨Nat.le_trans (Ze3 xs lo hi) hz,_,(r.drop (HT.sIx xs.length 0 lo)).take (HT.sIx xs.length xs.length hi - HT.sIx xs.length 0 lo),IsTupN.new _ _⟩
def rCatT (K:PySem.W.Frag):R2:=fun x y H Q=>∃ a b xs ys,x=.ref a/\y=.ref b/\SqT K H a xs/\SqT K H b ys/\xs ≠ []/\xs.length + ys.length<=sizeLine ∧
 (ys=[]->Q (.ref a) H)/\(ys ≠ []->∀ p,H p=none->Q (.ref p) (upd H p (.tup (xs ++ ys))))
theorem Vals.nil_iff {xs:List V} {us:List Value} (r:Vals xs us):us=[] ↔ xs=[]:=by
 cases r with
 | nil=>simp
 | cons _ _=>simp
theorem Zmv:OpR X (binaryOp .Add) (rCatT X.K):=by
 intro pins s σ H x y v u Q I rx ry h
 obtain ⟨a,b,xs,ys,rfl,rfl,ha,hb,hx,hz,q1,q2⟩:=h
 cases rx
 cases ry
 obtain ⟨its,r1,p1,_⟩:=I.tuple ha
 obtain ⟨its2,r2,p2,_⟩:=I.tuple hb
 refine HT.cat_tup p1 p2 (fun z=>hx (r1.nil_iff.mp z)) (fun z=>⟨.ref a,H,I,rfl,q1 (r2.nil_iff.mp z)⟩) (fun z=>?_) (by rw [<- r1.length,<- r2.length]; exact hz)
 refine ⟨.ref s.heap.objs.size,_,I.laid (t':=s.toks) (o:=.tup (xs ++ ys)) (fun b ob q=>Heap.get?_push_of_some _ q) (Nat.le_refl _) ?_,rfl,q2 (fun w=>z (r2.nil_iff.mpr w)) _ (I.hok.fresh (Nat.le_refl _))⟩
 exact ⟨by rw [List.length_append]; exact hz,_,r1.append r2,IsTupN.new _ _⟩
end
end L2
namespace L2
open PySem PySem.Spec PyProof.Rows
def ixN (n:Nat) (i:Int):Option Nat:=if 0<=i then (if i < n then some i.toNat else none) else if -(n:Int)<=i then some (i + n).toNat else none
def atI {α:Type} (xs:List α) (i:Int):Option α:=(ixN xs.length i).bind fun j=>xs[j]?
theorem Zj4 {n:Nat} {i:Int} {j:Nat} (h:ixN n i=some j):seqIndex? i n=some j/\j < n /\ -(n:Int)<=i/\i < n:=by
 unfold ixN at h
 by_cases h0:0<=i
 ·rw [if_pos h0] at h
  by_cases h1:i < n
  ·rw [if_pos h1] at h
   have e:i.toNat=j:=Option.some.inj h
   exact ⟨by rw [seqIndex_of h0 h1,e],by omega,by omega,h1⟩
  ·rw [if_neg h1] at h; cases h
 ·rw [if_neg h0] at h
  by_cases h1:-(n:Int)<=i
  ·rw [if_pos h1] at h
   have e:(i + n).toNat=j:=Option.some.inj h
   exact ⟨by rw [seqIndex_neg (by omega) h1,e],by omega,h1,by omega⟩
  ·rw [if_neg h1] at h; cases h
theorem Zht {α:Type} {xs:List α} {i:Int} {v:α} (h:atI xs i=some v):∃ j,seqIndex? i xs.length=some j/\xs[j]? = some v/\j < xs.length /\ -(xs.length:Int)<=i/\i < xs.length:=by
 unfold atI at h
 cases e:ixN xs.length i with
 | none=>rw [e] at h; cases h
 | some j=>
  rw [e] at h
  obtain ⟨h1,h2,h3,h4⟩:=Zj4 e
  exact ⟨j,h1,h,h2,h3,h4⟩
theorem Zbh {α:Type} {xs:List α} {j:Nat} {v:α} (h:xs[j]? = some v):atI xs (j:Int)=some v:=by
 have hj:j < xs.length:=(List.getElem?_eq_some_iff.mp h).1
 have e:ixN xs.length (j:Int)=some j:=by
  unfold ixN
  rw [if_pos (by omega),if_pos (by omega)]; simp
 unfold atI; rw [e]; exact h
theorem Zk3 {α:Type} (xs:List α) (v:α):atI (xs ++ [v]) (-1)=some v:=by
 have hl:(xs ++ [v]).length=xs.length + 1:=by simp
 have e:ixN (xs ++ [v]).length (-1)=some xs.length:=by
  unfold ixN
  rw [hl,if_neg (by decide),if_pos (by omega)]
  congr 1
  omega
 unfold atI
 rw [e]
 show (xs ++ [v])[xs.length]? = some v
 simp
def PlainIx (b:Expr):Prop:=∀ o i,subscripted b false o i=operate [o,i] (getItem o i)
def IxR (X:Cx) (r:R2):Prop:=
 ∀ (value slice:Expr) (pins:List (Addr × Obj)) (s:Shared) (σ:St) (H:Hp) (x y:V) (v u:Value) (Q:VK),Inv X pins σ H s->RelV x v->RelV y u->r x y H Q →
  subscripted slice false v u=operate [v,u] (getItem v u)->wpAny (model X.prog X.w) X.A (subscriptTail value slice v u) (EP X pins σ Q) X.xe s
def MtR (X:Cx) (id:String) (r:V->List V->Hp->VK->Prop):Prop:=
 ∀ (pins:List (Addr × Obj)) (s:Shared) (σ:St) (H:Hp) (x:V) (xs:List V) (v:Value) (us:List Value) (Q:VK),Inv X pins σ H s->RelV x v->Vals xs us->r x xs H Q →
  wpAny (model X.prog X.w) X.A (call (.builtin id) (v :: us)) (EP X pins σ Q) X.xe s
section
variable {X:Cx} {a b:Expr} {ta tb:TE} {pos:Pos}
theorem IxR.or {r r':R2} (h:IxR X r) (h':IxR X r'):IxR X (fun x y H Q=>r x y H Q\/r' x y H Q):=by
 intro value slice pins s σ H x y v u Q I rx ry q hs
 rcases q with q | q
 ·exact h value slice pins s σ H x y v u Q I rx ry q hs
 ·exact h' value slice pins s σ H x y v u Q I rx ry q hs
theorem Zas {r:R2} (hr:IxR X r) (ha:PE X a ta) (hb:PE X b tb) (hs:PlainIx b):PE X (.Subscript a b pos) (tOp r ta tb):=by
 intro pins s σ H Q I h
 exact Subscript_ (binT ha hb I h fun v u s2 x y H2 I2 rx ry q=>hr a b pins s2 σ H2 x y v u Q I2 rx ry q (hs _ _))
def rIxL (K:PySem.W.Frag):R2:=fun x y H Q=>∃ p xs i v,x=.ref p/\y=.int i/\SqL K H p xs/\atI xs i=some v/\Q v H
def rIxT (K:PySem.W.Frag):R2:=fun x y H Q=>∃ p xs i v,x=.ref p/\y=.int i/\SqT K H p xs/\atI xs i=some v/\Q v H
def rIxS:R2:=fun x y H Q=>∃ z i c,x=.str z/\y=.int i/\z.length<=sizeLine/\atI z.cps.toList i=some c/\Q (.str ⟨#[c]⟩) H
theorem Zoh:IxR X (rIxL X.K):=by
 intro value slice pins s σ H x y v u Q I rx ry h hs
 obtain ⟨p,xs,i,z,rfl,rfl,hq,he,q⟩:=h
 cases rx
 obtain ⟨t,rfl⟩:=ry
 obtain ⟨its,r,pl,hz⟩:=I.list hq
 obtain ⟨j,h1,h2,h3,h4,h5⟩:=Zht he
 obtain ⟨w,ew,rw'⟩:=r.get h2
 have hl:=r.length
 have hn:=line63
 have fin:EP X pins σ Q w s:=⟨z,H,I,rw',q⟩
 by_cases h0:0<=i
 ·have hj:i.toNat=j:=by
   rw [seqIndex_of h0 h5] at h1
   exact Option.some.inj h1
  exact item_listR pl.isList h0 (by omega) (by rw [hj]; simpa using ew) fin hs
 ·have hj:(i + (its.toArray.size:Int)).toNat=j:=by
   rw [seqIndex_neg (by omega) h4] at h1
   rw [List.size_toArray,<- hl]
   exact Option.some.inj h1
  exact subscriptTail_builtinR (x:=w) pl.isList.typeIs slot_list_getitem.lookup
   (wpAny_getItem_list_neg (Q:=fun r s'=>r=w/\EP X pins σ Q r s') pl.isList (by omega) (by rw [List.size_toArray] <;> omega) (by omega) (by rw [hj]; simpa using ew) ⟨rfl,fin⟩) hs
theorem Zpy:IxR X (rIxT X.K):=by
 intro value slice pins s σ H x y v u Q I rx ry h hs
 obtain ⟨p,xs,i,z,rfl,rfl,hq,he,q⟩:=h
 cases rx
 obtain ⟨t,rfl⟩:=ry
 obtain ⟨its,r,pl,hz⟩:=I.tuple hq
 obtain ⟨j,h1,h2,h3,h4,h5⟩:=Zht he
 obtain ⟨w,ew,rw'⟩:=r.get h2
 have hl:=r.length
 have hn:=line63
 have fin:EP X pins σ Q w s:=⟨z,H,I,rw',q⟩
 exact subscriptTail_builtinR (x:=w) pl.typeIs slot_tuple_getitem.lookup
  (getItem_tuple (j:=j) (Q:=fun r s'=>r=w/\EP X pins σ Q r s') pl (by omega) (by omega) (by rw [List.size_toArray,<- hl]; exact h1) (by simpa using ew) ⟨rfl,fin⟩) hs
theorem Zqc:IxR X rIxS:=by
 intro value slice pins s σ H x y v u Q I rx ry h hs
 obtain ⟨z,i,c,rfl,rfl,hz,he,q⟩:=h
 obtain ⟨t,rfl⟩:=rx
 obtain ⟨t',rfl⟩:=ry
 obtain ⟨j,h1,h2,h3,h4,h5⟩:=Zht he
 have hl:z.cps.toList.length=z.length:=by simp [Str.length]
 rw [hl] at h1 h4 h5
 have hn:=line63
 exact tail_any (typeIs_str s z t) slot_str_getitem.lookup (getItem_str (c:=c) (by
  have e1:decide (i < -(2 ^ 63:Int))=false:=decide_eq_false (by omega)
  have e2:decide (i ≥ 2 ^ 63)=false:=decide_eq_false (by omega)
  rw [e1,e2,Bool.or_false]) (by rw [h1]; simpa using h2) ⟨.str ⟨#[c]⟩,H,I.tok _,⟨_,rfl⟩,q⟩) hs
def rIx (K:PySem.W.Frag):R2:=fun x y H Q=>rIxL K x y H Q\/rIxT K x y H Q\/rIxS x y H Q
theorem Zos:IxR X (rIx X.K):=Zoh.or (Zpy.or Zqc)
theorem Ziv (its:List Value) (n j:Nat) (u:Value):Obj.mapSeq (·.setIfInBounds j u) { cls:=.type "list",data:=.seq its.toArray n } = { cls:=.type "list",data:=.seq (its.set j u).toArray n }:=by
 simp [Obj.mapSeq]
theorem Inv.lst {pins:List (Addr × Obj)} {σ:St} {H:Hp} {s:Shared} {p:Addr} {xs:List V} (I:Inv X pins σ H s) (h:H p=some (.lst xs)) :
  ∃ (its:List Value) (n:Nat),Vals xs its/\s.heap.get? p=some { cls:=.type "list",data:=.seq its.toArray n } /\ xs.length<=sizeLine:=by
 obtain ⟨z,its,n,r,e⟩:=I.hok p _ h
 exact ⟨its,n,r,e,z⟩
theorem Inv.lstUpd {pins:List (Addr × Obj)} {σ:St} {H:Hp} {s:Shared} {p:Addr} {xs ys:List V} {its its':List Value} {n n':Nat} {f:Obj->Obj} (I:Inv X pins σ H s) (h:H p=some (.lst xs))
  (ho:s.heap.get? p=some { cls:=.type "list",data:=.seq its.toArray n }) (hf:f { cls:=.type "list",data:=.seq its.toArray n } = { cls:=.type "list",data:=.seq its'.toArray n' }) (r:Vals ys its') (hz:ys.length<=sizeLine) (t:Nat) :
  Inv X pins σ (upd H p (.lst ys)) { s with heap:=s.heap.update p f,toks:=t }:=by
 have e:(s.heap.update p f).get? p=some { cls:=.type "list",data:=.seq its'.toArray n' }:=by
  rw [Heap.get?_update_self f ho (by rw [hf] <;> rfl),hf]
 refine I.write (x:=p) (e:=p) (by rw [h]; trivial) (.inl rfl) (fun b u hb q=>(Heap.get?_update_other _ _ (Ne.symm hb)).trans q) ⟨_,e⟩ ?_
 exact ⟨hz,its',n',r,e⟩
def rSetL:V->V->V->Hp->(Hp->Prop)->Prop:=fun o i v H Q=>∃ p xs k j,o=.ref p/\i=.int k/\H p=some (.lst xs)/\ixN xs.length k=some j/\Q (upd H p (.lst (xs.set j v)))
theorem Zmh:PSet X rSetL:=by
 intro pins s σ H o i v ov iv u Q I ro ri rv h
 obtain ⟨p,xs,k,j,rfl,rfl,hp,hj,q⟩:=h
 cases ro
 obtain ⟨t,rfl⟩:=ri
 obtain ⟨its,n,r,ho,hz⟩:=I.lst hp
 obtain ⟨h1,h2,h3,h4⟩:=Zj4 hj
 have hl:=r.length
 have hn:=line63
 have I':Inv X pins σ (upd H p (.lst (xs.set j v))) { s with heap:=s.heap.update p (Obj.mapSeq (·.setIfInBounds j u)) }:=
  I.lstUpd hp ho (Ziv its n j u) (r.set rv j) (by rw [List.length_set]; exact hz) s.toks
 by_cases h0:0<=k
 ·have hk:k.toNat=j:=by
   rw [seqIndex_of h0 h4] at h1
   exact Option.some.inj h1
  exact PySem.W.ki_setAt ho h0 (by omega) (by rw [List.size_toArray,<- hl]; exact h4) (by rw [hk]; exact ⟨_,I',q⟩)
 ·have hk:(k + (its.toArray.size:Int)).toNat=j:=by
   rw [seqIndex_neg (by omega) h3] at h1
   rw [List.size_toArray,<- hl]
   exact Option.some.inj h1
  exact PySem.W.ki_setBack ho (by omega) (by rw [List.size_toArray,<- hl]; exact h3) (by omega) (by rw [hk]; exact ⟨_,I',q⟩)
theorem Zgu (lo hi:Option Int) (n:Nat):(sliceBounds lo hi none n).1=((HT.sIx n 0 lo:Nat):Int)/\(sliceBounds lo hi none n).2.1=((HT.sIx n n hi:Nat):Int)/\(sliceBounds lo hi none n).2.2=1:=by
 refine ⟨?_,?_,rfl⟩
 ·cases lo with
  | none=>simp [sliceBounds,HT.sIx]
  | some i=>
   simp only [sliceBounds,HT.sIx,Option.getD_none,show (1:Int) > 0 by decide,if_true]
   by_cases h:i < 0
   ·simp only [h,if_true] <;> omega
   ·simp only [h,if_false] <;> omega
 ·cases hi with
  | none=>simp [sliceBounds,HT.sIx]
  | some i=>
   simp only [sliceBounds,HT.sIx,Option.getD_none,show (1:Int) > 0 by decide,if_true]
   by_cases h:i < 0
   ·simp only [h,if_true] <;> omega
   ·simp only [h,if_false] <;> omega
theorem Zfz (its:List Value) (lo hi:Option Int):slicePick its.toArray lo hi none=((its.drop (HT.sIx its.length 0 lo)).take (HT.sIx its.length its.length hi - HT.sIx its.length 0 lo)).toArray:=by
 obtain ⟨h1,h2,h3⟩:=Zgu lo hi its.toArray.size
 unfold slicePick
 rw [h1,h2,h3]
 simp only [sliceRange_one,pick_run,List.size_toArray] <;> rfl
def rSlL (K:PySem.W.Frag):V->Option Int->Option Int->Hp->VK->Prop:=fun x lo hi H Q=>∃ a xs,x=.ref a/\SqL K H a xs/\∀ p,H p=none->Q (.ref p) (upd H p (.lst (cutV xs lo hi)))
theorem Zm2:SlR X (rSlL X.K):=by
 intro pins s σ H x v vl vu lo hi sl Q I rx hs pl pu h
 obtain ⟨a,xs,rfl,hx,q⟩:=h
 cases rx
 obtain ⟨its,r,ht,hz⟩:=I.list hx
 have hlen:=r.length
 refine ⟨"list",_,slot_list_getitem.lookup,ht.isList.typeIs,?_⟩
 refine wpAny_getItem_list_slice ht.isList hs pl pu .none (by simp) ?_ (by rw [List.size_toArray] <;> omega)
 rw [Zfz,<- hlen]
 refine ⟨.ref s.heap.objs.size,_,I.laid (t':=s.toks) (o:=.lst (cutV xs lo hi)) (fun b ob q=>Heap.get?_push_of_some _ q) (Nat.le_refl _) ?_,rfl,q _ (I.hok.fresh (Nat.le_refl _))⟩
 exact ⟨Nat.le_trans (Ze3 xs lo hi) hz,_,0,(r.drop (HT.sIx xs.length 0 lo)).take (HT.sIx xs.length xs.length hi - HT.sIx xs.length 0 lo),Heap.get?_push_size _ rfl⟩
def flatV:V->Bool
 | .non=>true
 | .bl _=>true
 | .int _=>true
 | .str _=>true
 | _=>false
def eqV:V->V->Bool
 | .non,.non=>true
 | .bl a,.bl b=>a == b
 | .bl a,.int b=>(if a then 1 else 0) == b
 | .int a,.bl b=>a == (if b then 1 else 0)
 | .int a,.int b=>a == b
 | .str a,.str b=>a == b
 | _,_=>false
theorem Zml {A:Around} {s:Shared} {y x:V} {u v:Value} (ry:RelV y u) (rx:RelV x v) (fy:flatV y=true) (fx:flatV x=true):SeqAt.EqAt A s u v (eqV y x):=by
 cases y with
 | non=>
  cases ry
  cases x with
  | non=>cases rx; exact SeqAt.EqAt.same _
  | bl b=>cases rx; exact SeqAt.EqAt.none_bool b
  | int b=>obtain ⟨t,rfl⟩:=rx; exact SeqAt.EqAt.none_int b t
  | str b=>obtain ⟨t,rfl⟩:=rx; exact SeqAt.EqAt.none_str b t
  | _=>exact absurd (show false=true from fx) Bool.false_ne_true
 | bl a=>
  cases ry
  cases x with
  | non=>cases rx; exact SeqAt.EqAt.bool_none a
  | bl b=>cases rx; exact SeqAt.EqAt.bool_bool a b
  | int b=>obtain ⟨t,rfl⟩:=rx; exact SeqAt.EqAt.bool_int a b t
  | str b=>obtain ⟨t,rfl⟩:=rx; exact SeqAt.EqAt.bool_str a b t
  | _=>exact absurd (show false=true from fx) Bool.false_ne_true
 | int a=>
  obtain ⟨t',rfl⟩:=ry
  cases x with
  | non=>cases rx; exact SeqAt.EqAt.int_none a t'
  | bl b=>cases rx; exact SeqAt.EqAt.int_bool a t' b
  | int b=>obtain ⟨t,rfl⟩:=rx; exact SeqAt.EqAt.int_int a t' b t
  | str b=>obtain ⟨t,rfl⟩:=rx; exact SeqAt.EqAt.int_str a t' b t
  | _=>exact absurd (show false=true from fx) Bool.false_ne_true
 | str a=>
  obtain ⟨t',rfl⟩:=ry
  cases x with
  | non=>cases rx; exact SeqAt.EqAt.str_none a t'
  | bl b=>cases rx; exact SeqAt.EqAt.str_bool a t' b
  | int b=>obtain ⟨t,rfl⟩:=rx; exact SeqAt.EqAt.str_int a t' b t
  | str b=>obtain ⟨t,rfl⟩:=rx; exact SeqAt.EqAt.str_str a t' b t
  | _=>exact absurd (show false=true from fx) Bool.false_ne_true
 | _=>exact absurd (show false=true from fy) Bool.false_ne_true
def eqU (x:V) (u:Value):Bool:=match u with
 | .none=>eqV .non x
 | .bool b=>eqV (.bl b) x
 | .int i _=>eqV (.int i) x
 | .str z _=>eqV (.str z) x
 | _=>false
theorem Zh7 {x y:V} {u:Value} (r:RelV y u) (f:flatV y=true):eqU x u=eqV y x:=by
 cases y with
 | non=>cases r; rfl
 | bl b=>cases r; rfl
 | int i=>obtain ⟨t,rfl⟩:=r; rfl
 | str z=>obtain ⟨t,rfl⟩:=r; rfl
 | _=>exact absurd (show false=true from f) Bool.false_ne_true
theorem Zhh {x:V}:∀ {xs:List V} {us:List Value},Vals xs us->xs.all flatV=true->us.any (eqU x)=xs.any fun y=>eqV y x
 | _,_,.nil,_=>rfl
 | y :: xs,u :: us,.cons r t,f=>by
  rw [List.all_cons,Bool.and_eq_true] at f
  rw [List.any_cons,List.any_cons,Zh7 r f.1,Zhh t f.2]
theorem Zfm {A:Around} {s:Shared} {x:V} {v:Value} (rx:RelV x v) (fx:flatV x=true):∀ {xs:List V} {us:List Value},Vals xs us->xs.all flatV=true->∀ u ∈ us,SeqAt.EqAt A s u v (eqU x u)
 | _,_,.nil,_=>fun u hu=>by cases hu
 | y :: xs,u :: us,.cons r t,f=>fun u' hu=>by
  rw [List.all_cons,Bool.and_eq_true] at f
  rcases List.mem_cons.mp hu with rfl | hu
  ·rw [Zh7 r f.1]; exact Zml r rx f.1 fx
  ·exact Zfm rx fx t f.2 u' hu
def inV (x:V) (xs:List V):Bool:=xs.any fun y=>eqV y x
def rIn (K:PySem.W.Frag) (neg:Bool):R2:=fun x y H Q=>∃ p xs,y=.ref p/\(SqL K H p xs\/SqT K H p xs)/\flatV x=true/\xs.all flatV=true/\Q (.bl (if neg then !inV x xs else inV x xs)) H
theorem Zgx:OpR X (compareOp .NotIn) (rIn X.K true):=by
 intro pins s σ H x y v u Q I rx ry h
 obtain ⟨p,xs,rfl,hq,fx,fs,q⟩:=h
 cases ry
 rcases hq with hq | hq
 ·obtain ⟨its,r,pl,hz⟩:=I.list hq
  refine SeqAt.notIn_listAt (eqU x) pl.isList (fun w hw=>Zfm rx fx r fs w (by simpa using hw)) ⟨.bl _,H,I,rfl,?_⟩
  rw [show its.toArray.any (eqU x)=its.any (eqU x) by simp,Zhh r fs]
  exact q
 ·obtain ⟨its,r,pl,hz⟩:=I.tuple hq
  refine SeqAt.notIn_tupleAt (eqU x) pl (fun w hw=>Zfm rx fx r fs w (by simpa using hw)) ⟨.bl _,H,I,rfl,?_⟩
  rw [show its.toArray.any (eqU x)=its.any (eqU x) by simp,Zhh r fs]
  exact q
theorem Zgh:CallR X (.builtin "len") (fun xs H Q=>∃ p ys,xs=[.ref p]/\(SqL X.K H p ys\/SqT X.K H p ys)/\Q (.int ys.length) H):=by
 intro pins s σ H xs us Q I r h
 obtain ⟨p,ys,rfl,hq,q⟩:=h
 obtain ⟨u,rfl,rx⟩:=vals1 r
 cases rx
 have hn:=line63
 rcases hq with hq | hq
 ·obtain ⟨its,r',pl,hz⟩:=I.list hq
  have hlen:=r'.length
  exact Calls.call_len_list pl.isList (by simp only [List.size_toArray] <;> omega) ⟨.int ys.length,H,I.tok _,⟨s.toks + 1,by rw [List.size_toArray,hlen]⟩,q⟩
 ·obtain ⟨its,r',pl,hz⟩:=I.tuple hq
  have hlen:=r'.length
  exact len_tuple pl (by simp only [List.size_toArray] <;> omega) ⟨.int ys.length,H,I.tok _,⟨s.toks + 1,by rw [List.size_toArray,hlen]⟩,q⟩
theorem CallR.or {f:Value} {r r':List V->Hp->VK->Prop} (h:CallR X f r) (h':CallR X f r'):CallR X f (fun xs H Q=>r xs H Q\/r' xs H Q):=by
 intro pins s σ H xs us Q I rs q
 rcases q with q | q
 ·exact h pins s σ H xs us Q I rs q
 ·exact h' pins s σ H xs us Q I rs q
theorem Zgt:CallR X (.type "list") (fun xs H Q=>∃ p ys,xs=[.ref p]/\(SqL X.K H p ys\/SqT X.K H p ys)/\∀ l,H l=none->Q (.ref l) (upd H l (.lst ys))):=by
 intro pins s σ H xs us Q I r h
 obtain ⟨p,ys,rfl,hq,q⟩:=h
 obtain ⟨u,rfl,rx⟩:=vals1 r
 cases rx
 have fin:∀ (its:List Value),Vals ys its->ys.length<=sizeLine->∀ (h':Heap) (c':Nat),(∀ b o',s.heap.get? b=some o' -> h'.get? b=some o') →
   h'.get? s.heap.objs.size=some { cls:=.type "list",dict:=none,data:=.seq its.toArray c',slots:=#[] } -> EP X pins σ Q (.ref s.heap.objs.size) { s with heap:=h' }:=fun its r' hz h' c' kp e=>
  ⟨.ref s.heap.objs.size,_,I.laid (t':=s.toks) kp (Nat.le_refl _) (show ObjOk X.prog X.w _ h' _ (.lst ys) from ⟨hz,its,c',r',e⟩),rfl,q _ (I.hok.fresh (Nat.le_refl _))⟩
 rcases hq with hq | hq
 ·obtain ⟨its,r',pl,hz⟩:=I.list hq
  have hlen:=r'.length
  obtain ⟨o,ho,hc,n,hd⟩:=pl.isList
  exact call_list_seq p (.inl rfl) ho hc hd (fun h' c' kp e=>fin its r' hz h' c' kp e) (by simp only [List.size_toArray] <;> omega)
 ·obtain ⟨its,r',pl,hz⟩:=I.tuple hq
  have hlen:=r'.length
  obtain ⟨o,ho,hc,n,hd⟩:=pl
  exact call_list_seq p (.inr rfl) ho hc hd (fun h' c' kp e=>fin its r' hz h' c' kp e) (by simp only [List.size_toArray] <;> omega)
theorem Zfy:CallR X (.type "tuple") (fun xs H Q=>∃ p ys,xs=[.ref p]/\((SqL X.K H p ys/\∀ l,H l=none->Q (.ref l) (upd H l (.tup ys)))\/(SqT X.K H p ys/\Q (.ref p) H))):=by
 intro pins s σ H xs us Q I r h
 obtain ⟨p,ys,rfl,h⟩:=h
 obtain ⟨u,rfl,rx⟩:=vals1 r
 cases rx
 rcases h with ⟨hq,q⟩ | ⟨hq,q⟩
 ·obtain ⟨its,r',pl,hz⟩:=I.list hq
  have hlen:=r'.length
  refine call_tuple_list pl.isList (fun h' kp=>?_) (by simp only [List.size_toArray] <;> omega)
  have I1:Inv X pins σ H { s with heap:=h' }:=I.kept (t':=s.toks) kp
  have I2:Inv X pins σ (upd H h'.objs.size (.tup ys)) { s with heap:=h'.push { cls:=.type "tuple",data:=.seq its.toArray } }:=
   I1.laid (t':=s.toks) (fun b o e=>Heap.get?_push_of_some _ e) (Nat.le_refl _) (show ObjOk X.prog X.w _ _ _ (.tup ys) from ⟨hz,its,r',IsTupN.new _ _⟩)
  exact ⟨.ref h'.objs.size,_,I2,rfl,q _ (I1.hok.fresh (Nat.le_refl _))⟩
 ·obtain ⟨its,r',pl,hz⟩:=I.tuple hq
  exact call_tuple_same pl ⟨.ref p,H,I,rfl,q⟩
def tyV (K:PySem.W.Frag) (T:String) (x:V) (H:Hp):Prop:=match x with
 | .str _=>T = "str"
 | .int _=>T = "int"
 | .ref p=>(T = "list" /\ ∃ xs,SqL K H p xs)\/(T = "tuple" /\ ((∃ o,K.lookup p=some o/\o.cls=.type "tuple" /\ o.dict=none)\/∃ xs,H p=some (.tup xs))) ∨
   (T = "dict" /\ ((∃ kvs,H p=some (.dK kvs))\/∃ kvs,H p=some (.dT kvs)))\/(T = "set" /\ ∃ S n,H p=some (.set S n))
 | _=>False
theorem Zqa {pins:List (Addr × Obj)} {σ:St} {H:Hp} {s:Shared} {T:String} {x:V} {v:Value} (I:Inv X pins σ H s) (r:RelV x v) (ty:tyV X.K T x H) :
  s.TypeIs v T/\∀ a,v=.ref a->∃ ob,s.heap.get? a=some ob/\ob.dict=none:=by
 cases x with
 | str z=>
  obtain ⟨t,rfl⟩:=r
  cases (show T = "str" from ty)
  exact ⟨typeIs_str s z t,fun _ e=>nomatch e⟩
 | int i=>
  obtain ⟨t,rfl⟩:=r
  cases (show T = "int" from ty)
  exact ⟨typeIs_int s i t,fun _ e=>nomatch e⟩
 | ref p=>
  cases r
  rcases ty with ⟨rfl,xs,hq⟩ | ⟨rfl,(⟨o,hk,hc,hd⟩ | ⟨xs,hk⟩)⟩ | ⟨rfl,hk⟩ | ⟨rfl,S,n,hk⟩
  ·obtain ⟨its,_,pl,_⟩:=I.list hq
   refine ⟨pl.isList.typeIs,fun a e=>?_⟩
   cases e
   obtain ⟨o,n,e,c,hd,_⟩:=pl
   exact ⟨o,e,hd⟩
  ·refine ⟨⟨o,I.kIn p o hk,hc⟩,fun a e=>?_⟩
   cases e
   exact ⟨o,I.kIn _ o hk,hd⟩
  ·obtain ⟨_,_,_,o,e,⟨hc,_⟩,hd⟩:=I.hok p _ hk
   refine ⟨⟨o,e,hc⟩,fun a e2=>?_⟩
   cases e2
   exact ⟨o,e,hd⟩
  ·have z:∃ o,s.heap.get? p=some o/\o.ExactDict:=by
    rcases hk with ⟨kvs,hk⟩ | ⟨kvs,hk⟩
    ·obtain ⟨_,_,_,_,o,_,_,e,ex,_⟩:=I.hok p _ hk
     exact ⟨o,e,ex⟩
    ·obtain ⟨_,_,_,_,o,_,_,e,ex,_⟩:=I.hok p _ hk
     exact ⟨o,e,ex⟩
   obtain ⟨o,e,ex⟩:=z
   refine ⟨⟨o,e,ex.1⟩,fun a e2=>?_⟩
   cases e2
   exact ⟨o,e,ex.2.1⟩
  ·obtain ⟨o,_,_,_,e,ex,_⟩:=I.hok p _ hk
   refine ⟨⟨o,e,ex.1⟩,fun a e2=>?_⟩
   cases e2
   exact ⟨o,e,ex.2.1⟩
 | _=>exact False.elim ty
def tBM (K:PySem.W.Frag) (T:String) (r:V->List V->Hp->VK->Prop) (to:TE) (t:TA):TE:=fun σ H Q=>to σ H fun x H1=>tyV K T x H1/\t σ H1 fun xs H2=>r x xs H2 Q
variable {o e:Expr} {es:List Expr} {to:TE} {t:TA} {name:Str} {apos cpos:Pos} {T id:String} {r:V->List V->Hp->VK->Prop}
theorem Zqx (pa:PlainAttrs T) (slot:Slot T name id) (hty:typeOf (.builtin id)=pure (.type "method_descriptor")) (hm:MtR X id r) (ho:PE X o to) (ha:PA X (e :: es) t)
  (hbase:attributeBase o name X.env (eval o X.env)=eval o X.env:=by rfl)
  (hfew:((backTo cpos (starEach (e :: es) X.env)).all (fun x=>!x.1) && (backToKw cpos (keywordEach [] X.env)).all (fun x=>x.1.isSome)
   && decide ((e :: es).length + ([]:List Keyword).length + (if ([]:List Keyword).isEmpty then 0 else 1) < 30))=true:=by rfl)
  (hline:(apos.endLine == cpos.line)=true:=by rfl) (hs:starEach (e :: es) X.env=(false,eval e X.env) :: starEach es X.env:=by rfl) (hplain:(backTo cpos (starEach es X.env)).any (·.1)=false:=by rfl) :
  PE X (.Call (.Attribute o name apos) (e :: es) [] cpos) (tBM X.K T r to t):=by
 intro pins s σ H Q I h
 refine wpAny_Call_method_late hbase hfew hline rfl (thn (ho pins s σ H _ I h) fun v s1 ⟨x,H1,I1,r1,ty,q1⟩=>?_)
 obtain ⟨h1,h2⟩:=Zqa I1 r1 ty
 refine ⟨T,id,pa,slot,hty,h1,h2,?_⟩
 have hA:=ha cpos pins s1 σ H1 _ I1 q1
 rw [hs] at hA ⊢
 refine Calls.callWith_builtin (by show (false || (backTo cpos (starEach es X.env)).any (·.1))=false; rw [hplain] <;> rfl) (Calls.evalArgs_plain ?_)
 exact thn hA fun us s2 ⟨vs,H2,I2,r2,q2⟩=>hm pins s2 σ H2 x vs v us Q I2 r1 r2 q2
end
end L2
namespace L2
open PySem PySem.Spec PyProof.Rows
def MtM (X:Cx) (id:String) (r:V->List V->Hp->VK->Prop):Prop:=
 ∀ (pins:List (Addr × Obj)) (s:Shared) (σ:St) (H:Hp) (x:V) (xs:List V) (v:Value) (us:List Value) (Q:VK),Inv X pins σ H s->RelV x v->Vals xs us->r x xs H Q →
  wpAny (model X.prog X.w) X.A (call (.builtin id) (v :: us)) (EP X pins σ Q) X.xe s
theorem Vals.one:∀ {x:V} {us:List Value},Vals [x] us->∃ u,us=[u]/\RelV x u:=by
 intro x us h; cases h with | cons r t=>cases t; exact ⟨_,rfl,r⟩
theorem Vals.two:∀ {x y:V} {us:List Value},Vals [x,y] us->∃ u v,us=[u,v]/\RelV x u/\RelV y v:=by
 intro x y us h; cases h with | cons r t=>cases t with | cons q t=>cases t; exact ⟨_,_,rfl,r,q⟩
theorem Vals.eraseIdx:∀ {xs:List V} {us:List Value} (i:Nat),Vals xs us->Vals (xs.eraseIdx i) (us.eraseIdx i)
 | _,_,_,.nil=>.nil
 | _,_,0,.cons _ t=>t
 | _,_,i + 1,.cons r t=>.cons r (Vals.eraseIdx i t)
theorem Zgr {α:Type}:∀ (l:List α) (i:Nat),(l.eraseIdx i).length<=l.length
 | [],_=>Nat.le_refl _
 | _ :: _,0=>Nat.le_succ _
 | _ :: r,i + 1=>Nat.succ_le_succ (Zgr r i)
section
variable {X:Cx} {pins:List (Addr × Obj)} {σ:St} {H:Hp} {s:Shared} {l b:Addr} {xs ys zs:List V}
theorem Inv.lset {its its':List Value} {n:Nat} {f:Array Value->Array Value} {t':Nat} (I:Inv X pins σ H s) (hH:H l=some (.lst xs))
  (e:s.heap.get? l=some { cls:=.type "list",data:=.seq its.toArray n }) (hf:f its.toArray=its'.toArray) (hv:Vals ys its') (hz:ys.length<=sizeLine) :
  Inv X pins σ (upd H l (.lst ys)) { s with heap:=s.heap.update l (Obj.mapSeq f),toks:=t' }:=by
 have q:=PySem.IsL.update e f
 rw [hf] at q
 refine I.write (x:=l) (e:=l) (by rw [hH]; exact trivial) (.inl rfl) (fun b' u hb hu=>(Heap.get?_update_other s.heap (Obj.mapSeq f) (Ne.symm hb)).trans hu) ⟨_,q⟩ ?_
 exact ⟨hz,its',_,hv,q⟩
theorem Inv.lnew {its:List Value} {t':Nat} (I:Inv X pins σ H s) (hv:Vals ys its) (hz:ys.length<=sizeLine) :
  Inv X pins σ (upd H s.heap.objs.size (.lst ys)) { s with heap:=s.heap.push { cls:=.type "list",data:=.seq its.toArray },toks:=t' }:=
 I.laid (fun _ _ q=>Heap.get?_push_of_some _ q) (Nat.le_refl _) ⟨hz,its,0,hv,Heap.get?_push_size _ rfl⟩
theorem Inv.fresh (I:Inv X pins σ H s):H s.heap.objs.size=none:=I.hok.fresh (Nat.le_refl _)
theorem Inv.lstM (I:Inv X pins σ H s) (hH:H l=some (.lst xs)):xs.length<=sizeLine/\∃ (its:List Value) (n:Nat),Vals xs its/\xs.length=its.length/\s.heap.get? l=some { cls:=.type "list",data:=.seq its.toArray n }:=by
 obtain ⟨z,its,n,r,e⟩:=I.hok l _ hH
 exact ⟨z,its,n,r,r.length,e⟩
end
section
variable {X:Cx}
def rAppend:V->List V->Hp->VK->Prop:=fun x vs H Q=>∃ l xs y,x=.ref l/\vs=[y]/\H l=some (.lst xs)/\xs.length < sizeLine/\Q .non (upd H l (.lst (xs ++ [y])))
theorem Zgs:MtM X "list.append" rAppend:=by
 intro pins s σ H x vs v us Q I rx rv h
 obtain ⟨l,xs,y,rfl,rfl,hH,hz,q⟩:=h
 cases rx
 obtain ⟨u,rfl,ru⟩:=rv.one
 obtain ⟨z,its,n,r,hl,e⟩:=I.lstM hH
 refine call_meets F.slot_list_append ⟨_,e,rfl⟩ F.entry_list_append (F.args_list_append_2 _ _) (PySem.list_append l its.toArray n u (by rw [List.size_toArray]; omega)) ⟨e,?_⟩
 refine ⟨.non,_,I.lset (its':=its ++ [u]) hH e (by simp) (r.append (.cons ru .nil)) ?_,rfl,q⟩
 rw [List.length_append,List.length_singleton]
 omega
def rCat:R2:=fun x y H Q=>∃ l b xs zs,x=.ref l/\y=.ref b/\H l=some (.lst xs)/\H b=some (.lst zs)/\xs.length + zs.length<=sizeLine/\∀ p,H p=none->Q (.ref p) (upd H p (.lst (xs ++ zs)))
theorem Zpd:OpR X (binaryOp .Add) rCat:=by
 intro pins s σ H x y v u Q I rx ry h
 obtain ⟨l,b,xs,zs,rfl,rfl,hH,hB,hz,q⟩:=h
 cases rx
 cases ry
 obtain ⟨z,its,n,r,hl,e⟩:=I.lstM hH
 obtain ⟨z2,its2,n2,r2,hl2,e2⟩:=I.lstM hB
 refine PySem.P.add_list e e2 ?_ (by rw [List.size_toArray,List.size_toArray]; omega)
 have ea:its.toArray ++ its2.toArray=(its ++ its2).toArray:=by simp
 rw [ea]
 exact ⟨.ref _,_,I.lnew (t':=s.toks) (r.append r2) (by rw [List.length_append]; omega),rfl,q _ I.fresh⟩
theorem Zmg {pins:List (Addr × Obj)} {s:Shared} {σ:St} {H:Hp} {l:Addr} {xs:List V} {i:Int} {t:Tok} {k:Nat} {Q:Unit->Shared->Prop} (I:Inv X pins σ H s) (hH:H l=some (.lst xs))
  (h1:-(2 ^ 63)<=i) (h2:i < 2 ^ 63) (hk:seqIndex? i xs.length=some k) (h:∀ s',Inv X pins σ (upd H l (.lst (xs.eraseIdx k))) s' -> Q () s') :
  wpAny (model X.prog X.w) X.A (delItem (.ref l) (.int i t)) Q X.xe s:=by
 obtain ⟨z,its,n,r,hl,e⟩:=I.lstM hH
 refine PySem.P.delItem_list (k:=k) e (fitsIndex_both h1 h2) (by rw [List.size_toArray,<- hl]; exact hk) (h _ ?_) (by rw [List.size_toArray]; omega)
 refine I.lset (its':=its.eraseIdx k) (t':=s.toks) hH e ?_ (r.eraseIdx k) ?_
 ·show its.toArray.eraseIdxIfInBounds k=(its.eraseIdx k).toArray
  rw [List.eraseIdxIfInBounds_toArray]
 ·have:=Zgr xs k
  omega
end
section
variable {X:Cx}
end
end L2
namespace Att
open PySem PySem.W PySem.Calls PyProof.Rows
theorem Ze1 {P:Params} {h:Heap}:∀ (ns:List Int) (vs:List Value),WellAll P h vs (ns.map WData.int)->IntsAre vs ns:=by
 intro ns
 induction ns with
 | nil=>
  intro vs w
  rw [List.map_nil] at w
  cases w
  exact .nil
 | cons n ns ih=>
  intro vs w
  rw [List.map_cons] at w
  cases w with
  | cons a b=>
   cases a
   exact .cons _ _ (ih _ b)
theorem Zjs {l:OpenLaw} {n:Nat} (hn:l.most=some n) {P:Params} {h:Heap} {args:List WData} {vals:List Value}
  (hpre:l.row.toRowW.claim.pre args=true) (hwl:WellAll P h vals args) :
  ∃ a vs ns,vals=[Value.ref a]/\args=[WData.list (ns.map WData.int)]/\h.get? a=some { cls:=.type "list",data:=.seq vs.toArray } /\ IntsAre vs ns/\ns.length<=n:=by
 have hsh:WShape.hasAll [] args [.list .int]=true:=(pre_splitW hpre).1
 have hc:l.pre.holds [] { args:=args } = true:=(pre_splitW hpre).2
 obtain ⟨d,r,rfl,h1,h2⟩:=hasAllW_cons hsh
 obtain rfl:=hasAllW_nil h2
 obtain ⟨xs,rfl,h3⟩:=hasW_list h1
 obtain ⟨ns,rfl⟩:=items_int h3
 have hlen:ns.length<=n:=by
  unfold OpenLaw.pre at hc
  have h4:(WTm.not (.lt (.lit (.int (n:Int))) (.len (.arg 0)))).holds [] { args:=[.list (ns.map .int)] } = true:=by
   have h4:=(holds_andW hc).1
   rw [hn] at h4
   exact h4
  have h5:=condW_of h4 (w_not (w_lt w_lit (w_len_list (w_arg rfl))))
  rw [List.length_map] at h5
  refine Nat.le_of_not_lt fun q=>?_
  have q':(n:Int) < ((ns.length:Nat):Int):=by omega
  first
   | (rw [decide_eq_true q'] at h5; exact absurd h5 (by decide))
   | (simp at h5; omega)
 cases hwl with
 | cons w1 w2=>
  cases w2
  cases w1 with
  | list ho hall=>exact ⟨_,_,ns,rfl,rfl,ho,Ze1 ns _ hall,hlen⟩
theorem Zks (l:OpenLaw) (args:List WData):l.row.toRowW.claim.post args (.bool true) args=true:=
 postW_of (r:=l.row.toRowW) (X:=(true == true))
  (show WShape.has [] (.bool true) .bool=true by first | rfl | decide | simp [WShape.has,WShape.arms,WShape.armsAll])
  (show (WTm.eq .res (.lit (.bool true))).value [] { args:=args,res:=some (.bool true),after:=args } = some (.bool (true == true)) from w_eq_bool (w_res rfl) w_lit) rfl
theorem attach_call {l:OpenLaw} {n:Nat} {q:Program} {loose:List Str} {XP:(Str->Option Value)->Heap->Prop} {YP:World->Heap->Prop} {d:DefRec}
  (hn:l.most=some n) (hdf:d.params.defaults=[])
  (call:∀ (w:World) (s₀ s₁:Shared) (mg mb:Str->Option Value) (fa:Addr) (o:Obj) (pm cd doc:Value) (a:Addr) (vs:List Value) (ns:List Int),
   Ground q loose [] XP w s₀ mg mb s₁.heap->YP w s₁.heap →
   s₁.heap.get? fa=some o->o.data=.func (docDef d.name d.params d.body d.scope pm cd doc)->s₁.heap.CodeRec cd d.name->mg d.name=some (.ref fa) →
   s₁.heap.get? a=some { cls:=.type "list",data:=.seq vs.toArray } -> IntsAre vs ns->ns.length<=n->s₁.gens = #[] →
   codeAny (model l.prog w) callerA (.call (.ref fa) ⟨[.ref a],[]⟩) (fun r s'=>r=.ok (.ret (.bool true))/\OldK s₁.heap s'.heap/\s'.os=s₁.os/\AllBare s'.gens) s₁) :
  WalkO q loose XP YP l.row.toRowW d [] (fun f vs=>PySem.call f vs):=by
 intro w s₀ s₁ mg mb G Y fa o pm cd doc dV kV ho hd hcd hD hmg hg args vals as hpre hlay hrd hwl hlo
 obtain rfl:dV=.none:=Dflts.none hD hdf
 obtain rfl:kV=.none:=Dflts.noKw hD
 obtain ⟨a,vs,ns,rfl,rfl,hobj,hints,hlen⟩:=Zjs hn hpre hwl
 refine enter_call (codeAny_mono (call w s₀ s₁ mg mb fa o pm cd doc a vs ns G Y ho (fd_plain hd) hcd hmg hobj hints hlen hg) fun r s' hq=>?_)
 obtain ⟨rfl,h2,h3,h4⟩:=hq
 exact ⟨.inl ⟨.bool true,.bool true,[],rfl,fun _=>rfl,.bool true,Zks l _,fun _=>⟨List.Pairwise.nil,fun _ hm=>(nomatch hm)⟩⟩,h2,h3,h4⟩
end Att
namespace L2
open PySem PySem.Spec PyProof.Rows
theorem Zg4:∀ {vs:List Value} {ns:List Int},IntsAre vs ns->Vals (ns.map V.int) vs
 | _,_,.nil=>.nil
 | _,_,.cons n t h=>.cons ⟨t,rfl⟩ (Zg4 h)
def Only (H:Hp):Prop:=∀ b,H b=none\/∃ o xs,H b=some (.frz o (.lst xs))
theorem Zlt {P:Program} {w:World} {K:PySem.W.Frag} {mg mb:Str->Option Value} {CX:CXT} {k:Nat} {fa a:Addr} {fd:FuncData} {x:Str} {sp:Sp} {s₁:Shared} {vs:List Value} {ns:List Int}
  (KX:K.In s₁.heap) (hns:s₁.heap.Ns mainGlobals mg) (hb:s₁.heap.Ns builtinsNs mb) (hbb:∀ x:Str,x ≠ "__name__" -> mb x=bootBuiltins x) (hlim:s₁.heap.NoLimit) (hg:s₁.gens = #[])
  (ha:s₁.heap.get? a=some { cls:=.type "list",data:=.seq vs.toArray }) (hi:IntsAre vs ns) (hl:ns.length<=sizeLine) (hr:Room k callerA)
  (F:∀ base:Heap,K.In base->base.Ns mainGlobals mg->FnOk P w K mg base CX k fa fd [x] sp) (hbind:∀ (s:Shared) (u:Value),BindsTo s fd ⟨[u],[]⟩ [(x,u)])
  (hsp:∀ H:Hp,Only H->SqL K H a (ns.map V.int)->sp [.ref a] H (fun v _=>v=.bl true) fun _ _ _=>False)
  (hCX:∀ H e s',CX [] H s₁ (fun _ _ _=>False) e s' -> False) :
  codeAny (model P w) callerA (.call (.ref fa) ⟨[.ref a],[]⟩) (fun r s'=>r=.ok (.ret (.bool true))/\OldK s₁.heap s'.heap/\s'.os=s₁.os/\AllBare s'.gens) s₁:=by
 have rv:=Zg4 hi
 have lenV:=hi.length
 -- from an abstract heap in which nothing but the script may be tracked
 have core:∀ H:Hp,Only H->SqL K H a (ns.map V.int)->HOk P w H s₁.heap->(∀ b,H b ≠ none->b=a)->(H a ≠ none->K.lookup a=none) →
   codeAny (model P w) callerA (.call (.ref fa) ⟨[.ref a],[]⟩) (fun r s'=>r=.ok (.ret (.bool true))/\OldK s₁.heap s'.heap/\s'.os=s₁.os/\AllBare s'.gens) s₁:=by
  intro H hO hS hok hA hK
  have base_of:∀ {b:Addr} {o:Obj},s₁.heap.get? b=some o->H b=none->(hidT s₁.heap H).get? b=some o:=fun e n=>Zk9 e n
  have noA:∀ {b:Addr} {o:Obj} {es:Array DictEntry} {ep:Nat},s₁.heap.get? b=some o->o.data=.dict es ep->H b=none:=fun {b o es ep} e d=>by
   cases q:H b with
   | none=>rfl
   | some u=>
    have e':b=a:=hA b (by rw [q]; simp)
    subst e'
    rw [ha] at e; cases e
    have d':Data.seq vs.toArray _=Data.dict es ep:=d
    cases d'
  have nsK:∀ {b:Addr} {m:Str->Option Value},s₁.heap.Ns b m->(hidT s₁.heap H).Ns b m:=fun {b m} ⟨o,es,ep,e,d,r⟩=>⟨o,es,ep,base_of e (noA e d),d,r⟩
  have hKb:K.In (hidT s₁.heap H):=fun b o e=>base_of (KX b o e) (by
   cases q:H b with
   | none=>rfl
   | some u=>
    have e':b=a:=hA b (by rw [q]; simp)
    subst e'
    rw [hK (by rw [q]; simp)] at e; cases e)
  have hM:Mod K mg (hidT s₁.heap H):=⟨hKb,nsK hns,⟨mb,nsK hb,hbb⟩,let ⟨mc,h1,h2⟩:=hlim; ⟨mc,nsK h1,h2⟩⟩
  have e0:Env0 P w K mg (hidT s₁.heap H) callerA [] s₁ H:=⟨rfl,hM,fun b o e=>Zod e,Nat.le_of_eq (Zi6 _ _),trivial,fun b hb=>absurd (show b ∈ ([]:List Addr) from hb) (by simp),hok,.of_eq hg⟩
  refine codeAny_mono ((F _ hKb (nsK hns)).run callerA [] s₁ H ⟨[.ref a],[]⟩ [.ref a] [.ref a] _ _ hr e0 (hbind s₁ (.ref a)) (.cons rfl .nil) (hsp H hO hS)) fun r s' h=>?_
  cases r with
  | error e=>exact (hCX H e s' h).elim
  | ok fl=>
   cases fl with
   | next=>exact False.elim h
   | brk=>exact False.elim h
   | cont=>exact False.elim h
   | ret u=>
    obtain ⟨v,H',os,bare,un,hok',r',q⟩:=h
    have q':v=.bl true:=q
    subst q'
    obtain rfl:u=Value.bool true:=r'
    refine ⟨rfl,OldK.of_keep fun b o e=>?_,os,bare⟩
    cases q:H b with
    | none=>exact un.keep b o e q (by intro z; exact absurd (show b ∈ ([]:List Addr) from z) (by simp)) (by simp)
    | some u=>
     rcases hO b with z | ⟨ob,xs,z⟩
     ·rw [q] at z; cases z
     ·have z2:=un.frzs b ob _ z
      obtain ⟨e1,_⟩:=hok b _ z
      obtain ⟨e2,_⟩:=hok' b _ z2
      rw [e] at e1; cases e1
      exact e2
 cases hk:K.lookup a with
 | some o=>
  -- the script is one of the module's own objects
  have e:=KX a o hk
  rw [ha] at e
  cases e
  refine core (fun _=>none) (fun _=>.inl rfl) (.inr ⟨_,vs.toArray,_,hk,rfl,rfl,rfl,by rw [List.size_toArray,lenV]; exact hl,by simpa using rv⟩) (fun b u z=>by have z':(none:Option HO)=some u:=z; cases z') (fun b z=>absurd rfl z) fun z=>absurd rfl z
 | none=>
  refine core (fun b=>if b=a then some (.frz { cls:=.type "list",data:=.seq vs.toArray } (.lst (ns.map V.int))) else none) (fun b=>?_) (.inl (.inr ⟨{ cls:=.type "list",data:=.seq vs.toArray },if_pos rfl⟩)) (fun b u z=>?_) (fun b z=>?_) fun _=>hk
  ·by_cases hb:b=a
   ·exact .inr ⟨_,_,if_pos hb⟩
   ·exact .inl (if_neg hb)
  ·by_cases hb:b=a
   ·have z':=(if_pos hb).symm.trans z
    cases z'
    subst hb
    exact ⟨ha,by rw [List.length_map]; exact hl,vs,_,rv,ha⟩
   ·have z':=(if_neg hb).symm.trans z
    cases z'
  ·by_cases hb:b=a
   ·exact hb
   ·exact absurd (if_neg hb) z
end L2
namespace L2
open PySem PySem.Spec PyProof.Rows
theorem walk_of {l:PySem.W.OpenLaw} {n k:Nat} {q:Program} {loose:List Str} {XP:(Str->Option Value)->Heap->Prop} {YP:World->Heap->Prop} {d:DefRec} {K:Params->PySem.W.Frag} {CX:World->CXT} {sp:World->Sp} {x:Str}
  (hn:l.most=some n) (hn2:n<=sizeLine) (hdf:d.params.defaults=[]) (hr:Room k callerA)
  (hY:∀ (w:World) (h:Heap),YP w h->(K w.params).In h)
  (F:∀ (w:World) (mg:Str->Option Value) (fa:Addr) (h:Heap),(K w.params).In h->h.Ns mainGlobals mg->mg d.name=some (.ref fa) →
   ∃ fd:FuncData,(∀ (s:Shared) (u:Value),BindsTo s fd ⟨[u],[]⟩ [(x,u)]) ∧
    ∀ base:Heap,(K w.params).In base->base.Ns mainGlobals mg->FnOk l.prog w (K w.params) mg base (CX w) k fa fd [x] (sp w))
  (hsp:∀ (w:World) (H:Hp) (a:Addr) (ns:List Int),ns.length<=n->Only H->SqL (K w.params) H a (ns.map V.int)->sp w [.ref a] H (fun v _=>v=.bl true) fun _ _ _=>False)
  (hCX:∀ (w:World) (H:Hp) (s:Shared) (e:Value) (s':Shared),CX w [] H s (fun _ _ _=>False) e s' -> False) :
  PySem.W.WalkO q loose XP YP l.row.toRowW d [] (fun f vs=>PySem.call f vs):=by
 refine Att.attach_call hn hdf fun w s₀ s₁ mg mb fa o pm cd doc a vs ns G Y ho hd hcd hmg hobj hints hlen hg=>?_
 have KX:=hY w _ Y
 obtain ⟨fd,hb,hF⟩:=F w mg fa _ KX G.T.g hmg
 exact Zlt KX G.T.g G.T.b G.T.builtins G.T.nolimit hg hobj hints (Nat.le_trans hlen hn2) hr hF hb (fun H hO hS=>hsp w H a ns hlen hO hS) fun H e s'=>hCX w H s₁ e s'
end L2
namespace L2
open PySem PySem.Spec PyProof.Rows
def defArgs (s:Stmt):Arguments:=match s with
 | .FunctionDef _ a _ _ _ _ _ _ _ _=>a
 | _=>{ posonlyargs:=[],args:=[],vararg:=none,kwonlyargs:=[],kw_defaults:=[],kwarg:=none,defaults:=[] }
def defBody (s:Stmt):List Stmt:=match s with
 | .FunctionDef _ _ b _ _ _ _ _ _ _=>b
 | _=>[]
def defScope (s:Stmt):Scope:=match s with
 | .FunctionDef _ _ _ _ _ _ sc _ _ _=>sc
 | _=>{ kind:=.function,names:=[],isGenerator:=false,isCoroutine:=false }
abbrev CX0:CXT:=fun _ _ _ _ _ _=>False
abbrev E0:XK:=fun _ _ _=>False
theorem pass0 {X:Cx}:Passes CX0 X E0:=fun _ _ _ _ _ _ _ h=>h.elim
structure Fun (K:PySem.W.Frag) (x qual:Str) (st:Stmt) (f:Addr) (fd:FuncData):Prop where
 ex:∃ (oc:Value) (od:Option Addr) (kV doc pm:Value) (an:Option Addr) (cdv ct:Value) (osl:Array (Option Value)),
  fd=PySem.W.fnOf x qual (defArgs st) (defBody st) (defScope st) .none kV doc pm an cdv ct/\K.lookup f=some ⟨oc,od,.func fd,osl⟩ /\ PySem.W.codeIn K cdv qual=true
 kp:PySem.W.keepIn K (.ref f)=true
section
variable {P:Program} {w:World} {K:PySem.W.Frag} {mg:Str->Option Value} {base:Heap}
theorem Fun.ok {x qual:Str} {st:Stmt} {f:Addr} {fd:FuncData} {N ps:List Str} {k:Nat} {sp:Sp} (F:Fun K x qual st f fd) (S:FnScope N ps (defScope st)) (len:∀ vs H Q E,sp vs H Q E->vs.length=ps.length)
  (hbody:∀ (cdv:Value) (A:Around) (outer:List Env) (s:Shared) (H:Hp) (vs:List V) (Q:VK) (E:XK),Room k (A.deeper (envOfC qual (defScope st) s.heap.objs.size f cdv))->sp vs H Q E →
   ∃ t,PSs (cxOf CX0 P w K mg base N qual (defScope st) f cdv A outer s H E).nox (defBody st) t/\t { nx:=fun _ H'=>Q .non H',rt:=Q } (start N vs) H):FnOk P w K mg base CX0 (k + 1) f fd ps sp:=by
 obtain ⟨oc,od,kV,doc,pm,an,cdv,ct,osl,rfl,lk,hcd⟩:=F.ex
 refine Zqp lk hcd S len fun A outer s H vs Q E hr hsp=>?_
 obtain ⟨t,h,q⟩:=hbody cdv A outer s H vs Q E hr hsp
 exact ⟨t,h.nox,q⟩
theorem Fun.binds {x qual:Str} {st:Stmt} {f:Addr} {fd:FuncData} {ps:List Str} (F:Fun K x qual st f fd)
  (h:∀ (kV doc pm:Value) (an:Option Addr) (cdv ct:Value) (us:List Value),us.length=ps.length->bindArgs (PySem.W.fnOf x qual (defArgs st) (defBody st) (defScope st) .none kV doc pm an cdv ct) ⟨us,[]⟩ = pure (ps.zip us)):Binds K fd ps []:=by
 obtain ⟨oc,od,kV,doc,pm,an,cdv,ct,osl,rfl,lk,hcd⟩:=F.ex
 exact .all (h kV doc pm an cdv ct)
theorem Zbj {x qual:Str} {st:Stmt} {f:Addr} {oc:Value} {od an:Option Addr} {osl:Array (Option Value)} {kV doc pm cdv ct:Value} (l:K.lookup f=some ⟨oc,od,.func (PySem.W.fnOf x qual (defArgs st) (defBody st) (defScope st) .none kV doc pm an cdv ct),osl⟩)
  (c:PySem.W.codeIn K cdv qual=true) (k:PySem.W.keepIn K (.ref f)=true):Fun K x qual st f (PySem.W.fnOf x qual (defArgs st) (defBody st) (defScope st) .none kV doc pm an cdv ct):=⟨⟨oc,od,kV,doc,pm,an,cdv,ct,osl,rfl,l,c⟩,k⟩
end
theorem Zb7 {A:Around} {k:Nat} (hr:Room k A):A.units + 1 < cLine:=Nat.lt_of_le_of_lt (Nat.add_le_add_left (by decide:1<=64) _) hr.units
theorem small1000 {n:Nat} (h:n<=1000):n < sizeLine:=Nat.lt_of_le_of_lt h (by decide)
section
variable {X:Cx}
theorem pv (i:Nat) {x:Str} {pos:Pos} (hN:X.N[i]? = some x:=by rfl) (hv:Vis X.env.scope x:=by first | exact Or.inl rfl | exact Or.inr (Or.inl rfl) | exact Or.inr (Or.inr rfl)) (hd:(x == ("__debug__":Str))=false:=by decide)
  (hcd:(x == ("__classdict__":Str))=false:=by decide):PE X (.Name x pos) (tVar i):=Zpc hN hv hd hcd
end
theorem iteF {A B:Prop} (h:B):if false=true then A else B:=by
 rw [if_neg Bool.false_ne_true]
 exact h
theorem iteT {A B:Prop} (h:A):if true=true then A else B:=by
 rw [if_pos rfl]
 exact h
theorem ite2 {c A B:Prop} [Decidable c] (h1:c->A) (h2:¬ c->B):if c then A else B:=by
 by_cases h:c
 ·rw [if_pos h]
  exact h1 h
 ·rw [if_neg h]
  exact h2 h
def Same (H H':Hp):Prop:=∀ b o,H b=some o->H' b=some o
theorem Same.refl (H:Hp):Same H H:=fun _ _ h=>h
theorem Same.trans {H H1 H2:Hp} (a:Same H H1) (b:Same H1 H2):Same H H2:=fun c o h=>b c o (a c o h)
theorem Same.seq {K:PySem.W.Frag} {H H':Hp} {a:Addr} {xs:List V} (e:Same H H') (h:SqL K H a xs):SqL K H' a xs:=by
 rcases h with (h | ⟨o,h⟩) | h
 ·exact .inl (.inl (e _ _ h))
 ·exact .inl (.inr ⟨o,e _ _ h⟩)
 ·exact .inr h
end L2
namespace L2
open PySem PySem.Spec PyProof.Rows
section
variable {κ:Type} [DecidableEq κ]
def valV (kvs:List (κ × V)) (k:κ):Option V:=(kvs.find? fun kv=>decide (kv.1=k)).map (·.2)
def putK (kvs:List (κ × V)) (k:κ) (v:V):List (κ × V):=
 if (kvs.any fun kv=>decide (kv.1=k))=true then kvs.map (fun kv=>if kv.1=k then (kv.1,v) else kv) else kvs ++ [(k,v)]
theorem Zf3 {p:κ × V} {r:List (κ × V)} {k:κ} (e:p.1=k):valV (p :: r) k=some p.2:=by simp [valV,List.find?_cons,e]
theorem Zf0 {p:κ × V} {r:List (κ × V)} {k:κ} (e:¬ p.1=k):valV (p :: r) k=valV r k:=by simp [valV,List.find?_cons,e]
theorem Zhu (k:κ):∀ kvs:List (κ × V),(kvs.any fun kv=>decide (kv.1=k))=(valV kvs k).isSome
 | []=>rfl
 | p :: r=>by
  rw [List.any_cons]
  by_cases e:p.1=k
  ·simp only [Zf3 e,decide_eq_true e,Bool.true_or,Option.isSome_some]
  ·rw [Zf0 e,decide_eq_false e,Bool.false_or]; exact Zhu k r
theorem Ze0 (kvs:List (κ × V)) (k:κ) (v:V):(putK kvs k v).length<=kvs.length + 1:=by
 unfold putK
 split
 ·rw [List.length_map]; omega
 ·rw [List.length_append,List.length_cons,List.length_nil]; omega
theorem RelO.isSome_eq {o:Option V} {u:Option Value} (r:RelO o u):o.isSome=u.isSome:=by
 cases o with
 | none=>cases u with
  | none=>rfl
  | some _=>exact (show False from r).elim
 | some _=>cases u with
  | none=>exact (show False from r).elim
  | some _=>rfl
theorem KV.val {kvs:List (κ × V)} {vs:List (κ × Value)} (r:KV kvs vs) (k:κ):RelO (valV kvs k) (valueAt vs k):=by
 unfold KV at r
 induction r with
 | nil=>exact True.intro
 | @cons p q ps qs h t ih=>
  obtain ⟨h1,h2⟩:=h
  by_cases e:p.1=k
  ·have e':q.1=k:=h1.symm.trans e
   have b:valueAt (q :: qs) k=some q.2:=by simp [valueAt,List.find?_cons,e']
   rw [Zf3 e,b]; exact h2
  ·have e':¬ q.1=k:=fun z=>e (h1.trans z)
   have b:valueAt (q :: qs) k=valueAt qs k:=by simp [valueAt,List.find?_cons,e']
   rw [Zf0 e,b]; exact ih
theorem KV.any {kvs:List (κ × V)} {vs:List (κ × Value)} (r:KV kvs vs) (k:κ):(kvs.any fun kv=>decide (kv.1=k))=vs.any fun kv=>decide (kv.1=k):=by
 unfold KV at r
 induction r with
 | nil=>rfl
 | cons h t ih=>rw [List.any_cons,List.any_cons,ih,h.1]
theorem KV.repl {kvs:List (κ × V)} {vs:List (κ × Value)} (r:KV kvs vs) (k:κ) {y:V} {u:Value} (ry:RelV y u) :
  KV (kvs.map fun kv=>if kv.1=k then (kv.1,y) else kv) (vs.map fun kv=>if kv.1=k then (kv.1,u) else kv):=by
 unfold KV at r ⊢
 induction r with
 | nil=>exact .nil
 | @cons p q ps qs h t ih=>
  rw [List.map_cons,List.map_cons]
  refine .cons ?_ ih
  obtain ⟨h1,h2⟩:=h
  by_cases e:p.1=k
  ·rw [if_pos e,if_pos (h1.symm.trans e)]; exact ⟨h1,ry⟩
  ·rw [if_neg e,if_neg (fun z=>e (h1.trans z))]; exact ⟨h1,h2⟩
theorem KV.put {kvs:List (κ × V)} {vs:List (κ × Value)} (r:KV kvs vs) (k:κ) {y:V} {u:Value} (ry:RelV y u):KV (putK kvs k y) (stored vs k u):=by
 unfold putK stored
 rw [r.any k]
 by_cases e:(vs.any fun kv=>decide (kv.1=k))=true
 ·rw [if_pos e,if_pos e]; exact r.repl k ry
 ·rw [if_neg e,if_neg e]; exact Paired.snoc r ⟨rfl,ry⟩
theorem KV.length {kvs:List (κ × V)} {vs:List (κ × Value)} (r:KV kvs vs):kvs.length=vs.length:=Paired.length r
end
theorem Zlr {P:Program} {w:World} {k:Key} {u:Value} (r:RelV (kV k) u):(mixKind P w).is k u=true:=by
 cases k with
 | inl i=>obtain ⟨t,e⟩:=(show ∃ t,u=Value.int i t from r); subst e; exact Zhf P w i t
 | inr x=>obtain ⟨t,e⟩:=(show ∃ t,u=Value.str x t from r); subst e; exact Zhd P w x t
theorem Zg5 {P:Program} {w:World}:∀ {ks:List Key} {us:List Value},Vals (ks.map kV) us->ItemsAre (mixKind P w) ks us
 | [],_,r=>by rw [List.map_nil] at r; cases r; exact .nil
 | k :: ks,_,r=>by
  rw [List.map_cons] at r
  cases r with
  | cons h t=>exact .cons (Zlr h) (Zg5 t)
abbrev KT (H:Hp):List (List Key × V)->List (List Key × Addr × Value)->Prop:=Paired fun p q=>p.1=q.1/\H q.2.1=some (.tup (p.1.map kV))/\RelV p.2 q.2.2
theorem KT.val {H:Hp} {kvs:List (List Key × V)} {xs:List (List Key × Addr × Value)} (r:KT H kvs xs) (k:List Key):RelO (valV kvs k) ((atKey xs k).map (·.2)):=by
 induction r with
 | nil=>exact True.intro
 | @cons p q ps qs h t ih=>
  obtain ⟨h1,_,h2⟩:=h
  by_cases e:p.1=k
  ·have e':q.1=k:=h1.symm.trans e
   have b:atKey (q :: qs) k=some q.2:=by simp [atKey,List.find?_cons,e']
   rw [Zf3 e,b]; exact h2
  ·have e':¬ q.1=k:=fun z=>e (h1.trans z)
   have b:atKey (q :: qs) k=atKey qs k:=by simp [atKey,List.find?_cons,e']
   rw [Zf0 e,b]; exact ih
theorem KT.repl {H:Hp} {kvs:List (List Key × V)} {xs:List (List Key × Addr × Value)} (r:KT H kvs xs) (k:List Key) {y:V} {u:Value} (ry:RelV y u) :
  KT H (kvs.map fun kv=>if kv.1=k then (kv.1,y) else kv) (xs.map (putAt k u)):=by
 induction r with
 | nil=>exact .nil
 | @cons p q ps qs h t ih=>
  rw [List.map_cons,List.map_cons]
  refine .cons ?_ ih
  obtain ⟨h1,h2,h3⟩:=h
  unfold putAt
  by_cases e:p.1=k
  ·rw [if_pos e,if_pos (h1.symm.trans e)]; exact ⟨h1,h2,ry⟩
  ·rw [if_neg e,if_neg (fun z=>e (h1.trans z))]; exact ⟨h1,h2,h3⟩
theorem KT.put {H:Hp} {kvs:List (List Key × V)} {xs:List (List Key × Addr × Value)} (r:KT H kvs xs) (k:List Key) {b:Addr} {y:V} {u:Value} (hb:H b=some (.tup (k.map kV))) (ry:RelV y u) :
  KT H (putK kvs k y) (storedH xs k b u):=by
 have e:(kvs.any fun kv=>decide (kv.1=k))=(atKey xs k).isSome:=by
  rw [Zhu,(r.val k).isSome_eq,Option.isSome_map]
 unfold putK storedH
 rw [e]
 by_cases q:(atKey xs k).isSome=true
 ·rw [if_pos q,if_pos q]; exact r.repl k ry
 ·rw [if_neg q,if_neg q]; exact Paired.snoc r ⟨rfl,hb,ry⟩
theorem KT.keeps {H H':Hp} {kvs:List (List Key × V)} {xs:List (List Key × Addr × Value)} (r:KT H kvs xs) (ht:∀ b ys,H b=some (.tup ys)->H' b=some (.tup ys)):KT H' kvs xs:=
 Paired.mapP r fun _ _ z=>⟨z.1,ht _ _ z.2.1,z.2.2⟩
section
variable {P:Program} {w:World} {H:Hp} {h:Heap} {a:Addr}
theorem Zp4 {u:HO} (ok:HOk P w H h) (e:Rd H a u):ObjOk P w H h a u:=e.ok ok
theorem Zko {kvs:List (Key × V)} (ok:HOk P w H h) (e:Rd H a (.dK kvs)):kvs.length<=sizeLine/\(a == sysModules)=false/\∃ vs,KV kvs vs/\h.DictOf (mixKind P w) a vs:=
 show ObjOk P w H h a (.dK kvs) from Zp4 ok e
theorem Zqk {kvs:List (Key × V)} (ok:HOk P w H h) (e:H a=some (.dK kvs)):kvs.length<=sizeLine/\(a == sysModules)=false/\∃ vs,KV kvs vs/\h.DictOf (mixKind P w) a vs:=Zko ok (.inl e)
theorem Zh6 {ks:List Key} (ok:HOk P w H h) (e:H a=some (.tup (ks.map kV))):(tupleKind (mixKind P w)).is h ks a:=by
 obtain ⟨_,its,r,o,h1,⟨h2,n,h3⟩,_⟩:=(show ObjOk P w H h a (.tup (ks.map kV)) from ok a _ e)
 exact ⟨o,its.toArray,n,h1,h2,h3,by simpa using Zg5 r⟩
theorem Zmf {kvs:List (List Key × V)} (ok:HOk P w H h) (e:Rd H a (.dT kvs)):kvs.length<=sizeLine/\(a == sysModules)=false ∧
  ∃ xs,KT H kvs xs/\h.DictOfH (tupleKind (mixKind P w)) a xs:=by
 obtain ⟨z,y,xs,r,o,es,ep,h1,h2,h3,h4,h5⟩:=(show ObjOk P w H h a (.dT kvs) from Zp4 ok e)
 refine ⟨z,y,xs,r,o,es,ep,h1,h2,h3,h4,fun x hx=>?_,h5⟩
 have all:∀ {l:List (List Key × V)} {m:List (List Key × Addr × Value)},KT H l m->∀ x ∈ m,(tupleKind (mixKind P w)).is h x.1 x.2.1:=by
  intro l m q
  induction q with
  | nil=>intro x hx; exact nomatch hx
  | @cons p q ps qs hq t ih=>
   intro x hx
   rcases List.mem_cons.mp hx with e | hx
   ·subst e
    exact Zh6 ok (by rw [<- hq.1]; exact hq.2.1)
   ·exact ih x hx
 exact all r x hx
theorem Zqh {kvs:List (List Key × V)} (ok:HOk P w H h) (e:H a=some (.dT kvs)):kvs.length<=sizeLine/\(a == sysModules)=false ∧
  ∃ xs,KT H kvs xs/\h.DictOfH (tupleKind (mixKind P w)) a xs:=Zmf ok (.inl e)
end
def DGet (H:Hp) (a:Addr) (y:V) (r:Option V):Prop:=
 (∃ kvs k,Rd H a (.dK kvs)/\y=kV k/\r=valV kvs k)\/∃ kvs k b,Rd H a (.dT kvs)/\y=.ref b/\H b=some (.tup (k.map kV))/\r=valV kvs k
def DPut (H:Hp) (a:Addr) (y v:V) (H':Hp):Prop:=
 (∃ kvs k,H a=some (.dK kvs)/\y=kV k/\kvs.length < sizeLine/\H' = upd H a (.dK (putK kvs k v))) ∨
 ∃ kvs k b,H a=some (.dT kvs)/\y=.ref b/\H b=some (.tup (k.map kV))/\kvs.length < sizeLine/\H' = upd H a (.dT (putK kvs k v))
section
variable {X:Cx} {pins:List (Addr × Obj)} {σ:St} {H:Hp} {s:Shared} {a:Addr} {y v:V} {u r:Value} {o:Option V} {A:Around} {E:Value->Shared->Prop}
theorem Zi4 {Q:Value->Shared->Prop} (hu:A.units + 1 < cLine) (I:Inv X pins σ H s) (g:DGet H a y (some v)) (ry:RelV y u) (h:∀ w' s',Inv X pins σ H s' -> RelV v w' -> Q w' s') :
  wpAny (model X.prog X.w) A (getItem (.ref a) u) Q E s:=by
 rcases g with ⟨kvs,k,e,ey,l⟩ | ⟨kvs,k,b,e,ey,eb,l⟩
 ·subst ey
  obtain ⟨z,hd,vs,rel,dd⟩:=Zko I.hok e
  obtain ⟨w',hw,rw'⟩:=RelO.some_of (v:=v) (o:=valueAt vs k) (by rw [l]; exact rel.val k)
  exact wpAny_getItem_of (Zlr ry) dd.mapOf hw (h w' _ (I.tok _) rw')
 ·subst ey
  cases (show u=Value.ref b from ry)
  obtain ⟨z,hd,xs,rel,dd⟩:=Zmf I.hok e
  obtain ⟨w',hw,rw'⟩:=RelO.some_of (v:=v) (o:=(atKey xs k).map (·.2)) (by rw [l]; exact rel.val k)
  obtain ⟨p,hp,hp2⟩:=Option.map_eq_some_iff.mp hw
  refine wpAny_getItem_heap (tupleKind_room_in1 hu) (Zh6 I.hok eb) dd hp ?_
  rw [hp2]
  exact h w' _ (I.tok _) rw'
theorem Zm0 {Q:Value->Shared->Prop} (hu:A.units + 1 < cLine) (I:Inv X pins σ H s) (g:DGet H a y o) (ry:RelV y u) (h:∀ s',Inv X pins σ H s' -> Q (.bool (!o.isSome)) s') :
  wpAny (model X.prog X.w) A (compareOp .NotIn u (.ref a)) Q E s:=by
 rcases g with ⟨kvs,k,e,ey,l⟩ | ⟨kvs,k,b,e,ey,eb,l⟩
 ·subst ey
  obtain ⟨z,hd,vs,rel,dd⟩:=Zko I.hok e
  refine wpAny_notIn_of (Zlr ry) hd dd.mapOf ?_
  rw [<- (rel.val k).isSome_eq,<- l]
  exact h _ (I.tok _)
 ·subst ey
  cases (show u=Value.ref b from ry)
  obtain ⟨z,hd,xs,rel,dd⟩:=Zmf I.hok e
  refine wpAny_notIn_heap (tupleKind_room_in1 hu) (Zh6 I.hok eb) hd dd ?_
  have q:=(rel.val k).isSome_eq
  rw [Option.isSome_map] at q
  rw [<- q,<- l]
  exact h _ (I.tok _)
theorem Zi8 {h':Heap} {t':Nat} {ob:HO} (I:Inv X pins σ H s) (mu:Mut (H a)) (hs:Heap.SameBut a s.heap h') (he:∃ q,h'.get? a=some q) (new:ObjOk X.prog X.w (upd H a ob) h' a ob) :
  Inv X pins σ (upd H a ob) { s with heap:=h',toks:=t' }:=
 I.write (x:=a) (e:=a) mu (.inl rfl) (fun b q hb z=>(hs.2 b hb).trans z) he new
theorem Zpt {P:Program} {w:World} {H':Hp} {h':Heap} {kvs:List (Key × V)} {vs:List (Key × Value)} (z:kvs.length<=sizeLine) (hd:(a == sysModules)=false) (rel:KV kvs vs) (dd:h'.DictOf (mixKind P w) a vs) :
  ObjOk P w H' h' a (.dK kvs):=⟨z,hd,vs,rel,dd⟩
theorem Zke {H':Hp} {Q:Unit->Shared->Prop} (hu:A.units + 1 < cLine) (I:Inv X pins σ H s) (g:DPut H a y v H') (ry:RelV y u) (rv:RelV v r) (h:∀ s',Inv X pins σ H' s' -> Q () s') :
  wpAny (model X.prog X.w) A (setItem (.ref a) u r) Q E s:=by
 rcases g with ⟨kvs,k,e,ey,l,eH⟩ | ⟨kvs,k,b,e,ey,eb,l,eH⟩
 ·subst ey eH
  obtain ⟨z,hd,vs,rel,dd⟩:=Zqk I.hok e
  have hz:vs.length<=sizeLine:=by rw [<- rel.length]; exact z
  have hl:(putK kvs k v).length<=sizeLine:=by have:=Ze0 kvs k v; omega
  refine wpAny_setItem_pairs (hsz:=hz) (Zlr ry) dd fun h' dd' hs=>h _ ?_
  have he:∃ q,h'.get? a=some q:=let ⟨q,_,_,hq,_⟩:=dd'; ⟨q,hq⟩
  exact Zi8 I (by rw [e]; exact True.intro) hs he (Zpt hl hd (rel.put k rv) dd')
 ·subst ey eH
  cases (show u=Value.ref b from ry)
  obtain ⟨z,hd,xs,rel,dd⟩:=Zqh I.hok e
  have hz:xs.length<=sizeLine:=by rw [<- Paired.length rel]; exact z
  have hl:(putK kvs k v).length<=sizeLine:=by have:=Ze0 kvs k v; omega
  refine wpAny_setItem_heap (hsz:=hz) (tupleKind_room_in1 hu) (Zh6 I.hok eb) dd fun h' dd' hs=>h _ ?_
  obtain ⟨q,es,ep,hq,h2,h3,h4,_,h5⟩:=dd'
  refine Zi8 I (by rw [e]; exact True.intro) hs ⟨q,hq⟩ ⟨hl,hd,_,(rel.put k eb rv).keeps fun c ys ec=>?_,q,es,ep,hq,h2,h3,h4,h5⟩
  rw [Zao (Zqi ec e (fun z=>nomatch z))]
  exact ec
end
section
variable {X:Cx} {pins:List (Addr × Obj)} {σ:St} {H:Hp} {s:Shared} {a:Addr} {kvs:List (Key × V)} {k:Key} {u:Value} {A:Around} {E:Value->Shared->Prop}
theorem Zqq {Q:Value->Shared->Prop} (I:Inv X pins σ H s) (e:Rd H a (.dK kvs)) (h:∀ t s',Inv X pins σ H s' -> Q (.int kvs.length t) s'):wpAny (model X.prog X.w) A (call (.builtin "len") [.ref a]) Q E s:=by
 obtain ⟨z,hd,vs,rel,dd⟩:=Zko I.hok e
 refine call_len_dict hd dd (by rw [<- rel.length]; rw [sizeLine_eq] at z; omega) ?_
 rw [<- rel.length]
 exact h _ _ (I.tok _)
end
theorem Zhp {X:Cx} {pins:List (Addr × Obj)} {σ:St} {H:Hp} {s:Shared} {a:Addr} {y:V} {o:Option V} (I:Inv X pins σ H s) (g:DGet H a y o):s.TypeIs (.ref a) "dict":=by
 rcases g with ⟨kvs,k,e,_,_⟩ | ⟨kvs,k,b,e,_,_,_⟩
 ·obtain ⟨_,_,vs,_,dd⟩:=Zko I.hok e
  exact dd.typeIs
 ·obtain ⟨_,_,xs,_,dd⟩:=Zmf I.hok e
  exact dd.typeIs
section
variable {X:Cx} {pos:Pos}
end
section
variable {X:Cx} {o e f:Expr} {apos cpos:Pos} {td ty tx:TE}
end
section
variable {X:Cx} {pins:List (Addr × Obj)} {σ:St} {H:Hp} {s:Shared} {a:Addr} {y:V} {u:Value} {A:Around} {E:Value->Shared->Prop}
end
end L2
namespace L2
open PySem PySem.Spec PyProof.Rows
section
variable {X:Cx}
theorem Zkb:CallR X (.builtin "len") (fun xs H Q=>∃ a kvs,xs=[V.ref a]/\H a=some (.dK kvs)/\Q (.int kvs.length) H):=by
 intro pins s σ H xs us Q I r h
 obtain ⟨a,kvs,rfl,ha,q⟩:=h
 obtain ⟨u,rfl,ru⟩:=vals1 r
 cases ru
 exact Zqq I (.inl ha) fun t s' I'=>⟨.int kvs.length,H,I',⟨t,rfl⟩,q⟩
end
end L2
set_option Elab.async false
set_option linter.all false
set_option maxRecDepth 100000
namespace L2
open PySem PySem.Spec PyProof.Rows
def clOf (env:Env):List (Str × NameKind)->List (Str × Addr)->List (Str × Addr)
 | [],cs=>cs
 | (n,k) :: r,cs=>if k == .free then (match env.cells.lookup n with
     | some a=>clOf env r ((n,a) :: cs)
     | none=>clOf env r cs) else clOf env r cs
theorem Ze7 {env:Env}:∀ (names:List (Str × NameKind)) (cs:List (Str × Addr)),(∀ n,(n,NameKind.free) ∈ names->∃ a,env.cells.lookup n=some a) →
  (forIn names cs fun (x:Str × NameKind) (cs:List (Str × Addr))=>if (x.2 == .free)=true then (do let a ← cellOf env x.1; pure (ForInStep.yield ((x.1,a) :: cs))) else pure (ForInStep.yield cs):Sem (List (Str × Addr)))=pure (clOf env names cs)
 | [],cs,_=>rfl
 | (n,k) :: r,cs,h=>by
  rw [List.forIn_cons]
  have hr:∀ m,(m,NameKind.free) ∈ r->∃ a,env.cells.lookup m=some a:=fun m hm=>h m (List.mem_cons_of_mem _ hm)
  cases hk:k == NameKind.free with
  | false=>
   have e:clOf env ((n,k) :: r) cs=clOf env r cs:=by simp [clOf,hk]
   rw [e,<- Ze7 r cs hr]
   simp only [hk,Bool.false_eq_true,if_false]
   rfl
  | true=>
   have hk':k=.free:=by simpa using hk
   subst hk'
   obtain ⟨a,ha⟩:=h n List.mem_cons_self
   have e:clOf env ((n,.free) :: r) cs=clOf env r ((n,a) :: cs):=by simp [clOf,ha]
   have ec:cellOf env n=pure a:=by simp [cellOf,ha]
   rw [e,<- Ze7 r ((n,a) :: cs) hr]
   simp only [hk,if_true,ec]
   rfl
theorem Zdf {env:Env} {scope:Scope} (h:∀ n,(n,NameKind.free) ∈ scope.names->∃ a,env.cells.lookup n=some a):closureFor scope env=pure (clOf env scope.names []):=by
 rw [<- Ze7 scope.names [] h]
 simp only [closureFor]
 exact Eq.trans (bind_pure _) rfl
theorem Zbz {env:Env}:∀ (names:List (Str × NameKind)) (cs:List (Str × Addr)) {x:Str} {c:Addr},(∀ y d,cs.lookup y=some d->env.cells.lookup y=some d)->(clOf env names cs).lookup x=some c->env.cells.lookup x=some c
 | [],cs,x,c,h,e=>h x c e
 | (n,k) :: r,cs,x,c,h,e=>by
  unfold clOf at e
  split at e
  ·split at e
   ·rename_i a ha
    refine Zbz r ((n,a) :: cs) (fun y d q=>?_) e
    rw [List.lookup_cons] at q
    split at q
    ·rename_i hy
     have hy':y=n:=by simpa using hy
     cases q
     rw [hy']; exact ha
    ·exact h y d q
   ·exact Zbz r cs h e
  ·exact Zbz r cs h e
theorem Zdz {env:Env}:∀ (names:List (Str × NameKind)) (cs:List (Str × Addr)) {x:Str},(∃ c,cs.lookup x=some c)->∃ c,(clOf env names cs).lookup x=some c
 | [],cs,x,h=>h
 | (n,k) :: r,cs,x,h=>by
  have h2:∀ a,∃ c,((n,a) :: cs).lookup x=some c:=fun a=>by
   rw [List.lookup_cons]
   split
   ·exact ⟨_,rfl⟩
   ·exact h
  unfold clOf
  split
  ·split
   ·exact Zdz r _ (h2 _)
   ·exact Zdz r cs h
  ·exact Zdz r cs h
theorem Zd4 {env:Env}:∀ (names:List (Str × NameKind)) (cs:List (Str × Addr)) {x:Str},(x,NameKind.free) ∈ names->(∃ a,env.cells.lookup x=some a)->∃ c,(clOf env names cs).lookup x=some c
 | [],_,_,h,_=>by simp at h
 | (n,k) :: r,cs,x,h,⟨a,ha⟩=>by
  rcases List.mem_cons.mp h with e | hm
  ·have e1:n=x:=(congrArg Prod.fst e).symm
   have e2:k=.free:=(congrArg Prod.snd e).symm
   subst e1; subst e2
   have e:clOf env ((n,.free) :: r) cs=clOf env r ((n,a) :: cs):=by simp [clOf,ha]
   rw [e]
   exact Zdz r _ ⟨a,by simp⟩
  ·unfold clOf
   split
   ·split
    ·exact Zd4 r _ hm ⟨a,ha⟩
    ·exact Zd4 r _ hm ⟨a,ha⟩
   ·exact Zd4 r _ hm ⟨a,ha⟩
def relab (osc scope:Scope):Scope:=
 { scope with names:=scope.names.map fun (n,k)=>if (k == .free && osc.kind == .function && osc.names.lookup n == some .cell) then (n,.cell) else (n,k) }
theorem Zgo {osc scope:Scope} {x:Str} {k:NameKind} (hk:k=.cell\/k=.free) (hc:∀ y ∈ scope.names,y.2 ≠ .cell) (h:(relab osc scope).names.lookup x=some k):(x,NameKind.free) ∈ scope.names:=by
 have hm:=PySem.mem_of_lookup h
 obtain ⟨⟨n,j⟩,hy,e⟩:=List.mem_map.mp hm
 dsimp only at e
 split at e
 ·rename_i hj
  have e1:n=x:=congrArg Prod.fst e
  have hj':j=.free:=by
   simp only [Bool.and_eq_true,beq_iff_eq] at hj
   exact hj.1.1
  rw [<- e1,<- hj']; exact hy
 ·have e1:n=x:=congrArg Prod.fst e
  have e2:j=k:=congrArg Prod.snd e
  rcases hk with z | z
  ·exact absurd (show ((n,j):Str × NameKind).2=.cell from e2.trans z) (hc _ hy)
  ·rw [<- e1,<- z,<- e2]; exact hy
theorem Zfb {osc:Scope} {x:Str}:∀ {names:List (Str × NameKind)},names.lookup x=some .free →
  (names.map fun (n,k)=>if (k == NameKind.free && osc.kind == .function && osc.names.lookup n == some .cell) then (n,NameKind.cell) else (n,k)).lookup x=some .cell ∨
  (names.map fun (n,k)=>if (k == NameKind.free && osc.kind == .function && osc.names.lookup n == some .cell) then (n,NameKind.cell) else (n,k)).lookup x=some .free
 | [],h=>by simp at h
 | (n,k) :: r,h=>by
  have ih:=@Zfb osc x r
  rw [List.map_cons]
  cases hx:x == n with
  | true=>
   simp only [List.lookup_cons,hx] at h
   cases h
   dsimp only
   split
   ·left; simp [List.lookup_cons,hx]
   ·right; simp [List.lookup_cons,hx]
  | false=>
   simp only [List.lookup_cons,hx] at h
   dsimp only
   split
   ·simpa only [List.lookup_cons,hx] using ih h
   ·simpa only [List.lookup_cons,hx] using ih h
structure CompSc (osc:Scope) (oN:List Str) (scope:Scope) (fvs:List Str) (sel:List Nat):Prop where
 kind:scope.kind=.function
 nocell:∀ y ∈ scope.names,y.2 ≠ .cell
 names:∀ y ∈ scope.names,y.2=.local->scope.names.lookup y.1=some .local
 free:∀ y ∈ scope.names,y.2=.free->osc.names.lookup y.1=some .cell\/osc.names.lookup y.1=some .free
 len:fvs.length=sel.length
 fv:∀ p ∈ fvs.zip sel,oN[p.2]? = some p.1/\scope.names.lookup p.1=some .free
def compCx (X:Cx) (scope:Scope) (N:List Str) (C:Addr) (s:Shared) (H:Hp) (ex:List Addr) (pn:List (Addr × Obj)):Cx where
 prog:=X.prog
 w:=X.w
 K:=X.K
 mg:=X.mg
 base:=X.base
 A:=X.A
 N:=N
 s₀:=s
 H₀:=H
 env:=compEnvC scope (clOf X.env scope.names []) C X.env
 outer:=X.stack
 stack:=X.stack
 ex:=ex
 fn:=fun _=>false
 calm:=X.calm
 pn:=pn
 xe:=fun _ _=>False
def compSt (n:Nat) (sel:List Nat) (σ:St):St:=List.replicate n none ++ sel.map fun i=>(σ[i]?).getD none
section
variable {X:Cx} {pins:List (Addr × Obj)} {σ:St} {H:Hp} {s:Shared} {fp:List Addr} {scope:Scope} {tgs fvs:List Str} {sel:List Nat}
theorem Zeb (S:CompSc X.env.scope X.N scope fvs sel) (ok:X.Ok):∀ n,(n,NameKind.free) ∈ scope.names->∃ a,X.env.cells.lookup n=some a:=fun n hn=>
 ok.has n (S.free _ hn rfl)
theorem Znv (S:CompSc X.env.scope X.N scope fvs sel) (N:List Str) (I:Inv X pins σ H s) (hf:∀ b ∈ fp,FpOk X pins H b) (hlt:∀ b ∈ fp,b < s.heap.objs.size):(compCx X scope N s.heap.objs.size s H fp (X.pn ++ pins)).Ok where
 mod:=I.ok.mod
 kind:=S.kind
 glob:=I.ok.glob
 blt:=I.ok.blt
 above:=Nat.le_refl _
 inj:=fun x y c h1 h2=>I.ok.inj x y c (Zbz _ _ (fun _ _ z=>by simp at z) h1) (Zbz _ _ (fun _ _ z=>by simp at z) h2)
 has:=fun x hx=>by
  have hm:(x,NameKind.free) ∈ scope.names:=by
   rcases hx with z | z
   ·exact Zgo (osc:=X.env.scope) (.inl rfl) S.nocell z
   ·exact Zgo (osc:=X.env.scope) (.inr rfl) S.nocell z
  exact Zd4 scope.names [] hm (Zeb S I.ok x hm)
 cab:=fun x c h _=>by cases h
 hd:=I.ok.hd
 frames:=I.ok.frames
 stk:=.inl rfl
 exf:=fun b hb=>⟨Nat.ne_of_lt (hlt b hb),fun x c e=>(hf b hb).2.2.2.2.1 x c (Zbz _ _ (fun _ _ z=>by simp at z) e)⟩
 bs:=I.bs
 bsz:=Nat.le_trans I.ok.bsz I.sz
 noex:=fun b o e hb=>by
  rcases (hf b hb).2.2.2.1 with z | z
  ·exact I.ok.noex b o e z
  ·exact absurd (Nat.lt_of_lt_of_le (Heap.lt_size e) (Nat.le_trans I.ok.bsz z)) (Nat.lt_irrefl _)
 exfs:=fun b hb z=>by
  rcases List.mem_cons.mp (I.stkSub b z) with e | z
  ·exact (hf b hb).2.1 e
  ·exact (hf b hb).2.2.1 z
 funs:=I.stack
 frf:=I.stkFree
theorem Zly (S:CompSc X.env.scope X.N scope fvs sel) (I:Inv X pins σ H s) (hf:∀ b ∈ fp,FpOk X pins H b) (hlt:∀ b ∈ fp,b < s.heap.objs.size) {h':Heap} {tk:Nat} {m:Str->Option Value}
  (hns:h'.Ns s.heap.objs.size m) (old:∀ b o,s.heap.get? b=some o->h'.get? b=some o) :
  Inv (compCx X scope (tgs ++ fvs) s.heap.objs.size s H fp (X.pn ++ pins)) [] (compSt tgs.length sel σ) H { s with heap:=h',toks:=tk } where
 ok:=Znv S _ I hf hlt
 os:=rfl
 bare:=I.bare
 base:=Un.kept old
 loc:=by
  refine ⟨m,hns,fun i x v h1 h2 h3=>?_⟩
  have h1:(tgs ++ fvs)[i]? = some x:=h1
  unfold compSt at h2
  by_cases hi:i < tgs.length
  ·rw [List.getElem?_append_left (by simpa using hi),List.getElem?_replicate,if_pos hi] at h2
   cases h2
  ·have hi':tgs.length<=i:=Nat.le_of_not_lt hi
   rw [List.getElem?_append_right (by simpa using hi'),List.getElem?_map,List.length_replicate] at h2
   rw [List.getElem?_append_right hi'] at h1
   cases hj:sel[i - tgs.length]? with
   | none=>rw [hj] at h2; cases h2
   | some j=>
    rw [hj] at h2
    have h2:(σ[j]?).getD none=some v:=by simpa using h2
    have hz:(x,j) ∈ fvs.zip sel:=by
     refine List.mem_of_getElem? (i:=i - tgs.length) ?_
     rw [List.getElem?_zip_eq_some]
     exact ⟨h1,hj⟩
    obtain ⟨hN,hfr⟩:=S.fv _ hz
    have hσ:σ[j]? = some (some v):=by
     cases q:σ[j]? with
     | none=>rw [q] at h2; cases h2
     | some o=>rw [q] at h2; exact congrArg some h2
    have hko:X.env.scope.names.lookup x=some .cell\/X.env.scope.names.lookup x=some .free:=S.free (x,.free) (PySem.mem_of_lookup hfr) rfl
    obtain ⟨m0,hn0,hl0⟩:=I.loc
    obtain ⟨u,r,l⟩:=hl0 j x v hN hσ (.inr hko)
    refine ⟨u,r,.inr ⟨Zfb hfr,?_⟩⟩
    rcases l with ⟨hk,_⟩ | ⟨_,c,hc,hcell⟩
    ·have hk:X.env.scope.names.lookup x=some .local:=hk
     rcases hko with z | z <;> (rw [hk] at z; cases z)
    ·obtain ⟨c',hc'⟩:=Zd4 scope.names [] (PySem.mem_of_lookup hfr) ⟨c,hc⟩
     have e:=Zbz scope.names [] (fun _ _ z=>by simp at z) hc'
     rw [hc] at e; cases e
     obtain ⟨o,ho,hd⟩:=hcell
     exact ⟨c,hc',o,old _ _ ho,hd⟩
 cell:=fun x c e=>by
  obtain ⟨v,o,ho,hd⟩:=I.cell x c (Zbz _ _ (fun _ _ z=>by simp at z) e)
  exact ⟨v,o,old _ _ ho,hd⟩
 free:=I.hok.fresh (Nat.le_refl _)
 freeC:=fun x c e=>I.freeC x c (Zbz _ _ (fun _ _ z=>by simp at z) e)
 pin:=fun p hp=>by
  have hp:p ∈ (X.pn ++ pins) ++ []:=hp
  rw [List.append_nil] at hp
  obtain ⟨e,n,ne,nf,d⟩:=I.pin p hp
  refine ⟨old _ _ e,n,Nat.ne_of_lt (Heap.lt_size e),fun z=>?_,d⟩
  rcases List.mem_cons.mp (I.stkSub p.1 z) with q | q
  ·exact ne q
  ·exact nf q
 hok:=I.hok.kept old
 len:=by
  unfold compSt
  show _=(tgs ++ fvs).length
  rw [List.length_append,List.length_append,List.length_replicate,List.length_map,S.len]
theorem Zi7 {N:List Str} {σ':St} {H':Hp} {s':Shared} {h':Heap} (I:Inv X pins σ H s) (hf:∀ b ∈ fp,FpOk X pins H b)
  (J:Inv (compCx X scope N s.heap.objs.size s H fp (X.pn ++ pins)) [] σ' H' s') (sb:Heap.SameBut s.heap.objs.size s'.heap h'):Inv X pins σ H' { s' with heap:=h' }:=by
 have B:Un (frs X.stack) fp H H' s.heap s'.heap:=J.base
 have ne:∀ b o,s.heap.get? b=some o->b ≠ s.heap.objs.size:=fun b o e=>Nat.ne_of_lt (Heap.lt_size e)
 have fr:H' s.heap.objs.size=none:=J.free
 refine I.call' (s':={ s' with heap:=h' }) (ch:=fp) J.os ⟨fun b o e n h1 h2=>?_,fun b o e n h1 h2=>?_,B.free,fun b o e h2=>?_,B.tups,B.frzs,B.tbls⟩ (fun b ob e=>?_) J.bare fun b hb=>?_
 ·exact (sb.2 b (ne b o e)).trans (B.keep b o e n h1 h2)
 ·obtain ⟨sl,q⟩:=B.slot b o e n h1 h2
  exact ⟨sl,(sb.2 b (ne b o e)).trans q⟩
 ·obtain ⟨o',q⟩:=B.there b o e h2
  exact ⟨o',(sb.2 b (ne b o e)).trans q⟩
 ·refine (J.hok b ob e).stay (fun c w' hc q=>(sb.2 c ?_).trans q) (fun _ q=>q) fun _ _ q=>q
  intro z
  rcases hc with hc | hc
  ·rw [<- hc,z,fr] at e; cases e
  ·rw [z,fr] at hc; cases hc
 ·exact ⟨(hf b hb).2.2.2.1,(hf b hb).2.1,(hf b hb).2.2.2.2.1,(hf b hb).2.2.2.2.2⟩
end
def PTs (X:Cx) (ifs:List Expr) (t:TT):Prop:=
 ∀ (pins:List (Addr × Obj)) (s:Shared) (σ:St) (H:Hp) (Q:Bool->Hp->Prop),Inv X pins σ H s->t σ H Q →
  wpAny (model X.prog X.w) X.A (forIn ifs true fun c r=>if r=true then do let ok ← isTrue c X.env (eval c X.env); pure (ForInStep.yield ok) else pure (ForInStep.yield r)) (TP X pins σ Q) X.xe s
def tTrue:TT:=fun _ H Q=>Q true H
theorem Zck {X:Cx}:PTs X [] tTrue:=fun pins s σ H Q I h=>wpAny_tests_nil ⟨H,I,h⟩
theorem Ze2 {X:Cx} {c:Expr} {t:TT} (h:PT X c t):PTs X [c] t:=fun pins s σ H Q I hq=>wpAny_tests_one (h pins s σ H Q I hq)
def tComp (n:Nat) (sel:List Nat) (wi:TI) (g:TG) (tc:TT) (te:TE):TE:=fun σ H Q=>wi σ H fun J H1=>∀ acc,H1 acc=none->∃ W:Nat->Nat->St->Hp->Prop,
 (∃ m,W 0 m (compSt n sel σ) (upd H1 acc (.lst [])))/\∀ i m σ' H',W i m σ' H' →
  (J.stop i H' /\ Q (.ref acc) H')\/(J.go i H' /\ ∃ N:St->Hp->Prop,(∀ σ2 H2,N σ2 H2->∃ m',m' < m/\W (i + 1) m' σ2 H2) ∧
   ∀ x H2,J.yld i H' x H2->g x σ' H2 fun σ2 H3=>tc σ2 H3 fun b H4=>if b=true then te σ2 H4 fun y H5=>∃ ys,H5 acc=some (.lst ys)/\ys.length < sizeLine/\N σ2 (upd H5 acc (.lst (ys ++ [y]))) else N σ2 H4)
section
variable {X:Cx}
theorem Zgf {elt tg iter:Expr} {ifs:List Expr} {scope:Scope} {pos:Pos} {tgs fvs:List Str} {sel:List Nat} {g:TG} {tc:TT} {te:TE} (S:CompSc X.env.scope X.N scope fvs sel) {Cm:Cx->Prop} (hc:∀ C s H ex pn,Cm (compCx X scope (tgs ++ fvs) C s H ex pn))
  (hg:∀ C s H ex pn,PG (compCx X scope (tgs ++ fvs) C s H ex pn) tg g) (ht:∀ C s H ex pn,PTs (compCx X scope (tgs ++ fvs) C s H ex pn) ifs tc) (he:∀ C s H ex pn,PE (compCx X scope (tgs ++ fvs) C s H ex pn) elt te)
  {pins:List (Addr × Obj)} {σ:St} {s:Shared} {itv:Value} {Q:VK} {E:Value->Shared->Prop} {RR:Value->Addr->Result->Shared->Prop}
  (h2:PIEG Cm X pins σ tg (fun J H1=>∀ acc,H1 acc=none->∃ W:Nat->Nat->St->Hp->Prop,
   (∃ m,W 0 m (compSt tgs.length sel σ) (upd H1 acc (.lst [])))/\∀ i m σ' H',W i m σ' H' →
   (J.stop i H' /\ Q (.ref acc) H')\/(J.go i H' /\ ∃ N:St->Hp->Prop,(∀ σ2 H2,N σ2 H2->∃ m',m' < m/\W (i + 1) m' σ2 H2) ∧
   ∀ x H2,J.yld i H' x H2->g x σ' H2 fun σ2 H3=>tc σ2 H3 fun b H4=>if b=true then te σ2 H4 fun y H5=>∃ ys,H5 acc=some (.lst ys)/\ys.length < sizeLine/\N σ2 (upd H5 acc (.lst (ys ++ [y]))) else N σ2 H4)) itv s)
  (fin:∀ (s':Shared) (C acc:Addr) (H':Hp) (m:Str->Option Value),s'.heap.Ns C m->FpOk X pins H' C->(∀ h',Heap.SameBut C s'.heap h' -> Inv X pins σ H' { s' with heap:=h' })->Q (.ref acc) H' -> RR (.ref acc) C (.ok .next) s') :
  wpAny (model X.prog X.w) X.A (newList []) (fun acc s3=>wpAny (model X.prog X.w) X.A (newFunctionEnv scope X.env.globals (clOf X.env scope.names []) [] X.env.qual none .none (some X.env)) (fun cenv s4=>
   codeAny (model X.prog X.w) X.A (.compStart (.ListComp elt [⟨tg,iter,ifs,0⟩] scope pos) 0 itv acc { cenv with scope:=relabel scope X.env }) (RR acc cenv.locals) s4) E s3) E s:=by
 obtain ⟨it,fp,tn,J,H1,e,I,T,st,f2,h2⟩:=h2
 subst e
 have hlt:∀ b ∈ fp,b < s.heap.objs.size:=fun b hb=>let ⟨o,ho,_⟩:=T.obj 0 _ st b hb; Heap.lt_size ho
 refine wpAny_newObj_type (wpAny_newFunctionEnv S.nocell (by intro y hy; simp at hy) (fun h1 hns hsb=>?_) S.kind)
 dsimp only at hns hsb ⊢
 have I3:Inv X pins σ (upd H1 s.heap.objs.size (.lst [])) { s with heap:=s.heap.push { cls:=.type "list",data:=.seq ([]:List Value).toArray },toks:=s.toks }:=I.lnew (its:=[]) .nil (by decide)
 have hacc:H1 s.heap.objs.size=none:=I.hok.fresh (Nat.le_refl _)
 obtain ⟨W,⟨m0,w0⟩,turn⟩:=h2 s.heap.objs.size hacc
 generalize hs3:({ s with heap:=s.heap.push { cls:=.type "list",data:=.seq ([]:List Value).toArray },toks:=s.toks }:Shared)=s3 at I3
 have hh3:s3.heap=s.heap.push { cls:=.type "list",data:=.seq ([]:List Value).toArray }:=by rw [<- hs3]
 have old3:∀ b o,s.heap.get? b=some o->s3.heap.get? b=some o:=fun b o q=>by rw [hh3]; exact Heap.get?_push_of_some _ q
 have hf3:∀ b ∈ fp,FpOk X pins (upd H1 s.heap.objs.size (.lst [])) b:=fun b hb=>⟨by rw [Zao (Nat.ne_of_lt (hlt b hb))]; exact (f2 b hb).1,(f2 b hb).2⟩
 have hlt3:∀ b ∈ fp,b < s3.heap.objs.size:=fun b hb=>by rw [hh3,Heap.size_push]; exact Nat.lt_succ_of_lt (hlt b hb)
 have tn3:tn 0 s3.heap:=T.keep 0 _ _ st fun b hb o q=>old3 b o q
 have old4:∀ b o,s3.heap.get? b=some o->h1.get? b=some o:=fun b o q=>by
  have hb:b ≠ s3.heap.objs.size:=Nat.ne_of_lt (Heap.lt_size q)
  rw [hh3] at hb q
  exact (hsb.2 b hb).trans (Heap.get?_push_of_some _ q)
 have tn4:tn 0 h1:=T.keep 0 _ _ tn3 fun b hb o q=>old4 b o q
 have hC:(s.heap.push { cls:=.type "list",data:=.seq ([]:List Value).toArray }).objs.size=s3.heap.objs.size:=by rw [hh3]
 rw [hC] at hns
 have J0:=Zly (tgs:=tgs) (tk:=s.toks + ([]:List (Str × Value)).length) S I3 hf3 hlt3 hns old4
 have es:({ s3 with heap:=h1,toks:=s.toks + ([]:List (Str × Value)).length }:Shared) = { s with heap:=h1,toks:=s.toks + ([]:List (Str × Value)).length }:=by rw [<- hs3]
 rw [es] at J0
 generalize hY:compCx X scope (tgs ++ fvs) s3.heap.objs.size s3 (upd H1 s.heap.objs.size (.lst [])) fp (X.pn ++ pins)=Y at J0
 have hYp:Y.prog=X.prog:=by rw [<- hY]; rfl
 have hYw:Y.w=X.w:=by rw [<- hY]; rfl
 have hYK:Y.K=X.K:=by rw [<- hY]; rfl
 have hYA:Y.A=X.A:=by rw [<- hY]; rfl
 have hYc:Cm Y:=by rw [<- hY]; exact hc _ _ _ _ _
 have hYx:Y.xe=fun _ _=>False:=by rw [<- hY]; rfl
 have hYe:Y.env=compEnvC scope (clOf X.env scope.names []) s3.heap.objs.size X.env:=by rw [<- hY]; rfl
 have stat:∀ {H':Hp},(∀ b ∈ fp,H' b=none)->∀ b ∈ fp,FpOk Y [] H' b:=fun hn b hb=>by
  rw [<- hY]
  refine ⟨hn b hb,Nat.ne_of_lt (hlt3 b hb),fun z=>?_,.inl hb,fun x c e=>?_,fun p hp z=>?_⟩
  ·rcases List.mem_cons.mp (I3.stkSub b z) with q | q
   ·exact (hf3 b hb).2.1 q
   ·exact (hf3 b hb).2.2.1 q
  ·exact (hf3 b hb).2.2.2.2.1 x c (Zbz _ _ (fun _ _ z=>by simp at z) e)
  ·have hp:p ∈ (X.pn ++ pins) ++ []:=hp
   rw [List.append_nil] at hp
   exact (hf3 b hb).2.2.2.2.2 p hp z
 have loop:codeAny (model X.prog X.w) X.A (.compLoop (.ListComp elt [⟨tg,iter,ifs,0⟩] scope pos) 0 (.ref it) (.ref s.heap.objs.size) Y.env) (RR (.ref s.heap.objs.size) s3.heap.objs.size)
   { s with heap:=h1,toks:=s.toks + ([]:List (Str × Value)).length }:=by
  refine codeAny_loop rfl (fun n s'=>∃ i σ' H',Inv Y [] σ' H' s' /\ tn i s'.heap/\(∀ b ∈ fp,H' b=none)/\W i n σ' H') ?_ m0 ⟨0,_,_,J0,tn4,fun b hb=>(hf3 b hb).1,w0⟩
  rintro n s5 ⟨i,σ5,H5,I5,st5,fr5,w5⟩
  show wpAny _ X.A ((compTurn (.ListComp elt [⟨tg,iter,ifs,0⟩] scope pos) 0 (.ref it) (.ref s.heap.objs.size) Y.env).onRaise (fun x=>do noteFrame x Y.env; theTreesLotGoes x)) _ _ s5
  refine wpAny_noted (wpAny_mono (E:=fun _ _=>False) ?_ (fun _ _ q=>q) fun _ _ z=>z.elim)
  rw [compTurn_list]
  refine wpAny_bind (wpAny_standAt (wpAny_bind ?_))
  rcases turn i n σ5 H5 w5 with ⟨stop,qn⟩ | ⟨go,N,hN,step⟩
  ·have D:=T.done Y hYp hYw hYK hYc i [] s5 σ5 H5 (fun _ _=>False) I5 (stat fr5) st5 stop
   rw [hYA] at D
   refine thn D fun r s6 ⟨hr,I6⟩=>?_
   subst hr
   refine wpAny_pure ?_
   obtain ⟨m6,hn6,_⟩:=I6.loc
   rw [hYe] at hn6
   refine fin s6 _ _ H5 m6 hn6 (I3.fpOk (Nat.le_refl _) (by have z:=I6.free; rw [hYe] at z; exact z)) (fun h' sb=>?_) qn
   have I6':Inv (compCx X scope (tgs ++ fvs) s3.heap.objs.size s3 (upd H1 s.heap.objs.size (.lst [])) fp (X.pn ++ pins)) [] σ5 H5 s6:=by rw [hY]; exact I6
   exact Zi7 I3 hf3 I6' sb
  ·have D:=T.item Y hYp hYw hYK hYc i [] s5 σ5 H5 (fun _ _=>False) I5 (stat fr5) st5 go
   rw [hYA] at D
   refine thn D fun r s6 ⟨u,hr,h6⟩=>?_
   subst hr
   refine wpAny_bind (thn h6 fun _ s7 ⟨x,H7,I7,r7,y7,st7,fr7⟩=>?_)
   have I7':=I7.pinned (stat fr7) (T.obj _ _ st7)
   have G:=hg s3.heap.objs.size s3 (upd H1 s.heap.objs.size (.lst [])) fp (X.pn ++ pins)
   have TT:=ht s3.heap.objs.size s3 (upd H1 s.heap.objs.size (.lst [])) fp (X.pn ++ pins)
   have EE:=he s3.heap.objs.size s3 (upd H1 s.heap.objs.size (.lst [])) fp (X.pn ++ pins)
   rw [hY] at G TT EE
   have G1:=G _ s7 σ5 H7 x u _ I7' r7 (step x H7 y7)
   rw [hYp,hYw,hYA,hYx] at G1
   refine wpAny_bind (thn G1 fun _ s8 ⟨σ8,H8,I8,q8⟩=>?_)
   have T1:=TT _ s8 σ8 H8 _ I8 q8
   rw [hYp,hYw,hYA,hYx] at T1
   refine wpAny_bind (thn T1 fun ok s9 ⟨H9,I9,q9⟩=>?_)
   have again:∀ {s':Shared} {σ':St} {H':Hp},Inv Y ([] ++ pinsAt fp s7.heap) σ' H' s' -> N σ' H' -> ∃ m,m < n/\∃ i σ' H',Inv Y [] σ' H' s' /\ tn i s'.heap/\(∀ b ∈ fp,H' b=none)/\W i m σ' H':=fun {s' σ' H'} K7 n7=>by
    obtain ⟨m',hm,w7⟩:=hN σ' H' n7
    refine ⟨m',hm,i + 1,σ',H',K7.unpinned,T.keep _ _ _ st7 fun b hb o e=>(K7.pin (b,o) (List.mem_append_right _ (List.mem_append_right _ (Zdh hb e)))).1,fun b hb=>?_,w7⟩
    obtain ⟨o,e,d⟩:=T.obj _ _ st7 b hb
    exact (K7.pin (b,o) (List.mem_append_right _ (List.mem_append_right _ (Zdh hb e)))).2.1
   cases ok with
   | false=>
    have q9:N σ8 H9:=q9
    exact wpAny_pure ⟨by rw [hYe],again I9 q9⟩
   | true=>
    have q9:te σ8 H9 fun y H5=>∃ ys,H5 s.heap.objs.size=some (.lst ys)/\ys.length < sizeLine/\N σ8 (upd H5 s.heap.objs.size (.lst (ys ++ [y]))):=q9
    have E1:=EE _ s9 σ8 H9 _ I9 q9
    rw [hYp,hYw,hYA,hYx] at E1
    refine wpAny_bind (wpAny_bind (thn E1 fun v sa ⟨y,Ha,Ia,ra,ys,ea,za,na⟩=>?_))
    have M:=Zgs (X:=Y) _ sa σ8 Ha (.ref s.heap.objs.size) [y] (.ref s.heap.objs.size) [v] (fun _ H=>N σ8 H) Ia rfl (.cons ra .nil) ⟨_,ys,y,rfl,rfl,ea,za,na⟩
    rw [hYp,hYw,hYA,hYx] at M
    refine wpAny_bind (thn M fun _ sb ⟨_,Hb,Ib,_,nb⟩=>wpAny_pure (wpAny_pure ⟨by rw [hYe],again Ib nb⟩))
 have hcs:(relabel scope X.env)=(relabel scope X.env):=rfl
 have loop':=loop
 rw [hYe] at loop'
 show codeAny (model X.prog X.w) X.A (.compStart (.ListComp elt [⟨tg,iter,ifs,0⟩] scope pos) 0 (.ref it) (.ref s.heap.objs.size) (compEnvC scope (clOf X.env scope.names []) (s.heap.push { cls:=.type "list",data:=.seq ([]:List Value).toArray }).objs.size X.env)) (RR (.ref s.heap.objs.size) (s.heap.push { cls:=.type "list",data:=.seq ([]:List Value).toArray }).objs.size) _
 rw [hC]
 exact codeAny_compStart_list loop' (T.self _ 0 _ _ _ tn4 loop')
theorem Zch {elt tg iter:Expr} {ifs:List Expr} {scope:Scope} {pos:Pos} {fvs:List Str} {sel:List Nat} {wi:TI} {g:TG} {tc:TT} {te:TE} (tgs:List Str) (S:CompSc X.env.scope X.N scope fvs sel) (hc:X.calm=true)
  (hi:PI X tg iter wi) (hg:∀ C s H ex pn,PG (compCx X scope (tgs ++ fvs) C s H ex pn) tg g) (ht:∀ C s H ex pn,PTs (compCx X scope (tgs ++ fvs) C s H ex pn) ifs tc) (he:∀ C s H ex pn,PE (compCx X scope (tgs ++ fvs) C s H ex pn) elt te)
  (hs:∀ x,foldedSetIterable iter X.env x=pure x:=by intro _; rfl) :
  PE X (.ListComp elt [⟨tg,iter,ifs,0⟩] scope pos) (tComp tgs.length sel wi g tc te):=by
 intro pins s σ H Q I h
 rw [eval_ListComp]
 refine wpAny_comprehension_free (use:=none) rfl hs (Zdf (Zeb S I.ok)) S.kind S.names (thn (hi pins s σ H _ I h) fun v s1 h1=>thn h1 fun itv s2 h2=>?_)
 refine Zgf (Cm:=fun X=>X.calm=true) S (fun _ _ _ _ _=>hc) hg ht he (RR:=fun acc C=>compPost (model X.prog X.w) X.A X.xe none (EP X pins σ Q) acc C) (Q:=Q) h2 ?_
 intro s' C acc H' m hn _ hI q
 exact ⟨m,hn,fun h' sb=>⟨.ref acc,H',hI h' sb,rfl,q⟩⟩
theorem Zc7 {elt tg iter:Expr} {ifs:List Expr} {scope:Scope} {pos spos py:Pos} {fvs:List Str} {sel:List Nat} {wi:TI} {g:TG} {tc:TT} {te:TE} {i:Nat} {y:Str} (tgs:List Str) (S:CompSc X.env.scope X.N scope fvs sel) (hc:X.calm=true)
  (hN:X.N.Nodup) (hiy:X.N[i]? = some y) (hx:Loc X.env.scope y)
  (hi:PI X tg iter wi) (hg:∀ C s H ex pn,PG (compCx X scope (tgs ++ fvs) C s H ex pn) tg g) (ht:∀ C s H ex pn,PTs (compCx X scope (tgs ++ fvs) C s H ex pn) ifs tc) (he:∀ C s H ex pn,PE (compCx X scope (tgs ++ fvs) C s H ex pn) elt te)
  (hs:∀ x,foldedSetIterable iter X.env x=pure x:=by intro _; rfl) (hsw:swapsWith (.ListComp elt [⟨tg,iter,ifs,0⟩] scope pos) (some (.Name y py)) spos.line X.env=pure true:=by rfl)
  (hf:X.fn y=true\/X.env.scope.names.lookup y=some .local:=by first | exact .inl rfl | exact .inr rfl | assumption) :
  PS X (.Assign [.Name y py] (.ListComp elt [⟨tg,iter,ifs,0⟩] scope pos) spos) (tAsg (tComp tgs.length sel wi g tc te) (gName i)):=by
 intro pins s σ H D I h
 rw [exec_Assign_Name_used _ _ _ _ hsw]
 refine wpAny_bind (wpAny_standAt (wpAny_bind ?_))
 show wpAny _ X.A (do let _ ← comprehension (.ListComp elt [⟨tg,iter,ifs,0⟩] scope pos) scope X.env _ (newList []) false (eval iter X.env) (some (assign (.Name y py) X.env))) _ _ s
 refine wpAny_bind (wpAny_mono (wpAny_comprehension_free (use:=some (assign (.Name y py) X.env)) (Q:=fun _ s'=>SP X pins D .next s') rfl hs (Zdf (Zeb S I.ok)) S.kind S.names
  (thn (hi pins s σ H _ I h) fun v s1 h1=>thn h1 fun itv s2 h2=>?_)) (fun _ s' hq=>wpAny_pure (wpAny_pure hq)) fun _ _ e=>e)
 refine Zgf (Cm:=fun X=>X.calm=true) S (fun _ _ _ _ _=>hc) hg ht he (RR:=fun acc C=>compPost (model X.prog X.w) X.A X.xe (some (assign (.Name y py) X.env)) (fun _ s'=>SP X pins D .next s') acc C) (Q:=fun v H'=>D.nx (σ.set i (some v)) H') h2 ?_
 intro s' C acc H' m hn fp hI q
 have I0:Inv X pins σ H' s':=hI s'.heap (.refl ..)
 show wpAny _ X.A (assign (.Name y py) X.env (.ref acc)) _ _ _
 refine wpAny_assign_Name (Zg1 (v:=.ref acc) I0 hN hiy hx rfl (fun s2 I2 hsb=>?_) hf)
 obtain ⟨a,sb,ha⟩:=hsb
 have hCa:C ≠ a:=by
  rcases ha with z | z
  ·rw [z]; exact fp.2.1
  ·exact Ne.symm (fp.2.2.2.2.1 y a z)
 refine ⟨m,hn.sameBut sb hCa,fun h' sb'=>?_⟩
 obtain ⟨f0,f1,f2,f3,f4,f5⟩:=fp
 exact ⟨_,H',I2.turned (t':=s2.toks) (it:=C) (fun b o hb e=>(sb'.2 b hb).trans e) f0 f1 f3 f4 f5,q⟩
end
end L2
set_option Elab.async false
set_option linter.all false
set_option maxRecDepth 100000
namespace L2
open PySem PySem.Spec PyProof.Rows
def InsC (a C:Addr) (h:Heap):Prop:=∃ ox vs,h.get? a=some ox/\ox.cls=.ref C/\ox.data=.fields vs/\vs[2]? = some .none
inductive D where
 | non | bl (b:Bool) | int (i:Int) | str (x:Str) | ty (n:String) | tup (ds:List D) | lst (ds:List D) | scr (ds:List D) | adr (a:Addr) | dct (ks:List Key) (ds:List D) | exc (a C:Addr)
mutual
inductive Rep (K:PySem.W.Frag) (G:Hp):V->D->Prop
 | non:Rep K G .non .non
 | bl (b:Bool):Rep K G (.bl b) (.bl b)
 | int (i:Int):Rep K G (.int i) (.int i)
 | str (x:Str):Rep K G (.str x) (.str x)
 | ty (n:String):Rep K G (.ty n) (.ty n)
 | tup {a:Addr} {vs:List V} {ds:List D}:G a=some (.tup vs)->Reps K G vs ds->Rep K G (.ref a) (.tup ds)
 | lst {a:Addr} {vs:List V} {ds:List D}:G a=some (.lst vs)->Reps K G vs ds->Rep K G (.ref a) (.lst ds)
 | scr {a:Addr} {vs:List V} {ds:List D}:SqL K G a vs->Reps K G vs ds->Rep K G (.ref a) (.scr ds)
 | adr (a:Addr):Rep K G (.ref a) (.adr a)
 | dct {a:Addr} {ks:List Key} {vs:List V} {ds:List D}:G a=some (.dK (ks.zip vs))->ks.length=vs.length->Reps K G vs ds->Rep K G (.ref a) (.dct ks ds)
 | exc {a C:Addr}:G a=some (.ext (InsC a C))->Rep K G (.ref a) (.exc a C)
inductive Reps (K:PySem.W.Frag) (G:Hp):List V->List D->Prop
 | nil:Reps K G [] []
 | cons {v:V} {d:D} {vs:List V} {ds:List D}:Rep K G v d->Reps K G vs ds->Reps K G (v :: vs) (d :: ds)
end
def RepI (K:PySem.W.Frag) (G:Hp) (v:V):D->Prop
 | .non=>v=.non
 | .bl b=>v=.bl b
 | .int i=>v=.int i
 | .str x=>v=.str x
 | .ty n=>v=.ty n
 | .tup ds=>∃ a vs,v=.ref a/\G a=some (.tup vs)/\Reps K G vs ds
 | .lst ds=>∃ a vs,v=.ref a/\G a=some (.lst vs)/\Reps K G vs ds
 | .scr ds=>∃ a vs,v=.ref a/\SqL K G a vs/\Reps K G vs ds
 | .adr a=>v=.ref a
 | .dct ks ds=>∃ a vs,v=.ref a/\G a=some (.dK (ks.zip vs))/\ks.length=vs.length/\Reps K G vs ds
 | .exc a C=>v=.ref a/\G a=some (.ext (InsC a C))
theorem Rep.inv {K:PySem.W.Frag} {G:Hp} {v:V} {d:D} (r:Rep K G v d):RepI K G v d:=by
 cases r with
 | tup h r=>exact ⟨_,_,rfl,h,r⟩
 | lst h r=>exact ⟨_,_,rfl,h,r⟩
 | scr h r=>exact ⟨_,_,rfl,h,r⟩
 | dct h l r=>exact ⟨_,_,rfl,h,l,r⟩
 | exc h=>exact ⟨rfl,h⟩
 | _=>rfl
def RepsI (K:PySem.W.Frag) (G:Hp) (vs:List V):List D->Prop
 | []=>vs=[]
 | d :: ds=>∃ v ws,vs=v :: ws/\Rep K G v d/\Reps K G ws ds
theorem Reps.inv {K:PySem.W.Frag} {G:Hp} {vs:List V} {ds:List D} (r:Reps K G vs ds):RepsI K G vs ds:=by
 cases r with
 | nil=>rfl
 | cons a b=>exact ⟨_,_,rfl,a,b⟩
section
variable {K:PySem.W.Frag} {G G' H H':Hp}
mutual
theorem Rep.mono (s:Same G G'):∀ {v:V} {d:D},Rep K G v d->Rep K G' v d
 | _,_,.non=>.non
 | _,_,.bl b=>.bl b
 | _,_,.int i=>.int i
 | _,_,.str x=>.str x
 | _,_,.ty n=>.ty n
 | _,_,.tup h r=>.tup (s _ _ h) (Reps.mono s r)
 | _,_,.lst h r=>.lst (s _ _ h) (Reps.mono s r)
 | _,_,.scr h r=>.scr (s.seq h) (Reps.mono s r)
 | _,_,.adr a=>.adr a
 | _,_,.dct h l r=>.dct (s _ _ h) l (Reps.mono s r)
 | _,_,.exc h=>.exc (s _ _ h)
theorem Reps.mono (s:Same G G'):∀ {vs:List V} {ds:List D},Reps K G vs ds->Reps K G' vs ds
 | _,_,.nil=>.nil
 | _,_,.cons h r=>.cons (Rep.mono s h) (Reps.mono s r)
end
theorem Reps.length:∀ {vs:List V} {ds:List D},Reps K G vs ds->vs.length=ds.length
 | _,_,.nil=>rfl
 | _,_,.cons _ r=>by rw [List.length_cons,List.length_cons,r.length]
theorem Reps.get:∀ {vs:List V} {ds:List D} {i:Nat} {d:D},Reps K G vs ds->ds[i]? = some d->∃ v,vs[i]? = some v/\Rep K G v d
 | _,_,_,_,.nil,e=>by simp at e
 | _,_,0,_,.cons r _,e=>by simp at e; subst e; exact ⟨_,rfl,r⟩
 | _,_,i + 1,d,.cons _ t,e=>by
  obtain ⟨u,h1,h2⟩:=Reps.get (i:=i) (d:=d) t (by simpa using e)
  exact ⟨u,by simpa using h1,h2⟩
theorem Reps.append:∀ {vs ws:List V} {ds es:List D},Reps K G vs ds->Reps K G ws es->Reps K G (vs ++ ws) (ds ++ es)
 | _,_,_,_,.nil,s=>s
 | _,_,_,_,.cons r t,s=>.cons r (Reps.append t s)
theorem Reps.take:∀ {vs:List V} {ds:List D} (n:Nat),Reps K G vs ds->Reps K G (vs.take n) (ds.take n)
 | _,_,0,_=>.nil
 | _,_,_ + 1,.nil=>.nil
 | _,_,n + 1,.cons r t=>.cons r (Reps.take n t)
theorem Reps.drop:∀ {vs:List V} {ds:List D} (n:Nat),Reps K G vs ds->Reps K G (vs.drop n) (ds.drop n)
 | _,_,0,r=>r
 | _,_,_ + 1,.nil=>.nil
 | _,_,n + 1,.cons _ t=>Reps.drop n t
theorem Reps.reverse {vs:List V} {ds:List D} (h:Reps K G vs ds):Reps K G vs.reverse ds.reverse:=by
 induction vs generalizing ds with
 | nil=>cases h; exact .nil
 | cons v vs ih=>
  cases h with
  | cons r t=>rw [List.reverse_cons,List.reverse_cons]; exact (ih t).append (.cons r .nil)
theorem Reps.set:∀ {vs:List V} {ds:List D} {v:V} {d:D} (i:Nat),Reps K G vs ds->Rep K G v d->Reps K G (vs.set i v) (ds.set i d)
 | _,_,_,_,_,.nil,_=>.nil
 | _,_,_,_,0,.cons _ t,q=>.cons q t
 | _,_,_,_,i + 1,.cons r t,q=>.cons r (Reps.set i t q)
theorem Reps.eraseIdx:∀ {vs:List V} {ds:List D} (i:Nat),Reps K G vs ds->Reps K G (vs.eraseIdx i) (ds.eraseIdx i)
 | _,_,_,.nil=>.nil
 | _,_,0,.cons _ t=>t
 | _,_,i + 1,.cons r t=>.cons r (Reps.eraseIdx i t)
theorem Reps.ints {vs:List V}:∀ {ns:List Int},Reps K G vs (ns.map D.int)->vs=ns.map V.int:=by
 induction vs with
 | nil=>intro ns h; cases ns with
  | nil=>rfl
  | cons n ns=>cases h
 | cons v vs ih=>intro ns h; cases ns with
  | nil=>cases h
  | cons n ns=>
   cases h with
   | cons r t=>cases r.inv; rw [ih t]; rfl
theorem Reps.ofInts:∀ (ns:List Int),Reps K G (ns.map V.int) (ns.map D.int)
 | []=>.nil
 | n :: ns=>.cons (.int n) (Reps.ofInts ns)
theorem Zgb {vs:List V} {ds:List D} {i:Int} {d:D} (r:Reps K G vs ds) (h:atI ds i=some d):∃ v,atI vs i=some v/\Rep K G v d:=by
 unfold atI at h ⊢
 rw [<- r.length] at h
 cases e:ixN vs.length i with
 | none=>rw [e] at h; cases h
 | some j=>rw [e] at h; exact r.get h
end
inductive OD where
 | lst (ds:List D) | dct (kvs:List (Key × D)) | set (S:Int->Bool) (n:Nat)
def OwnRep (K:PySem.W.Frag) (G:Hp):HO->OD->Prop
 | .lst vs,.lst ds=>Reps K G vs ds
 | .dK kvs,.dct kds=>Paired (fun (p:Key × V) (q:Key × D)=>p.1=q.1/\Rep K G p.2 q.2) kvs kds
 | .set S n,.set S' n'=>S=S' /\ n=n'
 | _,_=>False
theorem OwnRep.mono {K:PySem.W.Frag} {G G':Hp} (s:Same G G') {o:HO} {od:OD} (h:OwnRep K G o od):OwnRep K G' o od:=by
 cases o <;> cases od <;> first
  | exact h.elim
  | exact Reps.mono s h
  | exact Paired.mapP h fun _ _ z=>⟨z.1,z.2.mono s⟩
  | exact h
inductive Slot where
 | any | val (d:D) | own (o:OD) | bor (o:OD) | ownA (a:Addr) (o:OD)
abbrev Evt:=List Slot
def Slot.od:Slot->Option OD
 | .own o=>some o
 | .bor o=>some o
 | .ownA _ o=>some o
 | _=>none
structure Gm where
 B:Addr->Prop
 F:Hp
 Hz:Hp
 Xo:Hp
def SlotAt (g:Gm) (x:Slot) (a:Addr):Prop:=match x with
 | .own _=>g.Hz a=none
 | .bor _=>g.B a
 | .ownA b _=>b=a/\g.Hz a=none
 | _=>True
structure Ok (K:PySem.W.Frag) (g:Gm) (G H:Hp) (σ:St) (Δ:Evt):Prop where
 same:∀ b o,¬ g.B b->g.Hz b=some o->H b=some o
 lent:∀ b,g.B b->H b ≠ none
 sub:Same g.F G
 frz:∀ b o,G b=some o->H b=some o/\(g.Hz b=none\/g.F b=some o)
 ext:∀ b o,g.Xo b=some o->H b=some o/\G b=none/\∀ (i:Nat) x od,Δ[i]? = some x->x.od=some od -> σ[i]? ≠ some (some (.ref b))
 len:Δ.length = σ.length
 val:∀ (i:Nat) d,Δ[i]? = some (.val d)->∃ v,σ[i]? = some (some v)/\Rep K G v d
 own:∀ (i:Nat) x od,Δ[i]? = some x->x.od=some od->∃ a o,σ[i]? = some (some (.ref a))/\H a=some o/\OwnRep K G o od/\G a=none/\SlotAt g x a
 dis:∀ (i j:Nat) x y od od' a,Δ[i]? = some x->x.od=some od -> Δ[j]? = some y->y.od=some od' -> σ[i]? = some (some (.ref a)) -> σ[j]? = some (some (.ref a))->i=j
section
variable {K:PySem.W.Frag} {g:Gm} {G H G' H':Hp} {σ:St} {Δ:Evt}
theorem Ok.live (k:Ok K g G H σ Δ):Same G H:=fun b o e=>(k.frz b o e).1
theorem Ok.there (k:Ok K g G H σ Δ) {b:Addr} (h:H b=none):g.Hz b=none:=by
 cases e:g.Hz b with
 | none=>rfl
 | some o=>
  by_cases hb:g.B b
  ·exact absurd h (k.lent b hb)
  ·have:=k.same b o hb e
   rw [h] at this; cases this
theorem Ok.grow (k:Ok K g G H σ Δ) (sg:Same G G') (sh:Same H H') (hg:∀ b o,G' b=some o->H' b=some o/\(G b=some o\/H b=none)):Ok K g G' H' σ Δ where
 same:=fun b o hb e=>sh b o (k.same b o hb e)
 lent:=fun b hb z=>by
  cases e:H b with
  | none=>exact k.lent b hb e
  | some o=>rw [sh b o e] at z; cases z
 sub:=k.sub.trans sg
 frz:=fun b o e=>by
  obtain ⟨h1,h2⟩:=hg b o e
  refine ⟨h1,?_⟩
  rcases h2 with z | z
  ·exact (k.frz b o z).2
  ·exact .inl (k.there z)
 ext:=fun b o e=>by
  obtain ⟨h1,h2,h3⟩:=k.ext b o e
  refine ⟨sh b o h1,?_,h3⟩
  cases q:G' b with
  | none=>rfl
  | some o'=>
   rcases (hg b o' q).2 with z | z
   ·rw [h2] at z; cases z
   ·rw [h1] at z; cases z
 len:=k.len
 val:=fun i d e=>by
  obtain ⟨v,h1,h2⟩:=k.val i d e
  exact ⟨v,h1,h2.mono sg⟩
 own:=fun i x od e1 e2=>by
  obtain ⟨a,o,h1,h2,h3,h4,h5⟩:=k.own i x od e1 e2
  refine ⟨a,o,h1,sh a o h2,h3.mono sg,?_,h5⟩
  cases q:G' a with
  | none=>rfl
  | some o'=>
   rcases (hg a o' q).2 with z | z
   ·rw [h4] at z; cases z
   ·rw [h2] at z; cases z
 dis:=k.dis
theorem Ok.laid (k:Ok K g G H σ Δ) {p:Addr} (hp:H p=none) (o:HO):Ok K g (upd G p o) (upd H p o) σ Δ /\ Same G (upd G p o):=by
 have hG:G p=none:=by
  cases e:G p with
  | none=>rfl
  | some u=>rw [k.live p u e] at hp; cases hp
 have sg:Same G (upd G p o):=fun b u e=>by rw [Zao (Zaq e hG)]; exact e
 refine ⟨k.grow sg (fun b u e=>by rw [Zao (Zaq e hp)]; exact e) fun b u e=>?_,sg⟩
 by_cases hb:b=p
 ·subst hb; rw [Zat] at e ⊢; exact ⟨e,.inr hp⟩
 ·rw [Zao hb] at e ⊢; exact ⟨k.live b u e,.inl e⟩
theorem Ok.lt (k:Ok K g G H σ Δ) {i:Nat} {x:Slot} (h:Δ[i]? = some x):i < σ.length:=by
 rw [<- k.len]; exact (List.getElem?_eq_some_iff.mp h).1
def Pend (K:PySem.W.Frag) (g:Gm) (G H:Hp) (σ:St) (Δ:Evt) (a:Addr) (od:OD):Prop:=
 ∃ o,H a=some o/\OwnRep K G o od/\G a=none/\g.Hz a=none/\g.Xo a=none/\∀ (i:Nat) x od',Δ[i]? = some x->x.od=some od' -> σ[i]? ≠ some (some (.ref a))
theorem Ok.setVal (k:Ok K g G H σ Δ) {v:V} {d:D} {i:Nat} (hi:i < Δ.length) (r:Rep K G v d):Ok K g G H (σ.set i (some v)) (Δ.set i (.val d)):=by
 have hs:i < σ.length:=by rw [<- k.len]; exact hi
 have old:∀ (j:Nat) x od,(Δ.set i (.val d))[j]? = some x->x.od=some od->j ≠ i /\ Δ[j]? = some x/\(σ.set i (some v))[j]? = σ[j]?:=fun j x od e1 e2=>by
  by_cases hj:j=i
  ·subst hj
   rw [List.getElem?_set_self hi] at e1
   cases e1; cases e2
  ·rw [List.getElem?_set_ne (Ne.symm hj)] at e1
   exact ⟨hj,e1,List.getElem?_set_ne (Ne.symm hj)⟩
 refine ⟨k.same,k.lent,k.sub,k.frz,fun b o e=>?_,by simp [k.len],fun j e h=>?_,fun j x od e1 e2=>?_,fun j l x y od od' a e1 e2 e3 e4 e5 e6=>?_⟩
 ·obtain ⟨h1,h2,h3⟩:=k.ext b o e
  refine ⟨h1,h2,fun j x od e1 e2=>?_⟩
  obtain ⟨_,q1,q2⟩:=old j x od e1 e2
  rw [q2]; exact h3 j x od q1 e2
 ·by_cases hj:j=i
  ·subst hj
   rw [List.getElem?_set_self hi] at h
   cases h
   exact ⟨v,List.getElem?_set_self hs,r⟩
  ·rw [List.getElem?_set_ne (Ne.symm hj)] at h ⊢
   exact k.val j e h
 ·obtain ⟨_,q1,q2⟩:=old j x od e1 e2
  rw [q2]; exact k.own j x od q1 e2
 ·obtain ⟨_,q1,q2⟩:=old j x od e1 e2
  obtain ⟨_,q3,q4⟩:=old l y od' e3 e4
  rw [q2] at e5; rw [q4] at e6
  exact k.dis j l x y od od' a q1 e2 q3 e4 e5 e6
theorem Ok.setOwn (k:Ok K g G H σ Δ) {a:Addr} {od:OD} {i:Nat} (hi:i < Δ.length) (p:Pend K g G H σ Δ a od):Ok K g G H (σ.set i (some (.ref a))) (Δ.set i (.own od)):=by
 obtain ⟨o,p1,p2,p3,p4,p5,p6⟩:=p
 have hs:i < σ.length:=by rw [<- k.len]; exact hi
 have old:∀ (j:Nat) x,j ≠ i->(Δ.set i (.own od))[j]? = some x -> Δ[j]? = some x/\(σ.set i (some (.ref a)))[j]? = σ[j]?:=fun j x hj e1=>by
  rw [List.getElem?_set_ne (Ne.symm hj)] at e1
  exact ⟨e1,List.getElem?_set_ne (Ne.symm hj)⟩
 refine ⟨k.same,k.lent,k.sub,k.frz,fun b ob e=>?_,by simp [k.len],fun j e h=>?_,fun j x od' e1 e2=>?_,fun j l x y od1 od2 c e1 e2 e3 e4 e5 e6=>?_⟩
 ·obtain ⟨h1,h2,h3⟩:=k.ext b ob e
  refine ⟨h1,h2,fun j x od' e1 e2=>?_⟩
  by_cases hj:j=i
  ·subst hj
   rw [List.getElem?_set_self hs]
   intro z
   cases z
   rw [p5] at e; cases e
  ·obtain ⟨q1,q2⟩:=old j x hj e1
   rw [q2]; exact h3 j x od' q1 e2
 ·by_cases hj:j=i
  ·subst hj
   rw [List.getElem?_set_self hi] at h
   cases h
  ·rw [List.getElem?_set_ne (Ne.symm hj)] at h ⊢
   exact k.val j e h
 ·by_cases hj:j=i
  ·subst hj
   rw [List.getElem?_set_self hi] at e1
   cases e1
   cases e2
   exact ⟨a,o,List.getElem?_set_self hs,p1,p2,p3,p4⟩
  ·obtain ⟨q1,q2⟩:=old j x hj e1
   rw [q2]; exact k.own j x od' q1 e2
 ·by_cases hj:j=i
  ·by_cases hl:l=i
   ·rw [hj,hl]
   ·obtain ⟨q3,q4⟩:=old l y hl e3
    rw [q4] at e6
    rw [hj,List.getElem?_set_self hs] at e5
    cases e5
    exact absurd e6 (p6 l y od2 q3 e4)
  ·obtain ⟨q1,q2⟩:=old j x hj e1
   rw [q2] at e5
   by_cases hl:l=i
   ·rw [hl,List.getElem?_set_self hs] at e6
    cases e6
    exact absurd e5 (p6 j x od1 q1 e2)
   ·obtain ⟨q3,q4⟩:=old l y hl e3
    rw [q4] at e6
    exact k.dis j l x y od1 od2 c q1 e2 q3 e4 e5 e6
def Slot.put:Slot->OD->Slot
 | .own _,o=>.own o
 | .bor _,o=>.bor o
 | .ownA a _,o=>.ownA a o
 | x,_=>x
theorem SlotAt.put {g:Gm} {x:Slot} {a:Addr} {o:OD} (h:SlotAt g x a):SlotAt g (x.put o) a:=by cases x <;> exact h
theorem SlotAt.free {g:Gm} {x:Slot} {a:Addr} {od:OD} (h:SlotAt g x a) (ho:x.od=some od):g.Hz a=none\/g.B a:=by
 cases x with
 | any=>cases ho
 | val d=>cases ho
 | own o=>exact .inl h
 | bor o=>exact .inr h
 | ownA b o=>exact .inl h.2
theorem Slot.put_od {x:Slot} {od o:OD} (h:x.od=some od):(x.put o).od=some o:=by cases x <;> cases h <;> rfl
theorem Ok.write (k:Ok K g G H σ Δ) {a:Addr} {od od':OD} {x:Slot} {i:Nat} {o':HO} (hx:Δ[i]? = some x) (hod:x.od=some od) (ha:σ[i]? = some (some (.ref a))) (r:OwnRep K G o' od'):Ok K g G (upd H a o') σ (Δ.set i (x.put od')):=by
 obtain ⟨a',o,q1,q2,q3,q4,q5⟩:=k.own i x od hx hod
 rw [ha] at q1; cases q1
 have hi:i < Δ.length:=(List.getElem?_eq_some_iff.mp hx).1
 have other:∀ (j:Nat) y od2,(Δ.set i (x.put od'))[j]? = some y->y.od=some od2->j ≠ i -> Δ[j]? = some y:=fun j y od2 e1 e2 hj=>by
  rw [List.getElem?_set_ne (Ne.symm hj)] at e1; exact e1
 have anyOd:∀ (j:Nat) y od2,(Δ.set i (x.put od'))[j]? = some y->y.od=some od2->∃ y' od3,Δ[j]? = some y' /\ y'.od=some od3:=fun j y od2 e1 e2=>by
  by_cases hj:j=i
  ·subst hj; exact ⟨x,od,hx,hod⟩
  ·exact ⟨y,od2,other j y od2 e1 e2 hj,e2⟩
 refine ⟨fun b u hb e=>?_,fun b hb=>?_,k.sub,fun b u e=>?_,fun b u e=>?_,by simp [k.len],fun j e h=>?_,fun j y od2 e1 e2=>?_,fun j l y z od1 od2 c e1 e2 e3 e4 e5 e6=>?_⟩
 ·have hba:b ≠ a:=by
   intro z; subst z
   rcases q5.free hod with z | z
   ·rw [z] at e; cases e
   ·exact hb z
  rw [Zao hba]; exact k.same b u hb e
 ·by_cases hba:b=a
  ·subst hba; rw [Zat]; intro z; cases z
  ·rw [Zao hba]; exact k.lent b hb
 ·have hba:b ≠ a:=by intro z; subst z; rw [q4] at e; cases e
  rw [Zao hba]; exact k.frz b u e
 ·obtain ⟨h1,h2,h3⟩:=k.ext b u e
  have hba:b ≠ a:=by intro z; subst z; exact h3 i x od hx hod ha
  rw [Zao hba]
  refine ⟨h1,h2,fun j y od2 e1 e2=>?_⟩
  obtain ⟨y',od3,z1,z2⟩:=anyOd j y od2 e1 e2
  exact h3 j y' od3 z1 z2
 ·by_cases hj:j=i
  ·subst hj
   rw [List.getElem?_set_self hi] at h
   cases x <;> cases hod <;> cases h
  ·rw [List.getElem?_set_ne (Ne.symm hj)] at h
   exact k.val j e h
 ·by_cases hj:j=i
  ·subst hj
   rw [List.getElem?_set_self hi] at e1
   cases e1
   rw [Slot.put_od hod] at e2; cases e2
   exact ⟨a,o',ha,Zat,r,q4,q5.put⟩
  ·have e1':=other j y od2 e1 e2 hj
   obtain ⟨c,oc,w1,w2,w3,w4,w5⟩:=k.own j y od2 e1' e2
   have hca:c ≠ a:=by
    intro z; subst z
    exact hj (k.dis j i y x od2 od c e1' e2 hx hod w1 ha)
   exact ⟨c,oc,w1,by rw [Zao hca]; exact w2,w3,w4,w5⟩
 ·obtain ⟨y',od3,z1,z2⟩:=anyOd j y od1 e1 e2
  obtain ⟨y'',od4,z3,z4⟩:=anyOd l z od2 e3 e4
  exact k.dis j l y' y'' od3 od4 c z1 z2 z3 z4 e5 e6
theorem Ok.freeze (k:Ok K g G H σ Δ) {a:Addr} {ds:List D} {vs:List V} (p:Pend K g G H σ Δ a (.lst ds)) (hv:H a=some (.lst vs)):Ok K g (upd G a (.lst vs)) H σ Δ /\ Same G (upd G a (.lst vs))/\Rep K (upd G a (.lst vs)) (.ref a) (.lst ds):=by
 obtain ⟨o,p1,p2,p3,p4,p5,p6⟩:=p
 rw [hv] at p1; cases p1
 have p2:Reps K G vs ds:=p2
 have sg:Same G (upd G a (.lst vs)):=fun b u e=>by rw [Zao (Zaq e p3)]; exact e
 refine ⟨⟨k.same,k.lent,k.sub.trans sg,fun b u e=>?_,fun b u e=>?_,k.len,fun j d h=>?_,fun j x od e1 e2=>?_,k.dis⟩,sg,.lst Zat (p2.mono sg)⟩
 ·by_cases hb:b=a
  ·subst hb; rw [Zat] at e; cases e; exact ⟨hv,.inl p4⟩
  ·rw [Zao hb] at e; exact k.frz b u e
 ·obtain ⟨h1,h2,h3⟩:=k.ext b u e
  have hb:b ≠ a:=by intro z; subst z; rw [p5] at e; cases e
  exact ⟨h1,by rw [Zao hb]; exact h2,h3⟩
 ·obtain ⟨v,h1,h2⟩:=k.val j d h
  exact ⟨v,h1,h2.mono sg⟩
 ·obtain ⟨c,o,w1,w2,w3,w4,w5⟩:=k.own j x od e1 e2
  have hc:c ≠ a:=by intro z; subst z; exact p6 j x od e1 e2 w1
  exact ⟨c,o,w1,w2,w3.mono sg,by rw [Zao hc]; exact w4,w5⟩
theorem Ok.drop (k:Ok K g G H σ Δ) (i:Nat):Ok K g G H σ (Δ.set i .any):=by
 have old:∀ (j:Nat) x,(Δ.set i .any)[j]? = some x->x=.any\/(Δ[j]? = some x/\j ≠ i):=fun j x e1=>by
  by_cases hj:j=i
  ·subst hj
   rw [List.getElem?_set] at e1
   simp at e1
   exact .inl e1.2.symm
  ·rw [List.getElem?_set_ne (Ne.symm hj)] at e1
   exact .inr ⟨e1,hj⟩
 have oldO:∀ (j:Nat) x od,(Δ.set i .any)[j]? = some x->x.od=some od -> Δ[j]? = some x:=fun j x od e1 e2=>by
  rcases old j x e1 with z | z
  ·subst z; cases e2
  ·exact z.1
 refine ⟨k.same,k.lent,k.sub,k.frz,fun b o e=>?_,by simp [k.len],fun j e h=>?_,fun j x od e1 e2=>k.own j x od (oldO j x od e1 e2) e2,fun j l x y od od' a e1 e2 e3 e4=>k.dis j l x y od od' a (oldO j x od e1 e2) e2 (oldO l y od' e3 e4) e4⟩
 ·obtain ⟨h1,h2,h3⟩:=k.ext b o e
  exact ⟨h1,h2,fun j x od e1 e2=>h3 j x od (oldO j x od e1 e2) e2⟩
 ·rcases old j _ h with z | z
  ·cases z
  ·exact k.val j e z.1
theorem Ok.take (k:Ok K g G H σ Δ) {i:Nat} {od:OD} (h:Δ[i]? = some (.own od)):∃ a,σ[i]? = some (some (.ref a))/\Pend K g G H σ (Δ.set i .any) a od:=by
 obtain ⟨a,o,h1,h2,h3,h4,h5⟩:=k.own i _ od h rfl
 have h5:g.Hz a=none:=h5
 refine ⟨a,h1,o,h2,h3,h4,h5,?_,fun j x od' e1 e2 e3=>?_⟩
 ·cases q:g.Xo a with
  | none=>rfl
  | some u=>exact absurd h1 ((k.ext a u q).2.2 i _ od h rfl)
 ·by_cases hj:j=i
  ·subst hj
   rw [List.getElem?_set] at e1
   simp at e1
   obtain ⟨_,e1⟩:=e1
   subst e1
   cases e2
  ·rw [List.getElem?_set_ne (Ne.symm hj)] at e1
   exact hj (k.dis j i x _ od' od a e1 e2 h rfl e3 h1)
end
end L2
set_option Elab.async false
set_option linter.all false
set_option maxRecDepth 100000
namespace L2
open PySem PySem.Spec PyProof.Rows
def Cont (K:PySem.W.Frag) (g:Gm) (G:Hp) (σ:St) (P:D->Evt->Prop) (Q:VK):Prop:=
 ∀ v d G' H' Δ',Ok K g G' H' σ Δ' -> Same G G' -> Rep K G' v d->P d Δ' -> Q v H'
def JE (K:PySem.W.Frag) (t:TE) (Δ:Evt) (P:D->Evt->Prop):Prop:=
 ∀ g G H σ Q,Ok K g G H σ Δ -> Cont K g G σ P Q->t σ H Q
def JT (K:PySem.W.Frag) (t:TT) (Δ:Evt) (P:Bool->Evt->Prop):Prop:=
 ∀ g G H σ Q,Ok K g G H σ Δ -> (∀ b G' H' Δ',Ok K g G' H' σ Δ' -> Same G G' -> P b Δ' -> Q b H')->t σ H Q
def JA (K:PySem.W.Frag) (t:TA) (Δ:Evt) (P:List D->Evt->Prop):Prop:=
 ∀ g G H σ Q,Ok K g G H σ Δ -> (∀ vs ds G' H' Δ',Ok K g G' H' σ Δ' -> Same G G' -> Reps K G' vs ds->P ds Δ' -> Q vs H')->t σ H Q
def JO (K:PySem.W.Frag) (t:TE) (Δ:Evt) (P:OD->Evt->Prop):Prop:=
 ∀ g G H σ Q,Ok K g G H σ Δ -> (∀ a od G' H' Δ',Ok K g G' H' σ Δ' -> Same G G' -> Pend K g G' H' σ Δ' a od->P od Δ' -> Q (.ref a) H')->t σ H Q
def JR2 (K:PySem.W.Frag) (r:R2) (d e:D) (Δ:Evt) (P:D->Evt->Prop):Prop:=
 ∀ g G H σ Q x y,Ok K g G H σ Δ -> Rep K G x d->Rep K G y e->Cont K g G σ P Q->r x y H Q
def JR1 (K:PySem.W.Frag) (r:V->Hp->VK->Prop) (d:D) (Δ:Evt) (P:D->Evt->Prop):Prop:=
 ∀ g G H σ Q x,Ok K g G H σ Δ -> Rep K G x d->Cont K g G σ P Q->r x H Q
def JC (K:PySem.W.Frag) (r:List V->Hp->VK->Prop) (ds:List D) (Δ:Evt) (P:D->Evt->Prop):Prop:=
 ∀ g G H σ Q vs,Ok K g G H σ Δ -> Reps K G vs ds->Cont K g G σ P Q->r vs H Q
structure Pst where
 nx:Evt->Prop
 rt:D->Evt->Prop
 bk:Evt->Prop:=fun _=>False
 ct:Evt->Prop:=fun _=>False
 ro:OD->Evt->Prop:=fun _ _=>False
structure SCont (K:PySem.W.Frag) (g:Gm) (P:Pst) (E:Ends):Prop where
 nx:∀ σ G H Δ,Ok K g G H σ Δ -> P.nx Δ -> E.nx σ H
 rt:∀ v d σ G H Δ,Ok K g G H σ Δ -> Rep K G v d->P.rt d Δ -> E.rt v H
 bk:∀ σ G H Δ,Ok K g G H σ Δ -> P.bk Δ -> E.bk σ H
 ct:∀ σ G H Δ,Ok K g G H σ Δ -> P.ct Δ -> E.ct σ H
 ro:∀ a od σ G H Δ,Ok K g G H σ Δ -> Pend K g G H σ Δ a od->P.ro od Δ -> E.rt (.ref a) H
def JS (K:PySem.W.Frag) (t:TS) (Δ:Evt) (P:Pst):Prop:=
 ∀ g G H σ E,Ok K g G H σ Δ -> SCont K g P E->t E σ H
def JG (K:PySem.W.Frag) (t:TG) (d:D) (Δ:Evt) (P:Evt->Prop):Prop:=
 ∀ g G H σ v (R:St->Hp->Prop),Ok K g G H σ Δ -> Rep K G v d->(∀ σ' G' H' Δ',Ok K g G' H' σ' Δ' -> Same G G' -> P Δ' -> R σ' H')->t v σ H R
def JGs (K:PySem.W.Frag) (t:TGs) (ds:List D) (Δ:Evt) (P:Evt->Prop):Prop:=
 ∀ g G H σ vs (R:St->Hp->Prop),Ok K g G H σ Δ -> Reps K G vs ds->(∀ σ' G' H' Δ',Ok K g G' H' σ' Δ' -> Same G G' -> P Δ' -> R σ' H')->t vs σ H R
section
variable {K:PySem.W.Frag} {Δ:Evt}
theorem Cont.up {g:Gm} {G G1:Hp} {σ:St} {P:D->Evt->Prop} {Q:VK} (c:Cont K g G σ P Q) (s:Same G G1):Cont K g G1 σ P Q:=
 fun v d G' H' Δ' k s' r p=>c v d G' H' Δ' k (s.trans s') r p
theorem JE.mono {t:TE} {P P':D->Evt->Prop} (h:JE K t Δ P) (hp:∀ d Δ,P d Δ -> P' d Δ):JE K t Δ P':=
 fun g G H σ Q k c=>h g G H σ Q k fun v d G' H' Δ' k' s r p=>c v d G' H' Δ' k' s r (hp d Δ' p)
theorem JS.mono {t:TS} {P P':Pst} (h:JS K t Δ P) (hn:∀ Δ,P.nx Δ -> P'.nx Δ) (hr:∀ d Δ,P.rt d Δ -> P'.rt d Δ) (hb:∀ Δ,P.bk Δ -> P'.bk Δ) (hc:∀ Δ,P.ct Δ -> P'.ct Δ) (ho:∀ od Δ,P.ro od Δ -> P'.ro od Δ):JS K t Δ P':=
 fun g G H σ E k c=>h g G H σ E k ⟨fun σ' G' H' Δ' k' p=>c.nx σ' G' H' Δ' k' (hn _ p),fun v d σ' G' H' Δ' k' r p=>c.rt v d σ' G' H' Δ' k' r (hr _ _ p),fun σ' G' H' Δ' k' p=>c.bk σ' G' H' Δ' k' (hb _ p),fun σ' G' H' Δ' k' p=>c.ct σ' G' H' Δ' k' (hc _ p),fun a od σ' G' H' Δ' k' r p=>c.ro a od σ' G' H' Δ' k' r (ho _ _ p)⟩
theorem Zac {i:Nat} {d:D} {P:D->Evt->Prop} (h:Δ[i]? = some (.val d)) (p:P d Δ):JE K (tVar i) Δ P:=fun g G H σ Q k c=>by
 obtain ⟨v,h1,h2⟩:=k.val i d h
 exact ⟨v,h1,c v d G H Δ k (Same.refl _) h2 p⟩
theorem Zfl {i:Nat} {ds:List D} {P:D->Evt->Prop} (h:Δ[i]? = some (.own (.lst ds))) (p:P (.lst ds) (Δ.set i (.val (.lst ds)))):JE K (tVar i) Δ P:=fun g G H σ Q k c=>by
 obtain ⟨a,h1,pd⟩:=k.take h
 obtain ⟨o,q1,q2,_⟩:=id pd
 cases o with
 | lst vs=>
  obtain ⟨k2,sg,r⟩:=(k.drop i).freeze pd q1
  have k3:=k2.setVal (i:=i) (by simpa using (List.getElem?_eq_some_iff.mp h).1) r
  have e1:σ.set i (some (.ref a)) = σ:=by
   apply List.ext_getElem?
   intro j
   by_cases hj:j=i
   ·subst hj; rw [List.getElem?_set_self (k.lt h),h1]
   ·rw [List.getElem?_set_ne (Ne.symm hj)]
  rw [e1,List.set_set] at k3
  exact ⟨.ref a,h1,c _ _ _ H _ k3 sg r p⟩
 | _=>exact absurd q2 (fun z=>z)
theorem Zar {i:Int} {P:D->Evt->Prop} (p:P (.int i) Δ):JE K (tC (.int i)) Δ P:=fun g G H σ Q k c=>c _ _ G H Δ k (Same.refl _) (.int i) p
theorem Zpo {b:Bool} {P:D->Evt->Prop} (p:P (.bl b) Δ):JE K (tC (.bl b)) Δ P:=fun g G H σ Q k c=>c _ _ G H Δ k (Same.refl _) (.bl b) p
theorem Zow {P:D->Evt->Prop} (p:P .non Δ):JE K (tC .non) Δ P:=fun g G H σ Q k c=>c _ _ G H Δ k (Same.refl _) .non p
theorem Zjo {x:Str} {P:D->Evt->Prop} (p:P (.str x) Δ):JE K (tC (.str x)) Δ P:=fun g G H σ Q k c=>c _ _ G H Δ k (Same.refl _) (.str x) p
theorem Zeh {x:String} {P:D->Evt->Prop} (p:P (.ty x) Δ):JE K (tC (.ty x)) Δ P:=fun g G H σ Q k c=>c _ _ G H Δ k (Same.refl _) (.ty x) p
theorem Zan {r:R2} {ta tb:TE} {P:D->Evt->Prop} (h:JE K ta Δ fun d Δ1=>JE K tb Δ1 fun e Δ2=>JR2 K r d e Δ2 P):JE K (tOp r ta tb) Δ P:=fun g G H σ Q k c=>
 h g G H σ _ k fun x d G1 H1 Δ1 k1 s1 r1 p1=>p1 g G1 H1 σ _ k1 fun y e G2 H2 Δ2 k2 s2 r2 p2=>p2 g G2 H2 σ Q x y k2 (r1.mono s2) r2 (c.up (s1.trans s2))
theorem Zqd {r:V->Hp->VK->Prop} {ta:TE} {P:D->Evt->Prop} (h:JE K ta Δ fun d Δ1=>JR1 K r d Δ1 P):JE K (tUn r ta) Δ P:=fun g G H σ Q k c=>
 h g G H σ _ k fun x d G1 H1 Δ1 k1 s1 r1 p1=>p1 g G1 H1 σ Q x k1 r1 (c.up s1)
theorem Zag {P:List D->Evt->Prop} (p:P [] Δ):JA K tNil Δ P:=fun g G H σ Q k c=>c [] [] G H Δ k (Same.refl _) .nil p
theorem Zab {ta:TE} {tr:TA} {P:List D->Evt->Prop} (h:JE K ta Δ fun d Δ1=>JA K tr Δ1 fun ds Δ2=>P (d :: ds) Δ2):JA K (tCons ta tr) Δ P:=fun g G H σ Q k c=>
 h g G H σ _ k fun x d G1 H1 Δ1 k1 s1 r1 p1=>p1 g G1 H1 σ _ k1 fun vs ds G2 H2 Δ2 k2 s2 r2 p2=>c _ _ G2 H2 Δ2 k2 (s1.trans s2) (.cons (r1.mono s2) r2) p2
theorem Za5 {r:List V->Hp->VK->Prop} {ta:TA} {P:D->Evt->Prop} (h:JA K ta Δ fun ds Δ1=>JC K r ds Δ1 P):JE K (tCB r ta) Δ P:=fun g G H σ Q k c=>
 h g G H σ _ k fun vs ds G1 H1 Δ1 k1 s1 r1 p1=>p1 g G1 H1 σ Q vs k1 r1 (c.up s1)
theorem Zbp {ta:TA} {P:D->Evt->Prop} (h:JA K ta Δ fun ds Δ1=>ds.length<=sizeLine/\P (.tup ds) Δ1):JE K (tTup ta) Δ P:=fun g G H σ Q k c=>
 h g G H σ _ k fun vs ds G1 H1 Δ1 k1 s1 r1 ⟨z,p1⟩=>⟨by rw [r1.length]; exact z,fun p hp=>by
  obtain ⟨k2,sg⟩:=k1.laid hp (.tup vs)
  exact c _ _ _ _ Δ1 k2 (s1.trans sg) (.tup Zat (r1.mono sg)) p1⟩
theorem Zmq {ta:TA} {P:D->Evt->Prop} (h:JA K ta Δ fun ds Δ1=>ds.length<=sizeLine/\P (.lst ds) Δ1):JE K (tLst ta) Δ P:=fun g G H σ Q k c=>
 h g G H σ _ k fun vs ds G1 H1 Δ1 k1 s1 r1 ⟨z,p1⟩=>⟨by rw [r1.length]; exact z,fun p hp=>by
  obtain ⟨k2,sg⟩:=k1.laid hp (.lst vs)
  exact c _ _ _ _ Δ1 k2 (s1.trans sg) (.lst Zat (r1.mono sg)) p1⟩
theorem Ok.fresh {g:Gm} {G H:Hp} {σ:St} (k:Ok K g G H σ Δ) {p:Addr} {o:HO} {od:OD} (hp:H p=none) (r:OwnRep K G o od):Ok K g G (upd H p o) σ Δ /\ Pend K g G (upd H p o) σ Δ p od:=by
 have hG:G p=none:=by
  cases e:G p with
  | none=>rfl
  | some u=>rw [k.live p u e] at hp; cases hp
 refine ⟨k.grow (Same.refl _) (fun b u e=>by rw [Zao (Zaq e hp)]; exact e) fun b u e=>⟨?_,.inl e⟩,o,Zat,r,hG,k.there hp,?_,fun j x od' e1 e2 e3=>?_⟩
 ·have hb:b ≠ p:=by intro z; subst z; rw [hG] at e; cases e
  rw [Zao hb]; exact k.live b u e
 ·cases q:g.Xo p with
  | none=>rfl
  | some u=>have z:=(k.ext p u q).1; rw [hp] at z; cases z
 ·obtain ⟨a,oo,w1,w2,_⟩:=k.own j x od' e1 e2
  rw [e3] at w1; cases w1
  rw [hp] at w2; cases w2
theorem Zjv {ta:TA} {P:OD->Evt->Prop} (h:JA K ta Δ fun ds Δ1=>ds.length<=sizeLine/\P (.lst ds) Δ1):JO K (tLst ta) Δ P:=fun g G H σ Q k c=>
 h g G H σ _ k fun vs ds G1 H1 Δ1 k1 s1 r1 ⟨z,p1⟩=>⟨by rw [r1.length]; exact z,fun p hp=>by
  obtain ⟨k2,pd⟩:=k1.fresh (od:=.lst ds) hp (show OwnRep K G1 (.lst vs) (.lst ds) from r1)
  exact c p _ G1 _ Δ1 k2 s1 pd p1⟩
theorem Zlm {t:TE} {P:D->Evt->Prop} (h:JO K t Δ fun od Δ1=>∃ ds,od=.lst ds/\P (.lst ds) Δ1):JE K t Δ P:=fun g G H σ Q k c=>
 h g G H σ Q k fun a od G1 H1 Δ1 k1 s1 pd hq_=>by
  obtain ⟨ds,e,p1⟩:=hq_
  subst e
  obtain ⟨o,q1,q2,_⟩:=id pd
  cases o with
  | lst vs=>
   obtain ⟨k2,sg,r⟩:=k1.freeze pd q1
   exact c _ _ _ H1 Δ1 k2 (s1.trans sg) r p1
  | _=>exact absurd q2 (fun z=>z)
theorem Zek {c:TT} {ta tb:TE} {P:D->Evt->Prop} (h:JT K c Δ fun b Δ1=>if b=true then JE K ta Δ1 P else JE K tb Δ1 P):JE K (tIf c ta tb) Δ P:=fun g G H σ Q k q=>
 h g G H σ _ k fun b G1 H1 Δ1 k1 s1 p1=>by
  cases b with
  | true=>exact (show JE K ta Δ1 P from p1) g G1 H1 σ Q k1 (q.up s1)
  | false=>exact (show JE K tb Δ1 P from p1) g G1 H1 σ Q k1 (q.up s1)
theorem Za0 {t:TE} {P:Bool->Evt->Prop} (h:JE K t Δ fun d Δ1=>∃ b,d=.bl b/\P b Δ1):JT K (tTest t) Δ P:=fun g G H σ Q k c=>
 h g G H σ _ k fun v d G1 H1 Δ1 k1 s1 r1 hq_=>by obtain ⟨b,e,p1⟩:=hq_; subst e; cases r1.inv; exact ⟨b,rfl,c b G1 H1 Δ1 k1 s1 p1⟩
theorem Zdm {a b:TT} {P:Bool->Evt->Prop} (h:JT K a Δ fun x Δ1=>if x=true then JT K b Δ1 P else P false Δ1):JT K (tAnd a b) Δ P:=fun g G H σ Q k c=>
 h g G H σ _ k fun x G1 H1 Δ1 k1 s1 p1=>by
  cases x with
  | true=>exact (show JT K b Δ1 P from p1) g G1 H1 σ _ k1 fun y G2 H2 Δ2 k2 s2 p2=>c y G2 H2 Δ2 k2 (s1.trans s2) p2
  | false=>exact c false G1 H1 Δ1 k1 s1 p1
theorem Zmd {a b:TT} {P:Bool->Evt->Prop} (h:JT K a Δ fun x Δ1=>if x=true then P true Δ1 else JT K b Δ1 P):JT K (tOr a b) Δ P:=fun g G H σ Q k c=>
 h g G H σ _ k fun x G1 H1 Δ1 k1 s1 p1=>by
  cases x with
  | true=>exact c true G1 H1 Δ1 k1 s1 p1
  | false=>exact (show JT K b Δ1 P from p1) g G1 H1 σ _ k1 fun y G2 H2 Δ2 k2 s2 p2=>c y G2 H2 Δ2 k2 (s1.trans s2) p2
theorem Zdo {a:TT} {P:Bool->Evt->Prop} (h:JT K a Δ fun x Δ1=>P (!x) Δ1):JT K (tNot a) Δ P:=fun g G H σ Q k c=>
 h g G H σ _ k fun x G1 H1 Δ1 k1 s1 p1=>c (!x) G1 H1 Δ1 k1 s1 p1
theorem Zcl {P:Bool->Evt->Prop} (p:P true Δ):JT K tTrue Δ P:=fun g G H σ Q k c=>c true G H Δ k (Same.refl _) p
theorem Zns {P:Pst} (p:P.nx Δ):JS K tNext Δ P:=fun g G H σ E k c=>c.nx σ G H Δ k p
theorem Zmi {t u:TS} {P:Pst} (h:JS K t Δ { P with nx:=fun Δ1=>JS K u Δ1 P }):JS K (tSeq t u) Δ P:=fun g G H σ E k c=>
 h g G H σ _ k ⟨fun σ1 G1 H1 Δ1 k1 p1=>p1 g G1 H1 σ1 E k1 c,c.rt,c.bk,c.ct,c.ro⟩
theorem Zp6 {te:TE} {P:Pst} (h:JE K te Δ P.rt):JS K (tRet te) Δ P:=fun g G H σ E k c=>
 h g G H σ _ k fun v d G1 H1 Δ1 k1 s1 r1 p1=>c.rt v d σ G1 H1 Δ1 k1 r1 p1
theorem Znl {te:TE} {P:Pst} (h:JO K te Δ P.ro):JS K (tRet te) Δ P:=fun g G H σ E k c=>
 h g G H σ _ k fun a od G1 H1 Δ1 k1 s1 pd p1=>c.ro a od σ G1 H1 Δ1 k1 pd p1
theorem Zqt {c:TT} {t u:TS} {P:Pst} (h:JT K c Δ fun b Δ1=>if b=true then JS K t Δ1 P else JS K u Δ1 P):JS K (tIfS c t u) Δ P:=fun g G H σ E k q=>
 h g G H σ _ k fun b G1 H1 Δ1 k1 s1 p1=>by
  cases b with
  | true=>exact (show JS K t Δ1 P from p1) g G1 H1 σ E k1 q
  | false=>exact (show JS K u Δ1 P from p1) g G1 H1 σ E k1 q
theorem Zpu {te:TE} {t:TG} {P:Pst} (h:JE K te Δ fun d Δ1=>JG K t d Δ1 P.nx):JS K (tAsg te t) Δ P:=fun g G H σ E k c=>
 h g G H σ _ k fun v d G1 H1 Δ1 k1 s1 r1 p1=>p1 g G1 H1 σ v _ k1 r1 fun σ2 G2 H2 Δ2 k2 s2 p2=>c.nx σ2 G2 H2 Δ2 k2 p2
theorem Zfr {P:Evt->Prop} (p:P Δ):JGs K gNil [] Δ P:=fun g G H σ vs R k r c=>by cases r; exact ⟨rfl,c σ G H Δ k (Same.refl _) p⟩
theorem Zcr {t:TG} {u:TGs} {d:D} {ds:List D} {P:Evt->Prop} (h:JG K t d Δ fun Δ1=>JGs K u ds Δ1 P):JGs K (gCons t u) (d :: ds) Δ P:=fun g G H σ vs R k r c=>by
 obtain ⟨_,_,rfl,r1,rr⟩:=r.inv
 next=>exact ⟨_,_,rfl,h g G H σ _ _ k r1 fun σ1 G1 H1 Δ1 k1 s1 p1=>p1 g G1 H1 σ1 _ R k1 (rr.mono s1) fun σ2 G2 H2 Δ2 k2 s2 p2=>c σ2 G2 H2 Δ2 k2 (s1.trans s2) p2⟩
theorem Zh0 {n:Nat} {t:TGs} {ds:List D} {P:Evt->Prop} (hl:ds.length=n) (h:JGs K t ds Δ P):JG K (gTup K n t) (.tup ds) Δ P:=fun g G H σ v R k r c=>by
 obtain ⟨_,_,rfl,ha,rs⟩:=r.inv
 next=>exact ⟨_,_,rfl,SqT.of (k.live _ _ ha),by rw [rs.length]; exact hl,h g G H σ _ R k rs c⟩
def ItOk (K:PySem.W.Frag) (G:Hp) (J:It) (ds:List D):Prop:=
 ∀ G1 H1,Same G G1->Same G1 H1->J.stop ds.length H1/\∀ (i:Nat) d,ds[i]? = some d->J.go i H1/\∀ x H2,J.yld i H1 x H2->∃ G2,Same G1 G2/\Same H1 H2/\(∀ b o,G2 b=some o->H2 b=some o/\(G1 b=some o\/H1 b=none))/\Rep K G2 x d
def JI (K:PySem.W.Frag) (wi:TI) (Δ:Evt) (P:List D->Evt->Prop):Prop:=
 ∀ g G H σ (R:It->Hp->Prop),Ok K g G H σ Δ -> (∀ J ds G' H' Δ',Ok K g G' H' σ Δ' -> Same G G' -> ItOk K G' J ds->P ds Δ' -> R J H')->wi σ H R
theorem Zqb {tl:TE} {P:List D->Evt->Prop} (h:JE K tl Δ fun d Δ1=>∃ ds,d=.tup ds/\P ds Δ1):JI K (iTup K tl) Δ P:=fun g G H σ R k c=>
 h g G H σ _ k fun v d G1 H1 Δ1 k1 s1 r1 hq_=>by
  obtain ⟨ds,e,p1⟩:=hq_
  subst e
  obtain ⟨a,vs,rfl,ha,rs⟩:=r1.inv
  next=>
   refine ⟨a,rfl,⟨vs,SqT.of (k1.live _ _ ha)⟩,c _ ds G1 H1 Δ1 k1 s1 (fun G2 H2 sg sh=>⟨⟨vs,SqT.of (sh _ _ (sg _ _ ha)),by rw [rs.length]; exact Nat.le_refl _⟩,fun i d e=>?_⟩) p1⟩
   obtain ⟨v,hv,rv⟩:=rs.get e
   refine ⟨⟨vs,v,SqT.of (sh _ _ (sg _ _ ha)),hv⟩,fun x H3 ⟨e3,y3⟩=>⟨G2,Same.refl _,by rw [e3]; exact Same.refl _,fun b o q=>⟨by rw [e3]; exact sh b o q,.inl q⟩,?_⟩⟩
   have:=y3 vs (SqT.of (sh _ _ (sg _ _ ha)))
   rw [hv] at this; cases this
   exact rv.mono sg
theorem Zn9 {tl:TE} {P:List D->Evt->Prop} (h:JE K tl Δ fun d Δ1=>∃ ds,(d=.lst ds\/d=.scr ds)/\P ds Δ1):JI K (iList K tl) Δ P:=fun g G H σ R k c=>
 h g G H σ _ k fun v d G1 H1 Δ1 k1 s1 r1 hq_=>by
  obtain ⟨ds,e,p1⟩:=hq_
  obtain ⟨a,vs,ea,hs,rs⟩:∃ a vs,v=.ref a/\SqL K G1 a vs/\Reps K G1 vs ds:=by
   rcases e with e | e
   ·subst e; cases r1 with | lst ha rs=>exact ⟨_,_,rfl,SqL.of ha,rs⟩
   ·subst e; cases r1 with | scr ha rs=>exact ⟨_,_,rfl,ha,rs⟩
  subst ea
  refine ⟨a,rfl,⟨vs,k1.live.seq hs⟩,c _ ds G1 H1 Δ1 k1 s1 (fun G2 H2 sg sh=>⟨⟨vs,sh.seq (sg.seq hs),by rw [rs.length]; exact Nat.le_refl _⟩,fun i d e=>?_⟩) p1⟩
  obtain ⟨v,hv,rv⟩:=rs.get e
  refine ⟨⟨vs,v,sh.seq (sg.seq hs),hv⟩,fun x H3 ⟨e3,y3⟩=>⟨G2,Same.refl _,by rw [e3]; exact Same.refl _,fun b o q=>⟨by rw [e3]; exact sh b o q,.inl q⟩,?_⟩⟩
  have:=y3 vs (sh.seq (sg.seq hs))
  rw [hv] at this; cases this
  exact rv.mono sg
def rngD (lo:Int) (n:Nat):List D:=(List.range n).map fun i:Nat=>D.int (lo + (i:Int))
theorem Zb3 (lo:Int) (n:Nat):(rngD lo n).length=n:=by simp [rngD]
theorem Zc9 {lo:Int} {n i:Nat} {d:D} (h:(rngD lo n)[i]? = some d):i < n/\d=.int (lo + (i:Int)):=by
 unfold rngD at h
 rw [List.getElem?_map] at h
 cases e:(List.range n)[i]? with
 | none=>rw [e] at h; cases h
 | some j=>
  rw [e] at h
  obtain ⟨h1,h2⟩:=List.getElem?_eq_some_iff.mp e
  rw [List.getElem_range] at h2
  subst h2
  exact ⟨by simpa using h1,(Option.some.inj h).symm⟩
theorem Zl5 {G:Hp} (lo:Int) (n:Nat):ItOk K G (Itr lo n) (rngD lo n):=fun G1 H1 sg sh=>by
 refine ⟨by show n<=(rngD lo n).length; rw [Zb3]; exact Nat.le_refl _,fun i d e=>?_⟩
 obtain ⟨h1,h2⟩:=Zc9 e
 subst h2
 refine ⟨h1,fun x H2 ⟨e2,y2⟩=>⟨G1,Same.refl _,by rw [e2]; exact Same.refl _,fun b o q=>⟨by rw [e2]; exact sh b o q,.inl q⟩,?_⟩⟩
 subst y2
 exact .int _
theorem Zcb {ta:TA} {P:List D->Evt->Prop} (h:JA K ta Δ fun ds Δ1=>∃ n:Int,ds=[.int n] /\ -(2 ^ 62)<=n/\n < 2 ^ 62/\P (rngD 0 n.toNat) Δ1):JI K (iRng1 ta) Δ P:=fun g G H σ R k c=>
 h g G H σ _ k fun vs ds G1 H1 Δ1 k1 s1 r1 hq_=>by
  obtain ⟨n,e,h1,h2,p1⟩:=hq_
  subst e
  obtain ⟨_,_,rfl,ra,rr⟩:=r1.inv
  next=>
   cases rr.inv; cases ra.inv
   exact ⟨n,rfl,h1,h2,c _ _ G1 H1 Δ1 k1 s1 (Zl5 0 _) p1⟩
theorem Zoz {wi:TI} {t:TG} {tb:TS} {P:Pst} (h:JI K wi Δ fun ds Δ1=>∃ I:Nat->Evt->Prop,I 0 Δ1/\(∀ i d Δ2,ds[i]? = some d->I i Δ2->JG K t d Δ2 fun Δ3=>JS K tb Δ3 ⟨I (i + 1),P.rt,P.nx,I (i + 1),P.ro⟩)/\∀ Δ2,I ds.length Δ2->P.nx Δ2) :
  JS K (tFor wi t tb) Δ P:=fun g G H σ E k c=>
 h g G H σ _ k fun J ds G1 H1 Δ1 k1 s1 it hq_=>by
  obtain ⟨I,h0,ht,he⟩:=hq_
  refine ⟨fun i m σ H=>m=ds.length - i/\i<=ds.length/\∃ G Δ,Ok K g G H σ Δ /\ Same G1 G/\I i Δ,⟨ds.length,by simp,Nat.zero_le _,G1,Δ1,k1,Same.refl _,h0⟩,?_⟩
  rintro i m σ2 H2 ⟨rfl,hi,G2,Δ2,k2,s2,h2⟩
  obtain ⟨stop,go⟩:=it G2 H2 s2 k2.live
  by_cases hlt:i < ds.length
  ·obtain ⟨g1,g2⟩:=go i _ (List.getElem?_eq_getElem hlt)
   refine .inr ⟨g1,fun σ' H'=>i + 1<=ds.length/\∃ G Δ,Ok K g G H' σ' Δ /\ Same G1 G/\I (i + 1) Δ,fun σ' H' p'=>⟨ds.length - (i + 1),by omega,rfl,p'.1,p'.2⟩,fun x H3 y=>?_⟩
   obtain ⟨G3,a1,a2,a3,a4⟩:=g2 x H3 y
   have k3:=k2.grow a1 a2 a3
   refine ht i _ Δ2 (List.getElem?_eq_getElem hlt) h2 { g with F:=G3,Xo:=g.Xo } G3 H3 σ2 x _ ?_ a4 fun σ4 G4 H4 Δ4 k4 s4 p4=>?_
   ·exact ⟨k3.same,k3.lent,Same.refl _,fun b o q=>⟨(k3.frz b o q).1,.inr q⟩,k3.ext,k3.len,k3.val,k3.own,k3.dis⟩
   ·have cv:∀ {G5 H5:Hp} {σ5:St} {Δ5:Evt},Ok K { g with F:=G3,Xo:=g.Xo } G5 H5 σ5 Δ5->Ok K g G5 H5 σ5 Δ5/\Same G1 G5:=fun {G5 H5 σ5 Δ5} k5=>
     ⟨⟨k5.same,k5.lent,k3.sub.trans k5.sub,fun b o q=>by
      obtain ⟨q1,q2⟩:=k5.frz b o q
      refine ⟨q1,?_⟩
      rcases q2 with z | z
      ·exact .inl z
      ·exact (k3.frz b o z).2,k5.ext,k5.len,k5.val,k5.own,k5.dis⟩,s2.trans (a1.trans k5.sub)⟩
    refine p4 _ G4 H4 σ4 _ k4 ⟨fun σ5 G5 H5 Δ5 k5 p5=>?_,fun v d σ5 G5 H5 Δ5 k5 r5 p5=>?_,fun σ5 G5 H5 Δ5 k5 p5=>?_,fun σ5 G5 H5 Δ5 k5 p5=>?_,fun a od σ5 G5 H5 Δ5 k5 pd5 p5=>?_⟩
    ·exact ⟨hlt,G5,Δ5,(cv k5).1,(cv k5).2,p5⟩
    ·exact c.rt v d σ5 G5 H5 Δ5 (cv k5).1 r5 p5
    ·exact c.nx σ5 G5 H5 Δ5 (cv k5).1 p5
    ·exact ⟨hlt,G5,Δ5,(cv k5).1,(cv k5).2,p5⟩
    ·exact c.ro a od σ5 G5 H5 Δ5 (cv k5).1 pd5 p5
  ·have e:i=ds.length:=by omega
   subst e
   exact .inl ⟨stop,c.nx σ2 G2 H2 Δ2 k2 (he Δ2 h2)⟩
end
end L2
set_option Elab.async false
set_option linter.all false
set_option maxRecDepth 100000
namespace L2
open PySem PySem.Spec PyProof.Rows
section
variable {K:PySem.W.Frag} {Δ:Evt} {P:D->Evt->Prop}
theorem jr_I {C:Int->Int->Prop} {f:Int->Int->Int} {i j:Int} (hc:C i j) (p:P (.int (f i j)) Δ):JR2 K (rI C fun i j=>.int (f i j)) (.int i) (.int j) Δ P:=fun g G H σ Q x y k rx ry c=>by
 cases rx.inv; cases ry.inv
 exact ⟨i,j,rfl,rfl,hc,c _ _ G H Δ k (Same.refl _) (.int _) p⟩
theorem Zf9 {f:Int->Int->Int} {i j:Int} (p:P (.int (f i j)) Δ):JR2 K (rI0 fun i j=>.int (f i j)) (.int i) (.int j) Δ P:=fun g G H σ Q x y k rx ry c=>by
 cases rx.inv; cases ry.inv
 exact ⟨i,j,rfl,rfl,c _ _ G H Δ k (Same.refl _) (.int _) p⟩
theorem Zdu {f:Int->Int->Bool} {i j:Int} (p:P (.bl (f i j)) Δ):JR2 K (rI0 fun i j=>.bl (f i j)) (.int i) (.int j) Δ P:=fun g G H σ Q x y k rx ry c=>by
 cases rx.inv; cases ry.inv
 exact ⟨i,j,rfl,rfl,c _ _ G H Δ k (Same.refl _) (.bl _) p⟩
theorem Zei {i j:Int} (p:P (.bl (decide (i=j))) Δ):JR2 K rEq (.int i) (.int j) Δ P:=fun g G H σ Q x y k rx ry c=>by
 cases rx.inv; cases ry.inv
 refine ⟨rfl,?_⟩
 have e:decide (V.int i=V.int j)=decide (i=j):=by rw [Zfx]; exact (Bool.beq_eq_decide_eq i j)
 rw [e]
 exact c _ _ G H Δ k (Same.refl _) (.bl _) p
theorem Zmb {i j:Int} (p:P (.bl (!decide (i=j))) Δ):JR2 K rNe (.int i) (.int j) Δ P:=fun g G H σ Q x y k rx ry c=>by
 cases rx.inv; cases ry.inv
 refine ⟨rfl,?_⟩
 have e:decide (V.int i=V.int j)=decide (i=j):=by rw [Zfx]; exact (Bool.beq_eq_decide_eq i j)
 rw [e]
 exact c _ _ G H Δ k (Same.refl _) (.bl _) p
theorem Zpj {ds:List D} {i:Int} {d:D} (h:atI ds i=some d) (p:P d Δ):JR2 K (rIxT K) (.tup ds) (.int i) Δ P:=fun g G H σ Q x y k rx ry c=>by
 obtain ⟨_,_,rfl,ha,rs⟩:=rx.inv
 next=>
  cases ry.inv
  obtain ⟨v,h1,h2⟩:=Zgb rs h
  exact ⟨_,_,i,v,rfl,rfl,SqT.of (k.live _ _ ha),h1,c v d G H Δ k (Same.refl _) h2 p⟩
theorem Zop {ds:List D} {i:Int} {d:D} (h:atI ds i=some d) (p:P d Δ):JR2 K (rIxL K) (.lst ds) (.int i) Δ P:=fun g G H σ Q x y k rx ry c=>by
 obtain ⟨_,_,rfl,ha,rs⟩:=rx.inv
 next=>
  cases ry.inv
  obtain ⟨v,h1,h2⟩:=Zgb rs h
  exact ⟨_,_,i,v,rfl,rfl,SqL.of (k.live _ _ ha),h1,c v d G H Δ k (Same.refl _) h2 p⟩
theorem Zju {n:Nat} {te:TE} {Pp:Pst} {x:Slot} {od:OD} (hx:Δ[n]? = some x) (ho:x.od=some od) (hod:∃ ds,od=.lst ds)
  (h:JE K te Δ fun d Δ1=>∃ y ds,Δ1[n]? = some y/\y.od=some (.lst ds)/\ds.length < sizeLine/\Pp.nx (Δ1.set n (y.put (.lst (ds ++ [d]))))) :
  JS K (tDrop (tBM K "list" rAppend (tVar n) (tCons te tNil))) Δ Pp:=fun g G H σ E k c=>by
 obtain ⟨a,o,h1,h2,h3,h4,h5⟩:=k.own n x _ hx ho
 obtain ⟨ds0,hod⟩:=hod
 subst hod
 cases o with
 | lst vs0=>
  refine ⟨.ref a,h1,.inl ⟨rfl,_,SqL.of h2⟩,h g G H σ _ k fun v d G1 H1 Δ1 k1 s1 r1 ⟨y,ds,q1,q2,q3,p⟩=>?_⟩
  obtain ⟨a',o',w1,w2,w3,w4,w5⟩:=k1.own n y _ q1 q2
  rw [h1] at w1; cases w1
  cases o' with
  | lst vs=>
   have w3:Reps K G1 vs ds:=w3
   exact ⟨a,vs,v,rfl,rfl,w2,by rw [w3.length]; exact q3,c.nx σ G1 _ _ (k1.write q1 q2 h1 (show OwnRep K G1 (.lst (vs ++ [v])) (.lst (ds ++ [d])) from w3.append (.cons r1 .nil))) p⟩
  | _=>exact absurd w3 (fun z=>z)
 | _=>exact absurd h3 (fun z=>z)
theorem Zom {ds es:List D} (he:ds=[.lst es]\/ds=[.tup es]) (p:P (.int es.length) Δ) :
  JC K (fun xs H Q=>∃ p ys,xs=[.ref p]/\(SqL K H p ys\/SqT K H p ys)/\Q (.int ys.length) H) ds Δ P:=fun g G H σ Q vs k rs c=>by
 rcases he with he | he <;> subst he
 ·obtain ⟨_,_,rfl,r,t⟩:=rs.inv
  next=>
   cases t.inv
   obtain ⟨_,_,rfl,ha,rs⟩:=r.inv
   next=>
    refine ⟨_,_,rfl,.inl (SqL.of (k.live _ _ ha)),?_⟩
    rw [rs.length]; exact c _ _ G H Δ k (Same.refl _) (.int _) p
 ·obtain ⟨_,_,rfl,r,t⟩:=rs.inv
  next=>
   cases t.inv
   obtain ⟨_,_,rfl,ha,rs⟩:=r.inv
   next=>
    refine ⟨_,_,rfl,.inr (SqT.of (k.live _ _ ha)),?_⟩
    rw [rs.length]; exact c _ _ G H Δ k (Same.refl _) (.int _) p
theorem Zog {n:Nat} {x:Slot} {ds:List D} (hx:Δ[n]? = some x) (ho:x.od=some (.lst ds)) (p:P (.int ds.length) Δ) :
  JE K (tCB (fun xs H Q=>∃ p ys,xs=[.ref p]/\(SqL K H p ys\/SqT K H p ys)/\Q (.int ys.length) H) (tCons (tVar n) tNil)) Δ P:=fun g G H σ Q k c=>by
 obtain ⟨a,o,h1,h2,h3,h4,h5⟩:=k.own n x _ hx ho
 cases o with
 | lst vs=>
  have h3:Reps K G vs ds:=h3
  refine ⟨.ref a,h1,a,vs,rfl,.inl (SqL.of h2),?_⟩
  rw [h3.length]; exact c _ _ G H Δ k (Same.refl _) (.int _) p
 | _=>exact absurd h3 (fun z=>z)
theorem Zp8 {i:Int} (p:P (.int (if i < 0 then -i else i)) Δ):JC K (fun xs H Q=>∃ i,xs=[.int i]/\Q (.int (if i < 0 then -i else i)) H) [.int i] Δ P:=fun g G H σ Q vs k rs c=>by
 obtain ⟨_,_,rfl,r,t⟩:=rs.inv
 next=>cases t.inv; cases r.inv; exact ⟨i,rfl,c _ _ G H Δ k (Same.refl _) (.int _) p⟩
theorem Zfk {f:Int->Int->Int} {i j:Int} (p:P (.int (f i j)) Δ):JC K (fun xs H Q=>∃ i j,xs=[.int i,.int j]/\Q (.int (f i j)) H) [.int i,.int j] Δ P:=fun g G H σ Q vs k rs c=>by
 obtain ⟨_,_,rfl,r,t⟩:=rs.inv
 next=>
  obtain ⟨_,_,rfl,r',t⟩:=t.inv
  next=>cases t.inv; cases r.inv; cases r'.inv; exact ⟨i,j,rfl,c _ _ G H Δ k (Same.refl _) (.int _) p⟩
theorem Zl8 {ds es:List D} (he:ds=[.lst es]\/ds=[.tup es]) (p:P (.tup es) Δ) :
  JC K (fun xs H Q=>∃ p ys,xs=[.ref p]/\((SqL K H p ys/\∀ l,H l=none->Q (.ref l) (upd H l (.tup ys)))\/(SqT K H p ys/\Q (.ref p) H))) ds Δ P:=fun g G H σ Q vs k rs c=>by
 rcases he with he | he <;> subst he
 ·obtain ⟨_,_,rfl,r,t⟩:=rs.inv
  next=>
   cases t.inv
   obtain ⟨_,_,rfl,ha,rs⟩:=r.inv
   next=>
    refine ⟨_,_,rfl,.inl ⟨SqL.of (k.live _ _ ha),fun l hl=>?_⟩⟩
    obtain ⟨k2,sg⟩:=k.laid hl (.tup _)
    exact c _ _ _ _ Δ k2 sg (.tup Zat (rs.mono sg)) p
 ·obtain ⟨_,_,rfl,r,t⟩:=rs.inv
  next=>
   cases t.inv
   obtain ⟨_,_,rfl,ha,rs⟩:=r.inv
   next=>exact ⟨_,_,rfl,.inr ⟨SqT.of (k.live _ _ ha),c _ _ G H Δ k (Same.refl _) (.tup ha rs) p⟩⟩
def glue (F H H':Hp):Hp:=fun b=>match H b with
 | none=>H' b
 | some _=>F b
theorem Zel {F H H':Hp} {b:Addr} (h:H b=none):glue F H H' b=H' b:=by unfold glue; rw [h]
theorem Zdi {F H H':Hp} {b:Addr} {o:HO} (h:H b=some o):glue F H H' b=F b:=by unfold glue; rw [h]
theorem Zf6 {G H H':Hp} (l:Same G H):Same G (glue G H H'):=fun b o e=>by rw [Zdi (l b o e)]; exact e
theorem Zhg {G H H':Hp} (l:Same G H) (sh:∀ b o,G b=some o->H b=some o->H' b=some o):∀ b o,glue G H H' b=some o->H' b=some o/\(G b=some o\/H b=none):=fun b o e=>by
 cases q:H b with
 | none=>rw [Zel q] at e; exact ⟨e,.inr rfl⟩
 | some u=>rw [Zdi q] at e; exact ⟨sh b o e (l b o e),.inl e⟩
abbrev DSp:=List D->(D->Prop)->Prop
def spD (K:PySem.W.Frag) (f:DSp):Sp:=fun vs H Q _=>∃ F ds Post,Same F H/\Reps K F vs ds/\f ds Post/\∀ r H' d,Same H H' -> Rep K (glue F H H') r d->Post d->Q r H'
theorem Zau {f:DSp} {ta:TA} {E:XK} (h:JA K ta Δ fun ds Δ1=>f ds fun d=>P d Δ1):JE K (tCall (spD K f) [] E ta) Δ P:=fun g G H σ Q k c=>
 h g G H σ _ k fun vs ds G1 H1 Δ1 k1 s1 r1 p1=>by
  show spD K f (vs ++ []) H1 Q E
  rw [List.append_nil]
  refine ⟨G1,ds,_,k1.live,r1,p1,fun r H' d sh rr pd=>?_⟩
  have sg:=Zf6 (H':=H') k1.live
  exact c r d _ H' Δ1 (k1.grow sg sh (Zhg k1.live fun b o _ e=>sh b o e)) (s1.trans sg) rr pd
abbrev BSp:=List D->List D->(D->List D->Prop)->Prop
def spB (K:PySem.W.Frag) (f:BSp):Sp:=fun vs H Q _=>∃ F a us ws ps ds Post,vs=.ref a :: ws/\Same F H/\F a=none/\H a=some (.lst us)/\Reps K F us ps/\Reps K F ws ds/\f ps ds Post ∧
 ∀ r H' us' ps' d,(∀ b o,b ≠ a->H b=some o->H' b=some o)->H' a=some (.lst us')->Reps K (glue F H H') us' ps' -> Rep K (glue F H H') r d->Post d ps' -> Q r H'
theorem Ok.lend {g:Gm} {G H H':Hp} {σ:St} (k:Ok K g G H σ Δ) {i:Nat} {x:Slot} {ps ps':List D} {us':List V} {a:Addr} (hx:Δ[i]? = some x) (ho:x.od=some (.lst ps)) (ha:σ[i]? = some (some (.ref a)))
  (sh:∀ b o,b ≠ a->H b=some o->H' b=some o) (hn:H' a=some (.lst us')) (r:Reps K (glue G H H') us' ps'):Ok K g (glue G H H') H' σ (Δ.set i (x.put (.lst ps')))/\Same G (glue G H H'):=by
 obtain ⟨a',o,h1,h2,h3,h4,h5⟩:=k.own i x _ hx ho
 rw [ha] at h1; cases h1
 have sg:=Zf6 (H':=H') k.live
 have k2:Ok K g (glue G H H') (upd H' a o) σ Δ:=by
  refine k.grow sg (fun b u e=>?_) fun b u e=>?_
  ·by_cases hb:b=a
   ·subst hb; rw [Zat,<- h2]; exact e
   ·rw [Zao hb]; exact sh b u hb e
  ·have hb:b ≠ a:=by intro z; subst z; rw [Zdi h2,h4] at e; cases e
   rw [Zao hb]
   exact Zhg k.live (fun c w e1 e2=>sh c w (fun z=>by subst z; rw [h4] at e1; cases e1) e2) b u e
 have k3:=k2.write hx ho ha (show OwnRep K (glue G H H') (.lst us') (.lst ps') from r)
 rw [Znx] at k3
 have e:upd H' a (.lst us')=H':=by
  funext b
  by_cases hb:b=a
  ·subst hb; rw [Zat,hn]
  ·rw [Zao hb]
 rw [e] at k3
 exact ⟨k3,sg⟩
theorem Zev {f:BSp} {ta:TA} {E:XK} {i:Nat} {x:Slot} {od:OD} (hx:Δ[i]? = some x) (ho:x.od=some od) (h:JA K ta Δ fun ds Δ1=>∃ y ps,Δ1[i]? = some y/\y.od=some (.lst ps)/\f ps ds fun d ps'=>P d (Δ1.set i (y.put (.lst ps')))) :
  JE K (tCall (spB K f) [] E (tCons (tVar i) ta)) Δ P:=fun g G H σ Q k c=>by
 obtain ⟨a,o,h1,h2,h3,h4,h5⟩:=k.own i x _ hx ho
 refine ⟨.ref a,h1,h g G H σ _ k fun vs ds G1 H1 Δ1 k1 s1 r1 ⟨y,ps,q1,q2,p1⟩=>?_⟩
 show spB K f ((.ref a :: vs) ++ []) H1 Q E
 rw [List.append_nil]
 obtain ⟨a',o',w1,w2,w3,w4,w5⟩:=k1.own i y _ q1 q2
 rw [h1] at w1; cases w1
 cases o' with
 | lst us=>
  refine ⟨G1,a,us,vs,ps,ds,_,rfl,k1.live,w4,w2,w3,r1,p1,fun r H' us' ps' d sh hn rr rd pd=>?_⟩
  obtain ⟨k2,sg⟩:=k1.lend q1 q2 h1 sh hn rr
  exact c r d _ H' _ k2 (s1.trans sg) rd pd
 | _=>exact absurd w3 (fun z=>z)
abbrev NSp:=List D->(List D->Prop)->Prop
def spN (K:PySem.W.Frag) (f:NSp):Sp:=fun vs H Q _=>∃ F ds Post,Same F H/\Reps K F vs ds/\f ds Post ∧
 ∀ a H' us ps,Same H H' -> H a=none->H' a=some (.lst us)->Reps K (fun b=>if b=a then none else glue F H H' b) us ps->Post ps->Q (.ref a) H'
theorem Zm1 {f:NSp} {ta:TA} {E:XK} {Po:OD->Evt->Prop} (h:JA K ta Δ fun ds Δ1=>f ds fun ps=>Po (.lst ps) Δ1):JO K (tCall (spN K f) [] E ta) Δ Po:=fun g G H σ Q k c=>
 h g G H σ _ k fun vs ds G1 H1 Δ1 k1 s1 r1 p1=>by
  show spN K f (vs ++ []) H1 Q E
  rw [List.append_nil]
  refine ⟨G1,ds,_,k1.live,r1,p1,fun a H' us ps sh ha hn rr pd=>?_⟩
  have sg:Same G1 (fun b=>if b=a then none else glue G1 H1 H' b):=fun b o e=>by
   have hb:b ≠ a:=by intro z; subst z; rw [k1.live _ _ e] at ha; cases ha
   try dsimp only
   rw [if_neg hb]
   exact Zf6 k1.live b o e
  have k2:Ok K g (fun b=>if b=a then none else glue G1 H1 H' b) H' σ Δ1:=k1.grow sg sh fun b o e=>by
   try dsimp only at e
   by_cases hb:b=a
   ·rw [if_pos hb] at e; cases e
   ·rw [if_neg hb] at e; exact Zhg k1.live (fun b o _ e=>sh b o e) b o e
  refine c a _ _ H' Δ1 k2 (s1.trans sg) ⟨.lst us,hn,(show OwnRep K _ (.lst us) (.lst ps) from rr),by simp,k1.there ha,?_,fun j x od' e1 e2 e3=>?_⟩ pd
  ·cases q:g.Xo a with
   | none=>rfl
   | some u=>have z:=(k1.ext a u q).1; rw [ha] at z; cases z
  ·obtain ⟨b,oo,w1,w2,_⟩:=k1.own j x od' e1 e2
   rw [e3] at w1; cases w1
   rw [ha] at w2; cases w2
end
def startD (N:List Str) (ds:List D):Evt:=ds.map .val ++ List.replicate (N.length - ds.length) .any
section
variable {K:PySem.W.Frag}
theorem Zfu {g:Gm} {G H:Hp} {N:List Str} {vs:List V} {ds:List D} (rs:Reps K G vs ds) (hl:ds.length<=N.length) (same:∀ b o,¬ g.B b->g.Hz b=some o->H b=some o) (lent:∀ b,g.B b->H b ≠ none) (sub:Same g.F G)
  (frz:∀ b o,G b=some o->H b=some o/\(g.Hz b=none\/g.F b=some o)) (ext:∀ b,g.Xo b=none):Ok K g G H (start N vs) (startD N ds):=by
 have noOd:∀ (i:Nat) x od,(startD N ds)[i]? = some x->x.od=some od->False:=fun i x od e1 e2=>by
  have hm:=List.mem_of_getElem? e1
  rcases List.mem_append.mp hm with z | z
  ·obtain ⟨d,_,rfl⟩:=List.mem_map.mp z; cases e2
  ·rw [List.mem_replicate] at z; rw [z.2] at e2; cases e2
 refine ⟨same,lent,sub,frz,fun b o e=>(by rw [ext b] at e; cases e),?_,fun i d e=>?_,fun i x od e1 e2=>(noOd i x od e1 e2).elim,fun i j x y od od' a e1 e2=>(noOd i x od e1 e2).elim⟩
 ·unfold start startD
  rw [List.length_append,List.length_append,List.length_map,List.length_map,List.length_replicate,List.length_replicate,rs.length]
 ·unfold startD at e
  unfold start
  by_cases hi:i < ds.length
  ·rw [List.getElem?_append_left (by simpa using hi),List.getElem?_map] at e
   cases q:ds[i]? with
   | none=>rw [q] at e; cases e
   | some d'=>
    rw [q] at e
    have e:Slot.val d' = Slot.val d:=by simpa using e
    cases e
    obtain ⟨v,h1,h2⟩:=rs.get q
    refine ⟨v,?_,h2⟩
    rw [List.getElem?_append_left (by rw [List.length_map,rs.length]; exact hi),List.getElem?_map,h1]
    rfl
  ·rw [List.getElem?_append_right (by simpa using hi),List.getElem?_replicate] at e
   split at e <;> cases e
theorem Zcp {f:DSp} {t:TS} {N:List Str} {vs:List V} {H:Hp} {Q:VK} {E:XK} (ht:∀ ds Post,f ds Post->ds.length<=N.length/\JS K t (startD N ds) ⟨fun _=>Post .non,fun d _=>Post d,fun _=>False,fun _=>False,fun _ _=>False⟩) (h:spD K f vs H Q E) :
  t { nx:=fun _ H'=>Q .non H',rt:=Q } (start N vs) H:=by
 obtain ⟨F,ds,Post,l,rs,hf,q⟩:=h
 obtain ⟨hl,hj⟩:=ht ds Post hf
 have fin:∀ {v:V} {d:D} {σ:St} {G H':Hp} {Δ:Evt},Ok K ⟨fun _=>False,F,H,fun _=>none⟩ G H' σ Δ -> Rep K G v d->Post d->Q v H':=fun {v d σ G H' Δ} k r p=>by
  refine q v H' d (fun b o e=>k.same b o (fun z=>z) e) (r.mono fun b o e=>?_) p
  obtain ⟨e1,e2⟩:=k.frz b o e
  rcases e2 with z | z
  ·rw [Zel z]; exact e1
  ·rw [Zdi (l b o z)]; exact z
 refine hj ⟨fun _=>False,F,H,fun _=>none⟩ F H (start N vs) _ (Zfu rs hl (fun _ _ _ e=>e) (fun _ z=>z.elim) (Same.refl _) (fun b o e=>⟨l b o e,.inr e⟩) fun _=>rfl) ⟨fun σ G H' Δ k p=>fin k .non p,fun v d σ G H' Δ k r p=>fin k r p,fun _ _ _ _ _ z=>z.elim,fun _ _ _ _ _ z=>z.elim,fun _ _ _ _ _ _ _ _ z=>z.elim⟩
theorem Zqw {f:NSp} {t:TS} {N:List Str} {vs:List V} {H:Hp} {Q:VK} {E:XK} (ht:∀ ds Post,f ds Post->ds.length<=N.length/\JS K t (startD N ds) ⟨fun _=>False,fun _ _=>False,fun _=>False,fun _=>False,fun od _=>∃ ps,od=.lst ps/\Post ps⟩) (h:spN K f vs H Q E) :
  t { nx:=fun _ H'=>Q .non H',rt:=Q } (start N vs) H:=by
 obtain ⟨F,ds,Post,l,rs,hf,q⟩:=h
 obtain ⟨hl,hj⟩:=ht ds Post hf
 refine hj ⟨fun _=>False,F,H,fun _=>none⟩ F H (start N vs) _ (Zfu rs hl (fun _ _ _ e=>e) (fun _ z=>z.elim) (Same.refl _) (fun b o e=>⟨l b o e,.inr e⟩) fun _=>rfl) ⟨fun _ _ _ _ _ z=>z.elim,fun _ _ _ _ _ _ _ _ z=>z.elim,fun _ _ _ _ _ z=>z.elim,fun _ _ _ _ _ z=>z.elim,fun a od σ G H' Δ k pd ⟨ps,e,p⟩=>?_⟩
 subst e
 obtain ⟨o,h1,h2,h3,h4,h5,h6⟩:=pd
 cases o with
 | lst us=>
  refine q a H' us ps (fun b o e=>k.same b o (fun z=>z) e) h4 h1 (Reps.mono (fun b o e=>?_) (show Reps K G us ps from h2)) p
  have hb:b ≠ a:=by intro z; subst z; rw [h3] at e; cases e
  try dsimp only
  rw [if_neg hb]
  obtain ⟨e1,e2⟩:=k.frz b o e
  rcases e2 with z | z
  ·rw [Zel z]; exact e1
  ·rw [Zdi (l b o z)]; exact z
 | _=>exact absurd h2 (fun z=>z)
theorem Zk1 {f:BSp} {t:TS} {N:List Str} {vs:List V} {H:Hp} {Q:VK} {E:XK} (ht:∀ ps ds Post,f ps ds Post->ds.length + 1<=N.length/\JS K t (.bor (.lst ps) :: startD N.tail ds) ⟨fun Δ=>∃ ps',Δ[0]? = some (.bor (.lst ps'))/\Post .non ps',fun d Δ=>∃ ps',Δ[0]? = some (.bor (.lst ps'))/\Post d ps',fun _=>False,fun _=>False,fun _ _=>False⟩) (h:spB K f vs H Q E) :
  t { nx:=fun _ H'=>Q .non H',rt:=Q } (start N vs) H:=by
 obtain ⟨F,a,us,ws,ps,ds,Post,rfl,l,fa,ha,ru,rs,hf,q⟩:=h
 obtain ⟨hl,hj⟩:=ht ps ds Post hf
 have fin:∀ {v:V} {d:D} {σ:St} {G H':Hp} {Δ:Evt} {ps':List D},Ok K ⟨fun b=>b=a,F,H,fun _=>none⟩ G H' σ Δ -> Δ[0]? = some (.bor (.lst ps'))->Rep K G v d->Post d ps' -> Q v H':=fun {v d σ G H' Δ ps'} k e0 r p=>by
  obtain ⟨a',o,h1,h2,h3,h4,h5⟩:=k.own 0 _ _ e0 rfl
  have ea:a' = a:=h5
  subst ea
  cases o with
  | lst us'=>
   have up:Same G (glue F H H'):=fun b o e=>by
    obtain ⟨e1,e2⟩:=k.frz b o e
    rcases e2 with z | z
    ·rw [Zel z]; exact e1
    ·rw [Zdi (l b o z)]; exact z
   exact q v H' us' ps' d (fun b o hb e=>k.same b o hb e) h2 (Reps.mono up (show Reps K G us' ps' from h3)) (r.mono up) p
  | _=>exact absurd h3 (fun z=>z)
 cases N with
 | nil=>simp at hl
 | cons n0 N=>
  have hl':ds.length<=N.length:=by simpa using hl
  have k0:=Zfu (K:=K) (H:=H) (g:=⟨fun b=>b=a,F,H,fun _=>none⟩) (N:=N) rs hl' (fun _ _ _ e=>e) (fun b z=>by subst z; rw [ha]; intro w; cases w) (Same.refl _) (fun b o e=>⟨l b o e,.inr e⟩) fun _=>rfl
  have e1:start (n0 :: N) (.ref a :: ws)=some (.ref a) :: start N ws:=by
   unfold start
   rw [List.map_cons,List.length_cons,List.length_cons,Nat.add_sub_add_right]
   rfl
  rw [e1]
  have noOd:∀ (i:Nat) x od,(startD N ds)[i]? = some x->x.od=some od->False:=fun i x od e1 e2=>by
   have hm:=List.mem_of_getElem? e1
   rcases List.mem_append.mp hm with z | z
   ·obtain ⟨d,_,rfl⟩:=List.mem_map.mp z; cases e2
   ·rw [List.mem_replicate] at z; rw [z.2] at e2; cases e2
  have k1:Ok K ⟨fun b=>b=a,F,H,fun _=>none⟩ F H (some (.ref a) :: start N ws) (.bor (.lst ps) :: startD N ds):=by
   refine ⟨k0.same,k0.lent,k0.sub,k0.frz,fun b o e=>(by cases e),(by rw [List.length_cons,List.length_cons,k0.len]),fun i d e=>?_,fun i x od e1 e2=>?_,fun i j x y od od' c e1 e2 e3 e4 _ _=>?_⟩
   ·cases i with
    | zero=>cases e
    | succ i=>exact k0.val i d e
   ·cases i with
    | zero=>cases e1; cases e2; exact ⟨a,.lst us,rfl,ha,ru,fa,rfl⟩
    | succ i=>exact (noOd i x od e1 e2).elim
   ·cases i with
    | zero=>cases j with
     | zero=>rfl
     | succ j=>exact (noOd j y od' e3 e4).elim
    | succ i=>exact (noOd i x od e1 e2).elim
  exact hj _ F H _ _ k1 ⟨fun σ G H' Δ k ⟨ps',e,p⟩=>fin k e .non p,fun v d σ G H' Δ k r ⟨ps',e,p⟩=>fin k e r p,fun _ _ _ _ _ z=>z.elim,fun _ _ _ _ _ z=>z.elim,fun _ _ _ _ _ _ _ _ z=>z.elim⟩
theorem Zbd {f:DSp} {n:Nat} (h:∀ ds Post,f ds Post->ds.length=n):∀ vs H Q E,spD K f vs H Q E->vs.length=n:=fun vs H Q E hq_=>by obtain ⟨F,ds,Post,l,rs,hf,q⟩:=hq_; rw [rs.length]; exact h ds Post hf
theorem Zmw {f:NSp} {n:Nat} (h:∀ ds Post,f ds Post->ds.length=n):∀ vs H Q E,spN K f vs H Q E->vs.length=n:=fun vs H Q E hq_=>by obtain ⟨F,ds,Post,l,rs,hf,q⟩:=hq_; rw [rs.length]; exact h ds Post hf
theorem Zfq {f:BSp} {n:Nat} (h:∀ ps ds Post,f ps ds Post->ds.length + 1=n):∀ vs H Q E,spB K f vs H Q E->vs.length=n:=fun vs H Q E hq_=>by obtain ⟨F,a,us,ws,ps,ds,Post,e,l,fa,ha,ru,rs,hf,q⟩:=hq_; rw [e,List.length_cons,rs.length]; exact h ps ds Post hf
end
end L2
set_option Elab.async false
set_option linter.all false
set_option maxRecDepth 100000
namespace L2
open PySem PySem.Spec PyProof.Rows
def JGn (K:PySem.W.Frag) (n:Nat) (t:TG) (d:D) (Δ:Evt) (P:Evt->Prop):Prop:=
 ∀ g G H σ v (R:St->Hp->Prop),Ok K g G H σ Δ -> Rep K G v d->(∀ σ' G' H' Δ',Ok K g G' H' σ' Δ' -> Same G G' -> (∀ j,n<=j -> σ'[j]? = σ[j]?)->P Δ' -> R σ' H')->t v σ H R
def JGsn (K:PySem.W.Frag) (n:Nat) (t:TGs) (ds:List D) (Δ:Evt) (P:Evt->Prop):Prop:=
 ∀ g G H σ vs (R:St->Hp->Prop),Ok K g G H σ Δ -> Reps K G vs ds->(∀ σ' G' H' Δ',Ok K g G' H' σ' Δ' -> Same G G' -> (∀ j,n<=j -> σ'[j]? = σ[j]?)->P Δ' -> R σ' H')->t vs σ H R
section
variable {K:PySem.W.Frag} {Δ:Evt}
theorem Zid {n:Nat} {P:Evt->Prop} (p:P Δ):JGsn K n gNil [] Δ P:=fun g G H σ vs R k r c=>by cases r; exact ⟨rfl,c σ G H Δ k (Same.refl _) (fun _ _=>rfl) p⟩
theorem Zd3 {n:Nat} {t:TG} {u:TGs} {d:D} {ds:List D} {P:Evt->Prop} (h:JGn K n t d Δ fun Δ1=>JGsn K n u ds Δ1 P):JGsn K n (gCons t u) (d :: ds) Δ P:=fun g G H σ vs R k r c=>by
 obtain ⟨_,_,rfl,r1,rr⟩:=r.inv
 next=>exact ⟨_,_,rfl,h g G H σ _ _ k r1 fun σ1 G1 H1 Δ1 k1 s1 e1 p1=>p1 g G1 H1 σ1 _ R k1 (rr.mono s1) fun σ2 G2 H2 Δ2 k2 s2 e2 p2=>c σ2 G2 H2 Δ2 k2 (s1.trans s2) (fun j hj=>(e2 j hj).trans (e1 j hj)) p2⟩
theorem Zjn {n m:Nat} {t:TGs} {ds:List D} {P:Evt->Prop} (hl:ds.length=m) (h:JGsn K n t ds Δ P):JGn K n (gTup K m t) (.tup ds) Δ P:=fun g G H σ v R k r c=>by
 obtain ⟨_,_,rfl,ha,rs⟩:=r.inv
 next=>exact ⟨_,_,rfl,SqT.of (k.live _ _ ha),by rw [rs.length]; exact hl,h g G H σ _ R k rs c⟩
end
def compD (n:Nat) (sel:List Nat) (Δ:Evt):Evt:=List.replicate n .any ++ sel.map fun i=>(Δ[i]?).getD .any
def backAt (n:Nat) (sel:List Nat) (Δi:Evt) (i:Nat) (x:Slot):Slot:=match x with
 | .val d=>.val d
 | .any=>.any
 | x=>match sel.idxOf? i with
  | none=>x
  | some j=>match Δi[n + j]? with
   | some (.own o)=>.own o
   | some (.bor o)=>.bor o
   | some (.ownA a o)=>.ownA a o
   | _=>.any
def backD (n:Nat) (sel:List Nat) (Δi:Evt):Nat->Evt->Evt
 | _,[]=>[]
 | i,x :: r=>backAt n sel Δi i x :: backD n sel Δi (i + 1) r
theorem Zcy (n:Nat) (sel:List Nat) (Δi:Evt):∀ (Δ:Evt) (k i:Nat),(backD n sel Δi k Δ)[i]? = (Δ[i]?).map (backAt n sel Δi (k + i))
 | [],k,i=>by simp [backD]
 | x :: r,k,0=>by simp [backD]
 | x :: r,k,i + 1=>by
  have:=Zcy n sel Δi r (k + 1) i
  simp only [backD,List.getElem?_cons_succ]
  rw [this,show k + 1 + i=k + (i + 1) by omega]
theorem Zg3 (n:Nat) (sel:List Nat) (Δi:Evt):∀ (Δ:Evt) (k:Nat),(backD n sel Δi k Δ).length = Δ.length
 | [],k=>rfl
 | x :: r,k=>by simp [backD,Zg3 n sel Δi r (k + 1)]
theorem Zd5 {sel:List Nat} {i j:Nat} (h:sel.idxOf? i=some j):sel[j]? = some i:=by
 have h2:=List.idxOf?_eq_some_iff.mp h
 obtain ⟨hj,e,_⟩:=h2
 rw [List.getElem?_eq_getElem hj,e]
theorem Zj6 {n:Nat} {sel:List Nat} {Δi:Evt} {i:Nat} {x y:Slot} {od:OD} (h:backAt n sel Δi i x=y) (ho:y.od=some od) :
  (x=y/\sel.idxOf? i=none)\/∃ j,sel[j]? = some i /\ Δi[n + j]? = some y/\∃ od',x.od=some od':=by
 unfold backAt at h
 cases x with
 | any=>subst h; cases ho
 | val d=>subst h; cases ho
 | own o=>
  dsimp only at h
  cases q:sel.idxOf? i with
  | none=>rw [q] at h; exact .inl ⟨h,rfl⟩
  | some j=>
   rw [q] at h
   dsimp only at h
   refine .inr ⟨j,Zd5 q,?_,o,rfl⟩
   cases e:Δi[n + j]? with
   | none=>rw [e] at h; subst h; cases ho
   | some z=>rw [e] at h; cases z <;> (subst h; first | rfl | cases ho)
 | ownA a o=>
  dsimp only at h
  cases q:sel.idxOf? i with
  | none=>rw [q] at h; exact .inl ⟨h,rfl⟩
  | some j=>
   rw [q] at h
   dsimp only at h
   refine .inr ⟨j,Zd5 q,?_,o,rfl⟩
   cases e:Δi[n + j]? with
   | none=>rw [e] at h; subst h; cases ho
   | some z=>rw [e] at h; cases z <;> (subst h; first | rfl | cases ho)
 | bor o=>
  dsimp only at h
  cases q:sel.idxOf? i with
  | none=>rw [q] at h; exact .inl ⟨h,rfl⟩
  | some j=>
   rw [q] at h
   dsimp only at h
   refine .inr ⟨j,Zd5 q,?_,o,rfl⟩
   cases e:Δi[n + j]? with
   | none=>rw [e] at h; subst h; cases ho
   | some z=>rw [e] at h; cases z <;> (subst h; first | rfl | cases ho)
section
variable {K:PySem.W.Frag} {Δ:Evt}
open Classical in
noncomputable def aside (g:Gm) (sel:List Nat) (σ:St) (Δ:Evt) (H:Hp) (acc:Addr) (ys:List V):Hp:=fun b=>
 if b=acc then some (.lst ys) else if ∃ (i:Nat) (x:Slot) (od:OD),Δ[i]? = some x/\x.od=some od/\i ∉ sel /\ σ[i]? = some (some (.ref b)) then H b else g.Xo b
theorem Zdk {n:Nat} {sel:List Nat} {σ:St} {j i:Nat} (h:sel[j]? = some i):(compSt n sel σ)[n + j]? = some ((σ[i]?).getD none):=by
 unfold compSt
 rw [List.getElem?_append_right (by rw [List.length_replicate]; omega),List.length_replicate,Nat.add_sub_cancel_left,List.getElem?_map,h]
 rfl
theorem Zcj {n:Nat} {sel:List Nat} {Δ:Evt} {k:Nat} {x:Slot} (h:(compD n sel Δ)[k]? = some x):x=.any\/∃ j i,k=n + j/\sel[j]? = some i /\ Δ[i]? = some x:=by
 unfold compD at h
 by_cases hk:k < n
 ·rw [List.getElem?_append_left (by simpa using hk),List.getElem?_replicate,if_pos hk] at h
  exact .inl (Option.some.inj h).symm
 ·rw [List.getElem?_append_right (by simpa using hk),List.length_replicate,List.getElem?_map] at h
  cases e:sel[k - n]? with
  | none=>rw [e] at h; cases h
  | some i=>
   rw [e] at h
   have h:(Δ[i]?).getD .any=x:=by simpa using h
   cases q:Δ[i]? with
   | none=>rw [q] at h; exact .inl h.symm
   | some y=>rw [q] at h; cases h; exact .inr ⟨k - n,i,by omega,e,q⟩
theorem Zfi {g:Gm} {G1 H1:Hp} {σ:St} {Δ1:Evt} {n:Nat} {sel:List Nat} {acc:Addr} {X0:Hp} (hsel:sel.Nodup) (k1:Ok K g G1 H1 σ Δ1) (hacc:H1 acc=none)
  (hX:∀ b o,X0 b=some o->(b=acc/\o=.lst [])\/(b ≠ acc/\(((∃ (i:Nat) (x:Slot) (od:OD),Δ1[i]? = some x/\x.od=some od/\i ∉ sel /\ σ[i]? = some (some (.ref b)))/\H1 b=some o)\/g.Xo b=some o))):Ok K ⟨g.B,G1,g.Hz,X0⟩ G1 (upd H1 acc (.lst [])) (compSt n sel σ) (compD n sel Δ1):=by
 have hsl:∀ {j j' i:Nat},sel[j]? = some i->sel[j']? = some i->j=j':=fun {j j' i} a b=>by
  obtain ⟨h1,e1⟩:=List.getElem?_eq_some_iff.mp a
  obtain ⟨h2,e2⟩:=List.getElem?_eq_some_iff.mp b
  exact (List.getElem_inj hsel).mp (e1.trans e2.symm)
 have hGa:G1 acc=none:=by
  cases e:G1 acc with
  | none=>rfl
  | some u=>rw [k1.live _ _ e] at hacc; cases hacc
 have cs:∀ {j i:Nat} {a:Addr},sel[j]? = some i->(compSt n sel σ)[n + j]? = some (some (.ref a)) -> σ[i]? = some (some (.ref a)):=fun {j i a} ej e3=>by
  rw [Zdk ej] at e3
  cases q:σ[i]? with
  | none=>rw [q] at e3; cases e3
  | some w=>rw [q] at e3; cases e3; rfl
 have oldH:∀ b o,H1 b=some o->(upd H1 acc (.lst [])) b=some o:=fun b o e=>by rw [Zao (Zaq e hacc)]; exact e
 refine ⟨fun b o hb e=>oldH b o (k1.same b o hb e),fun b hb z=>?_,Same.refl _,fun b o e=>⟨oldH b o (k1.live b o e),.inr e⟩,fun b o e=>?_,?_,fun i d e=>?_,fun i x od e1 e2=>?_,fun i j x y od od' a e1 e2 e3 e4 e5 e6=>?_⟩
 ·cases q:H1 b with
  | none=>exact k1.lent b hb q
  | some u=>rw [oldH b u q] at z; cases z
 ·rcases hX b o e with ⟨rfl,rfl⟩ | ⟨hb,⟨⟨i0,x0,od0,f1,f2,f3,f4⟩,e⟩ | e⟩
  ·refine ⟨Zat,hGa,fun i x od e1 e2 e3=>?_⟩
   rcases Zcj e1 with z | ⟨j,i',ei,ej,z⟩
   ·subst z; cases e2
   ·subst ei
    obtain ⟨a,o,w1,w2,_⟩:=k1.own i' x od z e2
    rw [cs ej e3] at w1; cases w1
    rw [hacc] at w2; cases w2
  ·obtain ⟨a,oo,w1,w2,w3,w4,w5⟩:=k1.own i0 x0 od0 f1 f2
   rw [f4] at w1; cases w1
   refine ⟨oldH b o e,w4,fun i x od e1 e2 e3=>?_⟩
   rcases Zcj e1 with z | ⟨j,i',ei,ej,z⟩
   ·subst z; cases e2
   ·subst ei
    have:=k1.dis i0 i' x0 x od0 od b f1 f2 z e2 f4 (cs ej e3)
    subst this
    exact f3 (List.mem_of_getElem? ej)
  ·obtain ⟨w1,w2,w3⟩:=k1.ext b o e
   refine ⟨oldH b o w1,w2,fun i x od e1 e2 e3=>?_⟩
   rcases Zcj e1 with z | ⟨j,i',ei,ej,z⟩
   ·subst z; cases e2
   ·subst ei; exact w3 i' x od z e2 (cs ej e3)
 ·unfold compD compSt
  simp
 ·rcases Zcj e with z | ⟨j,i',ei,ej,z⟩
  ·cases z
  ·subst ei
   obtain ⟨v,w1,w2⟩:=k1.val i' d z
   exact ⟨v,by rw [Zdk ej,w1]; rfl,w2⟩
 ·rcases Zcj e1 with z | ⟨j,i',ei,ej,z⟩
  ·subst z; cases e2
  ·subst ei
   obtain ⟨a,o,w1,w2,w3,w4,w5⟩:=k1.own i' x od z e2
   exact ⟨a,o,by rw [Zdk ej,w1]; rfl,oldH a o w2,w3,w4,w5⟩
 ·rcases Zcj e1 with z | ⟨j1,i1,ei,ej,z⟩
  ·subst z; cases e2
  ·rcases Zcj e3 with z' | ⟨j2,i2,ei',ej',z'⟩
   ·subst z'; cases e4
   ·subst ei; subst ei'
    have:=k1.dis i1 i2 x y od od' a z e2 z' e4 (cs ej e5) (cs ej' e6)
    subst this
    rw [hsl ej ej']
theorem Zfn {σ σ2:St} {Δ1 Δ2:Evt} {n:Nat} {sel:List Nat} (hσ:∀ j,n<=j -> σ2[j]? = (compSt n sel σ)[j]?) (i:Nat) (y:Slot) (od:OD) (e1:(backD n sel Δ2 0 Δ1)[i]? = some y) (e2:y.od=some od) :
  ∃ x od',Δ1[i]? = some x/\x.od=some od' /\ ((x=y/\i ∉ sel)\/∃ j,sel[j]? = some i /\ Δ2[n + j]? = some y /\ σ2[n + j]? = some ((σ[i]?).getD none)):=by
 rw [Zcy] at e1
 cases q:Δ1[i]? with
 | none=>rw [q] at e1; cases e1
 | some x=>
  rw [q] at e1
  have e1:backAt n sel Δ2 i x=y:=by simpa using e1
  rcases Zj6 e1 e2 with ⟨z1,z2⟩ | ⟨j,z1,z2,od',z3⟩
  ·refine ⟨x,od,rfl,by rw [z1]; exact e2,.inl ⟨z1,fun hm=>?_⟩⟩
   rw [List.idxOf?_eq_none_iff] at z2
   exact z2 hm
  ·exact ⟨x,od',rfl,z3,.inr ⟨j,z1,z2,by rw [hσ (n + j) (by omega)]; exact Zdk z1⟩⟩
theorem Ze5 {g:Gm} {G1 H1 G2 H2 Xv:Hp} {σ σ2:St} {Δ1 Δ2:Evt} {n:Nat} {sel:List Nat} {acc:Addr} (k1:Ok K g G1 H1 σ Δ1) (hacc:H1 acc=none) (k2:Ok K ⟨g.B,G1,g.Hz,Xv⟩ G2 H2 σ2 Δ2) (hσ:∀ j,n<=j -> σ2[j]? = (compSt n sel σ)[j]?)
  (hX:∀ b o,b ≠ acc->(∃ (i:Nat) (x:Slot) (od:OD),Δ1[i]? = some x/\x.od=some od/\i ∉ sel /\ σ[i]? = some (some (.ref b)))->H1 b=some o->Xv b=some o) (hY:∀ b o,b ≠ acc->¬ (∃ (i:Nat) (x:Slot) (od:OD),Δ1[i]? = some x/\x.od=some od/\i ∉ sel /\ σ[i]? = some (some (.ref b)))->g.Xo b=some o->Xv b=some o):Ok K g G2 H2 σ (backD n sel Δ2 0 Δ1):=by
 have s2:Same G1 G2:=k2.sub
 have src:=Zfn (Δ1:=Δ1) (Δ2:=Δ2) hσ
 refine ⟨k2.same,k2.lent,k1.sub.trans s2,fun b o e=>?_,fun b o e=>?_,by rw [Zg3,k1.len],fun i d e=>?_,fun i y od e1 e2=>?_,fun i j x y od od' a e1 e2 e3 e4 e5 e6=>?_⟩
 ·obtain ⟨q1,q2⟩:=k2.frz b o e
  refine ⟨q1,?_⟩
  rcases q2 with z | z
  ·exact .inl z
  ·exact (k1.frz b o z).2
 ·obtain ⟨w1,w2,w3⟩:=k1.ext b o e
  have hne:b ≠ acc:=by intro z; subst z; rw [hacc] at w1; cases w1
  obtain ⟨u1,u2,u3⟩:=k2.ext b o (hY b o hne (fun ⟨i,x,od,f1,f2,f3,f4⟩=>w3 i x od f1 f2 f4) e)
  refine ⟨u1,u2,fun i y od e1 e2 e3=>?_⟩
  obtain ⟨x,od',f1,f2,_⟩:=src i y od e1 e2
  exact w3 i x od' f1 f2 e3
 ·rw [Zcy] at e
  cases q:Δ1[i]? with
  | none=>rw [q] at e; cases e
  | some x=>
   rw [q] at e
   have e:backAt n sel Δ2 (0 + i) x=.val d:=by simpa using e
   have ex:x=.val d:=by
    unfold backAt at e
    cases x with
    | any=>cases e
    | val d'=>exact e
    | own o=>dsimp only at e; split at e <;> first | cases e | (split at e <;> cases e)
    | bor o=>dsimp only at e; split at e <;> first | cases e | (split at e <;> cases e)
    | ownA a o=>dsimp only at e; split at e <;> first | cases e | (split at e <;> cases e)
   subst ex
   obtain ⟨v,w1,w2⟩:=k1.val i d q
   exact ⟨v,w1,w2.mono s2⟩
 ·obtain ⟨x,od',f1,f2,f3⟩:=src i y od e1 e2
  rcases f3 with ⟨f3,f4⟩ | ⟨j,f3,f4,f5⟩
  ·subst f3
   obtain ⟨a,o,w1,w2,w3,w4,w5⟩:=k1.own i x od f1 e2
   have hne:a ≠ acc:=by intro z; subst z; rw [hacc] at w2; cases w2
   obtain ⟨u1,u2,u3⟩:=k2.ext a o (hX a o hne ⟨i,x,od,f1,e2,f4,w1⟩ w2)
   exact ⟨a,o,w1,u1,w3.mono s2,u2,w5⟩
  ·obtain ⟨a,o,w1,w2,w3,w4,w5⟩:=k2.own (n + j) y od f4 e2
   obtain ⟨a0,o0,v1,_⟩:=k1.own i x od' f1 f2
   rw [f5,v1] at w1
   have ea:a0=a:=by cases w1; rfl
   subst ea
   exact ⟨a0,o,v1,w2,w3,w4,w5⟩
 ·obtain ⟨x',od1,f1,f2,_⟩:=src i x od e1 e2
  obtain ⟨y',od2,f3,f4,_⟩:=src j y od' e3 e4
  exact k1.dis i j x' y' od1 od2 a f1 f2 f3 f4 e5 e6
theorem Ok.base {g:Gm} {G1 F X G5 H5:Hp} {σ5:St} {Δ5:Evt} (sF:Same G1 F) (hF:∀ b o,F b=some o->(g.Hz b=none\/G1 b=some o)) (k5:Ok K ⟨g.B,F,g.Hz,X⟩ G5 H5 σ5 Δ5):Ok K ⟨g.B,G1,g.Hz,X⟩ G5 H5 σ5 Δ5:=
 ⟨k5.same,k5.lent,sF.trans k5.sub,fun b o q=>by
  obtain ⟨q1,q2⟩:=k5.frz b o q
  refine ⟨q1,?_⟩
  rcases q2 with z | z
  ·exact .inl z
  ·exact hF b o z,k5.ext,k5.len,k5.val,k5.own,k5.dis⟩
theorem Zhj {n:Nat} {sel:List Nat} {wi:TI} {t:TG} {tc:TT} {te:TE} {P:OD->Evt->Prop} (hsel:sel.Nodup)
  (h:JI K wi Δ fun ds Δ1=>ds.length < sizeLine/\∃ I:Nat->List D->Evt->Prop,I 0 [] (compD n sel Δ1) ∧
   (∀ i d ys Δ2,ds[i]? = some d->I i ys Δ2->JGn K n t d Δ2 fun Δ3=>JT K tc Δ3 fun b Δ4=>if b=true then JE K te Δ4 fun e Δ5=>I (i + 1) (ys ++ [e]) Δ5 else I (i + 1) ys Δ4) ∧
   ∀ ys Δ2,I ds.length ys Δ2->P (.lst ys) (backD n sel Δ2 0 Δ1)):JO K (tComp n sel wi t tc te) Δ P:=fun g G H σ Q k c=>
 h g G H σ _ k fun J ds G1 H1 Δ1 k1 s1 it ⟨hz,I,h0,ht,he⟩ acc hacc=>by
  have nacc:∀ (i:Nat) x od,Δ1[i]? = some x->x.od=some od -> σ[i]? ≠ some (some (.ref acc)):=fun i x od e1 e2 e3=>by
   obtain ⟨a,o,w1,w2,_⟩:=k1.own i x od e1 e2
   rw [e3] at w1; cases w1
   rw [hacc] at w2; cases w2
  -- the word at each turn
  let Wd:Nat->St->Hp->Prop:=fun i σ' H'=>i<=ds.length/\(∀ j,n<=j -> σ'[j]? = (compSt n sel σ)[j]?)/\∃ G ys vs Δi,ys.length<=i/\Reps K G vs ys/\Ok K ⟨g.B,G1,g.Hz,aside g sel σ Δ1 H1 acc vs⟩ G H' σ' Δi/\I i ys Δi
  refine ⟨fun i m σ' H'=>m=ds.length - i/\Wd i σ' H',⟨ds.length,by simp,Nat.zero_le _,fun _ _=>rfl,G1,[],[],compD n sel Δ1,Nat.le_refl _,.nil,?_,h0⟩,?_⟩
  ·refine Zfi hsel k1 hacc fun b o e=>?_
   have e:aside g sel σ Δ1 H1 acc [] b=some o:=e
   unfold aside at e
   by_cases hb:b=acc
   ·rw [if_pos hb] at e; cases e; exact .inl ⟨hb,rfl⟩
   ·rw [if_neg hb] at e
    split at e
    case isTrue hx=>exact .inr ⟨hb,.inl ⟨hx,e⟩⟩
    case isFalse hx=>exact .inr ⟨hb,.inr e⟩
  ·rintro i m σ2 H2 ⟨rfl,hi,hσ,G2,ys,vs,Δ2,hy,ry,k2,h2⟩
   have s2:Same G1 G2:=k2.sub
   obtain ⟨stop,go⟩:=it G2 H2 s2 k2.live
   have hacc2:∀ {G' H':Hp} {σ':St} {Δ':Evt} {vs:List V} {F:Hp},Ok K ⟨g.B,F,g.Hz,aside g sel σ Δ1 H1 acc vs⟩ G' H' σ' Δ' -> H' acc=some (.lst vs)/\G' acc=none/\∀ (i:Nat) x od,Δ'[i]? = some x->x.od=some od -> σ'[i]? ≠ some (some (.ref acc)):=fun {G' H' σ' Δ' vs F} kk=>
    kk.ext acc (.lst vs) (by show aside g sel σ Δ1 H1 acc vs acc=_; unfold aside; rw [if_pos rfl])
   by_cases hlt:i < ds.length
   ·obtain ⟨g1,g2⟩:=go i _ (List.getElem?_eq_getElem hlt)
    refine .inr ⟨g1,fun σ' H'=>Wd (i + 1) σ' H',fun σ' H' p'=>⟨ds.length - (i + 1),by omega,rfl,p'⟩,fun x H3 y=>?_⟩
    obtain ⟨G3,a1,a2,a3,a4⟩:=g2 x H3 y
    have k3:=k2.grow a1 a2 a3
    have hG3:∀ b o,G3 b=some o->(g.Hz b=none\/G1 b=some o):=fun b o q=>(k3.frz b o q).2
    have k3':Ok K ⟨g.B,G3,g.Hz,aside g sel σ Δ1 H1 acc vs⟩ G3 H3 σ2 Δ2:=⟨k3.same,k3.lent,Same.refl _,fun b o q=>⟨(k3.frz b o q).1,.inr q⟩,k3.ext,k3.len,k3.val,k3.own,k3.dis⟩
    have ry3:Reps K G3 vs ys:=ry.mono a1
    have s13:Same G1 G3:=s2.trans a1
    refine ht i _ ys Δ2 (List.getElem?_eq_getElem hlt) h2 ⟨g.B,G3,g.Hz,aside g sel σ Δ1 H1 acc vs⟩ G3 H3 σ2 x _ k3' a4 fun σ4 G4 H4 Δ4 k4 s4 e4 p4=>?_
    have hσ4:∀ j,n<=j -> σ4[j]? = (compSt n sel σ)[j]?:=fun j hj=>(e4 j hj).trans (hσ j hj)
    refine p4 _ G4 H4 σ4 _ k4 fun b G5 H5 Δ5 k5 s5 p5=>?_
    cases b with
    | false=>exact ⟨hlt,hσ4,G5,ys,vs,Δ5,by omega,ry3.mono (s4.trans s5),k5.base s13 hG3,p5⟩
    | true=>
     refine (show JE K te Δ5 _ from p5) _ G5 H5 σ4 _ k5 fun v d G6 H6 Δ6 k6 s6 r6 p6=>?_
     have ry6:Reps K G6 vs ys:=ry3.mono (s4.trans (s5.trans s6))
     obtain ⟨b1,b2,b3⟩:=hacc2 k6
     refine ⟨vs,b1,by rw [ry6.length]; omega,hlt,hσ4,G6,ys ++ [d],vs ++ [v],Δ6,by rw [List.length_append,List.length_singleton]; omega,ry6.append (.cons r6 .nil),?_,p6⟩
     have k7:=k6.base s13 hG3
     have oldH:∀ b o,b ≠ acc->H6 b=some o->(upd H6 acc (.lst (vs ++ [v]))) b=some o:=fun b o hb e=>by rw [Zao hb]; exact e
     have aNe:∀ b o,b ≠ acc->aside g sel σ Δ1 H1 acc (vs ++ [v]) b=some o->aside g sel σ Δ1 H1 acc vs b=some o:=fun b o hb e=>by
      unfold aside at e ⊢
      rw [if_neg hb] at e ⊢; exact e
     refine ⟨fun b o hb e=>?_,fun b hb=>?_,k7.sub,fun b o e=>?_,fun b o e=>?_,k7.len,k7.val,fun i x od e1 e2=>?_,k7.dis⟩
     ·have hne:b ≠ acc:=by
       intro z; subst z
       have e:g.Hz b=some o:=e
       rw [k1.there hacc] at e; cases e
      exact oldH b o hne (k7.same b o hb e)
     ·by_cases hne:b=acc
      ·subst hne; rw [Zat]; intro z; cases z
      ·rw [Zao hne]; exact k7.lent b hb
     ·have hne:b ≠ acc:=by intro z; subst z; rw [b2] at e; cases e
      exact ⟨oldH b o hne (k7.frz b o e).1,(k7.frz b o e).2⟩
     ·by_cases hne:b=acc
      ·subst hne
       have e:aside g sel σ Δ1 H1 b (vs ++ [v]) b=some o:=e
       unfold aside at e
       rw [if_pos rfl] at e
       cases e
       exact ⟨Zat,b2,b3⟩
      ·obtain ⟨w1,w2,w3⟩:=k7.ext b o (aNe b o hne e)
       exact ⟨oldH b o hne w1,w2,w3⟩
     ·obtain ⟨a,o,w1,w2,w3,w4,w5⟩:=k7.own i x od e1 e2
      have hne:a ≠ acc:=by intro z; subst z; exact b3 i x od e1 e2 w1
      exact ⟨a,o,w1,oldH a o hne w2,w3,w4,w5⟩
   ·have e:i=ds.length:=by omega
    subst e
    refine .inl ⟨stop,?_⟩
    obtain ⟨b1,b2,b3⟩:=hacc2 k2
    have src:=Zfn (Δ1:=Δ1) (Δ2:=Δ2) hσ
    have k9:Ok K g G2 H2 σ (backD n sel Δ2 0 Δ1):=Ze5 k1 hacc k2 hσ (fun b o hb hx e=>by show aside g sel σ Δ1 H1 acc vs b=_; unfold aside; rw [if_neg hb,if_pos hx]; exact e) (fun b o hb hx e=>by show aside g sel σ Δ1 H1 acc vs b=_; unfold aside; rw [if_neg hb,if_neg hx]; exact e)
    refine c acc _ G2 H2 _ k9 (s1.trans s2) ⟨.lst vs,b1,(show OwnRep K G2 (.lst vs) (.lst ys) from ry),b2,k1.there hacc,?_,fun i y od e1 e2 e3=>?_⟩ (he ys Δ2 h2)
    ·cases q:g.Xo acc with
     | none=>rfl
     | some u=>have z:=(k1.ext acc u q).1; rw [hacc] at z; cases z
    ·obtain ⟨x',od1,f1,f2,_⟩:=src i y od e1 e2
     exact nacc i x' od1 f1 f2 e3
theorem Zn1 {n:Nat} {sel:List Nat} {wi:TI} {t:TG} {tc:TT} {te:TE} {P:D->Evt->Prop} (hsel:sel.Nodup)
  (h:JI K wi Δ fun ds Δ1=>ds.length < sizeLine/\∃ I:Nat->List D->Evt->Prop,I 0 [] (compD n sel Δ1) ∧
   (∀ i d ys Δ2,ds[i]? = some d->I i ys Δ2->JGn K n t d Δ2 fun Δ3=>JT K tc Δ3 fun b Δ4=>if b=true then JE K te Δ4 fun e Δ5=>I (i + 1) (ys ++ [e]) Δ5 else I (i + 1) ys Δ4) ∧
   ∀ ys Δ2,I ds.length ys Δ2->P (.lst ys) (backD n sel Δ2 0 Δ1)):JE K (tComp n sel wi t tc te) Δ P:=
 Zlm (Zhj hsel fun g G H σ R k c=>h g G H σ R k fun J ds G' H' Δ' k' s' it ⟨z,I,h0,ht,he⟩=>c J ds G' H' Δ' k' s' it ⟨z,I,h0,ht,fun ys Δ2 q=>⟨ys,rfl,he ys Δ2 q⟩⟩)
theorem Zhz {n:Nat} {sel:List Nat} {wi:TI} {t:TG} {tc:TT} {te:TE} {P:D->Evt->Prop} (hsel:sel.Nodup)
  (h:JI K wi Δ fun ds Δ1=>ds.length < sizeLine/\∃ (fix:Evt) (p:D->Bool) (f:D->D),compD n sel Δ1=List.replicate n .any ++ fix ∧
   (∀ (i:Nat) d (ts:Evt),ds[i]? = some d->ts.length=n->JGn K n t d (ts ++ fix) fun Δ3=>JT K tc Δ3 fun b Δ4=>b=p d/\if b=true then JE K te Δ4 fun e Δ5=>e=f d/\∃ ts',ts'.length=n /\ Δ5=ts' ++ fix else ∃ ts',ts'.length=n /\ Δ4=ts' ++ fix) ∧
   P (.lst ((ds.filter p).map f)) (backD n sel (List.replicate n .any ++ fix) 0 Δ1)):JE K (tComp n sel wi t tc te) Δ P:=by
 refine Zn1 hsel fun g G H σ R k c=>h g G H σ R k fun J ds G' H' Δ' k' s' it ⟨z,fix,p,f,e0,ht,he⟩=>c J ds G' H' Δ' k' s' it ⟨z,fun i ys Δ=>ys=((ds.take i).filter p).map f/\∃ ts:Evt,ts.length=n /\ Δ = ts ++ fix,?_,?_,?_⟩
 ·exact ⟨by simp,_,by simp,e0⟩
 ·rintro i d ys Δ2 hd ⟨rfl,ts,hts,rfl⟩
  have tk:ds.take (i + 1)=ds.take i ++ [d]:=by
   rw [List.take_add_one,hd]; rfl
  intro g G H σ v R k r c
  refine ht i d ts hd hts g G H σ v R k r fun σ' G' H' Δ' k' s' e' q=>c σ' G' H' Δ' k' s' e' fun g G H σ Q k c=>q g G H σ Q k fun b G' H' Δ' k' s' ⟨eb,q⟩=>c b G' H' Δ' k' s' ?_
  cases b with
  | true=>
   rw [if_pos rfl] at q ⊢
   refine q.mono fun e Δ5 ⟨e1,ts',h1,h2⟩=>⟨?_,ts',h1,h2⟩
   rw [tk,List.filter_append,List.map_append,List.filter_cons,<- eb,e1]
   rfl
  | false=>
   rw [if_neg Bool.false_ne_true] at q ⊢
   obtain ⟨ts',h1,h2⟩:=q
   refine ⟨?_,ts',h1,h2⟩
   rw [tk,List.filter_append,List.map_append,List.filter_cons,<- eb]
   simp
 ·rintro ys Δ2 ⟨rfl,ts,hts,rfl⟩
  rw [List.take_length]
  have e:backD n sel (ts ++ fix) 0 Δ' = backD n sel (List.replicate n .any ++ fix) 0 Δ':=by
   apply List.ext_getElem?
   intro i
   rw [Zcy,Zcy]
   congr 1
   funext x
   unfold backAt
   have e2:∀ j,(ts ++ fix)[n + j]? = (List.replicate n Slot.any ++ fix)[n + j]?:=fun j=>by
    rw [List.getElem?_append_right (by omega),List.getElem?_append_right (by simp),hts,List.length_replicate]
   simp only [e2]
  rw [e]
  exact he
end
end L2
set_option Elab.async false
set_option linter.all false
set_option maxRecDepth 100000
namespace HT
open PySem PyProof.Rows
section
variable {prog:Program} {w:World} {A:Around} {E:Value->Shared->Prop} {s:Shared}
theorem getItem_tuple_whole {t sl:Addr} {items:Array Value} {vl vu:Value} {lo hi:Option Int} {Q:Value->Shared->Prop} (ht:IsTup s.heap t items) (hs:s.heap.IsSliceOf sl vl vu .none) (pl:IsPart vl lo) (pu:IsPart vu hi)
  (hw:sIx items.size 0 lo=0/\sIx items.size items.size hi=items.size) (h:Q (.ref t) s):wpAny (model prog w) A (getItem (.ref t) (.ref sl)) Q E s:=by
 obtain ⟨os,hos,hcs,hds⟩:=id hs
 have hTs:s.TypeIs (.ref sl) "slice":=⟨os,hos,hcs⟩
 unfold getItem
 try with_reducible refine wpAny_holding ?_
 first | refine wpAny_bind (wpAny_pure ?_) | skip
 refine wpAny_bind (wpAny_sequenceKey ht.typeIs (by decide) ?_)
 refine wpAny_bind (wpAny_callSpecial?_slot (name:=Str.ofString "__getitem__") ht.typeIs PyProof.Rows.slot_tuple_getitem
  (wpAny_call_entry PyProof.Rows.slot_tuple_getitem ht.typeIs entry_tuple_getitem ?_ (args_tuple_getitem _ _)))
 show wpAny _ _ (Builtin.Tuple.tupleItemsOf (.ref t) >>= _) _ _ s
 refine wpAny_bind (tupleItemsOf_ ht ?_)
 refine wpAny_bind (wpAny_typeOf hTs ?_)
 rw [if_pos (by decide)]
 refine wpAny_bind (Zda hs pl pu ?_)
 have hyes:(((sIx items.size 0 lo:Nat):Int) == 0 && (1:Int) == 1 && (sIx items.size items.size hi - sIx items.size 0 lo) == items.size)=true:=by
  rw [hw.1,hw.2]; simp
 show wpAny _ _ (if (((sIx items.size 0 lo:Nat):Int) == 0 && (1:Int) == 1 && (sIx items.size items.size hi - sIx items.size 0 lo) == items.size)=true then _ else _) _ _ s
 rw [if_pos hyes]
 first
  | exact wpAny_pure ⟨_,rfl,wpAny_pure h⟩
  | exact wpAny_pure ⟨_,rfl,h⟩
  | exact wpAny_bind (wpAny_pure (wpAny_pure ⟨_,rfl,wpAny_pure h⟩))
  | (refine wpAny_bind (wpAny_bind (wpAny_typeOf ht.typeIs (wpAny_pure ?_)))
     rw [if_pos (by decide)]
     exact wpAny_bind (wpAny_rule (wpAny_pure ⟨_,rfl,wpAny_pure h⟩)))
theorem tuple_index {t:Addr} {items:Array Value} {x:Value} {e:Value->Bool} {j:Nat} {Q:Value->Shared->Prop} (ht:IsTup s.heap t items) (he:∀ y ∈ items,PySem.SeqAt.EqAt A.in1 s y x (e y)) (hj:j < items.size)
  (hit:e items[j]=true) (hno:∀ m (hm:m < items.size),m < j->e items[m]=false) (h:Q (.int j s.toks) { s with toks:=s.toks + 1 }) :
  wpAny (model prog w) A (call (.builtin "tuple.index") [.ref t,x]) Q E s:=by
 refine wpAny_call_entry PySem.F.slot_tuple_index ht.typeIs PySem.F.entry_tuple_index ?_ (PySem.F.args_tuple_index_2 _ _)
 show wpAny _ _ (Builtin.Tuple.tupleItemsOf (.ref t) >>= _) _ _ s
 refine wpAny_bind (tupleItemsOf_ ht ?_)
 refine wpAny_bind (wpAny_pure (wpAny_bind (wpAny_pure (wpAny_bind ?_))))
 rw [Nat.min_self]
 simp only [Std.Legacy.Range.forIn_eq_forIn_range',Std.Legacy.Range.size,Nat.sub_zero,Nat.add_sub_cancel,Nat.div_one]
 refine wpAny_mono (Q:=fun b s'=>s' = { s with toks:=s.toks + 1 } /\ b.1=some (Fin.done (.ret (.int j s.toks)))) ?_ (fun b s' hb=>?_) fun _ _ z=>z
 refine wpAny_forIn_list _ (fun l b s'=>s' = s/\∃ i,l=List.range' i (items.size - i)/\i<=j) _ ?_ ?_ _ _ ⟨rfl,0,rfl,Nat.zero_le _⟩
 ·rintro i rest b s' ⟨rfl,k,hl,hk⟩
  have hk2:items.size - k=(items.size - k - 1) + 1:=by omega
  rw [hk2,List.range'_succ] at hl
  injection hl with hl1 hl2
  subst hl1
  have hi:i < items.size:=by omega
  rw [Array.getElem?_eq_getElem hi]
  refine wpAny_bind (he _ (Array.getElem_mem hi) prog w _ _ ?_)
  by_cases hij:i=j
  ·subst hij
   rw [hit,if_pos rfl]
   exact wpAny_bind (wpAny_bind (wpAny_mkInt (wpAny_pure (wpAny_pure ⟨rfl,rfl⟩))))
  ·rw [hno i hi (by omega),if_neg Bool.false_ne_true]
   exact wpAny_pure ⟨rfl,i + 1,by rw [hl2,show items.size - i - 1=items.size - (i + 1) by omega],by omega⟩
 ·rintro b s' ⟨rfl,k,hl,hk⟩
  have:=congrArg List.length hl
  simp at this
  omega
 ·obtain ⟨rfl,e1⟩:=hb
  obtain ⟨b1,b2⟩:=b
  dsimp only at e1
  subst e1
  exact wpAny_pure ⟨_,rfl,h⟩
end
end HT
namespace L2
open PySem PySem.Spec PyProof.Rows
section
variable {X:Cx}
def rSlT' (K:PySem.W.Frag):V->Option Int->Option Int->Hp->VK->Prop:=fun x lo hi H Q=>∃ a xs,x=.ref a/\SqT K H a xs ∧
 ((HT.sIx xs.length 0 lo=0/\HT.sIx xs.length xs.length hi=xs.length)->Q (.ref a) H) ∧
 (¬ (HT.sIx xs.length 0 lo=0/\HT.sIx xs.length xs.length hi=xs.length)->∀ p,H p=none->Q (.ref p) (upd H p (.tup (cutV xs lo hi))))
theorem Zoa:SlR X (rSlT' X.K):=by
 intro pins s σ H x v vl vu lo hi sl Q I rx hs pl pu h
 obtain ⟨a,xs,rfl,hx,q1,q2⟩:=h
 by_cases hw:HT.sIx xs.length 0 lo=0/\HT.sIx xs.length xs.length hi=xs.length
 ·cases rx
  obtain ⟨its,r,ht,hz⟩:=I.tuple hx
  have hlen:its.toArray.size=xs.length:=by rw [List.size_toArray]; exact r.length.symm
  exact ⟨"tuple",_,PyProof.Rows.slot_tuple_getitem.lookup,ht.typeIs,HT.getItem_tuple_whole ht hs pl pu (by rw [hlen]; exact hw) ⟨.ref a,H,I,rfl,q1 hw⟩⟩
 ·exact Zpm pins s σ H (.ref a) v vl vu lo hi sl Q I rx hs pl pu ⟨a,xs,rfl,hx,hw,q2 hw⟩
def rSlU (K:PySem.W.Frag):V->Option Int->Option Int->Hp->VK->Prop:=fun x lo hi H Q=>rSlL K x lo hi H Q\/rSlT' K x lo hi H Q
theorem slU:SlR X (rSlU X.K):=Zm2.or Zoa
def tSlR (K:PySem.W.Frag) (te:TE):TE:=fun σ H Q=>te σ H fun x H1=>∃ a xs,x=.ref a/\SqT K H1 a xs/\∀ p,H1 p=none->Q (.ref p) (upd H1 p (.tup xs.reverse))
def rCatT' (K:PySem.W.Frag):R2:=fun x y H Q=>∃ a b xs ys,x=.ref a/\y=.ref b/\SqT K H a xs/\SqT K H b ys/\xs.length + ys.length<=sizeLine ∧
 (xs=[]->Q (.ref b) H)/\(xs ≠ []->ys=[]->Q (.ref a) H)/\(xs ≠ []->ys ≠ []->∀ p,H p=none->Q (.ref p) (upd H p (.tup (xs ++ ys))))
theorem Zma:OpR X (binaryOp .Add) (rCatT' X.K):=by
 intro pins s σ H x y v u Q I rx ry h
 obtain ⟨a,b,xs,ys,rfl,rfl,ha,hb,hz,q0,q1,q2⟩:=h
 by_cases hx:xs=[]
 ·cases rx
  cases ry
  obtain ⟨its,r1,p1,_⟩:=I.tuple ha
  obtain ⟨its2,r2,p2,_⟩:=I.tuple hb
  obtain ⟨⟨cls,dd,data,sl⟩,ho,hc,n,hd⟩:=id p1
  obtain ⟨⟨cls2,dd2,data2,sl2⟩,ho2,hc2,n2,hd2⟩:=id p2
  simp only at hc hd hc2 hd2
  subst hc hd hc2 hd2
  exact concat_meets ⟨_,ho,rfl⟩ ⟨_,ho2,rfl⟩ noFill_tuple_add seq_tuple_add PySem.F.slot_tuple_add PySem.F.entry_tuple_add (PySem.F.args_tuple_add_2 _ _)
   (tuple_addW0 a b its.toArray its2.toArray n n2 dd dd2 sl sl2 (by simp [r1.nil_iff.mpr hx])) ⟨ho,ho2,⟨.ref b,H,I,rfl,q0 hx⟩⟩
 ·exact Zmv pins s σ H (.ref a) (.ref b) v u Q I rx ry ⟨a,b,xs,ys,rfl,rfl,ha,hb,hx,hz,q1 hx,q2 hx⟩
def rAddU (K:PySem.W.Frag):R2:=fun x y H Q=>rI0 (fun i j=>.int (i + j)) x y H Q\/(rCatT' K x y H Q\/rCat x y H Q)
theorem Znk:OpR X (binaryOp .Add) (rAddU X.K):=Zo5.or (Zma.or Zpd)
theorem Zcf:OpR X (compareOp .Eq) rEq:=Zqy
theorem Zka:OpR X (compareOp .NotEq) rNe:=Zql
def rIxD:R2:=fun x y H Q=>∃ a v,x=.ref a/\DGet H a y (some v)/\Q v H
theorem Znn (hu:X.A.units + 1 < cLine):IxR X rIxD:=by
 intro value slice pins s σ H x y v u Q I rx ry h hs
 obtain ⟨a,w',rfl,g,q⟩:=h
 cases rx
 exact tail_any (Zhp I g) PySem.F.slot_dict_getitem.lookup (Zi4 hu I g ry fun w2 s3 I3 rw'=>⟨w',H,I3,rw',q⟩) hs
def rIxU (K:PySem.W.Frag):R2:=fun x y H Q=>rIx K x y H Q\/rIxD x y H Q
theorem ixU (hu:X.A.units + 1 < cLine):IxR X (rIxU X.K):=Zos.or (Znn hu)
def rSetD:V->V->V->Hp->(Hp->Prop)->Prop:=fun o i v H Q=>∃ a H',o=.ref a/\DPut H a i v H' /\ Q H'
theorem Zlo (hu:X.A.units + 1 < cLine):PSet X rSetD:=by
 intro pins s σ H o i v ov iv u Q I ro ri rv h
 obtain ⟨a,H',rfl,g,q⟩:=h
 cases ro
 exact Zke hu I g ri rv fun s' I'=>⟨H',I',q⟩
theorem PSet.or {t t':TSet} (h:PSet X t) (h':PSet X t'):PSet X (fun o i v H Q=>t o i v H Q\/t' o i v H Q):=by
 intro pins s σ H o i v ov iv u Q I ro ri rv q
 rcases q with q | q
 ·exact h pins s σ H o i v ov iv u Q I ro ri rv q
 ·exact h' pins s σ H o i v ov iv u Q I ro ri rv q
def rSetU:V->V->V->Hp->(Hp->Prop)->Prop:=fun o i v H Q=>rSetL o i v H Q\/rSetD o i v H Q
theorem setU (hu:X.A.units + 1 < cLine):PSet X rSetU:=Zmh.or (Zlo hu)
def rLenU (K:PySem.W.Frag):List V->Hp->VK->Prop:=fun xs H Q=>(∃ p ys,xs=[.ref p]/\(SqL K H p ys\/SqT K H p ys)/\Q (.int ys.length) H)\/∃ a kvs,xs=[V.ref a]/\H a=some (.dK kvs)/\Q (.int kvs.length) H
theorem Zjl:CallR X (.builtin "len") (rLenU X.K):=Zgh.or Zkb
def rIsi (K:PySem.W.Frag):List V->Hp->VK->Prop:=fun xs H Q=>∃ x n t b,xs=[x,.ty n]/\TyOf K H x t/\PySem.W.kitOne K t (.type n)=some b/\Q (.bl b) H
theorem Zhe:CallR X (.builtin "isinstance") (rIsi X.K):=by
 intro pins s σ H xs us Q I r h
 obtain ⟨x,n,t,b,rfl,ty,e,q⟩:=h
 obtain ⟨u,u',rfl,rx,rn⟩:=vals2 r
 cases (show u' = Value.type n from rn)
 exact Zjg I rx ty e fun tk=>⟨.bl b,H,I.tok _,rfl,q⟩
def insI (n:Nat) (i:Int):Nat:=if i < 0 then (i + (n:Int)).toNat else min i.toNat n
def rInsert:V->List V->Hp->VK->Prop:=fun x vs H Q=>∃ l xs i y,x=.ref l/\vs=[.int i,y]/\H l=some (.lst xs)/\xs.length < sizeLine /\ -(2 ^ 62)<=i/\i < 2 ^ 62/\Q .non (upd H l (.lst (xs.take (insI xs.length i) ++ y :: xs.drop (insI xs.length i))))
theorem Zjc:MtM X "list.insert" rInsert:=by
 intro pins s σ H x vs v us Q I rx rv h
 obtain ⟨l,xs,i,y,rfl,rfl,hH,hz,h1,h2,q⟩:=h
 cases rx
 obtain ⟨ui,uy,rfl,⟨t,rfl⟩,ry⟩:=rv.two
 obtain ⟨z,its,n,r,hl,e⟩:=I.lstM hH
 refine call_meets F.slot_list_insert ⟨_,e,rfl⟩ F.entry_list_insert (F.args_list_insert_3 _ _ _) (PySem.AutoSeq1.list_insert_list_int_val_1 l its.toArray n i t uy (by
  have hf:Builtin.List.listFitsIndex i=true:=by
   unfold Builtin.List.listFitsIndex
   rw [decide_eq_true (by omega),decide_eq_true (by omega)]
   rfl
  rw [hf]; decide) (by rw [List.size_toArray]; omega)) ⟨e,?_⟩
 refine ⟨.non,_,I.lset (its':=its.take (insI xs.length i) ++ uy :: its.drop (insI xs.length i)) hH e ?_ ((r.take _).append (.cons ry (r.drop _))) ?_,rfl,q⟩
 ·have e1:(if i < 0 then (i + (its.toArray.size:Int)).toNat else min i.toNat its.toArray.size)=insI xs.length i:=by
   unfold insI; rw [List.size_toArray,hl]
  dsimp only
  rw [e1]
  apply Array.ext'
  simp
  rw [List.take_of_length_le (by rw [List.length_drop]; exact Nat.le_refl _)]
 ·rw [List.length_append,List.length_cons,List.length_take,List.length_drop]
  omega
def rIndexT (K:PySem.W.Frag):V->List V->Hp->VK->Prop:=fun x vs H Q=>∃ a xs y j,x=.ref a/\vs=[y]/\SqT K H a xs/\flatV y=true/\xs.all flatV=true/\j < xs.length ∧
 (∃ z,xs[j]? = some z/\eqV z y=true)/\(∀ m z,m < j->xs[m]? = some z->eqV z y=false)/\Q (.int j) H
theorem Ze8:MtM X "tuple.index" (rIndexT X.K):=by
 intro pins s σ H x vs v us Q I rx rv h
 obtain ⟨a,xs,y,j,rfl,rfl,hx,fy,fx,hj,⟨z,hz1,hz2⟩,hno,q⟩:=h
 cases rx
 obtain ⟨u,rfl,ru⟩:=rv.one
 obtain ⟨its,r,ht,hz⟩:=I.tuple hx
 have hl:its.length=xs.length:=r.length.symm
 have key:∀ w ∈ its.toArray,SeqAt.EqAt X.A.in1 s w u (eqU y w):=fun w hw=>by
  have hw:w ∈ its:=by simpa using hw
  obtain ⟨k,hk,e⟩:=List.mem_iff_getElem.mp hw
  have hk':k < xs.length:=by omega
  obtain ⟨w',hw',rw'⟩:=r.get (List.getElem?_eq_getElem hk')
  have ew:w' = w:=by
   rw [List.getElem?_eq_getElem hk] at hw'
   exact (Option.some.inj hw').symm.trans e
  subst ew
  have fk:flatV xs[k]=true:=List.all_eq_true.mp fx _ (List.getElem_mem hk')
  rw [Zh7 rw' fk]
  exact Zml rw' ru fk fy
 have at_:∀ (k:Nat) (hk:k < its.toArray.size) (z:V),xs[k]? = some z->eqU y its.toArray[k]=eqV z y:=fun k hk z e=>by
  obtain ⟨w',hw',rw'⟩:=r.get e
  have hk2:k < its.length:=by simpa using hk
  rw [List.getElem?_eq_getElem hk2] at hw'
  have ew:its.toArray[k]=w':=by simpa using Option.some.inj hw'
  rw [ew]
  exact Zh7 rw' (List.all_eq_true.mp fx _ (List.mem_of_getElem? e))
 have hj':j < its.toArray.size:=by simpa [hl] using hj
 refine HT.tuple_index ht key hj' (by rw [at_ j hj' z hz1]; exact hz2) (fun m hm hmj=>?_) ⟨.int j,H,I.tok _,⟨_,rfl⟩,q⟩
 have hm2:m < xs.length:=by simpa [hl] using hm
 rw [at_ m hm _ (List.getElem?_eq_getElem hm2)]
 exact hno m _ hmj (List.getElem?_eq_getElem hm2)
end
end L2
namespace L2
open PySem PySem.Spec PyProof.Rows
section
variable {X:Cx}
theorem PI.or {tg iter:Expr} {w w':TI} (h:PI X tg iter w) (h':PI X tg iter w'):PI X tg iter (fun σ H R=>w σ H R\/w' σ H R):=by
 intro pins s σ H R I q
 rcases q with q | q
 ·exact h pins s σ H R I q
 ·exact h' pins s σ H R I q
def iSeq (K:PySem.W.Frag) (tl:TE):TI:=fun σ H R=>iList K tl σ H R\/iTup K tl σ H R
theorem Zo7 {tg l:Expr} {tl:TE} (hl:PE X l tl):PI X tg l (iSeq X.K tl):=(Zoi hl).or (Zo8 hl)
def tTru (K:PySem.W.Frag) (ta:TE):TT:=fun σ H Q=>ta σ H fun x H'=>∃ k,TruV K x H' k/\Q k H'
theorem Zpx {a:Expr} {ta:TE} (ha:PE X a ta) (he:∀ whole,isTrue a X.env whole=(do let v ← whole; standAt a.pos; holding [v] (truthy v))):PT X a (tTru X.K ta):=Zlk ha he
end
section
variable {K:PySem.W.Frag} {Δ:Evt} {P:D->Evt->Prop}
theorem Zb8 {i j:Int} (p:P (.int (i + j)) Δ):JR2 K (rAddU K) (.int i) (.int j) Δ P:=fun g G H σ Q x y k rx ry c=>by
 cases rx.inv; cases ry.inv
 exact .inl ⟨i,j,rfl,rfl,c _ _ G H Δ k (Same.refl _) (.int _) p⟩
theorem Zct {ds es:List D} (hz:ds.length + es.length<=sizeLine) (p:P (.tup (ds ++ es)) Δ):JR2 K (rAddU K) (.tup ds) (.tup es) Δ P:=fun g G H σ Q x y k rx ry c=>by
 cases rx with
 | tup ha ra=>
  cases ry with
  | tup hb rb=>
   refine .inr (.inl ⟨_,_,_,_,rfl,rfl,SqT.of (k.live _ _ ha),SqT.of (k.live _ _ hb),by rw [ra.length,rb.length]; exact hz,fun e=>?_,fun _ e=>?_,fun _ _ q hq=>?_⟩)
   ·subst e; cases ra; exact c _ _ G H Δ k (Same.refl _) (.tup hb rb) p
   ·subst e; cases rb; rw [List.append_nil] at p; exact c _ _ G H Δ k (Same.refl _) (.tup ha ra) p
   ·obtain ⟨k2,sg⟩:=k.laid hq (.tup _)
    exact c _ _ _ _ Δ k2 sg (.tup Zat ((ra.append rb).mono sg)) p
theorem Zkk {ds es:List D} (hz:ds.length + es.length<=sizeLine) (p:P (.lst (ds ++ es)) Δ):JR2 K (rAddU K) (.lst ds) (.lst es) Δ P:=fun g G H σ Q x y k rx ry c=>by
 obtain ⟨_,_,rfl,ha,ra⟩:=rx.inv
 next=>
  obtain ⟨_,_,rfl,hb,rb⟩:=ry.inv
  next=>
   refine .inr (.inr ⟨_,_,_,_,rfl,rfl,k.live _ _ ha,k.live _ _ hb,by rw [ra.length,rb.length]; exact hz,fun q hq=>?_⟩)
   obtain ⟨k2,sg⟩:=k.laid hq (.lst _)
   exact c _ _ _ _ Δ k2 sg (.lst Zat ((ra.append rb).mono sg)) p
theorem Za4 {ds:List D} {i:Int} {d:D} (h:atI ds i=some d) (p:P d Δ):JR2 K (rIxU K) (.tup ds) (.int i) Δ P:=fun g G H σ Q x y k rx ry c=>
 .inl (.inr (.inl (Zpj h p g G H σ Q x y k rx ry c)))
theorem Zew {ds:List D} {i:Int} {d:D} (h:atI ds i=some d) (p:P d Δ):JR2 K (rIxU K) (.lst ds) (.int i) Δ P:=fun g G H σ Q x y k rx ry c=>
 .inl (.inl (Zop h p g G H σ Q x y k rx ry c))
theorem Zde {n:Nat} {tb:TE} {x:Slot} {ds:List D} (hx:Δ[n]? = some x) (ho:x.od=some (.lst ds)) (h:JE K tb Δ fun e Δ1=>∃ y es i d,Δ1[n]? = some y/\y.od=some (.lst es)/\e=.int i/\atI es i=some d/\P d Δ1):JE K (tOp (rIxU K) (tVar n) tb) Δ P:=fun g G H σ Q k c=>by
 obtain ⟨a,o,h1,h2,h3,h4,h5⟩:=k.own n x _ hx ho
 refine ⟨.ref a,h1,h g G H σ _ k fun v e G1 H1 Δ1 k1 s1 r1 ⟨y,es,i,d,q1,q2,q3,q4,p⟩=>?_⟩
 subst q3
 cases r1.inv
 obtain ⟨a',o',w1,w2,w3,w4,w5⟩:=k1.own n y _ q1 q2
 rw [h1] at w1; cases w1
 cases o' with
 | lst vs=>
  obtain ⟨u,z1,z2⟩:=Zgb (show Reps K G1 vs es from w3) q4
  exact .inl (.inl ⟨a,vs,i,u,rfl,rfl,SqL.of w2,z1,c u d G1 H1 Δ1 k1 s1 z2 p⟩)
 | _=>exact absurd w3 (fun z=>z)
theorem Zjm {n:Nat} {ti te:TE} {Pp:Pst} (h:JE K te Δ fun d Δ1=>(∃ x od,Δ1[n]? = some x/\x.od=some od)/\JE K ti Δ1 fun e Δ2=>∃ x ds i j,Δ2[n]? = some x/\x.od=some (.lst ds)/\e=.int i/\ixN ds.length i=some j/\Pp.nx (Δ2.set n (x.put (.lst (ds.set j d))))) :
  JS K (tAsg te (gSub (tVar n) ti rSetU)) Δ Pp:=fun g G H σ E k c=>
 h g G H σ _ k fun v d G1 H1 Δ1 k1 s1 r1 hq_=>by
  obtain ⟨⟨x,od,hx,ho⟩,p1⟩:=hq_
  obtain ⟨a,o,h1,h2,h3,h4,h5⟩:=k1.own n x _ hx ho
  refine ⟨.ref a,h1,p1 g G1 H1 σ _ k1 fun u e G2 H2 Δ2 k2 s2 r2 ⟨y,ds,i,j,q1,q2,q3,q4,p⟩=>?_⟩
  subst q3
  cases r2.inv
  obtain ⟨a',o',w1,w2,w3,w4,w5⟩:=k2.own n y _ q1 q2
  rw [h1] at w1; cases w1
  cases o' with
  | lst vs=>
   have w3:Reps K G2 vs ds:=w3
   exact .inl ⟨a,vs,i,j,rfl,rfl,w2,by rw [w3.length]; exact q4,c.nx σ G2 _ _ (k2.write q1 q2 h1 (show OwnRep K G2 (.lst (vs.set j v)) (.lst (ds.set j d)) from w3.set j (r1.mono s2))) p⟩
  | _=>exact absurd w3 (fun z=>z)
theorem Zbt {ds es:List D} (he:ds=[.lst es]\/ds=[.tup es]) (p:P (.int es.length) Δ):JC K (rLenU K) ds Δ P:=fun g G H σ Q vs k rs c=>.inl (Zom he p g G H σ Q vs k rs c)
theorem Zlf {n:Nat} {x:Slot} {ds:List D} (hx:Δ[n]? = some x) (ho:x.od=some (.lst ds)) (p:P (.int ds.length) Δ):JE K (tCB (rLenU K) (tCons (tVar n) tNil)) Δ P:=fun g G H σ Q k c=>by
 obtain ⟨v,h1,h2⟩:=Zog hx ho p g G H σ Q k c
 exact ⟨v,h1,.inl h2⟩
def cutD (ds:List D) (lo hi:Option Int):List D:=(ds.drop (HT.sIx ds.length 0 lo)).take (HT.sIx ds.length ds.length hi - HT.sIx ds.length 0 lo)
theorem Zj0 {α:Type} (xs:List α) (lo hi:Option Int) (h:HT.sIx xs.length 0 lo=0/\HT.sIx xs.length xs.length hi=xs.length):(xs.drop (HT.sIx xs.length 0 lo)).take (HT.sIx xs.length xs.length hi - HT.sIx xs.length 0 lo)=xs:=by
 rw [h.1,h.2]; simp
def JO2 (t:TO) (Δ:Evt) (K:PySem.W.Frag) (P:Option Int->Evt->Prop):Prop:=
 ∀ g G H σ (Q:Option Int->Hp->Prop),Ok K g G H σ Δ -> (∀ o G' H' Δ',Ok K g G' H' σ Δ' -> Same G G' -> P o Δ' -> Q o H')->t σ H Q
theorem Zbv {P:Option Int->Evt->Prop} (p:P none Δ):JO2 tNoPart Δ K P:=fun g G H σ Q k c=>c none G H Δ k (Same.refl _) p
theorem Zbw {te:TE} {P:Option Int->Evt->Prop} (h:JE K te Δ fun d Δ1=>∃ i,d=.int i/\P (some i) Δ1):JO2 (tPart te) Δ K P:=fun g G H σ Q k c=>
 h g G H σ _ k fun v d G1 H1 Δ1 k1 s1 r1 hq_=>by obtain ⟨i,e,p⟩:=hq_; subst e; cases r1.inv; exact ⟨i,rfl,c (some i) G1 H1 Δ1 k1 s1 p⟩
def slD (d:D) (lo hi:Option Int):Option D:=match d with
 | .lst ds=>some (.lst (cutD ds lo hi))
 | .scr ds=>some (.lst (cutD ds lo hi))
 | .tup ds=>some (.tup (cutD ds lo hi))
 | _=>none
theorem Zdg {te:TE} {tl th:TO} (h:JE K te Δ fun d Δ1=>JO2 tl Δ1 K fun lo Δ2=>JO2 th Δ2 K fun hi Δ3=>∃ e,slD d lo hi=some e/\P e Δ3):JE K (tSl (rSlU K) te tl th) Δ P:=fun g G H σ Q k c=>
 h g G H σ _ k fun v d G1 H1 Δ1 k1 s1 r1 p1=>p1 g G1 H1 σ _ k1 fun lo G2 H2 Δ2 k2 s2 p2=>p2 g G2 H2 σ _ k2 fun hi G3 H3 Δ3 k3 s3 hq_=>by
  obtain ⟨e,he,p⟩:=hq_
  have r3:=r1.mono (s2.trans s3)
  have cc:=c.up (s1.trans (s2.trans s3))
  cases r3 with
  | lst ha rs=>
   cases he
   refine .inl ⟨_,_,rfl,SqL.of (k3.live _ _ ha),fun q hq=>?_⟩
   obtain ⟨k4,sg⟩:=k3.laid hq (.lst _)
   refine cc _ _ _ _ Δ3 k4 sg (.lst Zat (Reps.mono sg ?_)) p
   unfold cutV cutD
   rw [rs.length]; exact (rs.drop _).take _
  | scr ha rs=>
   cases he
   refine .inl ⟨_,_,rfl,k3.live.seq ha,fun q hq=>?_⟩
   obtain ⟨k4,sg⟩:=k3.laid hq (.lst _)
   refine cc _ _ _ _ Δ3 k4 sg (.lst Zat (Reps.mono sg ?_)) p
   unfold cutV cutD
   rw [rs.length]; exact (rs.drop _).take _
  | tup ha rs=>
   cases he
   refine .inr ⟨_,_,rfl,SqT.of (k3.live _ _ ha),fun hw=>?_,fun hw q hq=>?_⟩
   ·rw [rs.length] at hw
    refine cc _ _ _ _ Δ3 k3 (Same.refl _) (.tup ha ?_) p
    unfold cutD
    rw [Zj0 _ _ _ hw]; exact rs
   ·obtain ⟨k4,sg⟩:=k3.laid hq (.tup _)
    refine cc _ _ _ _ Δ3 k4 sg (.tup Zat (Reps.mono sg ?_)) p
    unfold cutV cutD
    rw [rs.length]; exact (rs.drop _).take _
  | _=>cases he
theorem Zpe {te:TE} (h:JE K te Δ fun d Δ1=>∃ ds,d=.tup ds/\P (.tup ds.reverse) Δ1):JE K (tSlR K te) Δ P:=fun g G H σ Q k c=>
 h g G H σ _ k fun v d G1 H1 Δ1 k1 s1 r1 hq_=>by
  obtain ⟨ds,e,p⟩:=hq_
  subst e
  obtain ⟨_,_,rfl,ha,rs⟩:=r1.inv
  next=>
   refine ⟨_,_,rfl,SqT.of (k1.live _ _ ha),fun q hq=>?_⟩
   obtain ⟨k4,sg⟩:=k1.laid hq (.tup _)
   exact c _ _ _ _ Δ1 k4 (s1.trans sg) (.tup Zat (rs.reverse.mono sg)) p
theorem Zia {tl:TE} {P:List D->Evt->Prop} (h:JE K tl Δ fun d Δ1=>∃ ds,(d=.lst ds\/d=.scr ds)/\P ds Δ1):JI K (iSeq K tl) Δ P:=fun g G H σ R k c=>.inl (Zn9 h g G H σ R k c)
theorem Zdt {tl:TE} {P:List D->Evt->Prop} (h:JE K tl Δ fun d Δ1=>∃ ds,d=.tup ds/\P ds Δ1):JI K (iSeq K tl) Δ P:=fun g G H σ R k c=>.inr (Zqb h g G H σ R k c)
def truD:D->Option Bool
 | .non=>some false
 | .bl b=>some b
 | .int i=>some (i != 0)
 | .lst ds=>some !ds.isEmpty
 | .tup ds=>some !ds.isEmpty
 | _=>none
theorem Reps.isEmpty {G:Hp} {vs:List V} {ds:List D} (r:Reps K G vs ds):vs.isEmpty=ds.isEmpty:=by cases r <;> rfl
theorem Zcd {t:TE} {Pb:Bool->Evt->Prop} (h:JE K t Δ fun d Δ1=>∃ b,truD d=some b/\Pb b Δ1):JT K (tTru K t) Δ Pb:=fun g G H σ Q k c=>
 h g G H σ _ k fun v d G1 H1 Δ1 k1 s1 r1 hq_=>by
  obtain ⟨b,e,p1⟩:=hq_
  refine ⟨b,?_,c b G1 H1 Δ1 k1 s1 p1⟩
  cases r1 with
  | non=>cases e; rfl
  | bl b=>cases e; rfl
  | int i=>cases e; rfl
  | str x=>cases e
  | ty n=>cases e
  | scr ha rs=>cases e
  | adr a=>cases e
  | dct ha hl rs=>cases e
  | exc ha=>cases e
  | lst ha rs=>cases e; exact .inl ⟨_,SqL.of (k1.live _ _ ha),by rw [rs.isEmpty]⟩
  | tup ha rs=>cases e; exact .inr (.inl ⟨_,SqT.of (k1.live _ _ ha),by rw [rs.isEmpty]⟩)
def tyD:D->Option String
 | .non=>some "NoneType"
 | .bl _=>some "bool"
 | .int _=>some "int"
 | .str _=>some "str"
 | .lst _=>some "list"
 | .tup _=>some "tuple"
 | .dct _ _=>some "dict"
 | _=>none
theorem Zon {d:D} {n T:String} {b:Bool} (ht:tyD d=some T) (e:∀ K,PySem.W.kitOne K (.type T) (.type n)=some b) (p:P (.bl b) Δ):JC K (rIsi K) [d,.ty n] Δ P:=fun g G H σ Q vs k rs c=>by
 obtain ⟨_,_,rfl,r,t⟩:=rs.inv
 next=>
  obtain ⟨_,_,rfl,r',t⟩:=t.inv
  next=>
   cases t.inv; cases r'.inv
   refine ⟨_,n,.type T,b,rfl,?_,e K,c _ _ G H Δ k (Same.refl _) (.bl b) p⟩
   cases r with
   | non=>cases ht; exact .non
   | bl b=>cases ht; exact .bl b
   | int i=>cases ht; exact .int i
   | str x=>cases ht; exact .str x
   | ty n=>cases ht
   | scr ha rs=>cases ht
   | adr a=>cases ht
   | dct ha hl rs=>cases ht; exact .dK (k.live _ _ ha)
   | exc ha=>cases ht
   | lst ha rs=>cases ht; exact .lst (k.live _ _ ha)
   | tup ha rs=>cases ht; exact .tup (k.live _ _ ha)
theorem Zc3 {ta tb:TE} (h:JE K ta Δ fun d Δ1=>∃ b,d=.bl b/\if b=true then JE K tb Δ1 P else P (.bl false) Δ1):JE K (tAndV ta tb) Δ P:=fun g G H σ Q k c=>
 h g G H σ _ k fun v d G1 H1 Δ1 k1 s1 r1 hq_=>by
  obtain ⟨b,e,p1⟩:=hq_
  subst e; cases r1.inv
  refine ⟨b,rfl,?_⟩
  cases b with
  | true=>exact (show JE K tb Δ1 P from p1) g G1 H1 σ Q k1 (c.up s1)
  | false=>exact c _ _ G1 H1 Δ1 k1 s1 (.bl false) p1
theorem Zpr {ta tb:TE} (h:JE K ta Δ fun d Δ1=>∃ b,d=.bl b/\if b=true then P (.bl true) Δ1 else JE K tb Δ1 P):JE K (tOrV ta tb) Δ P:=fun g G H σ Q k c=>
 h g G H σ _ k fun v d G1 H1 Δ1 k1 s1 r1 hq_=>by
  obtain ⟨b,e,p1⟩:=hq_
  subst e; cases r1.inv
  refine ⟨b,rfl,?_⟩
  cases b with
  | false=>exact (show JE K tb Δ1 P from p1) g G1 H1 σ Q k1 (c.up s1)
  | true=>exact c _ _ G1 H1 Δ1 k1 s1 (.bl true) p1
theorem Zge {ta:TE} (h:JE K ta Δ fun d Δ1=>∃ b,d=.bl b/\P (.bl !b) Δ1):JE K (tNotV ta) Δ P:=fun g G H σ Q k c=>
 h g G H σ _ k fun v d G1 H1 Δ1 k1 s1 r1 hq_=>by
  obtain ⟨b,e,p1⟩:=hq_
  subst e; cases r1.inv
  exact ⟨b,rfl,c _ _ G1 H1 Δ1 k1 s1 (.bl !b) p1⟩
theorem Zd7 {to te:TE} (h:JE K to Δ fun d Δ1=>∃ ns:List Int,d=.tup (ns.map D.int)/\JE K te Δ1 fun e Δ2=>∃ i j,e=.int i/\ns[j]? = some i/\(∀ m,m < j->ns[m]? ≠ some i)/\P (.int (j:Nat)) Δ2) :
  JE K (tBM K "tuple" (rIndexT K) to (tCons te tNil)) Δ P:=fun g G H σ Q k c=>
 h g G H σ _ k fun v d G1 H1 Δ1 k1 s1 r1 hq_=>by
  obtain ⟨ns,e,p1⟩:=hq_
  subst e
  obtain ⟨a,vs,rfl,ha,rs⟩:=r1.inv
  next=>
   refine ⟨.inr (.inl ⟨rfl,.inr ⟨_,k1.live _ _ ha⟩⟩),p1 g G1 H1 σ _ k1 fun u e G2 H2 Δ2 k2 s2 r2 ⟨i,j,q1,q2,q3,p⟩=>?_⟩
   subst q1
   cases r2.inv
   have ev:vs=ns.map V.int:=rs.ints
   subst ev
   have hj:j < ns.length:=(List.getElem?_eq_some_iff.mp q2).1
   refine ⟨a,_,.int i,j,rfl,rfl,SqT.of (k2.live _ _ (s2 _ _ ha)),rfl,?_,by simpa using hj,⟨.int i,by rw [List.getElem?_map,q2]; rfl,by simp [eqV]⟩,fun m z hm hz=>?_,c _ _ G2 H2 Δ2 k2 (s1.trans s2) (.int _) p⟩
   ·rw [List.all_map]; exact List.all_eq_true.mpr fun _ _=>rfl
   ·rw [List.getElem?_map] at hz
    cases e:ns[m]? with
    | none=>rw [e] at hz; cases hz
    | some w=>
     rw [e] at hz
     have hz:V.int w=z:=by simpa using hz
     subst hz
     have hne:w ≠ i:=fun q=>q3 m hm (by rw [e,q])
     show (w == i)=false
     exact beq_eq_false_iff_ne.mpr hne
end
section
variable {K:PySem.W.Frag} {g:Gm} {G H:Hp} {σ:St} {Δ:Evt}
theorem Ok.setVal' (k:Ok K g G H σ Δ) {v:V} {d:D} (i:Nat) (r:Rep K G v d):Ok K g G H (σ.set i (some v)) (Δ.set i (.val d)):=by
 by_cases hi:i < Δ.length
 ·exact k.setVal hi r
 ·have hl:=k.len
  rw [List.set_eq_of_length_le (l:=σ) (by omega),List.set_eq_of_length_le (l:=Δ) (by omega)]; exact k
theorem Ok.setOwn' (k:Ok K g G H σ Δ) {a:Addr} {od:OD} (i:Nat) (p:Pend K g G H σ Δ a od):Ok K g G H (σ.set i (some (.ref a))) (Δ.set i (.own od)):=by
 by_cases hi:i < Δ.length
 ·exact k.setOwn hi p
 ·have hl:=k.len
  rw [List.set_eq_of_length_le (l:=σ) (by omega),List.set_eq_of_length_le (l:=Δ) (by omega)]; exact k
theorem Zoq {te:TE} {i:Nat} {P:Pst} (h:JE K te Δ fun d Δ1=>P.nx (Δ1.set i (.val d))):JS K (tAsg te (gName i)) Δ P:=fun g G H σ E k c=>
 h g G H σ _ k fun v d G1 H1 Δ1 k1 s1 r1 p1=>c.nx _ G1 H1 _ (k1.setVal' i r1) p1
theorem Znm {te:TE} {i:Nat} {P:Pst} (h:JO K te Δ fun od Δ1=>P.nx (Δ1.set i (.own od))):JS K (tAsg te (gName i)) Δ P:=fun g G H σ E k c=>
 h g G H σ _ k fun a od G1 H1 Δ1 k1 s1 pd p1=>c.nx _ G1 H1 _ (k1.setOwn' i pd) p1
theorem Zn0 {i j:Nat} {ta:TA} {P:Pst} (h:JA K ta Δ fun ds Δ1=>∃ d e,ds=[d,e]/\P.nx ((Δ1.set i (.val d)).set j (.val e))):JS K (tPar i j ta) Δ P:=fun g G H σ E k c=>
 h g G H σ _ k fun vs ds G1 H1 Δ1 k1 s1 r1 hq_=>by
  obtain ⟨d,e,hd,p1⟩:=hq_
  subst hd
  obtain ⟨_,_,rfl,ra,rr⟩:=r1.inv
  next=>
   obtain ⟨_,_,rfl,rb,rr⟩:=rr.inv
   next=>
    cases rr.inv
    exact ⟨_,_,rfl,c.nx _ G1 H1 _ ((k1.setVal' i ra).setVal' j rb) p1⟩
theorem Zcz {i:Nat} {d:D} {P:Evt->Prop} (p:P (Δ.set i (.val d))):JG K (gName i) d Δ P:=fun g G H σ v R k r c=>c _ G H _ (k.setVal' i r) (Same.refl _) p
theorem Zds {n i:Nat} {d:D} {P:Evt->Prop} (hn:i < n) (p:P (Δ.set i (.val d))):JGn K n (gName i) d Δ P:=fun g G H σ v R k r c=>
 c _ G H _ (k.setVal' i r) (Same.refl _) (fun j hj=>List.getElem?_set_ne (by omega)) p
theorem Zpf {n:Nat} {te:TE} {Pp:Pst} {x:Slot} {ds0:List D} (hx:Δ[n]? = some x) (ho:x.od=some (.lst ds0))
  (h:JE K te Δ fun d Δ1=>∃ y ds,Δ1[n]? = some y/\y.od=some (.lst ds)/\ds.length < sizeLine/\Pp.nx (Δ1.set n (y.put (.lst (ds ++ [d]))))) :
  JS K (tDrop (tBM K "list" rAppend (tVar n) (tCons te tNil))) Δ Pp:=Zju hx ho ⟨_,rfl⟩ h
end
section
variable {K:PySem.W.Frag} {Δ:Evt} {nx bk ct:Evt->Prop} {rt:D->Evt->Prop} {ro:OD->Evt->Prop}
theorem Za7 (p:nx Δ):JS K tNext Δ ⟨nx,rt,bk,ct,ro⟩:=Zns p
theorem Zaj {t u:TS} (h:JS K t Δ ⟨fun Δ1=>JS K u Δ1 ⟨nx,rt,bk,ct,ro⟩,rt,bk,ct,ro⟩):JS K (tSeq t u) Δ ⟨nx,rt,bk,ct,ro⟩:=Zmi h
theorem Zce {t u:TS} (I:Evt->Prop) (h1:JS K t Δ ⟨I,rt,bk,ct,ro⟩) (h2:∀ Δ1,I Δ1->JS K u Δ1 ⟨nx,rt,bk,ct,ro⟩):JS K (tSeq t u) Δ ⟨nx,rt,bk,ct,ro⟩:=
 Zmi (h1.mono h2 (fun _ _ z=>z) (fun _ z=>z) (fun _ z=>z) fun _ _ z=>z)
theorem Za3 {te:TE} (h:JE K te Δ rt):JS K (tRet te) Δ ⟨nx,rt,bk,ct,ro⟩:=Zp6 h
theorem Zn4 {te:TE} (h:JO K te Δ ro):JS K (tRet te) Δ ⟨nx,rt,bk,ct,ro⟩:=Znl h
theorem Zb4 {c:TT} {t u:TS} (h:JT K c Δ fun b Δ1=>if b=true then JS K t Δ1 ⟨nx,rt,bk,ct,ro⟩ else JS K u Δ1 ⟨nx,rt,bk,ct,ro⟩):JS K (tIfS c t u) Δ ⟨nx,rt,bk,ct,ro⟩:=Zqt h
theorem Zax {te:TE} {i:Nat} (h:JE K te Δ fun d Δ1=>nx (Δ1.set i (.val d))):JS K (tAsg te (gName i)) Δ ⟨nx,rt,bk,ct,ro⟩:=Zoq h
theorem Zdw {te:TE} {i:Nat} (h:JO K te Δ fun od Δ1=>nx (Δ1.set i (.own od))):JS K (tAsg te (gName i)) Δ ⟨nx,rt,bk,ct,ro⟩:=Znm h
theorem Zg9 {i j:Nat} {ta:TA} (h:JA K ta Δ fun ds Δ1=>∃ d e,ds=[d,e]/\nx ((Δ1.set i (.val d)).set j (.val e))):JS K (tPar i j ta) Δ ⟨nx,rt,bk,ct,ro⟩:=Zn0 h
theorem Zie {te:TE} {t:TG} (h:JE K te Δ fun d Δ1=>JG K t d Δ1 nx):JS K (tAsg te t) Δ ⟨nx,rt,bk,ct,ro⟩:=Zpu h
theorem Zo3 {n:Nat} {te:TE} {x:Slot} {ds0:List D} (hx:Δ[n]? = some x) (ho:x.od=some (.lst ds0))
  (h:JE K te Δ fun d Δ1=>∃ y ds,Δ1[n]? = some y/\y.od=some (.lst ds)/\ds.length < sizeLine/\nx (Δ1.set n (y.put (.lst (ds ++ [d]))))) :
  JS K (tDrop (tBM K "list" rAppend (tVar n) (tCons te tNil))) Δ ⟨nx,rt,bk,ct,ro⟩:=Zpf hx ho h
theorem Zc4 {n:Nat} {ti te:TE} (h:JE K te Δ fun d Δ1=>(∃ x ds,Δ1[n]? = some x/\x.od=some (.lst ds))/\JE K ti Δ1 fun e Δ2=>∃ x ds i j,Δ2[n]? = some x/\x.od=some (.lst ds)/\e=.int i/\ixN ds.length i=some j/\nx (Δ2.set n (x.put (.lst (ds.set j d))))) :
  JS K (tAsg te (gSub (tVar n) ti rSetU)) Δ ⟨nx,rt,bk,ct,ro⟩:=Zjm (h.mono fun d Δ1 ⟨⟨x,ds,h1,h2⟩,h3⟩=>⟨⟨x,_,h1,h2⟩,h3⟩)
theorem Zhy {wi:TI} {t:TG} {tb:TS} (h:JI K wi Δ fun ds Δ1=>∃ I:Nat->Evt->Prop,I 0 Δ1/\(∀ i d Δ2,ds[i]? = some d->I i Δ2->JG K t d Δ2 fun Δ3=>JS K tb Δ3 ⟨I (i + 1),rt,nx,I (i + 1),ro⟩)/\∀ Δ2,I ds.length Δ2->nx Δ2) :
  JS K (tFor wi t tb) Δ ⟨nx,rt,bk,ct,ro⟩:=Zoz h
end
theorem Zkt {α β:Type} {f:α -> β} {xs:List α} {i:Int} (h0:0<=i) (h1:i < (xs.length:Int)):∃ c,xs[i.toNat]? = some c/\atI (xs.map f) i=some (f c):=by
 have hk:i.toNat < xs.length:=by omega
 have e:i=((i.toNat:Nat):Int):=by omega
 have q:xs[i.toNat]? = some xs[i.toNat]:=List.getElem?_eq_getElem hk
 generalize xs[i.toNat]=c at q
 refine ⟨c,q,?_⟩
 have z:atI (xs.map f) ((i.toNat:Nat):Int)=some (f c):=Zbh (by rw [List.getElem?_map,q]; rfl)
 rw [<- e] at z
 exact z
theorem Zkq:bootBuiltins "abs" = some (.builtin "abs"):=by decide +kernel
theorem Zbm:bootBuiltins "len" = some (.builtin "len"):=by decide +kernel
theorem Zfc:bootBuiltins "min" = some (.builtin "min"):=by decide +kernel
theorem Zkh:bootBuiltins "max" = some (.builtin "max"):=by decide +kernel
theorem Za9:bootBuiltins "isinstance" = some (.builtin "isinstance"):=by decide +kernel
theorem Zqf:bootBuiltins "all" = some (.builtin "all"):=by decide +kernel
theorem Zbq:bootBuiltins "tuple" = some (.type "tuple"):=by decide +kernel
theorem Zi5:bootBuiltins "list" = some (.type "list"):=by decide +kernel
theorem Zfh:bootBuiltins "int" = some (.type "int"):=by decide +kernel
theorem Zho:bootBuiltins "bool" = some (.type "bool"):=by decide +kernel
theorem Zp9:bootBuiltins "zip" = some (.type "zip"):=by decide +kernel
structure Callee (P:Program) (w:World) (K:PySem.W.Frag) (mg:Str->Option Value) (base:Heap) (k:Nat) (x:Str) (ps:List Str) (sp:Sp):Prop where
 ex:∃ (f:Addr) (fd:FuncData),FnOk P w K mg base CX0 k f fd ps sp/\Binds K fd ps []/\PySem.W.keepIn K (.ref f)=true/\mg x=some (.ref f)
section
variable {X:Cx} {k:Nat} {x:Str} {ps:List Str} {sp:Sp} {e:Expr} {es:List Expr} {t:TA} {p pos:Pos}
theorem Za1 (C:Callee X.prog X.w X.K X.mg X.base k x ps sp) (hr:Room k X.A) (ha:PA X (e :: es) t) (hg:Gl X x:=by rfl) (hdb:(x == ("__debug__":Str))=false:=by decide)
  (he:starEach (e :: es) X.env=(false,eval e X.env) :: starEach es X.env:=by rfl) (hpl:(backTo pos (starEach es X.env)).any (·.1)=false:=by rfl):PE X (.Call (.Name x p) (e :: es) [] pos) (tCall sp [] E0 t):=by
 obtain ⟨f,fd,F,b,kp,m⟩:=C.ex
 exact Zno F hr hg m kp b .nil pass0 ha hdb he hpl
end
end L2
set_option Elab.async false
set_option linter.all false
set_option maxRecDepth 100000
namespace L2
open PySem PySem.Spec PyProof.Rows
def fixD (sel:List Nat) (Δ:Evt):Evt:=sel.map fun i=>(Δ[i]?).getD .any
theorem Zcv {n:Nat} {sel:List Nat} {ts Δ:Evt} (ht:ts.length=n):backD n sel (ts ++ fixD sel Δ) 0 Δ = Δ:=by
 apply List.ext_getElem?
 intro i
 rw [Zcy]
 cases q:Δ[i]? with
 | none=>rfl
 | some x=>
  show some (backAt n sel (ts ++ fixD sel Δ) (0 + i) x)=some x
  congr 1
  rw [Nat.zero_add]
  have key:∀ j,sel.idxOf? i=some j->(ts ++ fixD sel Δ)[n + j]? = some x:=fun j hj=>by
   rw [List.getElem?_append_right (by omega),ht,Nat.add_sub_cancel_left]
   unfold fixD
   rw [List.getElem?_map,Zd5 hj]
   show some ((Δ[i]?).getD .any)=_
   rw [q]; rfl
  unfold backAt
  cases x with
  | any=>rfl
  | val d=>rfl
  | own o=>
   dsimp only
   cases e:sel.idxOf? i with
   | none=>rfl
   | some j=>dsimp only; rw [key j e]
  | bor o=>
   dsimp only
   cases e:sel.idxOf? i with
   | none=>rfl
   | some j=>dsimp only; rw [key j e]
  | ownA a o=>
   dsimp only
   cases e:sel.idxOf? i with
   | none=>rfl
   | some j=>dsimp only; rw [key j e]
section
variable {K:PySem.W.Frag} {Δ:Evt} {P:D->Evt->Prop}
theorem Zcg {sel:List Nat} {wi:TI} {tc:TT} {te:TE} (hsel:sel.Nodup)
  (h:JI K wi Δ fun ds Δ1=>ds.length < sizeLine/\∃ (p:D->Bool) (f:D->D),
   (∀ (i:Nat) d,ds[i]? = some d->JT K tc (.val d :: fixD sel Δ1) fun b Δ4=>b=p d/\if b=true then JE K te Δ4 fun e Δ5=>e=f d/\∃ x,Δ5=x :: fixD sel Δ1 else ∃ x,Δ4=x :: fixD sel Δ1) ∧
   P (.lst ((ds.filter p).map f)) Δ1):JE K (tComp 1 sel wi (gName 0) tc te) Δ P:=by
 refine Zhz hsel fun g G H σ R k c=>h g G H σ R k fun J ds G' H' Δ' k' s' it ⟨z,p,f,ht,he⟩=>c J ds G' H' Δ' k' s' it ⟨z,fixD sel Δ',p,f,rfl,fun i d ts hd hts=>?_,?_⟩
 ·refine Zds (by decide) ?_
  obtain ⟨x,rfl⟩:∃ x,ts=[x]:=by
   match ts,hts with
   | [x],_=>exact ⟨x,rfl⟩
  intro g G H σ Q k c
  refine ht i d hd g G H σ Q k fun b G1 H1 Δ1 k1 s1 ⟨e1,q⟩=>c b G1 H1 Δ1 k1 s1 ⟨e1,?_⟩
  cases b with
  | true=>
   rw [if_pos rfl] at q ⊢
   exact q.mono fun e Δ5 ⟨e2,x,e3⟩=>⟨e2,[x],rfl,e3⟩
  | false=>
   rw [if_neg Bool.false_ne_true] at q ⊢
   obtain ⟨x,e3⟩:=q
   exact ⟨[x],rfl,e3⟩
 ·rw [Zcv (by simp)]; exact he
theorem Zib {sel:List Nat} {wi:TI} {tc:TT} {te:TE} {Po:OD->Evt->Prop} (hsel:sel.Nodup)
  (h:JI K wi Δ fun ds Δ1=>ds.length < sizeLine/\∃ (p:D->Bool) (f:D->D),
   (∀ (i:Nat) d,ds[i]? = some d->JT K tc (.val d :: fixD sel Δ1) fun b Δ4=>b=p d/\if b=true then JE K te Δ4 fun e Δ5=>e=f d/\∃ x,Δ5=x :: fixD sel Δ1 else ∃ x,Δ4=x :: fixD sel Δ1) ∧
   Po (.lst ((ds.filter p).map f)) Δ1):JO K (tComp 1 sel wi (gName 0) tc te) Δ Po:=by
 refine Zhj hsel fun g G H σ R k c=>h g G H σ R k fun J ds G' H' Δ' k' s' it ⟨z,p,f,ht,he⟩=>c J ds G' H' Δ' k' s' it ⟨z,fun i ys Δ=>ys=((ds.take i).filter p).map f/\∃ x,Δ = x :: fixD sel Δ',⟨by simp,.any,rfl⟩,?_,?_⟩
 ·rintro i d ys Δ2 hd ⟨rfl,x,rfl⟩
  have tk:ds.take (i + 1)=ds.take i ++ [d]:=by
   rw [List.take_add_one,hd]; rfl
  refine Zds (by decide) ?_
  intro g G H σ Q k c
  refine ht i d hd g G H σ Q k fun b G1 H1 Δ1 k1 s1 ⟨e1,q⟩=>c b G1 H1 Δ1 k1 s1 ?_
  cases b with
  | true=>
   rw [if_pos rfl] at q ⊢
   refine q.mono fun e Δ5 ⟨e2,x,e3⟩=>⟨?_,x,e3⟩
   rw [tk,List.filter_append,List.map_append,List.filter_cons,<- e1,e2]
   rfl
  | false=>
   rw [if_neg Bool.false_ne_true] at q ⊢
   obtain ⟨x,e3⟩:=q
   refine ⟨?_,x,e3⟩
   rw [tk,List.filter_append,List.map_append,List.filter_cons,<- e1]
   simp
 ·rintro ys Δ2 ⟨rfl,x,rfl⟩
  rw [List.take_length,show (x :: fixD sel Δ')=[x] ++ fixD sel Δ' from rfl,Zcv (by simp)]
  exact he
theorem Zf5 {sel:List Nat} {wi:TI} {tc:TT} {te:TE} (hsel:sel.Nodup)
  (h:JI K wi Δ fun ds Δ1=>ds.length < sizeLine/\∃ (p:D->Bool) (f:D->D),
   (∀ (i:Nat) d,ds[i]? = some d->∃ a b,d=.tup [a,b]/\JT K tc (.val a :: .val b :: fixD sel Δ1) fun t Δ4=>t=p d/\if t=true then JE K te Δ4 fun e Δ5=>e=f d/\∃ x y,Δ5=x :: y :: fixD sel Δ1 else ∃ x y,Δ4=x :: y :: fixD sel Δ1) ∧
   P (.lst ((ds.filter p).map f)) Δ1):JE K (tComp 2 sel wi (gTup K 2 (gCons (gName 0) (gCons (gName 1) gNil))) tc te) Δ P:=by
 refine Zhz hsel fun g G H σ R k c=>h g G H σ R k fun J ds G' H' Δ' k' s' it ⟨z,p,f,ht,he⟩=>c J ds G' H' Δ' k' s' it ⟨z,fixD sel Δ',p,f,rfl,fun i d ts hd hts=>?_,?_⟩
 ·obtain ⟨a,b,rfl,hj⟩:=ht i d hd
  refine Zjn rfl (Zd3 (Zds (by decide) (Zd3 (Zds (by decide) (Zid ?_)))))
  obtain ⟨x,y,rfl⟩:∃ x y,ts=[x,y]:=by
   match ts,hts with
   | [x,y],_=>exact ⟨x,y,rfl⟩
  intro g G H σ Q k c
  refine hj g G H σ Q k fun b G1 H1 Δ1 k1 s1 ⟨e1,q⟩=>c b G1 H1 Δ1 k1 s1 ⟨e1,?_⟩
  cases b with
  | true=>
   rw [if_pos rfl] at q ⊢
   exact q.mono fun e Δ5 ⟨e2,x,y,e3⟩=>⟨e2,[x,y],rfl,e3⟩
  | false=>
   rw [if_neg Bool.false_ne_true] at q ⊢
   obtain ⟨x,y,e3⟩:=q
   exact ⟨[x,y],rfl,e3⟩
 ·rw [Zcv (by simp)]; exact he
end
end L2
set_option Elab.async false
set_option linter.all false
set_option maxRecDepth 100000
namespace L2
open PySem PySem.Spec PyProof.Rows
def tGhost (base:Nat) (t:TS):TS:=fun E σ H=>t { E with nx:=fun σ' H'=>∃ σ2:St,σ2.length = σ'.length/\(∀ i,i < base -> σ2[i]? = σ'[i]?)/\E.nx σ2 H' } σ H
theorem Zlg {X:Cx} {st:Stmt} {t:TS} (base:Nat) (hv:∀ x ∈ X.N.drop base,X.env.scope.names.lookup x=none) (h:PS X st t):PS X st (tGhost base t):=by
 intro pins s σ H E I hw
 refine thn (h pins s σ H _ I hw) fun f s1 q=>?_
 cases f with
 | next=>
  obtain ⟨σ',H',I',σ2,hl,hs,q⟩:=q
  refine ⟨σ2,H',⟨I'.ok,I'.os,I'.bare,I'.base,?_,I'.cell,I'.free,I'.freeC,I'.pin,I'.hok,hl.trans I'.len⟩,q⟩
  obtain ⟨m,hn,hl'⟩:=I'.loc
  refine ⟨m,hn,fun i x v e1 e2 e3=>?_⟩
  by_cases hi:i < base
  ·rw [hs i hi] at e2; exact hl' i x v e1 e2 e3
  ·have hm:x ∈ X.N.drop base:=by
    refine List.mem_of_getElem? (i:=i - base) ?_
    rw [List.getElem?_drop,show base + (i - base)=i by omega]; exact e1
   have z:=hv x hm
   rcases e3 with w | w | w <;> (rw [z] at w; cases w)
 | ret v=>exact q
 | brk=>exact q
 | cont=>exact q
def Nest (K:PySem.W.Frag) (g:Gm) (G H:Hp) (σ:St) (Δ:Evt) (cs:List (Addr × HO)) (ods:List OD):Prop:=
 (cs.map (·.1)).Nodup/\Paired (fun (c:Addr × HO) (od:OD)=>OwnRep K G c.2 od) cs ods/\∀ c ∈ cs,H c.1=some c.2/\G c.1=none/\g.Hz c.1=none/\g.Xo c.1=none/\∀ (i:Nat) x od',Δ[i]? = some x->x.od=some od' -> σ[i]? ≠ some (some (.ref c.1))
def JN (K:PySem.W.Frag) (t:TE) (Δ:Evt) (P:List OD->Evt->Prop):Prop:=
 ∀ g G H σ Q,Ok K g G H σ Δ -> (∀ acc cs ods G' H' Δ',Ok K g G' H' σ Δ' -> Same G G' -> Rep K G' (.ref acc) (.lst (cs.map fun (c:Addr × HO)=>D.adr c.1))->g.Hz acc=none->Nest K g G' H' σ Δ' cs ods->P ods Δ' -> Q (.ref acc) H')->t σ H Q
section
variable {K:PySem.W.Frag} {Δ:Evt}
def cellAt (cs:List (Addr × HO)) (b:Addr):Option HO:=(cs.find? fun c=>decide (c.1=b)).map (·.2)
theorem Zdr {cs:List (Addr × HO)} {b:Addr}:cellAt cs b=none ↔ ∀ c ∈ cs,c.1 ≠ b:=by
 unfold cellAt
 rw [Option.map_eq_none_iff,List.find?_eq_none]
 constructor
 ·intro h c hc e; exact h c hc (decide_eq_true e)
 ·intro h c hc e; exact h c hc (of_decide_eq_true e)
theorem Zfe {cs:List (Addr × HO)} (nd:(cs.map (·.1)).Nodup) {c:Addr × HO} (hc:c ∈ cs):cellAt cs c.1=some c.2:=by
 induction cs with
 | nil=>cases hc
 | cons d r ih=>
  rw [List.map_cons,List.nodup_cons] at nd
  unfold cellAt
  rcases List.mem_cons.mp hc with e | hc
  ·subst e; simp
  ·have hne:d.1 ≠ c.1:=fun e=>nd.1 (by rw [e]; exact List.mem_map.mpr ⟨c,hc,rfl⟩)
   rw [List.find?_cons_of_neg (by simpa using hne)]
   exact ih nd.2 hc
open Classical in
noncomputable def asideN (g:Gm) (sel:List Nat) (σ:St) (Δ:Evt) (H:Hp) (acc:Addr) (cs:List (Addr × HO)):Hp:=fun b=>
 if b=acc then some (.lst (cs.map fun c=>V.ref c.1)) else match cellAt cs b with
  | some o=>some o
  | none=>if ∃ (i:Nat) (x:Slot) (od:OD),Δ[i]? = some x/\x.od=some od/\i ∉ sel /\ σ[i]? = some (some (.ref b)) then H b else g.Xo b
theorem Zcx {g:Gm} {sel:List Nat} {σ:St} {Δ:Evt} {H:Hp} {acc:Addr} {cs:List (Addr × HO)}:asideN g sel σ Δ H acc cs acc=some (.lst (cs.map fun c=>V.ref c.1)):=by unfold asideN; rw [if_pos rfl]
theorem Zco {g:Gm} {sel:List Nat} {σ:St} {Δ:Evt} {H:Hp} {acc b:Addr} {o:HO} {cs:List (Addr × HO)} (hb:b ≠ acc) (e:cellAt cs b=some o):asideN g sel σ Δ H acc cs b=some o:=by unfold asideN; rw [if_neg hb,e]
theorem Zc0 {g:Gm} {sel:List Nat} {σ:St} {Δ:Evt} {H:Hp} {acc b:Addr} {cs:List (Addr × HO)} (hb:b ≠ acc) (e:cellAt cs b=none) (hx:∃ (i:Nat) (x:Slot) (od:OD),Δ[i]? = some x/\x.od=some od/\i ∉ sel /\ σ[i]? = some (some (.ref b))):asideN g sel σ Δ H acc cs b=H b:=by
 unfold asideN; rw [if_neg hb,e]; exact if_pos hx
theorem Zcn {g:Gm} {sel:List Nat} {σ:St} {Δ:Evt} {H:Hp} {acc b:Addr} {cs:List (Addr × HO)} (hb:b ≠ acc) (e:cellAt cs b=none) (hx:¬ ∃ (i:Nat) (x:Slot) (od:OD),Δ[i]? = some x/\x.od=some od/\i ∉ sel /\ σ[i]? = some (some (.ref b))):asideN g sel σ Δ H acc cs b=g.Xo b:=by
 unfold asideN; rw [if_neg hb,e]; exact if_neg hx
theorem Zm8 {n:Nat} {sel:List Nat} {wi:TI} {t:TG} {tc:TT} {te:TE} {P:List OD->Evt->Prop} (hsel:sel.Nodup)
  (h:JI K wi Δ fun ds Δ1=>ds.length < sizeLine/\∃ I:Nat->List OD->Evt->Prop,I 0 [] (compD n sel Δ1) ∧
   (∀ i d ys Δ2,ds[i]? = some d->I i ys Δ2->JGn K n t d Δ2 fun Δ3=>JT K tc Δ3 fun b Δ4=>if b=true then JO K te Δ4 fun e Δ5=>I (i + 1) (ys ++ [e]) Δ5 else I (i + 1) ys Δ4) ∧
   ∀ ys Δ2,I ds.length ys Δ2->P ys (backD n sel Δ2 0 Δ1)):JN K (tComp n sel wi t tc te) Δ P:=fun g G H σ Q k c=>
 h g G H σ _ k fun J ds G1 H1 Δ1 k1 s1 it ⟨hz,I,h0,ht,he⟩ acc hacc=>by
  have nacc:∀ (i:Nat) x od,Δ1[i]? = some x->x.od=some od -> σ[i]? ≠ some (some (.ref acc)):=fun i x od e1 e2 e3=>by
   obtain ⟨a,o,w1,w2,_⟩:=k1.own i x od e1 e2
   rw [e3] at w1; cases w1
   rw [hacc] at w2; cases w2
  let Wd:Nat->St->Hp->Prop:=fun i σ' H'=>i<=ds.length/\(∀ j,n<=j -> σ'[j]? = (compSt n sel σ)[j]?)/\∃ G ys cs Δi,cs.length<=i/\(cs.map (·.1)).Nodup/\(∀ c ∈ cs,c.1 ≠ acc/\g.Hz c.1=none/\g.Xo c.1=none/\∀ (i:Nat) x od,Δ1[i]? = some x->x.od=some od->i ∉ sel -> σ[i]? ≠ some (some (.ref c.1)))/\Paired (fun (c:Addr × HO) (od:OD)=>OwnRep K G c.2 od) cs ys ∧
   Ok K ⟨g.B,G1,g.Hz,asideN g sel σ Δ1 H1 acc cs⟩ G H' σ' Δi/\I i ys Δi
  refine ⟨fun i m σ' H'=>m=ds.length - i/\Wd i σ' H',⟨ds.length,by simp,Nat.zero_le _,fun _ _=>rfl,G1,[],[],compD n sel Δ1,Nat.le_refl _,List.nodup_nil,fun c hc=>(nomatch hc),.nil,?_,h0⟩,?_⟩
  ·refine Zfi hsel k1 hacc fun b o e=>?_
   have e:asideN g sel σ Δ1 H1 acc [] b=some o:=e
   by_cases hb:b=acc
   ·subst hb; rw [Zcx] at e; cases e; exact .inl ⟨rfl,rfl⟩
   ·by_cases hx:∃ (i:Nat) (x:Slot) (od:OD),Δ1[i]? = some x/\x.od=some od/\i ∉ sel /\ σ[i]? = some (some (.ref b))
    ·rw [Zc0 hb rfl hx] at e; exact .inr ⟨hb,.inl ⟨hx,e⟩⟩
    ·rw [Zcn hb rfl hx] at e; exact .inr ⟨hb,.inr e⟩
  ·rintro i m σ2 H2 ⟨rfl,hi,hσ,G2,ys,cs,Δ2,hy,nd,hcs,ry,k2,h2⟩
   have s2:Same G1 G2:=k2.sub
   obtain ⟨stop,go⟩:=it G2 H2 s2 k2.live
   by_cases hlt:i < ds.length
   ·obtain ⟨g1,g2⟩:=go i _ (List.getElem?_eq_getElem hlt)
    refine .inr ⟨g1,fun σ' H'=>Wd (i + 1) σ' H',fun σ' H' p'=>⟨ds.length - (i + 1),by omega,rfl,p'⟩,fun x H3 y=>?_⟩
    obtain ⟨G3,a1,a2,a3,a4⟩:=g2 x H3 y
    have k3:=k2.grow a1 a2 a3
    have hG3:∀ b o,G3 b=some o->(g.Hz b=none\/G1 b=some o):=fun b o q=>(k3.frz b o q).2
    have k3':Ok K ⟨g.B,G3,g.Hz,asideN g sel σ Δ1 H1 acc cs⟩ G3 H3 σ2 Δ2:=⟨k3.same,k3.lent,Same.refl _,fun b o q=>⟨(k3.frz b o q).1,.inr q⟩,k3.ext,k3.len,k3.val,k3.own,k3.dis⟩
    have ry3:Paired (fun (c:Addr × HO) (od:OD)=>OwnRep K G3 c.2 od) cs ys:=Paired.mapP ry fun _ _ z=>z.mono a1
    have s13:Same G1 G3:=s2.trans a1
    refine ht i _ ys Δ2 (List.getElem?_eq_getElem hlt) h2 ⟨g.B,G3,g.Hz,asideN g sel σ Δ1 H1 acc cs⟩ G3 H3 σ2 x _ k3' a4 fun σ4 G4 H4 Δ4 k4 s4 e4 p4=>?_
    have hσ4:∀ j,n<=j -> σ4[j]? = (compSt n sel σ)[j]?:=fun j hj=>(e4 j hj).trans (hσ j hj)
    refine p4 _ G4 H4 σ4 _ k4 fun b G5 H5 Δ5 k5 s5 p5=>?_
    cases b with
    | false=>exact ⟨hlt,hσ4,G5,ys,cs,Δ5,by omega,nd,hcs,Paired.mapP ry3 fun _ _ z=>z.mono (s4.trans s5),k5.base s13 hG3,p5⟩
    | true=>
     refine (show JO K te Δ5 _ from p5) _ G5 H5 σ4 _ k5 fun a od G6 H6 Δ6 k6 s6 pd p6=>?_
     have ry6:Paired (fun (c:Addr × HO) (od:OD)=>OwnRep K G6 c.2 od) cs ys:=Paired.mapP ry3 fun _ _ z=>z.mono (s4.trans (s5.trans s6))
     obtain ⟨b1,b2,b3⟩:=k6.ext acc _ Zcx
     obtain ⟨oa,d1,d2,d3,d4,d5,d6⟩:=pd
     have d5:asideN g sel σ Δ1 H1 acc cs a=none:=d5
     have hane:a ≠ acc:=by intro z; subst z; rw [Zcx] at d5; cases d5
     have hac:cellAt cs a=none:=by
      cases q:cellAt cs a with
      | none=>rfl
      | some o=>rw [Zco hane q] at d5; cases d5
     have hax:∀ (i:Nat) x od,Δ1[i]? = some x->x.od=some od->i ∉ sel -> σ[i]? ≠ some (some (.ref a)):=fun i x od e1 e2 e3 e4=>by
      rw [Zc0 hane hac ⟨i,x,od,e1,e2,e3,e4⟩] at d5
      obtain ⟨a',o',w1,w2,_⟩:=k1.own i x od e1 e2
      rw [e4] at w1; cases w1
      rw [d5] at w2; cases w2
     have hagx:g.Xo a=none:=by
      rw [Zcn hane hac (fun ⟨i,x,od,e1,e2,e3,e4⟩=>hax i x od e1 e2 e3 e4)] at d5; exact d5
     have hnm:=Zdr.mp hac
     refine ⟨cs.map fun c=>V.ref c.1,b1,by rw [List.length_map]; omega,hlt,hσ4,G6,ys ++ [od],cs ++ [(a,oa)],Δ6,by rw [List.length_append,List.length_singleton]; omega,?_,fun c hc=>?_,Paired.snoc ry6 d2,?_,p6⟩
     ·rw [List.map_append]
      refine List.nodup_append.mpr ⟨nd,by simp,fun x hx y hy=>?_⟩
      rw [List.map_singleton,List.mem_singleton] at hy
      subst hy
      obtain ⟨c,hc,rfl⟩:=List.mem_map.mp hx
      exact hnm c hc
     ·rcases List.mem_append.mp hc with hc | hc
      ·exact hcs c hc
      ·rw [List.mem_singleton.mp hc]; exact ⟨hane,d4,hagx,hax⟩
     ·have k7:=k6.base s13 hG3
      have nd':((cs ++ [(a,oa)]).map (·.1)).Nodup:=by
       rw [List.map_append]
       refine List.nodup_append.mpr ⟨nd,by simp,fun x hx y hy=>?_⟩
       rw [List.map_singleton,List.mem_singleton] at hy
       subst hy
       obtain ⟨c,hc,rfl⟩:=List.mem_map.mp hx
       exact hnm c hc
      have er:(cs ++ [(a,oa)]).map (fun c=>V.ref c.1)=(cs.map fun c=>V.ref c.1) ++ [V.ref a]:=by simp
      have oldH:∀ b o,b ≠ acc->H6 b=some o->(upd H6 acc (.lst ((cs.map fun c=>V.ref c.1) ++ [V.ref a]))) b=some o:=fun b o hb e=>by rw [Zao hb]; exact e
      refine ⟨fun b o hb e=>?_,fun b hb=>?_,k7.sub,fun b o e=>?_,fun b o e=>?_,k7.len,k7.val,fun i x od e1 e2=>?_,k7.dis⟩
      ·have hne:b ≠ acc:=by
        intro z; subst z
        have e:g.Hz b=some o:=e
        rw [k1.there hacc] at e; cases e
       exact oldH b o hne (k7.same b o hb e)
      ·by_cases hne:b=acc
       ·subst hne; rw [Zat]; intro z; cases z
       ·rw [Zao hne]; exact k7.lent b hb
      ·have hne:b ≠ acc:=by intro z; subst z; rw [b2] at e; cases e
       exact ⟨oldH b o hne (k7.frz b o e).1,(k7.frz b o e).2⟩
      ·have e:asideN g sel σ Δ1 H1 acc (cs ++ [(a,oa)]) b=some o:=e
       by_cases hne:b=acc
       ·subst hne
        rw [Zcx,er] at e
        cases e
        exact ⟨Zat,b2,b3⟩
       ·by_cases hba:b=a
        ·subst hba
         rw [Zco hne (Zfe nd' (c:=(b,oa)) (List.mem_append_right _ (List.mem_singleton.mpr rfl)))] at e
         cases e
         exact ⟨oldH b _ hne d1,d3,d6⟩
        ·have ec:cellAt (cs ++ [(a,oa)]) b=cellAt cs b:=by
          unfold cellAt
          rw [List.find?_append]
          cases (cs.find? fun c=>decide (c.1=b)) with
          | some c=>rfl
          | none=>
           rw [List.find?_cons_of_neg (by simpa using Ne.symm hba)]
           rfl
         have e':asideN g sel σ Δ1 H1 acc cs b=some o:=by
          cases q:cellAt cs b with
          | some o'=>rw [Zco hne (ec.trans q)] at e; rw [Zco hne q]; exact e
          | none=>
           by_cases hx:∃ (i:Nat) (x:Slot) (od:OD),Δ1[i]? = some x/\x.od=some od/\i ∉ sel /\ σ[i]? = some (some (.ref b))
           ·rw [Zc0 hne (ec.trans q) hx] at e; rw [Zc0 hne q hx]; exact e
           ·rw [Zcn hne (ec.trans q) hx] at e; rw [Zcn hne q hx]; exact e
         obtain ⟨w1,w2,w3⟩:=k7.ext b o e'
         exact ⟨oldH b o hne w1,w2,w3⟩
      ·obtain ⟨a',o,w1,w2,w3,w4,w5⟩:=k7.own i x od e1 e2
       have hne:a' ≠ acc:=by intro z; subst z; exact b3 i x od e1 e2 w1
       exact ⟨a',o,w1,oldH a' o hne w2,w3,w4,w5⟩
   ·have e:i=ds.length:=by omega
    subst e
    refine .inl ⟨stop,?_⟩
    obtain ⟨b1,b2,b3⟩:=k2.ext acc _ Zcx
    have src:=Zfn (Δ1:=Δ1) (Δ2:=Δ2) hσ
    have k9:Ok K g G2 H2 σ (backD n sel Δ2 0 Δ1):=Ze5 k1 hacc k2 hσ (fun b o hb hx e=>by
      show asideN g sel σ Δ1 H1 acc cs b=_
      rw [Zc0 hb (Zdr.mpr fun c hc z=>?_) hx]
      ·exact e
      ·obtain ⟨i0,x0,od0,f1,f2,f3,f4⟩:=hx
       exact (hcs c hc).2.2.2 i0 x0 od0 f1 f2 f3 (by rw [z]; exact f4)) (fun b o hb hx e=>by
      show asideN g sel σ Δ1 H1 acc cs b=_
      rw [Zcn hb (Zdr.mpr fun c hc z=>?_) hx]
      ·exact e
      ·have:=(hcs c hc).2.2.1; rw [z,e] at this; cases this)
    -- the outer list is frozen
    have nslot:∀ (i:Nat) y od,(backD n sel Δ2 0 Δ1)[i]? = some y->y.od=some od -> σ[i]? ≠ some (some (.ref acc)):=fun i y od e1 e2=>by
     obtain ⟨x',od1,f1,f2,_⟩:=src i y od e1 e2
     exact nacc i x' od1 f1 f2
    have refs:∀ {G:Hp} (l:List (Addr × HO)),Reps K G (l.map fun c=>V.ref c.1) (l.map fun c=>D.adr c.1):=fun {G} l=>by
     induction l with
     | nil=>exact .nil
     | cons c r ih=>exact .cons (.adr _) ih
    have gX:g.Xo acc=none:=by
     cases q:g.Xo acc with
     | none=>rfl
     | some u=>have z:=(k1.ext acc u q).1; rw [hacc] at z; cases z
    obtain ⟨kf,sf,rf⟩:=k9.freeze (a:=acc) (ds:=cs.map fun (c:Addr × HO)=>D.adr c.1) (vs:=cs.map fun (c:Addr × HO)=>V.ref c.1) ⟨_,b1,(show Reps K G2 (cs.map fun (c:Addr × HO)=>V.ref c.1) (cs.map fun (c:Addr × HO)=>D.adr c.1) from refs cs),b2,k1.there hacc,gX,nslot⟩ b1
    refine c acc cs ys _ H2 _ kf (s1.trans (s2.trans sf)) rf (k1.there hacc) ⟨nd,Paired.mapP ry fun _ _ z=>z.mono sf,fun cc hc=>?_⟩ (he ys Δ2 h2)
    obtain ⟨f1,f2,f3,f4⟩:=hcs cc hc
    obtain ⟨u1,u2,u3⟩:=k2.ext cc.1 cc.2 (Zco f1 (Zfe nd hc))
    refine ⟨u1,by rw [Zao f1]; exact u2,f2,f3,fun i y od e1 e2 e3=>?_⟩
    obtain ⟨x,od',w1,w2,w3⟩:=src i y od e1 e2
    rcases w3 with ⟨w3,w4⟩ | ⟨j,w3,w4,w5⟩
    ·exact f4 i x od' w1 w2 w4 e3
    ·exact u3 (n + j) y od w4 e2 (by rw [w5,e3]; rfl)
def putN:Nat->List (Addr × OD)->Evt->Evt
 | _,[],Δ=>Δ
 | b,c :: r,Δ=>putN (b + 1) r (Δ.set b (.ownA c.1 c.2))
def putS:Nat->List Addr->St->St
 | _,[],σ=>σ
 | b,a :: r,σ=>putS (b + 1) r (σ.set b (some (.ref a)))
theorem Zh1:∀ (as:List Addr) (b:Nat) (σ:St),(putS b as σ).length = σ.length
 | [],_,_=>rfl
 | a :: r,b,σ=>by rw [putS,Zh1 r (b + 1),List.length_set]
theorem Zfd:∀ (as:List Addr) (b:Nat) (σ:St) (i:Nat),i < b->(putS b as σ)[i]? = σ[i]?
 | [],_,_,_,_=>rfl
 | a :: r,b,σ,i,h=>by rw [putS,Zfd r (b + 1) _ i (by omega),List.getElem?_set_ne (by omega)]
theorem Ok.setOwnA {g:Gm} {G H:Hp} {σ:St} (k:Ok K g G H σ Δ) {a:Addr} {od:OD} {i:Nat} (hi:i < Δ.length) (p:Pend K g G H σ Δ a od):Ok K g G H (σ.set i (some (.ref a))) (Δ.set i (.ownA a od)):=by
 have k1:=k.setOwn hi p
 obtain ⟨o,p1,p2,p3,p4,p5,p6⟩:=p
 have hs:i < σ.length:=by rw [<- k.len]; exact hi
 have old:∀ (j:Nat) x,j ≠ i->(Δ.set i (.ownA a od))[j]? = some x->(Δ.set i (.own od))[j]? = some x:=fun j x hj e=>by
  rw [List.getElem?_set_ne (Ne.symm hj)] at e ⊢; exact e
 have cv:∀ (j:Nat) x od',(Δ.set i (.ownA a od))[j]? = some x->x.od=some od' -> ∃ y,(Δ.set i (.own od))[j]? = some y/\y.od=some od':=fun j x od' e1 e2=>by
  by_cases hj:j=i
  ·subst hj
   rw [List.getElem?_set_self hi] at e1
   cases e1; cases e2
   exact ⟨.own od,List.getElem?_set_self hi,rfl⟩
  ·exact ⟨x,old j x hj e1,e2⟩
 refine ⟨k1.same,k1.lent,k1.sub,k1.frz,fun b u e=>?_,by simp [k.len],fun j d e=>?_,fun j x od' e1 e2=>?_,fun j l x y od1 od2 c e1 e2 e3 e4 e5 e6=>?_⟩
 ·obtain ⟨h1,h2,h3⟩:=k1.ext b u e
  refine ⟨h1,h2,fun j x od' e1 e2=>?_⟩
  obtain ⟨y,f1,f2⟩:=cv j x od' e1 e2
  exact h3 j y od' f1 f2
 ·by_cases hj:j=i
  ·subst hj
   rw [List.getElem?_set_self hi] at e
   cases e
  ·exact k1.val j d (old j _ hj e)
 ·by_cases hj:j=i
  ·subst hj
   rw [List.getElem?_set_self hi] at e1
   cases e1; cases e2
   exact ⟨a,o,List.getElem?_set_self hs,p1,p2,p3,rfl,p4⟩
  ·exact k1.own j x od' (old j x hj e1) e2
 ·obtain ⟨x',f1,f2⟩:=cv j x od1 e1 e2
  obtain ⟨y',f3,f4⟩:=cv l y od2 e3 e4
  exact k1.dis j l x' y' od1 od2 c f1 f2 f3 f4 e5 e6
theorem Ok.putN {g:Gm} {G H:Hp}:∀ (cs:List (Addr × HO)) (ods:List OD) (b:Nat) (σ:St) (Δ:Evt),Ok K g G H σ Δ -> b + ods.length <= Δ.length->Nest K g G H σ Δ cs ods →
  Ok K g G H (putS b (cs.map (·.1)) σ) (L2.putN b ((cs.map (·.1)).zip ods) Δ)
 | [],[],_,_,_,k,_,_=>k
 | [],_ :: _,_,_,_,_,_,n=>by cases n.2.1
 | _ :: _,[],_,_,_,_,_,n=>by cases n.2.1
 | c :: cs,od :: ods,b,σ,Δ,k,hl,⟨nd,pr,al⟩=>by
  cases pr with
  | cons r t=>
   obtain ⟨h1,h2,h3,h4,h5⟩:=al c List.mem_cons_self
   rw [List.map_cons,List.nodup_cons] at nd
   have hb:b < Δ.length:=by rw [List.length_cons] at hl; omega
   have k1:=k.setOwnA hb ⟨c.2,h1,r,h2,h3,h4,h5⟩
   refine Ok.putN cs ods (b + 1) _ _ k1 (by rw [List.length_set]; rw [List.length_cons] at hl; omega) ⟨nd.2,t,fun d hd=>?_⟩
   obtain ⟨f1,f2,f3,f4,f5⟩:=al d (List.mem_cons_of_mem _ hd)
   have hne:d.1 ≠ c.1:=fun e=>nd.1 (by rw [<- e]; exact List.mem_map.mpr ⟨d,hd,rfl⟩)
   refine ⟨f1,f2,f3,f4,fun j x od' e1 e2=>?_⟩
   by_cases hj:j=b
   ·subst hj
    rw [List.getElem?_set_self (by rw [<- k.len]; exact hb)]
    intro z
    have:c.1=d.1:=by
     have z1:=Option.some.inj (Option.some.inj z)
     injection z1
    exact hne this.symm
   ·rw [List.getElem?_set_ne (Ne.symm hj)] at e1 ⊢
    exact f5 j x od' e1 e2
theorem Zkn:∀ (l:List (Addr × OD)) (R T:Evt) (m:Nat),l.length<=m->L2.putN R.length l (R ++ List.replicate m Slot.any ++ T)=R ++ l.map (fun c=>Slot.ownA c.1 c.2) ++ List.replicate (m - l.length) Slot.any ++ T
 | [],R,T,m,_=>by simp [L2.putN]
 | c :: r,R,T,m,h=>by
  obtain ⟨m',rfl⟩:∃ m',m=m' + 1:=⟨m - 1,by rw [List.length_cons] at h; omega⟩
  have e:(R ++ List.replicate (m' + 1) Slot.any ++ T).set R.length (.ownA c.1 c.2)=(R ++ [.ownA c.1 c.2]) ++ List.replicate m' Slot.any ++ T:=by
   rw [List.replicate_succ]
   simp [List.set_append_right]
  rw [L2.putN,e]
  have:=Zkn r (R ++ [.ownA c.1 c.2]) T m' (by rw [List.length_cons] at h; omega)
  rw [List.length_append,List.length_singleton] at this
  rw [this]
  simp
theorem Znq {te:TE} {i base:Nat} {nx bk ct:Evt->Prop} {rt:D->Evt->Prop} {ro:OD->Evt->Prop}
  (h:JN K te Δ fun ods Δ1=>i < base/\base + ods.length <= Δ1.length/\∀ as:List Addr,as.length=ods.length->as.Nodup->nx (L2.putN base (as.zip ods) (Δ1.set i (.val (.lst (as.map D.adr)))))) :
  JS K (tGhost base (tAsg te (gName i))) Δ ⟨nx,rt,bk,ct,ro⟩:=fun g G H σ E k c=>
 h g G H σ _ k fun acc cs ods G1 H1 Δ1 k1 s1 rr _ nn hq_=>by
  obtain ⟨hi,hb,p⟩:=hq_
  have hl:cs.length=ods.length:=Paired.length nn.2.1
  have e0:(cs.map fun c=>D.adr c.1)=(cs.map (·.1)).map D.adr:=by rw [List.map_map]; rfl
  have k2:=k1.setVal' i rr
  have n2:Nest K g G1 H1 (σ.set i (some (.ref acc))) (Δ1.set i (.val (.lst (cs.map fun c=>D.adr c.1)))) cs ods:=by
   obtain ⟨nd,pr,al⟩:=nn
   refine ⟨nd,pr,fun d hd=>?_⟩
   obtain ⟨f1,f2,f3,f4,f5⟩:=al d hd
   refine ⟨f1,f2,f3,f4,fun j x od' e1 e2=>?_⟩
   by_cases hj:j=i
   ·subst hj
    by_cases hlt:j < Δ1.length
    ·rw [List.getElem?_set_self hlt] at e1; cases e1; cases e2
    ·rw [List.getElem?_eq_none (by rw [List.length_set]; omega)] at e1; cases e1
   ·rw [List.getElem?_set_ne (Ne.symm hj)] at e1 ⊢
    exact f5 j x od' e1 e2
  have k3:=Ok.putN cs ods base _ _ k2 (by rw [List.length_set]; exact hb) n2
  refine ⟨putS base (cs.map (·.1)) (σ.set i (some (.ref acc))),Zh1 _ _ _,fun j hj=>Zfd _ _ _ j hj,?_⟩
  rw [e0] at k3
  exact c.nx _ G1 H1 _ k3 (p (cs.map (·.1)) (by rw [List.length_map,hl]) nn.1)
theorem Zky {n j:Nat} {a:Addr} {ds:List D} {P:D->Evt->Prop} (hx:Δ[n]? = some (.val (.adr a))) (hj:Δ[j]? = some (.ownA a (.lst ds))) (p:P (.int ds.length) Δ):JE K (tCB (rLenU K) (tCons (tVar n) tNil)) Δ P:=fun g G H σ Q k c=>by
 obtain ⟨v,h1,h2⟩:=k.val n _ hx
 cases h2
 obtain ⟨a',o,w1,w2,w3,w4,w5⟩:=k.own j _ _ hj rfl
 obtain ⟨rfl,_⟩:=w5
 cases o with
 | lst vs=>
  have w3:Reps K G vs ds:=w3
  refine ⟨_,h1,.inl ⟨_,vs,rfl,.inl (SqL.of w2),?_⟩⟩
  rw [w3.length]; exact c _ _ G H Δ k (Same.refl _) (.int _) p
 | _=>exact absurd w3 (fun z=>z)
theorem Znf {n:Nat} {t1 t2:TE} {a:Addr} {j0:Nat} {ds0:List D} {nx bk ct:Evt->Prop} {rt:D->Evt->Prop} {ro:OD->Evt->Prop} (hx:Δ[n]? = some (.val (.adr a))) (hj0:Δ[j0]? = some (.ownA a (.lst ds0)))
  (h:JE K t1 Δ fun e1 Δ1=>JE K t2 Δ1 fun e2 Δ2=>∃ j i ds,e1=.int i /\ Δ2[j]? = some (.ownA a (.lst ds))/\ds.length < sizeLine /\ -(2 ^ 62)<=i/\i < 2 ^ 62/\nx (Δ2.set j (.ownA a (.lst (ds.take (insI ds.length i) ++ e2 :: ds.drop (insI ds.length i)))))) :
  JS K (tDrop (tBM K "list" rInsert (tVar n) (tCons t1 (tCons t2 tNil)))) Δ ⟨nx,rt,bk,ct,ro⟩:=fun g G H σ E k c=>by
 obtain ⟨v,h1,h2⟩:=k.val n _ hx
 cases h2
 obtain ⟨a',o,w1,w2,w3,w4,w5⟩:=k.own j0 _ _ hj0 rfl
 obtain ⟨rfl,_⟩:=w5
 cases o with
 | lst vs0=>
  refine ⟨_,h1,.inl ⟨rfl,_,SqL.of w2⟩,h g G H σ _ k fun v1 e1 G1 H1 Δ1 k1 s1 r1 p1=>p1 g G1 H1 σ _ k1 fun v2 e2 G2 H2 Δ2 k2 s2 r2 ⟨j,i,ds,q1,q2,q3,q4,q5,p⟩=>?_⟩
  subst q1
  cases r1.inv
  obtain ⟨a2,o2,u1,u2,u3,u4,u5⟩:=k2.own j _ _ q2 rfl
  obtain ⟨rfl,_⟩:=u5
  cases o2 with
  | lst vs=>
   have u3:Reps K G2 vs ds:=u3
   refine ⟨_,vs,i,v2,rfl,rfl,u2,by rw [u3.length]; exact q3,q4,q5,?_⟩
   have k3:=k2.write q2 rfl u1 (show OwnRep K G2 (.lst (vs.take (insI vs.length i) ++ v2 :: vs.drop (insI vs.length i))) (.lst (ds.take (insI ds.length i) ++ e2 :: ds.drop (insI ds.length i))) from by
    rw [u3.length]; exact (u3.take _).append (.cons r2 (u3.drop _)))
   exact c.nx σ G2 _ _ k3 p
  | _=>exact absurd u3 (fun z=>z)
 | _=>exact absurd w3 (fun z=>z)
theorem JS.conv {t:TS} {Δ':Evt} {P:Pst} (hc:∀ g G H σ,Ok K g G H σ Δ -> ∃ G',Same G G' /\ Ok K g G' H σ Δ') (h:JS K t Δ' P):JS K t Δ P:=fun g G H σ E k c=>by
 obtain ⟨G',s,k'⟩:=hc g G H σ k
 exact h g G' H σ E k' c
theorem Ok.freezeA {g:Gm} {G H:Hp} {σ:St} (k:Ok K g G H σ Δ) {i:Nat} {a:Addr} {ds:List D} (h:Δ[i]? = some (.ownA a (.lst ds))):∃ G',Same G G' /\ Ok K g G' H σ (Δ.set i .any)/\Rep K G' (.ref a) (.lst ds):=by
 obtain ⟨a',o,w1,w2,w3,w4,w5⟩:=k.own i _ _ h rfl
 obtain ⟨rfl,w6⟩:=w5
 cases o with
 | lst vs=>
  have pd:Pend K g G H σ (Δ.set i .any) a (.lst ds):=by
   refine ⟨.lst vs,w2,w3,w4,w6,?_,fun j x od' e1 e2 e3=>?_⟩
   ·cases q:g.Xo a with
    | none=>rfl
    | some u=>exact absurd w1 ((k.ext a u q).2.2 i _ _ h rfl)
   ·by_cases hj:j=i
    ·subst hj
     rw [List.getElem?_set] at e1
     simp at e1
     obtain ⟨_,e1⟩:=e1
     subst e1
     cases e2
    ·rw [List.getElem?_set_ne (Ne.symm hj)] at e1
     exact hj (k.dis j i x _ od' _ a e1 e2 h rfl e3 w1)
  obtain ⟨k2,sg,r⟩:=(k.drop i).freeze pd w2
  exact ⟨_,sg,k2,r⟩
 | _=>exact absurd w3 (fun z=>z)
theorem Ok.freezeN {g:Gm} {H:Hp} {σ:St}:∀ (cs:List (Addr × List D)) (R T:Evt) (G:Hp),Ok K g G H σ (R ++ cs.map (fun c=>Slot.ownA c.1 (.lst c.2)) ++ T) →
  ∃ G',Same G G' /\ Ok K g G' H σ (R ++ List.replicate cs.length .any ++ T)/\∀ c ∈ cs,Rep K G' (.ref c.1) (.lst c.2)
 | [],R,T,G,k=>⟨G,Same.refl _,by simpa using k,fun c hc=>nomatch hc⟩
 | c :: r,R,T,G,k=>by
  have hi:(R ++ (c :: r).map (fun c=>Slot.ownA c.1 (.lst c.2)) ++ T)[R.length]? = some (.ownA c.1 (.lst c.2)):=by simp
  obtain ⟨G1,s1,k1,r1⟩:=k.freezeA hi
  have e:(R ++ (c :: r).map (fun c=>Slot.ownA c.1 (.lst c.2)) ++ T).set R.length .any=(R ++ [.any]) ++ r.map (fun c=>Slot.ownA c.1 (.lst c.2)) ++ T:=by
   simp [List.set_append_right]
  rw [e] at k1
  obtain ⟨G2,s2,k2,r2⟩:=Ok.freezeN r (R ++ [.any]) T G1 k1
  refine ⟨G2,s1.trans s2,?_,fun d hd=>?_⟩
  ·have e2:(R ++ [Slot.any]) ++ List.replicate r.length Slot.any ++ T=R ++ List.replicate (c :: r).length Slot.any ++ T:=by
    rw [List.length_cons,List.replicate_succ]; simp
   rw [e2] at k2; exact k2
  ·rcases List.mem_cons.mp hd with e | hd
   ·subst e; exact r1.mono s2
   ·exact r2 d hd
theorem Ok.thaw {g:Gm} {G H:Hp} {σ:St} {cs:List (Addr × List D)} {R T:Evt} {i:Nat} (k:Ok K g G H σ (R ++ cs.map (fun c=>Slot.ownA c.1 (.lst c.2)) ++ T)) (hi:R[i]? = some (.val (.lst (cs.map fun c=>D.adr c.1)))) :
  ∃ G',Same G G' /\ Ok K g G' H σ (R.set i (.val (.lst (cs.map fun c=>D.lst c.2))) ++ List.replicate cs.length .any ++ T):=by
 have hlt:i < R.length:=(List.getElem?_eq_some_iff.mp hi).1
 obtain ⟨v,h1,h2⟩:=k.val i _ (by rw [List.append_assoc,List.getElem?_append_left hlt]; exact hi)
 obtain ⟨G1,s1,k1,r1⟩:=Ok.freezeN cs R T G k
 refine ⟨G1,s1,?_⟩
 have rr:Rep K G1 v (.lst (cs.map fun c=>D.lst c.2)):=by
  cases h2 with
  | lst ha rs=>
   refine .lst (s1 _ _ ha) ?_
   have key:∀ (l:List (Addr × List D)) (vs:List V),(∀ c ∈ l,Rep K G1 (.ref c.1) (.lst c.2))->Reps K G vs (l.map fun c=>D.adr c.1)->Reps K G1 vs (l.map fun c=>D.lst c.2):=by
    intro l
    induction l with
    | nil=>intro vs _ h; cases h; exact .nil
    | cons c r ih=>
     intro vs hc h
     cases h with
     | cons h1 h2=>
      cases h1
      exact .cons (hc c List.mem_cons_self) (ih _ (fun d hd=>hc d (List.mem_cons_of_mem _ hd)) h2)
   exact key cs _ r1 rs
 have k2:=k1.setVal' i rr
 have e1:σ.set i (some v) = σ:=by
  apply List.ext_getElem?
  intro j
  by_cases hj:j=i
  ·subst hj; rw [List.getElem?_set_self (by obtain ⟨z,_⟩:=List.getElem?_eq_some_iff.mp h1; exact z),h1]
  ·rw [List.getElem?_set_ne (Ne.symm hj)]
 rw [e1] at k2
 have e2:(R ++ List.replicate cs.length Slot.any ++ T).set i (.val (.lst (cs.map fun c=>D.lst c.2)))=R.set i (.val (.lst (cs.map fun c=>D.lst c.2))) ++ List.replicate cs.length Slot.any ++ T:=by
  rw [List.append_assoc,List.append_assoc,List.set_append_left _ _ hlt]
 rw [e2] at k2
 exact k2
end
end L2
set_option Elab.async false
set_option linter.all false
set_option maxRecDepth 100000
namespace L2
open PySem PySem.Spec PyProof.Rows
section
variable {X:Cx} (K:PySem.W.Frag)
theorem ixK (hu:X.A.units + 1 < cLine) (hK:X.K=K:=by rfl):IxR X (rIxU K):=hK ▸ ixU hu
theorem slK (hK:X.K=K:=by rfl):SlR X (rSlU K):=hK ▸ slU
theorem addK (hK:X.K=K:=by rfl):OpR X (binaryOp .Add) (rAddU K):=hK ▸ Znk
theorem lenK (hK:X.K=K:=by rfl):CallR X (.builtin "len") (rLenU K):=hK ▸ Zjl
def rTup (K:PySem.W.Frag):List V->Hp->VK->Prop:=fun xs H Q=>∃ p ys,xs=[.ref p]/\((SqL K H p ys/\∀ l,H l=none->Q (.ref l) (upd H l (.tup ys)))\/(SqT K H p ys/\Q (.ref p) H))
theorem tupK (hK:X.K=K:=by rfl):CallR X (.type "tuple") (rTup K):=hK ▸ Zfy
def rLst (K:PySem.W.Frag):List V->Hp->VK->Prop:=fun xs H Q=>∃ p ys,xs=[.ref p]/\(SqL K H p ys\/SqT K H p ys)/\∀ l,H l=none->Q (.ref l) (upd H l (.lst ys))
theorem lstK (hK:X.K=K:=by rfl):CallR X (.type "list") (rLst K):=hK ▸ Zgt
theorem idxK (hK:X.K=K:=by rfl):MtM X "tuple.index" (rIndexT K):=hK ▸ Ze8
theorem seqK {tg l:Expr} {tl:TE} (hl:PE X l tl) (hK:X.K=K:=by rfl):PI X tg l (iSeq K tl):=hK ▸ Zo7 hl
theorem truK {a:Expr} {ta:TE} (ha:PE X a ta) (he:∀ whole,isTrue a X.env whole=(do let v ← whole; standAt a.pos; holding [v] (truthy v))) (hK:X.K=K:=by rfl):PT X a (tTru K ta):=hK ▸ Zpx ha he
theorem gtupK {es:List Expr} {k:Nat} {t:TGs} {n:Nat} {pos:Pos} (hc:X.calm=true) (h:PGs X es t)
  (hn:(assignEach es X.env).length=n:=by rfl) (hst:(assignEach es X.env).findIdx? (·.1)=none:=by rfl) (hK:X.K=K:=by rfl):PG X (.Tuple es k pos) (gTup K n t):=hK ▸ Zoj hc h hn hst
variable {o e:Expr} {es:List Expr} {to:TE} {t:TA} {name:Str} {apos cpos:Pos} {T id:String} {r:V->List V->Hp->VK->Prop}
theorem bmK (pa:PlainAttrs T) (slot:PySem.Slot T name id) (hty:typeOf (.builtin id)=pure (.type "method_descriptor")) (hm:MtR X id r) (ho:PE X o to) (ha:PA X (e :: es) t)
  (hbase:attributeBase o name X.env (eval o X.env)=eval o X.env:=by rfl)
  (hfew:((backTo cpos (starEach (e :: es) X.env)).all (fun x=>!x.1) && (backToKw cpos (keywordEach [] X.env)).all (fun x=>x.1.isSome)
   && decide ((e :: es).length + ([]:List Keyword).length + (if ([]:List Keyword).isEmpty then 0 else 1) < 30))=true:=by rfl)
  (hline:(apos.endLine == cpos.line)=true:=by rfl) (hs:starEach (e :: es) X.env=(false,eval e X.env) :: starEach es X.env:=by rfl) (hplain:(backTo cpos (starEach es X.env)).any (·.1)=false:=by rfl) (hK:X.K=K:=by rfl) :
  PE X (.Call (.Attribute o name apos) (e :: es) [] cpos) (tBM K T r to t):=hK ▸ Zqx pa slot hty hm ho ha hbase hfew hline hs hplain
end
section
variable {K:PySem.W.Frag} {Δ:Evt} {P:D->Evt->Prop}
theorem Zcu {ds es:List D} (he:ds=[.lst es]\/ds=[.tup es]) (p:P (.tup es) Δ):JC K (rTup K) ds Δ P:=Zl8 he p
theorem Zmr {ds es:List D} (he:ds=[.lst es]\/ds=[.tup es]) (p:P (.lst es) Δ):JC K (rLst K) ds Δ P:=fun g G H σ Q vs k rs c=>by
 rcases he with he | he <;> subst he
 ·obtain ⟨_,_,rfl,r,t⟩:=rs.inv
  next=>
   cases t.inv
   obtain ⟨_,_,rfl,ha,rs⟩:=r.inv
   next=>
    refine ⟨_,_,rfl,.inl (SqL.of (k.live _ _ ha)),fun l hl=>?_⟩
    obtain ⟨k2,sg⟩:=k.laid hl (.lst _)
    exact c _ _ _ _ Δ k2 sg (.lst Zat (rs.mono sg)) p
 ·obtain ⟨_,_,rfl,r,t⟩:=rs.inv
  next=>
   cases t.inv
   obtain ⟨_,_,rfl,ha,rs⟩:=r.inv
   next=>
    refine ⟨_,_,rfl,.inr (SqT.of (k.live _ _ ha)),fun l hl=>?_⟩
    obtain ⟨k2,sg⟩:=k.laid hl (.lst _)
    exact c _ _ _ _ Δ k2 sg (.lst Zat (rs.mono sg)) p
theorem Zlu {sel:List Nat} {wi:TI} {tc:TT} {te:TE} {Po:List OD->Evt->Prop} (hsel:sel.Nodup)
  (h:JI K wi Δ fun ds Δ1=>ds.length < sizeLine/\∃ (p:D->Bool) (f:D->OD),
   (∀ (i:Nat) d,ds[i]? = some d->JT K tc (.val d :: fixD sel Δ1) fun b Δ4=>b=p d/\if b=true then JO K te Δ4 fun e Δ5=>e=f d/\∃ x,Δ5=x :: fixD sel Δ1 else ∃ x,Δ4=x :: fixD sel Δ1) ∧
   Po ((ds.filter p).map f) Δ1):JN K (tComp 1 sel wi (gName 0) tc te) Δ Po:=by
 refine Zm8 hsel fun g G H σ R k c=>h g G H σ R k fun J ds G' H' Δ' k' s' it ⟨z,p,f,ht,he⟩=>c J ds G' H' Δ' k' s' it ⟨z,fun i ys Δ=>ys=((ds.take i).filter p).map f/\∃ x,Δ = x :: fixD sel Δ',⟨by simp,.any,rfl⟩,?_,?_⟩
 ·rintro i d ys Δ2 hd ⟨rfl,x,rfl⟩
  have tk:ds.take (i + 1)=ds.take i ++ [d]:=by
   rw [List.take_add_one,hd]; rfl
  refine Zds (by decide) ?_
  intro g G H σ Q k c
  refine ht i d hd g G H σ Q k fun b G1 H1 Δ1 k1 s1 ⟨e1,q⟩=>c b G1 H1 Δ1 k1 s1 ?_
  cases b with
  | true=>
   rw [if_pos rfl] at q ⊢
   intro g G H σ Q k c
   refine q g G H σ Q k fun a od G2 H2 Δ2 k2 s2 pd ⟨e2,x,e3⟩=>c a od G2 H2 Δ2 k2 s2 pd ⟨?_,x,e3⟩
   rw [tk,List.filter_append,List.map_append,List.filter_cons,<- e1,e2]
   rfl
  | false=>
   rw [if_neg Bool.false_ne_true] at q ⊢
   obtain ⟨x,e3⟩:=q
   refine ⟨?_,x,e3⟩
   rw [tk,List.filter_append,List.map_append,List.filter_cons,<- e1]
   simp
 ·rintro ys Δ2 ⟨rfl,x,rfl⟩
  rw [List.take_length,show (x :: fixD sel Δ')=[x] ++ fixD sel Δ' from rfl,Zcv (by simp)]
  exact he
end
end L2
set_option Elab.async false
set_option linter.all false
set_option maxRecDepth 100000
namespace L2
open PySem PySem.Spec PyProof.Rows
def fLaw:DSp:=fun ds Post=>∃ ns:List Int,ds=[.scr (ns.map .int)]/\ns.length<=63/\Post (.bl true)
def spLaw (K:PySem.W.Frag):Sp:=fun vs H Q _=>∃ (a:Addr) (ns:List Int),vs=[.ref a]/\SqL K H a (ns.map V.int)/\ns.length<=63/\∀ H',Q (.bl true) H'
theorem Zlc {K:PySem.W.Frag} {vs:List V} {H:Hp} {Q:VK} {E:XK} (h:spLaw K vs H Q E):spD K fLaw vs H Q E:=by
 obtain ⟨a,ns,rfl,hs,hl,q⟩:=h
 refine ⟨H,[.scr (ns.map .int)],fun d=>d=.bl true,Same.refl _,.cons (.scr hs (Reps.ofInts ns)) .nil,⟨ns,rfl,hl,rfl⟩,fun r H' d sh rr e=>?_⟩
 subst e
 cases rr.inv
 exact q H'
theorem walk_law {l:PySem.W.OpenLaw} {q:Program} {loose:List Str} {XP:(Str->Option Value)->Heap->Prop} {YP:World->Heap->Prop} {d:DefRec} {K:Params->PySem.W.Frag} {k:Nat} {x:Str} (hk:Room k callerA) (hn:l.most=some 63) (hdf:d.params.defaults=[])
  (hY:∀ (w:World) (h:Heap),YP w h->(K w.params).In h)
  (F:∀ (w:World) (mg:Str->Option Value) (fa:Addr) (h:Heap),(K w.params).In h->h.Ns mainGlobals mg->mg d.name=some (.ref fa) →
   ∃ fd:FuncData,(∀ (s:Shared) (u:Value),BindsTo s fd ⟨[u],[]⟩ [(x,u)])/\∀ base:Heap,(K w.params).In base->base.Ns mainGlobals mg->FnOk l.prog w (K w.params) mg base CX0 k fa fd [x] (spD (K w.params) fLaw)) :
  PySem.W.WalkO q loose XP YP l.row.toRowW d [] (fun f vs=>PySem.call f vs):=
 L2.walk_of (n:=63) (k:=k) (x:=x) (CX:=fun _=>CX0) (sp:=fun w=>spLaw (K w.params)) hn (by decide) hdf hk hY
  (fun w mg fa h h1 h2 h3=>by
   obtain ⟨fd,b,f⟩:=F w mg fa h h1 h2 h3
   exact ⟨fd,b,fun base kb nb=>(f base kb nb).imp fun vs H Q E z=>Zlc z⟩)
  (fun _ _ a ns hl _ hS=>⟨a,ns,rfl,hS,hl,fun _=>rfl⟩) fun _ _ _ _ _ z=>z
end L2
set_option Elab.async false
set_option linter.all false
set_option maxRecDepth 100000
namespace L2
open PySem PySem.Spec PyProof.Rows
def SqB (b:Bool) (K:PySem.W.Frag) (H:Hp) (a:Addr) (xs:List V):Prop:=match b with | true=>SqT K H a xs | false=>SqL K H a xs
def ItB (b:Bool) (h:Heap) (j a:Addr) (i:Nat):Prop:=match b with | true=>h.IsTupleIter j a i | false=>h.IsListIter j a i
def HsB (b:Bool) (h:Heap) (a:Addr) (ws:Array Value):Prop:=match b with | true=>h.IsTuple a ws | false=>h.IsList a ws
theorem ItB.at {b:Bool} {h h':Heap} {j a:Addr} {i:Nat} (x:ItB b h j a i) (e:∀ o,h.get? j=some o->h'.get? j=some o):ItB b h' j a i:=by
 cases b
 ·exact Heap.IsListIter.at (show h.IsListIter j a i from x) e
 ·exact Heap.IsTupleIter.at (show h.IsTupleIter j a i from x) e
theorem ItB.off {b:Bool} {h h':Heap} {j a c:Addr} {i:Nat} (x:ItB b h j a i) (e:Heap.ExtBut c h h') (n:j ≠ c):ItB b h' j a i:=x.at fun o q=>e j o n q
theorem ItB.obj {b:Bool} {h:Heap} {j a:Addr} {i:Nat} (x:ItB b h j a i):∃ o,h.get? j=some o/\o.data=.fields #[.ref a,.int i 0]:=by
 cases b <;> (obtain ⟨o,e,_,d⟩:=x; exact ⟨o,e,d⟩)
theorem HsB.off {b:Bool} {h h':Heap} {a c:Addr} {ws:Array Value} (x:HsB b h a ws) (e:Heap.ExtBut c h h') (n:a ≠ c):HsB b h' a ws:=by
 cases b <;> (obtain ⟨o,q,r⟩:=x; exact ⟨o,e a o n q,r⟩)
theorem HsB.lt {b:Bool} {h:Heap} {a:Addr} {ws:Array Value} (x:HsB b h a ws):a < h.objs.size:=by
 cases b <;> (obtain ⟨o,q,r⟩:=x; exact Heap.lt_size q)
theorem Inv.seqB {X:Cx} {pins:List (Addr × Obj)} {σ:St} {H:Hp} {s:Shared} {b:Bool} {a:Addr} {xs:List V} (I:Inv X pins σ H s) (h:SqB b X.K H a xs):∃ its:List Value,Vals xs its/\HsB b s.heap a its.toArray:=by
 cases b
 ·obtain ⟨its,r,p,_⟩:=I.list h
  exact ⟨its,r,p.isList⟩
 ·obtain ⟨its,r,p,_⟩:=I.tuple h
  exact ⟨its,r,p⟩
theorem Inv.seqB_inj {X:Cx} {pins:List (Addr × Obj)} {σ:St} {H:Hp} {s:Shared} {b:Bool} {a:Addr} {xs ys:List V} (I:Inv X pins σ H s) (h:SqB b X.K H a xs) (h':SqB b X.K H a ys):xs=ys:=by
 cases b
 ·exact I.list_inj h h'
 ·exact I.tuple_inj h h'
section
variable {prog:Program} {w:World} {A:Around} {E:Value->Shared->Prop} {s:Shared}
theorem Zfv {b:Bool} {j a:Addr} {i:Nat} {ws:Array Value} {x:Value} {Q:Value->Shared->Prop} (g:ItB b s.heap j a i) (l:HsB b s.heap a ws) (e:ws[i]? = some x)
  (q:∀ h',ItB b h' j a (i + 1)->Heap.SameBut j s.heap h' -> Q x { s with heap:=h' }):wpAny (model prog w) A (Builtin.SmallTypes.nextOf (.ref j)) Q E s:=by
 cases b
 ·exact wpAny_nextOf_list_item g l e q
 ·obtain ⟨o,g1,g2,g3⟩:=id g
  obtain ⟨u,l1,_,n,l2⟩:=l
  have ty:s.TypeIs (.ref j) "tuple_iterator":=⟨o,g1,g2⟩
  unfold Builtin.SmallTypes.nextOf
  refine wpAny_bind (wpAny_callSpecial?_slot (name:=Str.ofString "__next__") ty F.slot_tuple_iterator_next (wpAny_call_entry F.slot_tuple_iterator_next ty F.entry_tuple_iterator_next ?_ (F.args_tuple_iterator_next_1 _)))
  refine (show wpAny _ _ (field (.ref j) 0 >>= _) _ _ s from wpAny_bind (wpAny_field g1 g3 (x:=.ref a) rfl ?_))
  refine (show wpAny _ _ (if (Value.ref a == Value.none)=true then _ else _) _ _ s from ?_)
  rw [if_neg (by exact Bool.false_ne_true)]
  refine (show wpAny _ _ (field (.ref j) 1 >>= _) _ _ s from wpAny_bind (wpAny_field g1 g3 (x:=.int i 0) rfl ?_))
  refine (show wpAny _ _ (seqItems? (.ref a) >>= _) _ _ s from wpAny_bind (wpAny_seqItems l1 l2 ?_))
  simp only [Int.toNat_natCast,e]
  refine wpAny_bind (wpAny_setField g1 g3 (by simp) (wpAny_pure ⟨x,rfl,wpAny_pure (q _ ⟨_,Heap.get?_update_self _ g1 (Obj.isFreed_of_fields (Obj.data_mapFields g3 _)),(Obj.cls_mapFields ..).trans g2,?_⟩ (Heap.SameBut.update ..))⟩))
  rw [Obj.data_mapFields g3]; simp [rawInt]
theorem Zjx {b:Bool} {j a:Addr} {i:Nat} {ws:Array Value} {Q:Value->Shared->Prop} (hh:A.handled=none) (g:ItB b s.heap j a i) (l:HsB b s.heap a ws) (e:ws[i]? = none)
  (q:∀ h' x,Heap.ExtBut j s.heap h' -> (∃ o,h'.get? x=some o/\o.cls=.type "StopIteration")->E (.ref x) { s with heap:=h' }):wpAny (model prog w) A (Builtin.SmallTypes.nextOf (.ref j)) Q E s:=by
 cases b
 ·exact wpAny_nextOf_list_end hh g l e q
 ·obtain ⟨o,g1,g2,g3⟩:=id g
  obtain ⟨u,l1,_,n,l2⟩:=l
  have ty:s.TypeIs (.ref j) "tuple_iterator":=⟨o,g1,g2⟩
  unfold Builtin.SmallTypes.nextOf
  refine wpAny_bind (wpAny_callSpecial?_slot (name:=Str.ofString "__next__") ty F.slot_tuple_iterator_next (wpAny_call_entry F.slot_tuple_iterator_next ty F.entry_tuple_iterator_next ?_ (F.args_tuple_iterator_next_1 _)))
  refine (show wpAny _ _ (field (.ref j) 0 >>= _) _ _ s from wpAny_bind (wpAny_field g1 g3 (x:=.ref a) rfl ?_))
  refine (show wpAny _ _ (if (Value.ref a == Value.none)=true then _ else _) _ _ s from ?_)
  rw [if_neg (by exact Bool.false_ne_true)]
  refine (show wpAny _ _ (field (.ref j) 1 >>= _) _ _ s from wpAny_bind (wpAny_field g1 g3 (x:=.int i 0) rfl ?_))
  refine (show wpAny _ _ (seqItems? (.ref a) >>= _) _ _ s from wpAny_bind (wpAny_seqItems l1 l2 ?_))
  simp only [Int.toNat_natCast,e]
  refine wpAny_bind (wpAny_rule (wpAny_bind (wpAny_setField g1 g3 (by simp) (show wpAny _ _ (newExc (.type "StopIteration") [] >>= _) _ _ _ from wpAny_bind ?_))))
  simp only [newExc,newTuple]
  refine wpAny_bind (wpAny_newObj_type (wpAny_bind (m:=firstArgMember _ _) (wpAny_of_eq (a:=Value.none) (by first | rfl | (simp only [firstArgMember]; rfl)) (wpAny_newObj_type ?_ (by size_fits)))) (by size_fits))
  simp only [raiseNew]
  refine wpAny_bind (wpAny_handled ?_)
  first | rw [show A.in1.handled=none from hh] | rw [hh]
  exact wpAny_bind (wpAny_pure (wpAny_throw (q _ _ (((Heap.SameBut.update ..).extBut.push _).push _) ⟨_,Heap.get?_push_size _ rfl,rfl⟩)))
theorem Zob {b c:Bool} {z U O j1 j2 a1 a2:Addr} {k1 k2:Nat} {vs us:Array Value} {x y p r:Value} {Q:Option Value->Shared->Prop} (D:ZipApart z U O j1 j2 a1 a2)
  (gz:IsZip s.heap z U O .none) (gU:IsPair s.heap U (.ref j1) (.ref j2)) (gO:IsPair s.heap O p r) (g1:ItB b s.heap j1 a1 k1) (g2:ItB c s.heap j2 a2 k2) (l1:HsB b s.heap a1 vs) (l2:HsB c s.heap a2 us) (ex:vs[k1]? = some x) (ey:us[k2]? = some y)
  (q:∀ h',IsZip h' z U O (rawInt s.heap.objs.size)->IsPair h' O x y->ItB b h' j1 a1 (k1 + 1)->ItB c h' j2 a2 (k2 + 1)->IsPair h' s.heap.objs.size x y->h'.objs.size=s.heap.objs.size + 1 →
   (∀ d o,d ≠ z->d ≠ O->d ≠ j1->d ≠ j2->s.heap.get? d=some o->h'.get? d=some o)->Q (some (.ref s.heap.objs.size)) { s with heap:=h' }):wpAny (model prog w) A (pyNext (.ref z)) Q E s:=by
 have ty:s.TypeIs (.ref z) "zip":=⟨_,gz,rfl⟩
 unfold pyNext
 refine wpAny_bind (wpAny_attempt (wpAny_callSpecial?_slot (name:=Str.ofString "__next__") ty F.slot_zip_next (wpAny_call_entry F.slot_zip_next ty F.entry_zip_next ?_ (F.args_zip_next_1 _))))
 refine (show wpAny _ _ (field (.ref z) 2 >>= _) _ _ _ from wpAny_bind (wpAny_field gz rfl (x:=.bool false) rfl ?_))
 refine (show wpAny _ _ (field (.ref z) 3 >>= _) _ _ _ from wpAny_bind (wpAny_field gz rfl (x:=.ref U) rfl (wpAny_bind (wpAny_seqItems gU rfl ?_))))
 refine (show wpAny _ _ (Builtin.SmallTypes.ownedTupleIsFree (.ref z) >>= _) _ _ _ from wpAny_bind ?_)
 unfold Builtin.SmallTypes.ownedTupleIsFree
 refine wpAny_bind (wpAny_field gz rfl (x:=.none) rfl (wpAny_pure ?_))
 simp only [if_true]
 refine wpAny_bind (wpAny_rule (wpAny_bind (wpAny_field gz rfl (x:=.ref O) rfl (wpAny_bind (wpAny_setField_rec gz (by simp) fun h₁ z₁ s₁=>wpAny_bind ?_)))))
 replace z₁:IsZip h₁ z U O .ellipsis:=z₁
 simp only [List.zipIdx_cons,List.zipIdx_nil,List.forIn_cons,List.forIn_nil]
 refine wpAny_bind (wpAny_bind (wpAny_onRaise (show wpAny _ _ (Builtin.SmallTypes.nextOf (.ref j1) >>= _) _ _ _ from wpAny_bind (Zfv (g1.off s₁.extBut D.i1z) (l1.off s₁.extBut D.l1z) ex fun h₂ g₂ s₂=>wpAny_pure ?_))))
 have o₂:IsPair h₂ O p r:=s₂.extBut _ _ D.TOi1 (s₁.extBut _ _ D.TOz gO)
 refine wpAny_bind (wpAny_seqItems o₂ rfl (wpAny_bind (wpAny_updateSeq_pair o₂ fun h₃ o₃ s₃=>wpAny_bind (wpAny_letGo (wpAny_pure ?_)))))
 replace o₃:IsPair h₃ O x r:=o₃
 refine wpAny_bind (wpAny_bind (wpAny_onRaise (show wpAny _ _ (Builtin.SmallTypes.nextOf (.ref j2) >>= _) _ _ _ from wpAny_bind (Zfv (((g2.off s₁.extBut D.i2z).off s₂.extBut D.i12.symm).off s₃.extBut D.TOi2.symm) (((l2.off s₁.extBut D.l2z).off s₂.extBut D.l2i1).off s₃.extBut D.l2TO) ey fun h₄ g₄ s₄=>wpAny_pure ?_))))
 have o₄:IsPair h₄ O x r:=s₄.extBut _ _ D.TOi2 o₃
 refine wpAny_bind (wpAny_seqItems o₄ rfl (wpAny_bind (wpAny_updateSeq_pair o₄ fun h₅ o₅ s₅=>wpAny_bind (wpAny_letGo (wpAny_pure (wpAny_pure ?_))))))
 replace o₅:IsPair h₅ O x y:=o₅
 refine wpAny_bind (wpAny_seqItems o₅ rfl (wpAny_bind (wpAny_newTuple ?_)))
 have n5:h₅.objs.size=s.heap.objs.size:=by rw [s₅.1,s₄.1,s₃.1,s₂.1,s₁.1]
 have z₅:IsZip h₅ z U O .ellipsis:=s₅.extBut _ _ D.TOz.symm (s₄.extBut _ _ D.i2z.symm (s₃.extBut _ _ D.TOz.symm (s₂.extBut _ _ D.i1z.symm z₁)))
 have old:∀ d o,d ≠ z->d ≠ O->d ≠ j1->d ≠ j2->s.heap.get? d=some o->h₅.get? d=some o:=fun d o c1 c2 c3 c4 e=>s₅.extBut _ _ c2 (s₄.extBut _ _ c4 (s₃.extBut _ _ c2 (s₂.extBut _ _ c3 (s₁.extBut _ _ c1 e))))
 have t1:ItB b h₅ j1 a1 (k1 + 1):=((g₂.off s₃.extBut D.TOi1.symm).off s₄.extBut D.i12).off s₅.extBut D.TOi1.symm
 have t2:ItB c h₅ j2 a2 (k2 + 1):=g₄.off s₅.extBut D.TOi2.symm
 have zl:z < h₅.objs.size:=Heap.lt_size z₅
 refine (show wpAny _ _ (Builtin.SmallTypes.ownedTupleHandOut (.ref z) (.ref h₅.objs.size) >>= _) _ _ _ from wpAny_bind ?_)
 unfold Builtin.SmallTypes.ownedTupleHandOut
 have z₆:IsZip (h₅.push { cls:=.type "tuple",data:=.seq #[x,y] }) z U O .ellipsis:=Heap.get?_push_of_some _ z₅
 refine wpAny_bind (wpAny_setField_rec z₆ (by simp) fun h₇ z₇ s₇=>?_)
 replace z₇:IsZip h₇ z U O (rawInt h₅.objs.size):=z₇
 refine wpAny_setField_rec z₇ (by simp) fun h₈ z₈ s₈=>?_
 replace z₈:IsZip h₈ z U O (rawInt h₅.objs.size):=z₈
 have up:∀ d o,d ≠ z->h₅.get? d=some o->h₈.get? d=some o:=fun d o c1 e=>s₈.extBut _ _ c1 (s₇.extBut _ _ c1 (Heap.get?_push_of_some _ e))
 have new8:IsPair h₈ h₅.objs.size x y:=s₈.extBut _ _ (Nat.ne_of_gt zl) (s₇.extBut _ _ (Nat.ne_of_gt zl) (Heap.get?_push_size _ rfl))
 have n8:h₈.objs.size=h₅.objs.size + 1:=by rw [s₈.1,s₇.1,Heap.size_push]
 rw [n5] at z₈ new8 n8
 refine wpAny_pure ⟨_,rfl,wpAny_pure ?_⟩
 refine (show Q (some (.ref h₅.objs.size)) _ from ?_)
 rw [n5]
 exact q h₈ z₈ (up _ _ D.TOz o₅) (t1.at fun o e=>up _ o D.i1z e) (t2.at fun o e=>up _ o D.i2z e) new8 n8 fun d o c1 c2 c3 c4 e=>up d o c1 (old d o c1 c2 c3 c4 e)
theorem Zo0 {b c:Bool} {z U O j1 j2 a1 a2:Addr} {k1 k2:Nat} {vs us:Array Value} {p r:Value} {Q:Option Value->Shared->Prop} (hh:A.handled=none) (D:ZipApart z U O j1 j2 a1 a2)
  (gz:IsZip s.heap z U O .none) (gU:IsPair s.heap U (.ref j1) (.ref j2)) (gO:IsPair s.heap O p r) (g1:ItB b s.heap j1 a1 k1) (g2:ItB c s.heap j2 a2 k2) (l1:HsB b s.heap a1 vs) (l2:HsB c s.heap a2 us) (e:vs[k1]? = none\/us[k2]? = none)
  (q:∀ h',(∀ d o,d ≠ z->d ≠ O->d ≠ j1->d ≠ j2->s.heap.get? d=some o->h'.get? d=some o)->Q none { s with heap:=h' }):wpAny (model prog w) A (pyNext (.ref z)) Q E s:=by
 have ty:s.TypeIs (.ref z) "zip":=⟨_,gz,rfl⟩
 have fin:∀ {h':Heap} {x:Addr},(∀ d o,d ≠ z->d ≠ O->d ≠ j1->d ≠ j2->s.heap.get? d=some o->h'.get? d=some o)->(∃ o,h'.get? x=some o/\o.cls=.type "StopIteration")->wpAny (model prog w) A (do if (← isInstance (.ref x) (.type "StopIteration")) then pure none else throw (.ref x)) Q E { s with heap:=h' }:=fun {h' x} hk ⟨o,ho,hc⟩=>by
  refine wpAny_bind (wpAny_isInstance (T:="StopIteration") (b:=true) ⟨o,ho,hc⟩ isSubtype_stop ?_)
  exact wpAny_pure (q _ hk)
 unfold pyNext
 refine wpAny_bind (wpAny_attempt (wpAny_callSpecial?_slot (name:=Str.ofString "__next__") ty F.slot_zip_next (wpAny_call_entry F.slot_zip_next ty F.entry_zip_next ?_ (F.args_zip_next_1 _))))
 refine (show wpAny _ _ (field (.ref z) 2 >>= _) _ _ _ from wpAny_bind (wpAny_field gz rfl (x:=.bool false) rfl ?_))
 refine (show wpAny _ _ (field (.ref z) 3 >>= _) _ _ _ from wpAny_bind (wpAny_field gz rfl (x:=.ref U) rfl (wpAny_bind (wpAny_seqItems gU rfl ?_))))
 refine (show wpAny _ _ (Builtin.SmallTypes.ownedTupleIsFree (.ref z) >>= _) _ _ _ from wpAny_bind ?_)
 unfold Builtin.SmallTypes.ownedTupleIsFree
 refine wpAny_bind (wpAny_field gz rfl (x:=.none) rfl (wpAny_pure ?_))
 simp only [if_true]
 refine wpAny_bind (wpAny_rule (wpAny_bind (wpAny_field gz rfl (x:=.ref O) rfl (wpAny_bind (wpAny_setField_rec gz (by simp) fun h₁ z₁ s₁=>wpAny_bind ?_)))))
 replace z₁:IsZip h₁ z U O .ellipsis:=z₁
 simp only [List.zipIdx_cons,List.zipIdx_nil,List.forIn_cons,List.forIn_nil]
 refine wpAny_bind (wpAny_bind (wpAny_onRaise (show wpAny _ _ (Builtin.SmallTypes.nextOf (.ref j1) >>= _) _ _ _ from ?_)))
 cases ex:vs[k1]? with
 | none=>
  refine wpAny_bind (Zjx hh (g1.off s₁.extBut D.i1z) (l1.off s₁.extBut D.l1z) ex fun h₂ y s₂ ⟨u,u1,u2⟩=>?_)
  have z₂:IsZip h₂ z U O .ellipsis:=s₂ _ _ D.i1z.symm z₁
  have yz:y ≠ z:=fun x=>by subst x; rw [z₂] at u1; cases u1; simp at u2
  exact wpAny_setField_rec z₂ (by simp) fun h₃ _ s₃=>fin (fun d o c1 _ c3 _ x=>s₃.extBut _ _ c1 (s₂ _ _ c3 (s₁.extBut _ _ c1 x))) ⟨u,s₃.extBut _ _ yz u1,u2⟩
 | some x=>
  have ey:us[k2]? = none:=by rcases e with h | h; rw [ex] at h; cases h; exact h
  refine wpAny_bind (Zfv (g1.off s₁.extBut D.i1z) (l1.off s₁.extBut D.l1z) ex fun h₂ g₂ s₂=>wpAny_pure ?_)
  have o₂:IsPair h₂ O p r:=s₂.extBut _ _ D.TOi1 (s₁.extBut _ _ D.TOz gO)
  refine wpAny_bind (wpAny_seqItems o₂ rfl (wpAny_bind (wpAny_updateSeq_pair o₂ fun h₃ o₃ s₃=>wpAny_bind (wpAny_letGo (wpAny_pure ?_)))))
  refine wpAny_bind (wpAny_bind (wpAny_onRaise (show wpAny _ _ (Builtin.SmallTypes.nextOf (.ref j2) >>= _) _ _ _ from ?_)))
  refine wpAny_bind (Zjx hh (((g2.off s₁.extBut D.i2z).off s₂.extBut D.i12.symm).off s₃.extBut D.TOi2.symm) (((l2.off s₁.extBut D.l2z).off s₂.extBut D.l2i1).off s₃.extBut D.l2TO) ey fun h₄ y s₄ ⟨u,u1,u2⟩=>?_)
  have z₄:IsZip h₄ z U O .ellipsis:=s₄ _ _ D.i2z.symm (s₃.extBut _ _ D.TOz.symm (s₂.extBut _ _ D.i1z.symm z₁))
  have yz:y ≠ z:=fun x=>by subst x; rw [z₄] at u1; cases u1; simp at u2
  exact wpAny_setField_rec z₄ (by simp) fun h₅ _ s₅=>fin (fun d o c1 c2 c3 c4 x=>s₅.extBut _ _ c1 (s₄ _ _ c4 (s₃.extBut _ _ c2 (s₂.extBut _ _ c3 (s₁.extBut _ _ c1 x))))) ⟨u,s₅.extBut _ _ yz u1,u2⟩
end
section
abbrev zt1 (h:Heap) (a:Addr):Heap:=h.push ⟨.type "tuple_iterator",none,.fields #[.ref a,.int 0 0],#[]⟩
abbrev zt2 (h:Heap) (a c:Addr):Heap:=(zt1 h a).push ⟨.type "tuple_iterator",none,.fields #[.ref c,.int 0 0],#[]⟩
abbrev zt3 (h:Heap) (a c:Addr):Heap:=(zt2 h a c).push ⟨.type "tuple",none,.seq #[.ref h.objs.size,.ref (zt1 h a).objs.size],#[]⟩
abbrev zt4 (h:Heap) (a c:Addr):Heap:=(zt3 h a c).push ⟨.type "tuple",none,.seq #[.none,.none],#[]⟩
abbrev zt5 (h:Heap) (a c:Addr):Heap:=(zt4 h a c).push ⟨.type "zip",none,.fields #[.none,.bool false,.bool false,.ref (zt2 h a c).objs.size,.ref (zt3 h a c).objs.size],#[]⟩
theorem Zl6 (a c:Addr) (vs us:Array Value) :
  Meets (Builtin.«zip.__new__» ⟨[.type "zip",.ref a,.ref c],[]⟩) (fun _ R s=>s.heap.IsTuple a vs/\s.heap.IsTuple c us/\R (.ok (.ret (.ref (zt4 s.heap a c).objs.size))) { s with heap:=zt5 s.heap a c }):=.of_wp fun prog w A R s h=>by
 obtain ⟨hp,g,d,tk,os⟩:=s; obtain ⟨u1,u2,h⟩:=h
 have sub0:=sub_zip
 have v1:Heap.IsTuple (Shared.heap ⟨hp,g,d,tk,os⟩) a vs:=u1
 have v2:Heap.IsTuple (Shared.heap ⟨hp.push { cls:=.type "tuple_iterator",data:=.fields #[.ref a,.int 0 0] },g,d,tk,os⟩) c us:=Heap.IsTuple.push u2 _
 wp_walk using wpAny_pyIter_tuple v1,wpAny_pyIter_tuple v2
 exact ⟨_,rfl,h⟩
variable {prog:Program} {w:World} {A:Around} {E:Value->Shared->Prop} {s:Shared}
theorem Zn7 {b:Bool} {a c:Addr} {vs us:Array Value} {Q:Value->Shared->Prop} (l1:HsB b s.heap a vs) (l2:HsB b s.heap c us)
  (q:∀ h',IsZip h' (s.heap.objs.size + 4) (s.heap.objs.size + 2) (s.heap.objs.size + 3) .none->IsPair h' (s.heap.objs.size + 2) (.ref s.heap.objs.size) (.ref (s.heap.objs.size + 1))->IsPair h' (s.heap.objs.size + 3) .none .none →
   ItB b h' s.heap.objs.size a 0->ItB b h' (s.heap.objs.size + 1) c 0->(∀ d o,s.heap.get? d=some o->h'.get? d=some o)->Q (.ref (s.heap.objs.size + 4)) { s with heap:=h' }):wpAny (model prog w) A (call (.type "zip") [.ref a,.ref c]) Q E s:=by
 cases b
 ·exact call_zip_2 l1 l2 fun h' b1 b2 b3 b4 b5 b6 hk=>q h' b1 b2 b3 b4 b5 hk
 ·refine callType_new F.called_zip (by decide) (F.typeCall_zip_2 _ _) (F.newCall_zip_2 _ _) (fun obj=>F.args_object_init_3 obj _ _) F.entry_zip_new (Zl6 a c vs us) ⟨l1,l2,?_⟩
  have z1:(zt1 s.heap a).objs.size=s.heap.objs.size + 1:=Heap.size_push ..
  have z2:(zt2 s.heap a c).objs.size=s.heap.objs.size + 2:=by rw [Heap.size_push,z1]
  have z3:(zt3 s.heap a c).objs.size=s.heap.objs.size + 3:=by rw [Heap.size_push,z2]
  have z4:(zt4 s.heap a c).objs.size=s.heap.objs.size + 4:=by rw [Heap.size_push,z3]
  have p5:(zt5 s.heap a c).get? (zt4 s.heap a c).objs.size=some _:=Heap.get?_push_size _ rfl
  have p4:(zt5 s.heap a c).get? (zt3 s.heap a c).objs.size=some _:=Heap.get?_push_of_some _ (Heap.get?_push_size _ rfl)
  have p3:(zt5 s.heap a c).get? (zt2 s.heap a c).objs.size=some _:=Heap.get?_push_of_some _ (Heap.get?_push_of_some _ (Heap.get?_push_size _ rfl))
  have p2:(zt5 s.heap a c).get? (zt1 s.heap a).objs.size=some _:=Heap.get?_push_of_some _ (Heap.get?_push_of_some _ (Heap.get?_push_of_some _ (Heap.get?_push_size _ rfl)))
  have p1:(zt5 s.heap a c).get? s.heap.objs.size=some _:=Heap.get?_push_of_some _ (Heap.get?_push_of_some _ (Heap.get?_push_of_some _ (Heap.get?_push_of_some _ (Heap.get?_push_size _ rfl))))
  show _/\_
  rw [z2,z3,z4] at p5
  rw [z1,z2] at p3
  rw [z3] at p4
  rw [z1] at p2
  rw [z4]
  exact ⟨⟨_,p5,rfl⟩,q _ p5 p3 p4 ⟨_,p1,rfl,rfl⟩ ⟨_,p2,rfl,rfl⟩ fun d o e=>Heap.get?_push_of_some _ (Heap.get?_push_of_some _ (Heap.get?_push_of_some _ (Heap.get?_push_of_some _ (Heap.get?_push_of_some _ e))))⟩
end
def Izb (b:Bool) (K:PySem.W.Frag) (l1 l2:Addr):It:=
 ⟨fun i H=>∃ xs ys x y,SqB b K H l1 xs/\SqB b K H l2 ys/\xs[i]? = some x/\ys[i]? = some y,
  fun i H v H'=>∃ p x y,H p=none/\v=.ref p/\H' = upd H p (.tup [x,y])/\∀ xs ys,SqB b K H l1 xs->SqB b K H l2 ys->xs[i]? = some x/\ys[i]? = some y,
  fun i H=>∃ xs ys,SqB b K H l1 xs/\SqB b K H l2 ys/\(xs.length<=i\/ys.length<=i)⟩
theorem Znr {b:Bool} {P:Program} {w:World} {K:PySem.W.Frag} {es:List Expr} {kk:Nat} {tp:Pos} (l1 l2 z TI TO i1 i2:Addr) (D:ZipApart z TI TO i1 i2 l1 l2):Turn P w K (.Tuple es kk tp) (Izb b K l1 l2) [z,TI,TO,i1,i2] z
  (fun i h=>IsZip h z TI TO .none/\IsPair h TI (.ref i1) (.ref i2)/\(∃ a b,IsPair h TO a b)/\ItB b h i1 l1 i/\ItB b h i2 l2 i) where
 mem:=by simp
 obj:=fun i h st b2 hb=>by
  obtain ⟨hz,hTI,⟨a,b',hTO⟩,h1,h2⟩:=st
  obtain ⟨o1,e1,d1⟩:=h1.obj
  obtain ⟨o2,e2,d2⟩:=h2.obj
  simp only [List.mem_cons,List.not_mem_nil,or_false] at hb
  rcases hb with rfl | rfl | rfl | rfl | rfl
  ·exact ⟨_,hz,fun v q=>by cases q⟩
  ·exact ⟨_,hTI,fun v q=>by cases q⟩
  ·exact ⟨_,hTO,fun v q=>by cases q⟩
  ·exact ⟨o1,e1,fun v q=>by rw [d1] at q; cases q⟩
  ·exact ⟨o2,e2,fun v q=>by rw [d2] at q; cases q⟩
 keep:=fun i h h' st k=>by
  obtain ⟨hz,hTI,⟨a,b',hTO⟩,h1,h2⟩:=st
  exact ⟨k z (by simp) _ hz,k TI (by simp) _ hTI,⟨a,b',k TO (by simp) _ hTO⟩,h1.at fun o e=>k i1 (by simp) o e,h2.at fun o e=>k i2 (by simp) o e⟩
 item:=by
  intro X hP hw hK hc i pins s σ H E I hf st hg
  subst hP hw hK
  obtain ⟨hz,hTI,⟨a,b',hTO⟩,h1,h2⟩:=st
  obtain ⟨xs,ys,x,y,hq1,hq2,hx,hy⟩:=hg
  obtain ⟨its1,r1,p1⟩:=I.seqB hq1
  obtain ⟨its2,r2,p2⟩:=I.seqB hq2
  obtain ⟨u1,hu1,ru1⟩:=r1.get hx
  obtain ⟨u2,hu2,ru2⟩:=r2.get hy
  refine Zob D hz hTI hTO h1 h2 p1 p2 (x:=u1) (y:=u2) (by simpa using hu1) (by simpa using hu2) fun h' b1 b2 b3 b4 b5 b6 hk=>?_
  refine ⟨_,rfl,wpAny_letOwnedTupleGo_zip (s:={ s with heap:=h' }) b1 fun h'' hz'' hs''=>?_⟩
  have lt:∀ {c o},s.heap.get? c=some o->c ≠ s.heap.objs.size:=fun e=>Nat.ne_of_lt (Heap.lt_size e)
  have hTz:s.heap.objs.size ≠ z:=Ne.symm (lt hz)
  have hTfree:H s.heap.objs.size=none:=I.hok.fresh (Nat.le_refl _)
  have kept:∀ c o,c ∉ [z,TI,TO,i1,i2]->s.heap.get? c=some o->h''.get? c=some o:=fun c o hc e=>by
   simp only [List.mem_cons,List.not_mem_nil,or_false,not_or] at hc
   exact hs''.extBut _ _ hc.1 (hk c o hc.1 hc.2.2.1 hc.2.2.2.1 hc.2.2.2.2 e)
  have hT:h''.get? s.heap.objs.size=some { cls:=.type "tuple",data:=.seq #[u1,u2] }:=hs''.extBut _ _ hTz b5
  have ntr:∀ c o,H c=some o->c ∉ [z,TI,TO,i1,i2]:=fun c o e hc=>by rw [(hf c hc).1] at e; cases e
  have hok:HOk X.prog X.w (upd H s.heap.objs.size (.tup [x,y])) h'':=fun c o e=>by
   by_cases hcT:c=s.heap.objs.size
   ·subst hcT
    rw [Zat] at e
    cases e
    exact ⟨by show 2<=sizeLine; decide,[u1,u2],.cons ru1 (.cons ru2 .nil),_,hT,⟨rfl,_,rfl⟩,rfl⟩
   ·rw [Zao hcT] at e
    refine (I.hok c o e).stay (fun d v hd q=>kept d v ?_ q) (fun d q=>by rw [Zao (Zaq q hTfree)]; exact q) fun d zs q=>by rw [Zao (Zaq q hTfree)]; exact q
    rcases hd with hd | hd
    ·rw [hd]; exact ntr c o e
    ·exact ntr d _ hd
  have I2:Inv X pins σ (upd H s.heap.objs.size (.tup [x,y])) { s with heap:=h'' }:=by
   refine I.call (g':=s.gens) (t':=s.toks) (d':=s.drawn) (ch:=[z,TI,TO,i1,i2]) ⟨fun c o e n hc hx=>kept c o hx e,fun c o e n hc hx=>⟨o.slots,kept c o hx e⟩,fun c o e n hx=>by rw [Zao (lt e)]; exact n,fun c o e hx=>⟨o,kept c o hx e⟩,
    fun c zs q=>by rw [Zao (Zaq q hTfree)]; exact q,fun c o zs q=>by rw [Zao (Zaq q hTfree)]; exact q,fun c zs q=>⟨#[],by rw [Zao (Zaq q hTfree),q]; simp⟩⟩ hok I.bare fun c hcc=>?_
   obtain ⟨f0,f1,f2,f3,f4,f5⟩:=hf c hcc
   exact ⟨f3,f1,f4,f5⟩
  refine ⟨.ref s.heap.objs.size,_,I2,rfl,⟨s.heap.objs.size,x,y,hTfree,rfl,rfl,fun xs' ys' q1 q2=>?_⟩,⟨hz'',hs''.extBut _ _ D.TIz (hk _ _ D.TIz D.TITO D.TIi1 D.TIi2 hTI),⟨_,_,hs''.extBut _ _ D.TOz b2⟩,b3.off hs''.extBut D.i1z,b4.off hs''.extBut D.i2z⟩,fun c hcc=>?_⟩
  ·rw [I.seqB_inj q1 hq1,I.seqB_inj q2 hq2]; exact ⟨hx,hy⟩
  ·have hcl:c ≠ s.heap.objs.size:=by
    simp only [List.mem_cons,List.not_mem_nil,or_false] at hcc
    obtain ⟨_,e1,_⟩:=h1.obj
    obtain ⟨_,e2,_⟩:=h2.obj
    rcases hcc with rfl | rfl | rfl | rfl | rfl
    ·exact lt hz
    ·exact lt hTI
    ·exact lt hTO
    ·exact lt e1
    ·exact lt e2
   rw [Zao hcl]; exact (hf c hcc).1
 done:=by
  intro X hP hw hK hc i pins s σ H E I hf st hg
  subst hP hw hK
  obtain ⟨hz,hTI,⟨a,b',hTO⟩,h1,h2⟩:=st
  obtain ⟨xs,ys,hq1,hq2,hend⟩:=hg
  obtain ⟨its1,r1,p1⟩:=I.seqB hq1
  obtain ⟨its2,r2,p2⟩:=I.seqB hq2
  have l1':=r1.length
  have l2':=r2.length
  refine Zo0 (I.ok.hd hc) D hz hTI hTO h1 h2 p1 p2 ?_ fun h' hk=>⟨rfl,?_⟩
  ·rcases hend with q | q
   ·left; simp; omega
   ·right; simp; omega
  ·have kept:∀ c o,c ∉ [z,TI,TO,i1,i2]->s.heap.get? c=some o->h'.get? c=some o:=fun c o hc e=>by
    simp only [List.mem_cons,List.not_mem_nil,or_false,not_or] at hc
    exact hk c o hc.1 hc.2.2.1 hc.2.2.2.1 hc.2.2.2.2 e
   have ntr:∀ c o,H c=some o->c ∉ [z,TI,TO,i1,i2]:=fun c o e hc=>by rw [(hf c hc).1] at e; cases e
   refine I.call (g':=s.gens) (t':=s.toks) (d':=s.drawn) (ch:=[z,TI,TO,i1,i2]) ⟨fun c o e n hc hx=>kept c o hx e,fun c o e n hc hx=>⟨o.slots,kept c o hx e⟩,fun c o e n hx=>n,fun c o e hx=>⟨o,kept c o hx e⟩,
    fun c zs q=>q,fun c o zs q=>q,fun c zs q=>⟨#[],by rw [q]; simp⟩⟩ (fun c o e=>?_) I.bare fun c hcc=>?_
   ·refine (I.hok c o e).stay (fun d v hd q=>kept d v ?_ q) (fun d q=>q) fun d zs q=>q
    rcases hd with hd | hd
    ·rw [hd]; exact ntr c o e
    ·exact ntr d _ hd
   ·obtain ⟨f0,f1,f2,f3,f4,f5⟩:=hf c hcc
    exact ⟨f3,f1,f4,f5⟩
 self:=fun _ _ _ _ _ st h=>wpAny_pyIter_zip st.1 h
section
variable {X:Cx}
def iZip (K:PySem.W.Frag) (ta:TA):TI:=fun σ H R=>ta σ H fun vs H1=>∃ b l1 l2,vs=[.ref l1,.ref l2]/\(∃ xs,SqB b K H1 l1 xs)/\(∃ ys,SqB b K H1 l2 ys)/\R (Izb b K l1 l2) H1
theorem Zoo (K:PySem.W.Frag) {es:List Expr} {kk:Nat} {tp:Pos} {a b:Expr} {ta:TA} {p pos:Pos} (hg:Gl X "zip") (hm:X.mg "zip" = none) (ha:PA X [a,b] ta) (hs:starEach [a,b] X.env=[(false,eval a X.env),(false,eval b X.env)]:=by rfl) (hs2:starEach [b] X.env=[(false,eval b X.env)]:=by rfl) (hK:X.K=K:=by rfl) :
  PI X (.Tuple es kk tp) (.Call (.Name "zip" p) [a,b] [] pos) (iZip K ta):=by
 subst hK
 intro pins s σ H R I h
 refine Call_ (Zff I hg hm (Zp9) (PyProof.Rows.callWith_type1 (thn (ha pos pins s σ H _ I h) fun us s1 ⟨vs,H1,I1,r1,q1⟩=>?_) (by rw [hs,hs2]) (by rw [hs2]; rfl)))
 obtain ⟨b,l1,l2,e,⟨xs,hx⟩,⟨ys,hy⟩,q⟩:=q1
 subst e
 obtain ⟨u1,u2,rfl,q1,q2⟩:=r1.two
 cases (show u1=Value.ref l1 from q1)
 cases (show u2=Value.ref l2 from q2)
 obtain ⟨its1,w1,p1⟩:=I1.seqB hx
 obtain ⟨its2,w2,p2⟩:=I1.seqB hy
 have lt1:l1 < s1.heap.objs.size:=p1.lt
 have lt2:l2 < s1.heap.objs.size:=p2.lt
 refine Zn7 p1 p2 fun h' b1 b2 b3 b4 b5 hk=>?_
 refine wpAny_pyIter_zip b1 ?_
 have I2:Inv X pins σ H1 { s1 with heap:=h' }:=I1.kept (t':=s1.toks) hk
 refine ⟨s1.heap.objs.size + 4,[s1.heap.objs.size + 4,s1.heap.objs.size + 2,s1.heap.objs.size + 3,s1.heap.objs.size,s1.heap.objs.size + 1],_,_,H1,rfl,I2,Znr l1 l2 _ _ _ _ _ (zipApart_new lt1 lt2),⟨b1,b2,⟨_,_,b3⟩,b4,b5⟩,fun b hb=>?_,q⟩
 have hge:s1.heap.objs.size<=b:=by
  simp only [List.mem_cons,List.not_mem_nil,or_false] at hb
  rcases hb with rfl | rfl | rfl | rfl | rfl <;> omega
 exact I1.fpOk hge (I1.hok.fresh hge)
end
end L2
set_option Elab.async false
set_option linter.all false
set_option maxRecDepth 100000
namespace L2
open PySem PySem.Spec PyProof.Rows
section
variable {X:Cx}
def rAll (K:PySem.W.Frag):List V->Hp->VK->Prop:=fun xs H Q=>∃ (p:Addr) (bs:List Bool),xs=[.ref p]/\SqL K H p (bs.map V.bl)/\Q (.bl (bs.all id)) H
theorem allK (K:PySem.W.Frag) (hc:X.calm=true) (hK:X.K=K:=by rfl):CallR X (.builtin "all") (rAll K):=by
 subst hK
 intro pins s σ H xs us Q I r h
 obtain ⟨p,bs,rfl,hx,q⟩:=h
 obtain ⟨u,rfl,ru⟩:=vals1 r
 cases (show u=Value.ref p from ru)
 obtain ⟨its,w1,p1,_⟩:=I.list hx
 have hlt:p < s.heap.objs.size:=by obtain ⟨o,e,_⟩:=p1.isList; exact Heap.lt_size e
 have hval:∀ (bs:List Bool) (its:List Value),Vals (bs.map V.bl) its->its=bs.map Value.bool:=by
  intro bs
  induction bs with
  | nil=>intro its h; cases h; rfl
  | cons b r ih=>intro its h; cases h with | cons h1 h2=>cases (show _=Value.bool b from h1); rw [ih _ h2]; rfl
 have e:=hval bs its w1
 subst e
 refine call_all_walk (wpAny_pyIter_list p1.isList ?_)
 refine ⟨s.heap.objs.size,_,_,_,_,_,fun i=>bs.getD i false,rfl,Walks.list (prog:=X.prog) (w:=X.w) (A:=X.A.in1) (show X.A.in1.handled=none from I.ok.hd hc) s.heap.objs.size p (Nat.ne_of_lt hlt) (bs.map Value.bool).toArray,⟨⟨_,Heap.get?_push_size _ rfl,rfl,rfl⟩,p1.isList.push _⟩,?_,fun h' tk hk=>?_⟩
 ·intro i v s0 Q0 E0 hv hq
  have hv:(bs.map Value.bool).toArray[i]? = some v:=hv
  have hv:(bs.map Value.bool)[i]? = some v:=by simpa using hv
  rw [List.getElem?_map] at hv
  cases z:bs[i]? with
  | none=>rw [z] at hv; cases hv
  | some b=>
   rw [z] at hv
   have hv:Value.bool b=v:=by simpa using hv
   subst hv
   have e0:bs.getD i false=b:=by rw [List.getD_eq_getElem?_getD,z]; rfl
   have hq:Q0 (bs.getD i false) s0:=hq
   rw [e0] at hq
   exact wpAny_truthy_bool hq
 ·have e:(List.range (bs.map Value.bool).toArray.size).all (fun i=>bs.getD i false)=bs.all id:=by
   rw [List.size_toArray,List.length_map]
   rw [Bool.eq_iff_iff,List.all_eq_true,List.all_eq_true]
   constructor
   ·intro hh b hb
    obtain ⟨i,hi,rfl⟩:=List.mem_iff_getElem.mp hb
    have:=hh i (List.mem_range.mpr hi)
    rw [List.getD_eq_getElem?_getD,List.getElem?_eq_getElem hi] at this
    exact this
   ·intro hh i hi
    rw [List.mem_range] at hi
    rw [List.getD_eq_getElem?_getD,List.getElem?_eq_getElem hi]
    exact hh _ (List.getElem_mem hi)
  rw [e]
  have I0:Inv X pins σ H { s with heap:=s.heap.push { cls:=.type "list_iterator",data:=.fields #[.ref p,.int 0 0] },toks:=s.toks }:=I.kept fun b o e=>Heap.get?_push_of_some _ e
  refine ⟨.bl (bs.all id),H,I0.turned (it:=s.heap.objs.size) (fun b o hb e=>hk b o (by simpa using hb) e) (I.hok.fresh (Nat.le_refl _)) (Nat.ne_of_gt I.lt) (.inr I.sz) ?_ ?_,rfl,q⟩
  ·have:=I.fpOk (b:=s.heap.objs.size) (H':=H) (Nat.le_refl _) (I.hok.fresh (Nat.le_refl _))
   exact this.2.2.2.2.1
  ·have:=I.fpOk (b:=s.heap.objs.size) (H':=H) (Nat.le_refl _) (I.hok.fresh (Nat.le_refl _))
   exact this.2.2.2.2.2
def rIsiU (K:PySem.W.Frag):List V->Hp->VK->Prop:=fun xs H Q=>rIsi K xs H Q\/∃ (x:V) (p:Addr) (ns:List String) (T:String) (b:Bool),xs=[x,.ref p]/\H p=some (.tup (ns.map V.ty))/\TyOf K H x (.type T)/\PySem.W.kitAny K (.type T) (ns.map Value.type)=some b/\Q (.bl b) H
theorem Zis {pins:List (Addr × Obj)} {σ:St} {H:Hp} {s:Shared} {x:V} {u t:Value} (I:Inv X pins σ H s) (rx:RelV x u) (ty:TyOf X.K H x t) (nt:∃ T,t=.type T):∃ Hh:Heap->Prop,PySem.W.KitX X.K u t Hh/\Hh s.heap/\u ≠ .builtin "__main__.__loader__#opaque":=by
 cases ty with
 | non=>cases (show u=Value.none from rx); exact ⟨_,PySem.W.kitx_none,True.intro,fun z=>nomatch z⟩
 | bl y=>cases (show u=Value.bool y from rx); exact ⟨_,PySem.W.kitx_bool,True.intro,fun z=>nomatch z⟩
 | int i=>obtain ⟨t,q⟩:=(show ∃ t,u=Value.int i t from rx); cases q; exact ⟨_,PySem.W.kitx_int,True.intro,fun z=>nomatch z⟩
 | str y=>obtain ⟨t,q⟩:=(show ∃ t,u=Value.str y t from rx); cases q; exact ⟨_,PySem.W.kitx_str,True.intro,fun z=>nomatch z⟩
 | flt y=>obtain ⟨t,q⟩:=(show ∃ t,u=Value.float y t from rx); cases q; exact ⟨_,PySem.W.kitx_float,True.intro,fun z=>nomatch z⟩
 | @lst a xs ea=>
  cases (show u=Value.ref a from rx)
  obtain ⟨_,_,n,_,h1⟩:=(show ObjOk X.prog X.w H s.heap a (.lst xs) from I.hok a _ ea)
  exact ⟨_,PySem.W.kitx_list,⟨_,h1,rfl⟩,fun z=>nomatch z⟩
 | @frz a ob xs ea=>
  cases (show u=Value.ref a from rx)
  obtain ⟨_,_,_,n,_,h1⟩:=(show ObjOk X.prog X.w H s.heap a (.frz ob (.lst xs)) from I.hok a _ ea)
  exact ⟨_,PySem.W.kitx_list,⟨_,h1,rfl⟩,fun z=>nomatch z⟩
 | @tup a xs ea=>
  cases (show u=Value.ref a from rx)
  obtain ⟨_,_,_,p⟩:=(show ObjOk X.prog X.w H s.heap a (.tup xs) from I.hok a _ ea)
  obtain ⟨o,h1,⟨h2,_⟩,_⟩:=p
  exact ⟨_,PySem.W.kitx_tuple,⟨o,h1,h2⟩,fun z=>nomatch z⟩
 | @dK a kvs ea=>
  cases (show u=Value.ref a from rx)
  obtain ⟨_,_,vs,_,p⟩:=(show ObjOk X.prog X.w H s.heap a (.dK kvs) from I.hok a _ ea)
  obtain ⟨o,es,ep,h1,h2,_⟩:=p
  exact ⟨_,PySem.W.kitx_dict,⟨o,h1,h2.1⟩,fun z=>nomatch z⟩
 | @dT a kvs ea=>
  cases (show u=Value.ref a from rx)
  obtain ⟨_,_,xs,_,o,es,ep,h1,h2,_⟩:=(show ObjOk X.prog X.w H s.heap a (.dT kvs) from I.hok a _ ea)
  exact ⟨_,PySem.W.kitx_dict,⟨o,h1,h2.1⟩,fun z=>nomatch z⟩
 | @ins a C dx fs ea cl ha hn htk hm=>obtain ⟨T,e⟩:=nt; cases e
theorem isiUK (K:PySem.W.Frag) (hK:X.K=K:=by rfl):CallR X (.builtin "isinstance") (rIsiU K):=by
 subst hK
 refine CallR.or Zhe ?_
 intro pins s σ H xs us Q I r h
 obtain ⟨x,p,ns,T,b,rfl,hp,ty,e,q⟩:=h
 obtain ⟨u,u',rfl,rx,rn⟩:=vals2 r
 cases (show u' = Value.ref p from rn)
 obtain ⟨Hh,Z,hz,hne⟩:=Zis I rx ty ⟨T,rfl⟩
 obtain ⟨_,its,rv,o,ho,⟨hc,n,hd⟩,hdd⟩:=I.hok p _ hp
 have hv:∀ (ns:List String) (its:List Value),Vals (ns.map V.ty) its->its=ns.map Value.type:=by
  intro ns
  induction ns with
  | nil=>intro its h; cases h; rfl
  | cons b r ih=>intro its h; cases h with | cons h1 h2=>cases (show _=Value.type b from h1); rw [ih _ h2]; rfl
 have e2:=hv ns its rv
 subst e2
 obtain ⟨cls,dd,data,sl⟩:=o
 simp only at hc hd hdd
 subst hc hd hdd
 exact PySem.W.kia_tup Z I.kIn hz ho e hne fun tk=>⟨.bl b,H,I.tok _,rfl,q⟩
end
section
variable {K:PySem.W.Frag} {Δ:Evt}
theorem Zk8 {b:Bool} {G:Hp} {l1 l2:Addr} {xs ys:List V} {ds es:List D} (h1:∀ G1 H1,Same G G1->Same G1 H1->SqB b K H1 l1 xs) (h2:∀ G1 H1,Same G G1->Same G1 H1->SqB b K H1 l2 ys) (r1:Reps K G xs ds) (r2:Reps K G ys es) (hl:ds.length=es.length) :
  ItOk K G (Izb b K l1 l2) ((ds.zip es).map fun p=>D.tup [p.1,p.2]):=fun G1 H1 sg sh=>by
 have hl1:=r1.length
 have hl2:=r2.length
 have e1:=h1 G1 H1 sg sh
 have e2:=h2 G1 H1 sg sh
 refine ⟨⟨xs,ys,e1,e2,.inl (by rw [List.length_map,List.length_zip]; omega)⟩,fun i d hd=>?_⟩
 rw [List.getElem?_map] at hd
 cases q:(ds.zip es)[i]? with
 | none=>rw [q] at hd; cases hd
 | some pr=>
  rw [q] at hd
  have hd:D.tup [pr.1,pr.2]=d:=by simpa using hd
  subst hd
  rw [List.getElem?_zip_eq_some] at q
  obtain ⟨u,hu,ru⟩:=r1.get q.1
  obtain ⟨v,hv,rv⟩:=r2.get q.2
  refine ⟨⟨xs,ys,u,v,e1,e2,hu,hv⟩,fun x H2 ⟨p,a,b',hp,ex,eH,hab⟩=>?_⟩
  obtain ⟨ha,hb⟩:=hab xs ys e1 e2
  rw [hu] at ha; rw [hv] at hb
  cases ha; cases hb
  subst ex; subst eH
  have hG:G1 p=none:=by
   cases z:G1 p with
   | none=>rfl
   | some o=>rw [sh _ _ z] at hp; cases hp
  refine ⟨upd G1 p (.tup [u,v]),fun c o e=>by rw [Zao (Zaq e hG)]; exact e,fun c o e=>by rw [Zao (Zaq e hp)]; exact e,fun c o e=>?_,?_⟩
  ·by_cases hc:c=p
   ·subst hc; rw [Zat] at e ⊢; exact ⟨e,.inr hp⟩
   ·rw [Zao hc] at e ⊢; exact ⟨sh c o e,.inl e⟩
  ·have sg2:Same G1 (upd G1 p (.tup [u,v])):=fun c o e=>by rw [Zao (Zaq e hG)]; exact e
   exact .tup Zat (.cons ((ru.mono sg).mono sg2) (.cons ((rv.mono sg).mono sg2) .nil))
theorem Znz {ta:TA} {P:List D->Evt->Prop} (h:JA K ta Δ fun ds Δ1=>∃ as bs,ds=[.tup as,.tup bs]/\as.length=bs.length/\P ((as.zip bs).map fun p=>D.tup [p.1,p.2]) Δ1):JI K (iZip K ta) Δ P:=fun g G H σ R k c=>
 h g G H σ _ k fun vs ds G1 H1 Δ1 k1 s1 r1 hq_=>by
  obtain ⟨as,bs,e,hl,p1⟩:=hq_
  subst e
  obtain ⟨_,_,rfl,ra,rr⟩:=r1.inv
  next=>
   obtain ⟨_,_,rfl,rb,rr⟩:=rr.inv
   next=>
    cases rr.inv
    obtain ⟨_,_,rfl,ha,rsa⟩:=ra.inv
    next=>
     obtain ⟨_,_,rfl,hb,rsb⟩:=rb.inv
     next=>
      exact ⟨true,_,_,rfl,⟨_,SqT.of (k1.live _ _ ha)⟩,⟨_,SqT.of (k1.live _ _ hb)⟩,c _ _ G1 H1 Δ1 k1 s1 (Zk8 (fun _ _ sg sh=>SqT.of (sh _ _ (sg _ _ ha))) (fun _ _ sg sh=>SqT.of (sh _ _ (sg _ _ hb))) rsa rsb hl) p1⟩
theorem Zok {bs:List Bool} {P:D->Evt->Prop} (p:P (.bl (bs.all id)) Δ):JC K (rAll K) [.lst (bs.map D.bl)] Δ P:=fun g G H σ Q vs k rs c=>by
 obtain ⟨_,_,rfl,r,t⟩:=rs.inv
 next=>
  cases t.inv
  obtain ⟨a,ws,rfl,ha,rs⟩:=r.inv
  next=>
   have e:∀ (bs:List Bool) (ws:List V),Reps K G ws (bs.map D.bl)->ws=bs.map V.bl:=by
    intro bs
    induction bs with
    | nil=>intro ws h; cases h; rfl
    | cons b r ih=>intro ws h; cases h with | cons h1 h2=>cases h1; rw [ih _ h2]; rfl
   have:=e bs ws rs
   subst this
   exact ⟨_,bs,rfl,SqL.of (k.live _ _ ha),c _ _ G H Δ k (Same.refl _) (.bl _) p⟩
theorem Zci {d:D} {n T:String} {b:Bool} {P:D->Evt->Prop} (ht:tyD d=some T) (e:∀ K,PySem.W.kitOne K (.type T) (.type n)=some b) (p:P (.bl b) Δ):JC K (rIsiU K) [d,.ty n] Δ P:=fun g G H σ Q vs k rs c=>.inl (Zon ht e p g G H σ Q vs k rs c)
end
end L2
set_option Elab.async false
set_option linter.all false
set_option maxRecDepth 100000
namespace L2
open PySem PySem.Spec PyProof.Rows
section
variable {prog:Program} {w:World} {A:Around} {E:Value->Shared->Prop} {s:Shared}
theorem Zm5 {b:Bool} {e j a:Addr} {i:Nat} {ws:Array Value} {x old:Value} {Q:Option Value->Shared->Prop} (ge:IsEnum s.heap e j i old) (g:ItB b s.heap j a i) (l:HsB b s.heap a ws) (ex:ws[i]? = some x) (ne:e ≠ j)
  (q:∀ h',IsEnumOut h' e j ((i:Int) + 1) x s.heap.objs.size->ItB b h' j a (i + 1)->h'.get? s.heap.objs.size=some { cls:=.type "tuple",data:=.seq #[.int i s.toks,x] } →
   (∀ c o,c ≠ e->c ≠ j->s.heap.get? c=some o->h'.get? c=some o)->Q (some (.ref s.heap.objs.size)) { s with heap:=h',toks:=s.toks + 1 }):wpAny (model prog w) A (pyNext (.ref e)) Q E s:=by
 cases b
 ·exact wpAny_pyNext_enum_item ge g l ex ne fun h' b1 b2 b3 _ b4=>q h' b1 b2 b3 b4
 obtain ⟨hp,g0,d,tk,os⟩:=s
 have ty:Shared.TypeIs ⟨hp,g0,d,tk,os⟩ (.ref e) "enumerate":=⟨_,ge,rfl⟩
 unfold pyNext
 refine wpAny_bind (wpAny_attempt (wpAny_callSpecial?_slot (name:=Str.ofString "__next__") ty F.slot_enumerate_next (wpAny_call_entry F.slot_enumerate_next ty F.entry_enumerate_next ?_ (F.args_enumerate_next_1 _))))
 refine (show wpAny _ _ (field (.ref e) 2 >>= _) _ _ _ from wpAny_bind (wpAny_field ge rfl (x:=.ref j) rfl (wpAny_bind (Zfv (b:=true) g l ex fun h₁ g₁ s₁=>?_))))
 replace s₁:Heap.SameBut j hp h₁:=s₁
 have e₁:IsEnum h₁ e j i old:=(s₁.2 e ne).trans ge
 refine (show wpAny _ _ (field (.ref e) 3 >>= _) _ _ ⟨h₁,g0,d,tk,os⟩ from wpAny_bind (wpAny_field e₁ rfl (x:=rawInt i) rfl ?_))
 refine (show wpAny _ _ (field (.ref e) 4 >>= _) _ _ ⟨h₁,g0,d,tk,os⟩ from wpAny_bind (wpAny_field e₁ rfl (x:=.none) rfl ?_))
 refine (show wpAny _ _ (mkInt i >>= _) _ _ ⟨h₁,g0,d,tk,os⟩ from wpAny_bind (wpAny_mkInt ?_))
 refine (show wpAny _ _ (setField (.ref e) 3 (rawInt ((i:Int) + 1)) >>= _) _ _ ⟨h₁,g0,d,tk + 1,os⟩ from wpAny_bind (wpAny_setField_rec e₁ (by simp) fun h₂ e₂ s₂=>?_))
 replace s₂:Heap.SameBut e h₁ h₂:=s₂
 replace e₂:IsEnum h₂ e j ((i:Int) + 1) old:=e₂
 refine (show wpAny _ _ (setField (.ref e) 4 .none >>= _) _ _ ⟨h₂,g0,d,tk + 1,os⟩ from wpAny_bind (wpAny_setField_rec e₂ (by simp) fun h₃ e₃ s₃=>?_))
 replace s₃:Heap.SameBut e h₂ h₃:=s₃
 replace e₃:IsEnum h₃ e j ((i:Int) + 1) old:=e₃
 refine (show wpAny _ _ (newTuple [.int i tk,x] >>= _) _ _ ⟨h₃,g0,d,tk + 1,os⟩ from wpAny_bind (wpAny_newTuple ?_))
 have e₄:IsEnum (h₃.push { cls:=.type "tuple",data:=.seq #[.int i tk,x] }) e j ((i:Int) + 1) old:=Heap.get?_push_of_some _ e₃
 generalize eh₄:h₃.push { cls:=.type "tuple",data:=.seq #[.int i tk,x] } = h₄ at e₄
 have n3:h₃.objs.size=hp.objs.size:=by rw [s₃.1,s₂.1,s₁.1]
 have el:e < hp.objs.size:=Heap.lt_size ge
 have t₄:h₄.get? hp.objs.size=some { cls:=.type "tuple",data:=.seq #[.int i tk,x] }:=by rw [<- eh₄,<- n3]; exact Heap.get?_push_size _ rfl
 have k₄:∀ c o,c ≠ e->c ≠ j->hp.get? c=some o->h₄.get? c=some o:=fun c o c1 c2 z=>by rw [<- eh₄]; exact Heap.get?_push_of_some _ (s₃.extBut c o c1 (s₂.extBut c o c1 (s₁.extBut c o c2 z)))
 have g₄:ItB true h₄ j a (i + 1):=by rw [<- eh₄]; exact ((g₁.off s₂.extBut (Ne.symm ne)).off s₃.extBut (Ne.symm ne)).at fun o z=>Heap.get?_push_of_some _ z
 refine (show wpAny _ _ (Builtin.SmallTypes.ownedTupleIsFree (.ref e) >>= _) _ _ ⟨h₄,g0,d,tk + 1,os⟩ from ?_)
 rw [n3]
 clear eh₄ e₃ s₃ e₂ s₂ e₁ s₁ g₁ n3 h₃ h₂ h₁
 refine wpAny_bind ?_
 unfold Builtin.SmallTypes.ownedTupleIsFree
 refine wpAny_bind (wpAny_field e₄ rfl (x:=.none) rfl (wpAny_pure ?_))
 simp only [if_true]
 refine wpAny_bind (wpAny_rule (wpAny_bind (wpAny_field e₄ rfl (x:=old) rfl (wpAny_bind (wpAny_setField_rec e₄ (by simp) fun h₅ e₅ s₅=>?_)))))
 replace s₅:Heap.SameBut e h₄ h₅:=s₅
 replace e₅:IsEnum h₅ e j ((i:Int) + 1) x:=e₅
 refine (show wpAny _ _ (Builtin.SmallTypes.ownedTupleHandOut (.ref e) (.ref hp.objs.size) >>= _) _ _ ⟨h₅,g0,d,tk + 1,os⟩ from wpAny_bind ?_)
 unfold Builtin.SmallTypes.ownedTupleHandOut
 refine wpAny_bind (wpAny_setField_rec e₅ (by simp) fun h₆ e₆ s₆=>?_)
 replace s₆:Heap.SameBut e h₅ h₆:=s₆
 replace e₆:IsEnumOut h₆ e j ((i:Int) + 1) x hp.objs.size:=e₆
 refine wpAny_setField_rec e₆ (by simp) fun h₇ e₇ s₇=>?_
 replace s₇:Heap.SameBut e h₆ h₇:=s₇
 replace e₇:IsEnumOut h₇ e j ((i:Int) + 1) x hp.objs.size:=e₇
 have up:∀ c o,c ≠ e->h₄.get? c=some o->h₇.get? c=some o:=fun c o c1 z=>s₇.extBut c o c1 (s₆.extBut c o c1 (s₅.extBut c o c1 z))
 exact wpAny_bind (wpAny_letGo (wpAny_pure ⟨_,rfl,wpAny_pure (q h₇ e₇ (g₄.at fun o z=>up j o (Ne.symm ne) z) (up _ _ (Nat.ne_of_gt el) t₄) fun c o c1 c2 z=>up c o c1 (k₄ c o c1 c2 z))⟩))
theorem Zpg {b:Bool} {e j a:Addr} {i:Nat} {ws:Array Value} {old:Value} {Q:Option Value->Shared->Prop} (hh:A.handled=none) (ge:IsEnum s.heap e j i old) (g:ItB b s.heap j a i) (l:HsB b s.heap a ws) (ex:ws[i]? = none)
  (q:∀ h',Heap.ExtBut j s.heap h' -> Q none { s with heap:=h' }):wpAny (model prog w) A (pyNext (.ref e)) Q E s:=by
 have ty:s.TypeIs (.ref e) "enumerate":=⟨_,ge,rfl⟩
 unfold pyNext
 refine wpAny_bind (wpAny_attempt (wpAny_callSpecial?_slot (name:=Str.ofString "__next__") ty F.slot_enumerate_next (wpAny_call_entry F.slot_enumerate_next ty F.entry_enumerate_next ?_ (F.args_enumerate_next_1 _))))
 refine (show wpAny _ _ (field (.ref e) 2 >>= _) _ _ _ from wpAny_bind (wpAny_field ge rfl (x:=.ref j) rfl (wpAny_bind (Zjx hh g l ex fun h' x e' ⟨o,ho,hc⟩=>?_))))
 exact wpAny_bind (wpAny_isInstance (T:="StopIteration") (b:=true) ⟨o,ho,hc⟩ isSubtype_stop (wpAny_pure (q _ e')))
theorem Zl4 (a:Addr) (ws:Array Value) (n:Nat) (dct:Option Addr) (sl:Array (Option Value)) :
  Meets (Builtin.«enumerate.__new__» ⟨[.type "enumerate",.ref a],[]⟩) (fun _ R s=>s.heap.get? a=some ⟨.type "tuple",dct,.seq ws n,sl⟩ ∧
   R (.ok (.ret (.ref (zt1 s.heap a).objs.size))) { s with heap:=(zt1 s.heap a).push ⟨.type "enumerate",none,.fields #[.none,.bool false,.ref s.heap.objs.size,rawInt 0,.none,.none],#[]⟩ }):=.of_wp fun prog w A R s h=>by
 obtain ⟨hp,g,d,tk,os⟩:=s; obtain ⟨l,h⟩:=h
 have sub0:=sub_enumerate
 have t0:Heap.IsTuple (Shared.heap ⟨hp,g,d,tk,os⟩) a ws:=⟨_,l,rfl,n,rfl⟩
 wp_walk using AutoSeq1.wpAny_loadPart' l
 refine wpAny_stack_any fun st=>wpAny_pure ?_
 split
 ·rename_i c _ _ _ _ _
  cases (c == Value.type "enumerate") <;> (wp_walk using AutoSeq1.wpAny_loadPart' l,wpAny_pyIter_tuple t0; exact ⟨_,rfl,h⟩)
 ·wp_walk using AutoSeq1.wpAny_loadPart' l,wpAny_pyIter_tuple t0
  exact ⟨_,rfl,h⟩
theorem Znh {b:Bool} {a:Addr} {ws:Array Value} {Q:Value->Shared->Prop} (l:HsB b s.heap a ws)
  (q:∀ h',IsEnum h' (s.heap.objs.size + 1) s.heap.objs.size 0 .none->ItB b h' s.heap.objs.size a 0->(∀ c o,s.heap.get? c=some o->h'.get? c=some o)->Q (.ref (s.heap.objs.size + 1)) { s with heap:=h' }):wpAny (model prog w) A (call (.type "enumerate") [.ref a]) Q E s:=by
 cases b
 ·exact call_enumerate_list l fun h' b1 b2 _ b3=>q h' b1 b2 b3
 ·obtain ⟨⟨oc,od,oda,os⟩,l1,hc,n,hd⟩:=l
  dsimp only at hc hd
  subst hc hd
  refine callType_new F.called_enumerate (by decide) (F.typeCall_enumerate_1 _) (F.newCall_enumerate_1 _) (fun obj=>F.args_object_init_2 obj _) F.entry_enumerate_new (Zl4 a ws n od os) ⟨l1,?_⟩
  have z1:(zt1 s.heap a).objs.size=s.heap.objs.size + 1:=Heap.size_push ..
  show _/\_
  rw [z1]
  have he:IsEnum ((zt1 s.heap a).push ⟨.type "enumerate",none,.fields #[.none,.bool false,.ref s.heap.objs.size,rawInt 0,.none,.none],#[]⟩) (s.heap.objs.size + 1) s.heap.objs.size 0 .none:=by
   rw [<- z1]; exact Heap.get?_push_size _ rfl
  exact ⟨⟨_,he,rfl⟩,q _ he ⟨_,Heap.get?_push_of_some _ (Heap.get?_push_size _ rfl),rfl,rfl⟩ fun c o z=>Heap.get?_push_of_some _ (Heap.get?_push_of_some _ z)⟩
end
def Ieb (b:Bool) (K:PySem.W.Frag) (l:Addr):It:=
 ⟨fun i H=>∃ xs x,SqB b K H l xs/\xs[i]? = some x,
  fun i H v H'=>∃ p x,H p=none/\v=.ref p/\H' = upd H p (.tup [.int (i:Int),x])/\∀ xs,SqB b K H l xs->xs[i]? = some x,
  fun i H=>∃ xs,SqB b K H l xs/\xs.length<=i⟩
theorem Zn8 {b:Bool} {P:Program} {w:World} {K:PySem.W.Frag} {es:List Expr} {kk:Nat} {tp:Pos} (l z j:Addr) (D:z ≠ j):Turn P w K (.Tuple es kk tp) (Ieb b K l) [z,j] z
  (fun i h=>(∃ old,IsEnum h z j i old)/\ItB b h j l i) where
 mem:=by simp
 obj:=fun i h st b2 hb=>by
  obtain ⟨⟨old,hz⟩,h1⟩:=st
  obtain ⟨o1,e1,d1⟩:=h1.obj
  simp only [List.mem_cons,List.not_mem_nil,or_false] at hb
  rcases hb with rfl | rfl
  ·exact ⟨_,hz,fun v q=>by cases q⟩
  ·exact ⟨o1,e1,fun v q=>by rw [d1] at q; cases q⟩
 keep:=fun i h h' st k=>by
  obtain ⟨⟨old,hz⟩,h1⟩:=st
  exact ⟨⟨old,k z (by simp) _ hz⟩,h1.at fun o e=>k j (by simp) o e⟩
 item:=by
  intro X hP hw hK hc i pins s σ H E I hf st hg
  subst hP hw hK
  obtain ⟨⟨old,hz⟩,h1⟩:=st
  obtain ⟨xs,x,hq1,hx⟩:=hg
  obtain ⟨its1,r1,p1⟩:=I.seqB hq1
  obtain ⟨u1,hu1,ru1⟩:=r1.get hx
  refine Zm5 hz h1 p1 (x:=u1) (by simpa using hu1) D fun h' b1 b2 b3 hk=>?_
  refine ⟨_,rfl,wpAny_letOwnedTupleGo_enum (s:={ s with heap:=h',toks:=s.toks + 1 }) b1 fun h'' hz'' hs''=>?_⟩
  have lt:∀ {c o},s.heap.get? c=some o->c ≠ s.heap.objs.size:=fun e=>Nat.ne_of_lt (Heap.lt_size e)
  have hTz:s.heap.objs.size ≠ z:=Ne.symm (lt hz)
  have hTfree:H s.heap.objs.size=none:=I.hok.fresh (Nat.le_refl _)
  have kept:∀ c o,c ∉ [z,j]->s.heap.get? c=some o->h''.get? c=some o:=fun c o hc e=>by
   simp only [List.mem_cons,List.not_mem_nil,or_false,not_or] at hc
   exact hs''.extBut _ _ hc.1 (hk c o hc.1 hc.2 e)
  have hT:h''.get? s.heap.objs.size=some { cls:=.type "tuple",data:=.seq #[.int i s.toks,u1] }:=hs''.extBut _ _ hTz b3
  have ntr:∀ c o,H c=some o->c ∉ [z,j]:=fun c o e hc=>by rw [(hf c hc).1] at e; cases e
  have hok:HOk X.prog X.w (upd H s.heap.objs.size (.tup [.int (i:Int),x])) h'':=fun c o e=>by
   by_cases hcT:c=s.heap.objs.size
   ·subst hcT
    rw [Zat] at e
    cases e
    exact ⟨by show 2<=sizeLine; decide,[.int i s.toks,u1],.cons ⟨_,rfl⟩ (.cons ru1 .nil),_,hT,⟨rfl,_,rfl⟩,rfl⟩
   ·rw [Zao hcT] at e
    refine (I.hok c o e).stay (fun d v hd q=>kept d v ?_ q) (fun d q=>by rw [Zao (Zaq q hTfree)]; exact q) fun d zs q=>by rw [Zao (Zaq q hTfree)]; exact q
    rcases hd with hd | hd
    ·rw [hd]; exact ntr c o e
    ·exact ntr d _ hd
  have I2:Inv X pins σ (upd H s.heap.objs.size (.tup [.int (i:Int),x])) { s with heap:=h'',toks:=s.toks + 1 }:=by
   refine I.call (g':=s.gens) (t':=s.toks + 1) (d':=s.drawn) (ch:=[z,j]) ⟨fun c o e n hc hx=>kept c o hx e,fun c o e n hc hx=>⟨o.slots,kept c o hx e⟩,fun c o e n hx=>by rw [Zao (lt e)]; exact n,fun c o e hx=>⟨o,kept c o hx e⟩,
    fun c zs q=>by rw [Zao (Zaq q hTfree)]; exact q,fun c o zs q=>by rw [Zao (Zaq q hTfree)]; exact q,fun c zs q=>⟨#[],by rw [Zao (Zaq q hTfree),q]; simp⟩⟩ hok I.bare fun c hcc=>?_
   obtain ⟨f0,f1,f2,f3,f4,f5⟩:=hf c hcc
   exact ⟨f3,f1,f4,f5⟩
  refine ⟨.ref s.heap.objs.size,_,I2,rfl,⟨s.heap.objs.size,x,hTfree,rfl,rfl,fun xs' q1=>?_⟩,⟨⟨_,by have:=hz''; push_cast at this ⊢; exact this⟩,b2.off hs''.extBut (Ne.symm D)⟩,fun c hcc=>?_⟩
  ·rw [I.seqB_inj q1 hq1]; exact hx
  ·have hcl:c ≠ s.heap.objs.size:=by
    simp only [List.mem_cons,List.not_mem_nil,or_false] at hcc
    obtain ⟨_,e1,_⟩:=h1.obj
    rcases hcc with rfl | rfl
    ·exact lt hz
    ·exact lt e1
   rw [Zao hcl]; exact (hf c hcc).1
 done:=by
  intro X hP hw hK hc i pins s σ H E I hf st hg
  subst hP hw hK
  obtain ⟨⟨old,hz⟩,h1⟩:=st
  obtain ⟨xs,hq1,hend⟩:=hg
  obtain ⟨its1,r1,p1⟩:=I.seqB hq1
  have l1':=r1.length
  refine Zpg (I.ok.hd hc) hz h1 p1 (by simp; omega) fun h' hk=>⟨rfl,?_⟩
  have kept:∀ c o,c ∉ [z,j]->s.heap.get? c=some o->h'.get? c=some o:=fun c o hc e=>by
   simp only [List.mem_cons,List.not_mem_nil,or_false,not_or] at hc
   exact hk c o hc.2 e
  have ntr:∀ c o,H c=some o->c ∉ [z,j]:=fun c o e hc=>by rw [(hf c hc).1] at e; cases e
  refine I.call (g':=s.gens) (t':=s.toks) (d':=s.drawn) (ch:=[z,j]) ⟨fun c o e n hc hx=>kept c o hx e,fun c o e n hc hx=>⟨o.slots,kept c o hx e⟩,fun c o e n hx=>n,fun c o e hx=>⟨o,kept c o hx e⟩,
   fun c zs q=>q,fun c o zs q=>q,fun c zs q=>⟨#[],by rw [q]; simp⟩⟩ (fun c o e=>?_) I.bare fun c hcc=>?_
  ·refine (I.hok c o e).stay (fun d v hd q=>kept d v ?_ q) (fun d q=>q) fun d zs q=>q
   rcases hd with hd | hd
   ·rw [hd]; exact ntr c o e
   ·exact ntr d _ hd
  ·obtain ⟨f0,f1,f2,f3,f4,f5⟩:=hf c hcc
   exact ⟨f3,f1,f4,f5⟩
 self:=fun _ _ _ _ _ st h=>by
  obtain ⟨⟨old,hz⟩,_⟩:=st
  exact wpAny_pyIter_enum hz h
theorem Zgj:bootBuiltins "enumerate" = some (.type "enumerate"):=by kernel_rfl
section
variable {X:Cx}
def iEnum (K:PySem.W.Frag) (ta:TA):TI:=fun σ H R=>ta σ H fun vs H1=>∃ b l,vs=[.ref l]/\(∃ xs,SqB b K H1 l xs)/\R (Ieb b K l) H1
theorem Zgp (K:PySem.W.Frag) {es:List Expr} {kk:Nat} {tp:Pos} {a:Expr} {ta:TA} {p pos:Pos} (hg:Gl X "enumerate") (hm:X.mg "enumerate" = none) (ha:PA X [a] ta) (hs:starEach [a] X.env=[(false,eval a X.env)]:=by rfl) (hs2:starEach [] X.env=[]:=by rfl) (hK:X.K=K:=by rfl) :
  PI X (.Tuple es kk tp) (.Call (.Name "enumerate" p) [a] [] pos) (iEnum K ta):=by
 subst hK
 intro pins s σ H R I h
 refine Call_ (Zff I hg hm (Zgj) (PyProof.Rows.callWith_type1 (thn (ha pos pins s σ H _ I h) fun us s1 ⟨vs,H1,I1,r1,q1⟩=>?_) (by rw [hs,hs2]) (by rw [hs2]; rfl)))
 obtain ⟨b,l1,e,⟨xs,hx⟩,q⟩:=q1
 subst e
 obtain ⟨u1,rfl,q1⟩:=vals1 r1
 cases (show u1=Value.ref l1 from q1)
 obtain ⟨its1,w1,p1⟩:=I1.seqB hx
 refine Znh p1 fun h' b1 b2 hk=>?_
 refine wpAny_pyIter_enum b1 ?_
 have I2:Inv X pins σ H1 { s1 with heap:=h' }:=I1.kept (t':=s1.toks) hk
 refine ⟨s1.heap.objs.size + 1,[s1.heap.objs.size + 1,s1.heap.objs.size],_,_,H1,rfl,I2,Zn8 l1 _ _ (Nat.succ_ne_self _),⟨⟨_,b1⟩,b2⟩,fun b hb=>?_,q⟩
 have hge:s1.heap.objs.size<=b:=by
  simp only [List.mem_cons,List.not_mem_nil,or_false] at hb
  rcases hb with rfl | rfl <;> omega
 exact I1.fpOk hge (I1.hok.fresh hge)
def rMin1 (K:PySem.W.Frag):List V->Hp->VK->Prop:=fun xs H Q=>∃ (b:Bool) (p:Addr) (ns:List Int),xs=[.ref p]/\SqB b K H p (ns.map V.int)/\0 < ns.length/\∀ m,m ∈ ns->(∀ a ∈ ns,m<=a)->Q (.int m) H
theorem minK (K:PySem.W.Frag) (hc:X.calm=true) (hK:X.K=K:=by rfl):CallR X (.builtin "min") (rMin1 K):=by
 subst hK
 intro pins s σ H xs us Q I r h
 obtain ⟨b,p,ns,rfl,hx,hne,q⟩:=h
 obtain ⟨u,rfl,ru⟩:=vals1 r
 cases (show u=Value.ref p from ru)
 obtain ⟨its,w1,p1⟩:=I.seqB hx
 have hlt:=p1.lt
 have hl:=w1.length
 rw [List.length_map] at hl
 have hv:∀ (i:Nat) v,its.toArray[i]? = some v->∃ t,v=Value.int (ns.getD i 0) t:=fun i v e=>by
  have hi:i < its.length:=by simpa using (Array.getElem?_eq_some_iff.mp e).1
  obtain ⟨v',e1,t,e2⟩:=w1.get (i:=i) (x:=.int (ns.getD i 0)) (by rw [List.getElem?_map,List.getD_eq_getElem?_getD,List.getElem?_eq_getElem (by omega)]; rfl)
  rw [List.getElem?_toArray,e1] at e
  cases e
  exact ⟨t,e2⟩
 have fin:∀ {h':Heap} {tk:Nat} {v:Value},its.toArray[argBest (fun i j=>decide (ns.getD i 0 < ns.getD j 0)) (its.toArray.size - 1)]? = some v->(∀ c o,s.heap.get? c=some o->h'.get? c=some o)->EP X pins σ Q v { s with heap:=h',toks:=tk }:=fun {h' tk v} hP hk=>by
  obtain ⟨t,rfl⟩:=hv _ _ hP
  obtain ⟨h1,h2⟩:=argBest_lt (fun i=>ns.getD i 0) (its.toArray.size - 1)
  have hz:its.toArray.size=ns.length:=by simp [hl]
  rw [hz] at h1 h2 ⊢
  refine ⟨.int (ns.getD (argBest (fun i j=>decide (ns.getD i 0 < ns.getD j 0)) (ns.length - 1)) 0),H,I.kept hk,⟨_,rfl⟩,q _ ?_ fun a ha=>?_⟩
  ·rw [List.getD_eq_getElem?_getD,List.getElem?_eq_getElem (by omega)]; exact List.getElem_mem _
  ·obtain ⟨j,hj,rfl⟩:=List.mem_iff_getElem.mp ha
   have:=h2 j (by omega)
   rw [List.getD_eq_getElem?_getD (l:=ns) (i:=j),List.getElem?_eq_getElem hj] at this
   exact this
 have old:∀ {o:Obj} {h':Heap},(∀ c u,c ∉ [s.heap.objs.size]->(s.heap.push o).get? c=some u->h'.get? c=some u)->∀ c u,s.heap.get? c=some u->h'.get? c=some u:=fun hk c u e=>hk c u (fun hm=>by
  have:c=s.heap.objs.size:=by simpa using hm
  exact absurd (this ▸ Heap.lt_size e) (Nat.lt_irrefl _)) (Heap.get?_push_of_some _ e)
 have fp:∀ o:Obj,∀ c ∈ [s.heap.objs.size,p],c < (s.heap.push o).objs.size:=fun o c hc=>by
  rw [Heap.size_push]
  simp only [List.mem_cons,List.not_mem_nil,or_false] at hc
  rcases hc with rfl | rfl
  ·exact Nat.lt_succ_self _
  ·exact Nat.lt_succ_of_lt hlt
 cases b
 ·refine call_min_walk (wpAny_pyIter_list p1 ?_)
  exact ⟨_,_,_,_,_,_,_,rfl,Walks.list (A:=X.A.in1) (I.ok.hd hc) _ p (Nat.ne_of_lt hlt) its.toArray,⟨⟨_,Heap.get?_push_size _ rfl,rfl,rfl⟩,Heap.IsList.push p1 _⟩,fp _,by simp; omega,CmpOf.ints_lt (fun i=>ns.getD i 0) hv,fun v h' tk hP hk=>fin hP (old hk)⟩
 ·refine call_min_walk (wpAny_pyIter_tuple p1 ?_)
  exact ⟨_,_,_,_,_,_,_,rfl,Walks.tuple (A:=X.A.in1) (I.ok.hd hc) _ p (Nat.ne_of_lt hlt) its.toArray,⟨⟨_,Heap.get?_push_size _ rfl,rfl,rfl⟩,Heap.IsTuple.push p1 _⟩,fp _,by simp; omega,CmpOf.ints_lt (fun i=>ns.getD i 0) hv,fun v h' tk hP hk=>fin hP (old hk)⟩
end
section
variable {K:PySem.W.Frag} {Δ:Evt}
theorem Zhm {ns:List Int} {m:Int} {d:D} {P:D->Evt->Prop} (hd:d=.lst (ns.map .int)\/d=.tup (ns.map .int)) (hm:m ∈ ns) (hle:∀ a ∈ ns,m<=a) (p:P (.int m) Δ):JC K (rMin1 K) [d] Δ P:=fun g G H σ Q vs k rs c=>by
 have fin:∀ m',m' ∈ ns->(∀ a ∈ ns,m' <= a)->Q (.int m') H:=fun m' h1 h2=>by
  have:m' = m:=Int.le_antisymm (h2 m hm) (hle m' h1)
  subst this
  exact c _ _ G H Δ k (Same.refl _) (.int _) p
 have pos:0 < ns.length:=List.length_pos_of_mem hm
 obtain ⟨_,_,rfl,r,t⟩:=rs.inv
 next=>
  cases t.inv
  rcases hd with hd | hd <;> subst hd
  ·obtain ⟨_,_,rfl,ha,rs⟩:=r.inv
   next=>have:=rs.ints; subst this; exact ⟨false,_,ns,rfl,SqL.of (k.live _ _ ha),pos,fin⟩
  ·obtain ⟨_,_,rfl,ha,rs⟩:=r.inv
   next=>have:=rs.ints; subst this; exact ⟨true,_,ns,rfl,SqT.of (k.live _ _ ha),pos,fin⟩
def enD (ds:List D):List D:=ds.zipIdx.map fun p=>D.tup [.int (p.2:Int),p.1]
theorem Zi0 (ds:List D):(enD ds).length=ds.length:=by unfold enD; rw [List.length_map,List.length_zipIdx]
theorem Zk0 {ds:List D} {i:Nat} {e:D} (h:(enD ds)[i]? = some e):∃ d,ds[i]? = some d/\e=.tup [.int (i:Int),d]:=by
 unfold enD at h
 rw [List.getElem?_map,List.getElem?_zipIdx] at h
 cases q:ds[i]? with
 | none=>rw [q] at h; cases h
 | some d=>rw [q] at h; refine ⟨d,rfl,?_⟩; simpa using h.symm
theorem Zgq {b:Bool} {G:Hp} {l1:Addr} {xs:List V} {ds:List D} (h1:∀ G1 H1,Same G G1->Same G1 H1->SqB b K H1 l1 xs) (r1:Reps K G xs ds):ItOk K G (Ieb b K l1) (enD ds):=fun G1 H1 sg sh=>by
 have hl1:=r1.length
 have e1:=h1 G1 H1 sg sh
 refine ⟨⟨xs,e1,by rw [Zi0]; omega⟩,fun i d hd=>?_⟩
 obtain ⟨d0,q,rfl⟩:=Zk0 hd
 obtain ⟨u,hu,ru⟩:=r1.get q
 refine ⟨⟨xs,u,e1,hu⟩,fun x H2 ⟨p,a,hp,ex,eH,hab⟩=>?_⟩
 have ha:=hab xs e1
 rw [hu] at ha
 cases ha
 subst ex; subst eH
 have hG:G1 p=none:=by
  cases z:G1 p with
  | none=>rfl
  | some o=>rw [sh _ _ z] at hp; cases hp
 refine ⟨upd G1 p (.tup [.int (i:Int),u]),fun c o e=>by rw [Zao (Zaq e hG)]; exact e,fun c o e=>by rw [Zao (Zaq e hp)]; exact e,fun c o e=>?_,?_⟩
 ·by_cases hc:c=p
  ·subst hc; rw [Zat] at e ⊢; exact ⟨e,.inr hp⟩
  ·rw [Zao hc] at e ⊢; exact ⟨sh c o e,.inl e⟩
 ·have sg2:Same G1 (upd G1 p (.tup [.int (i:Int),u])):=fun c o e=>by rw [Zao (Zaq e hG)]; exact e
  exact .tup Zat (.cons (.int _) (.cons ((ru.mono sg).mono sg2) .nil))
theorem Zn2 {ta:TA} {P:List D->Evt->Prop} (h:JA K ta Δ fun ds Δ1=>∃ as,(ds=[.lst as]\/ds=[.tup as])/\P (enD as) Δ1):JI K (iEnum K ta) Δ P:=fun g G H σ R k c=>
 h g G H σ _ k fun vs ds G1 H1 Δ1 k1 s1 r1 hq_=>by
  obtain ⟨as,e,p1⟩:=hq_
  rcases e with e | e
  ·subst e
   obtain ⟨_,_,rfl,ra,rr⟩:=r1.inv
   next=>
    cases rr.inv
    obtain ⟨_,_,rfl,ha,rsa⟩:=ra.inv
    next=>exact ⟨false,_,rfl,⟨_,SqL.of (k1.live _ _ ha)⟩,c _ _ G1 H1 Δ1 k1 s1 (Zgq (fun _ _ sg sh=>SqL.of (sh _ _ (sg _ _ ha))) rsa) p1⟩
  ·subst e
   obtain ⟨_,_,rfl,ra,rr⟩:=r1.inv
   next=>
    cases rr.inv
    obtain ⟨_,_,rfl,ha,rsa⟩:=ra.inv
    next=>exact ⟨true,_,rfl,⟨_,SqT.of (k1.live _ _ ha)⟩,c _ _ G1 H1 Δ1 k1 s1 (Zgq (fun _ _ sg sh=>SqT.of (sh _ _ (sg _ _ ha))) rsa) p1⟩
end
end L2
set_option Elab.async false
set_option linter.all false
set_option maxRecDepth 100000
namespace L2
open PySem PySem.Spec PyProof.Rows PySem.SeqAt
section
variable {X:Cx}
def rInU (K:PySem.W.Frag) (neg:Bool):R2:=fun x y H Q=>rIn K neg x y H Q\/(∃ a o,y=.ref a/\DGet H a x o/\Q (.bl (if neg then !o.isSome else o.isSome)) H) ∨
 ∃ a S n i,y=.ref a/\x=.int i/\H a=some (.set S n)/\Q (.bl (if neg then !S i else S i)) H
theorem notinK (K:PySem.W.Frag) (hu:X.A.units + 1 < cLine) (hK:X.K=K:=by rfl):OpR X (compareOp .NotIn) (rInU K true):=by
 subst hK
 intro pins s σ H x y v u Q I rx ry h
 rcases h with h | ⟨a,o,rfl,hd,q⟩ | ⟨a,S,n,i,rfl,rfl,hs,q⟩
 ·exact Zgx pins s σ H x y v u Q I rx ry h
 ·cases ry
  exact Zm0 hu I hd rx fun s' I'=>⟨.bl _,H,I',rfl,q⟩
 ·cases ry
  obtain ⟨t,rfl⟩:=rx
  exact wpAny_notInSet_of (knd:=intKind X.prog X.w) (k:=i) (by simp [intKind,Value.isInt]) rfl (I.hok a _ hs) ⟨.bl _,H,I.tok _,rfl,q⟩
def rIndexL (K:PySem.W.Frag):V->List V->Hp->VK->Prop:=fun x vs H Q=>∃ (a:Addr) (ns:List Int) (i:Int),x=.ref a/\vs=[.int i]/\SqL K H a (ns.map V.int)/\ns.length<=1000/\i ∈ ns/\Q (.int (ns.idxOf i:Nat)) H
theorem idxLK (K:PySem.W.Frag) (hK:X.K=K:=by rfl):MtM X "list.index" (rIndexL K):=by
 subst hK
 intro pins s σ H x vs v us Q I rx rv h
 obtain ⟨a,ns,i,rfl,rfl,hx,hl,hm,q⟩:=h
 cases rx
 obtain ⟨u,rfl,ru⟩:=rv.one
 obtain ⟨t,rfl⟩:=ru
 obtain ⟨its,r,pl,hz⟩:=I.list hx
 have hi:=Zir r
 have hlen:=hi.length
 obtain ⟨⟨cls,dd,data,sl⟩,ho,hc,n,hd⟩:=pl.isList
 simp only at hc hd
 subst hc hd
 have hj:ns.idxOf i < ns.length:=List.idxOf_lt_length_iff.mpr hm
 refine call_meets PySem.F.slot_list_index ⟨_,ho,rfl⟩ PySem.F.entry_list_index (PySem.F.args_list_index_2 _ _)
  (list_indexAt a its.toArray n dd sl (.int i t) (isInt i) (ns.idxOf i) (by simpa [hlen] using hj) (by omega) ?_ ?_) ⟨ho,fun y hy=>(eq_isInt i t hi y (by simpa using hy)).at _ _,⟨.int _,H,I.tok _,⟨_,rfl⟩,q⟩⟩
 ·show isInt i its[ns.idxOf i]=true
  rw [isInt_at i hi _ (by omega) hj]
  simpa using List.getElem_idxOf hj
 ·intro j hjs hlt
  show isInt i its[j]=false
  rw [isInt_at i hi j (by simpa using hjs) (by omega)]
  exact ne_of_lt_idxOf hlt _
end
section
variable {K:PySem.W.Frag} {Δ:Evt} {P:D->Evt->Prop}
theorem Zk7 (i:Int) (ns:List Int):inV (.int i) (ns.map V.int)=decide (i ∈ ns):=by
 unfold inV
 rw [List.any_map]
 induction ns with
 | nil=>rfl
 | cons n ns ih=>
  rw [List.any_cons,ih]
  show ((n == i) || decide (i ∈ ns))=_
  by_cases h:n=i
  ·subst h; simp
  ·rw [beq_eq_false_iff_ne.mpr h,Bool.false_or]
   have:(i ∈ n :: ns) ↔ i ∈ ns:=by simp [Ne.symm h]
   exact decide_eq_decide.mpr this.symm
theorem Zi3 (ns:List Int):(ns.map V.int).all flatV=true:=by rw [List.all_map]; exact List.all_eq_true.mpr fun _ _=>rfl
theorem Zo9 {neg:Bool} {i:Int} {ns:List Int} (p:P (.bl (if neg then !decide (i ∈ ns) else decide (i ∈ ns))) Δ):JR2 K (rInU K neg) (.int i) (.tup (ns.map .int)) Δ P:=fun g G H σ Q x y k rx ry c=>by
 cases rx.inv
 obtain ⟨_,_,rfl,ha,rs⟩:=ry.inv
 next=>
  have ev:=rs.ints
  subst ev
  refine .inl ⟨_,_,rfl,.inr (SqT.of (k.live _ _ ha)),rfl,Zi3 ns,?_⟩
  rw [Zk7]
  exact c _ _ G H Δ k (Same.refl _) (.bl _) p
theorem Zg2 {to te:TE} (h:JE K to Δ fun d Δ1=>∃ ns:List Int,d=.lst (ns.map D.int)/\ns.length<=1000/\JE K te Δ1 fun e Δ2=>∃ i,e=.int i/\i ∈ ns/\P (.int (ns.idxOf i:Nat)) Δ2) :
  JE K (tBM K "list" (rIndexL K) to (tCons te tNil)) Δ P:=fun g G H σ Q k c=>
 h g G H σ _ k fun v d G1 H1 Δ1 k1 s1 r1 hq_=>by
  obtain ⟨ns,e,hl,p1⟩:=hq_
  subst e
  obtain ⟨a,vs,rfl,ha,rs⟩:=r1.inv
  next=>
   refine ⟨.inl ⟨rfl,_,SqL.of (k1.live _ _ ha)⟩,p1 g G1 H1 σ _ k1 fun u e G2 H2 Δ2 k2 s2 r2 ⟨i,q1,q2,p⟩=>?_⟩
   subst q1
   cases r2.inv
   have ev:vs=ns.map V.int:=rs.ints
   subst ev
   exact ⟨a,ns,i,rfl,rfl,SqL.of (k2.live _ _ (s2 _ _ ha)),hl,q2,c _ _ G2 H2 Δ2 k2 (s1.trans s2) (.int _) p⟩
end
theorem Zm3 {A:Around} {k:Nat} (hr:Room k A):A.units + 8 < cLine:=Nat.lt_of_le_of_lt (Nat.add_le_add_left (by decide:8<=64) _) hr.units
end L2
set_option Elab.async false
set_option linter.all false
set_option maxRecDepth 100000
namespace L2
open PySem PySem.Spec PyProof.Rows PySem.SeqAt
def flatD:D->Option V
 | .non=>some .non
 | .bl b=>some (.bl b)
 | .int i=>some (.int i)
 | .str x=>some (.str x)
 | _=>none
def eqFlat (d e:D):Bool:=match flatD d,flatD e with
 | some x,some y=>eqV x y
 | _,_=>false
def eqF:Nat->D->D->Bool
 | 0,_,_=>false
 | n + 1,.tup xs,.tup ys=>xs.length == ys.length && (xs.zip ys).all fun p=>eqF n p.1 p.2
 | n + 1,.lst xs,.lst ys=>xs.length == ys.length && (xs.zip ys).all fun p=>eqF n p.1 p.2
 | _ + 1,d,e=>eqFlat d e
def Dp:Nat->D->Prop
 | 0,_=>False
 | _ + 1,.int _=>True
 | n + 1,.tup xs=>∀ d ∈ xs,Dp n d
 | n + 1,.lst xs=>∀ d ∈ xs,Dp n d
 | _,_=>False
theorem Rep.uniq {K:PySem.W.Frag} {G:Hp}:∀ (n:Nat) {v:V} {d e:D},Rep K G v d->Rep K G v e->Dp n d->Dp n e->d=e
 | 0,_,_,_,_,_,h,_=>h.elim
 | n + 1,v,d,e,hd,he,pd,pe=>by
  have all:∀ {vs:List V} {xs ys:List D},Reps K G vs xs->Reps K G vs ys->(∀ d ∈ xs,Dp n d)->(∀ d ∈ ys,Dp n d)->xs=ys:=by
   intro vs
   induction vs with
   | nil=>intro xs ys h1 h2 _ _; cases h1; cases h2; rfl
   | cons v vs ih=>
    intro xs ys h1 h2 p1 p2
    cases h1 with
    | cons a1 b1=>
     cases h2 with
     | cons a2 b2=>
      rw [Rep.uniq n a1 a2 (p1 _ List.mem_cons_self) (p2 _ List.mem_cons_self),ih b1 b2 (fun d hd=>p1 d (List.mem_cons_of_mem _ hd)) fun d hd=>p2 d (List.mem_cons_of_mem _ hd)]
  cases d with
  | int i=>cases hd; cases he; rfl
  | tup xs=>
   cases hd with
   | tup ha ra=>
    cases e with
    | tup ys=>cases he with | tup hb rb=>rw [ha] at hb; cases hb; rw [all ra rb pd pe]
    | lst ys=>cases he with | lst hb rb=>rw [ha] at hb; cases hb
    | int i=>cases he
    | _=>exact pe.elim
  | lst xs=>
   cases hd with
   | lst ha ra=>
    cases e with
    | lst ys=>cases he with | lst hb rb=>rw [ha] at hb; cases hb; rw [all ra rb pd pe]
    | tup ys=>cases he with | tup hb rb=>rw [ha] at hb; cases hb
    | int i=>cases he
    | _=>exact pe.elim
  | _=>exact pd.elim
theorem Zdx:∀ (n:Nat) (d:D),Dp n d->eqF n d d=true
 | 0,_,h=>h.elim
 | n + 1,.int i,_=>by show (i == i)=true; simp
 | n + 1,.tup xs,h=>by
  show (xs.length == xs.length && (xs.zip xs).all fun p=>eqF n p.1 p.2)=true
  rw [beq_self_eq_true,Bool.true_and,List.all_eq_true]
  intro p hp
  obtain ⟨i,hi⟩:=List.mem_iff_getElem?.mp hp
  rw [List.getElem?_zip_eq_some] at hi
  have e:p.1=p.2:=Option.some.inj (hi.1.symm.trans hi.2)
  rw [<- e]
  exact Zdx n _ (h _ (List.mem_of_getElem? hi.1))
 | n + 1,.lst xs,h=>by
  show (xs.length == xs.length && (xs.zip xs).all fun p=>eqF n p.1 p.2)=true
  rw [beq_self_eq_true,Bool.true_and,List.all_eq_true]
  intro p hp
  obtain ⟨i,hi⟩:=List.mem_iff_getElem?.mp hp
  rw [List.getElem?_zip_eq_some] at hi
  have e:p.1=p.2:=Option.some.inj (hi.1.symm.trans hi.2)
  rw [<- e]
  exact Zdx n _ (h _ (List.mem_of_getElem? hi.1))
 | _ + 1,.non,h=>h.elim
 | _ + 1,.bl _,h=>h.elim
 | _ + 1,.str _,h=>h.elim
 | _ + 1,.ty _,h=>h.elim
 | _ + 1,.scr _,h=>h.elim
 | _ + 1,.adr _,h=>h.elim
 | _ + 1,.dct _ _,h=>h.elim
 | _ + 1,.exc _ _,h=>h.elim
def atZip (n:Nat) (xs ys:List D) (j:Nat):Bool:=match xs[j]?,ys[j]? with
 | some a,some b=>eqF n a b
 | _,_=>false
theorem Zhs (n:Nat):∀ (xs ys:List D),(List.range (min xs.length ys.length)).all (atZip n xs ys)=(xs.zip ys).all fun p=>eqF n p.1 p.2
 | [],ys=>by simp
 | _ :: _,[]=>by simp
 | x :: xs,y :: ys=>by
  rw [List.length_cons,List.length_cons,Nat.succ_min_succ,List.range_succ_eq_map,List.all_cons,List.all_map,List.zip_cons_cons,List.all_cons,<- Zhs n xs ys]
  rfl
section
variable {X:Cx}
theorem Zmk:∀ (n:Nat) {A:Around} {pins:List (Addr × Obj)} {σ:St} {H G:Hp} {s:Shared} {x y:V} {v u:Value} {d e:D},Inv X pins σ H s->Same G H->Rep X.K G x d->Rep X.K G y e->RelV x v->RelV y u->Dp n d->Dp n e->A.units + n < cLine →
  EqAt A s v u (eqF n d e)/\(∀ a b,v=.ref a->u=.ref b->RcAt A s v u (eqF n d e))
 | 0,_,_,_,_,_,_,_,_,_,_,_,_,_,_,_,_,_,_,h,_,_=>h.elim
 | n + 1,A,pins,σ,H,G,s,x,y,v,u,d,e,I,sg,rx,ry,rv,ru,pd,pe,hu=>by
  have hu0:A.units < cLine:=by omega
  have hu1:A.in1.units + n < cLine:=by show A.units + 1 + n < cLine; omega
  have items:∀ {vs us:List V} {its its2:List Value} {xs ys:List D},Vals vs its->Vals us its2->Reps X.K G vs xs->Reps X.K G us ys->(∀ d ∈ xs,Dp n d)->(∀ d ∈ ys,Dp n d) →
    ∀ j (h1:j < its.toArray.size) (h2:j < its2.toArray.size),EqAt A.in1 s its.toArray[j] its2.toArray[j] (atZip n xs ys j):=by
   intro vs us its its2 xs ys w1 w2 r1 r2 p1 p2 j h1 h2
   have l1:=w1.length
   have l2:=r1.length
   have l3:=w2.length
   have l4:=r2.length
   have h1':j < its.length:=by simpa using h1
   have h2':j < its2.length:=by simpa using h2
   have hx:j < xs.length:=by omega
   have hy:j < ys.length:=by omega
   obtain ⟨a,ha1,ha2⟩:=r1.get (List.getElem?_eq_getElem hx)
   obtain ⟨b,hb1,hb2⟩:=r2.get (List.getElem?_eq_getElem hy)
   obtain ⟨va,hv1,hv2⟩:=w1.get ha1
   obtain ⟨vb,hw1,hw2⟩:=w2.get hb1
   have e1:its.toArray[j]=va:=by
    rw [List.getElem?_eq_getElem h1'] at hv1
    simpa using Option.some.inj hv1
   have e2:its2.toArray[j]=vb:=by
    rw [List.getElem?_eq_getElem h2'] at hw1
    simpa using Option.some.inj hw1
   have e3:atZip n xs ys j=eqF n xs[j] ys[j]:=by unfold atZip; rw [List.getElem?_eq_getElem hx,List.getElem?_eq_getElem hy]
   rw [e1,e2,e3]
   exact (Zmk n I sg ha2 hb2 hv2 hw2 (p1 _ (List.getElem_mem hx)) (p2 _ (List.getElem_mem hy)) hu1).1
  have same:∀ a,v=.ref a->u=.ref a->eqF (n + 1) d e=true:=fun a h1 h2=>by
   have hx:x=.ref a:=by cases x <;> simp [RelV,h1] at rv <;> first | (rw [rv]) | skip
   have hy:y=.ref a:=by cases y <;> simp [RelV,h2] at ru <;> first | (rw [ru]) | skip
   rw [hx] at rx; rw [hy] at ry
   rw [Rep.uniq (n + 1) rx ry pd pe]
   exact Zdx (n + 1) e pe
  have lift:(∃ a,v=.ref a)->(∃ b,u=.ref b)->(∀ a b,v=.ref a->u=.ref b->RcAt A s v u (eqF (n + 1) d e))->EqAt A s v u (eqF (n + 1) d e)/\(∀ a b,v=.ref a->u=.ref b->RcAt A s v u (eqF (n + 1) d e)):=by
   rintro ⟨a,rfl⟩ ⟨b,rfl⟩ h
   refine ⟨?_,h⟩
   by_cases hab:a=b
   ·subst hab
    rw [same a rfl rfl]
    exact EqAt.same _
   ·exact .of_refs hab (h a b rfl rfl)
  cases d with
  | int i=>
   cases rx
   obtain ⟨t,rfl⟩:=rv
   refine ⟨?_,fun a b z=>nomatch z⟩
   cases e with
   | int j=>
    cases ry
    obtain ⟨t',rfl⟩:=ru
    exact EqAt.int_int i t j t'
   | tup ys=>
    cases ry with
    | tup hb rb=>
     cases ru
     obtain ⟨its,w1,pl,_⟩:=I.tuple (SqT.of (sg _ _ hb))
     exact EqAt.int_tuple i t pl hu0
   | lst ys=>
    cases ry with
    | lst hb rb=>
     cases ru
     obtain ⟨its,w1,pl,_⟩:=I.list (SqL.of (sg _ _ hb))
     exact EqAt.int_list i t pl.isList hu0
   | _=>exact pe.elim
  | tup xs=>
   cases rx with
   | @tup a vs _ ha ra=>
    cases rv
    obtain ⟨its,w1,pl,_⟩:=I.tuple (SqT.of (sg _ _ ha))
    cases e with
    | int j=>
     cases ry
     obtain ⟨t',rfl⟩:=ru
     exact ⟨EqAt.tuple_int j t' pl hu0,fun a b _ z=>nomatch z⟩
    | tup ys=>
     cases ry with
     | @tup b us _ hb rb=>
      cases ru
      obtain ⟨its2,w2,pl2,_⟩:=I.tuple (SqT.of (sg _ _ hb))
      refine lift ⟨_,rfl⟩ ⟨_,rfl⟩ fun _ _ _ _=>?_
      have z:=RcAt.tuples (A:=A) (s:=s) pl pl2 hu0 (items w1 w2 ra rb pd pe)
      have e1:((List.range (min its.toArray.size its2.toArray.size)).all (atZip n xs ys) && its.toArray.size == its2.toArray.size)=eqF (n + 1) (.tup xs) (.tup ys):=by
       show _=(xs.length == ys.length && (xs.zip ys).all fun p=>eqF n p.1 p.2)
       rw [<- Zhs,List.size_toArray,List.size_toArray,<- w1.length,<- w2.length,ra.length,rb.length,Bool.and_comm]
      rw [e1] at z
      exact z
    | lst ys=>
     cases ry with
     | @lst b us _ hb rb=>
      cases ru
      obtain ⟨its2,w2,pl2,_⟩:=I.list (SqL.of (sg _ _ hb))
      exact ⟨EqAt.tuple_list pl pl2.isList hu0,fun _ _ _ _=>RcAt.tuple_list pl pl2.isList hu0⟩
    | _=>exact pe.elim
  | lst xs=>
   cases rx with
   | @lst a vs _ ha ra=>
    cases rv
    obtain ⟨its,w1,pl,_⟩:=I.list (SqL.of (sg _ _ ha))
    cases e with
    | int j=>
     cases ry
     obtain ⟨t',rfl⟩:=ru
     exact ⟨EqAt.list_int j t' pl.isList hu0,fun a b _ z=>nomatch z⟩
    | tup ys=>
     cases ry with
     | @tup b us _ hb rb=>
      cases ru
      obtain ⟨its2,w2,pl2,_⟩:=I.tuple (SqT.of (sg _ _ hb))
      exact ⟨EqAt.list_tuple pl.isList pl2 hu0,fun _ _ _ _=>RcAt.list_tuple pl.isList pl2 hu0⟩
    | lst ys=>
     cases ry with
     | @lst b us _ hb rb=>
      cases ru
      obtain ⟨its2,w2,pl2,_⟩:=I.list (SqL.of (sg _ _ hb))
      refine lift ⟨_,rfl⟩ ⟨_,rfl⟩ fun _ _ _ _=>?_
      have l1:=w1.length
      have l2:=w2.length
      have l3:=ra.length
      have l4:=rb.length
      by_cases hl:xs.length=ys.length
      ·have hsz:its.toArray.size=its2.toArray.size:=by rw [List.size_toArray,List.size_toArray]; omega
       have z:=RcAt.lists (A:=A) (s:=s) pl.isList pl2.isList hsz hu0 (items w1 w2 ra rb pd pe)
       have e1:(List.range its.toArray.size).all (atZip n xs ys)=eqF (n + 1) (.lst xs) (.lst ys):=by
        show _=(xs.length == ys.length && (xs.zip ys).all fun p=>eqF n p.1 p.2)
        rw [<- Zhs,List.size_toArray,hl,beq_self_eq_true,Bool.true_and,Nat.min_self,show its.length=ys.length by omega]
       rw [e1] at z
       exact z
      ·have z:=RcAt.lists_lengths (A:=A) (s:=s) pl.isList pl2.isList (by rw [List.size_toArray,List.size_toArray]; simp; omega) hu0
       have e1:eqF (n + 1) (.lst xs) (.lst ys)=false:=by
        show (xs.length == ys.length && (xs.zip ys).all fun p=>eqF n p.1 p.2)=false
        rw [beq_eq_false_iff_ne.mpr hl,Bool.false_and]
       rw [e1]
       exact z
    | _=>exact pe.elim
  | _=>exact pd.elim
def rEqD (K:PySem.W.Frag):R2:=fun x y H Q=>∃ G d e n,Same G H/\Rep K G x d/\Rep K G y e/\Dp n d/\Dp n e/\n<=5/\(∃ a,x=.ref a)/\(∃ b,y=.ref b)/\Q (.bl (eqF n d e)) H
theorem eqDK (K:PySem.W.Frag) (hv:X.A.units + 8 < cLine) (hK:X.K=K:=by rfl):OpR X (compareOp .Eq) (rEqD K):=by
 subst hK
 intro pins s σ H x y v u Q I rx ry h
 obtain ⟨G,d,e,n,sg,r1,r2,p1,p2,hn,⟨a,rfl⟩,⟨b,rfl⟩,q⟩:=h
 cases rx; cases ry
 exact (Zmk n I sg r1 r2 rfl rfl p1 p2 (A:=X.A) (by omega)).2 a b rfl rfl X.prog X.w _ _ ⟨.bl _,H,I,rfl,q⟩
end
section
variable {K:PySem.W.Frag} {Δ:Evt} {P:D->Evt->Prop}
def isSeqD:D->Bool
 | .tup _=>true
 | .lst _=>true
 | _=>false
theorem Zj2 {G:Hp} {x:V} {d:D} (r:Rep K G x d) (h:isSeqD d=true):∃ a,x=.ref a:=by
 cases r with
 | tup _ _=>exact ⟨_,rfl⟩
 | lst _ _=>exact ⟨_,rfl⟩
 | _=>cases h
theorem Zmp {n:Nat} {d e:D} (hn:n<=5) (pd:Dp n d) (pe:Dp n e) (sd:isSeqD d=true) (se:isSeqD e=true) (p:P (.bl (eqF n d e)) Δ):JR2 K (rEqD K) d e Δ P:=fun g G H σ Q x y k rx ry c=>
 ⟨G,d,e,n,k.live,rx,ry,pd,pe,hn,Zj2 rx sd,Zj2 ry se,c _ _ G H Δ k (Same.refl _) (.bl _) p⟩
end
end L2
set_option Elab.async false
set_option linter.all false
set_option maxRecDepth 100000
namespace L2
open PySem PySem.Spec PyProof.Rows PySem.SeqAt
section
variable {prog:Program} {w:World}
end
section
variable {prog:Program} {w:World} {A:Around} {E:Value->Shared->Prop} {s:Shared}
end
end L2
namespace L2
open PySem PySem.Spec PyProof.Rows PySem.SeqAt
end L2
namespace L2
open PySem PySem.Spec PyProof.Rows PySem.SeqAt
section
variable {prog:Program} {w:World} {A:Around} {E:Value->Shared->Prop} {s:Shared}
end
end L2
namespace L2
open PySem PySem.Spec PyProof.Rows PySem.SeqAt
end L2
namespace L2
open PySem PySem.Spec PyProof.Rows PySem.SeqAt
end L2
namespace L2
open PySem PySem.Spec PyProof.Rows PySem.SeqAt
section
variable {K:PySem.W.Frag} {Δ:Evt}
end
end L2
set_option Elab.async false
set_option linter.all false
set_option maxRecDepth 100000
namespace L2
open PySem PySem.Spec PyProof.Rows
section
variable {X:Cx}
end
end L2
set_option Elab.async false
set_option linter.all false
set_option maxRecDepth 100000
namespace L2
open PySem PySem.Spec PyProof.Rows PySem.SeqAt
section
variable {K:PySem.W.Frag} {Δ:Evt} {P:D->Evt->Prop}
end
end L2
set_option Elab.async false
set_option linter.all false
set_option maxRecDepth 100000
namespace L2
open PySem PySem.Spec PyProof.Rows
section
variable {K:PySem.W.Frag} {Δ:Evt} {P:D->Evt->Prop}
theorem Zf4 {r r':R2} {ta tb tc:TE} (h:JE K ta Δ fun d Δ1=>JE K tb Δ1 fun e Δ2=>JR2 K r d e Δ2 fun z Δ3=>∃ k,z=.bl k/\if k=true then JE K tc Δ3 fun u Δ4=>JR2 K r' e u Δ4 P else P (.bl false) Δ3):JE K (tChain r r' ta tb tc) Δ P:=fun g G H σ Q k c=>
 h g G H σ _ k fun x d G1 H1 Δ1 k1 s1 r1 p1=>p1 g G1 H1 σ _ k1 fun y e G2 H2 Δ2 k2 s2 r2 p2=>p2 g G2 H2 σ _ x y k2 (r1.mono s2) r2 fun z dz G3 H3 Δ3 k3 s3 r3 hq_=>by
  obtain ⟨b,eb,p3⟩:=hq_
  subst eb
  cases r3.inv
  refine ⟨b,rfl,?_⟩
  cases b with
  | true=>
   rw [if_pos rfl] at p3 ⊢
   exact p3 g G3 H3 σ _ k3 fun u du G4 H4 Δ4 k4 s4 r4 p4=>p4 g G4 H4 σ Q y u k4 (r2.mono (s3.trans s4)) r4 (c.up (s1.trans (s2.trans (s3.trans s4))))
  | false=>
   rw [if_neg Bool.false_ne_true] at p3 ⊢
   exact c _ _ G3 H3 Δ3 k3 (s1.trans (s2.trans s3)) (.bl false) p3
theorem Zha {b:Bool} (p:P (.int (if b then 1 else 0)) Δ):JC K (fun xs H Q=>(∃ i,xs=[.int i]/\Q (.int i) H)\/∃ k,xs=[.bl k]/\Q (.int (if k then 1 else 0)) H) [.bl b] Δ P:=fun g G H σ Q vs k rs c=>by
 obtain ⟨_,_,rfl,r,t⟩:=rs.inv
 next=>cases t.inv; cases r.inv; exact .inr ⟨b,rfl,c _ _ G H Δ k (Same.refl _) (.int _) p⟩
end
end L2
set_option Elab.async false
set_option linter.all false
set_option maxRecDepth 100000
namespace L2
open PySem PySem.Spec PyProof.Rows
section
variable {X:Cx}
def rMax1 (K:PySem.W.Frag):List V->Hp->VK->Prop:=fun xs H Q=>∃ (b:Bool) (p:Addr) (ns:List Int),xs=[.ref p]/\SqB b K H p (ns.map V.int)/\0 < ns.length/\∀ m,m ∈ ns->(∀ a ∈ ns,a<=m)->Q (.int m) H
theorem maxK (K:PySem.W.Frag) (hc:X.calm=true) (hK:X.K=K:=by rfl):CallR X (.builtin "max") (rMax1 K):=by
 subst hK
 intro pins s σ H xs us Q I r h
 obtain ⟨b,p,ns,rfl,hx,hne,q⟩:=h
 obtain ⟨u,rfl,ru⟩:=vals1 r
 cases (show u=Value.ref p from ru)
 obtain ⟨its,w1,p1⟩:=I.seqB hx
 have hlt:=p1.lt
 have hl:=w1.length
 rw [List.length_map] at hl
 have hv:∀ (i:Nat) v,its.toArray[i]? = some v->∃ t,v=Value.int (ns.getD i 0) t:=fun i v e=>by
  have hi:i < its.length:=by simpa using (Array.getElem?_eq_some_iff.mp e).1
  obtain ⟨v',e1,t,e2⟩:=w1.get (i:=i) (x:=.int (ns.getD i 0)) (by rw [List.getElem?_map,List.getD_eq_getElem?_getD,List.getElem?_eq_getElem (by omega)]; rfl)
  rw [List.getElem?_toArray,e1] at e
  cases e
  exact ⟨t,e2⟩
 have fin:∀ {h':Heap} {tk:Nat} {v:Value},its.toArray[argBest (fun i j=>decide (ns.getD i 0 > ns.getD j 0)) (its.toArray.size - 1)]? = some v->(∀ c o,s.heap.get? c=some o->h'.get? c=some o)->EP X pins σ Q v { s with heap:=h',toks:=tk }:=fun {h' tk v} hP hk=>by
  obtain ⟨t,rfl⟩:=hv _ _ hP
  obtain ⟨h1,h2⟩:=argBest_gt (fun i=>ns.getD i 0) (its.toArray.size - 1)
  have hz:its.toArray.size=ns.length:=by simp [hl]
  rw [hz] at h1 h2 ⊢
  refine ⟨.int (ns.getD (argBest (fun i j=>decide (ns.getD i 0 > ns.getD j 0)) (ns.length - 1)) 0),H,I.kept hk,⟨_,rfl⟩,q _ ?_ fun a ha=>?_⟩
  ·rw [List.getD_eq_getElem?_getD,List.getElem?_eq_getElem (by omega)]; exact List.getElem_mem _
  ·obtain ⟨j,hj,rfl⟩:=List.mem_iff_getElem.mp ha
   have:=h2 j (by omega)
   rw [List.getD_eq_getElem?_getD (l:=ns) (i:=j),List.getElem?_eq_getElem hj] at this
   exact this
 have old:∀ {o:Obj} {h':Heap},(∀ c u,c ∉ [s.heap.objs.size]->(s.heap.push o).get? c=some u->h'.get? c=some u)->∀ c u,s.heap.get? c=some u->h'.get? c=some u:=fun hk c u e=>hk c u (fun hm=>by
  have:c=s.heap.objs.size:=by simpa using hm
  exact absurd (this ▸ Heap.lt_size e) (Nat.lt_irrefl _)) (Heap.get?_push_of_some _ e)
 have fp:∀ o:Obj,∀ c ∈ [s.heap.objs.size,p],c < (s.heap.push o).objs.size:=fun o c hc=>by
  rw [Heap.size_push]
  simp only [List.mem_cons,List.not_mem_nil,or_false] at hc
  rcases hc with rfl | rfl
  ·exact Nat.lt_succ_self _
  ·exact Nat.lt_succ_of_lt hlt
 cases b
 ·refine call_max_walk (wpAny_pyIter_list p1 ?_)
  exact ⟨_,_,_,_,_,_,_,rfl,Walks.list (A:=X.A.in1) (I.ok.hd hc) _ p (Nat.ne_of_lt hlt) its.toArray,⟨⟨_,Heap.get?_push_size _ rfl,rfl,rfl⟩,Heap.IsList.push p1 _⟩,fp _,by simp; omega,CmpOf.ints_gt (fun i=>ns.getD i 0) hv,fun v h' tk hP hk=>fin hP (old hk)⟩
 ·refine call_max_walk (wpAny_pyIter_tuple p1 ?_)
  exact ⟨_,_,_,_,_,_,_,rfl,Walks.tuple (A:=X.A.in1) (I.ok.hd hc) _ p (Nat.ne_of_lt hlt) its.toArray,⟨⟨_,Heap.get?_push_size _ rfl,rfl,rfl⟩,Heap.IsTuple.push p1 _⟩,fp _,by simp; omega,CmpOf.ints_gt (fun i=>ns.getD i 0) hv,fun v h' tk hP hk=>fin hP (old hk)⟩
def sLDel (to ti:TE):TS:=fun D σ H=>to σ H fun x H1=>ti σ H1 fun y H2=>∃ l xs i k,x=.ref l/\y=.int i/\H2 l=some (.lst xs) /\ -(2 ^ 63)<=i/\i < 2 ^ 63/\seqIndex? i xs.length=some k/\D.nx σ (upd H2 l (.lst (xs.eraseIdx k)))
theorem Zn5 {o i:Expr} {to ti:TE} {tpos pos:Pos} (ho:PE X o to) (hi:PE X i ti):PS X (.Delete [.Subscript o i tpos] pos) (sLDel to ti):=by
 intro pins s σ H D I h
 refine wpAny_Delete (wpAny_deleteEach_cons (wpAny_delete_Subscript (thn (ho pins s σ H _ I h) fun u s1 ⟨x,H1,I1,rx,q1⟩=>thn (hi pins s1 σ H1 _ I1 q1) fun iv s2 ⟨y,H2,I2,ry,l,xs,i,k,ex,ey,e,b1,b2,hk,q2⟩=>?_)))
 subst ex ey
 obtain rfl:u=Value.ref l:=rx
 obtain ⟨t,rfl⟩:∃ t,iv=Value.int i t:=ry
 exact Zmg I2 e b1 b2 hk fun s3 I3=>wpAny_deleteEach_nil ⟨σ,_,I3,q2⟩
end
section
variable {K:PySem.W.Frag} {Δ:Evt}
theorem Zoe {ns:List Int} {m:Int} {d:D} {P:D->Evt->Prop} (hd:d=.lst (ns.map .int)\/d=.tup (ns.map .int)) (hm:m ∈ ns) (hle:∀ a ∈ ns,a<=m) (p:P (.int m) Δ):JC K (rMax1 K) [d] Δ P:=fun g G H σ Q vs k rs c=>by
 have fin:∀ m',m' ∈ ns->(∀ a ∈ ns,a<=m')->Q (.int m') H:=fun m' h1 h2=>by
  have:m' = m:=Int.le_antisymm (hle m' h1) (h2 m hm)
  subst this
  exact c _ _ G H Δ k (Same.refl _) (.int _) p
 have pos:0 < ns.length:=List.length_pos_of_mem hm
 obtain ⟨_,_,rfl,r,t⟩:=rs.inv
 next=>
  cases t.inv
  rcases hd with hd | hd <;> subst hd
  ·obtain ⟨_,_,rfl,ha,rs⟩:=r.inv
   next=>have:=rs.ints; subst this; exact ⟨false,_,ns,rfl,SqL.of (k.live _ _ ha),pos,fin⟩
  ·obtain ⟨_,_,rfl,ha,rs⟩:=r.inv
   next=>have:=rs.ints; subst this; exact ⟨true,_,ns,rfl,SqT.of (k.live _ _ ha),pos,fin⟩
theorem Zj1 {j n:Nat} (h:j < n):seqIndex? (j:Int) n=some j:=by
 unfold seqIndex?
 simp
 omega
theorem Zm4 {n:Nat} {ti:TE} {nx bk ct:Evt->Prop} {rt:D->Evt->Prop} {ro:OD->Evt->Prop} {x:Slot} {ds:List D} (hx:Δ[n]? = some x) (ho:x.od=some (.lst ds)) (h:JE K ti Δ fun e Δ1=>∃ y ds,∃ j:Nat,Δ1[n]? = some y/\y.od=some (.lst ds)/\e=.int j/\j < ds.length/\ds.length<=1000/\nx (Δ1.set n (y.put (.lst (ds.eraseIdx j))))) :
  JS K (sLDel (tVar n) ti) Δ ⟨nx,rt,bk,ct,ro⟩:=fun g G H σ E k c=>by
 obtain ⟨a,o,h1,h2,h3,h4,h5⟩:=k.own n x _ hx ho
 refine ⟨.ref a,h1,h g G H σ _ k fun v e G1 H1 Δ1 k1 s1 r1 ⟨y,ds,j,q1,q2,q3,q4,q5,p⟩=>?_⟩
 subst q3
 cases r1.inv
 obtain ⟨a',o',w1,w2,w3,w4,w5⟩:=k1.own n y _ q1 q2
 rw [h1] at w1; cases w1
 cases o' with
 | lst vs=>
  have w3:Reps K G1 vs ds:=w3
  refine ⟨a,vs,j,j,rfl,rfl,w2,by omega,by omega,Zj1 (by rw [w3.length]; exact q4),c.nx σ G1 _ _ (k1.write q1 q2 h1 (show OwnRep K G1 (.lst (vs.eraseIdx j)) (.lst (ds.eraseIdx j)) from w3.eraseIdx j)) p⟩
 | _=>exact absurd w3 (fun z=>z)
theorem Zng {i:Nat} {d:D} {ds:List D} {P:List D->Evt->Prop} (h:Δ[i]? = some (.val d)) (hd:d=.tup ds\/d=.lst ds) (p:P ds Δ):JI K (iSeq K (tVar i)) Δ P:=by
 rcases hd with rfl | rfl
 ·exact Zdt (Zac h ⟨_,rfl,p⟩)
 ·exact Zia (Zac h ⟨_,Or.inl rfl,p⟩)
theorem Zi1 {ta:TA} {Po:OD->Evt->Prop} (h:JA K ta Δ fun ds Δ1=>∃ es,(ds=[.tup es]\/ds=[.lst es])/\Po (.lst es) Δ1):JO K (tCB (rLst K) ta) Δ Po:=fun g G H σ Q k c=>
 h g G H σ _ k fun vs ds G1 H1 Δ1 k1 s1 r1 hq_=>by
  obtain ⟨es,e,p⟩:=hq_
  rcases e with e | e <;> subst e
  ·obtain ⟨_,_,rfl,r,t⟩:=r1.inv
   next=>
    cases t.inv
    obtain ⟨_,_,rfl,ha,rs⟩:=r.inv
    next=>
     refine ⟨_,_,rfl,.inr (SqT.of (k1.live _ _ ha)),fun l hl=>?_⟩
     obtain ⟨k2,pd⟩:=k1.fresh (od:=.lst es) hl (show OwnRep K G1 (.lst _) (.lst es) from rs)
     exact c l _ G1 _ Δ1 k2 s1 pd p
  ·obtain ⟨_,_,rfl,r,t⟩:=r1.inv
   next=>
    cases t.inv
    obtain ⟨_,_,rfl,ha,rs⟩:=r.inv
    next=>
     refine ⟨_,_,rfl,.inl (SqL.of (k1.live _ _ ha)),fun l hl=>?_⟩
     obtain ⟨k2,pd⟩:=k1.fresh (od:=.lst es) hl (show OwnRep K G1 (.lst _) (.lst es) from rs)
     exact c l _ G1 _ Δ1 k2 s1 pd p
theorem Zk4 {sel:List Nat} {wi:TI} {tc:TT} {te:TE} {Po:OD->Evt->Prop} (hsel:sel.Nodup)
  (h:JI K wi Δ fun ds Δ1=>ds.length < sizeLine/\∃ (p:D->Bool) (f:D->D),
   (∀ (i:Nat) d,ds[i]? = some d->∃ a b,d=.tup [a,b]/\JT K tc (.val a :: .val b :: fixD sel Δ1) fun t Δ4=>t=p d/\if t=true then JE K te Δ4 fun e Δ5=>e=f d/\∃ x y,Δ5=x :: y :: fixD sel Δ1 else ∃ x y,Δ4=x :: y :: fixD sel Δ1) ∧
   Po (.lst ((ds.filter p).map f)) Δ1):JO K (tComp 2 sel wi (gTup K 2 (gCons (gName 0) (gCons (gName 1) gNil))) tc te) Δ Po:=by
 refine Zhj hsel fun g G H σ R k c=>h g G H σ R k fun J ds G' H' Δ' k' s' it ⟨z,p,f,ht,he⟩=>c J ds G' H' Δ' k' s' it ⟨z,fun i ys Δ=>ys=((ds.take i).filter p).map f/\∃ x y,Δ = x :: y :: fixD sel Δ',⟨by simp,.any,.any,rfl⟩,?_,?_⟩
 ·rintro i d ys Δ2 hd ⟨rfl,x,y,rfl⟩
  have tk:ds.take (i + 1)=ds.take i ++ [d]:=by
   rw [List.take_add_one,hd]; rfl
  obtain ⟨a,b,rfl,hj⟩:=ht i d hd
  refine Zjn rfl (Zd3 (Zds (by decide) (Zd3 (Zds (by decide) (Zid ?_)))))
  intro g G H σ Q k c
  refine hj g G H σ Q k fun b G1 H1 Δ1 k1 s1 ⟨e1,q⟩=>c b G1 H1 Δ1 k1 s1 ?_
  cases b with
  | true=>
   rw [if_pos rfl] at q ⊢
   refine q.mono fun e Δ5 ⟨e2,x,y,e3⟩=>⟨?_,x,y,e3⟩
   rw [tk,List.filter_append,List.map_append,List.filter_cons,<- e1,e2]
   rfl
  | false=>
   rw [if_neg Bool.false_ne_true] at q ⊢
   obtain ⟨x,y,e3⟩:=q
   refine ⟨?_,x,y,e3⟩
   rw [tk,List.filter_append,List.map_append,List.filter_cons,<- e1]
   simp
 ·rintro ys Δ2 ⟨rfl,x,y,rfl⟩
  rw [List.take_length,show (x :: y :: fixD sel Δ')=[x,y] ++ fixD sel Δ' from rfl,Zcv (by simp)]
  exact he
end
end L2
set_option Elab.async false
set_option linter.all false
set_option maxRecDepth 100000
namespace L2
open PySem PySem.Spec PyProof.Rows PySem.SeqAt
section
variable {K:PySem.W.Frag} {Δ:Evt} {P:D->Evt->Prop}
theorem Zol {x:Str} (p:P (.bl true) Δ):JR2 K rEq (.str x) (.str x) Δ P:=fun g G H σ Q v u k rx ry c=>by
 cases rx.inv; cases ry.inv
 refine ⟨rfl,?_⟩
 rw [decide_eq_true rfl]
 exact c _ _ G H Δ k (Same.refl _) (.bl _) p
end
end L2
set_option Elab.async false
set_option linter.all false
set_option maxRecDepth 100000
namespace L2
open PySem PySem.Spec PyProof.Rows
end L2
set_option Elab.async false
set_option linter.all false
set_option maxRecDepth 100000
namespace L2
open PySem PySem.Spec PyProof.Rows
section
variable {K:PySem.W.Frag} {Δ:Evt}
end
end L2
set_option Elab.async false
set_option linter.all false
set_option maxRecDepth 100000
namespace L2
open PySem PySem.Spec PyProof.Rows
section
variable {X:Cx}
end
end L2
set_option Elab.async false
set_option linter.all false
set_option maxRecDepth 100000
namespace L2
open PySem PySem.Spec PyProof.Rows
section
variable {X:Cx}
end
end L2
set_option Elab.async false
set_option linter.all false
set_option maxRecDepth 100000
namespace L2
open PySem PySem.Spec PyProof.Rows
end L2
set_option Elab.async false
set_option linter.all false
set_option maxRecDepth 100000
namespace L2
open PySem PySem.Spec PyProof.Rows
end L2
set_option Elab.async false
set_option linter.all false
set_option maxRecDepth 100000
namespace L2
open PySem PySem.Spec PyProof.Rows
section
variable {X:Cx}
end
end L2
set_option Elab.async false
set_option linter.all false
set_option maxRecDepth 100000
namespace L2
open PySem PySem.Spec PyProof.Rows
end L2
set_option Elab.async false
set_option linter.all false
set_option maxRecDepth 100000
namespace L2
open PySem PySem.Spec PyProof.Rows
end L2
set_option Elab.async false
set_option linter.all false
set_option maxRecDepth 100000
namespace L2
open PySem PySem.Spec PyProof.Rows
section
variable {K:PySem.W.Frag} {Δ:Evt}
end
section
variable {K:PySem.W.Frag} {Δ:Evt} {P:D->Evt->Prop}
end
end L2
set_option Elab.async false
set_option linter.all false
set_option maxRecDepth 100000
namespace L2
open PySem PySem.Spec PyProof.Rows
section
variable {X:Cx} {pins:List (Addr × Obj)} {σ:St} {H H':Hp} {s:Shared} {h':Heap} {b:Addr}
end
section
variable {X:Cx} {pins:List (Addr × Obj)} {σ:St} {H H':Hp} {s:Shared} {h':Heap} {a C T:Addr}
variable {M:Model} {E:Value->Shared->Prop} {Q:Unit->Shared->Prop}
end
end L2
set_option Elab.async false
set_option linter.all false
set_option maxRecDepth 100000
namespace L2
open PySem PySem.Spec PyProof.Rows
end L2
set_option Elab.async false
set_option linter.all false
set_option maxRecDepth 100000
namespace L2
open PySem PySem.Spec PyProof.Rows
end L2
set_option Elab.async false
set_option linter.all false
set_option maxRecDepth 100000
namespace L2
open PySem PySem.Spec PyProof.Rows
section
variable {X:Cx} {pins:List (Addr × Obj)} {σ:St} {H:Hp} {s:Shared} {a C:Addr}
end
end L2
set_option Elab.async false
set_option linter.all false
set_option maxRecDepth 100000
namespace L2
open PySem PySem.Spec PyProof.Rows
section
variable {X:Cx}
end
end L2
set_option Elab.async false
set_option linter.all false
set_option maxRecDepth 100000
namespace L2
open PySem PySem.Spec PyProof.Rows
section
variable {P:Program} {w:World} {K:PySem.W.Frag} {mg:Str->Option Value} {base:Heap}
end
section
variable {K:PySem.W.Frag} {Δ:Evt} {E:XK} {Xp:Addr->Prop} {nx bk ct:Evt->Prop} {rt:D->Evt->Prop} {ro:OD->Evt->Prop}
end
end L2
set_option Elab.async false
set_option linter.all false
set_option maxRecDepth 100000
namespace L2
open PySem PySem.Spec PyProof.Rows PySem.SeqAt
section
variable {K:PySem.W.Frag} {Δ:Evt} {P:D->Evt->Prop}
end
end L2
set_option Elab.async false
set_option linter.all false
set_option maxRecDepth 100000
namespace L2
open PySem PySem.Spec PyProof.Rows
end L2
set_option Elab.async false
set_option linter.all false
set_option maxRecDepth 100000
namespace L2
open PySem PySem.Spec PyProof.Rows
section
variable {K:PySem.W.Frag} {Δ:Evt}
end
end L2
set_option Elab.async false
set_option linter.all false
set_option maxRecDepth 100000
namespace L2
open PySem PySem.Spec PyProof.Rows
section
variable {X:Cx}
def CDivB (i j:Int):Prop:=0 < j/\j<=100000000000000000000000000000000000000000000000000000000000
theorem Zgc:OpR X (binaryOp .FloorDiv) (rI CDivB fun i j=>.int (i / j)):=opI fun i j _ _ _ _ _ hc q=>by
 have h1:(0:Int) < j:=hc.1
 have h2:=hc.2
 refine floordiv_int (by omega) (by rw [Int.fdiv_eq_ediv_of_nonneg i (by omega)]; exact q) (.inl (PyProof.noPylong_of_log2 ?_))
 have h3:j.natAbs<=100000000000000000000000000000000000000000000000000000000000:=by omega
 have h4:j.natAbs < 2 ^ 200:=Nat.lt_of_le_of_lt h3 (by decide)
 exact Nat.lt_trans ((Nat.log2_lt (by omega)).2 h4) (by decide)
end
section
variable {K:PySem.W.Frag} {Δ:Evt} {E:XK} {Xp:Addr->Prop} {P:D->Evt->Prop}
end
def keyPd:Key->PyData
 | .inl i=>.int i
 | .inr x=>.str x
mutual
def D.pd:D->PyData
 | .non=>.none
 | .bl b=>.bool b
 | .int i=>.int i
 | .str x=>.str x
 | .tup ds=>.tuple (D.pds ds)
 | .lst ds=>.list (D.pds ds)
 | .dct ks ds=>.dict ((ks.map keyPd).zip (D.pds ds))
 | _=>.none
def D.pds:List D->List PyData
 | []=>[]
 | d :: ds=>D.pd d :: D.pds ds
end
section
variable {X:Cx}
end
end L2
set_option Elab.async false
set_option linter.all false
set_option maxRecDepth 100000
namespace L2
open PySem PySem.Spec PyProof.Rows
section
variable {X:Cx}
end
def rEqT0 (K:PySem.W.Frag):R2:=fun x y H Q=>∃ (a b:Addr) (xs:List V),x=.ref a/\y=.ref b/\SqT K H a xs/\SqT K H b []/\Q (.bl xs.isEmpty) H
theorem eqT0K {X:Cx} (K:PySem.W.Frag) (hu:X.A.units + 1 < cLine) (hK:X.K=K:=by rfl):OpR X (compareOp .Eq) (rEqT0 K):=by
 subst hK
 intro pins s σ H x y v u Q I rx ry h
 obtain ⟨a,b,xs,rfl,rfl,h1,h2,q⟩:=h
 cases rx; cases ry
 obtain ⟨its,w1,p1,_⟩:=I.tuple h1
 obtain ⟨its2,w2,p2,_⟩:=I.tuple h2
 cases w2
 refine PySem.SeqAt.RcAt.tuples (A:=X.A) (s:=s) (e:=fun _=>true) p1 p2 (by omega) (fun j _ z=>absurd z (by simp)) X.prog X.w _ _ ?_
 have e:((List.range (min its.toArray.size ([]:List Value).toArray.size)).all (fun _=>true) && its.toArray.size == ([]:List Value).toArray.size)=xs.isEmpty:=by
  cases w1 with
  | nil=>rfl
  | cons _ _=>simp
 rw [e]
 exact ⟨.bl _,H,I,rfl,q⟩
theorem Zj7 {K:PySem.W.Frag} {Δ:Evt} {P:D->Evt->Prop} {ds:List D} (p:P (.bl ds.isEmpty) Δ):JR2 K (rEqT0 K) (.tup ds) (.tup []) Δ P:=fun g G H σ Q x y k rx ry c=>by
 obtain ⟨_,_,rfl,ha,ra⟩:=rx.inv
 next=>
  obtain ⟨_,_,rfl,hb,rb⟩:=ry.inv
  next=>
   cases rb.inv
   refine ⟨_,_,_,rfl,rfl,SqT.of (k.live _ _ ha),SqT.of (k.live _ _ hb),?_⟩
   rw [ra.isEmpty]
   exact c _ _ G H Δ k (Same.refl _) (.bl _) p
section
variable {K:PySem.W.Frag} {Δ:Evt} {P:D->Evt->Prop}
end
def PV (K:PySem.W.Frag) (te:TE) (Δ:Evt) (d:D):Prop:=∀ P:D->Evt->Prop,P d Δ -> JE K te Δ P
def PVs (K:PySem.W.Frag) (ta:TA) (Δ:Evt) (ds:List D):Prop:=∀ P:List D->Evt->Prop,P ds Δ -> JA K ta Δ P
def PR2 (K:PySem.W.Frag) (r:R2) (d e:D) (Δ:Evt) (x:D):Prop:=∀ P:D->Evt->Prop,P x Δ -> JR2 K r d e Δ P
section
variable {K:PySem.W.Frag} {Δ:Evt}
theorem Zbe {te:TE} {d:D} {P:D->Evt->Prop} (h:PV K te Δ d) (p:P d Δ):JE K te Δ P:=h P p
theorem Zdd {ta:TA} {ds:List D} {P:List D->Evt->Prop} (h:PVs K ta Δ ds) (p:P ds Δ):JA K ta Δ P:=h P p
theorem Zak {i:Nat} {d:D} (h:Δ[i]? = some (.val d)):PV K (tVar i) Δ d:=fun P p=>Zac h p
theorem Zbf {i:Int}:PV K (tC (.int i)) Δ (.int i):=fun P p=>Zar p
theorem Zja {x:Str}:PV K (tC (.str x)) Δ (.str x):=fun P p=>Zjo p
theorem Zbl:PVs K tNil Δ []:=fun P p=>Zag p
theorem Zah {ta:TE} {tr:TA} {d:D} {ds:List D} (h:PV K ta Δ d) (t:PVs K tr Δ ds):PVs K (tCons ta tr) Δ (d :: ds):=fun P p=>Zab (h _ (t _ p))
theorem Zeg {ta:TA} {ds:List D} (h:PVs K ta Δ ds) (z:ds.length<=sizeLine):PV K (tTup ta) Δ (.tup ds):=fun P p=>Zbp (h _ ⟨z,p⟩)
theorem Zp7 {ta:TA} {ds:List D} (h:PVs K ta Δ ds) (z:ds.length<=sizeLine):PV K (tLst ta) Δ (.lst ds):=fun P p=>Zmq (h _ ⟨z,p⟩)
theorem Zbr {r:R2} {ta tb:TE} {d e x:D} (a:PV K ta Δ d) (b:PV K tb Δ e) (h:PR2 K r d e Δ x):PV K (tOp r ta tb) Δ x:=fun P p=>Zan (a _ (b _ (h P p)))
theorem Zpn {ds:List D} {i:Int} {d:D} (h:atI ds i=some d):PR2 K (rIxU K) (.tup ds) (.int i) Δ d:=fun P p=>Za4 h p
theorem Zo2 {ds:List D} {i:Int} {d:D} (h:atI ds i=some d):PR2 K (rIxU K) (.lst ds) (.int i) Δ d:=fun P p=>Zew h p
theorem Zea {i j:Int}:PR2 K (rAddU K) (.int i) (.int j) Δ (.int (i + j)):=fun P p=>Zb8 p
theorem Zlh {f:Int->Int->Int} {i j:Int}:PR2 K (rI0 fun i j=>.int (f i j)) (.int i) (.int j) Δ (.int (f i j)):=fun P p=>Zf9 p
theorem pr_I {C:Int->Int->Prop} {f:Int->Int->Int} {i j:Int} (hc:C i j):PR2 K (rI C fun i j=>.int (f i j)) (.int i) (.int j) Δ (.int (f i j)):=fun P p=>jr_I hc p
theorem Znt {f:Int->Int->Bool} {i j:Int}:PR2 K (rI0 fun i j=>.bl (f i j)) (.int i) (.int j) Δ (.bl (f i j)):=fun P p=>Zdu p
theorem Zcw {ta tb:TE} {ds:List D} {i:Int} {d:D} (a:PV K ta Δ (.tup ds)) (b:PV K tb Δ (.int i)) (h:atI ds i=some d):PV K (tOp (rIxU K) ta tb) Δ d:=Zbr a b (Zpn h)
theorem Zkr {ta tb:TE} {ds:List D} {i:Int} {d:D} (a:PV K ta Δ (.lst ds)) (b:PV K tb Δ (.int i)) (h:atI ds i=some d):PV K (tOp (rIxU K) ta tb) Δ d:=Zbr a b (Zo2 h)
theorem Zba {n:Nat} {ds:List D} {i:Int} {d:D} (hx:Δ[n]? = some (.val (.tup ds))) (h:atI ds i=some d):PV K (tOp (rIxU K) (tVar n) (tC (.int i))) Δ d:=Zcw (Zak hx) Zbf h
theorem Zd9 {ta:TE} {ds:List D} (a:PV K ta Δ (.tup ds)):PV K (tCB (rLenU K) (tCons ta tNil)) Δ (.int ds.length):=fun P p=>Za5 (Zab (a _ (Zag (Zbt (.inr rfl) p))))
theorem Zjb {ta:TE} {ds:List D} (a:PV K ta Δ (.lst ds)):PV K (tCB (rLenU K) (tCons ta tNil)) Δ (.int ds.length):=fun P p=>Za5 (Zab (a _ (Zag (Zbt (.inl rfl) p))))
end
end L2
set_option Elab.async false
set_option linter.all false
set_option maxRecDepth 100000
namespace L2
open PySem PySem.Spec PyProof.Rows PySem.SeqAt
def rEqL0 (K:PySem.W.Frag):R2:=fun x y H Q=>∃ (a b:Addr) (xs:List V),x=.ref a/\y=.ref b/\SqL K H a xs/\SqL K H b []/\Q (.bl xs.isEmpty) H
theorem eqL0K {X:Cx} (K:PySem.W.Frag) (hu:X.A.units + 1 < cLine) (hK:X.K=K:=by rfl):OpR X (compareOp .Eq) (rEqL0 K):=by
 subst hK
 intro pins s σ H x y v u Q I rx ry h
 obtain ⟨a,b,xs,rfl,rfl,h1,h2,q⟩:=h
 cases rx; cases ry
 obtain ⟨its,w1,p1,_⟩:=I.list h1
 obtain ⟨its2,w2,p2,_⟩:=I.list h2
 cases w2
 cases w1 with
 | nil=>exact RcAt.lists (A:=X.A) (s:=s) (e:=fun _=>true) p1.isList p2.isList rfl (by omega) (fun j _ z=>absurd z (by simp)) X.prog X.w _ _ ⟨.bl _,H,I,rfl,q⟩
 | cons r t=>exact RcAt.lists_lengths (A:=X.A) (s:=s) p1.isList p2.isList (by simp) (by omega) X.prog X.w _ _ ⟨.bl _,H,I,rfl,q⟩
theorem Zmy {K:PySem.W.Frag} {Δ:Evt} {P:D->Evt->Prop} {ds:List D} (p:P (.bl ds.isEmpty) Δ):JR2 K (rEqL0 K) (.lst ds) (.lst []) Δ P:=fun g G H σ Q x y k rx ry c=>by
 obtain ⟨_,_,rfl,ha,ra⟩:=rx.inv
 obtain ⟨_,_,rfl,hb,rb⟩:=ry.inv
 cases rb.inv
 refine ⟨_,_,_,rfl,rfl,SqL.of (k.live _ _ ha),SqL.of (k.live _ _ hb),?_⟩
 rw [ra.isEmpty]
 exact c _ _ G H Δ k (Same.refl _) (.bl _) p
def rEqC (K:PySem.W.Frag):R2:=fun x y H Q=>(∃ i j:Int,x=.int i/\y=.int j/\Q (.bl (decide (i=j))) H)\/(∃ (i:Int) (a:Addr) (xs:List V),((x=.int i/\y=.ref a)\/(x=.ref a/\y=.int i))/\SqT K H a xs/\Q (.bl false) H) ∨
 ∃ (a b:Addr) (t:Str) (p q:Int),x=.ref a/\y=.ref b/\SqT K H a [.str t,.int p]/\SqT K H b [.str t,.int q]/\Q (.bl (decide (p=q))) H
theorem eqCK {X:Cx} (K:PySem.W.Frag) (hu:X.A.units + 1 < cLine) (hK:X.K=K:=by rfl):OpR X (compareOp .Eq) (rEqC K):=by
 subst hK
 intro pins s σ H x y v u Q I rx ry h
 rcases h with ⟨i,j,rfl,rfl,q⟩ | ⟨i,a,xs,h,hx,q⟩ | ⟨a,b,t,p,p',rfl,rfl,h1,h2,q⟩
 ·obtain ⟨t,rfl⟩:=rx
  obtain ⟨t',rfl⟩:=ry
  exact RcAt.int_int (A:=X.A) (s:=s) i t j t' X.prog X.w _ _ ⟨.bl _,H,I,rfl,q⟩
 ·obtain ⟨its,w1,p1,_⟩:=I.tuple hx
  rcases h with ⟨rfl,rfl⟩ | ⟨rfl,rfl⟩
  ·obtain ⟨t,rfl⟩:=rx
   cases ry
   exact RcAt.int_tuple (A:=X.A) (s:=s) i t p1 (by omega) X.prog X.w _ _ ⟨.bl _,H,I,rfl,q⟩
  ·obtain ⟨t,rfl⟩:=ry
   cases rx
   exact RcAt.tuple_int (A:=X.A) (s:=s) i t p1 (by omega) X.prog X.w _ _ ⟨.bl _,H,I,rfl,q⟩
 ·cases rx; cases ry
  obtain ⟨its,w1,p1,_⟩:=I.tuple h1
  obtain ⟨its2,w2,p2,_⟩:=I.tuple h2
  cases w1 with
  | cons r0 w1=>
   cases w1 with
   | cons r1 w1=>
    cases w1
    cases w2 with
    | cons r2 w2=>
     cases w2 with
     | cons r3 w2=>
      cases w2
      obtain ⟨k0,rfl⟩:=r0
      obtain ⟨k1,rfl⟩:=r1
      obtain ⟨k2,rfl⟩:=r2
      obtain ⟨k3,rfl⟩:=r3
      refine RcAt.tuples (A:=X.A) (s:=s) (e:=fun j=>if j=0 then true else (p == p')) p1 p2 (by omega) (fun j z1 z2=>?_) X.prog X.w _ _ ?_
      ·have z1:j < 2:=z1
       rcases (show j=0\/j=1 by omega) with rfl | rfl
       ·have:=EqAt.str_str (A:=X.A.in1) (s:=s) t k0 t k2
        rw [beq_self_eq_true] at this
        exact this
       ·exact EqAt.int_int (A:=X.A.in1) (s:=s) p k1 p' k3
      ·have e:((List.range (min [Value.str t k0,Value.int p k1].toArray.size [Value.str t k2,Value.int p' k3].toArray.size)).all (fun j=>if j=0 then true else (p == p')) && [Value.str t k0,Value.int p k1].toArray.size == [Value.str t k2,Value.int p' k3].toArray.size)=decide (p=p'):=by
        show ((true && ((p == p') && true)) && true)=_
        rw [Bool.and_true,Bool.true_and,Bool.and_true]; rfl
       rw [e]
       exact ⟨.bl _,H,I,rfl,q⟩
section
variable {K:PySem.W.Frag} {Δ:Evt} {P:D->Evt->Prop}
theorem Zm7 {i j:Int} (p:P (.bl (decide (i=j))) Δ):JR2 K (rEqC K) (.int i) (.int j) Δ P:=fun g G H σ Q x y k rx ry c=>by
 cases rx.inv; cases ry.inv
 exact .inl ⟨i,j,rfl,rfl,c _ _ G H Δ k (Same.refl _) (.bl _) p⟩
theorem Zlq {i:Int} {ds:List D} (p:P (.bl false) Δ):JR2 K (rEqC K) (.int i) (.tup ds) Δ P:=fun g G H σ Q x y k rx ry c=>by
 cases rx.inv
 obtain ⟨_,_,rfl,hb,rb⟩:=ry.inv
 exact .inr (.inl ⟨i,_,_,.inl ⟨rfl,rfl⟩,SqT.of (k.live _ _ hb),c _ _ G H Δ k (Same.refl _) (.bl _) p⟩)
theorem Zk6 {i:Int} {ds:List D} (p:P (.bl false) Δ):JR2 K (rEqC K) (.tup ds) (.int i) Δ P:=fun g G H σ Q x y k rx ry c=>by
 cases ry.inv
 obtain ⟨_,_,rfl,hb,rb⟩:=rx.inv
 exact .inr (.inl ⟨i,_,_,.inr ⟨rfl,rfl⟩,SqT.of (k.live _ _ hb),c _ _ G H Δ k (Same.refl _) (.bl _) p⟩)
theorem Znw {t:Str} {i j:Int} (p:P (.bl (decide (i=j))) Δ):JR2 K (rEqC K) (.tup [.str t,.int i]) (.tup [.str t,.int j]) Δ P:=fun g G H σ Q x y k rx ry c=>by
 obtain ⟨_,_,rfl,ha,ra⟩:=rx.inv
 obtain ⟨_,_,rfl,hb,rb⟩:=ry.inv
 obtain ⟨_,_,rfl,r1,ra⟩:=ra.inv
 obtain ⟨_,_,rfl,r2,ra⟩:=ra.inv
 cases ra.inv; cases r1.inv; cases r2.inv
 obtain ⟨_,_,rfl,r1,rb⟩:=rb.inv
 obtain ⟨_,_,rfl,r2,rb⟩:=rb.inv
 cases rb.inv; cases r1.inv; cases r2.inv
 exact .inr (.inr ⟨_,_,t,i,j,rfl,rfl,SqT.of (k.live _ _ ha),SqT.of (k.live _ _ hb),c _ _ G H Δ k (Same.refl _) (.bl _) p⟩)
end
end L2
set_option Elab.async false
set_option linter.all false
set_option maxRecDepth 100000
set_option maxHeartbeats 4000000
namespace Lw
open PySem L2
def top (i:Nat):Stmt:=PySem.Challenge.pw_holefloor_k36_whole_there_and_back.main.body.getD i (.Pass ⟨0,0,0,0⟩)
abbrev s_is_whole:Stmt:=top 6
abbrev s_is_place:Stmt:=top 9
abbrev s_is_tie:Stmt:=top 10
abbrev s_place_of:Stmt:=top 11
abbrev s_least_first:Stmt:=top 13
abbrev s_put_in:Stmt:=top 15
abbrev s_corner_place:Stmt:=top 16
abbrev s_row_with:Stmt:=top 17
abbrev s_taken_out:Stmt:=top 18
abbrev s_rows_without:Stmt:=top 19
abbrev s_drawn_in:Stmt:=top 20
abbrev s_others_behind:Stmt:=top 21
abbrev s_place_drawn:Stmt:=top 22
abbrev s_law_pen:Stmt:=top 24
abbrev s_law_draw:Stmt:=top 25
abbrev s_law_web:Stmt:=top 26
abbrev s_law_order:Stmt:=top 27
abbrev s_law_whole:Stmt:=top 28
abbrev s_law_begun:Stmt:=top 29
abbrev s_law_same:Stmt:=top 30
abbrev s_law_corner:Stmt:=top 31
abbrev s_law_as_last:Stmt:=top 32
abbrev s_law_corner_ahead:Stmt:=top 33
abbrev s_law_again:Stmt:=top 34
abbrev s_law_without:Stmt:=top 35
abbrev s_law:Stmt:=top 36
theorem sc_is_whole:FnScope ["thing"] ["thing"] (defScope s_is_whole):=⟨rfl,rfl,rfl,by decide +kernel,rfl,by decide +kernel,by decide +kernel⟩
theorem sc_is_place:FnScope ["web","place"] ["web","place"] (defScope s_is_place):=⟨rfl,rfl,rfl,by decide +kernel,rfl,by decide +kernel,by decide +kernel⟩
theorem sc_is_tie:FnScope ["web","tie"] ["web","tie"] (defScope s_is_tie):=⟨rfl,rfl,rfl,by decide +kernel,rfl,by decide +kernel,by decide +kernel⟩
theorem sc_place_of:FnScope ["web","end"] ["web","end"] (defScope s_place_of):=⟨rfl,rfl,rfl,by decide +kernel,rfl,by decide +kernel,by decide +kernel⟩
theorem sc_least_first:FnScope ["ends","at"] ["ends"] (defScope s_least_first):=⟨rfl,rfl,rfl,by decide +kernel,rfl,by decide +kernel,by decide +kernel⟩
theorem sc_put_in:FnScope ["web","order","one","other","many","ties","first","second","end","rows"] ["web","order","one","other"] (defScope s_put_in):=⟨rfl,rfl,rfl,by decide +kernel,rfl,by decide +kernel,by decide +kernel⟩
theorem sc_corner_place:FnScope ["web","order","corner","place"] ["web","order","corner"] (defScope s_corner_place):=⟨rfl,rfl,rfl,by decide +kernel,rfl,by decide +kernel,by decide +kernel⟩
theorem sc_row_with:FnScope ["row","corner","end","at"] ["row","corner","end"] (defScope s_row_with):=⟨rfl,rfl,rfl,by decide +kernel,rfl,by decide +kernel,by decide +kernel⟩
theorem sc_taken_out:FnScope ["web","order","tie","many","ties"] ["web","order","tie"] (defScope s_taken_out):=⟨rfl,rfl,rfl,by decide +kernel,rfl,by decide +kernel,by decide +kernel⟩
theorem sc_rows_without:FnScope ["rows","tie"] ["rows","tie"] (defScope s_rows_without):=⟨rfl,rfl,rfl,by decide +kernel,rfl,by decide +kernel,by decide +kernel⟩
theorem sc_drawn_in:FnScope ["web","order","tie","many","ties","low","high","end","rows","kept"] ["web","order","tie"] (defScope s_drawn_in):=⟨rfl,rfl,rfl,by decide +kernel,rfl,by decide +kernel,by decide +kernel⟩
theorem sc_others_behind:FnScope ["row","end","at"] ["row","end"] (defScope s_others_behind):=⟨rfl,rfl,rfl,by decide +kernel,rfl,by decide +kernel,by decide +kernel⟩
theorem sc_place_drawn:FnScope ["place","low","high"] ["place","low","high"] (defScope s_place_drawn):=⟨rfl,rfl,rfl,by decide +kernel,rfl,by decide +kernel,by decide +kernel⟩
theorem sc_law_pen:FnScope ["_law_script"] ["_law_script"] (defScope s_law_pen):=⟨rfl,rfl,rfl,by decide +kernel,rfl,by decide +kernel,by decide +kernel⟩
theorem sc_law_draw:FnScope ["_law_pen_here","_law_many","_law_digit","_law_at","_law_cell","_law_number"] ["_law_pen_here","_law_many"] (defScope s_law_draw):=⟨rfl,rfl,rfl,by decide +kernel,rfl,by decide +kernel,by decide +kernel⟩
theorem sc_law_web:FnScope ["_law_pen_here","_law_places","_law_ties","_law_many","_law_way","_law_count","_law_found","_law_k","_law_a","_law_b"] ["_law_pen_here","_law_places","_law_ties"] (defScope s_law_web):=⟨rfl,rfl,rfl,by decide +kernel,rfl,by decide +kernel,by decide +kernel⟩
theorem sc_law_order:FnScope ["_law_pen_here","_law_web_here","_law_rows","_law_k","_law_row","!0","!1","!2","!3","!4","!5","!6","!7","!8","!9","!10","!11","!12","!13","!14","!15","!16","!17","!18","!19","!20","!21","!22","!23","!24"] ["_law_pen_here","_law_web_here"] (defScope s_law_order):=⟨rfl,rfl,rfl,by decide +kernel,rfl,by decide +kernel,by decide +kernel⟩
theorem sc_law_whole:FnScope ["_law_found"] ["_law_found"] (defScope s_law_whole):=⟨rfl,rfl,rfl,by decide +kernel,rfl,by decide +kernel,by decide +kernel⟩
theorem sc_law_begun:FnScope ["_law_row","_law_at"] ["_law_row"] (defScope s_law_begun):=⟨rfl,rfl,rfl,by decide +kernel,rfl,by decide +kernel,by decide +kernel⟩
theorem sc_law_same:FnScope ["_law_found","_law_due"] ["_law_found","_law_due"] (defScope s_law_same):=⟨rfl,rfl,rfl,by decide +kernel,rfl,by decide +kernel,by decide +kernel⟩
theorem sc_law_corner:FnScope ["_law_pen_here","_law_web_here","_law_order_here","_law_bare"] ["_law_pen_here","_law_web_here","_law_order_here"] (defScope s_law_corner):=⟨rfl,rfl,rfl,by decide +kernel,rfl,by decide +kernel,by decide +kernel⟩
theorem sc_law_as_last:FnScope ["_law_web_here","_law_order_here","_law_tie","_law_last","_law_names","_law_rows"] ["_law_web_here","_law_order_here","_law_tie"] (defScope s_law_as_last):=⟨rfl,rfl,rfl,by decide +kernel,rfl,by decide +kernel,by decide +kernel⟩
theorem sc_law_corner_ahead:FnScope ["_law_web_here","_law_order_here","_law_end","_law_out","_law_place","_law_row","_law_at","_law_left"] ["_law_web_here","_law_order_here","_law_end","_law_out"] (defScope s_law_corner_ahead):=⟨rfl,rfl,rfl,by decide +kernel,rfl,by decide +kernel,by decide +kernel⟩
theorem sc_law_again:FnScope ["_law_web_here","_law_order_here","_law_tie","_law_found","_law_ends","_law_one","_law_other","_law_told","_law_due","_law_row"] ["_law_web_here","_law_order_here","_law_tie"] (defScope s_law_again):=⟨rfl,rfl,rfl,by decide +kernel,rfl,by decide +kernel,by decide +kernel⟩
theorem sc_law_without:FnScope ["_law_web_here","_law_order_here","_law_gone","_law_end","_law_kept","_law_low","_law_high","_law_names","_law_rows"] ["_law_web_here","_law_order_here","_law_gone","_law_end"] (defScope s_law_without):=⟨rfl,rfl,rfl,by decide +kernel,rfl,by decide +kernel,by decide +kernel⟩
theorem sc_law:FnScope ["_law_script","_law_pen_here","_law_web_here","_law_order_here","_law_last","_law_k","_law_found","_law_bare","_law_end","_law_gone","_law_corners"] ["_law_script"] (defScope s_law):=⟨rfl,rfl,rfl,by decide +kernel,rfl,by decide +kernel,by decide +kernel⟩
def Mb (mg:Str->Option Value):Prop:=∀ x ∈ ["abs","all","bool","enumerate","int","isinstance","len","list","max","min","range","tuple","zip"],mg x=none
local macro_rules | `(tactic| walk_at "js")=>`(tactic| first
 | with_reducible refine Zaj (t:=tAsg _ _) ?_
 | with_reducible refine Zaj (t:=tPar _ _ _) ?_
 | with_reducible refine Zaj (t:=tDrop _) ?_
 | with_reducible refine iteF ?_
 | with_reducible refine iteT ?_
 | with_reducible refine Za7 ?_
 | with_reducible refine Za3 ?_
 | with_reducible refine Zb4 ?_
 | with_reducible refine Zg9 ?_
 | with_reducible refine Zax ?_
 | refine Zde rfl rfl ?_
 | refine Zlf rfl rfl ?_
 | with_reducible refine Zan ?_
 | with_reducible refine Zqd ?_
 | with_reducible refine Zar ?_
 | with_reducible refine Zpo ?_
 | with_reducible refine Zow ?_
 | with_reducible refine Zeh ?_
 | with_reducible refine Za5 ?_
 | with_reducible refine Zau ?_
 | refine Zdy rfl rfl ?_
 | refine Zev rfl rfl ?_
 | with_reducible refine Zbp ?_
 | with_reducible refine Zc3 ?_
 | with_reducible refine Zpr ?_
 | with_reducible refine Zge ?_
 | with_reducible refine Zdg ?_
 | with_reducible refine Zpe ?_
 | with_reducible refine Zd7 ?_
 | with_reducible refine Zbv ?_
 | with_reducible refine Zbw ?_
 | with_reducible refine Zag ?_
 | with_reducible refine Zab ?_
 | with_reducible refine Za0 ?_
 | with_reducible refine Zdm ?_
 | with_reducible refine Zmd ?_
 | with_reducible refine Zdo ?_
 | with_reducible refine Zcd ?_
 | with_reducible refine Zcl ?_
 | with_reducible refine Zb8 ?_
 | with_reducible refine Zf9 ?_
 | with_reducible refine Zdu ?_
 | with_reducible refine Zei ?_
 | with_reducible refine Zmb ?_
 | with_reducible refine Zp8 ?_
 | with_reducible refine Zfk ?_
 | with_reducible refine Zcz ?_
 | refine Zac rfl ?_
 | refine Za4 rfl ?_
 | refine Zew rfl ?_
 | refine Zbt (Or.inl rfl) ?_
 | refine Zbt (Or.inr rfl) ?_
 | refine Zcu (Or.inl rfl) ?_
 | refine Zcu (Or.inr rfl) ?_
 | refine Zmr (Or.inl rfl) ?_
 | refine Zmr (Or.inr rfl) ?_
 | refine Zc4 ?_
 | refine ⟨⟨_,_,rfl,rfl⟩,?_⟩
 | refine ⟨_,_,_,_,rfl,rfl,rfl,rfl,?_⟩
 | refine ⟨_,rfl,?_⟩
 | refine jr_I (by first | (show (0:Int) < _; omega) | exact ⟨by omega,by omega⟩ | exact Or.inl ⟨by omega,by omega⟩ | exact Or.inr ⟨by omega,by omega⟩ | exact ⟨by decide,by decide,by decide⟩) ?_)
local macro_rules | `(tactic| walk_at "draw")=>`(tactic| first | refine Zcs rfl rfl (by assumption) (by omega) (by omega) fun _ _ _ _ _=>?_ | refine ⟨_,_,rfl,rfl,by assumption,_,rfl,by omega,by omega,fun _ _ _ _ _=>?_⟩)
def Pen (ps:List D):Prop:=∃ (cs:List Int) (at_ num:Int),ps=[.lst (cs.map .int),.int at_,.int num]/\0<=at_/\0<=num/\cs.length<=63
def fDraw:BSp:=fun ps ds Post=>Pen ps/\∃ m:Int,ds=[.int m]/\1<=m/\m<=100000000000000000000000000000000000000000000000000000000000/\∀ r ps',Pen ps' -> 0<=r->r < m->Post (.int r) ps'
abbrev LendQ (f:BSp) (i:Nat) (P:D->Evt->Prop):List D->Evt->Prop:=fun ds Δ1=>∃ y ps,Δ1[i]? = some y/\y.od=some (.lst ps)/\f ps ds fun d ps'=>P d (Δ1.set i (y.put (.lst ps')))
theorem Zdy {K:PySem.W.Frag} {Δ:Evt} {P:D->Evt->Prop} {f:BSp} {ta:TA} {E:XK} {i:Nat} {x:Slot} {od:OD} (hx:Δ[i]? = some x) (ho:x.od=some od) (h:JA K ta Δ (LendQ f i P)):JE K (tCall (spB K f) [] E (tCons (tVar i) ta)) Δ P:=Zev hx ho h
theorem Zcs {Δ1:Evt} {i:Nat} {y:Slot} {ps:List D} {m:Int} {P:D->Evt->Prop} (hx:Δ1[i]? = some y) (ho:y.od=some (.lst ps)) (hp:Pen ps) (h1:1<=m) (h2:m<=100000000000000000000000000000000000000000000000000000000000) (h:∀ r ps',Pen ps' -> 0<=r->r < m->P (.int r) (Δ1.set i (y.put (.lst ps')))) :
  LendQ fDraw i P [.int m] Δ1:=⟨y,ps,hx,ho,hp,m,rfl,h1,h2,h⟩
theorem Zox {K:PySem.W.Frag} {Δ:Evt} {E:XK} {i:Nat} {y:Slot} {ps:List D} {m:Int} {P:D->Evt->Prop} (hx:Δ[i]? = some y) (ho:y.od=some (.lst ps)) (hp:Pen ps) (h1:1<=m) (h2:m<=100000000000000000000000000000000000000000000000000000000000) (h:∀ r ps',Pen ps' -> 0<=r->r < m->P (.int r) (Δ.set i (y.put (.lst ps')))) :
  JE K (tCall (spB K fDraw) [] E (tCons (tVar i) (tCons (tC (.int m)) tNil))) Δ P:=Zdy hx ho (Zab (Zar (Zag (Zcs hx ho hp h1 h2 h))))
theorem Zmu {K:PySem.W.Frag} {Δ:Evt} {te:TE} {Q:D->Evt->Prop} (P:D->Evt->Prop) (h:JE K te Δ P) (f:∀ d Δ1,P d Δ1->Q d Δ1):JE K te Δ Q:=fun g G H σ R k c=>h g G H σ R k fun v d G' H' Δ' k' s' r p=>c v d G' H' Δ' k' s' r (f _ _ p)
section
variable {P:Program} {w:World} {K:PySem.W.Frag} {mg:Str->Option Value} {base:Heap} {f:Addr} {fd:FuncData}
theorem Zm9 (mb:Mb mg) (F:Fun K "_law_draw" "_law_draw" s_law_draw f fd):FnOk P w K mg base CX0 1 f fd ["_law_pen_here","_law_many"] (spB K fDraw):=by
 refine F.ok sc_law_draw (Zfq fun ps ds Post h=>by obtain ⟨_,m,rfl,_⟩:=h; rfl) (fun cdv A outer s H vs Q E hr h=>?_)
 have hu:=Zb7 hr
 refine ⟨_,(Zae (Zb9 (Zaw Ze9 (Zas (ixK K hu) (pv 0) Zaf (fun _ _=>rfl)) Zaf (nomark _)) (Zae (Zav (i:=2) sc_law_draw.nd rfl (by first|exact Or.inl rfl|exact Or.inr rfl) (Zap Zb5 (Zas (ixK K hu) (pv 0) Zaf (fun _ _=>rfl)) (pv 1))) (Zae (Zc1 (Zap Zgc (Zas (ixK K hu) (pv 0) Zaf (fun _ _=>rfl)) (pv 1)) (Zd1 (pv 0) Zaf (setU hu))) (Zal (Zaz (pv 2))))) Za2) (Zae (Zav (i:=3) sc_law_draw.nd rfl (by first|exact Or.inl rfl|exact Or.inr rfl) (Zas (ixK K hu) (pv 0) Zaf (fun _ _=>rfl))) (Zae (Zc1 (Zap (addK K) (pv 3) Zaf) (Zd1 (pv 0) Zaf (setU hu))) (Zae (Zav (i:=4) sc_law_draw.nd rfl (by first|exact Or.inl rfl|exact Or.inr rfl) Zaf) (Zae (Zb9 (Zaw Ze9 (Zai (lenK K) rfl (mb "len" (by decide)) Zbm (Zaa (Zas (ixK K hu) (pv 0) Zaf (fun _ _=>rfl)) Zad)) Zaf (nomark _)) (Zal (Zav (i:=4) sc_law_draw.nd rfl (by first|exact Or.inl rfl|exact Or.inr rfl) (Zas (ixK K hu) (Zas (ixK K hu) (pv 0) Zaf (fun _ _=>rfl)) (Zap Zb5 (pv 3) (Zai (lenK K) rfl (mb "len" (by decide)) Zbm (Zaa (Zas (ixK K hu) (pv 0) Zaf (fun _ _=>rfl)) Zad))) (fun _ _=>rfl)))) Za2) (Zae (Zb9 (PW.pt (pw_and (Zaw Zkj (pv 3) (Zai (lenK K) rfl (mb "len" (by decide)) Zbm (Zaa (Zas (ixK K hu) (pv 0) Zaf (fun _ _=>rfl)) Zad)) (nomark _)) (pw_and1 (Zaw Zqg (Zai Zf2 rfl (mb "abs" (by decide)) Zkq (Zaa (pv 4) Zad)) (Zap Zor Zaf Zaf) (nomark _))))) (Zae (Zc1 (Zap Zgc (Zai Zf2 rfl (mb "abs" (by decide)) Zkq (Zaa (pv 4) Zad)) (pv 1)) (Zd1 (pv 0) Zaf (setU hu))) (Zal (Zaz (Zap Zb5 (Zai Zf2 rfl (mb "abs" (by decide)) Zkq (Zaa (pv 4) Zad)) (pv 1))))) Za2) (Zae (Zav (i:=5) sc_law_draw.nd rfl (by first|exact Or.inl rfl|exact Or.inr rfl) (Zap Zb5 (Zap Zb6 (Zap (addK K) (Zap (addK K) (Zap Zb5 (pv 4) Zaf) (Zap Zb6 Zaf (pv 3))) Zaf) Zaf) Zaf)) (Zae (Zav (i:=5) sc_law_draw.nd rfl (by first|exact Or.inl rfl|exact Or.inr rfl) (Zap Zb5 (Zap (addK K) (Zap (addK K) (Zap Zb6 (pv 5) (pv 5)) (Zap Zb6 Zaf (pv 5))) (pv 3)) Zaf)) (Zal (Zaz (Zap Zb5 (Zap Zgc (Zap Zb5 (Zap Zb6 (pv 5) Zaf) Zaf) Zaf) (pv 1)))))))))))),Zk1 (fun ps ds Post hf=>?_) h⟩
 obtain ⟨⟨cs,at_,num,rfl,h1,h2,h3⟩,m,rfl,h4,h5,q⟩:=hf
 refine ⟨by simp,?_⟩
 dsimp only [cxOf,startD,List.tail,List.map,List.length,List.replicate]
 refine Zce (fun Δ=>¬ 0 < num /\ Δ = [.bor (.lst [.lst (cs.map .int),.int at_,.int num]),.val (.int m),.any,.any,.any,.any]) ?_ ?_
 ·repeat walk_at "js"
  refine ite2 (fun c=>?_) (fun c=>?_)
  ·have c:=of_decide_eq_true c
   repeat walk_at "js"
   exact q _ _ ⟨cs,at_,num / m,rfl,h1,Int.ediv_nonneg h2 (by omega),h3⟩ (Int.emod_nonneg _ (by omega)) (Int.emod_lt_of_pos _ (by omega))
  ·repeat walk_at "js"
   exact ⟨of_decide_eq_false (Bool.eq_false_iff.mpr c),rfl⟩
 rintro Δ1 ⟨hn,rfl⟩
 repeat walk_at "js"
 refine Zce (fun Δ=>∃ c:Int,Δ = [.bor (.lst [.lst (cs.map .int),.int (at_ + 1),.int num]),.val (.int m),.any,.val (.int at_),.val (.int c),.any]) ?_ ?_
 ·repeat walk_at "js"
  refine ite2 (fun c=>?_) (fun c=>?_)
  ·have c:=of_decide_eq_true c
   rw [List.length_map] at c
   repeat walk_at "js"
   rw [List.length_map]
   repeat walk_at "js"
   obtain ⟨cell,_,hc⟩:=Zkt (f:=D.int) (xs:=cs) (i:=at_ % (cs.length:Int)) (Int.emod_nonneg _ (by omega)) (Int.emod_lt_of_pos _ (by omega))
   refine Zew hc ?_
   exact ⟨cell,rfl⟩
  ·repeat walk_at "js"
   exact ⟨11,rfl⟩
 rintro Δ1 ⟨cell,rfl⟩
 refine Zce (fun Δ=>Δ = [.bor (.lst [.lst (cs.map .int),.int (at_ + 1),.int num]),.val (.int m),.any,.val (.int at_),.val (.int cell),.any]) ?_ ?_
 ·repeat walk_at "js"
  refine ite2 (fun c=>?_) (fun c=>?_)
  ·repeat walk_at "js"
   refine ite2 (fun c=>?_) (fun c=>?_)
   ·repeat walk_at "js"
    have ha:0<=(if cell < 0 then -cell else cell):=by split <;> omega
    exact q _ _ ⟨cs,at_ + 1,_,rfl,by omega,Int.ediv_nonneg ha (by omega),h3⟩ (Int.emod_nonneg _ (by omega)) (Int.emod_lt_of_pos _ (by omega))
   ·repeat walk_at "js"
    rfl
  ·repeat walk_at "js"
   rfl
 rintro Δ1 rfl
 repeat walk_at "js"
 exact q _ _ ⟨cs,at_ + 1,num,rfl,by omega,h2,h3⟩ (Int.emod_nonneg _ (by omega)) (Int.emod_lt_of_pos _ (by omega))
end
def fPen:NSp:=fun ds Post=>∃ ns:List Int,ds=[.scr (ns.map .int)]/\ns.length<=63/\∀ ps,Pen ps->Post ps
section
variable {P:Program} {w:World} {K:PySem.W.Frag} {mg:Str->Option Value} {base:Heap} {f:Addr} {fd:FuncData}
theorem Zpi (mb:Mb mg) (F:Fun K "_law_pen" "_law_pen" s_law_pen f fd):FnOk P w K mg base CX0 1 f fd ["_law_script"] (spN K fPen):=by
 refine F.ok sc_law_pen (Zmw fun ds Post h=>by obtain ⟨ns,rfl,_⟩:=h; rfl) (fun cdv A outer s H vs Q E hr h=>?_)
 have hu:=Zb7 hr
 refine ⟨_,(Zal (Zaz (Zgl (Zaa (Zch ["_law_cell"] (show CompSc (defScope s_law_pen) ["_law_script"] _ [] [] from ⟨rfl,by decide +kernel,by decide +kernel,by decide +kernel,rfl,by decide +kernel⟩) rfl (seqK K (Zbg (slK K) (pv 0) Zbx (Zbs Zaf))) (fun _ _ _ _ _=>(Zay (i:=0) (show List.Nodup (["_law_cell"]:List Str) from by decide) rfl (Or.inl rfl))) (fun _ _ _ _ _=>Zck) (fun _ _ _ _ _=>(pv 0))) (Zaa Zaf (Zaa Zaf Zad)))))),Zqw (fun ds Post hf=>?_) h⟩
 obtain ⟨ns,rfl,h1,q⟩:=hf
 refine ⟨by simp,?_⟩
 dsimp only [cxOf,startD,List.tail,List.map,List.length,List.replicate]
 refine Zn4 (Zjv (Zab (Zcg (by decide) (Zia ?_))))
 repeat walk_at "js"
 have e:cutD (ns.map D.int) none (some 63)=ns.map D.int:=by
  unfold cutD
  have e1:HT.sIx (ns.map D.int).length 0 none=0:=rfl
  have e2:HT.sIx (ns.map D.int).length (ns.map D.int).length (some 63)=ns.length:=by
   rw [List.length_map]; show min (Int.toNat 63) ns.length=_; omega
  rw [e1,e2,List.drop_zero,Nat.sub_zero,List.take_of_length_le (by simp)]
 rw [e]
 refine ⟨_,Or.inl rfl,by rw [List.length_map]; exact Nat.lt_of_le_of_lt h1 (by decide),fun _=>true,fun d=>d,fun i d hd=>?_,?_⟩
 ·repeat walk_at "js"
  exact ⟨rfl,Zac rfl ⟨rfl,_,rfl⟩⟩
 ·repeat walk_at "js"
  refine ⟨by show 3<=sizeLine; decide,_,rfl,q _ ⟨ns,0,0,?_,by decide,by decide,h1⟩⟩
  simp
end
def encTie (t:Int × Int):D:=.tup [.int t.1,.int t.2]
def encWeb (n:Int) (ts:List (Int × Int)):D:=.tup [.int n,.tup (ts.map encTie)]
structure WebOk (n:Int) (ts:List (Int × Int)):Prop where
 lo:1<=n
 hi:n<=25
 len:ts.length<=24
 tie:∀ t ∈ ts,0<=t.1/\t.1 < n/\0<=t.2/\t.2 < n
def fWeb:BSp:=fun ps ds Post=>Pen ps/\∃ a b:Int,ds=[.int a,.int b]/\1<=a/\a<=25/\0<=b/\b<=24/\∀ n ts ps',Pen ps' -> WebOk n ts->n<=a->(ts.length:Int)<=b->Post (encWeb n ts) ps'
theorem Zot {Δ1:Evt} {i:Nat} {y:Slot} {ps:List D} {a b:Int} {P:D->Evt->Prop} (hx:Δ1[i]? = some y) (ho:y.od=some (.lst ps)) (hp:Pen ps) (h1:1<=a) (h2:a<=25) (h3:0<=b) (h4:b<=24) (h:∀ n ts ps',Pen ps' -> WebOk n ts->n<=a->(ts.length:Int)<=b->P (encWeb n ts) (Δ1.set i (y.put (.lst ps')))) :
  LendQ fWeb i P [.int a,.int b] Δ1:=⟨y,ps,hx,ho,hp,a,b,rfl,h1,h2,h3,h4,h⟩
theorem Zjj:2<=sizeLine:=by decide
theorem Zgk {K:PySem.W.Frag} {Δ:Evt} {i:Nat} {v c:Int} {P:Bool->Evt->Prop} (hx:Δ[i]? = some (.val (.int v))) (h1:v=c->P true Δ) (h2:¬ v=c->P false Δ):JT K (tTest (tOp rEq (tVar i) (tC (.int c)))) Δ P:=
 Za0 (Zan (Zac hx (Zar (Zei ⟨_,rfl,by
  by_cases h:v=c
  ·rw [decide_eq_true h]; exact h1 h
  ·rw [decide_eq_false h]; exact h2 h⟩))))
def wSt (py:List D) (a b n way k:Int) (fs:List D) (i u v:Int):Evt:=[.bor (.lst py),.val (.int a),.val (.int b),.val (.int n),.val (.int way),.val (.int k),.own (.lst fs),.val (.int i),.val (.int u),.val (.int v)]
def wQ (py:List D) (a b n way k:Int) (fs:List D) (i:Int):Evt->Prop:=fun Δ=>∃ u v:Int,0<=u/\u < n/\0<=v/\v < n /\ Δ = wSt py a b n way k fs i u v
def wR (py:List D) (a b n way k:Int) (fs:List D) (i:Int):Evt->Prop:=fun Δ=>∃ u v:Int,0<=u/\u < n/\0<=v /\ Δ = wSt py a b n way k fs i u v
def wL (a b n way k:Int) (i:Nat):Evt->Prop:=fun Δ=>∃ (ps:List D) (ts:List (Int × Int)) (x7 x8 x9:Slot),Pen ps/\ts.length=i/\(∀ t ∈ ts,0<=t.1/\t.1 < n/\0<=t.2/\t.2 < n) /\ Δ = [.bor (.lst ps),.val (.int a),.val (.int b),.val (.int n),.val (.int way),.val (.int k),.own (.lst (ts.map encTie)),x7,x8,x9]
section
variable {P:Program} {w:World} {K:PySem.W.Frag} {mg:Str->Option Value} {base:Heap} {f:Addr} {fd:FuncData}
theorem Zou (mb:Mb mg) (C__law_draw:Callee P w K mg base 1 "_law_draw" ["_law_pen_here","_law_many"] (spB K fDraw)) (F:Fun K "_law_web" "_law_web" s_law_web f fd):FnOk P w K mg base CX0 2 f fd ["_law_pen_here","_law_places","_law_ties"] (spB K fWeb):=by
 refine F.ok sc_law_web (Zfq fun ps ds Post h=>by obtain ⟨_,a,b,rfl,_⟩:=h; rfl) (fun cdv A outer s H vs Q E hr h=>?_)
 have hu:=Zb7 hr
 refine ⟨_,(Zae (Zav (i:=3) sc_law_web.nd rfl (by first|exact Or.inl rfl|exact Or.inr rfl) (Zap (addK K) Zaf (Za1 C__law_draw (hr.mono (by first|decide|omega)) (Zaa (pv 0) (Zaa (pv 1) Zad))))) (Zae (Zav (i:=4) sc_law_web.nd rfl (by first|exact Or.inl rfl|exact Or.inr rfl) (Za1 C__law_draw (hr.mono (by first|decide|omega)) (Zaa (pv 0) (Zaa Zaf Zad)))) (Zae (Zav (i:=5) sc_law_web.nd rfl (by first|exact Or.inl rfl|exact Or.inr rfl) (Za1 C__law_draw (hr.mono (by first|decide|omega)) (Zaa (pv 0) (Zaa (Zap (addK K) (pv 2) Zaf) Zad)))) (Zae (Zb9 (Zaw Zcf (pv 4) Zaf (nomark _)) (Zae (Zav (i:=3) sc_law_web.nd rfl (by first|exact Or.inl rfl|exact Or.inr rfl) (pv 1)) (Zal (Zav (i:=5) sc_law_web.nd rfl (by first|exact Or.inl rfl|exact Or.inr rfl) (pv 2)))) Za2) (Zae (Zav (i:=6) sc_law_web.nd rfl (by first|exact Or.inl rfl|exact Or.inr rfl) (Zgl Zad)) (Zae (Zh2 PassesOwn.never rfl (Zcc rfl (mb "range" (by decide)) (Zaa (pv 5) Zad)) (Zay (i:=7) sc_law_web.nd rfl (by first|exact Or.inl rfl|exact Or.inr rfl)) (Zae (Zms (i:=8) (j:=9) rfl sc_law_web.nd rfl rfl (by decide) rfl rfl (Zaa (Za1 C__law_draw (hr.mono (by first|decide|omega)) (Zaa (pv 0) (Zaa (pv 3) Zad))) (Zaa (Za1 C__law_draw (hr.mono (by first|decide|omega)) (Zaa (pv 0) (Zaa (pv 3) Zad))) Zad)) rfl) (Zae (Zb9 (Zaw Zcf (pv 4) Zaf (nomark _)) (Zal (Zms (i:=8) (j:=9) rfl sc_law_web.nd rfl rfl (by decide) rfl rfl (Zaa (Zap Zb5 (pv 7) (pv 3)) (Zaa (Zap Zb5 (Zap (addK K) (pv 7) Zaf) (pv 3)) Zad)) rfl)) Za2) (Zae (Zb9 (Zaw Zcf (pv 4) Zaf (nomark _)) (Zal (Zav (i:=8) sc_law_web.nd rfl (by first|exact Or.inl rfl|exact Or.inr rfl) Zaf)) Za2) (Zae (Zb9 (Zaw Zcf (pv 4) Zaf (nomark _)) (Zal (Zav (i:=9) sc_law_web.nd rfl (by first|exact Or.inl rfl|exact Or.inr rfl) (Zap (addK K) (Zap Zb5 (pv 8) Zaf) (Zap Zb6 (Zap Zc8 (pv 9) Zaf) Zaf)))) Za2) (Zae (Zb9 (PW.pt (pw_and (Zaw Zcf (pv 4) Zaf (nomark _)) (pw_and1 (Zaw Zcf (Zap Zb5 (pv 9) Zaf) Zaf (nomark _))))) (Zal (Zav (i:=9) sc_law_web.nd rfl (by first|exact Or.inl rfl|exact Or.inr rfl) (pv 8))) Za2) (Zal (Zkl (bmK K PySem.F.plainAttrs_list PySem.F.slot_list_append PySem.F.type_list_append Zgs (pv 6) (Zaa (Zbb (Zaa (pv 8) (Zaa (Zai (Zer rfl) rfl (mb "min" (by decide)) Zfc (Zaa (pv 9) (Zaa (Zap Zdp (pv 3) Zaf) Zad))) Zad))) Zad)))))))))) (Zal (Zaz (Zbb (Zaa (pv 3) (Zaa (Za6 (tupK K) rfl (mb "tuple" (by decide)) Zbq (Zaa (pv 6) Zad)) Zad))))))))))),Zk1 (fun ps ds Post hf=>?_) h⟩
 obtain ⟨hp,a,b,rfl,h1,h2,h3,h4,q⟩:=hf
 refine ⟨by simp,?_⟩
 dsimp only [cxOf,startD,List.tail,List.map,List.length,List.replicate]
 refine Zaj (Zax (Zan (Zar (Zdy rfl rfl (Zab (Zac rfl (Zag (Zcs (m:=a) rfl rfl hp h1 (Int.le_trans h2 (by decide)) fun r0 ps0 hp0 hr0 hs0=>Zb8 ?_))))))))
 refine Zaj (Zax (Zox rfl rfl hp0 (by decide) (by decide) fun way ps1 hp1 hw0 hw1=>?_))
 refine Zaj (Zax (Zdy rfl rfl (Zab (Zbe (Zbr (Zak rfl) Zbf Zea) (Zag (Zcs (m:=b + 1) rfl rfl hp1 (Int.add_le_add h3 (Int.le_refl 1)) (Int.le_trans (Int.add_le_add h4 (Int.le_refl 1)) (by decide)) fun cnt ps2 hp2 hc0 hc1=>?_))))))
 refine Zce (fun Δ=>∃ n k:Int,1<=n/\n<=a/\0<=k/\k<=b /\ Δ = [.bor (.lst ps2),.val (.int a),.val (.int b),.val (.int n),.val (.int way),.val (.int k),.any,.any,.any,.any]) ?_ ?_
 ·refine Zb4 (Zgk rfl (fun c=>iteT ?_) (fun c=>iteF (Za7 ⟨1 + r0,cnt,Int.le_add_of_nonneg_right hr0,by omega,hc0,Int.le_of_lt_add_one hc1,rfl⟩)))
  exact Zaj (Zax (Zac rfl (Zax (Zac rfl ⟨a,b,h1,Int.le_refl _,h3,Int.le_refl _,rfl⟩))))
 rintro Δ1 ⟨n,k,hn0,hn1,hk0,hk1,rfl⟩
 have hn2:0 < n:=Int.lt_of_lt_of_le (by decide) hn0
 have hn3:n ≠ 0:=Int.ne_of_gt hn2
 refine Zaj (Zdw (Zjv (Zag ⟨by decide,?_⟩)))
 refine Zce (wL a b n way k k.toNat) ?_ ?_
 ·refine Zhy (Zcb (Zab (Zac rfl (Zag ⟨_,rfl,by omega,by omega,?_⟩))))
  refine ⟨wL a b n way k,⟨ps2,[],.any,.any,.any,hp2,rfl,fun _ h=>(nomatch h),rfl⟩,?_,fun Δ2 h=>by rw [Zb3] at h; exact h⟩
  rintro i d Δ2 hd ⟨ps,ts,x7,x8,x9,hp',hl,ht,rfl⟩
  obtain ⟨hi,rfl⟩:=Zc9 hd
  generalize (0 + (i:Int))=I
  refine Zcz (Zaj (Zg9 (Zab (Zdy rfl rfl (Zab (Zac rfl (Zag (Zcs (m:=n) rfl rfl hp' hn0 (by omega) fun x px hpx hx0 hx1=>?_))))))))
  refine Zab (Zdy rfl rfl (Zab (Zac rfl (Zag (Zcs (m:=n) rfl rfl hpx hn0 (by omega) fun y py hpy hy0 hy1=>Zag ⟨_,_,rfl,?_⟩)))))
  refine Zce (wQ py a b n way k (ts.map encTie) I) ?_ ?_
  ·refine Zb4 (Zgk rfl (fun c=>iteT ?_) (fun c=>iteF (Za7 ⟨x,y,hx0,hx1,hy0,hy1,rfl⟩)))
   exact Zg9 (Zdd (Zah (Zbr (Zak rfl) (Zak rfl) (pr_I hn2)) (Zah (Zbr (Zbr (Zak rfl) Zbf Zea) (Zak rfl) (pr_I hn2)) Zbl)) ⟨_,_,rfl,_,_,Int.emod_nonneg _ hn3,Int.emod_lt_of_pos _ hn2,Int.emod_nonneg _ hn3,Int.emod_lt_of_pos _ hn2,rfl⟩)
  rintro Δ3 ⟨u,v,hu0,hu1,hv0,hv1,rfl⟩
  refine Zce (wQ py a b n way k (ts.map encTie) I) ?_ ?_
  ·exact Zb4 (Zgk rfl (fun c=>iteT (Zax (Zar ⟨0,v,Int.le_refl _,hn2,hv0,hv1,rfl⟩))) (fun c=>iteF (Za7 ⟨u,v,hu0,hu1,hv0,hv1,rfl⟩)))
  rintro Δ3 ⟨u,v,hu0,hu1,hv0,hv1,rfl⟩
  refine Zce (wR py a b n way k (ts.map encTie) I) ?_ ?_
  ·refine Zb4 (Zgk rfl (fun c=>iteT ?_) (fun c=>iteF (Za7 ⟨u,v,hu0,hu1,hv0,rfl⟩)))
   exact Zax (Zbe (Zbr (Zbr (Zak rfl) Zbf (pr_I (show (0:Int) < 2 by decide))) (Zbr (Zbr (Zak rfl) Zbf (pr_I ⟨by decide,by decide⟩)) Zbf (pr_I (Or.inr ⟨by decide,by decide⟩))) Zea) ⟨u,_,hu0,hu1,by omega,rfl⟩)
  rintro Δ3 ⟨u,v,hu0,hu1,hv0,rfl⟩
  refine Zce (wR py a b n way k (ts.map encTie) I) ?_ ?_
  ·refine Zb4 (Zdm (Zgk rfl (fun c=>iteT ?_) (fun c=>iteF (iteF (Za7 ⟨u,v,hu0,hu1,hv0,rfl⟩)))))
   refine Za0 (Zan (Zbe (Zbr (Zak rfl) Zbf (pr_I (show (0:Int) < 2 by decide))) (Zar (Zei ⟨_,rfl,ite2 (fun c=>?_) (fun c=>Za7 ⟨u,v,hu0,hu1,hv0,rfl⟩)⟩))))
   exact Zax (Zac rfl ⟨u,u,hu0,hu1,hu0,rfl⟩)
  rintro Δ3 ⟨u,v,hu0,hu1,hv0,rfl⟩
  refine Zo3 rfl rfl (Zbp (Zab (Zac rfl (Zab (Za5 (Zab (Zac rfl (Zab (Zbe (Zbr (Zak rfl) Zbf Zlh) (Zag (Zfk (Zag ?_))))))))))))
  refine ⟨Zjj,_,_,rfl,rfl,?_,py,ts ++ [(u,if n - 1 < v then n - 1 else v)],.val (.int I),.val (.int u),.val (.int v),hpy,by rw [List.length_append,hl]; rfl,fun t h=>?_,?_⟩
  ·rw [List.length_map]; exact small1000 (by omega)
  ·rcases List.mem_append.mp h with h | h
   ·exact ht t h
   ·rw [List.mem_singleton.mp h]
    refine ⟨hu0,hu1,?_,?_⟩
    ·show 0<=(if n - 1 < v then n - 1 else v); split <;> omega
    ·show (if n - 1 < v then n - 1 else v) < n; split <;> omega
  ·rw [List.map_append]; rfl
 rintro Δ1 ⟨ps3,ts,x7,x8,x9,hp3,hl,ht,rfl⟩
 refine Za3 (Zbp (Zab (Zac rfl (Zab (Za5 (Zab (Zfl rfl (Zag (Zcu (Or.inl rfl) (Zag ⟨Zjj,?_⟩))))))))))
 exact ⟨_,rfl,q n ts _ hp3 ⟨hn0,by omega,by omega,ht⟩ hn1 (by omega)⟩
end
def placeAt (ts:List (Int × Int)) (e:Nat):Int:=match ts[e / 2]? with
 | some t=>if e % 2=0 then t.1 else t.2
 | none=>-1
def encRow (r:List Int):D:=.tup (r.map .int)
def encOrd (o:List (List Int)):D:=.tup (o.map encRow)
def endsBelow (ts:List (Int × Int)) (m:Nat) (p:Int):List Int:=((List.range m).filter fun e=>decide (placeAt ts e=p)).map fun e:Nat=>(e:Int)
structure RowOk (ts:List (Int × Int)) (m:Nat) (p:Int) (r:List Int):Prop where
 perm:r.Perm (endsBelow ts m p)
 first:r.head? = (endsBelow ts m p).head?
structure OrdOk (n:Int) (ts:List (Int × Int)) (o:List (List Int)):Prop where
 len:(o.length:Int)=n
 row:∀ (p:Nat) r,o[p]? = some r->RowOk ts (2 * ts.length) (p:Int) r
theorem Zdn (ts:List (Int × Int)) (k:Nat) (p:Int):endsBelow ts (k + 1) p=endsBelow ts k p ++ (if placeAt ts k=p then [(k:Int)] else []):=by
 unfold endsBelow
 rw [List.range_succ,List.filter_append,List.map_append]
 congr 1
 by_cases h:placeAt ts k=p
 ·simp [List.filter_cons,h]
 ·simp [List.filter_cons,h]
theorem Zfw (ts:List (Int × Int)) (m:Nat) (p:Int):(endsBelow ts m p).length<=m:=by
 unfold endsBelow
 rw [List.length_map]
 exact Nat.le_trans (List.length_filter_le _ _) (by rw [List.length_range]; exact Nat.le_refl _)
theorem RowOk.len {ts:List (Int × Int)} {m:Nat} {p:Int} {r:List Int} (h:RowOk ts m p r):r.length<=m:=by rw [h.perm.length_eq]; exact Zfw ts m p
theorem RowOk.stay {ts:List (Int × Int)} {k:Nat} {p:Int} {r:List Int} (h:RowOk ts k p r) (hp:placeAt ts k ≠ p):RowOk ts (k + 1) p r:=by
 have e:=Zdn ts k p
 rw [if_neg hp,List.append_nil] at e
 exact ⟨by rw [e]; exact h.perm,by rw [e]; exact h.first⟩
theorem RowOk.put {ts:List (Int × Int)} {k j:Nat} {p:Int} {r:List Int} (h:RowOk ts k p r) (hp:placeAt ts k=p) (hj:j<=r.length) (h1:r ≠ []->1<=j):RowOk ts (k + 1) p (r.take j ++ (k:Int) :: r.drop j):=by
 have e:=Zdn ts k p
 rw [if_pos hp] at e
 refine ⟨?_,?_⟩
 ·rw [e]
  refine List.perm_middle.trans ?_
  rw [List.take_append_drop]
  exact (List.Perm.cons _ h.perm).trans (List.perm_append_singleton _ _).symm
 ·rw [e]
  cases r with
  | nil=>
   have z:endsBelow ts k p=[]:=List.Perm.eq_nil h.perm.symm
   rw [z]
   have:j=0:=by simpa using hj
   subst this
   rfl
  | cons x r'=>
   have h2:=h1 (by simp)
   obtain ⟨j',rfl⟩:∃ j',j=j' + 1:=⟨j - 1,by omega⟩
   have h3:=h.first
   show some x=_
   cases q:endsBelow ts k p with
   | nil=>rw [q] at h3; cases h3
   | cons y l=>rw [q] at h3; exact h3
theorem Zh3 {ts:List (Int × Int)} {k:Nat} (h:k < 2 * ts.length):∃ t,ts[k / 2]? = some t/\atI (ts.map encTie) ((0 + (k:Int)) / 2)=some (encTie t)/\atI [D.int t.1,D.int t.2] ((0 + (k:Int)) % 2)=some (.int (placeAt ts k)):=by
 have hk:k / 2 < ts.length:=by omega
 refine ⟨ts[k / 2],List.getElem?_eq_getElem hk,?_,?_⟩
 ·have e:(0 + (k:Int)) / 2=((k / 2:Nat):Int):=by omega
  rw [e]
  exact Zbh (by rw [List.getElem?_map,List.getElem?_eq_getElem hk]; rfl)
 ·have e2:placeAt ts k=if k % 2=0 then ts[k / 2].1 else ts[k / 2].2:=by
   unfold placeAt; rw [List.getElem?_eq_getElem hk]
  rw [e2]
  have e:(0 + (k:Int)) % 2=((k % 2:Nat):Int):=by omega
  rw [e]
  by_cases h0:k % 2=0
  ·rw [if_pos h0,h0]; exact Zbh rfl
  ·have h1:k % 2=1:=by omega
   rw [if_neg h0,h1]; exact Zbh rfl
theorem Zca {n:Int} {ts:List (Int × Int)} (hW:WebOk n ts) {k:Nat} (h:k < 2 * ts.length):0<=placeAt ts k/\placeAt ts k < n:=by
 have hk:k / 2 < ts.length:=by omega
 have:=hW.tie _ (List.getElem_mem hk)
 unfold placeAt
 rw [List.getElem?_eq_getElem hk]
 dsimp only
 split <;> omega
def fOrder:BSp:=fun ps ds Post=>Pen ps/\∃ n ts,ds=[encWeb n ts]/\WebOk n ts/\∀ o ps',Pen ps' -> OrdOk n ts o->Post (encOrd o) ps'
theorem Zl0 {Δ1:Evt} {i:Nat} {y:L2.Slot} {ps:List D} {n:Int} {ts:List (Int × Int)} {P:D->Evt->Prop} (hx:Δ1[i]? = some y) (ho:y.od=some (.lst ps)) (hp:Pen ps) (hW:WebOk n ts) (h:∀ o ps',Pen ps' -> OrdOk n ts o->P (encOrd o) (Δ1.set i (y.put (.lst ps')))) :
  LendQ fOrder i P [encWeb n ts] Δ1:=⟨y,ps,hx,ho,hp,n,ts,rfl,hW,h⟩
def oSt (ps:List D) (n:Int) (ts:List (Int × Int)) (cs:List (Addr × List Int)) (x3 x4:L2.Slot):Evt:=.bor (.lst ps) :: .val (encWeb n ts) :: .val (.lst (cs.map fun c=>D.adr c.1)) :: x3 :: x4 :: (cs.map (fun c=>L2.Slot.ownA c.1 (.lst (c.2.map D.int))) ++ List.replicate (25 - n.toNat) .any)
def oP (n:Int) (ts:List (Int × Int)) (k:Nat):Evt->Prop:=fun Δ=>∃ (ps:List D) (cs:List (Addr × List Int)) (x3 x4:L2.Slot),Pen ps/\cs.length=n.toNat/\(∀ (p:Nat) c,cs[p]? = some c->RowOk ts k (p:Int) c.2) /\ Δ = oSt ps n ts cs x3 x4
theorem Zku {n:Int} {ts:List (Int × Int)} {ps:List D} {as:List Addr} (hn2:n<=25) (hal:as.length=(List.map (fun _=>OD.lst []) ((rngD 0 n.toNat).filter fun _=>true)).length):∃ cs:List (Addr × List Int),cs.length=n.toNat/\(∀ (p:Nat) c,cs[p]? = some c->c.2=[]) ∧
  L2.putN 5 (as.zip (List.map (fun _=>OD.lst []) ((rngD 0 n.toNat).filter fun _=>true))) ([.bor (.lst ps),.val (encWeb n ts),.val (.lst (as.map D.adr)),.any,.any] ++ List.replicate 25 .any)=oSt ps n ts cs .any .any:=by
 have eR:(rngD 0 n.toNat).filter (fun _=>true)=rngD 0 n.toNat:=by simp
 rw [eR,List.length_map,Zb3] at hal
 have eO:(rngD 0 n.toNat).map (fun _=>OD.lst [])=List.replicate n.toNat (OD.lst []):=by
  rw [List.map_const',Zb3]
 rw [eR,eO]
 generalize hcs:as.map (fun a=>((a,[]):Addr × List Int))=cs
 have hcl:cs.length=n.toNat:=by rw [<- hcs,List.length_map,hal]
 have e1:as.map D.adr=cs.map fun c=>D.adr c.1:=by rw [<- hcs,List.map_map]; rfl
 have e2:as.zip (List.replicate n.toNat (OD.lst []))=cs.map fun c=>(c.1,OD.lst (c.2.map D.int)):=by
  rw [<- hcs,List.map_map,<- hal]
  clear e1 hcl hcs hal
  induction as with
  | nil=>rfl
  | cons a r ih=>rw [List.length_cons,List.replicate_succ,List.zip_cons_cons,ih]; rfl
 have e3:=Zkn (cs.map fun c=>(c.1,OD.lst (c.2.map D.int))) [.bor (.lst ps),.val (encWeb n ts),.val (.lst (cs.map fun c=>D.adr c.1)),.any,.any] [] 25 (by rw [List.length_map]; omega)
 rw [List.append_nil,List.append_nil,List.map_map,List.length_map,hcl] at e3
 refine ⟨cs,hcl,fun p c hc=>?_,by rw [e1,e2]; exact e3⟩
 rw [<- hcs,List.getElem?_map] at hc
 cases q:as[p]? with
 | none=>rw [q] at hc; cases hc
 | some a=>rw [q] at hc; cases hc; rfl
theorem Zov {ps:List D} {n:Int} {ts:List (Int × Int)} {cs:List (Addr × List Int)} {x3 x4:L2.Slot} {p:Nat} {c:Addr × List Int} (h:cs[p]? = some c):(oSt ps n ts cs x3 x4)[p + 5]? = some (.ownA c.1 (.lst (c.2.map D.int))):=by
 show (cs.map (fun c=>L2.Slot.ownA c.1 (.lst (c.2.map D.int))) ++ List.replicate (25 - n.toNat) .any)[p]? = _
 rw [List.getElem?_append_left (by rw [List.length_map]; exact (List.getElem?_eq_some_iff.mp h).1),List.getElem?_map,h]; rfl
theorem Zm6 {ps ps':List D} {n:Int} {ts:List (Int × Int)} {cs:List (Addr × List Int)} {x3 x4:L2.Slot} {p:Nat} {c:Addr × List Int} {r:List Int} {v:L2.Slot} (h:cs[p]? = some c) (hv:v=.ownA c.1 (.lst (r.map D.int))):(oSt ps n ts cs x3 x4).set (p + 5) v=oSt ps n ts (cs.set p (c.1,r)) x3 x4:=by
 have hp:=(List.getElem?_eq_some_iff.mp h).1
 have ea:(cs.set p (c.1,r)).map (fun c=>D.adr c.1)=cs.map fun c=>D.adr c.1:=by
  rw [List.map_set]
  apply List.ext_getElem?
  intro i
  by_cases hii:i=p
  ·subst hii
   rw [List.getElem?_set_self (by rw [List.length_map]; exact hp),List.getElem?_map,h]; rfl
  ·rw [List.getElem?_set_ne (Ne.symm hii)]
 unfold oSt
 rw [ea,List.map_set,hv,<- List.set_append_left _ _ (by rw [List.length_map]; exact hp)]
 rfl
section
variable {P:Program} {w:World} {K:PySem.W.Frag} {mg:Str->Option Value} {base:Heap} {f:Addr} {fd:FuncData}
theorem Zlx (mb:Mb mg) (C__law_draw:Callee P w K mg base 1 "_law_draw" ["_law_pen_here","_law_many"] (spB K fDraw)) (F:Fun K "_law_order" "_law_order" s_law_order f fd):FnOk P w K mg base CX0 2 f fd ["_law_pen_here","_law_web_here"] (spB K fOrder):=by
 refine F.ok sc_law_order (Zfq fun ps ds Post h=>by obtain ⟨_,n,ts,rfl,_⟩:=h; rfl) (fun cdv A outer s H vs Q E hr h=>?_)
 have hu:=Zb7 hr
 refine ⟨_,(Zae (Zlg 5 (show ∀ x ∈ (["_law_pen_here","_law_web_here","_law_rows","_law_k","_law_row","!0","!1","!2","!3","!4","!5","!6","!7","!8","!9","!10","!11","!12","!13","!14","!15","!16","!17","!18","!19","!20","!21","!22","!23","!24"]:List Str).drop 5,(defScope s_law_order).names.lookup x=none from by decide +kernel) (Zc7 (i:=2) ["_law_place"] (show CompSc (defScope s_law_order) ["_law_pen_here","_law_web_here","_law_rows","_law_k","_law_row","!0","!1","!2","!3","!4","!5","!6","!7","!8","!9","!10","!11","!12","!13","!14","!15","!16","!17","!18","!19","!20","!21","!22","!23","!24"] _ [] [] from ⟨rfl,by decide +kernel,by decide +kernel,by decide +kernel,rfl,by decide +kernel⟩) rfl sc_law_order.nd rfl (by first|exact Or.inl rfl|exact Or.inr rfl) (Zcc rfl (mb "range" (by decide)) (Zaa (Zas (ixK K hu) (pv 1) Zaf (fun _ _=>rfl)) Zad)) (fun _ _ _ _ _=>(Zay (i:=0) (show List.Nodup (["_law_place"]:List Str) from by decide) rfl (Or.inl rfl))) (fun _ _ _ _ _=>Zck) (fun _ _ _ _ _=>(Zgl Zad)))) (Zae (Zh2 PassesOwn.never rfl (Zcc rfl (mb "range" (by decide)) (Zaa (Zap Zb6 Zaf (Zai (lenK K) rfl (mb "len" (by decide)) Zbm (Zaa (Zas (ixK K hu) (pv 1) Zaf (fun _ _=>rfl)) Zad))) Zad)) (Zay (i:=3) sc_law_order.nd rfl (by first|exact Or.inl rfl|exact Or.inr rfl)) (Zae (Zav (i:=4) sc_law_order.nd rfl (by first|exact Or.inl rfl|exact Or.inr rfl) (Zas (ixK K hu) (pv 2) (Zas (ixK K hu) (Zas (ixK K hu) (Zas (ixK K hu) (pv 1) Zaf (fun _ _=>rfl)) (Zap Zc8 (pv 3) Zaf) (fun _ _=>rfl)) (Zap Zb5 (pv 3) Zaf) (fun _ _=>rfl)) (fun _ _=>rfl))) (Zal (Zkl (bmK K PySem.F.plainAttrs_list PySem.F.slot_list_insert PySem.F.type_list_insert Zjc (pv 4) (Zaa (Zai (Zer rfl) rfl (mb "min" (by decide)) Zfc (Zaa (Zai (lenK K) rfl (mb "len" (by decide)) Zbm (Zaa (pv 4) Zad)) (Zaa (Zap (addK K) Zaf (Za1 C__law_draw (hr.mono (by first|decide|omega)) (Zaa (pv 0) (Zaa (Zai (Zgw rfl) rfl (mb "max" (by decide)) Zkh (Zaa Zaf (Zaa (Zai (lenK K) rfl (mb "len" (by decide)) Zbm (Zaa (pv 4) Zad)) Zad))) Zad)))) Zad))) (Zaa (pv 3) Zad))))))) (Zal (Zaz (Za6 (tupK K) rfl (mb "tuple" (by decide)) Zbq (Zaa (Zch ["_law_row"] (show CompSc (defScope s_law_order) ["_law_pen_here","_law_web_here","_law_rows","_law_k","_law_row","!0","!1","!2","!3","!4","!5","!6","!7","!8","!9","!10","!11","!12","!13","!14","!15","!16","!17","!18","!19","!20","!21","!22","!23","!24"] _ [] [] from ⟨rfl,by decide +kernel,by decide +kernel,by decide +kernel,rfl,by decide +kernel⟩) rfl (seqK K (pv 2)) (fun _ _ _ _ _=>(Zay (i:=0) (show List.Nodup (["_law_row"]:List Str) from by decide) rfl (Or.inl rfl))) (fun _ _ _ _ _=>Zck) (fun _ _ _ _ _=>(Za6 (tupK K) rfl (mb "tuple" (by decide)) Zbq (Zaa (pv 0) Zad)))) Zad)))))),Zk1 (fun ps ds Post hf=>?_) h⟩
 obtain ⟨hp,n,ts,rfl,hW,q⟩:=hf
 refine ⟨by simp,?_⟩
 dsimp only [cxOf,startD,List.tail,List.map,List.length]
 have hn:=hW.lo
 have hn2:=hW.hi
 have hts:=hW.len
 -- the rows
 refine Zaj (Znq (Zlu (by decide) (Zcb ?_)))
 refine Zab (Zan (Zac rfl (Zar (Za4 (d:=.int n) rfl (Zag ⟨n,rfl,by omega,by omega,?_⟩)))))
 refine ⟨by rw [Zb3]; exact small1000 (by omega),fun _=>true,fun _=>.lst [],fun i d hd=>?_,by decide,?_,fun as hal hnd=>?_⟩
 ·exact Zcl ⟨rfl,Zjv (Zag ⟨by decide,rfl,_,rfl⟩)⟩
 ·rw [List.length_map]
  have e:((rngD 0 n.toNat).filter fun _=>true).length<=25:=Nat.le_trans (List.length_filter_le _ _) (by rw [Zb3]; omega)
  show 5 + _<=30
  omega
 obtain ⟨cs,hcl,hce,e⟩:=Zku (ps:=ps) (ts:=ts) hn2 hal
 refine Eq.mpr (congrArg (fun Δ=>JS K _ Δ _) e) ?_
 -- the loop
 refine Zce (oP n ts (2 * ts.length)) ?_ ?_
 ·refine Zhy (Zcb (Zab (Zbe (Zbr Zbf (Zd9 (Zba (ds:=[.int n,.tup (ts.map encTie)]) rfl rfl)) (pr_I (Or.inl ⟨by decide,by decide⟩))) (Zag ⟨_,rfl,?_,?_,?_⟩))))
  ·rw [List.length_map]; omega
  ·rw [List.length_map]; omega
  have eL:((2:Int) * ((ts.map encTie).length:Int)).toNat=2 * ts.length:=by rw [List.length_map]; omega
  refine ⟨oP n ts,⟨ps,cs,.any,.any,hp,hcl,fun p c hc=>by rw [hce p c hc]; exact ⟨List.Perm.refl _,rfl⟩,rfl⟩,?_,fun Δ h=>by rw [Zb3,eL] at h; exact h⟩
  ·rintro k d Δ2 hd ⟨ps,cs,x3,x4,hp,hcl,hrow,rfl⟩
   rw [eL] at hd
   obtain ⟨hk,rfl⟩:=Zc9 hd
   obtain ⟨t,ht1,ht2,ht3⟩:=Zh3 hk
   obtain ⟨pl0,pl1⟩:=Zca hW hk
   obtain ⟨c,hc1,hc2⟩:=Zkt (f:=fun c:Addr × List Int=>D.adr c.1) (xs:=cs) (i:=placeAt ts k) pl0 (by omega)
   have hR:=hrow _ c hc1
   have hRl:=hR.len
   have ep:((placeAt ts k).toNat:Int)=placeAt ts k:=Int.toNat_of_nonneg pl0
   have hsl:∀ (ps:List D) (x3 x4:L2.Slot),(oSt ps n ts cs x3 x4)[(placeAt ts k).toNat + 5]? = some (.ownA c.1 (.lst (c.2.map D.int))):=fun ps x3 x4=>Zov hc1
   have hlen:(c.2.map D.int).length=c.2.length:=List.length_map _
   refine Zcz (Zaj (Zax (Zbe (Zkr (d:=.adr c.1) (Zak rfl) (Zcw (Zcw (Zba (d:=.tup (ts.map encTie)) rfl rfl) (Zbr (Zak rfl) Zbf (pr_I ⟨by decide,by decide⟩)) ht2) (Zbr (Zak rfl) Zbf (pr_I (by show (0:Int) < 2; decide))) ht3) hc2) ?_)))
   refine Znf (a:=c.1) rfl (hsl ps _ _) ?_
   refine Za5 (Zab (Zky rfl (hsl ps _ _) (Zab (Zan (Zar (Zdy rfl rfl (Zab (Za5 (Zab (Zar (Zab (Zky rfl (hsl ps _ _) (Zag (Zfk (Zag ?_)))))))))))))))
   refine Zcs rfl rfl hp (by split <;> omega) (by split <;> omega) fun r ps' hp' hr0 hr1=>?_
   refine Zb8 (Zag (Zfk (Zac rfl ⟨_,_,_,rfl,hsl ps' _ _,by rw [hlen]; exact small1000 (by omega),by split <;> omega,by split <;> omega,?_⟩)))
   generalize hi:insI (c.2.map D.int).length (if 1 + r < ((c.2.map D.int).length:Int) then 1 + r else ((c.2.map D.int).length:Int))=j
   have hj:j<=c.2.length/\(c.2 ≠ []->1<=j):=by
    rw [<- hi,hlen]
    unfold insI
    refine ⟨?_,fun h=>?_⟩
    ·split <;> split <;> omega
    ·have:=List.length_pos_iff.mpr h
     split <;> split <;> omega
   refine ⟨ps',cs.set (placeAt ts k).toNat (c.1,c.2.take j ++ (k:Int) :: c.2.drop j),.val (.int (0 + (k:Int))),.val (.adr c.1),hp',by rw [List.length_set]; exact hcl,fun p c' hc'=>?_,Zm6 (ps:=ps') (ps':=ps') hc1 ?_⟩
   ·by_cases hpp:p=(placeAt ts k).toNat
    ·subst hpp
     rw [List.getElem?_set_self (by omega)] at hc'
     cases hc'
     exact hR.put (by omega) hj.1 hj.2
    ·rw [List.getElem?_set_ne (Ne.symm hpp)] at hc'
     exact (hrow p c' hc').stay (by omega)
   ·rw [List.map_append,List.map_take,List.map_cons,List.map_drop,Int.zero_add]
 -- the end
 rintro Δ1 ⟨ps3,cs3,x3,x4,hp3,hcl3,hrow3,rfl⟩
 refine JS.conv (Δ':=.bor (.lst ps3) :: .val (encWeb n ts) :: .val (.lst (cs3.map fun c=>D.lst (c.2.map D.int))) :: x3 :: x4 :: (List.replicate cs3.length .any ++ List.replicate (25 - n.toNat) .any)) (fun g G H σ k=>?_) ?_
 ·have:=Ok.thaw (cs:=cs3.map fun c=>(c.1,c.2.map D.int)) (R:=[.bor (.lst ps3),.val (encWeb n ts),.val (.lst (cs3.map fun c=>D.adr c.1)),x3,x4]) (T:=List.replicate (25 - n.toNat) .any) (i:=2) (g:=g) (G:=G) (H:=H) (σ:=σ) (K:=K) (by rw [List.map_map]; exact k) (by rw [List.map_map]; rfl)
  rw [List.map_map,List.length_map] at this
  exact this
 refine Za3 (Za5 (Zab (Zcg (by decide) (Zia (Zac rfl ⟨_,Or.inl rfl,?_,fun _=>true,fun d=>match d with | .lst ds=>.tup ds | d=>d,fun i d hd=>?_,?_⟩)))))
 ·rw [List.length_map]; exact small1000 (by omega)
 ·rw [List.getElem?_map] at hd
  cases q:cs3[i]? with
  | none=>rw [q] at hd; cases hd
  | some c=>
   rw [q] at hd
   have hd:D.lst (c.2.map D.int)=d:=by simpa using hd
   subst hd
   exact Zcl ⟨rfl,Za5 (Zab (Zac rfl (Zag (Zcu (Or.inl rfl) ⟨rfl,_,rfl⟩))))⟩
 ·refine Zag (Zcu (Or.inl rfl) ⟨ps3,rfl,?_⟩)
  have e:((cs3.map fun c=>D.lst (c.2.map D.int)).filter fun _=>true).map (fun d=>match d with | .lst ds=>D.tup ds | d=>d)=(cs3.map (·.2)).map encRow:=by
   rw [List.filter_eq_self.mpr (by simp),List.map_map,List.map_map]
   rfl
  rw [e]
  exact q _ _ hp3 ⟨by rw [List.length_map]; omega,fun p r hr=>by
   rw [List.getElem?_map] at hr
   cases z:cs3[p]? with
   | none=>rw [z] at hr; cases hr
   | some c=>rw [z] at hr; cases hr; exact hrow3 p c z⟩
end
def nextIn (r:List Int) (x:Int):Int:=r.getD ((r.idxOf x + 1) % r.length) 0
def partner (e:Nat):Nat:=if e % 2=0 then e + 1 else e - 1
theorem Za8 {ts:List (Int × Int)} {m:Nat} {p x:Int}:x ∈ endsBelow ts m p ↔ ∃ e:Nat,e < m/\placeAt ts e=p/\(e:Int)=x:=by
 unfold endsBelow
 rw [List.mem_map]
 constructor
 ·rintro ⟨e,he,rfl⟩
  rw [List.mem_filter,List.mem_range] at he
  exact ⟨e,he.1,of_decide_eq_true he.2,rfl⟩
 ·rintro ⟨e,h1,h2,rfl⟩
  exact ⟨e,by rw [List.mem_filter,List.mem_range]; exact ⟨h1,decide_eq_true h2⟩,rfl⟩
theorem Zbk (ts:List (Int × Int)) (m:Nat) (p:Int):(endsBelow ts m p).Nodup:=by
 unfold endsBelow
 refine List.Pairwise.map _ (fun a b h=>?_) (List.Pairwise.filter _ List.nodup_range)
 intro e; exact h (by omega)
theorem RowOk.nodup {ts:List (Int × Int)} {m:Nat} {p:Int} {r:List Int} (h:RowOk ts m p r):r.Nodup:=h.perm.nodup_iff.mpr (Zbk ts m p)
theorem RowOk.mem {ts:List (Int × Int)} {m:Nat} {p x:Int} {r:List Int} (h:RowOk ts m p r):x ∈ r ↔ ∃ e:Nat,e < m/\placeAt ts e=p/\(e:Int)=x:=h.perm.mem_iff.trans Za8
theorem Zbo {r:List Int} {x:Int} (h:x ∈ r):r.idxOf x < r.length/\r[r.idxOf x]? = some x/\∀ m,m < r.idxOf x->r[m]? ≠ some x:=by
 have hl:=List.idxOf_lt_length_of_mem h
 refine ⟨hl,?_,fun m hm e=>?_⟩
 ·rw [List.getElem?_eq_getElem hl,List.getElem_idxOf hl]
 ·obtain ⟨h1,h2⟩:=List.getElem?_eq_some_iff.mp e
  have:=List.not_of_lt_findIdx (p:=(· == x)) (xs:=r) hm
  rw [h2] at this
  simp at this
theorem Zqe (k:Nat):k ||| 1=2 * (k / 2) + 1:=by
 apply Nat.eq_of_testBit_eq
 intro i
 rw [Nat.testBit_or]
 cases i with
 | zero=>rw [Nat.testBit_zero,Nat.testBit_zero,Nat.testBit_zero]; simp
 | succ i=>
  rw [Nat.testBit_succ,Nat.testBit_succ,Nat.testBit_succ,show (2 * (k / 2) + 1) / 2=k / 2 by omega]
  simp
theorem Zny (k:Nat):Builtin.bitXor (k:Int) 1=(partner k:Int):=by
 have e1:Builtin.bitAnd (k:Int) 1=((k % 2:Nat):Int):=by
  unfold Builtin.bitAnd
  rw [decide_eq_true (show (0:Int)<=(k:Int) by omega),decide_eq_true (show (0:Int)<=1 by decide)]
  show ((((k:Int).toNat &&& (1:Int).toNat:Nat)):Int)=_
  rw [Int.toNat_natCast,show (1:Int).toNat=1 from rfl,Nat.and_one_is_mod]
 have e2:Builtin.bitOr (k:Int) 1=((2 * (k / 2) + 1:Nat):Int):=by
  unfold Builtin.bitOr Builtin.bitAnd
  rw [decide_eq_false (show ¬ (0:Int)<=Builtin.bitNot (k:Int) by unfold Builtin.bitNot; omega),decide_eq_false (show ¬ (0:Int)<=Builtin.bitNot 1 by decide)]
  show Builtin.bitNot (Builtin.bitNot (((Builtin.bitNot (Builtin.bitNot (k:Int))).toNat ||| (Builtin.bitNot (Builtin.bitNot 1)).toNat:Nat):Int))=_
  have n1:∀ x:Int,Builtin.bitNot (Builtin.bitNot x)=x:=fun x=>by unfold Builtin.bitNot; omega
  rw [n1,n1,n1,Int.toNat_natCast,show (1:Int).toNat=1 from rfl,Zqe]
 unfold Builtin.bitXor
 rw [e1,e2]
 unfold partner
 split <;> omega
theorem Zed (ts:List (Int × Int)) (m:Nat) (p:Int):(endsBelow ts m p).Pairwise (· < ·):=by
 unfold endsBelow
 refine List.Pairwise.map _ (fun a b h=>?_) (List.Pairwise.filter _ List.pairwise_lt_range)
 omega
theorem RowOk.least {ts:List (Int × Int)} {m:Nat} {p x:Int} {r:List Int} (h:RowOk ts m p (x :: r)):∀ a ∈ r,x<=a:=by
 intro a ha
 have h1:=h.first
 have h2:=Zed ts m p
 have h3:a ∈ endsBelow ts m p:=h.perm.mem_iff.mp (List.mem_cons_of_mem _ ha)
 cases q:endsBelow ts m p with
 | nil=>rw [q] at h1; cases h1
 | cons y l=>
  rw [q] at h1 h2 h3
  have e:x=y:=Option.some.inj h1
  subst e
  rcases List.mem_cons.mp h3 with z | z
  ·omega
  ·have:=(List.pairwise_cons.mp h2).1 a z; omega
def rotAt (l:List Int) (j:Nat):List Int:=l.drop j ++ l.take j
theorem Zc5:∀ (l:List Int),l ≠ []->∃ m,m ∈ l/\∀ a ∈ l,m<=a
 | [],h=>absurd rfl h
 | [x],_=>⟨x,List.mem_cons_self,fun a ha=>by rw [List.mem_singleton.mp ha]; exact Int.le_refl _⟩
 | x :: y :: l,_=>by
  obtain ⟨m,h1,h2⟩:=Zc5 (y :: l) (by simp)
  by_cases h:x<=m
  ·refine ⟨x,List.mem_cons_self,fun a ha=>?_⟩
   rcases List.mem_cons.mp ha with z | z
   ·omega
   ·have:=h2 a z; omega
  ·refine ⟨m,List.mem_cons_of_mem _ h1,fun a ha=>?_⟩
   rcases List.mem_cons.mp ha with z | z
   ·omega
   ·exact h2 a z
def pvI (n k:Nat):Nat:=if k=0 then n - 1 else k - 1
theorem Zni {r:List Int} {k:Nat} (hk:k < r.length):atI (r.map D.int) ((k:Int) - 1)=some (.int (r.getD (pvI r.length k) 0)):=by
 unfold pvI
 by_cases h0:k=0
 ·subst h0
  rw [if_pos rfl]
  obtain ⟨r',y,rfl⟩:∃ r' y,r=r' ++ [y]:=⟨r.dropLast,r.getLast (by intro z; subst z; simp at hk),(List.dropLast_concat_getLast _).symm⟩
  show atI ((r' ++ [y]).map D.int) (-1)=_
  rw [List.map_append,List.map_singleton,Zk3]
  simp
 ·rw [if_neg h0,show (k:Int) - 1=((k - 1:Nat):Int) by omega]
  exact Zbh (by rw [List.getElem?_map,List.getD_eq_getElem?_getD,List.getElem?_eq_getElem (by omega:k - 1 < r.length)]; rfl)
theorem Zcq (ds:List D) {j:Nat} (h:j<=ds.length):cutD ds (some (j:Int)) none=ds.drop j:=by
 unfold cutD
 rw [HT.sIx_nat,HT.sIx_none,Nat.min_eq_left h,List.take_of_length_le (by rw [List.length_drop]; exact Nat.le_refl _)]
theorem Zec (ds:List D) {j:Nat} (h:j<=ds.length):cutD ds none (some (j:Int))=ds.take j:=by
 unfold cutD
 rw [HT.sIx_nat,HT.sIx_none,Nat.min_eq_left h,List.drop_zero,Nat.sub_zero]
section
variable {P:Program} {w:World} {K:PySem.W.Frag} {mg:Str->Option Value} {base:Heap} {f:Addr} {fd:FuncData}
def fPlace:DSp:=fun ds Post=>∃ n ts,∃ e:Nat,ds=[encWeb n ts,.int e]/\e < 2 * ts.length/\Post (.int (placeAt ts e))
def fWhole:DSp:=fun ds Post=>∃ e:Int,ds=[.int e]/\Post (.bl true)
theorem Zll (mb:Mb mg) (F:Fun K "place_of" "place_of" s_place_of f fd):FnOk P w K mg base CX0 1 f fd ["web","end"] (spD K fPlace):=by
 refine F.ok sc_place_of (Zbd fun ds Post h=>by obtain ⟨_,_,_,rfl,_⟩:=h; rfl) (fun cdv A outer s H vs Q E hr h=>?_)
 have hu:=Zb7 hr
 refine ⟨_,(Zal (Zaz (Zas (ixK K hu) (Zas (ixK K hu) (Zas (ixK K hu) (pv 0) Zaf (fun _ _=>rfl)) (Zap Zc8 (pv 1) Zaf) (fun _ _=>rfl)) (Zap Zb5 (pv 1) Zaf) (fun _ _=>rfl)))),Zcp (fun ds Post hf=>?_) h⟩
 obtain ⟨n,ts,e,rfl,he,q⟩:=hf
 refine ⟨by simp,?_⟩
 dsimp only [startD,List.tail,List.map,List.length]
 obtain ⟨t,h1,h2,h3⟩:=Zh3 he
 rw [Int.zero_add] at h2 h3
 refine Za3 (Zan (Zan (Zan (Zac rfl (Zar (Za4 (d:=.tup (ts.map encTie)) rfl ?_))))))
 refine Zan (Zac rfl (Zar (jr_I ⟨by omega,by omega⟩ (Za4 h2 ?_))))
 exact Zan (Zac rfl (Zar (jr_I (by show (0:Int) < 2; omega) (Za4 h3 q))))
theorem Zld (mb:Mb mg) (F:Fun K "_law_whole" "_law_whole" s_law_whole f fd):FnOk P w K mg base CX0 1 f fd ["_law_found"] (spD K fWhole):=by
 refine F.ok sc_law_whole (Zbd fun ds Post h=>by obtain ⟨_,rfl,_⟩:=h; rfl) (fun cdv A outer s H vs Q E hr h=>?_)
 have hu:=Zb7 hr
 refine ⟨_,(Zal (Zaz (Zes (Zai (isiUK K) rfl (mb "isinstance" (by decide)) Za9 (Zaa (pv 0) (Zaa (Zc6 rfl (mb "int" (by decide)) Zfh (show RelV (.ty "int") _ from rfl)) Zad))) (Zet (Zkg (Zai (isiUK K) rfl (mb "isinstance" (by decide)) Za9 (Zaa (pv 0) (Zaa (Zc6 rfl (mb "bool" (by decide)) Zho (show RelV (.ty "bool") _ from rfl)) Zad)))))))),Zcp (fun ds Post hf=>?_) h⟩
 obtain ⟨e,rfl,q⟩:=hf
 refine ⟨by simp,?_⟩
 dsimp only [startD,List.tail,List.map,List.length]
 refine Za3 (Zc3 (Za5 (Zab (Zac rfl (Zab (Zeh (Zag (Zci (T:="int") (b:=true) rfl (fun _=>by rfl) ⟨_,rfl,?_⟩))))))))
 rw [if_pos rfl]
 refine Zge (Za5 (Zab (Zac rfl (Zab (Zeh (Zag (Zci (T:="int") (b:=false) rfl (fun _=>by rfl) ⟨_,rfl,?_⟩)))))))
 exact q
end
def Lv:Nat->D->Prop
 | 0,_=>False
 | _ + 1,.int _=>True
 | m + 1,.tup ds=>ds.length<=1000/\∀ d ∈ ds,Lv m d
 | _,_=>False
def fSame (m:Nat):DSp:=fun ds Post=>∃ d,ds=[d,d]/\Lv m d/\Post (.bl true)
section
variable {P:Program} {w:World} {K:PySem.W.Frag} {mg:Str->Option Value} {base:Heap} {f:Addr} {fd:FuncData}
theorem Zbu:2<=sizeLine:=by decide
theorem Zls (ds:List D):(((ds.zip ds).map fun p=>D.tup [p.1,p.2]).filter fun _=>true).map (fun _=>D.bl true)=(List.replicate ds.length true).map D.bl:=by
 rw [List.filter_eq_self.mpr (by simp),List.map_const',List.map_replicate,List.length_map,List.length_zip,Nat.min_self]
theorem Zli (n:Nat):(List.replicate n true).all id=true:=by
 rw [List.all_eq_true]; intro x hx; rw [(List.mem_replicate.mp hx).2]; rfl
theorem Zjf {ds:List D} {i:Nat} {d:D} (hd':((ds.zip ds).map fun p=>D.tup [p.1,p.2])[i]? = some d):∃ e,e ∈ ds/\d=.tup [e,e]:=by
 rw [List.getElem?_map] at hd'
 cases z:(ds.zip ds)[i]? with
 | none=>rw [z] at hd'; cases hd'
 | some pr=>
  rw [z] at hd'
  have hd':D.tup [pr.1,pr.2]=d:=by simpa using hd'
  rw [List.getElem?_zip_eq_some] at z
  have e:pr.1=pr.2:=Option.some.inj (z.1.symm.trans z.2)
  exact ⟨pr.1,List.mem_of_getElem? z.1,by rw [<- hd',<- e]⟩
theorem Zla {m:Nat} (mb:Mb mg) (C__law_whole:Callee P w K mg base 1 "_law_whole" ["_law_found"] (spD K fWhole)) (C__law_same:Callee P w K mg base (m + 1) "_law_same" ["_law_found","_law_due"] (spD K (fSame m))) (F:Fun K "_law_same" "_law_same" s_law_same f fd):FnOk P w K mg base CX0 (m + 2) f fd ["_law_found","_law_due"] (spD K (fSame (m + 1))):=by
 refine F.ok sc_law_same (Zbd fun ds Post h=>by obtain ⟨_,rfl,_⟩:=h; rfl) (fun cdv A outer s H vs Q E hr h=>?_)
 have hu:=Zb7 hr
 refine ⟨_,(Zae (Zb9 (truK K (Zai (isiUK K) rfl (mb "isinstance" (by decide)) Za9 (Zaa (pv 1) (Zaa (Zc6 rfl (mb "tuple" (by decide)) Zbq (show RelV (.ty "tuple") _ from rfl)) Zad))) (fun _=>rfl)) (Zae (Zb9 (PW.pt (pw_or (Zef (truK K (Zai (isiUK K) rfl (mb "isinstance" (by decide)) Za9 (Zaa (pv 0) (Zaa (Zc6 rfl (mb "tuple" (by decide)) Zbq (show RelV (.ty "tuple") _ from rfl)) Zad))) (fun _=>rfl))) (pw_or1 (Zaw Zka (Zai (lenK K) rfl (mb "len" (by decide)) Zbm (Zaa (pv 0) Zad)) (Zai (lenK K) rfl (mb "len" (by decide)) Zbm (Zaa (pv 1) Zad)) (nomark _))))) (Zal (Zaz Zje)) Za2) (Zal (Zaz (Zai (allK K rfl) rfl (mb "all" (by decide)) Zqf (Zaa (Zch ["_law_one","_law_other"] (show CompSc (defScope s_law_same) ["_law_found","_law_due"] _ [] [] from ⟨rfl,by decide +kernel,by decide +kernel,by decide +kernel,rfl,by decide +kernel⟩) rfl (Zoo K rfl (mb "zip" (by decide)) (Zaa (pv 0) (Zaa (pv 1) Zad))) (fun _ _ _ _ _=>(gtupK (n:=2) K rfl (Zbi (Zay (i:=0) (show List.Nodup (["_law_one","_law_other"]:List Str) from by decide) rfl (Or.inl rfl)) (Zbi (Zay (i:=1) (show List.Nodup (["_law_one","_law_other"]:List Str) from by decide) rfl (Or.inl rfl)) Zdb)))) (fun _ _ _ _ _=>Zck) (fun _ _ _ _ _=>(Za1 C__law_same (hr.mono (by first|decide|omega)) (Zaa (pv 0) (Zaa (pv 1) Zad))))) Zad))))) Za2) (Zal (Zaz (Zes (Za1 C__law_whole (hr.mono (by first|decide|omega)) (Zaa (pv 0) Zad)) (Zet (Zd8 Zcf (pv 0) (pv 1) (nomark _))))))),Zcp (fun ds Post hf=>?_) h⟩
 obtain ⟨d,rfl,hd,q⟩:=hf
 refine ⟨by simp,?_⟩
 dsimp only [startD,List.tail,List.map,List.length]
 cases d with
 | int i=>
  refine Zaj (Zb4 (Zcd (Za5 (Zab (Zac rfl (Zab (Zeh (Zag (Zci (T:="int") (b:=false) rfl (fun _=>by rfl) ⟨_,rfl,iteF (Za7 ?_)⟩)))))))))
  refine Za3 (Zc3 (Zau (Zab (Zac rfl (Zag ⟨_,rfl,_,rfl,?_⟩)))))
  refine iteT (Zan (Zac rfl (Zac rfl (Zei ?_))))
  rw [decide_eq_true rfl]
  exact q
 | tup ds=>
  obtain ⟨hl,hd⟩:=hd
  refine Zaj (Zb4 (Zcd (Za5 (Zab (Zac rfl (Zab (Zeh (Zag (Zci (T:="tuple") (b:=true) rfl (fun _=>by rfl) ⟨_,rfl,iteT ?_⟩)))))))))
  refine Zaj (Zb4 (Zmd (Zdo (Zcd (Za5 (Zab (Zac rfl (Zab (Zeh (Zag (Zci (T:="tuple") (b:=true) rfl (fun _=>by rfl) ⟨_,rfl,iteF ?_⟩)))))))))))
  refine Za0 (Zan (Za5 (Zab (Zac rfl (Zag (Zbt (Or.inr rfl) (Za5 (Zab (Zac rfl (Zag (Zbt (Or.inr rfl) (Zmb ⟨_,rfl,?_⟩))))))))))))
  rw [decide_eq_true rfl]
  refine iteF (Za7 ?_)
  refine Za3 (Za5 (Zab (Zf5 (by decide) (Znz (Zab (Zac rfl (Zab (Zac rfl (Zag ⟨ds,ds,rfl,rfl,?_,fun _=>true,fun _=>.bl true,fun i d hd'=>?_,?_⟩)))))))))
  ·rw [List.length_map,List.length_zip]; exact small1000 (by omega)
  ·obtain ⟨e,he,rfl⟩:=Zjf hd'
   exact ⟨_,_,rfl,Zcl ⟨rfl,Zau (Zab (Zac rfl (Zab (Zac rfl (Zag ⟨e,rfl,hd _ he,rfl,_,_,rfl⟩)))))⟩⟩
  ·refine Zag ?_
   rw [Zls]
   refine Zok ?_
   rw [Zli]
   exact q
 | lst ds=>exact hd.elim
 | _=>exact hd.elim
theorem Zki (mb:Mb mg) (C__law_whole:Callee P w K mg base 1 "_law_whole" ["_law_found"] (spD K fWhole)) (F:Fun K "_law_same" "_law_same" s_law_same f fd) (b:Binds K fd ["_law_found","_law_due"] []) (kp:PySem.W.keepIn K (.ref f)=true) (hm:mg "_law_same" = some (.ref f)):∀ m:Nat,FnOk P w K mg base CX0 (m + 1) f fd ["_law_found","_law_due"] (spD K (fSame m))
 | 0=>by
  have no:∀ vs H Q E,¬ spD K (fSame 0) vs H Q E:=fun vs H Q E ⟨_,_,_,_,_,⟨_,_,hd,_⟩,_⟩=>hd
  exact ⟨fun vs H Q E h=>absurd h (no vs H Q E),fun A outer s H args us vs Q E _ _ _ _ h=>absurd h (no vs H Q E)⟩
 | m + 1=>Zla mb C__law_whole ⟨⟨f,fd,Zki mb C__law_whole F b kp hm m,b,kp,hm⟩⟩ F
theorem Zl9 (mb:Mb mg) (C__law_whole:Callee P w K mg base 1 "_law_whole" ["_law_found"] (spD K fWhole)) (F:Fun K "_law_same" "_law_same" s_law_same f fd) (b:Binds K fd ["_law_found","_law_due"] []) (kp:PySem.W.keepIn K (.ref f)=true) (hm:mg "_law_same" = some (.ref f)):∀ m:Nat,FnOk P w K mg base CX0 m f fd ["_law_found","_law_due"] (spD K (fSame (m - 1)))
 | 0=>by
  have no:∀ vs H Q E,¬ spD K (fSame 0) vs H Q E:=fun vs H Q E ⟨_,_,_,_,_,⟨_,_,hd,_⟩,_⟩=>hd
  exact ⟨fun vs H Q E h=>absurd h (no vs H Q E),fun A outer s H args us vs Q E _ _ _ _ h=>absurd h (no vs H Q E)⟩
 | m + 1=>Zki mb C__law_whole F b kp hm m
theorem Zpk {m:Nat} {r:List Int} (h:r.length<=1000):Lv (m + 2) (encRow r):=by
 refine ⟨by rw [List.length_map]; exact h,fun d hd=>?_⟩
 obtain ⟨x,_,rfl⟩:=List.mem_map.mp hd
 trivial
theorem Zps {m:Nat} {n:Int} {ts:List (Int × Int)} {o:List (List Int)} (hW:WebOk n ts) (hO:OrdOk n ts o):Lv (m + 3) (encOrd o):=by
 have h1:=hO.len
 have h2:=hW.hi
 have h3:=hW.len
 refine ⟨by rw [List.length_map]; omega,fun d hd=>?_⟩
 obtain ⟨r,hr,rfl⟩:=List.mem_map.mp hd
 obtain ⟨p,hp,e⟩:=List.mem_iff_getElem.mp hr
 have:=(hO.row p r (by rw [List.getElem?_eq_getElem hp,e])).len
 exact Zpk (by omega)
theorem Zh5 {m:Nat} {n:Int} {ts:List (Int × Int)} (hW:WebOk n ts):Lv (m + 4) (encWeb n ts):=by
 refine ⟨by show 2<=1000; omega,fun d hd=>?_⟩
 rcases List.mem_cons.mp hd with z | z
 ·subst z; trivial
 ·rw [List.mem_singleton] at z; subst z
  refine ⟨by rw [List.length_map]; have:=hW.len; omega,fun d hd=>?_⟩
  obtain ⟨t,_,rfl⟩:=List.mem_map.mp hd
  refine ⟨by show 2<=1000; omega,fun d hd=>?_⟩
  rcases List.mem_cons.mp hd with z | z
  ·subst z; trivial
  ·rw [List.mem_singleton] at z; subst z; trivial
def floorD (n:Int) (ts:List (Int × Int)) (o:List (List Int)):D:=.tup [encWeb n ts,encOrd o]
theorem Zdj {n:Int} {ts:List (Int × Int)} {o:List (List Int)} (hW:WebOk n ts) (hO:OrdOk n ts o):Lv 5 (floorD n ts o):=by
 refine ⟨by show 2<=1000; omega,fun d hd=>?_⟩
 rcases List.mem_cons.mp hd with z | z
 ·subst z; exact Zh5 hW
 ·rw [List.mem_singleton] at z; subst z; exact Zps hW hO
end
noncomputable def lf (l:List Int):List Int:=if h:l=[] then [] else rotAt l (l.idxOf (Classical.choose (Zc5 l h)))
theorem Zee:lf []=[]:=by unfold lf; rw [dif_pos rfl]
theorem Zg7 {l:List Int} {m:Int} (hm:m ∈ l) (hle:∀ a ∈ l,m<=a):lf l=rotAt l (l.idxOf m):=by
 have h:l ≠ []:=List.ne_nil_of_mem hm
 unfold lf
 rw [dif_neg h]
 obtain ⟨c1,c2⟩:=Classical.choose_spec (Zc5 l h)
 have e:Classical.choose (Zc5 l h)=m:=by
  have:=c2 m hm
  have:=hle _ c1
  omega
 rw [e]
theorem Zep (l:List Int) (j:Nat):(rotAt l j).Perm l:=by
 unfold rotAt
 refine List.perm_append_comm.trans ?_
 rw [List.take_append_drop]
theorem Zmx (l:List Int):(lf l).Perm l:=by
 by_cases h:l=[]
 ·subst h; rw [Zee]
 ·obtain ⟨m,hm,hle⟩:=Zc5 l h
  rw [Zg7 hm hle]; exact Zep _ _
theorem Zmz {l:List Int} {m:Int} (hm:m ∈ l) (hle:∀ a ∈ l,m<=a):(lf l).head? = some m:=by
 obtain ⟨i1,i2,_⟩:=Zbo hm
 rw [Zg7 hm hle]
 unfold rotAt
 rw [List.drop_eq_getElem_cons i1,List.cons_append,List.head?_cons]
 rw [List.getElem?_eq_getElem i1] at i2
 exact i2
theorem Zga {ts:List (Int × Int)} {m:Nat} {p:Int} {l:List Int} (h:l.Perm (endsBelow ts m p)):RowOk ts m p (lf l):=by
 refine ⟨(Zmx l).trans h,?_⟩
 cases e:endsBelow ts m p with
 | nil=>
  rw [e] at h
  rw [List.Perm.eq_nil h,Zee]
 | cons x X=>
  have hs:=Zed ts m p
  rw [e] at hs h
  rw [List.head?_cons]
  refine Zmz (h.mem_iff.mpr List.mem_cons_self) fun a ha=>?_
  rcases List.mem_cons.mp (h.mem_iff.mp ha) with z | z
  ·omega
  ·have:=List.rel_of_pairwise_cons hs z
   omega
theorem Zjq {ts:List (Int × Int)} {m:Nat} {p:Int} {r:List Int} (h:RowOk ts m p r):lf r=r:=by
 cases r with
 | nil=>exact Zee
 | cons x r=>
  have hle:=h.least
  rw [Zg7 (m:=x) List.mem_cons_self (fun a ha=>by rcases List.mem_cons.mp ha with z | z; exact (by omega); exact hle a z),List.idxOf_cons_self]
  unfold rotAt
  rw [List.drop_zero,List.take_zero,List.append_nil]
def outE (t:Nat) (e:Int):Int:=if e < 2 * (t:Int) then e else e - 2
def keepE (t:Nat) (e:Int):Bool:=decide (¬ e / 2=(t:Int))
noncomputable def outRow (t:Nat) (r:List Int):List Int:=lf ((r.filter (keepE t)).map (outE t))
theorem Zez {ts:List (Int × Int)} {t e:Nat} (he:e / 2 ≠ t):placeAt (ts.eraseIdx t) (if e < 2 * t then e else e - 2)=placeAt ts e:=by
 unfold placeAt
 rw [List.getElem?_eraseIdx]
 by_cases h:e < 2 * t
 ·rw [if_pos h,if_pos (by omega)]
 ·rw [if_neg h,if_neg (by omega),show (e - 2) / 2 + 1=e / 2 by omega,show (e - 2) % 2=e % 2 by omega]
theorem Zem {ts:List (Int × Int)} {t:Nat} (ht:t < ts.length) (p:Int):(((endsBelow ts (2 * ts.length) p).filter (keepE t)).map (outE t)).Perm (endsBelow (ts.eraseIdx t) (2 * (ts.eraseIdx t).length) p):=by
 have hl:(ts.eraseIdx t).length=ts.length - 1:=by rw [List.length_eraseIdx,if_pos ht]
 rw [List.perm_ext_iff_of_nodup ?_ (Zbk _ _ _)]
 ·intro x
  rw [List.mem_map,Za8,hl]
  constructor
  ·rintro ⟨y,hy,rfl⟩
   rw [List.mem_filter,Za8] at hy
   obtain ⟨⟨e,he,hp,rfl⟩,hk⟩:=hy
   have hk:¬ (e:Int) / 2=(t:Int):=of_decide_eq_true hk
   have hk':e / 2 ≠ t:=by omega
   refine ⟨if e < 2 * t then e else e - 2,by split <;> omega,(Zez hk').trans hp,?_⟩
   unfold outE
   split <;> split <;> omega
  ·rintro ⟨e,he,hp,rfl⟩
   refine ⟨((if e < 2 * t then e else e + 2:Nat):Int),?_,?_⟩
   ·rw [List.mem_filter,Za8]
    have hk':(if e < 2 * t then e else e + 2) / 2 ≠ t:=by split <;> omega
    refine ⟨⟨_,by split <;> omega,?_,rfl⟩,decide_eq_true (by split <;> omega)⟩
    rw [<- Zez (ts:=ts) hk',<- hp]
    congr 1
    repeat' split
    all_goals omega
   ·unfold outE
    split <;> split <;> omega
 ·refine List.Pairwise.map _ (fun a b h=>?_) (List.Pairwise.and_mem.mp ((Zbk ts (2 * ts.length) p).filter (keepE t)))
  obtain ⟨ha,hb,hne⟩:=h
  have ka:¬ a / 2=(t:Int):=of_decide_eq_true (List.mem_filter.mp ha).2
  have kb:¬ b / 2=(t:Int):=of_decide_eq_true (List.mem_filter.mp hb).2
  unfold outE
  intro e
  apply hne
  split at e <;> split at e <;> omega
theorem Zfs {n:Int} {ts:List (Int × Int)} (hW:WebOk n ts) (t:Nat):WebOk n (ts.eraseIdx t):=
 ⟨hW.lo,hW.hi,Nat.le_trans (List.length_eraseIdx_le ..) hW.len,fun u hu=>hW.tie u (List.mem_of_mem_eraseIdx hu)⟩
theorem Zg8 {n:Int} {ts:List (Int × Int)} {o:List (List Int)} (hO:OrdOk n ts o) {t:Nat} (ht:t < ts.length):OrdOk n (ts.eraseIdx t) (o.map (outRow t)):=by
 refine ⟨by rw [List.length_map]; exact hO.len,fun p r hr=>?_⟩
 rw [List.getElem?_map] at hr
 cases z:o[p]? with
 | none=>rw [z] at hr; cases hr
 | some r0=>
  rw [z] at hr
  have hr:outRow t r0=r:=by simpa using hr
  subst hr
  exact Zga ((((hO.row p r0 z).perm.filter (keepE t)).map (outE t)).trans (Zem ht _))
section
variable {P:Program} {w:World} {K:PySem.W.Frag} {mg:Str->Option Value} {base:Heap} {f:Addr} {fd:FuncData}
def fIsTie:DSp:=fun ds Post=>∃ n ts,∃ t:Nat,ds=[encWeb n ts,.int t]/\t < ts.length/\Post (.bl true)
def fLeastE:DSp:=fun ds Post=>∃ ns:List Int,ds=[.lst (ns.map .int)]/\ns.length<=100/\Post (encRow (lf ns))
def fRowsW:DSp:=fun ds Post=>∃ (o:List (List Int)) (d:D) (t:Nat),ds=[d,.int t]/\(d=.tup (o.map encRow)\/d=.lst (o.map encRow))/\o.length<=25/\(∀ r ∈ o,r.length<=96)/\Post (encOrd (o.map (outRow t)))
theorem Zh9 (n:Int) (ts:List (Int × Int)):atI [D.int n,D.tup (ts.map encTie)] 1=some (.tup (ts.map encTie)):=rfl
theorem Zey {α:Type} (f:α -> D) (ts:List α) (t:Nat):(ts.map f).take t ++ (ts.map f).drop (t + 1)=(ts.eraseIdx t).map f:=by
 rw [<- List.map_take,<- List.map_drop,<- List.map_append,List.eraseIdx_eq_take_drop_succ]
theorem OrdOk.rows {n:Int} {ts:List (Int × Int)} {o:List (List Int)} (hW:WebOk n ts) (hO:OrdOk n ts o):o.length<=25/\∀ r ∈ o,r.length<=48:=by
 have h1:=hO.len
 have h2:=hW.hi
 have h3:=hW.len
 refine ⟨by omega,fun r hr=>?_⟩
 obtain ⟨p,hp,e⟩:=List.mem_iff_getElem.mp hr
 have:=(hO.row p r (by rw [List.getElem?_eq_getElem hp,e])).len
 omega
theorem Zlb (mb:Mb mg) (C_is_whole:Callee P w K mg base 1 "is_whole" ["thing"] (spD K fWhole)) (F:Fun K "is_tie" "is_tie" s_is_tie f fd):FnOk P w K mg base CX0 2 f fd ["web","tie"] (spD K fIsTie):=by
 refine F.ok sc_is_tie (Zbd fun ds Post h=>by obtain ⟨_,_,_,rfl,_⟩:=h; rfl) (fun cdv A outer s H vs Q E hr h=>?_)
 have hu:=Zb7 hr
 refine ⟨_,(Zal (Zaz (Zes (Za1 C_is_whole (hr.mono (by first|decide|omega)) (Zaa (pv 1) Zad)) (Zet (Zif Znu Zkj Zaf (pv 1) (Zai (lenK K) rfl (mb "len" (by decide)) Zbm (Zaa (Zas (ixK K hu) (pv 0) Zaf (fun _ _=>rfl)) Zad))))))),Zcp (fun ds Post hf=>?_) h⟩
 obtain ⟨n,ts,t,rfl,ht,q⟩:=hf
 refine ⟨by simp,?_⟩
 dsimp only [startD,List.tail,List.map,List.length]
 refine Za3 (Zc3 (Zau (Zab (Zac rfl (Zag ⟨_,rfl,_,rfl,?_⟩)))))
 refine iteT (Zf4 (Zar (Zac rfl (Zdu ⟨_,rfl,?_⟩))))
 rw [decide_eq_true (show (0:Int)<=(t:Int) by omega),if_pos rfl]
 refine Za5 (Zab (Zan (Zac rfl (Zar (Za4 (Zh9 n ts) (Zag (Zbt (Or.inr rfl) ?_)))))))
 rw [List.length_map]
 refine Zdu ?_
 rw [decide_eq_true (show (t:Int) < (ts.length:Int) by omega)]
 exact q
theorem Zkv (mb:Mb mg) (F:Fun K "least_first" "least_first" s_least_first f fd):FnOk P w K mg base CX0 1 f fd ["ends"] (spD K fLeastE):=by
 refine F.ok sc_least_first (Zbd fun ds Post h=>by obtain ⟨_,rfl,_⟩:=h; rfl) (fun cdv A outer s H vs Q E hr h=>?_)
 have hu:=Zb7 hr
 refine ⟨_,(Zae (Zb9 (Zef (truK K (pv 0) (fun _=>rfl))) (Zal (Zaz (Zbb Zad))) Za2) (Zae (Zav (i:=1) sc_least_first.nd rfl (by first|exact Or.inl rfl|exact Or.inr rfl) (bmK K PySem.F.plainAttrs_list PySem.F.slot_list_index PySem.F.type_list_index (idxLK K) (pv 0) (Zaa (Zai (minK K rfl) rfl (mb "min" (by decide)) Zfc (Zaa (pv 0) Zad)) Zad))) (Zal (Zaz (Za6 (tupK K) rfl (mb "tuple" (by decide)) Zbq (Zaa (Zap (addK K) (Zbg (slK K) (pv 0) (Zbs (pv 1)) Zbx) (Zbg (slK K) (pv 0) Zbx (Zbs (pv 1)))) Zad)))))),Zcp (fun ds Post hf=>?_) h⟩
 obtain ⟨ns,rfl,hl,q⟩:=hf
 refine ⟨by simp,?_⟩
 dsimp only [startD,List.tail,List.map,List.length]
 by_cases hn:ns=[]
 ·subst hn
  refine Zaj (Zb4 (Zdo (Zcd (Zac rfl ⟨false,rfl,?_⟩))))
  refine iteT (Za3 (Zbp (Zag ⟨by decide,?_⟩)))
  rw [Zee] at q
  exact q
 ·obtain ⟨m,hm,hle⟩:=Zc5 ns hn
  obtain ⟨i1,i2,i3⟩:=Zbo hm
  refine Zaj (Zb4 (Zdo (Zcd (Zac rfl ⟨true,?_,?_⟩))))
  ·cases ns with
   | nil=>exact absurd rfl hn
   | cons x t=>rfl
  refine iteF (Za7 ?_)
  refine Zaj (Zax (Zg2 (Zac rfl ⟨ns,rfl,by omega,Za5 (Zab (Zac rfl (Zag (Zhm (Or.inl rfl) hm hle ⟨m,rfl,hm,?_⟩))))⟩)))
  have hj:ns.idxOf m<=(ns.map D.int).length:=by rw [List.length_map]; omega
  refine Za3 (Za5 (Zab (Zan (Zdg (Zac rfl (Zbw (Zac rfl ⟨_,rfl,Zbv ⟨.lst ((ns.map D.int).drop (ns.idxOf m)),?_,?_⟩⟩)))))))
  ·show some (D.lst (cutD (ns.map D.int) (some ((ns.idxOf m:Nat):Int)) none))=_
   rw [Zcq _ hj]
  refine Zdg (Zac rfl (Zbv (Zbw (Zac rfl ⟨_,rfl,.lst ((ns.map D.int).take (ns.idxOf m)),?_,?_⟩))))
  ·show some (D.lst (cutD (ns.map D.int) none (some ((ns.idxOf m:Nat):Int))))=_
   rw [Zec _ hj]
  refine Zkk ?_ (Zag (Zcu (Or.inl rfl) ?_))
  ·rw [List.length_drop,List.length_take,List.length_map]
   exact Nat.le_of_lt (small1000 (by omega))
  rw [Zg7 hm hle] at q
  unfold encRow rotAt at q
  rw [List.map_append,List.map_drop,List.map_take] at q
  exact q
def intD:D->Int
 | .int i=>i
 | _=>0
def keepD (t:Nat):D->Bool:=fun d=>keepE t (intD d)
def outED (t:Nat):D->D:=fun d=>.int (outE t (intD d))
noncomputable def outD (t:Nat):D->D
 | .tup ds=>encRow (outRow t (ds.map intD))
 | d=>d
theorem Zeq (r:List Int):(r.map D.int).map intD=r:=by
 rw [List.map_map]
 conv=>rhs; rw [<- List.map_id r]
 rfl
theorem Zlv (t:Nat) (r:List Int):((r.map D.int).filter (keepD t)).map (outED t)=((r.filter (keepE t)).map (outE t)).map D.int:=by
 rw [List.filter_map,List.map_map,List.map_map]
 rfl
theorem Zk5 (t:Nat) (o:List (List Int)):((o.map encRow).filter fun _=>true).map (outD t)=(o.map (outRow t)).map encRow:=by
 rw [List.filter_eq_self.mpr (by simp),List.map_map,List.map_map]
 apply List.map_congr_left
 intro r _
 show encRow (outRow t ((r.map D.int).map intD))=encRow (outRow t r)
 rw [Zeq]
theorem Znb (mb:Mb mg) (C_least_first:Callee P w K mg base 1 "least_first" ["ends"] (spD K fLeastE)) (F:Fun K "rows_without" "rows_without" s_rows_without f fd):FnOk P w K mg base CX0 2 f fd ["rows","tie"] (spD K fRowsW):=by
 refine F.ok sc_rows_without (Zbd fun ds Post h=>by obtain ⟨_,_,_,rfl,_⟩:=h; rfl) (fun cdv A outer s H vs Q E hr h=>?_)
 have hu:=Zb7 hr
 refine ⟨_,(Zal (Zaz (Za6 (tupK K) rfl (mb "tuple" (by decide)) Zbq (Zaa (Zch ["row"] (show CompSc (defScope s_rows_without) ["rows","tie"] _ ["tie"] [1] from ⟨rfl,by decide +kernel,by decide +kernel,by decide +kernel,rfl,by decide +kernel⟩) rfl (seqK K (pv 0)) (fun _ _ _ _ _=>(Zay (i:=0) (show List.Nodup (["row","tie"]:List Str) from by decide) rfl (Or.inl rfl))) (fun _ _ _ _ _=>Zck) (fun _ _ _ _ _=>(Za1 C_least_first (hr.mono (by first|decide|omega)) (Zaa (Zch ["end"] (show CompSc (relab (defScope s_rows_without) _) ["row","tie"] _ ["tie"] [1] from ⟨rfl,by decide +kernel,by decide +kernel,by decide +kernel,rfl,by decide +kernel⟩) rfl (seqK K (pv 0)) (fun _ _ _ _ _=>(Zay (i:=0) (show List.Nodup (["end","tie"]:List Str) from by decide) rfl (Or.inl rfl))) (fun _ _ _ _ _=>(Ze2 (Zaw Zka (Zap Zc8 (pv 0) Zaf) (pv 1) (nomark _)))) (fun _ _ _ _ _=>(Zej (Zaw Zkj (pv 0) (Zap Zb6 Zaf (pv 1)) (nomark _)) (pv 0) (Zap Zdp (pv 0) Zaf)))) Zad)))) Zad)))),Zcp (fun ds Post hf=>?_) h⟩
 obtain ⟨o,d,t,rfl,hd,hl,hrl,q⟩:=hf
 refine ⟨by simp,?_⟩
 dsimp only [startD,List.tail,List.map,List.length]
 refine Za3 (Za5 (Zab (Zcg (by decide) ?_)))
 have row:∀ (i:Nat) d,(o.map encRow)[i]? = some d->∃ r,d=encRow r/\r.length<=96:=fun i d hd=>by
  rw [List.getElem?_map] at hd
  cases z:o[i]? with
  | none=>rw [z] at hd; cases hd
  | some r=>
   rw [z] at hd
   have hd:encRow r=d:=by simpa using hd
   exact ⟨r,hd.symm,hrl r (List.mem_of_getElem? z)⟩
 refine Zng rfl hd ⟨by rw [List.length_map]; exact small1000 (by omega),fun _=>true,outD t,fun i d hd=>?_,?_⟩
 ·obtain ⟨r,rfl,hr1⟩:=row i d hd
  refine Zcl ⟨rfl,Zau (Zab (Zcg (by decide) (Zdt (Zac rfl ⟨_,rfl,?_,keepD t,outED t,fun j e he=>?_,?_⟩))))⟩
  ·rw [List.length_map]; exact small1000 (by omega)
  ·rw [List.getElem?_map] at he
   cases z:r[j]? with
   | none=>rw [z] at he; cases he
   | some x=>
    rw [z] at he
    have he:D.int x=e:=by simpa using he
    subst he
    refine Za0 (Zan (Zan (Zac rfl (Zar (jr_I ⟨by omega,by omega⟩ (Zac rfl (Zmb ⟨_,rfl,?_,?_⟩)))))))
    ·show (!decide (x / 2=(t:Int)))=decide (¬ x / 2=(t:Int))
     rw [decide_not]
    refine ite2 (fun z=>?_) (fun z=>⟨_,rfl⟩)
    refine Zek (Za0 (Zan (Zac rfl (Zan (Zar (Zac rfl (jr_I (Or.inl ⟨by omega,by omega⟩) (Zdu ⟨_,rfl,?_⟩))))))))
    refine ite2 (fun z=>?_) (fun z=>?_)
    ·have z:x < 2 * (t:Int):=of_decide_eq_true z
     refine Zac rfl ⟨?_,_,rfl⟩
     show D.int x=D.int (outE t x)
     unfold outE; rw [if_pos z]
    ·have z:¬ x < 2 * (t:Int):=of_decide_eq_false (Bool.eq_false_iff.mpr z)
     refine Zan (Zac rfl (Zar (Zf9 ⟨?_,_,rfl⟩)))
     show D.int (x - 2)=D.int (outE t x)
     unfold outE; rw [if_neg z]
  ·rw [Zlv]
   refine Zag ⟨_,rfl,?_,?_,_,rfl⟩
   ·rw [List.length_map]; exact Nat.le_trans (List.length_filter_le _ _) (by omega)
   ·show encRow (outRow t r)=encRow (outRow t ((r.map D.int).map intD))
    rw [Zeq]
 ·refine Zag (Zcu (Or.inl rfl) ?_)
  rw [Zk5]
  exact q
theorem Zl1 (mb:Mb mg) (F:Fun K "_law_begun" "_law_begun" s_law_begun f fd):FnOk P w K mg base CX0 1 f fd ["_law_row"] (spD K fLeastE):=by
 refine F.ok sc_law_begun (Zbd fun ds Post h=>by obtain ⟨_,rfl,_⟩:=h; rfl) (fun cdv A outer s H vs Q E hr h=>?_)
 have hu:=Zb7 hr
 refine ⟨_,(Zae (Zb9 (Zaw Zcf (Zai (lenK K) rfl (mb "len" (by decide)) Zbm (Zaa (pv 0) Zad)) Zaf (nomark _)) (Zal (Zaz (Zbb Zad))) Za2) (Zae (Zav (i:=1) sc_law_begun.nd rfl (by first|exact Or.inl rfl|exact Or.inr rfl) (bmK K PySem.F.plainAttrs_list PySem.F.slot_list_index PySem.F.type_list_index (idxLK K) (pv 0) (Zaa (Zai (minK K rfl) rfl (mb "min" (by decide)) Zfc (Zaa (pv 0) Zad)) Zad))) (Zal (Zaz (Za6 (tupK K) rfl (mb "tuple" (by decide)) Zbq (Zaa (Zap (addK K) (Zbg (slK K) (pv 0) (Zbs (pv 1)) Zbx) (Zbg (slK K) (pv 0) Zbx (Zbs (pv 1)))) Zad)))))),Zcp (fun ds Post hf=>?_) h⟩
 obtain ⟨ns,rfl,hl,q⟩:=hf
 refine ⟨by simp,?_⟩
 dsimp only [startD,List.tail,List.map,List.length]
 refine Zaj (Zb4 (Za0 (Zan (Za5 (Zab (Zac rfl (Zag (Zbt (Or.inl rfl) (Zar (Zei ⟨_,rfl,?_⟩))))))))))
 rw [List.length_map]
 by_cases hn:ns=[]
 ·subst hn
  refine iteT (Za3 (Zbp (Zag ⟨by decide,?_⟩)))
  rw [Zee] at q
  exact q
 ·obtain ⟨m,hm,hle⟩:=Zc5 ns hn
  obtain ⟨i1,i2,i3⟩:=Zbo hm
  rw [decide_eq_false (by omega)]
  refine iteF (Za7 ?_)
  refine Zaj (Zax (Zg2 (Zac rfl ⟨ns,rfl,by omega,Za5 (Zab (Zac rfl (Zag (Zhm (Or.inl rfl) hm hle ⟨m,rfl,hm,?_⟩))))⟩)))
  have hj:ns.idxOf m<=(ns.map D.int).length:=by rw [List.length_map]; omega
  refine Za3 (Za5 (Zab (Zan (Zdg (Zac rfl (Zbw (Zac rfl ⟨_,rfl,Zbv ⟨.lst ((ns.map D.int).drop (ns.idxOf m)),?_,?_⟩⟩)))))))
  ·show some (D.lst (cutD (ns.map D.int) (some ((ns.idxOf m:Nat):Int)) none))=_
   rw [Zcq _ hj]
  refine Zdg (Zac rfl (Zbv (Zbw (Zac rfl ⟨_,rfl,.lst ((ns.map D.int).take (ns.idxOf m)),?_,?_⟩))))
  ·show some (D.lst (cutD (ns.map D.int) none (some ((ns.idxOf m:Nat):Int))))=_
   rw [Zec _ hj]
  refine Zkk ?_ (Zag (Zcu (Or.inl rfl) ?_))
  ·rw [List.length_drop,List.length_take,List.length_map]
   exact Nat.le_of_lt (small1000 (by omega))
  rw [Zg7 hm hle] at q
  unfold encRow rotAt at q
  rw [List.map_append,List.map_drop,List.map_take] at q
  exact q
end
def corD:Nat ⊕ Nat->D
 | .inl e=>.int (e:Int)
 | .inr p=>.tup [.str "place",.int (p:Int)]
def corP (ts:List (Int × Int)):Nat ⊕ Nat->Nat
 | .inl e=>(placeAt ts e).toNat
 | .inr p=>p
def CorOk (n:Int) (ts:List (Int × Int)) (o:List (List Int)):Nat ⊕ Nat->Prop
 | .inl e=>e < 2 * ts.length
 | .inr p=>(p:Int) < n/\o.getD p []=[]
def jOf (r:List Int):Nat ⊕ Nat->Nat
 | .inl e=>r.idxOf (e:Int) + 1
 | .inr _=>r.length
def rowW (r:List Int) (c:Nat ⊕ Nat) (x:Int):List Int:=r.take (jOf r c) ++ x :: r.drop (jOf r c)
def put1 (o:List (List Int)) (p:Nat) (c:Nat ⊕ Nat) (x:Int):List (List Int):=o.set p (rowW (o.getD p []) c x)
def putTs (ts:List (Int × Int)) (c d:Nat ⊕ Nat):List (Int × Int):=ts ++ [((corP ts c:Int),(corP ts d:Int))]
def putO (ts:List (Int × Int)) (o:List (List Int)) (c d:Nat ⊕ Nat):List (List Int):=put1 (put1 o (corP ts c) c ((2 * ts.length:Nat):Int)) (corP ts d) d ((2 * ts.length + 1:Nat):Int)
def RowsOk (ts:List (Int × Int)) (k:Nat) (o:List (List Int)):Prop:=∀ (p:Nat) r,o[p]? = some r->RowOk ts k (p:Int) r
theorem Zhb {ts us:List (Int × Int)} {e:Nat} (he:e < 2 * ts.length):placeAt (ts ++ us) e=placeAt ts e:=by
 unfold placeAt
 rw [List.getElem?_append_left (by omega)]
theorem Zdq (ts:List (Int × Int)) (a b:Int):placeAt (ts ++ [(a,b)]) (2 * ts.length)=a/\placeAt (ts ++ [(a,b)]) (2 * ts.length + 1)=b:=by
 unfold placeAt
 constructor
 ·rw [show 2 * ts.length / 2=ts.length by omega,List.getElem?_append_right (Nat.le_refl _),Nat.sub_self]
  show (if 2 * ts.length % 2=0 then a else b)=a
  rw [if_pos (by omega)]
 ·rw [show (2 * ts.length + 1) / 2=ts.length by omega,List.getElem?_append_right (Nat.le_refl _),Nat.sub_self]
  show (if (2 * ts.length + 1) % 2=0 then a else b)=b
  rw [if_neg (by omega)]
theorem Zik {n:Int} {ts us:List (Int × Int)} {o:List (List Int)} (hO:OrdOk n ts o):RowsOk (ts ++ us) (2 * ts.length) o:=by
 intro p r hr
 have R:=hO.row p r hr
 have e:endsBelow (ts ++ us) (2 * ts.length) (p:Int)=endsBelow ts (2 * ts.length) (p:Int):=by
  unfold endsBelow
  congr 1
  apply List.filter_congr
  intro e he
  rw [Zhb (List.mem_range.mp he)]
 exact ⟨by rw [e]; exact R.perm,by rw [e]; exact R.first⟩
theorem Zam {o:List (List Int)} {p:Nat} (h:p < o.length):o[p]? = some (o.getD p []):=by
 rw [List.getD_eq_getElem?_getD,List.getElem?_eq_getElem h]; rfl
theorem j_ok {r:List Int} {c:Nat ⊕ Nat} (h:∀ e,c=.inl e->(e:Int) ∈ r):jOf r c<=r.length/\(r ≠ []->1<=jOf r c):=by
 cases c with
 | inl e=>
  have:=(Zbo (h e rfl)).1
  exact ⟨by show r.idxOf (e:Int) + 1<=_; omega,fun _=>by show 1<=r.idxOf (e:Int) + 1; omega⟩
 | inr p=>exact ⟨Nat.le_refl _,fun h=>List.length_pos_iff.mpr h⟩
theorem Zic {ts:List (Int × Int)} {k p:Nat} {o:List (List Int)} {c:Nat ⊕ Nat} (hR:RowsOk ts k o) (hp:p < o.length) (hk:placeAt ts k=(p:Int)) (hc:∀ e,c=.inl e->(e:Int) ∈ o.getD p []):RowsOk ts (k + 1) (put1 o p c (k:Int)):=by
 intro q r hr
 unfold put1 at hr
 obtain ⟨j1,j2⟩:=j_ok hc
 by_cases hq:q=p
 ·subst hq
  rw [List.getElem?_set_self hp] at hr
  cases hr
  exact (hR q _ (Zam hp)).put hk j1 j2
 ·rw [List.getElem?_set_ne (Ne.symm hq)] at hr
  exact (hR q r hr).stay (by rw [hk]; omega)
theorem Zby {n:Int} {ts:List (Int × Int)} {o:List (List Int)} (hW:WebOk n ts) (hO:OrdOk n ts o) {c:Nat ⊕ Nat} (hc:CorOk n ts o c):corP ts c < o.length/\(∀ e,c=.inl e->(e:Int) ∈ o.getD (corP ts c) []/\e < 2 * ts.length):=by
 have hl:=hO.len
 cases c with
 | inl e=>
  have he:e < 2 * ts.length:=hc
  obtain ⟨p0,p1⟩:=Zca hW he
  have hp:corP ts (.inl e) < o.length:=by show (placeAt ts e).toNat < _; omega
  refine ⟨hp,fun e' h=>?_⟩
  cases h
  refine ⟨(hO.row _ _ (Zam hp)).mem.mpr ⟨e,he,?_,rfl⟩,he⟩
  show placeAt ts e=(((placeAt ts e).toNat:Nat):Int)
  omega
 | inr p=>exact ⟨by have:=hc.1; show p < _; omega,fun e h=>nomatch h⟩
theorem Zd6 (o:List (List Int)) (p:Nat) (c:Nat ⊕ Nat) (x:Int):(put1 o p c x).length=o.length:=by unfold put1; rw [List.length_set]
theorem Zme {r:List Int} {c:Nat ⊕ Nat} {x y:Int} (h:y ∈ r):y ∈ rowW r c x:=by
 unfold rowW
 rw [<- List.take_append_drop (jOf r c) r] at h
 rcases List.mem_append.mp h with z | z
 ·exact List.mem_append.mpr (.inl z)
 ·exact List.mem_append.mpr (.inr (List.mem_cons_of_mem _ z))
theorem Zh8 {o:List (List Int)} {p q:Nat} {c:Nat ⊕ Nat} {x y:Int} (hq:q < o.length) (h:y ∈ o.getD q []):y ∈ (put1 o p c x).getD q []:=by
 unfold put1
 rw [List.getD_eq_getElem?_getD,List.getElem?_set]
 by_cases hp:p=q
 ·subst hp
  rw [if_pos rfl,if_pos hq]
  exact Zme h
 ·rw [if_neg hp,<- List.getD_eq_getElem?_getD]
  exact h
theorem Zg6 {n:Int} {ts:List (Int × Int)} {o:List (List Int)} (hW:WebOk n ts) (hO:OrdOk n ts o) {c d:Nat ⊕ Nat} (hc:CorOk n ts o c) (hd:CorOk n ts o d) (hl:ts.length < 24):WebOk n (putTs ts c d):=by
 have h1:=(Zby hW hO hc).1
 have h2:=(Zby hW hO hd).1
 have h3:=hO.len
 refine ⟨hW.lo,hW.hi,by unfold putTs; rw [List.length_append,List.length_singleton]; omega,fun u hu=>?_⟩
 rcases List.mem_append.mp hu with z | z
 ·exact hW.tie u z
 ·rw [List.mem_singleton] at z
  subst z
  refine ⟨?_,?_,?_,?_⟩ <;> dsimp only <;> omega
theorem Zhi {n:Int} {ts:List (Int × Int)} {o:List (List Int)} (hW:WebOk n ts) (hO:OrdOk n ts o) {c d:Nat ⊕ Nat} (hc:CorOk n ts o c) (hd:CorOk n ts o d):OrdOk n (putTs ts c d) (putO ts o c d):=by
 obtain ⟨c1,c2⟩:=Zby hW hO hc
 obtain ⟨d1,d2⟩:=Zby hW hO hd
 obtain ⟨n1,n2⟩:=Zdq ts (corP ts c) (corP ts d)
 refine ⟨by unfold putO; rw [Zd6,Zd6]; exact hO.len,?_⟩
 have R1:=Zic (Zik (us:=[((corP ts c:Int),(corP ts d:Int))]) hO) c1 n1 fun e h=>(c2 e h).1
 have R2:=Zic R1 (c:=d) (by rw [Zd6]; exact d1) n2 fun e h=>Zh8 d1 (d2 e h).1
 have e:2 * (putTs ts c d).length=2 * ts.length + 1 + 1:=by unfold putTs; rw [List.length_append,List.length_singleton]; omega
 rw [e]
 exact R2
def pd (lo hi p:Int):Int:=if p=hi then lo else if hi < p then p - 1 else p
def pdT (lo hi:Int) (u:Int × Int):Int × Int:=(pd lo hi u.1,pd lo hi u.2)
def obRow (r:List Int) (x:Int):List Int:=r.drop (r.idxOf x + 1) ++ r.take (r.idxOf x)
noncomputable def inRows (t:Nat) (lo hi:Nat) (el eh:Int) (o:List (List Int)):List (List Int):=(o.set lo (obRow (o.getD lo []) el ++ obRow (o.getD hi []) eh)).eraseIdx hi
theorem Znp {r:List Int} {x:Int} (h:x ∈ r):(x :: obRow r x).Perm r:=by
 obtain ⟨h1,h2,_⟩:=Zbo h
 unfold obRow
 rw [List.getElem?_eq_getElem h1] at h2
 have e:r[r.idxOf x]=x:=Option.some.inj h2
 have e2:r=r.take (r.idxOf x) ++ x :: r.drop (r.idxOf x + 1):=by
  conv=>lhs; rw [<- List.take_append_drop (r.idxOf x) r,List.drop_eq_getElem_cons h1,e]
 conv=>rhs; rw [e2]
 refine List.Perm.trans ?_ List.perm_middle.symm
 exact List.Perm.cons _ List.perm_append_comm
theorem Zhw (r:List Int) (x:Int):(obRow r x).length<=r.length:=by
 unfold obRow
 rw [List.length_append,List.length_drop,List.length_take]
 omega
theorem Zkm {r:List Int} {x:Int} {t:Nat} (h:x ∈ r) (hx:x / 2=(t:Int)):((obRow r x).filter (keepE t)).Perm (r.filter (keepE t)):=by
 have:=(Znp h).filter (keepE t)
 rw [List.filter_cons,if_neg (by unfold keepE; simp [hx])] at this
 exact this
theorem Zdl {ts:List (Int × Int)} {lo hi:Int} {e:Nat} (he:e < 2 * ts.length):placeAt (ts.map (pdT lo hi)) e=pd lo hi (placeAt ts e):=by
 unfold placeAt
 rw [List.getElem?_map,List.getElem?_eq_getElem (by omega)]
 show (if e % 2=0 then (pdT lo hi ts[e / 2]).1 else (pdT lo hi ts[e / 2]).2)=pd lo hi (if e % 2=0 then ts[e / 2].1 else ts[e / 2].2)
 split <;> rfl
theorem Zit {n:Int} {ts:List (Int × Int)} (hW:WebOk n ts) {lo hi:Nat} (hlt:lo < hi) {p q:Nat} (hq:q=if p < hi then p else p + 1) (hp:p ≠ lo):endsBelow (ts.map (pdT lo hi)) (2 * ts.length) (p:Int)=endsBelow ts (2 * ts.length) (q:Int):=by
 unfold endsBelow
 congr 1
 apply List.filter_congr
 intro e he
 rw [List.mem_range] at he
 obtain ⟨p0,p1⟩:=Zca hW he
 rw [Zdl he]
 congr 1
 apply propext
 unfold pd
 subst hq
 constructor
 ·intro h
  split at h
  ·omega
  ·split at h <;> split <;> omega
 ·intro h
  split at h
  ·rw [if_neg (by omega),if_neg (by omega)]; exact h
  ·rw [if_neg (by omega),if_pos (by omega)]; omega
theorem Zhq {n:Int} {ts:List (Int × Int)} (hW:WebOk n ts) {lo hi:Nat} (hlt:lo < hi):(endsBelow ts (2 * ts.length) (lo:Int) ++ endsBelow ts (2 * ts.length) (hi:Int)).Perm (endsBelow (ts.map (pdT lo hi)) (2 * ts.length) (lo:Int)):=by
 rw [List.perm_ext_iff_of_nodup ?_ (Zbk _ _ _)]
 ·intro x
  rw [List.mem_append,Za8,Za8,Za8]
  constructor
  ·rintro (⟨e,he,hp,rfl⟩ | ⟨e,he,hp,rfl⟩)
   ·refine ⟨e,he,?_,rfl⟩
    rw [Zdl he,hp]
    unfold pd
    rw [if_neg (by omega),if_neg (by omega)]
   ·refine ⟨e,he,?_,rfl⟩
    rw [Zdl he,hp]
    unfold pd
    rw [if_pos rfl]
  ·rintro ⟨e,he,hp,rfl⟩
   obtain ⟨p0,p1⟩:=Zca hW he
   rw [Zdl he] at hp
   unfold pd at hp
   split at hp
   ·exact Or.inr ⟨e,he,by assumption,rfl⟩
   ·split at hp
    ·omega
    ·exact Or.inl ⟨e,he,hp,rfl⟩
 ·refine List.nodup_append.mpr ⟨Zbk _ _ _,Zbk _ _ _,fun a ha b hb e=>?_⟩
  subst e
  obtain ⟨e1,_,h1,h2⟩:=Za8.mp ha
  obtain ⟨e2,_,h3,h4⟩:=Za8.mp hb
  have:e1=e2:=by omega
  subst this
  omega
theorem Zp5 {n:Int} {ts:List (Int × Int)} (hW:WebOk n ts) {lo hi t:Nat} (hlt:lo < hi) (hh:(hi:Int) < n):WebOk (n - 1) ((ts.eraseIdx t).map (pdT lo hi)):=by
 have h2:=hW.hi
 refine ⟨by omega,by omega,by rw [List.length_map]; exact (Zfs hW t).len,fun u hu=>?_⟩
 obtain ⟨v,hv,rfl⟩:=List.mem_map.mp hu
 have:=(Zfs hW t).tie v hv
 unfold pdT pd
 refine ⟨?_,?_,?_,?_⟩ <;> (dsimp only; repeat' split) <;> omega
theorem Zpq {n:Int} {ts:List (Int × Int)} {o:List (List Int)} (hW:WebOk n ts) (hO:OrdOk n ts o) {t lo hi:Nat} {el eh:Nat} (ht:t < ts.length) (hlt:lo < hi) (hh:(hi:Int) < n) (h1:placeAt ts el=(lo:Int)) (h2:placeAt ts eh=(hi:Int)) (h3:el / 2=t) (h4:eh / 2=t) :
  OrdOk (n - 1) ((ts.eraseIdx t).map (pdT lo hi)) ((inRows t lo hi el eh o).map (outRow t)):=by
 have ol:=hO.len
 have W':=Zfs hW t
 have hl:(ts.eraseIdx t).length=ts.length - 1:=by rw [List.length_eraseIdx,if_pos ht]
 have hlo:lo < o.length:=by omega
 have hhi:hi < o.length:=by omega
 have gl:o.getD lo []=o[lo]:=by rw [List.getD_eq_getElem?_getD,List.getElem?_eq_getElem hlo]; rfl
 have gh:o.getD hi []=o[hi]:=by rw [List.getD_eq_getElem?_getD,List.getElem?_eq_getElem hhi]; rfl
 have rl:=hO.row lo _ (List.getElem?_eq_getElem hlo)
 have rh:=hO.row hi _ (List.getElem?_eq_getElem hhi)
 refine ⟨?_,fun p r hr=>?_⟩
 ·unfold inRows
  rw [List.length_map,List.length_eraseIdx,List.length_set,if_pos hhi]
  omega
 ·rw [List.getElem?_map] at hr
  cases z:(inRows t lo hi el eh o)[p]? with
  | none=>rw [z] at hr; cases hr
  | some r0=>
   rw [z] at hr
   have hr:outRow t r0=r:=by simpa using hr
   subst hr
   unfold inRows at z
   rw [List.getElem?_eraseIdx] at z
   rw [List.length_map]
   by_cases hp:p=lo
   ·subst hp
    rw [if_pos hlt,List.getElem?_set_self hlo] at z
    have z:=Option.some.inj z
    subst z
    refine Zga ?_
    rw [List.filter_append,List.map_append,gl,gh]
    refine List.Perm.trans ?_ (Zhq W' hlt)
    refine List.Perm.append ?_ ?_
    ·exact ((Zkm (rl.mem.mpr ⟨el,by omega,h1,rfl⟩) (by omega)).map (outE t)).trans (((rl.perm.filter (keepE t)).map (outE t)).trans (Zem ht _))
    ·exact ((Zkm (rh.mem.mpr ⟨eh,by omega,h2,rfl⟩) (by omega)).map (outE t)).trans (((rh.perm.filter (keepE t)).map (outE t)).trans (Zem ht _))
   ·have z':o[if p < hi then p else p + 1]? = some r0:=by
     rw [<- z]
     split
     ·rw [List.getElem?_set_ne (by omega)]
     ·rw [List.getElem?_set_ne (by omega)]
    have R:=Zga ((((hO.row _ r0 z').perm.filter (keepE t)).map (outE t)).trans (Zem ht _))
    have eE:=Zit W' hlt (q:=if p < hi then p else p + 1) rfl hp
    exact ⟨eE ▸ R.perm,eE ▸ R.first⟩
def loN (ts:List (Int × Int)) (t:Nat):Nat:=(min (placeAt ts (2 * t)) (placeAt ts (2 * t + 1))).toNat
def hiN (ts:List (Int × Int)) (t:Nat):Nat:=(max (placeAt ts (2 * t)) (placeAt ts (2 * t + 1))).toNat
def elN (ts:List (Int × Int)) (t:Nat):Nat:=if placeAt ts (2 * t) < placeAt ts (2 * t + 1) then 2 * t else 2 * t + 1
noncomputable def inOrd (ts:List (Int × Int)) (t:Nat) (o:List (List Int)):List (List Int):=(inRows t (loN ts t) (hiN ts t) (elN ts t) (partner (elN ts t)) o).map (outRow t)
def inTs (ts:List (Int × Int)) (t:Nat):List (Int × Int):=(ts.eraseIdx t).map (pdT (loN ts t) (hiN ts t))
def fInn:DSp:=fun ds Post=>∃ n ts o,∃ t:Nat,ds=[encWeb n ts,encOrd o,.int t]/\WebOk n ts/\OrdOk n ts o/\t < ts.length/\placeAt ts (2 * t) ≠ placeAt ts (2 * t + 1)/\Post (floorD (n - 1) (inTs ts t) (inOrd ts t o))
def fOb:DSp:=fun ds Post=>∃ (r:List Int) (x:Int),ds=[encRow r,.int x]/\x ∈ r/\r.length<=96/\Post (encRow (obRow r x))
def fPd:DSp:=fun ds Post=>∃ p lo hi:Int,ds=[.int p,.int lo,.int hi]/\Post (.int (pd lo hi p))
structure TieIs (n:Int) (ts:List (Int × Int)) (t:Nat) (a b:Int):Prop where
 at_:ts[t]? = some (a,b)
 pa:placeAt ts (2 * t)=a
 pb:placeAt ts (2 * t + 1)=b
 atD:atI (ts.map encTie) (t:Int)=some (.tup [.int a,.int b])
 ra:0<=a/\a < n
 rb:0<=b/\b < n
theorem Zjz {n:Int} {ts:List (Int × Int)} (hW:WebOk n ts) {t:Nat} (ht:t < ts.length):∃ a b,TieIs n ts t a b:=by
 obtain ⟨h1,h2,h3,h4⟩:=hW.tie _ (List.getElem_mem ht)
 refine ⟨ts[t].1,ts[t].2,List.getElem?_eq_getElem ht,?_,?_,Zbh (by rw [List.getElem?_map,List.getElem?_eq_getElem ht]; rfl),⟨h1,h2⟩,⟨h3,h4⟩⟩
 ·unfold placeAt
  rw [show 2 * t / 2=t by omega,List.getElem?_eq_getElem ht]
  show (if 2 * t % 2=0 then _ else _)=_
  rw [if_pos (by omega)]
 ·unfold placeAt
  rw [show (2 * t + 1) / 2=t by omega,List.getElem?_eq_getElem ht]
  show (if (2 * t + 1) % 2=0 then _ else _)=_
  rw [if_neg (by omega)]
structure DrawIs (n:Int) (ts:List (Int × Int)) (t:Nat):Prop where
 lt:loN ts t < hiN ts t
 hi:(hiN ts t:Int) < n
 p1:placeAt ts (elN ts t)=(loN ts t:Int)
 p2:placeAt ts (partner (elN ts t))=(hiN ts t:Int)
 e1:elN ts t / 2=t
 e2:partner (elN ts t) / 2=t
theorem Zj9 {n:Int} {ts:List (Int × Int)} {t:Nat} {a b:Int} (T:TieIs n ts t a b) (hne:a ≠ b):DrawIs n ts t:=by
 obtain ⟨_,pa,pb,_,ra,rb⟩:=T
 have pp:partner (2 * t)=2 * t + 1:=by unfold partner; rw [if_pos (by omega)]
 have pq:partner (2 * t + 1)=2 * t:=by unfold partner; rw [if_neg (by omega)]; omega
 by_cases h:a < b
 ·have e1:loN ts t=a.toNat:=by unfold loN; rw [pa,pb,Int.min_eq_left (by omega)]
  have e2:hiN ts t=b.toNat:=by unfold hiN; rw [pa,pb,Int.max_eq_right (by omega)]
  have e3:elN ts t=2 * t:=by unfold elN; rw [pa,pb,if_pos h]
  exact ⟨by omega,by omega,by rw [e3,pa,e1]; omega,by rw [e3,pp,pb,e2]; omega,by omega,by rw [e3,pp]; omega⟩
 ·have e1:loN ts t=b.toNat:=by unfold loN; rw [pa,pb,Int.min_eq_right (by omega)]
  have e2:hiN ts t=a.toNat:=by unfold hiN; rw [pa,pb,Int.max_eq_left (by omega)]
  have e3:elN ts t=2 * t + 1:=by unfold elN; rw [pa,pb,if_neg h]
  exact ⟨by omega,by omega,by rw [e3,pb,e1]; omega,by rw [e3,pq,pa,e2]; omega,by omega,by rw [e3,pq]; omega⟩
theorem Ziq {n:Int} {ts:List (Int × Int)} {o:List (List Int)} (hW:WebOk n ts) (hO:OrdOk n ts o) (t lo hi:Nat) (el eh:Int):(inRows t lo hi el eh o).length<=25/\∀ r ∈ inRows t lo hi el eh o,r.length<=96:=by
 obtain ⟨o1,o2⟩:=hO.rows hW
 have g:∀ i:Nat,(o.getD i []).length<=48:=fun i=>by
  rw [List.getD_eq_getElem?_getD]
  cases z:o[i]? with
  | none=>simp
  | some r=>exact o2 r (List.mem_of_getElem? z)
 unfold inRows
 refine ⟨Nat.le_trans (List.length_eraseIdx_le ..) (by rw [List.length_set]; exact o1),fun r hr=>?_⟩
 rcases List.mem_or_eq_of_mem_set (List.mem_of_mem_eraseIdx hr) with z | z
 ·have:=o2 r z; omega
 ·subst z
  have h1:=Zhw (o.getD lo []) el
  have h2:=Zhw (o.getD hi []) eh
  have h3:=g lo
  have h4:=g hi
  rw [List.length_append]
  omega
section
variable {P:Program} {w:World} {K:PySem.W.Frag} {mg:Str->Option Value} {base:Heap} {f:Addr} {fd:FuncData}
theorem Zqj (mb:Mb mg) (F:Fun K "others_behind" "others_behind" s_others_behind f fd):FnOk P w K mg base CX0 1 f fd ["row","end"] (spD K fOb):=by
 refine F.ok sc_others_behind (Zbd fun ds Post h=>by obtain ⟨_,_,rfl,_⟩:=h; rfl) (fun cdv A outer s H vs Q E hr h=>?_)
 have hu:=Zb7 hr
 refine ⟨_,(Zae (Zav (i:=2) sc_others_behind.nd rfl (by first|exact Or.inl rfl|exact Or.inr rfl) (bmK K PySem.F.plainAttrs_tuple PySem.F.slot_tuple_index PySem.F.type_tuple_index (idxK K) (pv 0) (Zaa (pv 1) Zad))) (Zal (Zaz (Zap (addK K) (Zbg (slK K) (pv 0) (Zbs (Zap (addK K) (pv 2) Zaf)) Zbx) (Zbg (slK K) (pv 0) Zbx (Zbs (pv 2))))))),Zcp (fun ds Post hf=>?_) h⟩
 obtain ⟨r,x,rfl,hx,hl,q⟩:=hf
 refine ⟨by simp,?_⟩
 dsimp only [startD,List.tail,List.map,List.length]
 obtain ⟨i1,i2,i3⟩:=Zbo hx
 refine Zaj (Zax (Zd7 (Zac rfl ⟨r,rfl,Zac rfl ⟨x,r.idxOf x,rfl,i2,i3,?_⟩⟩)))
 refine Za3 (Zan (Zdg (Zac rfl (Zbw (Zan (Zac rfl (Zar (Zb8 ⟨_,rfl,Zbv ⟨.tup ((r.map D.int).drop (r.idxOf x + 1)),?_,?_⟩⟩))))))))
 ·show some (D.tup (cutD (r.map D.int) (some ((r.idxOf x:Int) + 1)) none))=_
  rw [show ((r.idxOf x:Int) + 1)=((r.idxOf x + 1:Nat):Int) by omega,Zcq _ (by rw [List.length_map]; omega)]
 refine Zdg (Zac rfl (Zbv (Zbw (Zac rfl ⟨_,rfl,.tup ((r.map D.int).take (r.idxOf x)),?_,Zct ?_ ?_⟩))))
 ·show some (D.tup (cutD (r.map D.int) none (some ((r.idxOf x:Nat):Int))))=_
  rw [Zec _ (by rw [List.length_map]; omega)]
 ·rw [List.length_drop,List.length_take,List.length_map]
  exact Nat.le_of_lt (small1000 (by omega))
 unfold encRow obRow at q
 rw [List.map_append,List.map_drop,List.map_take] at q
 exact q
theorem Zqr (mb:Mb mg) (F:Fun K "place_drawn" "place_drawn" s_place_drawn f fd):FnOk P w K mg base CX0 1 f fd ["place","low","high"] (spD K fPd):=by
 refine F.ok sc_place_drawn (Zbd fun ds Post h=>by obtain ⟨_,_,_,rfl,_⟩:=h; rfl) (fun cdv A outer s H vs Q E hr h=>?_)
 have hu:=Zb7 hr
 refine ⟨_,(Zae (Zb9 (Zaw Zcf (pv 0) (pv 2) (nomark _)) (Zal (Zaz (pv 1))) Za2) (Zal (Zaz (Zej (Zaw Ze9 (pv 0) (pv 2) (nomark _)) (Zap Zdp (pv 0) Zaf) (pv 0))))),Zcp (fun ds Post hf=>?_) h⟩
 obtain ⟨p,lo,hi,rfl,q⟩:=hf
 refine ⟨by simp,?_⟩
 dsimp only [startD,List.tail,List.map,List.length]
 unfold pd at q
 refine Zaj (Zb4 (Za0 (Zan (Zac rfl (Zac rfl (Zei ⟨_,rfl,ite2 (fun z=>?_) (fun z=>?_)⟩))))))
 ·rw [if_pos (of_decide_eq_true z)] at q
  exact Za3 (Zac rfl q)
 ·rw [if_neg (of_decide_eq_false (Bool.eq_false_iff.mpr z))] at q
  refine Za7 (Za3 (Zek (Za0 (Zan (Zac rfl (Zac rfl (Zdu ⟨_,rfl,ite2 (fun z=>?_) (fun z=>?_)⟩)))))))
  ·rw [if_pos (of_decide_eq_true z)] at q
   exact Zan (Zac rfl (Zar (Zf9 q)))
  ·rw [if_neg (of_decide_eq_false (Bool.eq_false_iff.mpr z))] at q
   exact Zac rfl q
theorem Zjr {n:Int} {ts:List (Int × Int)} {o:List (List Int)} (hO:OrdOk n ts o) {p:Nat} (hp:(p:Int) < n):(o.map encRow)[p]? = some (encRow (o.getD p []))/\o[p]? = some (o.getD p []):=by
 have h:=hO.len
 have hp':p < o.length:=by omega
 have e:o[p]? = some (o.getD p []):=by rw [List.getD_eq_getElem?_getD,List.getElem?_eq_getElem hp']; rfl
 exact ⟨by rw [List.getElem?_map,e]; rfl,e⟩
theorem Zoy (mb:Mb mg) (C_is_tie:Callee P w K mg base 2 "is_tie" ["web","tie"] (spD K fIsTie)) (C_others_behind:Callee P w K mg base 1 "others_behind" ["row","end"] (spD K fOb)) (C_place_drawn:Callee P w K mg base 1 "place_drawn" ["place","low","high"] (spD K fPd)) (C_rows_without:Callee P w K mg base 2 "rows_without" ["rows","tie"] (spD K fRowsW)) (F:Fun K "drawn_in" "drawn_in" s_drawn_in f fd):FnOk P w K mg base CX0 3 f fd ["web","order","tie"] (spD K fInn):=by
 refine F.ok sc_drawn_in (Zbd fun ds Post h=>by obtain ⟨_,_,_,_,rfl,_⟩:=h; rfl) (fun cdv A outer s H vs Q E hr h=>?_)
 have hu:=Zb7 hr
 refine ⟨_,(Zae (Zc1 (pv 0) (gtupK (n:=2) K rfl (Zbi (Zay (i:=3) sc_drawn_in.nd rfl (by first|exact Or.inl rfl|exact Or.inr rfl)) (Zbi (Zay (i:=4) sc_drawn_in.nd rfl (by first|exact Or.inl rfl|exact Or.inr rfl)) Zdb)))) (Zae (Zb9 (PW.pt (pw_or (Zef (truK K (Za1 C_is_tie (hr.mono (by first|decide|omega)) (Zaa (pv 0) (Zaa (pv 2) Zad))) (fun _=>rfl))) (pw_or1 (Zaw Zcf (Zas (ixK K hu) (Zas (ixK K hu) (pv 4) (pv 2) (fun _ _=>rfl)) Zaf (fun _ _=>rfl)) (Zas (ixK K hu) (Zas (ixK K hu) (pv 4) (pv 2) (fun _ _=>rfl)) Zaf (fun _ _=>rfl)) (nomark _))))) Zd2 Za2) (Zae (Zav (i:=5) sc_drawn_in.nd rfl (by first|exact Or.inl rfl|exact Or.inr rfl) (Zai (minK K rfl) rfl (mb "min" (by decide)) Zfc (Zaa (Zas (ixK K hu) (pv 4) (pv 2) (fun _ _=>rfl)) Zad))) (Zae (Zav (i:=6) sc_drawn_in.nd rfl (by first|exact Or.inl rfl|exact Or.inr rfl) (Zai (maxK K rfl) rfl (mb "max" (by decide)) Zkh (Zaa (Zas (ixK K hu) (pv 4) (pv 2) (fun _ _=>rfl)) Zad))) (Zae (Zav (i:=7) sc_drawn_in.nd rfl (by first|exact Or.inl rfl|exact Or.inr rfl) (Zej (Zaw Zcf (Zas (ixK K hu) (Zas (ixK K hu) (pv 4) (pv 2) (fun _ _=>rfl)) Zaf (fun _ _=>rfl)) (pv 5) (nomark _)) (Zap Zb6 Zaf (pv 2)) (Zap (addK K) (Zap Zb6 Zaf (pv 2)) Zaf))) (Zae (Zav (i:=8) sc_drawn_in.nd rfl (by first|exact Or.inl rfl|exact Or.inr rfl) (Za6 (lstK K) rfl (mb "list" (by decide)) Zi5 (Zaa (pv 1) Zad))) (Zae (Zc1 (Zap (addK K) (Za1 C_others_behind (hr.mono (by first|decide|omega)) (Zaa (Zas (ixK K hu) (pv 8) (pv 5) (fun _ _=>rfl)) (Zaa (pv 7) Zad))) (Za1 C_others_behind (hr.mono (by first|decide|omega)) (Zaa (Zas (ixK K hu) (pv 8) (pv 6) (fun _ _=>rfl)) (Zaa (Zap Zp0 (pv 7) Zaf) Zad)))) (Zd1 (pv 8) (pv 5) (setU hu))) (Zae (Zn5 (pv 8) (pv 6)) (Zae (Zc7 (i:=9) ["a","b"] (show CompSc (defScope s_drawn_in) ["web","order","tie","many","ties","low","high","end","rows","kept"] _ ["low","high"] [5,6] from ⟨rfl,by decide +kernel,by decide +kernel,by decide +kernel,rfl,by decide +kernel⟩) rfl sc_drawn_in.nd rfl (by first|exact Or.inl rfl|exact Or.inr rfl) (seqK K (Zap (addK K) (Zbg (slK K) (pv 4) Zbx (Zbs (pv 2))) (Zbg (slK K) (pv 4) (Zbs (Zap (addK K) (pv 2) Zaf)) Zbx))) (fun _ _ _ _ _=>(gtupK (n:=2) K rfl (Zbi (Zay (i:=0) (show List.Nodup (["a","b","low","high"]:List Str) from by decide) rfl (Or.inl rfl)) (Zbi (Zay (i:=1) (show List.Nodup (["a","b","low","high"]:List Str) from by decide) rfl (Or.inl rfl)) Zdb)))) (fun _ _ _ _ _=>Zck) (fun _ _ _ _ _=>(Zbb (Zaa (Za1 C_place_drawn (hr.mono (by first|decide|omega)) (Zaa (pv 0) (Zaa (pv 2) (Zaa (pv 3) Zad)))) (Zaa (Za1 C_place_drawn (hr.mono (by first|decide|omega)) (Zaa (pv 1) (Zaa (pv 2) (Zaa (pv 3) Zad)))) Zad))))) (Zal (Zaz (Zbb (Zaa (Zbb (Zaa (Zap Zdp (pv 3) Zaf) (Zaa (Za6 (tupK K) rfl (mb "tuple" (by decide)) Zbq (Zaa (pv 9) Zad)) Zad))) (Zaa (Za1 C_rows_without (hr.mono (by first|decide|omega)) (Zaa (pv 8) (Zaa (pv 2) Zad))) Zad)))))))))))))),Zcp (fun ds Post hf=>?_) h⟩
 obtain ⟨n,ts,o,t,rfl,hW,hO,ht,hne,q⟩:=hf
 refine ⟨by simp,?_⟩
 dsimp only [startD,List.tail,List.map,List.length,List.replicate]
 have hw2:=hW.len
 have ol:=hO.len
 have hn1:=hW.hi
 obtain ⟨a,b,T⟩:=Zjz hW ht
 rw [T.pa,T.pb] at hne
 have Dr:=Zj9 T hne
 obtain ⟨i1,i2⟩:=Ziq hW hO t (loN ts t) (hiN ts t) (elN ts t) (partner (elN ts t))
 have dlt:=Dr.lt
 have dhi:=Dr.hi
 obtain ⟨l1,l2⟩:=Zjr hO (p:=loN ts t) (by omega)
 obtain ⟨h1,h2⟩:=Zjr hO (p:=hiN ts t) (by omega)
 have ml:(elN ts t:Int) ∈ o.getD (loN ts t) []:=(hO.row _ _ l2).mem.mpr ⟨elN ts t,by have:=Dr.e1; omega,Dr.p1,rfl⟩
 have mh:((partner (elN ts t):Nat):Int) ∈ o.getD (hiN ts t) []:=(hO.row _ _ h2).mem.mpr ⟨_,by have:=Dr.e2; omega,Dr.p2,rfl⟩
 have q48:∀ i:Nat,(o.getD i []).length<=48:=fun i=>by
  rw [List.getD_eq_getElem?_getD]
  cases z:o[i]? with
  | none=>simp
  | some r=>exact (hO.rows hW).2 r (List.mem_of_getElem? z)
 have elo:min a b=(loN ts t:Int):=by unfold loN; rw [T.pa,T.pb]; have:=T.ra; have:=T.rb; omega
 have ehi:max a b=(hiN ts t:Int):=by unfold hiN; rw [T.pa,T.pb]; have:=T.ra; have:=T.rb; omega
 refine Zaj (Zie (Zac rfl (Zh0 rfl (Zcr (Zcz (Zcr (Zcz (Zfr ?_))))))))
 refine Zaj (Zb4 (Zmd (Zdo (Zcd (Zau (Zab (Zac rfl (Zab (Zac rfl (Zag ⟨n,ts,t,rfl,ht,true,rfl,iteF ?_⟩))))))))))
 refine Za0 (Zan (Zan (Zan (Zac rfl (Zac rfl (Za4 T.atD (Zar (Za4 (d:=.int a) rfl ?_))))))))
 refine Zan (Zan (Zac rfl (Zac rfl (Za4 T.atD (Zar (Za4 (d:=.int b) rfl (Zei ⟨_,rfl,?_⟩)))))))
 rw [decide_eq_false hne]
 refine iteF (Za7 ?_)
 refine Zaj (Zax (Za5 (Zab (Zan (Zac rfl (Zac rfl (Za4 T.atD (Zag (Zhm (ns:=[a,b]) (m:=(loN ts t:Int)) (Or.inr rfl) ?_ ?_ ?_)))))))))
 ·rw [<- elo]; have:=Int.min_def a b; rw [this]; split <;> simp
 ·intro x hx; rw [<- elo]; simp at hx; omega
 refine Zaj (Zax (Za5 (Zab (Zan (Zac rfl (Zac rfl (Za4 T.atD (Zag (Zoe (ns:=[a,b]) (m:=(hiN ts t:Int)) (Or.inr rfl) ?_ ?_ ?_)))))))))
 ·rw [<- ehi]; have:=Int.max_def a b; rw [this]; split <;> simp
 ·intro x hx; rw [<- ehi]; simp at hx; omega
 refine Zce (fun Δ=>Δ = [.val (encWeb n ts),.val (encOrd o),.val (.int t),.val (.int n),.val (.tup (ts.map encTie)),.val (.int (loN ts t:Int)),.val (.int (hiN ts t:Int)),.val (.int (elN ts t:Int)),.any,.any]) ?_ ?_
 ·refine Zax (Zek (Za0 (Zan (Zan (Zan (Zac rfl (Zac rfl (Za4 T.atD (Zar (Za4 (d:=.int a) rfl (Zac rfl (Zei ⟨_,rfl,ite2 (fun z=>?_) (fun z=>?_)⟩))))))))))))
  ·have z:a=(loN ts t:Int):=of_decide_eq_true z
   refine Zan (Zar (Zac rfl (jr_I (Or.inl ⟨by omega,by omega⟩) ?_)))
   rw [show (2:Int) * (t:Int)=(elN ts t:Int) by unfold elN; rw [T.pa,T.pb,if_pos (by omega)]; omega]
   rfl
  ·have z:¬ a=(loN ts t:Int):=of_decide_eq_false (Bool.eq_false_iff.mpr z)
   refine Zan (Zan (Zar (Zac rfl (jr_I (Or.inl ⟨by omega,by omega⟩) (Zar (Zb8 ?_))))))
   rw [show (2:Int) * (t:Int) + 1=(elN ts t:Int) by unfold elN; rw [T.pa,T.pb,if_neg (by omega)]; omega]
   rfl
 rintro Δ1 rfl
 refine Zaj (Zdw (Zi1 (Zab (Zac rfl (Zag ⟨_,Or.inl rfl,?_⟩)))))
 have aL:atI (o.map encRow) (loN ts t:Int)=some (encRow (o.getD (loN ts t) [])):=Zbh l1
 have aH:atI (o.map encRow) (hiN ts t:Int)=some (encRow (o.getD (hiN ts t) [])):=Zbh h1
 have zl:=q48 (loN ts t)
 have zh:=q48 (hiN ts t)
 refine Zaj (Zc4 (Zan (Zau (Zab (Zde rfl rfl (Zac rfl ⟨_,_,_,_,rfl,rfl,rfl,aL,Zab (Zac rfl (Zag ⟨_,_,rfl,ml,by omega,?_⟩))⟩))))))
 refine Zau (Zab (Zde rfl rfl (Zac rfl ⟨_,_,_,_,rfl,rfl,rfl,aH,Zab (Zan (Zac rfl (Zar (Zf9 ?_))))⟩)))
 rw [Zny]
 have b1:=Zhw (o.getD (loN ts t) []) (elN ts t)
 have b2:=Zhw (o.getD (hiN ts t) []) (partner (elN ts t):Nat)
 refine Zag ⟨_,_,rfl,mh,by omega,Zct ?_ ⟨⟨_,_,rfl,rfl⟩,Zac rfl ⟨_,_,_,loN ts t,rfl,rfl,rfl,?_,?_⟩⟩⟩
 ·rw [List.length_map,List.length_map]; exact Nat.le_of_lt (small1000 (by omega))
 ·unfold ixN
  rw [List.length_map,if_pos (by omega),if_pos (by omega)]
  rfl
 have e1:(o.map encRow).set (loN ts t) (.tup ((obRow (o.getD (loN ts t) []) (elN ts t)).map D.int ++ (obRow (o.getD (hiN ts t) []) (partner (elN ts t):Nat)).map D.int))=(o.set (loN ts t) (obRow (o.getD (loN ts t) []) (elN ts t) ++ obRow (o.getD (hiN ts t) []) (partner (elN ts t):Nat))).map encRow:=by
  rw [List.map_set,<- List.map_append]
  rfl
 rw [e1]
 refine Zaj (Zm4 rfl rfl (Zac rfl ⟨_,_,hiN ts t,rfl,rfl,rfl,?_,?_,?_⟩))
 ·rw [List.length_map,List.length_set]; omega
 ·rw [List.length_map,List.length_set]; omega
 have e2:((o.set (loN ts t) (obRow (o.getD (loN ts t) []) (elN ts t) ++ obRow (o.getD (hiN ts t) []) (partner (elN ts t):Nat))).map encRow).eraseIdx (hiN ts t)=(inRows t (loN ts t) (hiN ts t) (elN ts t) (partner (elN ts t):Nat) o).map encRow:=by
  unfold inRows
  rw [List.eraseIdx_eq_take_drop_succ,Zey]
 rw [e2]
 refine Zaj (Zax (Zf5 (by decide) (Zdt (Zan (Zdg (Zac rfl (Zbv (Zbw (Zac rfl ⟨_,rfl,.tup ((ts.map encTie).take t),?_,?_⟩)))))))))
 ·show some (D.tup (cutD (ts.map encTie) none (some ((t:Nat):Int))))=_
  rw [Zec _ (by rw [List.length_map]; omega)]
 refine Zdg (Zac rfl (Zbw (Zan (Zac rfl (Zar (Zb8 ⟨_,rfl,Zbv ⟨.tup ((ts.map encTie).drop (t + 1)),?_,Zct ?_ ?_⟩⟩))))))
 ·show some (D.tup (cutD (ts.map encTie) (some ((t:Int) + 1)) none))=_
  rw [show ((t:Int) + 1)=((t + 1:Nat):Int) by omega,Zcq _ (by rw [List.length_map]; omega)]
 ·rw [List.length_drop,List.length_take,List.length_map]
  exact Nat.le_of_lt (small1000 (by omega))
 rw [Zey]
 have hel:=List.length_eraseIdx_le (l:=ts) (i:=t)
 refine ⟨_,rfl,?_,fun _=>true,fun d=>match d with | .tup [.int x,.int y]=>.tup [.int (pd (loN ts t) (hiN ts t) x),.int (pd (loN ts t) (hiN ts t) y)] | d=>d,fun j d hd=>?_,?_⟩
 ·rw [List.length_map]; exact small1000 (by omega)
 ·rw [List.getElem?_map] at hd
  cases z:(ts.eraseIdx t)[j]? with
  | none=>rw [z] at hd; cases hd
  | some u=>
   rw [z] at hd
   have hd:encTie u=d:=by simpa using hd
   subst hd
   refine ⟨_,_,rfl,Zcl ⟨rfl,?_⟩⟩
   rw [if_pos rfl]
   refine Zbp (Zab (Zau (Zab (Zac rfl (Zab (Zac rfl (Zab (Zac rfl (Zag ⟨_,_,_,rfl,?_⟩)))))))))
   exact Zab (Zau (Zab (Zac rfl (Zab (Zac rfl (Zab (Zac rfl (Zag ⟨_,_,_,rfl,Zag ⟨Zbu,rfl,_,_,rfl⟩⟩))))))))
 have e3:(((ts.eraseIdx t).map encTie).filter fun _=>true).map (fun d=>match d with | .tup [.int x,.int y]=>D.tup [.int (pd (loN ts t) (hiN ts t) x),.int (pd (loN ts t) (hiN ts t) y)] | d=>d)=(inTs ts t).map encTie:=by
  unfold inTs
  rw [List.filter_eq_self.mpr (by simp),List.map_map,List.map_map]
  rfl
 rw [e3]
 refine Za3 (Zbp (Zab (Zbp (Zab (Zan (Zac rfl (Zar (Zf9 (Zab (Za5 (Zab (Zac rfl (Zag (Zcu (Or.inl rfl) (Zag ⟨Zbu,?_⟩)))))))))))))))
 exact Zab (Zau (Zab (Zfl rfl (Zab (Zac rfl (Zag ⟨_,_,t,rfl,Or.inr rfl,i1,i2,Zag ⟨Zbu,q⟩⟩))))))
end
theorem Zhl {r:List Int} {c:Nat ⊕ Nat} {x:Int} {f:Int->Bool} (h:f x=false):(rowW r c x).filter f=r.filter f:=by
 unfold rowW
 rw [List.filter_append,List.filter_cons_of_neg (by rw [h]; decide),<- List.filter_append,List.take_append_drop]
theorem Zex {o:List (List Int)} {p:Nat} {c:Nat ⊕ Nat} {x:Int} {f:Int->Bool} (h:f x=false) (hp:p < o.length):(put1 o p c x).map (fun r=>r.filter f)=o.map (fun r=>r.filter f):=by
 unfold put1
 rw [List.map_set,Zhl h]
 apply List.ext_getElem?
 intro i
 by_cases hi:i=p
 ·subst hi
  rw [List.getElem?_set_self (by rw [List.length_map]; exact hp),List.getElem?_map,Zam hp]; rfl
 ·rw [List.getElem?_set_ne (Ne.symm hi)]
theorem Zix {n:Int} {ts:List (Int × Int)} {o:List (List Int)} (hW:WebOk n ts) (hO:OrdOk n ts o) {c d:Nat ⊕ Nat} (hc:CorOk n ts o c) (hd:CorOk n ts o d) :
  (putO ts o c d).map (fun r=>r.filter (keepE ts.length))=o.map (fun r=>r.filter (keepE ts.length)):=by
 unfold putO
 have c1:=(Zby hW hO hc).1
 have d1:=(Zby hW hO hd).1
 rw [Zex (decide_eq_false (by omega)) (by rw [Zd6]; exact d1),Zex (decide_eq_false (by omega)) c1]
theorem Zb1 {ts:List (Int × Int)} {p:Int} {r:List Int} (h:RowOk ts (2 * ts.length) p r) {x:Int} (hx:x ∈ r):0<=x/\x < 2 * (ts.length:Int):=by
 obtain ⟨e,he,_,rfl⟩:=h.mem.mp hx
 omega
theorem Zjh {ts:List (Int × Int)} {p:Int} {r:List Int} (h:RowOk ts (2 * ts.length) p r):(r.filter (keepE ts.length)).map (outE ts.length)=r:=by
 have e:r.filter (keepE ts.length)=r:=List.filter_eq_self.mpr fun x hx=>decide_eq_true (by have:=Zb1 h hx; omega)
 rw [e]
 conv=>rhs; rw [<- List.map_id r]
 refine List.map_congr_left fun x hx=>?_
 unfold outE
 rw [if_pos (Zb1 h hx).2]; rfl
theorem Zf8 {n:Int} {ts:List (Int × Int)} {o:List (List Int)} (hW:WebOk n ts) (hO:OrdOk n ts o) {c d:Nat ⊕ Nat} (hc:CorOk n ts o c) (hd:CorOk n ts o d) :
  (putTs ts c d).eraseIdx ts.length=ts/\(putO ts o c d).map (outRow ts.length)=o:=by
 constructor
 ·unfold putTs
  rw [List.eraseIdx_append_of_length_le (Nat.le_refl _),Nat.sub_self]
  exact List.append_nil ts
 ·have e:=congrArg (List.map fun r=>lf (r.map (outE ts.length))) (Zix hW hO hc hd)
  rw [List.map_map,List.map_map] at e
  refine Eq.trans (show _=_ from e) ?_
  conv=>rhs; rw [<- List.map_id o]
  refine List.map_congr_left fun r hr=>?_
  obtain ⟨p,hp⟩:=List.mem_iff_getElem?.mp hr
  have R:=hO.row p r hp
  show lf ((r.filter (keepE ts.length)).map (outE ts.length))=r
  rw [Zjh R,Zjq R]
theorem Zpv {ts:List (Int × Int)} {m:Nat} {p:Int} {r:List Int} (R:RowOk ts m p r) (j:Nat):lf (rotAt r j)=r:=by
 cases r with
 | nil=>unfold rotAt; rw [List.drop_nil,List.take_nil]; exact Zee
 | cons x r=>
  have nd:=R.nodup
  have hle:∀ a ∈ x :: r,x<=a:=fun a ha=>(List.mem_cons.mp ha).elim (fun e=>by rw [e]; exact Int.le_refl _) (R.least a)
  rcases Nat.eq_zero_or_pos j with rfl | hj
  ·unfold rotAt; rw [List.drop_zero,List.take_zero,List.append_nil]; exact Zjq R
  by_cases hl:(x :: r).length<=j
  ·unfold rotAt; rw [List.drop_of_length_le hl,List.take_of_length_le hl,List.nil_append]; exact Zjq R
  have hp:=Zep (x :: r) j
  rw [Zg7 (hp.mem_iff.mpr List.mem_cons_self) fun a ha=>hle a (hp.mem_iff.mp ha)]
  obtain ⟨j,rfl⟩:∃ i,j=i + 1:=⟨j - 1,by omega⟩
  have hx:x ∉ (x :: r).drop (j + 1):=by
   rw [List.drop_succ_cons]
   exact fun h=>(List.nodup_cons.mp nd).1 (List.mem_of_mem_drop h)
  have ei:(rotAt (x :: r) (j + 1)).idxOf x=((x :: r).drop (j + 1)).length:=by
   unfold rotAt
   rw [List.idxOf_append,if_neg hx,List.take_succ_cons,List.idxOf_cons_self,Nat.zero_add]
  rw [ei]
  unfold rotAt
  rw [List.drop_left,List.take_left,List.take_append_drop]
theorem Zjy {r:List Int} {e:Nat} {x:Int} (h:(e:Int) ∈ r) (hx:x ∉ r):obRow (rowW r (.inl e) x) x=rotAt r (r.idxOf (e:Int) + 1):=by
 obtain ⟨h1,_,_⟩:=Zbo h
 show obRow (r.take (r.idxOf (e:Int) + 1) ++ x :: r.drop (r.idxOf (e:Int) + 1)) x=_
 have hl:(r.take (r.idxOf (e:Int) + 1)).length=r.idxOf (e:Int) + 1:=by rw [List.length_take]; omega
 generalize r.idxOf (e:Int) + 1=i at hl ⊢
 have ei:(r.take i ++ x :: r.drop i).idxOf x=i:=by
  rw [List.idxOf_append,if_neg (fun z=>hx (List.mem_of_mem_take z)),List.idxOf_cons_self,Nat.zero_add,hl]
 have e1:(r.take i ++ x :: r.drop i).drop (i + 1)=r.drop i:=by
  rw [show r.take i ++ x :: r.drop i=(r.take i ++ [x]) ++ r.drop i by rw [List.append_assoc]; rfl]
  have:(r.take i ++ [x]).length=i + 1:=by rw [List.length_append,hl]; rfl
  rw [<- this]; exact List.drop_left
 have e2:(r.take i ++ x :: r.drop i).take i=r.take i:=by
  conv=>lhs; arg 1; rw [<- hl]
  exact List.take_left
 unfold obRow rotAt
 rw [ei,e1,e2]
theorem Zjp (x:Int):obRow [x] x=[]:=by
 unfold obRow
 rw [List.idxOf_cons_self]; rfl
theorem Zl2 {ts:List (Int × Int)} {p:Int} {r l:List Int} (h:RowOk ts (2 * ts.length) p r) (hl:∀ x ∈ l,x ∈ r):(l.filter (keepE ts.length)).map (outE ts.length)=l:=by
 have e:l.filter (keepE ts.length)=l:=List.filter_eq_self.mpr fun x hx=>decide_eq_true (by have:=Zb1 h (hl x hx); omega)
 rw [e]
 conv=>rhs; rw [<- List.map_id l]
 refine List.map_congr_left fun x hx=>?_
 unfold outE
 rw [if_pos (Zb1 h (hl x hx)).2]; rfl
theorem Ziy {ts:List (Int × Int)} {p:Int} {r:List Int} (h:RowOk ts (2 * ts.length) p r) (j:Nat):outRow ts.length (rotAt r j)=r:=by
 unfold outRow
 rw [Zl2 h fun x hx=>(Zep r j).mem_iff.mp hx,Zpv h]
theorem Zjt {α β:Type} (g:α -> β) (l:List α) (i:Nat):(l.eraseIdx i).map g=(l.map g).eraseIdx i:=by
 rw [List.eraseIdx_eq_take_drop_succ,List.eraseIdx_eq_take_drop_succ,List.map_append,List.map_take,List.map_drop]
theorem Ze6 {ts:List (Int × Int)} {o o':List (List Int)} {p:Int} {e k g lo hi:Nat} {kx gx el eh:Int} (ok:o'.getD k []=rowW (o.getD k []) (.inl e) kx) (og:o'.getD g []=[gx]) (hm:o'.map (outRow ts.length)=o) (R:RowOk ts (2 * ts.length) p (o.getD k [])) (hin:(e:Int) ∈ o.getD k []) (hx:kx ∉ o.getD k [])
  (hel:(lo=k/\el=kx/\hi=g/\eh=gx)\/(lo=g/\el=gx/\hi=k/\eh=kx)):(inRows ts.length lo hi el eh o').map (outRow ts.length)=(o.set lo (o.getD k [])).eraseIdx hi:=by
 have Z:obRow (o'.getD lo []) el ++ obRow (o'.getD hi []) eh=rotAt (o.getD k []) ((o.getD k []).idxOf (e:Int) + 1):=by
  rcases hel with ⟨rfl,rfl,rfl,rfl⟩ | ⟨rfl,rfl,rfl,rfl⟩
  ·rw [ok,og,Zjy hin hx,Zjp,List.append_nil]
  ·rw [ok,og,Zjy hin hx,Zjp,List.nil_append]
 unfold inRows
 rw [Z,Zjt,List.map_set,hm,Ziy R]
def withO (o:List (List Int)) (k g:Nat):List (List Int):=(o.set (min g k) (o.getD k [])).eraseIdx (max g k)
theorem Zb2 {o:List (List Int)} {p:Nat} {r:List Int} (h:p < o.length):(o.set p r).getD p []=r:=by
 rw [List.getD_eq_getElem?_getD,List.getElem?_set_self h]; rfl
theorem Zcm {o:List (List Int)} {p q:Nat} {r:List Int} (h:p ≠ q):(o.set p r).getD q []=o.getD q []:=by
 rw [List.getD_eq_getElem?_getD,List.getElem?_set_ne h,List.getD_eq_getElem?_getD]
theorem Zjd (c:Nat ⊕ Nat) (g:Nat) (x:Int) (h:c=.inr g):rowW [] c x=[x]:=by subst h; rfl
theorem Zb0 (ts:List (Int × Int)) (a b:Nat):loN (ts ++ [((a:Int),(b:Int))]) ts.length=min a b/\hiN (ts ++ [((a:Int),(b:Int))]) ts.length=max a b/\elN (ts ++ [((a:Int),(b:Int))]) ts.length=(if a < b then 2 * ts.length else 2 * ts.length + 1):=by
 obtain ⟨h1,h2⟩:=Zdq ts (a:Int) (b:Int)
 unfold loN hiN elN
 rw [h1,h2]
 refine ⟨by omega,by omega,?_⟩
 by_cases h:a < b
 ·rw [if_pos h,if_pos (by omega)]
 ·rw [if_neg h,if_neg (by omega)]
theorem Zc2 (L:Nat):partner (2 * L)=2 * L + 1/\partner (2 * L + 1)=2 * L:=by
 unfold partner
 constructor
 ·rw [if_pos (by omega)]
 ·rw [if_neg (by omega)]; omega
theorem Zmn {n:Int} {ts:List (Int × Int)} {o:List (List Int)} (hW:WebOk n ts) (hO:OrdOk n ts o) {e g:Nat} (he:e < 2 * ts.length) (hg:(g:Int) < n) (hb:o.getD g []=[]) :
  (placeAt ts e).toNat ≠ g/\(inOrd (putTs ts (.inl e) (.inr g)) ts.length (putO ts o (.inl e) (.inr g))=withO o (placeAt ts e).toNat g)/\inOrd (putTs ts (.inr g) (.inl e)) ts.length (putO ts o (.inr g) (.inl e))=withO o (placeAt ts e).toNat g:=by
 have hc:CorOk n ts o (.inl e):=he
 have hd:CorOk n ts o (.inr g):=⟨hg,hb⟩
 obtain ⟨c1,c2⟩:=Zby hW hO hc
 obtain ⟨d1,_⟩:=Zby hW hO hd
 have hin:=(c2 e rfl).1
 have c1:(placeAt ts e).toNat < o.length:=c1
 have d1:g < o.length:=d1
 have hin:(e:Int) ∈ o.getD (placeAt ts e).toNat []:=hin
 generalize hk:(placeAt ts e).toNat=k at *
 have hne:k ≠ g:=fun z=>by rw [z,hb] at hin; exact nomatch hin
 have R:=hO.row k _ (Zam c1)
 have hx1:((2 * ts.length:Nat):Int) ∉ o.getD k []:=fun z=>by have:=(Zb1 R z).2; omega
 have hx2:((2 * ts.length + 1:Nat):Int) ∉ o.getD k []:=fun z=>by have:=(Zb1 R z).2; omega
 refine ⟨hne,?_,?_⟩
 ·have E:putO ts o (.inl e) (.inr g)=put1 (put1 o k (.inl e) ((2 * ts.length:Nat):Int)) g (.inr g) ((2 * ts.length + 1:Nat):Int):=by rw [<- hk]; rfl
  have ok:(putO ts o (.inl e) (.inr g)).getD k []=rowW (o.getD k []) (.inl e) ((2 * ts.length:Nat):Int):=by
   rw [E]; unfold put1; rw [Zcm (Ne.symm hne),Zb2 c1]
  have og:(putO ts o (.inl e) (.inr g)).getD g []=[((2 * ts.length + 1:Nat):Int)]:=by
   rw [E]; unfold put1; rw [Zb2 (by rw [List.length_set]; exact d1),Zcm hne,hb,Zjd _ g _ rfl]
  unfold inOrd
  rw [show putTs ts (.inl e) (.inr g)=ts ++ [((k:Int),(g:Int))] by unfold putTs; rw [<- hk]; rfl,(Zb0 ts k g).1,(Zb0 ts k g).2.1,(Zb0 ts k g).2.2]
  rw [Ze6 ok og (Zf8 hW hO hc hd).2 R hin hx1 ?_]
  ·unfold withO; rw [Nat.min_comm,Nat.max_comm]
  ·by_cases h:k < g
   ·rw [if_pos h,(Zc2 _).1]; exact .inl ⟨by omega,rfl,by omega,rfl⟩
   ·rw [if_neg h,(Zc2 _).2]; exact .inr ⟨by omega,rfl,by omega,rfl⟩
 ·have E:putO ts o (.inr g) (.inl e)=put1 (put1 o g (.inr g) ((2 * ts.length:Nat):Int)) k (.inl e) ((2 * ts.length + 1:Nat):Int):=by rw [<- hk]; rfl
  have ok:(putO ts o (.inr g) (.inl e)).getD k []=rowW (o.getD k []) (.inl e) ((2 * ts.length + 1:Nat):Int):=by
   rw [E]; unfold put1; rw [Zb2 (by rw [List.length_set]; exact c1),Zcm (Ne.symm hne)]
  have og:(putO ts o (.inr g) (.inl e)).getD g []=[((2 * ts.length:Nat):Int)]:=by
   rw [E]; unfold put1; rw [Zcm hne,Zb2 d1,hb,Zjd _ g _ rfl]
  unfold inOrd
  rw [show putTs ts (.inr g) (.inl e)=ts ++ [((g:Int),(k:Int))] by unfold putTs; rw [<- hk]; rfl,(Zb0 ts g k).1,(Zb0 ts g k).2.1,(Zb0 ts g k).2.2]
  rw [Ze6 ok og (Zf8 hW hO hd hc).2 R hin hx2 ?_]
  ·rfl
  ·by_cases h:g < k
   ·rw [if_pos h,(Zc2 _).1]; exact .inr ⟨by omega,rfl,by omega,rfl⟩
   ·rw [if_neg h,(Zc2 _).2]; exact .inl ⟨by omega,rfl,by omega,rfl⟩
theorem Zjw {ts:List (Int × Int)} {e g:Nat}:inTs (putTs ts (.inl e) (.inr g)) ts.length=ts.map (pdT (min g (placeAt ts e).toNat:Nat) (max g (placeAt ts e).toNat:Nat))/\inTs (putTs ts (.inr g) (.inl e)) ts.length=ts.map (pdT (min g (placeAt ts e).toNat:Nat) (max g (placeAt ts e).toNat:Nat)):=by
 constructor
 ·unfold inTs
  rw [show putTs ts (.inl e) (.inr g)=ts ++ [(((placeAt ts e).toNat:Int),(g:Int))] from rfl,(Zb0 ts _ g).1,(Zb0 ts _ g).2.1,List.eraseIdx_append_of_length_le (Nat.le_refl _),Nat.sub_self,Nat.min_comm,Nat.max_comm]
  rw [show [(((placeAt ts e).toNat:Int),(g:Int))].eraseIdx 0=[] from rfl,List.append_nil]
 ·unfold inTs
  rw [show putTs ts (.inr g) (.inl e)=ts ++ [((g:Int),((placeAt ts e).toNat:Int))] from rfl,(Zb0 ts g _).1,(Zb0 ts g _).2.1,List.eraseIdx_append_of_length_le (Nat.le_refl _),Nat.sub_self]
  rw [show [((g:Int),((placeAt ts e).toNat:Int))].eraseIdx 0=[] from rfl,List.append_nil]
def Rot (l m:List Int):Prop:=∃ a b,l=a ++ b/\m=b ++ a
theorem Rot.refl (l:List Int):Rot l l:=⟨[],l,rfl,(List.append_nil l).symm⟩
theorem Rot.symm {l m:List Int} (h:Rot l m):Rot m l:=let ⟨a,b,h1,h2⟩:=h; ⟨b,a,h2,h1⟩
theorem Rot.trans {l m k:List Int} (h1:Rot l m) (h2:Rot m k):Rot l k:=by
 obtain ⟨a,b,rfl,e⟩:=h1
 obtain ⟨c,d,e',rfl⟩:=h2
 rw [e] at e'
 rcases List.append_eq_append_iff.mp e' with ⟨x,rfl,rfl⟩ | ⟨x,rfl,rfl⟩
 ·exact ⟨x,d ++ b,by simp,by simp⟩
 ·exact ⟨a ++ c,x,by simp,by simp⟩
theorem Rot.perm {l m:List Int} (h:Rot l m):l.Perm m:=by
 obtain ⟨a,b,rfl,rfl⟩:=h
 exact List.perm_append_comm
theorem Rot.map {l m:List Int} (f:Int->Int) (h:Rot l m):Rot (l.map f) (m.map f):=by
 obtain ⟨a,b,rfl,rfl⟩:=h
 exact ⟨a.map f,b.map f,List.map_append,List.map_append⟩
theorem Rot.filter {l m:List Int} (f:Int->Bool) (h:Rot l m):Rot (l.filter f) (m.filter f):=by
 obtain ⟨a,b,rfl,rfl⟩:=h
 exact ⟨a.filter f,b.filter f,List.filter_append ..,List.filter_append ..⟩
theorem Zgv (l:List Int) (j:Nat):Rot l (rotAt l j):=⟨l.take j,l.drop j,(List.take_append_drop j l).symm,rfl⟩
theorem Zpp (l:List Int):Rot l (lf l):=by
 by_cases h:l=[]
 ·subst h; rw [Zee]; exact Rot.refl _
 ·unfold lf; rw [dif_neg h]; exact Zgv _ _
theorem Zmc {a:List Int} {l m:List Int} {y:Int} (nd:(l ++ [y]).Nodup) (h:Rot (l ++ [y]) (m ++ [y])):l=m:=by
 obtain ⟨a,b,h1,h2⟩:=h
 rcases List.eq_nil_or_concat a with rfl | ⟨a',x,rfl⟩
 ·rw [List.append_nil] at h2; rw [List.nil_append] at h1
  exact (List.append_cancel_right (h1.trans h2.symm))
 rcases List.eq_nil_or_concat b with rfl | ⟨b',z,rfl⟩
 ·rw [List.append_nil] at h1; rw [List.nil_append] at h2
  exact (List.append_cancel_right (h1.trans h2.symm))
 ·simp only [List.concat_eq_append,<- List.append_assoc] at h1 h2
  have e1:x=y:=by have:=(List.append_inj' h2 rfl).2; simpa using this.symm
  have e2:z=y:=by have:=(List.append_inj' h1 rfl).2; simpa using this.symm
  subst e1; subst e2
  rw [h1,List.append_assoc,List.append_assoc] at nd
  have:=(List.nodup_append.mp (List.nodup_append.mp nd).2.1).2.2 z (List.mem_singleton.mpr rfl) z (List.mem_append_right _ (List.mem_singleton.mpr rfl))
  exact absurd rfl this
theorem Znj {r l:List Int} {x:Int} (nd:(x :: r).Nodup) (hle:∀ a ∈ x :: r,x<=a) (h:Rot (x :: r) l):lf l=x :: r:=by
 obtain ⟨a,b,h1,rfl⟩:=h
 have hp:(b ++ a).Perm (x :: r):=by rw [h1]; exact List.perm_append_comm
 rw [Zg7 (hp.mem_iff.mpr List.mem_cons_self) fun c hc=>hle c (hp.mem_iff.mp hc)]
 cases a with
 | nil=>
  rw [List.nil_append] at h1
  rw [List.append_nil,<- h1,List.idxOf_cons_self]
  unfold rotAt; rw [List.drop_zero,List.take_zero,List.append_nil]
 | cons y a=>
  rw [List.cons_append] at h1
  obtain ⟨rfl,rfl⟩:=List.cons.inj h1
  have hx:x ∉ b:=fun z=>(List.nodup_cons.mp nd).1 (List.mem_append_right _ z)
  rw [List.idxOf_append,if_neg hx,List.idxOf_cons_self,Nat.zero_add]
  unfold rotAt; rw [List.drop_left,List.take_left]; rfl
theorem Zhc {s n:List Int} {y:Nat} {x:Int} (nd:(n ++ [(y:Int)]).Nodup) (h:Rot s (n ++ [(y:Int)])):Rot (rowW s (.inl y) x) (n ++ [(y:Int)] ++ [x]):=by
 have hy:(y:Int) ∈ s:=h.perm.mem_iff.mpr (by simp)
 obtain ⟨h1,h2,_⟩:=Zbo hy
 show Rot (s.take (s.idxOf (y:Int) + 1) ++ x :: s.drop (s.idxOf (y:Int) + 1)) _
 have et:s.take (s.idxOf (y:Int) + 1)=s.take (s.idxOf (y:Int)) ++ [(y:Int)]:=by
  rw [List.take_add_one,h2]; rfl
 have hr:Rot s (s.drop (s.idxOf (y:Int) + 1) ++ s.take (s.idxOf (y:Int)) ++ [(y:Int)]):=by
  rw [List.append_assoc,<- et]
  exact ⟨s.take (s.idxOf (y:Int) + 1),s.drop (s.idxOf (y:Int) + 1),(List.take_append_drop _ _).symm,rfl⟩
 have e:=Zmc (a:=[]) (h.perm.nodup_iff.mp (h.perm.nodup_iff.mpr nd)) (h.symm.trans hr)
 rw [e]
 refine ⟨s.take (s.idxOf (y:Int) + 1) ++ [x],s.drop (s.idxOf (y:Int) + 1),by simp,?_⟩
 rw [et]; simp
theorem Zln {l m:List Int} {y:Int} (nd:(y :: l).Nodup) (h:Rot (y :: l) (y :: m)):l=m:=by
 obtain ⟨a,b,h1,h2⟩:=h
 cases a with
 | nil=>
  rw [List.append_nil] at h2; rw [List.nil_append] at h1
  exact (List.cons.inj (h1.trans h2.symm)).2
 | cons x a=>
  cases b with
  | nil=>
   rw [List.append_nil] at h1; rw [List.nil_append] at h2
   exact (List.cons.inj (h1.trans h2.symm)).2
  | cons z b=>
   obtain ⟨rfl,rfl⟩:=List.cons.inj h1
   obtain ⟨rfl,_⟩:=List.cons.inj h2
   exact absurd (List.mem_append_right _ List.mem_cons_self) (List.nodup_cons.mp nd).1
structure Good (u:List Int):Prop where
 nd:u.Nodup
 le:∀ h ∈ u.head?,∀ a ∈ u,h<=a
theorem Zft {u l:List Int} (g:Good u) (h:Rot u l):lf l=u:=by
 cases u with
 | nil=>rw [List.eq_nil_of_length_eq_zero (h.perm.length_eq.symm:l.length=0)]; exact Zee
 | cons x u=>exact Znj g.nd (g.le x rfl) h
theorem RowOk.good {ts:List (Int × Int)} {m:Nat} {p:Int} {r:List Int} (R:RowOk ts m p r):Good r:=by
 refine ⟨R.nodup,fun h hh a ha=>?_⟩
 cases r with
 | nil=>cases hh
 | cons x r=>
  cases hh
  rcases List.mem_cons.mp ha with rfl | ha
  ·exact Int.le_refl _
  ·exact R.least a ha
theorem Zf1 {s:List Int} {y:Nat} {x:Int} (g:Good s) (hy:(y:Int) ∈ s) (hx:x ∉ s) (hl:∀ a ∈ s,a<=x):Good (rowW s (.inl y) x):=by
 obtain ⟨h1,_,_⟩:=Zbo hy
 have hp:(rowW s (.inl y) x).Perm (x :: s):=by
  show (s.take (s.idxOf (y:Int) + 1) ++ x :: s.drop (s.idxOf (y:Int) + 1)).Perm _
  refine List.perm_middle.trans ?_
  rw [List.take_append_drop]
 refine ⟨hp.nodup_iff.mpr (List.nodup_cons.mpr ⟨hx,g.nd⟩),fun h hh a ha=>?_⟩
 have e:(rowW s (.inl y) x).head? = s.head?:=by
  show (s.take (s.idxOf (y:Int) + 1) ++ x :: s.drop (s.idxOf (y:Int) + 1)).head? = _
  cases s with
  | nil=>cases hy
  | cons z s=>rfl
 rw [e] at hh
 rcases List.mem_cons.mp (hp.mem_iff.mp ha) with rfl | ha
 ·cases s with
  | nil=>cases hy
  | cons z s=>cases hh; exact hl _ List.mem_cons_self
 ·exact g.le h hh a ha
def nameT (t L:Nat) (k:Int):Int:=if k=(t:Int) then (L:Int) else k - (if decide (k > (t:Int))=true then 1 else 0)
def renE (t L:Nat) (e:Int):Int:=2 * nameT t L (e / 2) + e % 2
theorem Zen {t L:Nat} {e:Int} (h:keepE t e=true):renE t L e=outE t e:=by
 have h:¬ e / 2=(t:Int):=of_decide_eq_true h
 unfold renE nameT outE
 rw [if_neg h]
 by_cases z:e / 2 > (t:Int)
 ·rw [decide_eq_true z,if_pos rfl,if_neg (by omega)]; omega
 ·rw [decide_eq_false z,if_neg (by decide),if_pos (by omega)]; omega
theorem Zfp {t L:Nat} {e:Int} (h:e / 2=(t:Int)):renE t L e=2 * (L:Int) + e % 2:=by
 unfold renE nameT
 rw [if_pos h]
def leftOf (t:Nat) (r:List Int) (e:Int):List Int:=(rotAt r (r.idxOf e)).filter (keepE t)
def corB (t p:Nat) (r:List Int) (e:Int):Nat ⊕ Nat:=match (leftOf t r e).getLast? with
 | none=>.inr p
 | some y=>.inl (outE t y).toNat
theorem Zhv {r:List Int} {e:Int} (h:e ∈ r):∃ q,rotAt r (r.idxOf e)=e :: q/\Rot r (e :: q):=by
 obtain ⟨h1,h2,_⟩:=Zbo h
 have e1:r.drop (r.idxOf e)=e :: r.drop (r.idxOf e + 1):=by
  rw [List.drop_eq_getElem_cons h1]
  rw [List.getElem?_eq_getElem h1] at h2
  rw [Option.some.inj h2]
 refine ⟨r.drop (r.idxOf e + 1) ++ r.take (r.idxOf e),?_,?_⟩
 ·unfold rotAt; rw [e1]; rfl
 ·have:=Zgv r (r.idxOf e)
  unfold rotAt at this
  rw [e1] at this; exact this
theorem Zdv {r q:List Int} {e:Int} (nd:r.Nodup) (h:Rot r (e :: q)):(e :: q).Nodup:=h.perm.nodup_iff.mp nd
theorem Zhk {t:Nat} {r q:List Int} (h:Rot r q):Rot (outRow t r) ((q.filter (keepE t)).map (outE t)):=by
 unfold outRow
 exact (Zpp _).symm.trans ((h.filter _).map _)
theorem Zfo {a:Int} (h:0<=a):((a.toNat:Nat):Int)=a:=Int.toNat_of_nonneg h
theorem Zg0 {ts':List (Int × Int)} {t p L:Nat} {P:Int} {r:List Int} {e x:Int} (nd:r.Nodup) (R':RowOk ts' (2 * ts'.length) P (outRow t r)) (hL:ts'.length=L) (he:e ∈ r) (hu:∀ a ∈ r,a / 2=(t:Int)->a=e) (het:e / 2=(t:Int)) (hx:x=renE t L e) (hxl:2 * (L:Int)<=x) :
  rowW (outRow t r) (corB t p r e) x=lf (r.map (renE t L)):=by
 obtain ⟨q,hq,hr⟩:=Zhv he
 have ndq:=Zdv nd hr
 have hk:∀ a ∈ q,keepE t a=true:=fun a ha=>decide_eq_true fun z=>(List.nodup_cons.mp ndq).1 (hu a (hr.perm.mem_iff.mpr (List.mem_cons_of_mem _ ha)) z ▸ ha)
 have hke:keepE t e=false:=decide_eq_false fun z=>z het
 have fq:(e :: q).filter (keepE t)=q:=by
  rw [List.filter_cons_of_neg (by rw [hke]; decide)]
  exact List.filter_eq_self.mpr hk
 have hl:leftOf t r e=q:=by unfold leftOf; rw [hq,fq]
 have hs:=Zhk (t:=t) hr
 rw [fq] at hs
 have hm:Rot (r.map (renE t L)) (x :: q.map (outE t)):=by
  have:=hr.map (renE t L)
  rw [List.map_cons,<- hx,List.map_congr_left (g:=outE t) fun a ha=>Zen (hk a ha)] at this
  exact this
 have hb:∀ a ∈ outRow t r,0<=a/\a < 2 * (L:Int):=fun a ha=>by have:=Zb1 R' ha; rw [hL] at this; exact this
 unfold corB
 rw [hl]
 rcases List.eq_nil_or_concat q with rfl | ⟨n,y,rfl⟩
 ·have e0:outRow t r=[]:=List.eq_nil_of_length_eq_zero (hs.perm.length_eq)
  rw [e0]
  refine (Zft ⟨by simp,fun h hh a ha=>?_⟩ hm.symm).symm
  cases hh; rw [List.mem_singleton.mp ha]; exact Int.le_refl _
 ·rw [List.concat_eq_append,List.getLast?_append] at *
  rw [List.map_append] at hs hm
  have hs:Rot (outRow t r) (n.map (outE t) ++ [outE t y]):=hs
  have hy:outE t y ∈ outRow t r:=hs.perm.mem_iff.mpr (by simp)
  show rowW (outRow t r) (.inl (outE t y).toNat) x=_
  have ey:=Zfo (hb _ hy).1
  rw [<- ey] at hs
  have nds:=hs.perm.nodup_iff.mp R'.nodup
  have h1:=Zhc (x:=x) nds hs
  refine (Zft (Zf1 R'.good (by rw [ey]; exact hy) (fun z=>by have:=(hb _ z).2; omega) fun a ha=>by have:=(hb _ ha).2; omega) (h1.trans (Rot.trans ⟨n.map (outE t) ++ [((outE t y).toNat:Int)],[x],rfl,rfl⟩ ?_))).symm
  rw [ey]; exact hm.symm
theorem Zii {r q:List Int} {e z:Int} (h:e ∈ r) (hq:rotAt r (r.idxOf e)=e :: z :: q):nextIn r e=z:=by
 obtain ⟨h1,h2,_⟩:=Zbo h
 have e1:(rotAt r (r.idxOf e))[1]? = some z:=by rw [hq]; rfl
 unfold rotAt at e1
 unfold nextIn
 rw [List.getD_eq_getElem?_getD]
 by_cases hl:r.idxOf e + 1 < r.length
 ·rw [List.getElem?_append_left (by rw [List.length_drop]; omega),List.getElem?_drop] at e1
  rw [Nat.mod_eq_of_lt hl,e1]; rfl
 ·have hl:r.idxOf e + 1=r.length:=by omega
  rw [List.getElem?_append_right (by rw [List.length_drop]; omega),List.length_drop,show 1 - (r.length - r.idxOf e)=0 by omega] at e1
  rw [hl,Nat.mod_self]
  have hi:0 < r.idxOf e:=by
   rcases Nat.eq_zero_or_pos (r.idxOf e) with z0 | z0
   ·rw [z0,List.take_zero] at e1; cases e1
   ·exact z0
  rw [List.getElem?_take_of_lt hi] at e1
  rw [e1]; rfl
theorem Zil {ts':List (Int × Int)} {t p L:Nat} {P:Int} {r:List Int} (nd:r.Nodup) (R':RowOk ts' (2 * ts'.length) P (outRow t r)) (hL:ts'.length=L) (h0:2 * (t:Int) ∈ r) (h1:2 * (t:Int) + 1 ∈ r) :
  (nextIn r (2 * (t:Int))=2 * (t:Int) + 1/\2 < r.length/\corB t p r (2 * (t:Int))=corB t p r (2 * (t:Int) + 1)) ∨
  (¬ (nextIn r (2 * (t:Int))=2 * (t:Int) + 1/\2 < r.length)/\rowW (rowW (outRow t r) (corB t p r (2 * (t:Int))) (2 * (L:Int))) (corB t p r (2 * (t:Int) + 1)) (2 * (L:Int) + 1)=lf (r.map (renE t L))):=by
 obtain ⟨q,hq,hr⟩:=Zhv h0
 have hu:∀ a:Int,a / 2=(t:Int)->a=2 * (t:Int)\/a=2 * (t:Int) + 1:=fun a h=>by omega
 have hx0:renE t L (2 * (t:Int))=2 * (L:Int):=by rw [Zfp (by omega)]; omega
 have hx1:renE t L (2 * (t:Int) + 1)=2 * (L:Int) + 1:=by rw [Zfp (by omega)]; omega
 have k0:keepE t (2 * (t:Int))=false:=decide_eq_false (by omega)
 have k1:keepE t (2 * (t:Int) + 1)=false:=decide_eq_false (by omega)
 generalize ge0:2 * (t:Int)=e0 at *
 generalize ge1:e0 + 1=e1 at *
 have hne:e0 ≠ e1:=by omega
 generalize gx0:2 * (L:Int)=x0 at *
 have hq1:e1 ∈ q:=by
  rcases List.mem_cons.mp (hr.perm.mem_iff.mp h1) with z | z
  ·exact absurd z.symm hne
  ·exact z
 obtain ⟨B,A,rfl⟩:=List.append_of_mem hq1
 have ndq:=Zdv nd hr
 obtain ⟨nd1,nd2⟩:=List.nodup_cons.mp ndq
 obtain ⟨_,nd3,nd4⟩:=List.nodup_append.mp nd2
 have hB1:e1 ∉ B:=fun z=>nd4 e1 z e1 List.mem_cons_self rfl
 have hA1:e1 ∉ A:=(List.nodup_cons.mp nd3).1
 have kB:∀ a ∈ B,keepE t a=true:=fun a ha=>decide_eq_true fun z=>by
  rcases hu a z with rfl | rfl
  ·exact nd1 (List.mem_append_left _ ha)
  ·exact hB1 ha
 have kA:∀ a ∈ A,keepE t a=true:=fun a ha=>decide_eq_true fun z=>by
  rcases hu a z with rfl | rfl
  ·exact nd1 (List.mem_append_right _ (List.mem_cons_of_mem _ ha))
  ·exact hA1 ha
 have fB:B.filter (keepE t)=B:=List.filter_eq_self.mpr kB
 have fA:A.filter (keepE t)=A:=List.filter_eq_self.mpr kA
 have f0:(e0 :: (B ++ e1 :: A)).filter (keepE t)=B ++ A:=by
  rw [List.filter_cons_of_neg (by rw [k0]; decide),List.filter_append,List.filter_cons_of_neg (by rw [k1]; decide),fB,fA]
 have hl0:leftOf t r e0=B ++ A:=by unfold leftOf; rw [hq,f0]
 obtain ⟨q1,hq1',hr1⟩:=Zhv h1
 have eq1:q1=A ++ e0 :: B:=Zln (Zdv nd hr1) (hr1.symm.trans (hr.trans ⟨e0 :: B,e1 :: A,rfl,rfl⟩))
 subst eq1
 have hl1:leftOf t r e1=A ++ B:=by
  unfold leftOf
  rw [hq1',List.filter_cons_of_neg (by rw [k1]; decide),List.filter_append,List.filter_cons_of_neg (by rw [k0]; decide),fB,fA]
 have hs:=Zhk (t:=t) hr
 rw [f0,List.map_append] at hs
 have hm:Rot (r.map (renE t L)) (x0 :: (B.map (outE t) ++ (x0 + 1) :: A.map (outE t))):=by
  have:=hr.map (renE t L)
  rw [List.map_cons,List.map_append,List.map_cons,hx0,hx1,List.map_congr_left (g:=outE t) fun a ha=>Zen (kB a ha),List.map_congr_left (g:=outE t) (l:=A) fun a ha=>Zen (kA a ha)] at this
  exact this
 have hb:∀ a ∈ outRow t r,0<=a/\a < x0:=fun a ha=>by have:=Zb1 R' ha; rw [hL,gx0] at this; exact this
 unfold corB
 rw [hl0,hl1]
 rcases List.eq_nil_or_concat B with rfl | ⟨n,z,rfl⟩
 ·cases A with
  | nil=>
   refine .inr ⟨fun h=>?_,?_⟩
   ·have:=hr.perm.length_eq
    have h2:=h.2
    rw [this] at h2
    exact absurd h2 (show ¬ 2 < 2 by decide)
   ·have e0':outRow t r=[]:=List.eq_nil_of_length_eq_zero (hs.perm.length_eq)
    rw [e0']
    refine (Zft (u:=[x0,x0 + 1]) ⟨List.nodup_cons.mpr ⟨fun h=>by have:=List.mem_singleton.mp h; omega,by simp⟩,fun h hh a ha=>?_⟩ hm.symm).symm
    cases hh
    rcases List.mem_cons.mp ha with rfl | ha
    ·exact Int.le_refl _
    ·rw [List.mem_singleton.mp ha]; omega
  | cons a A=>
   refine .inl ⟨Zii h0 hq,?_,by rw [List.nil_append,List.append_nil]⟩
   rw [hr.perm.length_eq]
   show 2 < A.length + 1 + 1 + 1
   omega
 ·refine .inr ⟨fun h=>?_,?_⟩
  ·cases hn:n.concat z with
   | nil=>rw [List.concat_eq_append] at hn; exact absurd hn (by simp)
   | cons b B'=>
    rw [hn] at hq hB1
    have:=Zii h0 hq
    rw [h.1] at this
    exact hB1 (this ▸ List.mem_cons_self)
  ·rw [List.concat_eq_append] at *
   have hne0:n ++ [z] ++ A ≠ []:=by simp
   obtain ⟨m,y,em⟩:∃ m y,n ++ [z] ++ A=m ++ [y]:=by
    rcases List.eq_nil_or_concat (n ++ [z] ++ A) with h | ⟨m,y,h⟩
    ·exact absurd h hne0
    ·exact ⟨m,y,by rw [h,List.concat_eq_append]⟩
   rw [em,<- List.append_assoc,List.getLast?_append,List.getLast?_append]
   show rowW (rowW (outRow t r) (.inl (outE t y).toNat) x0) (.inl (outE t z).toNat) (x0 + 1)=_
   have hs':=hs
   rw [<- List.map_append,em,List.map_append] at hs
   have hs:Rot (outRow t r) (m.map (outE t) ++ [outE t y]):=hs
   have hy:outE t y ∈ outRow t r:=hs.perm.mem_iff.mpr (by simp)
   have hz:outE t z ∈ outRow t r:=hs'.perm.mem_iff.mpr (by simp)
   have ey:=Zfo (hb _ hy).1
   have ez:=Zfo (hb _ hz).1
   rw [<- ey] at hs
   have i1:=Zhc (x:=x0) (hs.perm.nodup_iff.mp R'.nodup) hs
   have G1:=Zf1 R'.good (show (((outE t y).toNat:Nat):Int) ∈ outRow t r by rw [ey]; exact hy) (fun w=>by have:=(hb _ w).2; omega) (x:=x0) fun a ha=>by have:=(hb _ ha).2; omega
   generalize rowW (outRow t r) (.inl (outE t y).toNat) x0=u at i1 G1 ⊢
   rw [ey] at i1
   have em':m.map (outE t) ++ [outE t y]=n.map (outE t) ++ [outE t z] ++ A.map (outE t):=by
    have:=congrArg (List.map (outE t)) em
    rw [List.map_append,List.map_append,List.map_append] at this
    exact this.symm
   rw [em'] at i1
   have i2:Rot u ((A.map (outE t) ++ [x0] ++ n.map (outE t)) ++ [((outE t z).toNat:Int)]):=by
    rw [ez]
    exact i1.trans ⟨n.map (outE t) ++ [outE t z],A.map (outE t) ++ [x0],by simp,by simp⟩
   have i3:=Zhc (x:=x0 + 1) (i2.perm.nodup_iff.mp G1.nd) i2
   have hub:∀ a ∈ u,a<=x0:=fun a ha=>by
    have:=i1.perm.mem_iff.mp ha
    rcases List.mem_append.mp this with w | w
    ·rw [<- em',<- ey] at w
     have:=(hb a (hs.perm.mem_iff.mpr w)).2
     omega
    ·rw [List.mem_singleton.mp w]; exact Int.le_refl _
   have G2:=Zf1 (x:=x0 + 1) G1 (show (((outE t z).toNat:Nat):Int) ∈ u from i2.perm.mem_iff.mpr (by simp)) (fun w=>by have:=hub _ w; omega) fun a ha=>by have:=hub _ ha; omega
   refine (Zft G2 (i3.trans (Rot.trans ?_ hm.symm))).symm
   rw [ez]
   exact ⟨A.map (outE t),[x0] ++ (n.map (outE t) ++ [outE t z]) ++ [x0 + 1],by simp,by simp⟩
theorem Zhn {ts:List (Int × Int)} {t L:Nat} {r:List Int} (h:∀ a ∈ r,keepE t a=true):outRow t r=lf (r.map (renE t L)):=by
 unfold outRow
 rw [List.filter_eq_self.mpr h,List.map_congr_left (g:=renE t L) fun a ha=>(Zen (h a ha)).symm]
theorem Zgd {n:Int} {ts:List (Int × Int)} {o:List (List Int)} (hO:OrdOk n ts o) {t p:Nat} (ht:t < ts.length) (hp:p < o.length) (hn:(p:Int) < n) {e:Int} (he:e ∈ o.getD p []) (het:e / 2=(t:Int)) :
  CorOk n (ts.eraseIdx t) (o.map (outRow t)) (corB t p (o.getD p []) e)/\corP (ts.eraseIdx t) (corB t p (o.getD p []) e)=p:=by
 have O':=Zg8 hO ht
 have hp':p < (o.map (outRow t)).length:=by rw [List.length_map]; exact hp
 have R':=O'.row p _ (Zam hp')
 have eg:(o.map (outRow t)).getD p []=outRow t (o.getD p []):=by
  rw [List.getD_eq_getElem?_getD,List.getElem?_map,Zam hp]; rfl
 rw [eg] at R'
 obtain ⟨q,hq,hr⟩:=Zhv he
 have hs:=Zhk (t:=t) hr
 have hl:leftOf t (o.getD p []) e=(e :: q).filter (keepE t):=by unfold leftOf; rw [hq]
 unfold corB
 rw [hl]
 generalize (e :: q).filter (keepE t)=l at hs ⊢
 rcases List.eq_nil_or_concat l with rfl | ⟨m,y,rfl⟩
 ·refine ⟨⟨hn,?_⟩,rfl⟩
  rw [eg]
  exact List.eq_nil_of_length_eq_zero hs.perm.length_eq
 ·rw [List.concat_eq_append,List.getLast?_append] at *
  have hy:outE t y ∈ outRow t (o.getD p []):=hs.perm.mem_iff.mpr (by rw [List.map_append]; simp)
  obtain ⟨e',h1,h2,h3⟩:=R'.mem.mp hy
  have e1:(outE t y).toNat=e':=by rw [<- h3]; rfl
  show CorOk n _ _ (.inl (outE t y).toNat)/\corP _ (.inl (outE t y).toNat)=p
  rw [e1]
  refine ⟨h1,?_⟩
  show (placeAt (ts.eraseIdx t) e').toNat=p
  rw [h2]; rfl
theorem Zj3 {n:Int} {ts:List (Int × Int)} {o:List (List Int)} (hW:WebOk n ts) (hO:OrdOk n ts o) {t p0 p1:Nat} (ht:t < ts.length) (h0:placeAt ts (2 * t)=(p0:Int)) (h1:placeAt ts (2 * t + 1)=(p1:Int)) :
  (p0=p1/\nextIn (o.getD p0 []) (2 * (t:Int))=2 * (t:Int) + 1/\2 < (o.getD p0 []).length/\corB t p0 (o.getD p0 []) (2 * (t:Int))=corB t p1 (o.getD p1 []) (2 * (t:Int) + 1)) ∨
  (¬ (p0=p1/\nextIn (o.getD p0 []) (2 * (t:Int))=2 * (t:Int) + 1/\2 < (o.getD p0 []).length) ∧
   putO (ts.eraseIdx t) (o.map (outRow t)) (corB t p0 (o.getD p0 []) (2 * (t:Int))) (corB t p1 (o.getD p1 []) (2 * (t:Int) + 1))=o.map fun r=>lf (r.map (renE t (ts.length - 1)))):=by
 have hol:=hO.len
 have g0:=Zca hW (show 2 * t < 2 * ts.length by omega)
 have g1:=Zca hW (show 2 * t + 1 < 2 * ts.length by omega)
 rw [h0] at g0; rw [h1] at g1
 have l0:p0 < o.length:=by omega
 have l1:p1 < o.length:=by omega
 have hl':(ts.eraseIdx t).length=ts.length - 1:=by rw [List.length_eraseIdx,if_pos ht]
 have O':=Zg8 hO ht
 have m0:2 * (t:Int) ∈ o.getD p0 []:=(hO.row _ _ (Zam l0)).mem.mpr ⟨2 * t,by omega,h0,by omega⟩
 have m1:2 * (t:Int) + 1 ∈ o.getD p1 []:=(hO.row _ _ (Zam l1)).mem.mpr ⟨2 * t + 1,by omega,h1,by omega⟩
 have c0:=(Zgd hO ht l0 g0.2 m0 (by omega)).2
 have c1:=(Zgd hO ht l1 g1.2 m1 (by omega)).2
 have RR:∀ p,p < o.length->RowOk (ts.eraseIdx t) (2 * (ts.eraseIdx t).length) (p:Int) (outRow t (o.getD p [])):=fun p hp=>by
  have:=O'.row p _ (Zam (show p < (o.map (outRow t)).length by rw [List.length_map]; exact hp))
  rw [List.getD_eq_getElem?_getD,List.getElem?_map,Zam hp] at this
  exact this
 have gm:∀ p,p < o.length->(o.map (outRow t)).getD p []=outRow t (o.getD p []):=fun p hp=>by
  rw [List.getD_eq_getElem?_getD,List.getElem?_map,Zam hp]; rfl
 have E:putO (ts.eraseIdx t) (o.map (outRow t)) (corB t p0 (o.getD p0 []) (2 * (t:Int))) (corB t p1 (o.getD p1 []) (2 * (t:Int) + 1))=put1 (put1 (o.map (outRow t)) p0 (corB t p0 (o.getD p0 []) (2 * (t:Int))) (2 * ((ts.length - 1:Nat):Int))) p1 (corB t p1 (o.getD p1 []) (2 * (t:Int) + 1)) (2 * ((ts.length - 1:Nat):Int) + 1):=by
  unfold putO
  rw [c0,c1,hl',show ((2 * (ts.length - 1):Nat):Int)=2 * ((ts.length - 1:Nat):Int) by omega,show ((2 * (ts.length - 1) + 1:Nat):Int)=2 * ((ts.length - 1:Nat):Int) + 1 by omega]
 -- the other rows
 have oth:∀ p,p < o.length->p ≠ p0->p ≠ p1->outRow t (o.getD p [])=lf ((o.getD p []).map (renE t (ts.length - 1))):=fun p hp n0 n1=>Zhn (ts:=ts) fun a ha=>decide_eq_true fun z=>by
  obtain ⟨e,he,hpl,rfl⟩:=(hO.row _ _ (Zam hp)).mem.mp ha
  rcases (show e=2 * t\/e=2 * t + 1 by omega) with rfl | rfl
  ·rw [h0] at hpl; omega
  ·rw [h1] at hpl; omega
 have nodup:∀ p,p < o.length->(o.getD p []).Nodup:=fun p hp=>(hO.row _ _ (Zam hp)).nodup
 by_cases hpp:p0=p1
 ·subst hpp
  rcases Zil (p:=p0) (nodup p0 l0) (RR p0 l0) hl' m0 m1 with h | ⟨h,e⟩
  ·exact .inl ⟨rfl,h⟩
  ·refine .inr ⟨fun z=>h z.2,?_⟩
   rw [E]
   unfold put1
   rw [Zb2 (by rw [List.length_map]; exact l0),gm p0 l0,e,List.set_set]
   apply List.ext_getElem?
   intro p
   by_cases hp:p=p0
   ·subst hp
    rw [List.getElem?_set_self (by rw [List.length_map]; exact l0),List.getElem?_map,Zam l0]; rfl
   ·rw [List.getElem?_set_ne (Ne.symm hp),List.getElem?_map,List.getElem?_map]
    by_cases hl:p < o.length
    ·rw [Zam hl]
     show some (outRow t (o.getD p []))=_
     rw [oth p hl hp hp]; rfl
    ·rw [List.getElem?_eq_none (by omega)]; rfl
 ·refine .inr ⟨fun z=>hpp z.1,?_⟩
  have f0:=Zg0 (p:=p0) (x:=2 * ((ts.length - 1:Nat):Int)) (nodup p0 l0) (RR p0 l0) hl' m0 (fun a ha z=>by
   obtain ⟨e,he,hpl,rfl⟩:=(hO.row _ _ (Zam l0)).mem.mp ha
   rcases (show e=2 * t\/e=2 * t + 1 by omega) with rfl | rfl
   ·omega
   ·rw [h1] at hpl; omega) (by omega) (by rw [Zfp (by omega)]; omega) (by omega)
  have f1:=Zg0 (p:=p1) (x:=2 * ((ts.length - 1:Nat):Int) + 1) (nodup p1 l1) (RR p1 l1) hl' m1 (fun a ha z=>by
   obtain ⟨e,he,hpl,rfl⟩:=(hO.row _ _ (Zam l1)).mem.mp ha
   rcases (show e=2 * t\/e=2 * t + 1 by omega) with rfl | rfl
   ·rw [h0] at hpl; omega
   ·omega) (by omega) (by rw [Zfp (by omega)]; omega) (by omega)
  rw [E]
  unfold put1
  rw [Zcm hpp,gm p0 l0,gm p1 l1,f0,f1]
  apply List.ext_getElem?
  intro p
  by_cases hp1:p=p1
  ·subst hp1
   rw [List.getElem?_set_self (by rw [List.length_set,List.length_map]; exact l1),List.getElem?_map,Zam l1]; rfl
  ·rw [List.getElem?_set_ne (Ne.symm hp1)]
   by_cases hp0:p=p0
   ·subst hp0
    rw [List.getElem?_set_self (by rw [List.length_map]; exact l0),List.getElem?_map,Zam l0]; rfl
   ·rw [List.getElem?_set_ne (Ne.symm hp0),List.getElem?_map,List.getElem?_map]
    by_cases hl:p < o.length
    ·rw [Zam hl]
     show some (outRow t (o.getD p []))=_
     rw [oth p hl hp0 hp1]; rfl
    ·rw [List.getElem?_eq_none (by omega)]; rfl
section
variable {P:Program} {w:World} {K:PySem.W.Frag} {mg:Str->Option Value} {base:Heap} {f:Addr} {fd:FuncData}
theorem Zn3 {K:PySem.W.Frag} {Δ:Evt} {Pd:D->Evt->Prop} {i:Int} (p:Pd (.int (-i)) Δ):JR1 K (rU fun i=>.int (-i)) (.int i) Δ Pd:=fun g G H σ Q x k r c=>by
 cases r
 exact ⟨i,rfl,c _ _ G H Δ k (Same.refl _) (.int _) p⟩
end
def fCA:DSp:=fun ds Post=>∃ n ts o,∃ t e p:Nat,ds=[encWeb n ts,encOrd o,.int e,.tup [.int (2 * (t:Int)),.int (2 * (t:Int) + 1)]]/\WebOk n ts/\OrdOk n ts o/\e / 2=t/\e < 2 * ts.length/\placeAt ts e=(p:Int)/\Post (corD (corB t p (o.getD p []) (e:Int)))
theorem Ziw {t:Nat} (a:Int):(!decide (a ∈ [2 * (t:Int),2 * (t:Int) + 1]))=keepE t a:=by
 unfold keepE
 by_cases h:a ∈ [2 * (t:Int),2 * (t:Int) + 1]
 ·rw [decide_eq_true h]
  have:a / 2=(t:Int):=by
   rcases List.mem_cons.mp h with rfl | h
   ·omega
   ·rw [List.mem_singleton.mp h]; omega
  exact (decide_eq_false (fun z=>z this)).symm
 ·rw [decide_eq_false h]
  refine (decide_eq_true (show ¬ a / 2=(t:Int) from fun z=>h ?_)).symm
  rcases (show a=2 * (t:Int)\/a=2 * (t:Int) + 1 by omega) with rfl | rfl
  ·exact List.mem_cons_self
  ·exact List.mem_cons_of_mem _ List.mem_cons_self
def keepI (t:Nat) (d:D):Bool:=keepE t (intD d)
theorem Zi2 (t:Nat) (l:List Int):((l.map D.int).filter (keepI t)).map (fun d=>d)=(l.filter (keepE t)).map D.int:=by
 rw [List.map_id',List.filter_map]; rfl
theorem Zkf {l:List Int} {y:Int} (h:l.getLast? = some y):atI (l.map D.int) (-1)=some (.int y):=by
 have hl:0 < l.length:=by
  cases l with
  | nil=>cases h
  | cons _ _=>exact Nat.succ_pos _
 have e:=Zni (r:=l) (k:=0) hl
 rw [show pvI l.length 0=l.length - 1 from rfl,List.getD_eq_getElem?_getD,<- List.getLast?_eq_getElem?,h] at e
 exact e
theorem Zmo {K:PySem.W.Frag} {Δ:Evt} {i:Int}:PV K (tUn (rU fun i=>.int (-i)) (tC (.int i))) Δ (.int (-i)):=fun P p=>Zqd (Zar (Zn3 p))
section
variable {P:Program} {w:World} {K:PySem.W.Frag} {mg:Str->Option Value} {base:Heap} {f:Addr} {fd:FuncData}
theorem Zqm (mb:Mb mg) (F:Fun K "_law_corner_ahead" "_law_corner_ahead" s_law_corner_ahead f fd):FnOk P w K mg base CX0 1 f fd ["_law_web_here","_law_order_here","_law_end","_law_out"] (spD K fCA):=by
 refine F.ok sc_law_corner_ahead (Zbd fun ds Post h=>by obtain ⟨_,_,_,_,_,_,rfl,_⟩:=h; rfl) (fun cdv A outer s H vs Q E hr h=>?_)
 have hu:=Zb7 hr
 refine ⟨_,(Zae (Zav (i:=4) sc_law_corner_ahead.nd rfl (by first|exact Or.inl rfl|exact Or.inr rfl) (Zas (ixK K hu) (Zas (ixK K hu) (Zas (ixK K hu) (pv 0) Zaf (fun _ _=>rfl)) (Zap Zc8 (pv 2) Zaf) (fun _ _=>rfl)) (Zap Zb5 (pv 2) Zaf) (fun _ _=>rfl))) (Zae (Zav (i:=5) sc_law_corner_ahead.nd rfl (by first|exact Or.inl rfl|exact Or.inr rfl) (Zas (ixK K hu) (pv 1) (pv 4) (fun _ _=>rfl))) (Zae (Zav (i:=6) sc_law_corner_ahead.nd rfl (by first|exact Or.inl rfl|exact Or.inr rfl) (bmK K PySem.F.plainAttrs_tuple PySem.F.slot_tuple_index PySem.F.type_tuple_index (idxK K) (pv 5) (Zaa (pv 2) Zad))) (Zae (Zc7 (i:=7) ["_law_one"] (show CompSc (defScope s_law_corner_ahead) ["_law_web_here","_law_order_here","_law_end","_law_out","_law_place","_law_row","_law_at","_law_left"] _ ["_law_out"] [3] from ⟨rfl,by decide +kernel,by decide +kernel,by decide +kernel,rfl,by decide +kernel⟩) rfl sc_law_corner_ahead.nd rfl (by first|exact Or.inl rfl|exact Or.inr rfl) (seqK K (Zap (addK K) (Zbg (slK K) (pv 5) (Zbs (pv 6)) Zbx) (Zbg (slK K) (pv 5) Zbx (Zbs (pv 6))))) (fun _ _ _ _ _=>(Zay (i:=0) (show List.Nodup (["_law_one","_law_out"]:List Str) from by decide) rfl (Or.inl rfl))) (fun _ _ _ _ _=>(Ze2 (Zaw (notinK K hu) (pv 0) (pv 1) rfl))) (fun _ _ _ _ _=>(pv 0))) (Zae (Zb9 (Zaw (eqL0K K hu) (pv 7) (Zgl Zad) (nomark _)) (Zal (Zaz (Zbb (Zaa Zgz (Zaa (pv 4) Zad))))) Za2) (Zal (Zaz (Zap Zdp (Zas (ixK K hu) (pv 7) (Zpw Zmj Zaf) (fun _ _=>rfl)) (Zap Zb6 Zaf (Za6 Zeu rfl (mb "int" (by decide)) Zfh (Zaa (Zd8 Ze9 (Zap Zc8 (Zas (ixK K hu) (pv 7) (Zpw Zmj Zaf) (fun _ _=>rfl)) Zaf) (Zap Zc8 (pv 2) Zaf) (nomark _)) Zad))))))))))),Zcp (fun ds Post hf=>?_) h⟩
 obtain ⟨n,ts,o,t,e,p,rfl,hW,hO,het,he,hp,q⟩:=hf
 refine ⟨by simp,?_⟩
 dsimp only [startD,List.tail,List.map,List.length,List.replicate]
 obtain ⟨_,ht1,ht2,ht3⟩:=Zh3 he
 rw [Int.zero_add] at ht2 ht3
 have hol:=hO.len
 obtain ⟨g0,g1⟩:=Zca hW he
 rw [hp] at g0 g1 ht3
 have lp:p < o.length:=by omega
 have hrow:atI (o.map encRow) (p:Int)=some (encRow (o.getD p [])):=Zbh (by rw [List.getElem?_map,Zam lp]; rfl)
 have R:=hO.row p _ (Zam lp)
 have hm:(e:Int) ∈ o.getD p []:=R.mem.mpr ⟨e,he,hp,rfl⟩
 have hlen:=(hO.rows hW).2 _ (List.mem_of_getElem? (Zam lp))
 generalize o.getD p []=r at *
 obtain ⟨i1,i2,i3⟩:=Zbo hm
 refine Zaj (Zax (Zbe (Zcw (Zcw (Zba (d:=.tup (ts.map encTie)) rfl rfl) (Zbr (Zak rfl) Zbf (pr_I ⟨by decide,by decide⟩)) ht2) (Zbr (Zak rfl) Zbf (pr_I (show (0:Int) < 2 by decide))) ht3) ?_))
 refine Zaj (Zax (Zbe (Zcw (d:=encRow r) (Zak rfl) (Zak rfl) hrow) ?_))
 refine Zaj (Zax (Zd7 (Zac rfl ⟨r,rfl,Zac rfl ⟨(e:Int),r.idxOf (e:Int),rfl,i2,i3,?_⟩⟩)))
 refine Zaj (Zax (Zmu (fun d Δ=>d=.lst ((leftOf t r (e:Int)).map D.int) /\ Δ = [.val (encWeb n ts),.val (encOrd o),.val (.int (e:Int)),.val (.tup [.int (2 * (t:Int)),.int (2 * (t:Int) + 1)]),.val (.int (p:Int)),.val (encRow r),.val (.int (r.idxOf (e:Int):Int)),.any]) ?_ ?_))
 ·refine Zcg (by decide) (Zdt (Zan (Zdg (Zac rfl (Zbw (Zac rfl ⟨_,rfl,Zbv ⟨.tup ((r.map D.int).drop (r.idxOf (e:Int))),?_,?_⟩⟩))))))
  ·show some (D.tup (cutD (r.map D.int) (some ((r.idxOf (e:Int):Nat):Int)) none))=_
   rw [Zcq _ (by rw [List.length_map]; omega)]
  refine Zdg (Zac rfl (Zbv (Zbw (Zac rfl ⟨_,rfl,.tup ((r.map D.int).take (r.idxOf (e:Int))),?_,Zct ?_ ⟨_,rfl,?_,keepI t,fun d=>d,fun i d hd=>?_,?_⟩⟩))))
  ·show some (D.tup (cutD (r.map D.int) none (some ((r.idxOf (e:Int):Nat):Int))))=_
   rw [Zec _ (by rw [List.length_map]; omega)]
  ·rw [List.length_drop,List.length_take,List.length_map]
   exact Nat.le_of_lt (small1000 (by omega))
  ·rw [List.length_append,List.length_drop,List.length_take,List.length_map]
   exact small1000 (by omega)
  ·obtain ⟨x,rfl⟩:∃ x:Int,d=.int x:=by
    rw [<- List.map_drop,<- List.map_take,<- List.map_append,List.getElem?_map] at hd
    cases z:(r.drop (r.idxOf (e:Int)) ++ r.take (r.idxOf (e:Int)))[i]? with
    | none=>rw [z] at hd; cases hd
    | some x=>rw [z] at hd; cases hd; exact ⟨x,rfl⟩
   refine Za0 (Zan (Zac rfl (Zac rfl (Zo9 (neg:=true) (ns:=[2 * (t:Int),2 * (t:Int) + 1]) ⟨_,rfl,Ziw x,?_⟩))))
   exact ite2 (fun z=>Zac rfl ⟨rfl,_,rfl⟩) (fun z=>⟨_,rfl⟩)
  ·refine ⟨?_,rfl⟩
   rw [<- List.map_drop,<- List.map_take,<- List.map_append,Zi2]; rfl
 rintro _ _ ⟨rfl,rfl⟩
 refine Zaj (Zb4 (Za0 (Zan (Zac rfl (Zmq (Zag ⟨by decide,Zmy ⟨_,rfl,?_⟩⟩))))))
 unfold corB at q
 cases hl:(leftOf t r (e:Int)).getLast? with
 | none=>
  have e0:leftOf t r (e:Int)=[]:=List.getLast?_eq_none_iff.mp hl
  rw [hl] at q
  rw [e0]
  exact iteT (Za3 (Zbe (Zeg (Zah Zja (Zah (Zak rfl) Zbl)) Zbu) q))
 | some y=>
  rw [hl] at q
  have hne:((leftOf t r (e:Int)).map D.int).isEmpty=false:=by
   cases z:leftOf t r (e:Int) with
   | nil=>rw [z] at hl; cases hl
   | cons _ _=>rfl
  rw [hne]
  refine iteF (Za7 (Za3 (Zan (Zbe (Zkr (Zak rfl) Zmo (Zkf hl)) ?_))))
  refine Zan (Zar (Za5 (Zab (Zbe (Zbr (Zbr (Zkr (Zak rfl) Zmo (Zkf hl)) Zbf (pr_I ⟨by decide,by decide⟩)) (Zbr (Zak rfl) Zbf (pr_I ⟨by decide,by decide⟩)) Znt) (Zag (Zha (jr_I (Or.inl ⟨by decide,by decide⟩) (Zf9 ?_))))))))
  have hy:y ∈ leftOf t r (e:Int):=List.mem_of_getLast? hl
  have hk:keepE t y=true:=(List.mem_filter.mp hy).2
  have hk:¬ y / 2=(t:Int):=of_decide_eq_true hk
  have hyr:y ∈ r:=(Zep r _).mem_iff.mp (List.mem_filter.mp hy).1
  obtain ⟨hy0,_⟩:=Zb1 R hyr
  have E:y - 2 * (if decide (y / 2 > (e:Int) / 2)=true then 1 else 0)=(((outE t y).toNat:Nat):Int):=by
   unfold outE
   by_cases z:y / 2 > (e:Int) / 2
   ·rw [decide_eq_true z,if_pos rfl,if_neg (by omega)]; omega
   ·rw [decide_eq_false z,if_neg (by decide),if_pos (by omega)]; omega
  rw [show (D.int (y - 2 * (if decide (y / 2 > (e:Int) / 2)=true then 1 else 0)))=D.int (((outE t y).toNat:Nat):Int) from congrArg D.int E]
  exact q
end
section
variable {P:Program} {w:World} {K:PySem.W.Frag} {mg:Str->Option Value} {base:Heap} {f:Addr} {fd:FuncData}
theorem Ze4 {j n:Nat} (h:j < n):ixN n (j:Int)=some j:=by
 unfold ixN
 rw [if_pos (by omega),if_pos (by omega)]
 rfl
theorem Zkz {α:Type} (l:List α) {lo hi:Nat} (h:lo < hi) (x:α):(l.eraseIdx hi).set lo x=(l.set lo x).eraseIdx hi:=by
 apply List.ext_getElem?
 intro i
 rw [List.getElem?_set,List.getElem?_eraseIdx,List.getElem?_eraseIdx,List.getElem?_set,List.getElem?_set,List.length_eraseIdx]
 by_cases h1:lo=i
 ·subst h1
  rw [if_pos rfl,if_pos h,if_pos rfl]
  split <;> split <;> first | rfl | omega | skip
  all_goals (split at * <;> first | rfl | omega)
 ·rw [if_neg h1]
  by_cases h2:i < hi
  ·rw [if_pos h2,if_pos h2,if_neg h1]
  ·rw [if_neg h2,if_neg h2,if_neg (by omega)]
theorem Zfg {α β:Type} (f:α -> β) (ts:List α) (t:Nat):(ts.map f).eraseIdx t=(ts.eraseIdx t).map f:=by
 rw [List.eraseIdx_eq_take_drop_succ,List.eraseIdx_eq_take_drop_succ,List.map_append,List.map_take,List.map_drop]
def notAt (hi:Int):D->Bool
 | .tup [.int i,_]=>!decide (i=hi)
 | _=>false
def sndD:D->D
 | .tup [_,d]=>d
 | d=>d
theorem Zih (hi:Nat):∀ (ds:List D) (k:Nat),(((ds.zipIdx k).map fun p=>D.tup [.int (p.2:Int),p.1]).filter (notAt hi)).map sndD=if hi < k then ds else ds.eraseIdx (hi - k)
 | [],k=>by split <;> rfl
 | d :: ds,k=>by
  rw [List.zipIdx_cons,List.map_cons,List.filter_cons]
  have ih:=Zih hi ds (k + 1)
  show (if (!decide ((k:Int)=(hi:Int)))=true then _ else _:List D).map sndD=_
  by_cases h:k=hi
  ·subst h
   rw [if_neg (by simp),ih,if_pos (by omega),if_neg (by omega),Nat.sub_self,List.eraseIdx_cons_zero]
  ·rw [if_pos (by simp; omega),List.map_cons,ih]
   by_cases h2:hi < k
   ·rw [if_pos (by omega),if_pos h2]; rfl
   ·rw [if_neg (by omega),if_neg h2,show hi - k=(hi - (k + 1)) + 1 by omega,List.eraseIdx_cons_succ]
    rfl
end
section
variable {P:Program} {w:World} {K:PySem.W.Frag} {mg:Str->Option Value} {base:Heap} {f:Addr} {fd:FuncData}
def namesF (g:Int->Int) (m:Nat):List D:=(List.range m).map fun k:Nat=>D.int (g (k:Int))
theorem Zdc (g:Int->Int) (m:Nat):(namesF g m).length=m:=by unfold namesF; rw [List.length_map,List.length_range]
theorem Zd0 (g:Int->Int) {m k:Nat} (h:k < m):(namesF g m)[k]? = some (.int (g k)):=by
 unfold namesF; rw [List.getElem?_map,List.getElem?_range h]; rfl
theorem Zf7 (g:Int->Int) {m a:Int} (h0:0<=a) (h1:a < m):atI (namesF g m.toNat) a=some (.int (g a)):=by
 obtain ⟨k,rfl⟩:∃ k:Nat,a=(k:Int):=⟨a.toNat,by omega⟩
 exact Zbh (Zd0 g (by omega))
def moveT (g:Int->Int) (us:List (Int × Int)):List (Int × Int):=us.map fun t=>(g t.1,g t.2)
theorem Zl7 (g:Int->Int) (us:List (Int × Int)) (ff:D->D) (h:∀ t,ff (encTie t)=encTie (g t.1,g t.2)):((us.map encTie).filter fun _=>true).map ff=(moveT g us).map encTie:=by
 rw [List.filter_eq_self.mpr (by simp),List.map_map]
 unfold moveT
 rw [List.map_map]
 exact List.map_congr_left fun t _=>h t
end
section
variable {P:Program} {w:World} {K:PySem.W.Frag} {mg:Str->Option Value} {base:Heap} {f:Addr} {fd:FuncData}
theorem Zgi (g:Int->Int) (m:Nat):(rngD 0 m).map (fun d=>match d with | .int k=>D.int (g k) | d=>d)=namesF g m:=by
 unfold rngD namesF
 rw [List.map_map]
 refine List.map_congr_left fun k _=>?_
 show D.int (g (0 + (k:Int)))=_
 rw [Int.zero_add]
end
def fWo:DSp:=fun ds Post=>∃ n ts o,∃ g e k:Nat,ds=[encWeb n ts,encOrd o,.int g,.int e]/\WebOk n ts/\OrdOk n ts o/\e < 2 * ts.length/\placeAt ts e=(k:Int)/\(g:Int) < n/\o.getD g []=[]/\k ≠ g/\Post (floorD (n - 1) (ts.map (pdT (min g k:Nat) (max g k:Nat))) (withO o k g))
def nmW (k lo hi:Nat) (q:Int):Int:=if q=(k:Int) then (lo:Int) else q - (if decide (q > (hi:Int))=true then 1 else 0)
theorem namesW (k lo hi:Nat) {N:Nat} (hk:k < N):(namesF (fun q=>q - (if decide (q > (hi:Int))=true then 1 else 0)) N).set k (.int lo)=namesF (nmW k lo hi) N:=by
 apply List.ext_getElem?
 intro i
 rw [List.getElem?_set]
 by_cases z:k=i
 ·subst z
  rw [if_pos rfl,if_pos (by rw [Zdc]; exact hk),Zd0 _ hk]
  unfold nmW; rw [if_pos rfl]
 ·rw [if_neg z]
  by_cases hi':i < N
  ·rw [Zd0 _ hi',Zd0 _ hi']
   unfold nmW; rw [if_neg (show ¬ (i:Int)=(k:Int) by omega)]
  ·rw [List.getElem?_eq_none (by rw [Zdc]; omega),List.getElem?_eq_none (by rw [Zdc]; omega)]
theorem Zp3 {g k:Nat} {q:Int} (hne:k ≠ g) (hq:q ≠ (g:Int)):nmW k (min g k) (max g k) q=pd (min g k:Nat) (max g k:Nat) q:=by
 unfold nmW pd
 by_cases h1:q=(k:Int)
 ·rw [if_pos h1]
  by_cases h2:q=((max g k:Nat):Int)
  ·rw [if_pos h2]
  ·rw [if_neg h2,if_neg (show ¬ ((max g k:Nat):Int) < q by omega)]; omega
 ·rw [if_neg h1,if_neg (show ¬ q=((max g k:Nat):Int) by omega)]
  by_cases h3:q > ((max g k:Nat):Int)
  ·rw [decide_eq_true h3,if_pos rfl,if_pos h3]
  ·rw [decide_eq_false h3,if_neg (show ¬ false=true by decide),if_neg h3,Int.sub_zero]
theorem Zlw {n:Int} {ts:List (Int × Int)} {o:List (List Int)} (hO:OrdOk n ts o) {g:Nat} (hg:g < o.length) (hb:o.getD g []=[]):∀ t ∈ ts,t.1 ≠ (g:Int)/\t.2 ≠ (g:Int):=fun t ht=>by
 obtain ⟨i,hi⟩:=List.mem_iff_getElem?.mp ht
 have hl:=(List.getElem?_eq_some_iff.mp hi).1
 have R:=hO.row g _ (Zam hg)
 rw [hb] at R
 have no:∀ e,e < 2 * ts.length->placeAt ts e ≠ (g:Int):=fun e he z=>nomatch (R.mem.mpr ⟨e,he,z,rfl⟩:(e:Int) ∈ [])
 constructor
 ·intro z
  refine no (2 * i) (by omega) ?_
  unfold placeAt
  rw [show 2 * i / 2=i by omega,hi]
  show (if 2 * i % 2=0 then t.1 else t.2)=_
  rw [if_pos (by omega)]; exact z
 ·intro z
  refine no (2 * i + 1) (by omega) ?_
  unfold placeAt
  rw [show (2 * i + 1) / 2=i by omega,hi]
  show (if (2 * i + 1) % 2=0 then t.1 else t.2)=_
  rw [if_neg (by omega)]; exact z
section
variable {P:Program} {w:World} {K:PySem.W.Frag} {mg:Str->Option Value} {base:Heap} {f:Addr} {fd:FuncData}
theorem Zqu (mb:Mb mg) (F:Fun K "_law_without" "_law_without" s_law_without f fd):FnOk P w K mg base CX0 1 f fd ["_law_web_here","_law_order_here","_law_gone","_law_end"] (spD K fWo):=by
 refine F.ok sc_law_without (Zbd fun ds Post h=>by obtain ⟨_,_,_,_,_,_,rfl,_⟩:=h; rfl) (fun cdv A outer s H vs Q E hr h=>?_)
 have hu:=Zb7 hr
 refine ⟨_,(Zae (Zav (i:=4) sc_law_without.nd rfl (by first|exact Or.inl rfl|exact Or.inr rfl) (Zas (ixK K hu) (Zas (ixK K hu) (Zas (ixK K hu) (pv 0) Zaf (fun _ _=>rfl)) (Zap Zc8 (pv 3) Zaf) (fun _ _=>rfl)) (Zap Zb5 (pv 3) Zaf) (fun _ _=>rfl))) (Zae (Zc1 (Zbb (Zaa (Zai (Zer rfl) rfl (mb "min" (by decide)) Zfc (Zaa (pv 2) (Zaa (pv 4) Zad))) (Zaa (Zai (Zgw rfl) rfl (mb "max" (by decide)) Zkh (Zaa (pv 2) (Zaa (pv 4) Zad))) Zad))) (gtupK (n:=2) K rfl (Zbi (Zay (i:=5) sc_law_without.nd rfl (by first|exact Or.inl rfl|exact Or.inr rfl)) (Zbi (Zay (i:=6) sc_law_without.nd rfl (by first|exact Or.inl rfl|exact Or.inr rfl)) Zdb)))) (Zae (Zav (i:=7) sc_law_without.nd rfl (by first|exact Or.inl rfl|exact Or.inr rfl) (Zch ["_law_place"] (show CompSc (defScope s_law_without) ["_law_web_here","_law_order_here","_law_gone","_law_end","_law_kept","_law_low","_law_high","_law_names","_law_rows"] _ ["_law_high"] [6] from ⟨rfl,by decide +kernel,by decide +kernel,by decide +kernel,rfl,by decide +kernel⟩) rfl (Zcc rfl (mb "range" (by decide)) (Zaa (Zas (ixK K hu) (pv 0) Zaf (fun _ _=>rfl)) Zad)) (fun _ _ _ _ _=>(Zay (i:=0) (show List.Nodup (["_law_place","_law_high"]:List Str) from by decide) rfl (Or.inl rfl))) (fun _ _ _ _ _=>Zck) (fun _ _ _ _ _=>(Zap Zdp (pv 0) (Za6 Zeu rfl (mb "int" (by decide)) Zfh (Zaa (Zd8 Ze9 (pv 0) (pv 1) (nomark _)) Zad)))))) (Zae (Zc1 (pv 5) (Zd1 (pv 7) (pv 4) (setU hu))) (Zae (Zc7 (i:=8) ["_law_place","_law_row"] (show CompSc (defScope s_law_without) ["_law_web_here","_law_order_here","_law_gone","_law_end","_law_kept","_law_low","_law_high","_law_names","_law_rows"] _ ["_law_high"] [6] from ⟨rfl,by decide +kernel,by decide +kernel,by decide +kernel,rfl,by decide +kernel⟩) rfl sc_law_without.nd rfl (by first|exact Or.inl rfl|exact Or.inr rfl) (Zgp K rfl (mb "enumerate" (by decide)) (Zaa (pv 1) Zad)) (fun _ _ _ _ _=>(gtupK (n:=2) K rfl (Zbi (Zay (i:=0) (show List.Nodup (["_law_place","_law_row","_law_high"]:List Str) from by decide) rfl (Or.inl rfl)) (Zbi (Zay (i:=1) (show List.Nodup (["_law_place","_law_row","_law_high"]:List Str) from by decide) rfl (Or.inl rfl)) Zdb)))) (fun _ _ _ _ _=>(Ze2 (Zaw Zka (pv 0) (pv 2) (nomark _)))) (fun _ _ _ _ _=>(pv 1))) (Zae (Zc1 (Zas (ixK K hu) (pv 1) (pv 4) (fun _ _=>rfl)) (Zd1 (pv 8) (pv 5) (setU hu))) (Zal (Zaz (Zbb (Zaa (Zbb (Zaa (Zap Zdp (Zas (ixK K hu) (pv 0) Zaf (fun _ _=>rfl)) Zaf) (Zaa (Za6 (tupK K) rfl (mb "tuple" (by decide)) Zbq (Zaa (Zch ["_law_a","_law_b"] (show CompSc (defScope s_law_without) ["_law_web_here","_law_order_here","_law_gone","_law_end","_law_kept","_law_low","_law_high","_law_names","_law_rows"] _ ["_law_names"] [7] from ⟨rfl,by decide +kernel,by decide +kernel,by decide +kernel,rfl,by decide +kernel⟩) rfl (seqK K (Zas (ixK K hu) (pv 0) Zaf (fun _ _=>rfl))) (fun _ _ _ _ _=>(gtupK (n:=2) K rfl (Zbi (Zay (i:=0) (show List.Nodup (["_law_a","_law_b","_law_names"]:List Str) from by decide) rfl (Or.inl rfl)) (Zbi (Zay (i:=1) (show List.Nodup (["_law_a","_law_b","_law_names"]:List Str) from by decide) rfl (Or.inl rfl)) Zdb)))) (fun _ _ _ _ _=>Zck) (fun _ _ _ _ _=>(Zbb (Zaa (Zas (ixK K hu) (pv 2) (pv 0) (fun _ _=>rfl)) (Zaa (Zas (ixK K hu) (pv 2) (pv 1) (fun _ _=>rfl)) Zad))))) Zad)) Zad))) (Zaa (Za6 (tupK K) rfl (mb "tuple" (by decide)) Zbq (Zaa (pv 8) Zad)) Zad))))))))))),Zcp (fun ds Post hf=>?_) h⟩
 obtain ⟨n,ts,o,g,e,k,rfl,hW,hO,he,hk,hg,hb,hne,q⟩:=hf
 refine ⟨by simp,?_⟩
 dsimp only [startD,List.tail,List.map,List.length,List.replicate]
 obtain ⟨_,ht1,ht2,ht3⟩:=Zh3 he
 rw [Int.zero_add] at ht2 ht3
 have hol:=hO.len
 have hn:=hW.hi
 have hl:=hW.len
 obtain ⟨g0,g1⟩:=Zca hW he
 rw [hk] at g0 g1 ht3
 have lk:k < o.length:=by omega
 have lg:g < o.length:=by omega
 refine Zaj (Zax (Zbe (Zcw (Zcw (Zba (d:=.tup (ts.map encTie)) rfl rfl) (Zbr (Zak rfl) Zbf (pr_I ⟨by decide,by decide⟩)) ht2) (Zbr (Zak rfl) Zbf (pr_I (show (0:Int) < 2 by decide))) ht3) ?_))
 generalize hlo:min g k=lo at *
 generalize hhi:max g k=hi at *
 refine Zce (fun Δ=>Δ = [.val (encWeb n ts),.val (encOrd o),.val (.int (g:Int)),.val (.int (e:Int)),.val (.int (k:Int)),.val (.int (lo:Int)),.val (.int (hi:Int)),.any,.any]) ?_ ?_
 ·refine Zie (Zbp (Zab (Za5 (Zab (Zac rfl (Zab (Zac rfl (Zag (Zfk ?_)))))))))
  refine Zab (Za5 (Zab (Zac rfl (Zab (Zac rfl (Zag (Zfk (Zag ⟨Zbu,Zh0 rfl (Zcr (Zcz (Zcr (Zcz (Zfr ?_)))))⟩))))))))
  rw [show (if (k:Int) < (g:Int) then (k:Int) else (g:Int))=(lo:Int) by split <;> omega,show (if (k:Int) > (g:Int) then (k:Int) else (g:Int))=(hi:Int) by split <;> omega]
  rfl
 rintro Δ1 rfl
 refine Zaj (Zdw (Zib (by decide) (Zcb (Zab (Zbe (Zba (d:=.int n) rfl rfl) (Zag ⟨_,rfl,by omega,by omega,?_,fun _=>true,fun d=>match d with | .int q=>D.int (q - (if decide (q > (hi:Int))=true then 1 else 0)) | d=>d,fun i d hd=>?_,?_⟩))))))
 ·rw [Zb3]; exact small1000 (by omega)
 ·obtain ⟨hi',rfl⟩:=Zc9 hd
  exact Zcl ⟨rfl,Zan (Zac rfl (Za5 (Zab (Zbe (Zbr (Zak rfl) (Zak rfl) Znt) (Zag (Zha (Zf9 ⟨rfl,_,rfl⟩)))))))⟩
 rw [List.filter_eq_self.mpr (by simp),Zgi (fun q=>q - (if decide (q > (hi:Int))=true then 1 else 0))]
 refine Zaj (Zc4 (Zac rfl ⟨⟨_,_,rfl,rfl⟩,Zac rfl ⟨_,_,_,k,rfl,rfl,rfl,?_,?_⟩⟩))
 ·refine Ze4 ?_
  rw [Zdc]; omega
 rw [namesW k lo hi (show k < n.toNat by omega)]
 refine Zaj (Zdw (Zk4 (by decide) (Zn2 (Zab (Zac rfl (Zag ⟨_,Or.inr rfl,?_,notAt hi,sndD,fun i d hd=>?_,?_⟩))))))
 ·rw [Zi0,List.length_map]; exact small1000 (by omega)
 ·obtain ⟨d',hd',rfl⟩:=Zk0 hd
  refine ⟨_,_,rfl,Za0 (Zan (Zac rfl (Zac rfl (Zmb ⟨_,rfl,rfl,?_⟩))))⟩
  exact ite2 (fun z=>Zac rfl ⟨rfl,_,_,rfl⟩) (fun z=>⟨_,_,rfl⟩)
 have e2:((enD (o.map encRow)).filter (notAt hi)).map sndD=(o.map encRow).eraseIdx hi:=by
  unfold enD
  rw [Zih,if_neg (by omega),Nat.sub_zero]
 rw [e2]
 have ak:atI (o.map encRow) (k:Int)=some (encRow (o.getD k [])):=Zbh (by rw [List.getElem?_map,Zam lk]; rfl)
 refine Zaj (Zc4 (Zbe (Zcw (d:=encRow (o.getD k [])) (Zak rfl) (Zak rfl) ak) ⟨⟨_,_,rfl,rfl⟩,Zac rfl ⟨_,_,_,lo,rfl,rfl,rfl,?_,?_⟩⟩))
 ·refine Ze4 ?_
  rw [List.length_eraseIdx,List.length_map]
  split <;> omega
 have e3:((o.map encRow).eraseIdx hi).set lo (encRow (o.getD k []))=(withO o k g).map encRow:=by
  unfold withO
  rw [hlo,hhi,Zkz _ (show lo < hi by omega),<- Zfg,List.map_set]
 rw [e3]
 have bt:=Zlw hO lg hb
 refine Za3 (Zbp (Zab (Zbp (Zab (Zbe (Zbr (Zba (d:=.int n) rfl rfl) Zbf Zlh) (Zab (Za5 (Zab (Zf5 (by decide) (Zdt (Zbe (Zba (d:=.tup (ts.map encTie)) rfl rfl) ⟨_,rfl,?_,fun _=>true,fun d=>match d with | .tup [.int a,.int b]=>.tup [.int (nmW k lo hi a),.int (nmW k lo hi b)] | d=>d,fun i d hd=>?_,Zag (Zcu (Or.inl rfl) (Zag ⟨Zbu,?_⟩))⟩)))))))))))
 ·rw [List.length_map]; exact small1000 (by omega)
 ·rw [List.getElem?_map] at hd
  cases z:ts[i]? with
  | none=>rw [z] at hd; cases hd
  | some t=>
   rw [z] at hd; cases hd
   obtain ⟨a,b,c,d⟩:=hW.tie t (List.mem_of_getElem? z)
   have a1:=Zf7 (nmW k lo hi) a b
   have a2:=Zf7 (nmW k lo hi) c d
   exact ⟨_,_,rfl,Zcl ⟨rfl,Zbp (Zab (Zde rfl rfl (Zac rfl ⟨_,_,_,_,rfl,rfl,rfl,a1,Zab (Zde rfl rfl (Zac rfl ⟨_,_,_,_,rfl,rfl,rfl,a2,Zag ⟨Zbu,rfl,_,_,rfl⟩⟩))⟩)))⟩⟩
 rw [Zl7 (nmW k lo hi) ts _ fun t=>rfl]
 refine Zab (Za5 (Zab (Zfl rfl (Zag (Zcu (Or.inl rfl) (Zag ⟨Zbu,?_⟩))))))
 have e4:moveT (nmW k lo hi) ts=ts.map (pdT (lo:Nat) (hi:Nat)):=by
  unfold moveT
  refine List.map_congr_left fun t ht=>?_
  obtain ⟨b1,b2⟩:=bt t ht
  unfold pdT
  rw [<- hlo,<- hhi,Zp3 hne b1,Zp3 hne b2]
 rw [e4]
 exact q
end
noncomputable def lastO (ts:List (Int × Int)) (o:List (List Int)) (t:Nat):List (List Int):=o.map fun r=>lf (r.map (renE t (ts.length - 1)))
def fAL:DSp:=fun ds Post=>∃ n ts o,∃ t:Nat,∃ a b:Int,ds=[encWeb n ts,encOrd o,.int t]/\WebOk n ts/\OrdOk n ts o/\ts[t]? = some (a,b)/\Post (floorD n (ts.eraseIdx t ++ [(a,b)]) (lastO ts o t))
def renD (t L:Nat) (d:D):D:=.int (renE t L (intD d))
noncomputable def lastD (t L:Nat):D->D
 | .tup ds=>encRow (lf ((ds.map intD).map (renE t L)))
 | d=>d
section
variable {P:Program} {w:World} {K:PySem.W.Frag} {mg:Str->Option Value} {base:Heap} {f:Addr} {fd:FuncData}
theorem Zqn (mb:Mb mg) (C__law_begun:Callee P w K mg base 1 "_law_begun" ["_law_row"] (spD K fLeastE)) (F:Fun K "_law_as_last" "_law_as_last" s_law_as_last f fd):FnOk P w K mg base CX0 2 f fd ["_law_web_here","_law_order_here","_law_tie"] (spD K fAL):=by
 refine F.ok sc_law_as_last (Zbd fun ds Post h=>by obtain ⟨_,_,_,_,_,_,rfl,_⟩:=h; rfl) (fun cdv A outer s H vs Q E hr h=>?_)
 have hu:=Zb7 hr
 refine ⟨_,(Zae (Zav (i:=3) sc_law_as_last.nd rfl (by first|exact Or.inl rfl|exact Or.inr rfl) (Zap Zdp (Zai (lenK K) rfl (mb "len" (by decide)) Zbm (Zaa (Zas (ixK K hu) (pv 0) Zaf (fun _ _=>rfl)) Zad)) Zaf)) (Zae (Zav (i:=4) sc_law_as_last.nd rfl (by first|exact Or.inl rfl|exact Or.inr rfl) (Zch ["_law_k"] (show CompSc (defScope s_law_as_last) ["_law_web_here","_law_order_here","_law_tie","_law_last","_law_names","_law_rows"] _ ["_law_tie"] [2] from ⟨rfl,by decide +kernel,by decide +kernel,by decide +kernel,rfl,by decide +kernel⟩) rfl (Zcc rfl (mb "range" (by decide)) (Zaa (Zap (addK K) (pv 3) Zaf) Zad)) (fun _ _ _ _ _=>(Zay (i:=0) (show List.Nodup (["_law_k","_law_tie"]:List Str) from by decide) rfl (Or.inl rfl))) (fun _ _ _ _ _=>Zck) (fun _ _ _ _ _=>(Zap Zdp (pv 0) (Za6 Zeu rfl (mb "int" (by decide)) Zfh (Zaa (Zd8 Ze9 (pv 0) (pv 1) (nomark _)) Zad)))))) (Zae (Zc1 (pv 3) (Zd1 (pv 4) (pv 2) (setU hu))) (Zae (Zc7 (i:=5) ["_law_row"] (show CompSc (defScope s_law_as_last) ["_law_web_here","_law_order_here","_law_tie","_law_last","_law_names","_law_rows"] _ ["_law_names"] [4] from ⟨rfl,by decide +kernel,by decide +kernel,by decide +kernel,rfl,by decide +kernel⟩) rfl sc_law_as_last.nd rfl (by first|exact Or.inl rfl|exact Or.inr rfl) (seqK K (pv 1)) (fun _ _ _ _ _=>(Zay (i:=0) (show List.Nodup (["_law_row","_law_names"]:List Str) from by decide) rfl (Or.inl rfl))) (fun _ _ _ _ _=>Zck) (fun _ _ _ _ _=>(Za1 C__law_begun (hr.mono (by first|decide|omega)) (Zaa (Zch ["_law_end"] (show CompSc (relab (defScope s_law_as_last) _) ["_law_row","_law_names"] _ ["_law_names"] [1] from ⟨rfl,by decide +kernel,by decide +kernel,by decide +kernel,rfl,by decide +kernel⟩) rfl (seqK K (pv 0)) (fun _ _ _ _ _=>(Zay (i:=0) (show List.Nodup (["_law_end","_law_names"]:List Str) from by decide) rfl (Or.inl rfl))) (fun _ _ _ _ _=>Zck) (fun _ _ _ _ _=>(Zap (addK K) (Zap Zb6 Zaf (Zas (ixK K hu) (pv 1) (Zap Zc8 (pv 0) Zaf) (fun _ _=>rfl))) (Zap Zb5 (pv 0) Zaf)))) Zad)))) (Zal (Zaz (Zbb (Zaa (Zbb (Zaa (Zas (ixK K hu) (pv 0) Zaf (fun _ _=>rfl)) (Zaa (Zap (addK K) (Zap (addK K) (Zbg (slK K) (Zas (ixK K hu) (pv 0) Zaf (fun _ _=>rfl)) Zbx (Zbs (pv 2))) (Zbg (slK K) (Zas (ixK K hu) (pv 0) Zaf (fun _ _=>rfl)) (Zbs (Zap (addK K) (pv 2) Zaf)) Zbx)) (Zbb (Zaa (Zas (ixK K hu) (Zas (ixK K hu) (pv 0) Zaf (fun _ _=>rfl)) (pv 2) (fun _ _=>rfl)) Zad))) Zad))) (Zaa (Za6 (tupK K) rfl (mb "tuple" (by decide)) Zbq (Zaa (pv 5) Zad)) Zad))))))))),Zcp (fun ds Post hf=>?_) h⟩
 obtain ⟨n,ts,o,t,a,b,rfl,hW,hO,hab,q⟩:=hf
 refine ⟨by simp,?_⟩
 dsimp only [startD,List.tail,List.map,List.length,List.replicate]
 have ht:t < ts.length:=(List.getElem?_eq_some_iff.mp hab).1
 have hol:=hO.len
 have hn:=hW.hi
 have hl:=hW.len
 obtain ⟨L,hL⟩:∃ L,ts.length=L + 1:=⟨ts.length - 1,by omega⟩
 refine Zaj (Zax (Zbe (Zbr (Zd9 (Zba (d:=.tup (ts.map encTie)) rfl rfl)) Zbf Zlh) ?_))
 rw [List.length_map,hL,show ((L + 1:Nat):Int) - 1=(L:Int) by omega]
 refine Zaj (Zdw (Zib (by decide) (Zcb (Zab (Zbe (Zbr (Zak rfl) Zbf Zea) (Zag ⟨_,rfl,by omega,by omega,?_,fun _=>true,fun d=>match d with | .int q=>D.int (q - (if decide (q > (t:Int))=true then 1 else 0)) | d=>d,fun i d hd=>?_,?_⟩))))))
 ·rw [Zb3]; exact small1000 (by omega)
 ·obtain ⟨hi',rfl⟩:=Zc9 hd
  exact Zcl ⟨rfl,Zan (Zac rfl (Za5 (Zab (Zbe (Zbr (Zak rfl) (Zak rfl) Znt) (Zag (Zha (Zf9 ⟨rfl,_,rfl⟩)))))))⟩
 rw [List.filter_eq_self.mpr (by simp),Zgi (fun q=>q - (if decide (q > (t:Int))=true then 1 else 0))]
 refine Zaj (Zc4 (Zac rfl ⟨⟨_,_,rfl,rfl⟩,Zac rfl ⟨_,_,_,t,rfl,rfl,rfl,?_,?_⟩⟩))
 ·refine Ze4 ?_
  rw [Zdc]; omega
 rw [namesW t L t (show t < ((L:Int) + 1).toNat by omega)]
 have o2:=(hO.rows hW).2
 refine Zaj (Zax (Zcg (by decide) (Zdt (Zac rfl ⟨_,rfl,?_,fun _=>true,lastD t L,fun i d hd=>?_,?_⟩))))
 ·rw [List.length_map]; exact small1000 (by omega)
 ·rw [List.getElem?_map] at hd
  cases z:o[i]? with
  | none=>rw [z] at hd; cases hd
  | some r=>
   rw [z] at hd
   have hd:encRow r=d:=by simpa using hd
   subst hd
   have hr48:=o2 r (List.mem_of_getElem? z)
   have R:=hO.row i r z
   refine Zcl ⟨rfl,Zau (Zab (Zcg (by decide) (Zdt (Zac rfl ⟨_,rfl,?_,fun _=>true,renD t L,fun j x hx=>?_,?_⟩))))⟩
   ·rw [List.length_map]; exact small1000 (by omega)
   ·rw [List.getElem?_map] at hx
    cases y:r[j]? with
    | none=>rw [y] at hx; cases hx
    | some e=>
     rw [y] at hx; cases hx
     have he:=Zb1 R (List.mem_of_getElem? y)
     have a1:=Zf7 (nmW t L t) (a:=e / 2) (m:=(L:Int) + 1) (by omega) (by omega)
     refine Zcl ⟨rfl,Zan (Zan (Zar (Zde rfl rfl (Zbe (Zbr (Zak rfl) Zbf (pr_I ⟨by decide,by decide⟩)) ⟨_,_,_,_,rfl,rfl,rfl,a1,jr_I (Or.inl ⟨by decide,by decide⟩) ?_⟩))))⟩
     exact Zbe (Zbr (Zak rfl) Zbf (pr_I (show (0:Int) < 2 by decide))) (Zb8 ⟨rfl,_,rfl⟩)
   ·refine Zag ⟨r.map (renE t L),?_,by rw [List.length_map]; omega,⟨?_,_,rfl⟩⟩
    ·rw [List.filter_eq_self.mpr (by simp),List.map_map,List.map_map]; rfl
    ·show _=encRow (lf (((r.map D.int).map intD).map (renE t L)))
     rw [Zeq]
 have e5:((o.map encRow).filter fun _=>true).map (lastD t L)=(lastO ts o t).map encRow:=by
  unfold lastO
  rw [List.filter_eq_self.mpr (by simp),List.map_map,List.map_map,show ts.length - 1=L by omega]
  refine List.map_congr_left fun r _=>?_
  show encRow (lf (((r.map D.int).map intD).map (renE t L)))=_
  rw [Zeq]; rfl
 rw [e5]
 have atT:atI (ts.map encTie) (t:Int)=some (encTie (a,b)):=Zbh (by rw [List.getElem?_map,hab]; rfl)
 refine Za3 (Zbp (Zab (Zbp (Zab (Zbe (Zba (d:=.int n) rfl rfl) (Zab (Zan (Zan (Zdg (Zbe (Zba (d:=.tup (ts.map encTie)) rfl rfl) (Zbv (Zbw (Zac rfl ⟨_,rfl,.tup ((ts.map encTie).take t),?_,?_⟩)))))))))))))
 ·show some (D.tup (cutD (ts.map encTie) none (some (t:Int))))=_
  rw [Zec _ (by rw [List.length_map]; omega)]
 refine Zdg (Zbe (Zba (d:=.tup (ts.map encTie)) rfl rfl) (Zbw (Zbe (Zbr (Zak rfl) Zbf Zea) ⟨_,rfl,Zbv ⟨.tup ((ts.map encTie).drop (t + 1)),?_,Zct ?_ ?_⟩⟩)))
 ·show some (D.tup (cutD (ts.map encTie) (some ((t:Int) + 1)) none))=_
  rw [show (t:Int) + 1=((t + 1:Nat):Int) by omega,Zcq _ (by rw [List.length_map]; omega)]
 ·rw [List.length_take,List.length_drop,List.length_map]; exact Nat.le_of_lt (small1000 (by omega))
 refine Zbe (Zeg (Zah (Zcw (d:=encTie (a,b)) (Zba (d:=.tup (ts.map encTie)) rfl rfl) (Zak rfl) atT) Zbl) (by show 1<=sizeLine; decide)) (Zct ?_ (Zag ⟨Zbu,?_⟩))
 ·rw [List.length_append,List.length_take,List.length_drop,List.length_map,List.length_singleton]; exact Nat.le_of_lt (small1000 (by omega))
 refine Zab (Za5 (Zab (Zac rfl (Zag (Zcu (Or.inl rfl) (Zag ⟨Zbu,?_⟩))))))
 have q':=q
 unfold floorD encWeb at q'
 rw [List.map_append,<- Zfg,List.eraseIdx_eq_take_drop_succ] at q'
 exact q'
end
def isIntP:D->Option Bool
 | .int _=>some true
 | .tup _=>some false
 | _=>none
def fIsWP:DSp:=fun ds Post=>∃ d b,ds=[d]/\isIntP d=some b/\Post (.bl b)
def fIsPl:DSp:=fun ds Post=>∃ n ts,∃ p:Int,ds=[encWeb n ts,.int p]/\0<=p/\p < n/\Post (.bl true)
section
variable {P:Program} {w:World} {K:PySem.W.Frag} {mg:Str->Option Value} {base:Heap} {f:Addr} {fd:FuncData}
theorem Znc (mb:Mb mg) (F:Fun K "is_whole" "is_whole" s_is_whole f fd):FnOk P w K mg base CX0 1 f fd ["thing"] (spD K fIsWP):=by
 refine F.ok sc_is_whole (Zbd fun ds Post h=>by obtain ⟨_,_,rfl,_⟩:=h; rfl) (fun cdv A outer s H vs Q E hr h=>?_)
 have hu:=Zb7 hr
 refine ⟨_,(Zal (Zaz (Zes (Zai (isiUK K) rfl (mb "isinstance" (by decide)) Za9 (Zaa (pv 0) (Zaa (Zc6 rfl (mb "int" (by decide)) Zfh (show RelV (.ty "int") _ from rfl)) Zad))) (Zet (Zkg (Zai (isiUK K) rfl (mb "isinstance" (by decide)) Za9 (Zaa (pv 0) (Zaa (Zc6 rfl (mb "bool" (by decide)) Zho (show RelV (.ty "bool") _ from rfl)) Zad)))))))),Zcp (fun ds Post hf=>?_) h⟩
 obtain ⟨d,b,rfl,hb,q⟩:=hf
 refine ⟨by simp,?_⟩
 dsimp only [startD,List.tail,List.map,List.length]
 cases d with
 | int i=>
  cases hb
  refine Za3 (Zc3 (Za5 (Zab (Zac rfl (Zab (Zeh (Zag (Zci (T:="int") (b:=true) rfl (fun _=>by rfl) ⟨_,rfl,?_⟩))))))))
  rw [if_pos rfl]
  refine Zge (Za5 (Zab (Zac rfl (Zab (Zeh (Zag (Zci (T:="int") (b:=false) rfl (fun _=>by rfl) ⟨_,rfl,?_⟩)))))))
  exact q
 | tup l=>
  cases hb
  exact Za3 (Zc3 (Za5 (Zab (Zac rfl (Zab (Zeh (Zag (Zci (T:="tuple") (b:=false) rfl (fun _=>by rfl) ⟨_,rfl,iteF q⟩))))))))
 | _=>cases hb
theorem Zna (mb:Mb mg) (C_is_whole:Callee P w K mg base 1 "is_whole" ["thing"] (spD K fIsWP)) (F:Fun K "is_place" "is_place" s_is_place f fd):FnOk P w K mg base CX0 2 f fd ["web","place"] (spD K fIsPl):=by
 refine F.ok sc_is_place (Zbd fun ds Post h=>by obtain ⟨_,_,_,rfl,_⟩:=h; rfl) (fun cdv A outer s H vs Q E hr h=>?_)
 have hu:=Zb7 hr
 refine ⟨_,(Zal (Zaz (Zes (Za1 C_is_whole (hr.mono (by first|decide|omega)) (Zaa (pv 1) Zad)) (Zet (Zif Znu Zkj Zaf (pv 1) (Zas (ixK K hu) (pv 0) Zaf (fun _ _=>rfl))))))),Zcp (fun ds Post hf=>?_) h⟩
 obtain ⟨n,ts,p,rfl,h0,h1,q⟩:=hf
 refine ⟨by simp,?_⟩
 dsimp only [startD,List.tail,List.map,List.length]
 refine Za3 (Zc3 (Zau (Zab (Zac rfl (Zag ⟨_,_,rfl,rfl,_,rfl,iteT ?_⟩)))))
 refine Zf4 (Zar (Zac rfl (Zdu ⟨_,rfl,?_⟩)))
 rw [decide_eq_true h0,if_pos rfl]
 refine Zan (Zac rfl (Zar (Za4 (d:=.int n) rfl (Zdu ?_))))
 rw [decide_eq_true h1]
 exact q
end
def fCP:DSp:=fun ds Post=>∃ n ts o c,ds=[encWeb n ts,encOrd o,corD c]/\WebOk n ts/\OrdOk n ts o/\CorOk n ts o c/\Post (.int (corP ts c:Int))
def fRW:DSp:=fun ds Post=>∃ (r:List Int) (c:Nat ⊕ Nat) (x:Int),ds=[encRow r,corD c,.int x]/\(∀ e,c=.inl e->(e:Int) ∈ r)/\r.length<=60/\Post (encRow (rowW r c x))
def fPut:DSp:=fun ds Post=>∃ n ts o c d,ds=[encWeb n ts,encOrd o,corD c,corD d]/\WebOk n ts/\OrdOk n ts o/\CorOk n ts o c/\CorOk n ts o d/\ts.length < 24/\Post (floorD n (putTs ts c d) (putO ts o c d))
theorem Zof (c:Nat ⊕ Nat):isIntP (corD c)=some (match c with | .inl _=>true | .inr _=>false):=by cases c <;> rfl
section
variable {P:Program} {w:World} {K:PySem.W.Frag} {mg:Str->Option Value} {base:Heap} {f:Addr} {fd:FuncData}
theorem Zqv (mb:Mb mg) (C_is_whole:Callee P w K mg base 1 "is_whole" ["thing"] (spD K fIsWP)) (C_is_place:Callee P w K mg base 2 "is_place" ["web","place"] (spD K fIsPl)) (C_place_of:Callee P w K mg base 1 "place_of" ["web","end"] (spD K fPlace)) (F:Fun K "corner_place" "corner_place" s_corner_place f fd):FnOk P w K mg base CX0 3 f fd ["web","order","corner"] (spD K fCP):=by
 refine F.ok sc_corner_place (Zbd fun ds Post h=>by obtain ⟨_,_,_,_,rfl,_⟩:=h; rfl) (fun cdv A outer s H vs Q E hr h=>?_)
 have hu:=Zb7 hr
 refine ⟨_,(Zae (Zb9 (PW.pt (pw_and (truK K (Za1 C_is_whole (hr.mono (by first|decide|omega)) (Zaa (pv 2) Zad)) (fun _=>rfl)) (pw_and1 (Zlz Znu Zkj Zaf (pv 2) (Zap Zb6 Zaf (Zai (lenK K) rfl (mb "len" (by decide)) Zbm (Zaa (Zas (ixK K hu) (pv 0) Zaf (fun _ _=>rfl)) Zad))))))) (Zal (Zaz (Za1 C_place_of (hr.mono (by first|decide|omega)) (Zaa (pv 0) (Zaa (pv 2) Zad))))) Za2) (Zae (Zb9 (PW.pt (pw_and (truK K (Zai (isiUK K) rfl (mb "isinstance" (by decide)) Za9 (Zaa (pv 2) (Zaa (Zc6 rfl (mb "tuple" (by decide)) Zbq (show RelV (.ty "tuple") _ from rfl)) Zad))) (fun _=>rfl)) (pw_and (Zaw Zcf (Zai (lenK K) rfl (mb "len" (by decide)) Zbm (Zaa (pv 2) Zad)) Zaf (nomark _)) (pw_and1 (Zaw Zcf (Zas (ixK K hu) (pv 2) Zaf (fun _ _=>rfl)) Zgz (nomark _)))))) (Zae (Zav (i:=3) sc_corner_place.nd rfl (by first|exact Or.inl rfl|exact Or.inr rfl) (Zas (ixK K hu) (pv 2) Zaf (fun _ _=>rfl))) (Zal (Zb9 (PW.pt (pw_and (truK K (Za1 C_is_place (hr.mono (by first|decide|omega)) (Zaa (pv 0) (Zaa (pv 3) Zad))) (fun _=>rfl)) (pw_and1 (Zef (truK K (Zas (ixK K hu) (pv 1) (pv 3) (fun _ _=>rfl)) (fun _=>rfl)))))) (Zal (Zaz (pv 3))) Za2))) Za2) Zd2)),Zcp (fun ds Post hf=>?_) h⟩
 obtain ⟨n,ts,o,c,rfl,hW,hO,hc,q⟩:=hf
 refine ⟨by simp,?_⟩
 dsimp only [startD,List.tail,List.map,List.length,List.replicate]
 have hw2:=hW.len
 have hol:=hO.len
 cases c with
 | inl e=>
  have he:e < 2 * ts.length:=hc
  obtain ⟨p0,p1⟩:=Zca hW he
  refine Zaj (Zb4 (Zdm (Zcd (Zau (Zab (Zac rfl (Zag ⟨_,_,rfl,rfl,_,rfl,iteT ?_⟩)))))))
  refine Za0 (Zf4 (Zar (Zac rfl (Zdu ⟨_,rfl,?_⟩))))
  rw [decide_eq_true (show (0:Int)<=(e:Int) by omega),if_pos rfl]
  refine Zan (Zar (Za5 (Zab (Zan (Zac rfl (Zar (Za4 (Zh9 n ts) (Zag (Zbt (Or.inr rfl) ?_)))))))))
  rw [List.length_map]
  refine jr_I (Or.inl ⟨by omega,by omega⟩) (Zdu ⟨_,rfl,?_⟩)
  rw [decide_eq_true (show (e:Int) < 2 * (ts.length:Int) by omega)]
  refine iteT (Za3 (Zau (Zab (Zac rfl (Zab (Zac rfl (Zag ⟨n,ts,e,rfl,he,?_⟩)))))))
  have q':Post (.int (((placeAt ts e).toNat:Nat):Int)):=q
  rw [show (((placeAt ts e).toNat:Nat):Int)=placeAt ts e by omega] at q'
  exact q'
 | inr p=>
  obtain ⟨hp,hb⟩:=hc
  have hp':p < o.length:=by omega
  refine Zaj (Zb4 (Zdm (Zcd (Zau (Zab (Zac rfl (Zag ⟨_,_,rfl,rfl,_,rfl,iteF (iteF (Za7 ?_))⟩)))))))
  refine Zaj (Zb4 (Zdm (Zcd (Za5 (Zab (Zac rfl (Zab (Zeh (Zag (Zci (T:="tuple") (b:=true) rfl (fun _=>by rfl) ⟨_,rfl,iteT ?_⟩))))))))))
  refine Zdm (Za0 (Zan (Za5 (Zab (Zac rfl (Zag (Zbt (Or.inr rfl) (Zar (Zei ⟨_,rfl,?_⟩)))))))))
  refine iteT ?_
  refine Za0 (Zan (Zan (Zac rfl (Zar (Za4 (d:=.str "place") rfl (Zjo (Zol ⟨_,rfl,iteT ?_⟩)))))))
  refine Zaj (Zax (Zan (Zac rfl (Zar (Za4 (d:=.int (p:Int)) rfl ?_)))))
  refine Zb4 (Zdm (Zcd (Zau (Zab (Zac rfl (Zab (Zac rfl (Zag ⟨n,ts,p,rfl,by omega,hp,_,rfl,iteT ?_⟩))))))))
  refine Zdo (Zcd (Zan (Zac rfl (Zac rfl (Za4 (d:=encRow (o.getD p [])) (Zbh ?_) ⟨false,?_,iteT ?_⟩)))))
  ·rw [List.getElem?_map,Zam hp']; rfl
  ·rw [hb]; rfl
  exact Za3 (Zac rfl q)
theorem Zqo (mb:Mb mg) (C_is_whole:Callee P w K mg base 1 "is_whole" ["thing"] (spD K fIsWP)) (F:Fun K "row_with" "row_with" s_row_with f fd):FnOk P w K mg base CX0 2 f fd ["row","corner","end"] (spD K fRW):=by
 refine F.ok sc_row_with (Zbd fun ds Post h=>by obtain ⟨_,_,_,rfl,_⟩:=h; rfl) (fun cdv A outer s H vs Q E hr h=>?_)
 have hu:=Zb7 hr
 refine ⟨_,(Zae (Zav (i:=3) sc_row_with.nd rfl (by first|exact Or.inl rfl|exact Or.inr rfl) (Zej (truK K (Za1 C_is_whole (hr.mono (by first|decide|omega)) (Zaa (pv 1) Zad)) (fun _=>rfl)) (Zap (addK K) (bmK K PySem.F.plainAttrs_tuple PySem.F.slot_tuple_index PySem.F.type_tuple_index (idxK K) (pv 0) (Zaa (pv 1) Zad)) Zaf) (Zai (lenK K) rfl (mb "len" (by decide)) Zbm (Zaa (pv 0) Zad)))) (Zal (Zaz (Zap (addK K) (Zap (addK K) (Zbg (slK K) (pv 0) Zbx (Zbs (pv 3))) (Zbb (Zaa (pv 2) Zad))) (Zbg (slK K) (pv 0) (Zbs (pv 3)) Zbx))))),Zcp (fun ds Post hf=>?_) h⟩
 obtain ⟨r,c,x,rfl,hc,hl,q⟩:=hf
 refine ⟨by simp,?_⟩
 dsimp only [startD,List.tail,List.map,List.length,List.replicate]
 obtain ⟨j1,_⟩:=j_ok hc
 refine Zce (fun Δ=>Δ = [.val (encRow r),.val (corD c),.val (.int x),.val (.int (jOf r c:Nat))]) ?_ ?_
 ·refine Zax (Zek (Zcd (Zau (Zab (Zac rfl (Zag ⟨_,_,rfl,Zof c,_,rfl,?_⟩))))))
  cases c with
  | inl e=>
   obtain ⟨i1,i2,i3⟩:=Zbo (hc e rfl)
   refine iteT (Zan (Zd7 (Zac rfl ⟨r,rfl,Zac rfl ⟨(e:Int),r.idxOf (e:Int),rfl,i2,i3,Zar (Zb8 ?_)⟩⟩)))
   show _=[_,_,_,L2.Slot.val (.int ((r.idxOf (e:Int) + 1:Nat):Int))]
   rw [show ((r.idxOf (e:Int) + 1:Nat):Int)=(r.idxOf (e:Int):Int) + 1 by omega]
   rfl
  | inr p=>
   refine iteF (Za5 (Zab (Zac rfl (Zag (Zbt (Or.inr rfl) ?_)))))
   rw [List.length_map]
   rfl
 rintro Δ1 rfl
 have hj:jOf r c<=(r.map D.int).length:=by rw [List.length_map]; exact j1
 refine Za3 (Zan (Zan (Zdg (Zac rfl (Zbv (Zbw (Zac rfl ⟨_,rfl,.tup ((r.map D.int).take (jOf r c)),?_,?_⟩)))))))
 ·show some (D.tup (cutD (r.map D.int) none (some ((jOf r c:Nat):Int))))=_
  rw [Zec _ hj]
 refine Zbp (Zab (Zac rfl (Zag ⟨(show 1<=sizeLine from by decide),Zct ?_ ?_⟩)))
 ·rw [List.length_take,List.length_map,List.length_singleton]; exact Nat.le_of_lt (small1000 (by omega))
 refine Zdg (Zac rfl (Zbw (Zac rfl ⟨_,rfl,Zbv ⟨.tup ((r.map D.int).drop (jOf r c)),?_,Zct ?_ ?_⟩⟩)))
 ·show some (D.tup (cutD (r.map D.int) (some ((jOf r c:Nat):Int)) none))=_
  rw [Zcq _ hj]
 ·rw [List.length_append,List.length_take,List.length_drop,List.length_map,List.length_singleton]; exact Nat.le_of_lt (small1000 (by omega))
 unfold encRow rowW at q
 rw [List.map_append,List.map_take,List.map_cons,List.map_drop] at q
 rw [List.append_assoc]
 exact q
theorem Zo4 (mb:Mb mg) {tk:Tok} (g_MOST_TIES:mg "MOST_TIES" = some (.int 24 tk)) (C_corner_place:Callee P w K mg base 3 "corner_place" ["web","order","corner"] (spD K fCP)) (C_row_with:Callee P w K mg base 2 "row_with" ["row","corner","end"] (spD K fRW)) (F:Fun K "put_in" "put_in" s_put_in f fd):FnOk P w K mg base CX0 4 f fd ["web","order","one","other"] (spD K fPut):=by
 refine F.ok sc_put_in (Zbd fun ds Post h=>by obtain ⟨_,_,_,_,_,rfl,_⟩:=h; rfl) (fun cdv A outer s H vs Q E hr h=>?_)
 have hu:=Zb7 hr
 refine ⟨_,(Zae (Zc1 (pv 0) (gtupK (n:=2) K rfl (Zbi (Zay (i:=4) sc_put_in.nd rfl (by first|exact Or.inl rfl|exact Or.inr rfl)) (Zbi (Zay (i:=5) sc_put_in.nd rfl (by first|exact Or.inl rfl|exact Or.inr rfl)) Zdb)))) (Zae (Zav (i:=6) sc_put_in.nd rfl (by first|exact Or.inl rfl|exact Or.inr rfl) (Za1 C_corner_place (hr.mono (by first|decide|omega)) (Zaa (pv 0) (Zaa (pv 1) (Zaa (pv 2) Zad))))) (Zae (Zav (i:=7) sc_put_in.nd rfl (by first|exact Or.inl rfl|exact Or.inr rfl) (Za1 C_corner_place (hr.mono (by first|decide|omega)) (Zaa (pv 0) (Zaa (pv 1) (Zaa (pv 3) Zad))))) (Zae (Zb9 (Zaw Zqg (Zai (lenK K) rfl (mb "len" (by decide)) Zbm (Zaa (pv 5) Zad)) (Zne rfl g_MOST_TIES (show RelV (.int 24) _ from ⟨_,rfl⟩)) (nomark _)) Zd2 Za2) (Zae (Zav (i:=8) sc_put_in.nd rfl (by first|exact Or.inl rfl|exact Or.inr rfl) (Zap Zb6 Zaf (Zai (lenK K) rfl (mb "len" (by decide)) Zbm (Zaa (pv 5) Zad)))) (Zae (Zav (i:=9) sc_put_in.nd rfl (by first|exact Or.inl rfl|exact Or.inr rfl) (Za6 (lstK K) rfl (mb "list" (by decide)) Zi5 (Zaa (pv 1) Zad))) (Zae (Zc1 (Za1 C_row_with (hr.mono (by first|decide|omega)) (Zaa (Zas (ixK K hu) (pv 9) (pv 6) (fun _ _=>rfl)) (Zaa (pv 2) (Zaa (pv 8) Zad)))) (Zd1 (pv 9) (pv 6) (setU hu))) (Zae (Zc1 (Za1 C_row_with (hr.mono (by first|decide|omega)) (Zaa (Zas (ixK K hu) (pv 9) (pv 7) (fun _ _=>rfl)) (Zaa (pv 3) (Zaa (Zap (addK K) (pv 8) Zaf) Zad)))) (Zd1 (pv 9) (pv 7) (setU hu))) (Zal (Zaz (Zbb (Zaa (Zbb (Zaa (pv 4) (Zaa (Zap (addK K) (pv 5) (Zbb (Zaa (Zbb (Zaa (pv 6) (Zaa (pv 7) Zad))) Zad))) Zad))) (Zaa (Za6 (tupK K) rfl (mb "tuple" (by decide)) Zbq (Zaa (pv 9) Zad)) Zad))))))))))))),Zcp (fun ds Post hf=>?_) h⟩
 obtain ⟨n,ts,o,c,d,rfl,hW,hO,hc,hd,hl,q⟩:=hf
 refine ⟨by simp,?_⟩
 dsimp only [startD,List.tail,List.map,List.length,List.replicate]
 obtain ⟨o1,o2⟩:=hO.rows hW
 obtain ⟨c1,c2⟩:=Zby hW hO hc
 obtain ⟨d1,d2⟩:=Zby hW hO hd
 have g48:∀ i:Nat,(o.getD i []).length<=48:=fun i=>by
  rw [List.getD_eq_getElem?_getD]
  cases z:o[i]? with
  | none=>simp
  | some r=>exact o2 r (List.mem_of_getElem? z)
 refine Zaj (Zie (Zac rfl (Zh0 rfl (Zcr (Zcz (Zcr (Zcz (Zfr ?_))))))))
 refine Zaj (Zax (Zau (Zab (Zac rfl (Zab (Zac rfl (Zab (Zac rfl (Zag ⟨n,ts,o,c,rfl,hW,hO,hc,?_⟩)))))))))
 refine Zaj (Zax (Zau (Zab (Zac rfl (Zab (Zac rfl (Zab (Zac rfl (Zag ⟨n,ts,o,d,rfl,hW,hO,hd,?_⟩)))))))))
 refine Zaj (Zb4 (Za0 (Zan (Za5 (Zab (Zac rfl (Zag (Zbt (Or.inr rfl) (Zar (Zdu ⟨_,rfl,?_⟩))))))))))
 rw [List.length_map,decide_eq_false (by omega)]
 refine iteF (Za7 ?_)
 refine Zaj (Zax (Zan (Zar (Za5 (Zab (Zac rfl (Zag (Zbt (Or.inr rfl) ?_))))))))
 rw [List.length_map]
 refine jr_I (Or.inl ⟨by omega,by omega⟩) ?_
 rw [show (2:Int) * (ts.length:Int)=((2 * ts.length:Nat):Int) by omega]
 refine Zaj (Zdw (Zi1 (Zab (Zac rfl (Zag ⟨_,Or.inl rfl,?_⟩)))))
 have aC:atI (o.map encRow) (corP ts c:Int)=some (encRow (o.getD (corP ts c) [])):=Zbh (by rw [List.getElem?_map,Zam c1]; rfl)
 have zc:=g48 (corP ts c)
 refine Zaj (Zc4 (Zau (Zab (Zde rfl rfl (Zac rfl ⟨_,_,_,_,rfl,rfl,rfl,aC,Zab (Zac rfl (Zab (Zac rfl (Zag ⟨_,c,_,rfl,fun e h=>(c2 e h).1,by omega,⟨_,_,rfl,rfl⟩,Zac rfl ⟨_,_,_,corP ts c,rfl,rfl,rfl,?_,?_⟩⟩))))⟩)))))
 ·refine Ze4 ?_
  rw [List.length_map]; exact c1
 have e1:(o.map encRow).set (corP ts c) (encRow (rowW (o.getD (corP ts c) []) c ((2 * ts.length:Nat):Int)))=(put1 o (corP ts c) c ((2 * ts.length:Nat):Int)).map encRow:=by
  unfold put1; rw [List.map_set]
 rw [e1]
 generalize hO1:put1 o (corP ts c) c ((2 * ts.length:Nat):Int)=O1
 have l1:O1.length=o.length:=by rw [<- hO1,Zd6]
 have zO:∀ i:Nat,(O1.getD i []).length<=49:=fun i=>by
  rw [<- hO1]
  unfold put1
  rw [List.getD_eq_getElem?_getD,List.getElem?_set]
  by_cases hp:corP ts c=i
  ·subst hp
   rw [if_pos rfl,if_pos c1]
   show (rowW _ _ _).length<=49
   unfold rowW
   rw [List.length_append,List.length_cons,List.length_take,List.length_drop]
   omega
  ·rw [if_neg hp,<- List.getD_eq_getElem?_getD]; have:=g48 i; omega
 have aD:atI (O1.map encRow) (corP ts d:Int)=some (encRow (O1.getD (corP ts d) [])):=Zbh (by rw [List.getElem?_map,Zam (by omega)]; rfl)
 have zd:=zO (corP ts d)
 have hin:∀ e,d=.inl e->(e:Int) ∈ O1.getD (corP ts d) []:=fun e h=>by rw [<- hO1]; exact Zh8 d1 (d2 e h).1
 refine Zaj (Zc4 (Zau (Zab (Zde rfl rfl (Zac rfl ⟨_,_,_,_,rfl,rfl,rfl,aD,?_⟩)))))
 refine Zab (Zac rfl (Zab (Zan (Zac rfl (Zar (Zb8 (Zag ⟨_,d,_,rfl,hin,by omega,⟨_,_,rfl,rfl⟩,Zac rfl ⟨_,_,_,corP ts d,rfl,rfl,rfl,?_,?_⟩⟩)))))))
 ·refine Ze4 ?_
  rw [List.length_map]; omega
 rw [show ((2 * ts.length:Nat):Int) + 1=((2 * ts.length + 1:Nat):Int) by omega]
 have e2:(O1.map encRow).set (corP ts d) (encRow (rowW (O1.getD (corP ts d) []) d ((2 * ts.length + 1:Nat):Int)))=(putO ts o c d).map encRow:=by
  unfold putO; rw [hO1]; unfold put1; rw [List.map_set]
 rw [e2]
 refine Za3 (Zbp (Zab (Zbp (Zab (Zac rfl (Zab (Zan (Zac rfl (Zbp (Zab (Zbp (Zab (Zac rfl (Zab (Zac rfl (Zag ⟨Zbu,Zag ⟨(show 1<=sizeLine from by decide),Zct ?_ (Zag ⟨Zbu,?_⟩)⟩⟩))))))))))))))))
 ·rw [List.length_map,List.length_singleton]; exact Nat.le_of_lt (small1000 (by omega))
 refine Zab (Za5 (Zab (Zfl rfl (Zag (Zcu (Or.inl rfl) (Zag ⟨Zbu,?_⟩))))))
 have q':=q
 unfold floorD encWeb putTs at q'
 rw [List.map_append] at q'
 exact q'
end
section
variable {P:Program} {w:World} {K:PySem.W.Frag} {mg:Str->Option Value} {base:Heap} {f:Addr} {fd:FuncData}
def fOut:DSp:=fun ds Post=>∃ n ts o,∃ t:Nat,ds=[encWeb n ts,encOrd o,.int t]/\WebOk n ts/\OrdOk n ts o/\t < ts.length/\Post (floorD n (ts.eraseIdx t) (o.map (outRow t)))
theorem Zp2 (mb:Mb mg) (F:Fun K "is_whole" "is_whole" s_is_whole f fd):FnOk P w K mg base CX0 1 f fd ["thing"] (spD K fWhole):=by
 refine F.ok sc_is_whole (Zbd fun ds Post h=>by obtain ⟨_,rfl,_⟩:=h; rfl) (fun cdv A outer s H vs Q E hr h=>?_)
 have hu:=Zb7 hr
 refine ⟨_,(Zal (Zaz (Zes (Zai (isiUK K) rfl (mb "isinstance" (by decide)) Za9 (Zaa (pv 0) (Zaa (Zc6 rfl (mb "int" (by decide)) Zfh (show RelV (.ty "int") _ from rfl)) Zad))) (Zet (Zkg (Zai (isiUK K) rfl (mb "isinstance" (by decide)) Za9 (Zaa (pv 0) (Zaa (Zc6 rfl (mb "bool" (by decide)) Zho (show RelV (.ty "bool") _ from rfl)) Zad)))))))),Zcp (fun ds Post hf=>?_) h⟩
 obtain ⟨e,rfl,q⟩:=hf
 refine ⟨by simp,?_⟩
 dsimp only [startD,List.tail,List.map,List.length]
 refine Za3 (Zc3 (Za5 (Zab (Zac rfl (Zab (Zeh (Zag (Zci (T:="int") (b:=true) rfl (fun _=>by rfl) ⟨_,rfl,?_⟩))))))))
 rw [if_pos rfl]
 refine Zge (Za5 (Zab (Zac rfl (Zab (Zeh (Zag (Zci (T:="int") (b:=false) rfl (fun _=>by rfl) ⟨_,rfl,?_⟩)))))))
 exact q
theorem Zo6 (mb:Mb mg) (C_is_tie:Callee P w K mg base 2 "is_tie" ["web","tie"] (spD K fIsTie)) (C_rows_without:Callee P w K mg base 2 "rows_without" ["rows","tie"] (spD K fRowsW)) (F:Fun K "taken_out" "taken_out" s_taken_out f fd):FnOk P w K mg base CX0 3 f fd ["web","order","tie"] (spD K fOut):=by
 refine F.ok sc_taken_out (Zbd fun ds Post h=>by obtain ⟨_,_,_,_,rfl,_⟩:=h; rfl) (fun cdv A outer s H vs Q E hr h=>?_)
 have hu:=Zb7 hr
 refine ⟨_,(Zae (Zc1 (pv 0) (gtupK (n:=2) K rfl (Zbi (Zay (i:=3) sc_taken_out.nd rfl (by first|exact Or.inl rfl|exact Or.inr rfl)) (Zbi (Zay (i:=4) sc_taken_out.nd rfl (by first|exact Or.inl rfl|exact Or.inr rfl)) Zdb)))) (Zae (Zb9 (Zef (truK K (Za1 C_is_tie (hr.mono (by first|decide|omega)) (Zaa (pv 0) (Zaa (pv 2) Zad))) (fun _=>rfl))) Zd2 Za2) (Zal (Zaz (Zbb (Zaa (Zbb (Zaa (pv 3) (Zaa (Zap (addK K) (Zbg (slK K) (pv 4) Zbx (Zbs (pv 2))) (Zbg (slK K) (pv 4) (Zbs (Zap (addK K) (pv 2) Zaf)) Zbx)) Zad))) (Zaa (Za1 C_rows_without (hr.mono (by first|decide|omega)) (Zaa (pv 1) (Zaa (pv 2) Zad))) Zad))))))),Zcp (fun ds Post hf=>?_) h⟩
 obtain ⟨n,ts,o,t,rfl,hW,hO,ht,q⟩:=hf
 refine ⟨by simp,?_⟩
 dsimp only [startD,List.tail,List.map,List.length,List.replicate]
 have hw2:=hW.len
 obtain ⟨o1,o2⟩:=hO.rows hW
 refine Zaj (Zie (Zac rfl (Zh0 rfl (Zcr (Zcz (Zcr (Zcz (Zfr ?_))))))))
 refine Zaj (Zb4 (Zdo (Zcd (Zau (Zab (Zac rfl (Zab (Zac rfl (Zag ⟨n,ts,t,rfl,ht,true,rfl,iteF (Za7 ?_)⟩)))))))))
 refine Za3 (Zbp (Zab (Zbp (Zab (Zac rfl (Zab (Zan (Zdg (Zac rfl (Zbv (Zbw (Zac rfl ⟨_,rfl,.tup ((ts.map encTie).take t),?_,?_⟩))))))))))))
 ·show some (D.tup (cutD (ts.map encTie) none (some ((t:Nat):Int))))=_
  rw [Zec _ (by rw [List.length_map]; omega)]
 refine Zdg (Zac rfl (Zbw (Zan (Zac rfl (Zar (Zb8 ⟨_,rfl,Zbv ⟨.tup ((ts.map encTie).drop (t + 1)),?_,Zct ?_ (Zag ⟨Zbu,?_⟩)⟩⟩))))))
 ·show some (D.tup (cutD (ts.map encTie) (some ((t:Int) + 1)) none))=_
  rw [show ((t:Int) + 1)=((t + 1:Nat):Int) by omega,Zcq _ (by rw [List.length_map]; omega)]
 ·rw [List.length_drop,List.length_take,List.length_map]
  exact Nat.le_of_lt (small1000 (by omega))
 rw [Zey]
 exact Zab (Zau (Zab (Zac rfl (Zab (Zac rfl (Zag ⟨o,_,t,rfl,Or.inl rfl,o1,fun r hr=>by have:=o2 r hr; omega,Zag ⟨Zbu,q⟩⟩))))))
end
section
variable {P:Program} {w:World} {K:PySem.W.Frag} {mg:Str->Option Value} {base:Heap} {f:Addr} {fd:FuncData}
theorem _root_.L2.JT.imp {K:PySem.W.Frag} {c:TT} {Δ:Evt} {P Q:Bool->Evt->Prop} (h:JT K c Δ P) (f:∀ b Δ1,P b Δ1->Q b Δ1):JT K c Δ Q:=fun g G H σ R k z=>h g G H σ R k fun b G' H' Δ' k' s' p=>z b G' H' Δ' k' s' (f b Δ' p)
def intP:D->Int
 | .int i=>i
 | _=>0
def bareN (o:List (List Int)) (N:Nat):List Nat:=(List.range N).filter fun p=>(o.getD p []).isEmpty
def natD (p:Nat):D:=.int (p:Int)
theorem Zmm (o:List (List Int)) (N:Nat):((rngD 0 N).filter fun d=>(o.getD (intP d).toNat []).isEmpty).map (fun d=>d)=(bareN o N).map natD:=by
 unfold bareN rngD
 rw [List.map_id',List.filter_map]
 congr 1
 ·funext p; show D.int (0 + (p:Int))=D.int (p:Int); rw [Int.zero_add]
 ·apply List.filter_congr
  intro p _
  show (o.getD (0 + (p:Int)).toNat []).isEmpty=_
  rw [Int.zero_add,Int.toNat_natCast]
theorem Zig {n:Int} {ts:List (Int × Int)} {o:List (List Int)} (hW:WebOk n ts):(bareN o n.toNat).length<=25:=by
 have:=hW.hi
 unfold bareN
 exact Nat.le_trans (List.length_filter_le _ _) (by rw [List.length_range]; omega)
theorem Zlp {n:Int} {ts:List (Int × Int)} {o:List (List Int)} (hW:WebOk n ts) (hO:OrdOk n ts o) (h:ts.length=0):0 < (bareN o n.toNat).length:=by
 have h1:=hW.lo
 have h2:=hO.len
 refine List.length_pos_of_mem (a:=0) ?_
 unfold bareN
 rw [List.mem_filter,List.mem_range]
 refine ⟨by omega,?_⟩
 have R:=hO.row 0 _ (Zam (by omega))
 rw [h] at R
 have:o.getD 0 []=[]:=List.Perm.eq_nil R.perm
 rw [this]; rfl
theorem Zhx {n:Int} {ts:List (Int × Int)} {o:List (List Int)} (hW:WebOk n ts) {k:Nat} (hk:k < (bareN o n.toNat).length):∃ p,(bareN o n.toNat)[k]? = some p/\CorOk n ts o (.inr p):=by
 have h1:=hW.lo
 refine ⟨_,List.getElem?_eq_getElem hk,?_⟩
 have hm:(bareN o n.toNat)[k] ∈ bareN o n.toNat:=List.getElem_mem hk
 generalize (bareN o n.toNat)[k]=p at hm
 unfold bareN at hm
 rw [List.mem_filter,List.mem_range] at hm
 exact ⟨by omega,by simpa using hm.2⟩
def fCorner:BSp:=fun ps ds Post=>Pen ps/\∃ n ts o,ds=[encWeb n ts,encOrd o]/\WebOk n ts/\OrdOk n ts o/\∀ c ps',Pen ps' -> CorOk n ts o c->Post (corD c) ps'
theorem Zkw (mb:Mb mg) (C__law_draw:Callee P w K mg base 1 "_law_draw" ["_law_pen_here","_law_many"] (spB K fDraw)) (F:Fun K "_law_corner" "_law_corner" s_law_corner f fd):FnOk P w K mg base CX0 2 f fd ["_law_pen_here","_law_web_here","_law_order_here"] (spB K fCorner):=by
 refine F.ok sc_law_corner (Zfq fun ps ds Post h=>by obtain ⟨_,_,_,_,rfl,_⟩:=h; rfl) (fun cdv A outer s H vs Q E hr h=>?_)
 have hu:=Zb7 hr
 have hv:=Zm3 hr
 refine ⟨_,(Zae (Zc7 (i:=3) ["_law_place"] (show CompSc (defScope s_law_corner) ["_law_pen_here","_law_web_here","_law_order_here","_law_bare"] _ ["_law_order_here"] [2] from ⟨rfl,by decide +kernel,by decide +kernel,by decide +kernel,rfl,by decide +kernel⟩) rfl sc_law_corner.nd rfl (by first|exact Or.inl rfl|exact Or.inr rfl) (Zcc rfl (mb "range" (by decide)) (Zaa (Zas (ixK K hu) (pv 1) Zaf (fun _ _=>rfl)) Zad)) (fun _ _ _ _ _=>(Zay (i:=0) (show List.Nodup (["_law_place","_law_order_here"]:List Str) from by decide) rfl (Or.inl rfl))) (fun _ _ _ _ _=>(Ze2 (Zaw (eqT0K K hu) (Zas (ixK K hu) (pv 1) (pv 0) (fun _ _=>rfl)) (Zbb Zad) (nomark _)))) (fun _ _ _ _ _=>(pv 0))) (Zae (Zb9 (PW.pt (pw_or (Zaw Zcf (Zai (lenK K) rfl (mb "len" (by decide)) Zbm (Zaa (Zas (ixK K hu) (pv 1) Zaf (fun _ _=>rfl)) Zad)) Zaf (nomark _)) (pw_or1 (PW.pt (pw_and (Zaw Ze9 (Zai (lenK K) rfl (mb "len" (by decide)) Zbm (Zaa (pv 3) Zad)) Zaf (nomark _)) (pw_and1 (Zaw Zcf (Za1 C__law_draw (hr.mono (by first|decide|omega)) (Zaa (pv 0) (Zaa Zaf Zad))) Zaf (nomark _)))))))) (Zal (Zaz (Zbb (Zaa Zgz (Zaa (Zas (ixK K hu) (pv 3) (Za1 C__law_draw (hr.mono (by first|decide|omega)) (Zaa (pv 0) (Zaa (Zai (lenK K) rfl (mb "len" (by decide)) Zbm (Zaa (pv 3) Zad)) Zad))) (fun _ _=>rfl)) Zad))))) Za2) (Zal (Zaz (Za1 C__law_draw (hr.mono (by first|decide|omega)) (Zaa (pv 0) (Zaa (Zap Zb6 Zaf (Zai (lenK K) rfl (mb "len" (by decide)) Zbm (Zaa (Zas (ixK K hu) (pv 1) Zaf (fun _ _=>rfl)) Zad))) Zad))))))),Zk1 (fun ps ds Post hf=>?_) h⟩
 obtain ⟨hp,n,ts,o,rfl,hW,hO,q⟩:=hf
 refine ⟨by simp,?_⟩
 dsimp only [cxOf,startD,List.tail,List.map,List.length,List.replicate]
 have hn0:=hW.lo
 have hn1:=hW.hi
 have hw2:=hW.len
 have hol:=hO.len
 have hbl:=Zig (o:=o) hW
 have hba:=Zlp hW hO
 have hbc:=fun {k:Nat}=>Zhx (o:=o) (k:=k) hW
 refine Zaj (Zax (Zcg (by decide) (Zcb (Zab (Zan (Zac rfl (Zar (Za4 (d:=.int n) rfl (Zag ⟨_,rfl,by omega,by omega,by rw [Zb3]; exact small1000 (by omega),fun d=>(o.getD (intP d).toNat []).isEmpty,fun d=>d,fun i d hd=>?_,?_⟩)))))))))
 ·obtain ⟨hi,rfl⟩:=Zc9 hd
  rw [Int.zero_add]
  refine Za0 (Zan (Zan (Zac rfl (Zac rfl (Za4 (d:=encRow (o.getD i [])) (Zbh (by rw [List.getElem?_map,Zam (by omega)]; rfl)) (Zbp (Zag ⟨by decide,Zj7 ⟨_,rfl,?_,?_⟩⟩)))))))
  ·show ((o.getD i []).map D.int).isEmpty=(o.getD ((i:Int)).toNat []).isEmpty; rw [Int.toNat_natCast,List.isEmpty_map]
  ·exact ite2 (fun z=>Zac rfl ⟨rfl,_,rfl⟩) (fun z=>⟨_,rfl⟩)
 rw [Zmm]
 generalize hB:bareN o n.toNat=B at *
 refine Zce (fun Δ=>∃ psx,Pen psx/\0 < ts.length /\ Δ = [.bor (.lst psx),.val (encWeb n ts),.val (encOrd o),.val (.lst (B.map natD))]) ?_ ?_
 ·refine Zb4 (L2.JT.imp (P:=fun b Δ=>∃ psx,Pen psx/\(b=true->0 < B.length)/\(b=false->0 < ts.length) /\ Δ = [.bor (.lst psx),.val (encWeb n ts),.val (encOrd o),.val (.lst (B.map natD))]) ?_ ?_)
  ·refine Zmd (Za0 (Zan (Za5 (Zab (Zan (Zac rfl (Zar (Za4 (Zh9 n ts) (Zag (Zbt (Or.inr rfl) ?_))))))))))
   rw [List.length_map]
   refine Zar (Zei ⟨_,rfl,ite2 (fun z=>?_) (fun z=>?_)⟩)
   ·have z:(ts.length:Int)=0:=of_decide_eq_true z
    exact ⟨ps,hp,fun _=>hba (by omega),(fun z=>nomatch z),rfl⟩
   ·have z:¬ (ts.length:Int)=0:=of_decide_eq_false (Bool.eq_false_iff.mpr z)
    refine Zdm (Za0 (Zan (Za5 (Zab (Zac rfl (Zag (Zbt (Or.inl rfl) (Zar (Zdu ⟨_,rfl,ite2 (fun y=>?_) (fun y=>?_)⟩)))))))))
    ·rw [List.length_map] at y
     have y:(0:Int) < (B.length:Int):=of_decide_eq_true y
     refine Za0 (Zan (Zev rfl rfl (Zab (Zar (Zag ⟨_,_,rfl,rfl,hp,3,rfl,by omega,by omega,fun r ps' hp' r0 r1=>Zar (Zei ⟨_,rfl,?_⟩)⟩)))))
     exact ⟨ps',hp',fun _=>by omega,fun _=>by omega,rfl⟩
    ·exact ⟨ps,hp,fun z=>(nomatch z),fun _=>by omega,rfl⟩
  ·rintro b Δ1 ⟨psx,hpx,hb1,hb2,rfl⟩
   cases b with
   | true=>
    have hpos:=hb1 rfl
    refine iteT (Za3 (Zbp (Zab (Zjo (Zab (Zan (Zac rfl (Zev rfl rfl (Zab (Za5 (Zab (Zac rfl (Zag (Zbt (Or.inl rfl) ?_))))))))))))))
    rw [List.length_map]
    refine Zag ⟨_,_,rfl,rfl,hpx,_,rfl,by omega,by omega,fun r ps' hp' r0 r1=>?_⟩
    obtain ⟨k,rfl⟩:∃ k:Nat,r=(k:Int):=⟨r.toNat,by omega⟩
    obtain ⟨p,hk,hc⟩:=hbc (k:=k) (by omega)
    exact Zew (d:=natD p) (Zbh (by rw [List.getElem?_map,hk]; rfl)) (Zag ⟨Zbu,ps',rfl,q _ _ hp' hc⟩)
   | false=>exact iteF (Za7 ⟨psx,hpx,hb2 rfl,rfl⟩)
 rintro Δ1 ⟨psx,hpx,hlt,rfl⟩
 refine Za3 (Zev rfl rfl (Zab (Zan (Zar (Za5 (Zab (Zan (Zac rfl (Zar (Za4 (Zh9 n ts) (Zag (Zbt (Or.inr rfl) ?_))))))))))))
 rw [List.length_map]
 refine jr_I (Or.inl ⟨by omega,by omega⟩) (Zag ⟨_,_,rfl,rfl,hpx,_,rfl,by omega,by omega,fun r ps' hp' r0 r1=>?_⟩)
 obtain ⟨e,rfl⟩:∃ e:Nat,r=(e:Int):=⟨r.toNat,by omega⟩
 exact ⟨ps',rfl,q (.inl e) ps' hp' (by show e < 2 * ts.length; omega)⟩
end
theorem Zhr:∀ (m:Nat) (d:D),Lv m d->Dp m d
 | 0,_,h=>h.elim
 | m + 1,d,h=>by
  cases d with
  | int i=>trivial
  | tup ds=>exact fun e he=>Zhr m e (h.2 e he)
  | _=>exact h.elim
theorem Zn6 {r:List Int} {x:Int} (h:x ∈ r):atI (r.map D.int) (((r.idxOf x:Int) + 1) % (r.length:Int))=some (.int (nextIn r x)):=by
 obtain ⟨h1,_,_⟩:=Zbo h
 rw [show ((r.idxOf x:Int) + 1) % (r.length:Int)=(((r.idxOf x + 1) % r.length:Nat):Int) by rw [Int.natCast_emod,Int.natCast_add]; rfl]
 have hlt:=Nat.mod_lt (r.idxOf x + 1) (show 0 < r.length by omega)
 refine Zbh ?_
 unfold nextIn
 rw [List.getElem?_map]
 generalize (r.idxOf x + 1) % r.length=k at hlt ⊢
 rw [List.getD_eq_getElem?_getD,List.getElem?_eq_getElem hlt]; rfl
def fAg:DSp:=fun ds Post=>∃ n ts o,∃ t:Nat,ds=[encWeb n ts,encOrd o,.int t]/\WebOk n ts/\OrdOk n ts o/\t < ts.length/\Post (.bl true)
theorem Zl3 {K:PySem.W.Frag} {Δ:Evt} {Pd:D->Evt->Prop} (c d:Nat ⊕ Nat) (p:Pd (.bl (decide (c=d))) Δ):JR2 K (rEqC K) (corD c) (corD d) Δ Pd:=by
 cases c with
 | inl e=>
  cases d with
  | inl e'=>
   rw [show decide ((Sum.inl e:Nat ⊕ Nat)=.inl e')=decide ((e:Int)=(e':Int)) from decide_eq_decide.mpr ⟨fun h=>by rw [Sum.inl.inj h],fun h=>by rw [Int.ofNat.inj h]⟩] at p
   exact Zm7 p
  | inr q=>
   rw [show decide ((Sum.inl e:Nat ⊕ Nat)=.inr q)=false from decide_eq_false (fun h=>nomatch h)] at p
   exact Zlq p
 | inr q=>
  cases d with
  | inl e'=>
   rw [show decide ((Sum.inr q:Nat ⊕ Nat)=.inl e')=false from decide_eq_false (fun h=>nomatch h)] at p
   exact Zk6 p
  | inr q'=>
   rw [show decide ((Sum.inr q:Nat ⊕ Nat)=.inr q')=decide ((q:Int)=(q':Int)) from decide_eq_decide.mpr ⟨fun h=>by rw [Sum.inr.inj h],fun h=>by rw [Int.ofNat.inj h]⟩] at p
   exact Znw p
section
variable {P:Program} {w:World} {K:PySem.W.Frag} {mg:Str->Option Value} {base:Heap} {f:Addr} {fd:FuncData}
theorem Zqs (mb:Mb mg) (C_taken_out:Callee P w K mg base 3 "taken_out" ["web","order","tie"] (spD K fOut)) (C__law_corner_ahead:Callee P w K mg base 1 "_law_corner_ahead" ["_law_web_here","_law_order_here","_law_end","_law_out"] (spD K fCA)) (C_put_in:Callee P w K mg base 4 "put_in" ["web","order","one","other"] (spD K fPut)) (C__law_as_last:Callee P w K mg base 2 "_law_as_last" ["_law_web_here","_law_order_here","_law_tie"] (spD K fAL)) (C__law_same:Callee P w K mg base 6 "_law_same" ["_law_found","_law_due"] (spD K (fSame 5))) (F:Fun K "_law_again" "_law_again" s_law_again f fd):FnOk P w K mg base CX0 7 f fd ["_law_web_here","_law_order_here","_law_tie"] (spD K fAg):=by
 refine F.ok sc_law_again (Zbd fun ds Post h=>by obtain ⟨_,_,_,_,rfl,_⟩:=h; rfl) (fun cdv A outer s H vs Q E hr h=>?_)
 have hu:=Zb7 hr
 have hv:=Zm3 hr
 refine ⟨_,(Zae (Zav (i:=3) sc_law_again.nd rfl (by first|exact Or.inl rfl|exact Or.inr rfl) (Za1 C_taken_out (hr.mono (by first|decide|omega)) (Zaa (pv 0) (Zaa (pv 1) (Zaa (pv 2) Zad))))) (Zae (Zav (i:=4) sc_law_again.nd rfl (by first|exact Or.inl rfl|exact Or.inr rfl) (Zbb (Zaa (Zap Zb6 Zaf (pv 2)) (Zaa (Zap (addK K) (Zap Zb6 Zaf (pv 2)) Zaf) Zad)))) (Zae (Zav (i:=5) sc_law_again.nd rfl (by first|exact Or.inl rfl|exact Or.inr rfl) (Za1 C__law_corner_ahead (hr.mono (by first|decide|omega)) (Zaa (pv 0) (Zaa (pv 1) (Zaa (Zas (ixK K hu) (pv 4) Zaf (fun _ _=>rfl)) (Zaa (pv 4) Zad)))))) (Zae (Zav (i:=6) sc_law_again.nd rfl (by first|exact Or.inl rfl|exact Or.inr rfl) (Za1 C__law_corner_ahead (hr.mono (by first|decide|omega)) (Zaa (pv 0) (Zaa (pv 1) (Zaa (Zas (ixK K hu) (pv 4) Zaf (fun _ _=>rfl)) (Zaa (pv 4) Zad)))))) (Zae (Zav (i:=7) sc_law_again.nd rfl (by first|exact Or.inl rfl|exact Or.inr rfl) (Za1 C_put_in (hr.mono (by first|decide|omega)) (Zaa (Zas (ixK K hu) (pv 3) Zaf (fun _ _=>rfl)) (Zaa (Zas (ixK K hu) (pv 3) Zaf (fun _ _=>rfl)) (Zaa (pv 5) (Zaa (pv 6) Zad)))))) (Zae (Zav (i:=8) sc_law_again.nd rfl (by first|exact Or.inl rfl|exact Or.inr rfl) (Za1 C__law_as_last (hr.mono (by first|decide|omega)) (Zaa (pv 0) (Zaa (pv 1) (Zaa (pv 2) Zad))))) (Zae (Zav (i:=9) sc_law_again.nd rfl (by first|exact Or.inl rfl|exact Or.inr rfl) (Zas (ixK K hu) (pv 1) (Zas (ixK K hu) (Zas (ixK K hu) (Zas (ixK K hu) (pv 0) Zaf (fun _ _=>rfl)) (pv 2) (fun _ _=>rfl)) Zaf (fun _ _=>rfl)) (fun _ _=>rfl))) (Zae (Zb9 (PW.pt (pw_and (Zaw (eqCK K hu) (pv 5) (pv 6) (nomark _)) (pw_and (Zaw Zcf (Zas (ixK K hu) (pv 9) (Zap Zb5 (Zap (addK K) (bmK K PySem.F.plainAttrs_tuple PySem.F.slot_tuple_index PySem.F.type_tuple_index (idxK K) (pv 9) (Zaa (Zas (ixK K hu) (pv 4) Zaf (fun _ _=>rfl)) Zad)) Zaf) (Zai (lenK K) rfl (mb "len" (by decide)) Zbm (Zaa (pv 9) Zad))) (fun _ _=>rfl)) (Zas (ixK K hu) (pv 4) Zaf (fun _ _=>rfl)) (nomark _)) (pw_and1 (Zaw Ze9 (Zai (lenK K) rfl (mb "len" (by decide)) Zbm (Zaa (pv 9) Zad)) Zaf (nomark _)))))) (Zal (Zaz (Zes (Zd8 (eqDK K hv) (Zas (ixK K hu) (pv 7) Zaf (fun _ _=>rfl)) (Zas (ixK K hu) (pv 8) Zaf (fun _ _=>rfl)) (nomark _)) (Zet (Zd8 (eqDK K hv) (Za1 C_taken_out (hr.mono (by first|decide|omega)) (Zaa (Zas (ixK K hu) (pv 7) Zaf (fun _ _=>rfl)) (Zaa (Zas (ixK K hu) (pv 7) Zaf (fun _ _=>rfl)) (Zaa (Zap Zdp (Zai (lenK K) rfl (mb "len" (by decide)) Zbm (Zaa (Zas (ixK K hu) (pv 0) Zaf (fun _ _=>rfl)) Zad)) Zaf) Zad)))) (pv 3) (nomark _)))))) Za2) (Zal (Zaz (Za1 C__law_same (hr.mono (by first|decide|omega)) (Zaa (pv 7) (Zaa (pv 8) Zad))))))))))))),Zcp (fun ds Post hf=>?_) h⟩
 obtain ⟨n,ts,o,t,rfl,hW,hO,ht,q⟩:=hf
 refine ⟨by simp,?_⟩
 dsimp only [startD,List.tail,List.map,List.length,List.replicate]
 obtain ⟨a,b,T⟩:=Zjz hW ht
 obtain ⟨p0,rfl⟩:∃ p0:Nat,a=(p0:Int):=⟨a.toNat,by have:=T.ra; omega⟩
 obtain ⟨p1,rfl⟩:∃ p1:Nat,b=(p1:Int):=⟨b.toNat,by have:=T.rb; omega⟩
 have hol:=hO.len
 have hl:=hW.len
 have l0:p0 < o.length:=by have:=T.ra; omega
 have l1:p1 < o.length:=by have:=T.rb; omega
 have m0:2 * (t:Int) ∈ o.getD p0 []:=(hO.row _ _ (Zam l0)).mem.mpr ⟨2 * t,by omega,T.pa,by omega⟩
 have m1:2 * (t:Int) + 1 ∈ o.getD p1 []:=(hO.row _ _ (Zam l1)).mem.mpr ⟨2 * t + 1,by omega,T.pb,by omega⟩
 have K0:=Zgd hO ht l0 T.ra.2 m0 (by omega)
 have K1:=Zgd hO ht l1 T.rb.2 m1 (by omega)
 have AG:=Zj3 hW hO ht T.pa T.pb
 have W':=Zfs hW t
 have O':=Zg8 hO ht
 have hl':(ts.eraseIdx t).length=ts.length - 1:=by rw [List.length_eraseIdx,if_pos ht]
 have c20:((2 * t:Nat):Int)=2 * (t:Int):=by omega
 have c21:((2 * t + 1:Nat):Int)=2 * (t:Int) + 1:=by omega
 refine Zaj (Zax (Zau (Zdd (Zah (Zak rfl) (Zah (Zak rfl) (Zah (Zak rfl) Zbl))) ⟨n,ts,o,t,rfl,hW,hO,ht,?_⟩)))
 refine Zaj (Zax (Zbe (Zeg (Zah (Zbr Zbf (Zak rfl) (pr_I (Or.inl ⟨by decide,by decide⟩))) (Zah (Zbr (Zbr Zbf (Zak rfl) (pr_I (Or.inl ⟨by decide,by decide⟩))) Zbf Zea) Zbl)) Zbu) ?_))
 refine Zaj (Zax (Zau (Zdd (Zah (Zak rfl) (Zah (Zak rfl) (Zah (Zba rfl rfl) (Zah (Zak rfl) Zbl)))) ⟨n,ts,o,t,2 * t,p0,by rw [c20],hW,hO,by omega,by omega,T.pa,?_⟩)))
 rw [c20]
 generalize hc0:corB t p0 (o.getD p0 []) (2 * (t:Int))=c0 at *
 refine Zaj (Zax (Zau (Zdd (Zah (Zak rfl) (Zah (Zak rfl) (Zah (Zba rfl rfl) (Zah (Zak rfl) Zbl)))) ⟨n,ts,o,t,2 * t + 1,p1,by rw [c21],hW,hO,by omega,by omega,T.pb,?_⟩)))
 rw [c21]
 generalize hc1:corB t p1 (o.getD p1 []) (2 * (t:Int) + 1)=c1 at *
 obtain ⟨k0,k0p⟩:=K0
 obtain ⟨k1,k1p⟩:=K1
 refine Zaj (Zax (Zau (Zdd (Zah (Zba (d:=encWeb n (ts.eraseIdx t)) rfl rfl) (Zah (Zba (d:=encOrd (o.map (outRow t))) rfl rfl) (Zah (Zak rfl) (Zah (Zak rfl) Zbl)))) ⟨n,_,_,c0,c1,rfl,W',O',k0,k1,by omega,?_⟩)))
 refine Zaj (Zax (Zau (Zdd (Zah (Zak rfl) (Zah (Zak rfl) (Zah (Zak rfl) Zbl))) ⟨n,ts,o,t,_,_,rfl,hW,hO,T.at_,?_⟩)))
 have eT:putTs (ts.eraseIdx t) c0 c1=ts.eraseIdx t ++ [((p0:Int),(p1:Int))]:=by unfold putTs; rw [k0p,k1p]
 have W2:=Zg6 W' O' k0 k1 (by omega)
 have O2:=Zhi W' O' k0 k1
 have OP:=Zf8 W' O' k0 k1
 rw [eT] at W2 O2 OP ⊢
 have hrow:atI (o.map encRow) (p0:Int)=some (encRow (o.getD p0 [])):=Zbh (by rw [List.getElem?_map,Zam l0]; rfl)
 refine Zaj (Zax (Zbe (Zcw (d:=encRow (o.getD p0 [])) (Zak rfl) (Zcw (d:=.int (p0:Int)) (Zcw (Zba (d:=.tup (ts.map encTie)) rfl rfl) (Zak rfl) T.atD) Zbf rfl) hrow) ?_))
 obtain ⟨i1,i2,i3⟩:=Zbo m0
 have hpos:0 < (o.getD p0 []).length:=by omega
 have hnx:=Zn6 m0
 generalize hrr:o.getD p0 []=r at *
 refine Zaj (Zb4 (L2.JT.imp (P:=fun x Δ=>x=decide (c0=c1/\nextIn r (2 * (t:Int))=2 * (t:Int) + 1/\2 < r.length) /\ Δ = [.val (encWeb n ts),.val (encOrd o),.val (.int (t:Int)),.val (floorD n (ts.eraseIdx t) (o.map (outRow t))),.val (.tup [.int (2 * (t:Int)),.int (2 * (t:Int) + 1)]),.val (corD c0),.val (corD c1),.val (floorD n (ts.eraseIdx t ++ [((p0:Int),(p1:Int))]) (putO (ts.eraseIdx t) (o.map (outRow t)) c0 c1)),.val (floorD n (ts.eraseIdx t ++ [((p0:Int),(p1:Int))]) (lastO ts o t)),.val (encRow r)]) ?_ ?_))
 ·refine Zdm (Za0 (Zan (Zac rfl (Zac rfl (Zl3 c0 c1 ⟨_,rfl,ite2 (fun z=>?_) (fun z=>?_)⟩)))))
  ·have z:c0=c1:=of_decide_eq_true z
   refine Zdm (Za0 (Zan (Zan (Zac rfl (Zan (Zan (Zd7 (Zac rfl ⟨r,rfl,Zbe (Zba (d:=.int (2 * (t:Int))) rfl rfl) ⟨2 * (t:Int),r.idxOf (2 * (t:Int)),rfl,i2,i3,Zar (Zb8 ?_)⟩⟩))))))))
   refine Zbe (Zd9 (Zak rfl)) ?_
   rw [List.length_map]
   refine jr_I (show (0:Int) < (r.length:Int) by omega) (Za4 hnx (Zbe (Zba (d:=.int (2 * (t:Int) + 1)) rfl rfl) (Zei ⟨_,rfl,ite2 (fun y=>?_) (fun y=>?_)⟩)))
   ·have y:nextIn r (2 * (t:Int))=2 * (t:Int) + 1:=of_decide_eq_true y
    refine Za0 (Zan (Zbe (Zd9 (Zak rfl)) (Zar (Zdu ⟨_,rfl,?_,rfl⟩))))
    rw [List.length_map]
    exact decide_eq_decide.mpr ⟨fun h=>⟨z,y,by omega⟩,fun h=>by have:=h.2.2; omega⟩
   ·have y:¬ nextIn r (2 * (t:Int))=2 * (t:Int) + 1:=of_decide_eq_false (Bool.eq_false_iff.mpr y)
    exact ⟨(decide_eq_false fun h=>y h.2.1).symm,rfl⟩
  ·have z:¬ c0=c1:=of_decide_eq_false (Bool.eq_false_iff.mpr z)
   exact ⟨(decide_eq_false fun h=>z h.1).symm,rfl⟩
 rintro x Δ1 ⟨rfl,rfl⟩
 refine ite2 (fun z=>?_) (fun z=>?_)
 ·refine Za3 (Zc3 (Zan (Zbe (Zba (d:=encWeb n (ts.eraseIdx t ++ [((p0:Int),(p1:Int))])) rfl rfl) (Zbe (Zba (d:=encWeb n (ts.eraseIdx t ++ [((p0:Int),(p1:Int))])) rfl rfl) (Zmp (n:=4) (by decide) (Zhr _ _ (Zh5 (m:=0) W2)) (Zhr _ _ (Zh5 (m:=0) W2)) rfl rfl ?_)))))
  rw [Zdx 4 _ (Zhr _ _ (Zh5 (m:=0) W2))]
  refine ⟨true,rfl,iteT (Zan (Zau (Zab (Zbe (Zba (d:=encWeb n (ts.eraseIdx t ++ [((p0:Int),(p1:Int))])) rfl rfl) (Zab (Zbe (Zba (d:=encOrd (putO (ts.eraseIdx t) (o.map (outRow t)) c0 c1)) rfl rfl) (Zab (Zbe (Zbr (Zd9 (Zba (d:=.tup (ts.map encTie)) rfl rfl)) Zbf Zlh) ?_))))))))⟩
  rw [List.length_map,show (ts.length:Int) - 1=((ts.eraseIdx t).length:Int) by omega]
  refine Zag ⟨n,_,_,(ts.eraseIdx t).length,rfl,W2,O2,by rw [List.length_append,List.length_singleton]; omega,?_⟩
  rw [OP.1,OP.2]
  refine Zac rfl (Zmp (n:=5) (by decide) (Zhr _ _ (Zdj W' O')) (Zhr _ _ (Zdj W' O')) rfl rfl ?_)
  rw [Zdx 5 _ (Zhr _ _ (Zdj W' O'))]
  exact q
 ·have z:¬ (c0=c1/\nextIn r (2 * (t:Int))=2 * (t:Int) + 1/\2 < r.length):=of_decide_eq_false (Bool.eq_false_iff.mpr z)
  have eO:putO (ts.eraseIdx t) (o.map (outRow t)) c0 c1=lastO ts o t:=by
   rcases AG with h | h
   ·exact absurd ⟨h.2.2.2,h.2.1,h.2.2.1⟩ z
   ·exact h.2
  rw [eO] at O2 ⊢
  exact Za7 (Za3 (Zau (Zdd (Zah (Zak rfl) (Zah (Zak rfl) Zbl)) ⟨_,rfl,Zdj W2 O2,q⟩)))
end
def kSt (ns:List Int) (ps:List D) (n:Int) (ts:List (Int × Int)) (o:List (List Int)) (r:List L2.Slot):Evt:=.val (.scr (ns.map .int)) :: .own (.lst ps) :: .val (encWeb n ts) :: .val (encOrd o) :: .val (.int (ts.length:Int)) :: r
def kI (ns:List Int) (n:Int) (ts:List (Int × Int)) (o:List (List Int)):Evt->Prop:=fun Δ=>∃ (psx:List D) (x5 x6 x7 x8 x9 x10:L2.Slot),Pen psx /\ Δ = kSt ns psx n ts o [x5,x6,x7,x8,x9,x10]
theorem Zlj {ns:List Int} {n:Int} {ts:List (Int × Int)} {o:List (List Int)} {psx:List D} {x5 x6 x7 x8 x9 x10:L2.Slot} (h:Pen psx):kI ns n ts o (kSt ns psx n ts o [x5,x6,x7,x8,x9,x10]):=⟨psx,x5,x6,x7,x8,x9,x10,h,rfl⟩
def kJ (ns:List Int) (ps:List D) (n:Int) (ts:List (Int × Int)) (o:List (List Int)) (x5:L2.Slot) (bd:D) (e g:Nat):Evt->Prop:=fun Δ=>∃ (x6 x10:L2.Slot),Δ = kSt ns ps n ts o [x5,x6,.val bd,.val (.int (e:Int)),.val (.int (g:Int)),x10]
theorem Zle {n:Int} {ts:List (Int × Int)} {o:List (List Int)} (hW:WebOk n ts) (hO:OrdOk n ts o) (hL:ts.length < 24) {e g:Nat} (he:e < 2 * ts.length) (hg:CorOk n ts o (.inr g)) {c d:Nat ⊕ Nat} (h:(c=.inl e/\d=.inr g)\/(c=.inr g/\d=.inl e)) :
  CorOk n ts o c/\CorOk n ts o d/\WebOk n (putTs ts c d)/\OrdOk n (putTs ts c d) (putO ts o c d)/\ts.length < (putTs ts c d).length/\placeAt (putTs ts c d) (2 * ts.length) ≠ placeAt (putTs ts c d) (2 * ts.length + 1) ∧
  WebOk (n - 1) (ts.map (pdT (min g (placeAt ts e).toNat:Nat) (max g (placeAt ts e).toNat:Nat)))/\OrdOk (n - 1) (ts.map (pdT (min g (placeAt ts e).toNat:Nat) (max g (placeAt ts e).toNat:Nat))) (withO o (placeAt ts e).toNat g) ∧
  inTs (putTs ts c d) ts.length=ts.map (pdT (min g (placeAt ts e).toNat:Nat) (max g (placeAt ts e).toNat:Nat))/\inOrd (putTs ts c d) ts.length (putO ts o c d)=withO o (placeAt ts e).toNat g:=by
 have hc0:CorOk n ts o (.inl e):=he
 have kc:CorOk n ts o c:=by rcases h with ⟨rfl,rfl⟩ | ⟨rfl,rfl⟩; exact hc0; exact hg
 have kd:CorOk n ts o d:=by rcases h with ⟨rfl,rfl⟩ | ⟨rfl,rfl⟩; exact hg; exact hc0
 have W2:=Zg6 hW hO kc kd hL
 have O2:=Zhi hW hO kc kd
 obtain ⟨hne,i1,i2⟩:=Zmn hW hO he hg.1 hg.2
 obtain ⟨j1,j2⟩:=Zjw (ts:=ts) (e:=e) (g:=g)
 have hlt:ts.length < (putTs ts c d).length:=by unfold putTs; rw [List.length_append,List.length_singleton]; omega
 have pn:=Zdq ts (corP ts c:Int) (corP ts d:Int)
 have hpp:placeAt (putTs ts c d) (2 * ts.length) ≠ placeAt (putTs ts c d) (2 * ts.length + 1):=by
  unfold putTs
  rw [pn.1,pn.2]
  rcases h with ⟨rfl,rfl⟩ | ⟨rfl,rfl⟩
  ·show (((placeAt ts e).toNat:Nat):Int) ≠ (g:Int); omega
  ·show (g:Int) ≠ (((placeAt ts e).toNat:Nat):Int); omega
 have eT:inTs (putTs ts c d) ts.length=ts.map (pdT (min g (placeAt ts e).toNat:Nat) (max g (placeAt ts e).toNat:Nat)):=by rcases h with ⟨rfl,rfl⟩ | ⟨rfl,rfl⟩; exact j1; exact j2
 have eO:inOrd (putTs ts c d) ts.length (putO ts o c d)=withO o (placeAt ts e).toNat g:=by rcases h with ⟨rfl,rfl⟩ | ⟨rfl,rfl⟩; exact i1; exact i2
 obtain ⟨a,b,T⟩:=Zjz W2 hlt
 have Dr:=Zj9 T (by rw [<- T.pa,<- T.pb]; exact hpp)
 have W3:WebOk (n - 1) (inTs (putTs ts c d) ts.length):=Zp5 W2 Dr.lt Dr.hi
 have O3:OrdOk (n - 1) (inTs (putTs ts c d) ts.length) (inOrd (putTs ts c d) ts.length (putO ts o c d)):=Zpq W2 O2 hlt Dr.lt Dr.hi Dr.p1 Dr.p2 Dr.e1 Dr.e2
 rw [eT] at W3 O3
 rw [eO] at O3
 exact ⟨kc,kd,W2,O2,hlt,hpp,W3,O3,eT,eO⟩
section
variable {P:Program} {w:World} {K:PySem.W.Frag} {mg:Str->Option Value} {base:Heap} {f:Addr} {fd:FuncData}
theorem ok_law (mb:Mb mg) (C__law_pen:Callee P w K mg base 1 "_law_pen" ["_law_script"] (spN K fPen)) (C__law_web:Callee P w K mg base 2 "_law_web" ["_law_pen_here","_law_places","_law_ties"] (spB K fWeb)) (C__law_order:Callee P w K mg base 2 "_law_order" ["_law_pen_here","_law_web_here"] (spB K fOrder)) (C__law_draw:Callee P w K mg base 1 "_law_draw" ["_law_pen_here","_law_many"] (spB K fDraw)) (C__law_corner:Callee P w K mg base 2 "_law_corner" ["_law_pen_here","_law_web_here","_law_order_here"] (spB K fCorner)) (C_put_in:Callee P w K mg base 4 "put_in" ["web","order","one","other"] (spD K fPut)) (C_taken_out:Callee P w K mg base 3 "taken_out" ["web","order","tie"] (spD K fOut)) (C__law_same:Callee P w K mg base 6 "_law_same" ["_law_found","_law_due"] (spD K (fSame 5)))
  (C__law_again:Callee P w K mg base 7 "_law_again" ["_law_web_here","_law_order_here","_law_tie"] (spD K fAg)) (C_drawn_in:Callee P w K mg base 3 "drawn_in" ["web","order","tie"] (spD K fInn)) (C__law_without:Callee P w K mg base 1 "_law_without" ["_law_web_here","_law_order_here","_law_gone","_law_end"] (spD K fWo))
  (F:Fun K "law" "law" s_law f fd):FnOk P w K mg base CX0 8 f fd ["_law_script"] (spD K fLaw):=by
 refine F.ok sc_law (Zbd fun ds Post h=>by obtain ⟨_,rfl,_⟩:=h; rfl) (fun cdv A outer s H vs Q E hr h=>?_)
 have hu:=Zb7 hr
 have hv:=Zm3 hr
 refine ⟨_,(Zae (Zav (i:=1) sc_law.nd rfl (by first|exact Or.inl rfl|exact Or.inr rfl) (Za1 C__law_pen (hr.mono (by first|decide|omega)) (Zaa (pv 0) Zad))) (Zae (Zav (i:=2) sc_law.nd rfl (by first|exact Or.inl rfl|exact Or.inr rfl) (Za1 C__law_web (hr.mono (by first|decide|omega)) (Zaa (pv 1) (Zaa Zaf (Zaa Zaf Zad))))) (Zae (Zav (i:=3) sc_law.nd rfl (by first|exact Or.inl rfl|exact Or.inr rfl) (Za1 C__law_order (hr.mono (by first|decide|omega)) (Zaa (pv 1) (Zaa (pv 2) Zad)))) (Zae (Zav (i:=4) sc_law.nd rfl (by first|exact Or.inl rfl|exact Or.inr rfl) (Zai (lenK K) rfl (mb "len" (by decide)) Zbm (Zaa (Zas (ixK K hu) (pv 2) Zaf (fun _ _=>rfl)) Zad))) (Zae (Zh2 PassesOwn.never rfl (Zcc rfl (mb "range" (by decide)) (Zaa (Zap (addK K) Zaf (Za1 C__law_draw (hr.mono (by first|decide|omega)) (Zaa (pv 1) (Zaa Zaf Zad)))) Zad)) (Zay (i:=5) sc_law.nd rfl (by first|exact Or.inl rfl|exact Or.inr rfl)) (Zae (Zav (i:=6) sc_law.nd rfl (by first|exact Or.inl rfl|exact Or.inr rfl) (Za1 C_put_in (hr.mono (by first|decide|omega)) (Zaa (pv 2) (Zaa (pv 3) (Zaa (Za1 C__law_corner (hr.mono (by first|decide|omega)) (Zaa (pv 1) (Zaa (pv 2) (Zaa (pv 3) Zad)))) (Zaa (Za1 C__law_corner (hr.mono (by first|decide|omega)) (Zaa (pv 1) (Zaa (pv 2) (Zaa (pv 3) Zad)))) Zad)))))) (Zae (Zb9 (Zef (truK K (Za1 C__law_same (hr.mono (by first|decide|omega)) (Zaa (Za1 C_taken_out (hr.mono (by first|decide|omega)) (Zaa (Zas (ixK K hu) (pv 6) Zaf (fun _ _=>rfl)) (Zaa (Zas (ixK K hu) (pv 6) Zaf (fun _ _=>rfl)) (Zaa (pv 4) Zad)))) (Zaa (Zbb (Zaa (pv 2) (Zaa (pv 3) Zad))) Zad))) (fun _=>rfl))) (Zal (Zaz Zje)) Za2) (Zal (Zb9 (Zaw Ze9 (pv 4) Zaf (nomark _)) (Zae (Zb9 (Zef (truK K (Za1 C__law_again (hr.mono (by first|decide|omega)) (Zaa (pv 2) (Zaa (pv 3) (Zaa (Za1 C__law_draw (hr.mono (by first|decide|omega)) (Zaa (pv 1) (Zaa (pv 4) Zad))) Zad)))) (fun _=>rfl))) (Zal (Zaz Zje)) Za2) (Zae (Zc7 (i:=7) ["_law_place"] (show CompSc (defScope s_law) ["_law_script","_law_pen_here","_law_web_here","_law_order_here","_law_last","_law_k","_law_found","_law_bare","_law_end","_law_gone","_law_corners"] _ ["_law_order_here"] [3] from ⟨rfl,by decide +kernel,by decide +kernel,by decide +kernel,rfl,by decide +kernel⟩) rfl sc_law.nd rfl (by first|exact Or.inl rfl|exact Or.inr rfl) (Zcc rfl (mb "range" (by decide)) (Zaa (Zas (ixK K hu) (pv 2) Zaf (fun _ _=>rfl)) Zad)) (fun _ _ _ _ _=>(Zay (i:=0) (show List.Nodup (["_law_place","_law_order_here"]:List Str) from by decide) rfl (Or.inl rfl))) (fun _ _ _ _ _=>(Ze2 (Zaw (eqT0K K hu) (Zas (ixK K hu) (pv 1) (pv 0) (fun _ _=>rfl)) (Zbb Zad) (nomark _)))) (fun _ _ _ _ _=>(pv 0))) (Zae (Zav (i:=8) sc_law.nd rfl (by first|exact Or.inl rfl|exact Or.inr rfl) (Za1 C__law_draw (hr.mono (by first|decide|omega)) (Zaa (pv 1) (Zaa (Zap Zb6 Zaf (pv 4)) Zad)))) (Zal (Zb9 (Zaw Ze9 (Zai (lenK K) rfl (mb "len" (by decide)) Zbm (Zaa (pv 7) Zad)) Zaf (nomark _)) (Zae (Zav (i:=9) sc_law.nd rfl (by first|exact Or.inl rfl|exact Or.inr rfl) (Zas (ixK K hu) (pv 7) (Za1 C__law_draw (hr.mono (by first|decide|omega)) (Zaa (pv 1) (Zaa (Zai (lenK K) rfl (mb "len" (by decide)) Zbm (Zaa (pv 7) Zad)) Zad))) (fun _ _=>rfl))) (Zal (Zh2 PassesOwn.never rfl (seqK K (Zgl (Zaa (Zbb (Zaa (pv 8) (Zaa (Zbb (Zaa Zgz (Zaa (pv 9) Zad))) Zad))) (Zaa (Zbb (Zaa (Zbb (Zaa Zgz (Zaa (pv 9) Zad))) (Zaa (pv 8) Zad))) Zad)))) (Zay (i:=10) sc_law.nd rfl (by first|exact Or.inl rfl|exact Or.inr rfl)) (Zae (Zav (i:=6) sc_law.nd rfl (by first|exact Or.inl rfl|exact Or.inr rfl) (Za1 C_put_in (hr.mono (by first|decide|omega)) (Zaa (pv 2) (Zaa (pv 3) (Zaa (Zas (ixK K hu) (pv 10) Zaf (fun _ _=>rfl)) (Zaa (Zas (ixK K hu) (pv 10) Zaf (fun _ _=>rfl)) Zad)))))) (Zal (Zb9 (Zef (truK K (Za1 C__law_same (hr.mono (by first|decide|omega)) (Zaa (Za1 C_drawn_in (hr.mono (by first|decide|omega)) (Zaa (Zas (ixK K hu) (pv 6) Zaf (fun _ _=>rfl)) (Zaa (Zas (ixK K hu) (pv 6) Zaf (fun _ _=>rfl)) (Zaa (pv 4) Zad)))) (Zaa (Za1 C__law_without (hr.mono (by first|decide|omega)) (Zaa (pv 2) (Zaa (pv 3) (Zaa (pv 9) (Zaa (pv 8) Zad))))) Zad))) (fun _=>rfl))) (Zal (Zaz Zje)) Za2)))))) Za2))))) Za2))))) (Zal (Zaz Zje))))))),Zcp (fun ds Post hf=>?_) h⟩
 obtain ⟨ns,rfl,hl,q⟩:=hf
 refine ⟨by simp,?_⟩
 dsimp only [startD,List.tail,List.map,List.length]
 refine Zaj (Zdw (Zm1 (Zab (Zac rfl (Zag ⟨ns,rfl,hl,fun ps hp=>?_⟩)))))
 refine Zaj (Zax (Zdy rfl rfl (Zab (Zar (Zab (Zar (Zag (Zot rfl rfl hp (by decide) (by decide) (by decide) (by decide) fun n ts ps1 hp1 hW _ hL=>?_))))))))
 refine Zaj (Zax (Zdy rfl rfl (Zab (Zac rfl (Zag (Zl0 rfl rfl hp1 hW fun o ps2 hp2 hO=>?_))))))
 refine Zaj (Zax (Zbe (Zd9 (Zba (d:=.tup (ts.map encTie)) rfl rfl)) ?_))
 rw [List.length_map]
 have hL:ts.length < 24:=by omega
 refine Zce (fun _=>True) ?_ (fun Δ1 _=>Za3 (Zpo q))
 refine Zhy (Zcb (Zab (Zan (Zar (Zox rfl rfl hp2 (by decide) (by decide) fun r ps3 hp3 r0 r1=>Zb8 (Zag ⟨_,rfl,by omega,by omega,?_⟩))))))
 refine ⟨fun _=>kI ns n ts o,Zlj hp3,?_,fun _ _=>trivial⟩
 rintro i d0 Δ2 hd0 ⟨psx,x5,x6,x7,x8,x9,x10,hpx,rfl⟩
 have hn:=hW.lo
 have hn1:=hW.hi
 have hol:=hO.len
 refine Zcz (Zaj (Zax (Zmu (fun d Δ=>∃ (c1 c2:Nat ⊕ Nat) (pb:List D),CorOk n ts o c1/\CorOk n ts o c2/\Pen pb/\d=floorD n (putTs ts c1 c2) (putO ts o c1 c2) /\ Δ = kSt ns pb n ts o [.val d0,x6,x7,x8,x9,x10]) ?_ ?_)))
 ·refine Zau (Zab (Zac rfl (Zab (Zac rfl (Zab (Zdy rfl rfl (Zab (Zac rfl (Zab (Zac rfl (Zag ⟨_,_,rfl,rfl,hpx,n,ts,o,rfl,hW,hO,fun c pa hpa hc=>?_⟩)))))))))))
  refine Zab (Zdy rfl rfl (Zab (Zac rfl (Zab (Zac rfl (Zag ⟨_,_,rfl,rfl,hpa,n,ts,o,rfl,hW,hO,fun d pb hpb hd=>?_⟩))))))
  exact Zag ⟨n,ts,o,c,d,rfl,hW,hO,hc,hd,hL,c,d,pb,hc,hd,hpb,rfl,rfl⟩
 rintro _ _ ⟨c1,c2,pb,hc1,hc2,hpb,rfl,rfl⟩
 have W2:=Zg6 hW hO hc1 hc2 hL
 have O2:=Zhi hW hO hc1 hc2
 have OP:=Zf8 hW hO hc1 hc2
 refine Zce (fun Δ=>Δ = kSt ns pb n ts o [.val d0,.val (floorD n (putTs ts c1 c2) (putO ts o c1 c2)),x7,x8,x9,x10]) ?_ ?_
 ·refine Zb4 (Zdo (Zcd (Zau (Zab (Zau (Zdd (Zah (Zba (d:=encWeb n (putTs ts c1 c2)) rfl rfl) (Zah (Zba (d:=encOrd (putO ts o c1 c2)) rfl rfl) (Zah (Zak rfl) Zbl))) ⟨n,_,_,ts.length,rfl,W2,O2,?_,?_⟩))))))
  ·unfold putTs; rw [List.length_append,List.length_singleton]; omega
  rw [OP.1,OP.2]
  exact Zab (Zbe (Zeg (Zah (Zak rfl) (Zah (Zak rfl) Zbl)) Zbu) (Zag ⟨_,rfl,Zdj hW hO,true,rfl,iteF (Za7 rfl)⟩))
 rintro Δ3 rfl
 refine Zb4 (Za0 (Zan (Zac rfl (Zar (Zdu ⟨_,rfl,ite2 (fun z=>?_) (fun z=>Za7 (Zlj hpb))⟩)))))
 have z:(0:Int) < (ts.length:Int):=of_decide_eq_true z
 refine Zce (fun Δ=>∃ pc,Pen pc /\ Δ = kSt ns pc n ts o [.val d0,.val (floorD n (putTs ts c1 c2) (putO ts o c1 c2)),x7,x8,x9,x10]) ?_ ?_
 ·refine Zb4 (Zdo (Zcd (Zau (Zab (Zac rfl (Zab (Zac rfl (Zab (Zdy rfl rfl (Zab (Zac rfl (Zag (Zcs (m:=(ts.length:Int)) rfl rfl hpb (by omega) (by omega) fun t0 pc hpc t00 t01=>?_)))))))))))))
  obtain ⟨t,rfl⟩:∃ t:Nat,t0=(t:Int):=⟨t0.toNat,(Int.toNat_of_nonneg t00).symm⟩
  exact Zag ⟨n,ts,o,t,rfl,hW,hO,by omega,true,rfl,iteF (Za7 ⟨pc,hpc,rfl⟩)⟩
 rintro Δ4 ⟨pc,hpc,rfl⟩
 have hbl:=Zig (o:=o) hW
 have hbc:=fun {k:Nat}=>Zhx (o:=o) (k:=k) hW
 refine Zaj (Zax (Zcg (by decide) (Zcb (Zab (Zbe (Zba (d:=.int n) rfl rfl) (Zag ⟨_,rfl,by omega,by omega,by rw [Zb3]; exact small1000 (by omega),fun d=>(o.getD (intP d).toNat []).isEmpty,fun d=>d,fun i d hd=>?_,?_⟩))))))
 ·obtain ⟨hi,rfl⟩:=Zc9 hd
  rw [Int.zero_add]
  refine Za0 (Zan (Zan (Zac rfl (Zac rfl (Za4 (d:=encRow (o.getD i [])) (Zbh (by rw [List.getElem?_map,Zam (by omega)]; rfl)) (Zbp (Zag ⟨by decide,Zj7 ⟨_,rfl,?_,?_⟩⟩)))))))
  ·show ((o.getD i []).map D.int).isEmpty=(o.getD ((i:Int)).toNat []).isEmpty; rw [Int.toNat_natCast,List.isEmpty_map]
  ·exact ite2 (fun z=>Zac rfl ⟨rfl,_,rfl⟩) (fun z=>⟨_,rfl⟩)
 rw [Zmm]
 generalize hB:bareN o n.toNat=B at *
 refine Zaj (Zax (Zdy rfl rfl (Zab (Zbe (Zbr Zbf (Zak rfl) (pr_I (Or.inl ⟨by decide,by decide⟩))) (Zag (Zcs rfl rfl hpc (by omega) (by omega) fun e0 pd hpd e00 e01=>?_))))))
 obtain ⟨e,rfl⟩:∃ e:Nat,e0=(e:Int):=⟨e0.toNat,(Int.toNat_of_nonneg e00).symm⟩
 have he:e < 2 * ts.length:=by omega
 refine Zb4 (Za0 (Zan (Zbe (Zjb (Zak rfl)) (Zar (Zdu ⟨_,rfl,ite2 (fun y=>?_) (fun y=>Za7 (Zlj hpd))⟩)))))
 have y:(0:Int) < ((B.map natD).length:Int):=of_decide_eq_true y
 rw [List.length_map] at y
 refine Zaj (Zax (Zan (Zac rfl (Zdy rfl rfl (Zab (Zbe (Zjb (Zak rfl)) ?_))))))
 rw [List.length_map]
 refine Zag (Zcs (m:=(B.length:Int)) rfl rfl hpd (by omega) (by omega) fun b0 pe hpe b00 b01=>?_)
 obtain ⟨kb,rfl⟩:∃ kb:Nat,b0=(kb:Int):=⟨b0.toNat,(Int.toNat_of_nonneg b00).symm⟩
 obtain ⟨g,hgk,hg⟩:=hbc (k:=kb) (by omega)
 refine Zew (d:=natD g) (Zbh (by rw [List.getElem?_map,hgk]; rfl)) ?_
 refine Zhy (Zia (Zbe (Zp7 (Zah (Zeg (Zah (Zak rfl) (Zah (Zeg (Zah Zja (Zah (Zak rfl) Zbl)) Zbu) Zbl)) Zbu) (Zah (Zeg (Zah (Zeg (Zah Zja (Zah (Zak rfl) Zbl)) Zbu) (Zah (Zak rfl) Zbl)) Zbu) Zbl)) Zbu) ⟨_,Or.inl rfl,?_⟩))
 refine ⟨fun _=>kJ ns pe n ts o (.val d0) (.lst (B.map natD)) e g,⟨_,_,rfl⟩,?_,fun Δ5 zz=>by obtain ⟨y6,y10,rfl⟩:=zz; exact Zlj hpe⟩
 rintro j dc Δ5 hdc ⟨y6,y10,rfl⟩
 obtain ⟨c,d,rfl,hcd⟩:∃ c d:Nat ⊕ Nat,dc=.tup [corD c,corD d]/\((c=.inl e/\d=.inr g)\/(c=.inr g/\d=.inl e)):=by
  rcases j with _ | _ | j
  ·cases hdc; exact ⟨.inl e,.inr g,rfl,.inl ⟨rfl,rfl⟩⟩
  ·cases hdc; exact ⟨.inr g,.inl e,rfl,.inr ⟨rfl,rfl⟩⟩
  ·cases hdc
 obtain ⟨kc,kd,W4,O4,hlt,hpp,W5,O5,eT,eO⟩:=Zle hW hO hL he hg hcd
 have pl:=Zca hW he
 refine Zcz (Zaj (Zax (Zau (Zdd (Zah (Zak rfl) (Zah (Zak rfl) (Zah (Zba (d:=corD c) rfl rfl) (Zah (Zba (d:=corD d) rfl rfl) Zbl)))) ⟨n,ts,o,c,d,rfl,hW,hO,kc,kd,hL,?_⟩))))
 refine Zb4 (Zdo (Zcd (Zau (Zab (Zau (Zdd (Zah (Zba (d:=encWeb n (putTs ts c d)) rfl rfl) (Zah (Zba (d:=encOrd (putO ts o c d)) rfl rfl) (Zah (Zak rfl) Zbl))) ⟨n,_,_,ts.length,rfl,W4,O4,hlt,hpp,?_⟩))))))
 rw [eT,eO]
 exact Zab (Zau (Zdd (Zah (Zak rfl) (Zah (Zak rfl) (Zah (Zak rfl) (Zah (Zak rfl) Zbl)))) ⟨n,ts,o,g,e,(placeAt ts e).toNat,rfl,hW,hO,he,(Int.toNat_of_nonneg pl.1).symm,hg.1,hg.2,(Zmn hW hO he hg.1 hg.2).1,Zag ⟨_,rfl,Zdj W5 O5,true,rfl,iteF (Za7 ⟨_,_,rfl⟩)⟩⟩))
end
theorem lenS {us:List Value} {n:Nat} (h:us.length=n + 1):∃ a t,us=a :: t/\t.length=n:=by
 cases us with
 | nil=>exact absurd h.symm (Nat.succ_ne_zero n)
 | cons a t=>exact ⟨a,t,rfl,Nat.succ.inj h⟩
theorem lenK1 {us:List Value} (h:us.length=1):∃ a0,us=[a0]:=by
 obtain ⟨a0,u0,rfl,h0⟩:=lenS h
 obtain rfl:=List.eq_nil_of_length_eq_zero h0
 exact ⟨a0,rfl⟩
theorem lenK2 {us:List Value} (h:us.length=2):∃ a0 a1,us=[a0,a1]:=by
 obtain ⟨a0,u0,rfl,h0⟩:=lenS h
 obtain ⟨a1,u1,rfl,h1⟩:=lenS h0
 obtain rfl:=List.eq_nil_of_length_eq_zero h1
 exact ⟨a0,a1,rfl⟩
theorem lenK3 {us:List Value} (h:us.length=3):∃ a0 a1 a2,us=[a0,a1,a2]:=by
 obtain ⟨a0,u0,rfl,h0⟩:=lenS h
 obtain ⟨a1,u1,rfl,h1⟩:=lenS h0
 obtain ⟨a2,u2,rfl,h2⟩:=lenS h1
 obtain rfl:=List.eq_nil_of_length_eq_zero h2
 exact ⟨a0,a1,a2,rfl⟩
theorem lenK4 {us:List Value} (h:us.length=4):∃ a0 a1 a2 a3,us=[a0,a1,a2,a3]:=by
 obtain ⟨a0,u0,rfl,h0⟩:=lenS h
 obtain ⟨a1,u1,rfl,h1⟩:=lenS h0
 obtain ⟨a2,u2,rfl,h2⟩:=lenS h1
 obtain ⟨a3,u3,rfl,h3⟩:=lenS h2
 obtain rfl:=List.eq_nil_of_length_eq_zero h3
 exact ⟨a0,a1,a2,a3,rfl⟩
theorem all_mk {l:PySem.W.OpenLaw} {w:World} {K:PySem.W.Frag} {h:Heap} {mg:Str->Option Value} {fa:Addr} (X:K.In h) (G:h.Ns mainGlobals mg) (hfa:mg "law" = some (.ref fa))
  {f1:Addr} {od1 an1:Option Addr} {sl1:Array (Option Value)} {oc1 kV1 dc1 pm1 cd1 ct1:Value}
  {f2:Addr} {od2 an2:Option Addr} {sl2:Array (Option Value)} {oc2 kV2 dc2 pm2 cd2 ct2:Value}
  {f3:Addr} {od3 an3:Option Addr} {sl3:Array (Option Value)} {oc3 kV3 dc3 pm3 cd3 ct3:Value}
  {f4:Addr} {od4 an4:Option Addr} {sl4:Array (Option Value)} {oc4 kV4 dc4 pm4 cd4 ct4:Value}
  {f5:Addr} {od5 an5:Option Addr} {sl5:Array (Option Value)} {oc5 kV5 dc5 pm5 cd5 ct5:Value}
  {f6:Addr} {od6 an6:Option Addr} {sl6:Array (Option Value)} {oc6 kV6 dc6 pm6 cd6 ct6:Value}
  {f7:Addr} {od7 an7:Option Addr} {sl7:Array (Option Value)} {oc7 kV7 dc7 pm7 cd7 ct7:Value}
  {f8:Addr} {od8 an8:Option Addr} {sl8:Array (Option Value)} {oc8 kV8 dc8 pm8 cd8 ct8:Value}
  {f9:Addr} {od9 an9:Option Addr} {sl9:Array (Option Value)} {oc9 kV9 dc9 pm9 cd9 ct9:Value}
  {f10:Addr} {od10 an10:Option Addr} {sl10:Array (Option Value)} {oc10 kV10 dc10 pm10 cd10 ct10:Value}
  {f11:Addr} {od11 an11:Option Addr} {sl11:Array (Option Value)} {oc11 kV11 dc11 pm11 cd11 ct11:Value}
  {f12:Addr} {od12 an12:Option Addr} {sl12:Array (Option Value)} {oc12 kV12 dc12 pm12 cd12 ct12:Value}
  {f13:Addr} {od13 an13:Option Addr} {sl13:Array (Option Value)} {oc13 kV13 dc13 pm13 cd13 ct13:Value}
  {f14:Addr} {od14 an14:Option Addr} {sl14:Array (Option Value)} {oc14 kV14 dc14 pm14 cd14 ct14:Value}
  {f15:Addr} {od15 an15:Option Addr} {sl15:Array (Option Value)} {oc15 kV15 dc15 pm15 cd15 ct15:Value}
  {f16:Addr} {od16 an16:Option Addr} {sl16:Array (Option Value)} {oc16 kV16 dc16 pm16 cd16 ct16:Value}
  {f17:Addr} {od17 an17:Option Addr} {sl17:Array (Option Value)} {oc17 kV17 dc17 pm17 cd17 ct17:Value}
  {f18:Addr} {od18 an18:Option Addr} {sl18:Array (Option Value)} {oc18 kV18 dc18 pm18 cd18 ct18:Value}
  {f19:Addr} {od19 an19:Option Addr} {sl19:Array (Option Value)} {oc19 kV19 dc19 pm19 cd19 ct19:Value}
  {f20:Addr} {od20 an20:Option Addr} {sl20:Array (Option Value)} {oc20 kV20 dc20 pm20 cd20 ct20:Value}
  {f21:Addr} {od21 an21:Option Addr} {sl21:Array (Option Value)} {oc21 kV21 dc21 pm21 cd21 ct21:Value}
  {f22:Addr} {od22 an22:Option Addr} {sl22:Array (Option Value)} {oc22 kV22 dc22 pm22 cd22 ct22:Value}
  {f23:Addr} {od23 an23:Option Addr} {sl23:Array (Option Value)} {oc23 kV23 dc23 pm23 cd23 ct23:Value}
  {f24:Addr} {od24 an24:Option Addr} {sl24:Array (Option Value)} {oc24 kV24 dc24 pm24 cd24 ct24:Value}
  {f25:Addr} {od25 an25:Option Addr} {sl25:Array (Option Value)} {oc25 kV25 dc25 pm25 cd25 ct25:Value}
  {f26:Addr} {od26 an26:Option Addr} {sl26:Array (Option Value)} {oc26 kV26 dc26 pm26 cd26 ct26:Value}
  {f27:Addr} {od27 an27:Option Addr} {sl27:Array (Option Value)} {oc27 kV27 dc27 pm27 cd27 ct27:Value}
  (a1:PySem.W.nsIn K mainGlobals "_law_draw" = some (some (.ref f1))) (l1:K.lookup f1=some ⟨oc1,od1,.func (PySem.W.fnOf "_law_draw" "_law_draw" (defArgs s_law_draw) (defBody s_law_draw) (defScope s_law_draw) .none kV1 dc1 pm1 an1 cd1 ct1),sl1⟩) (c1:PySem.W.codeIn K cd1 "_law_draw" = true) (k1:PySem.W.keepIn K (.ref f1)=true)
  (a2:PySem.W.nsIn K mainGlobals "_law_pen" = some (some (.ref f2))) (l2:K.lookup f2=some ⟨oc2,od2,.func (PySem.W.fnOf "_law_pen" "_law_pen" (defArgs s_law_pen) (defBody s_law_pen) (defScope s_law_pen) .none kV2 dc2 pm2 an2 cd2 ct2),sl2⟩) (c2:PySem.W.codeIn K cd2 "_law_pen" = true) (k2:PySem.W.keepIn K (.ref f2)=true)
  (a3:PySem.W.nsIn K mainGlobals "_law_web" = some (some (.ref f3))) (l3:K.lookup f3=some ⟨oc3,od3,.func (PySem.W.fnOf "_law_web" "_law_web" (defArgs s_law_web) (defBody s_law_web) (defScope s_law_web) .none kV3 dc3 pm3 an3 cd3 ct3),sl3⟩) (c3:PySem.W.codeIn K cd3 "_law_web" = true) (k3:PySem.W.keepIn K (.ref f3)=true)
  (a4:PySem.W.nsIn K mainGlobals "_law_order" = some (some (.ref f4))) (l4:K.lookup f4=some ⟨oc4,od4,.func (PySem.W.fnOf "_law_order" "_law_order" (defArgs s_law_order) (defBody s_law_order) (defScope s_law_order) .none kV4 dc4 pm4 an4 cd4 ct4),sl4⟩) (c4:PySem.W.codeIn K cd4 "_law_order" = true) (k4:PySem.W.keepIn K (.ref f4)=true)
  (a5:PySem.W.nsIn K mainGlobals "is_whole" = some (some (.ref f5))) (l5:K.lookup f5=some ⟨oc5,od5,.func (PySem.W.fnOf "is_whole" "is_whole" (defArgs s_is_whole) (defBody s_is_whole) (defScope s_is_whole) .none kV5 dc5 pm5 an5 cd5 ct5),sl5⟩) (c5:PySem.W.codeIn K cd5 "is_whole" = true) (k5:PySem.W.keepIn K (.ref f5)=true)
  (a6:PySem.W.nsIn K mainGlobals "is_whole" = some (some (.ref f6))) (l6:K.lookup f6=some ⟨oc6,od6,.func (PySem.W.fnOf "is_whole" "is_whole" (defArgs s_is_whole) (defBody s_is_whole) (defScope s_is_whole) .none kV6 dc6 pm6 an6 cd6 ct6),sl6⟩) (c6:PySem.W.codeIn K cd6 "is_whole" = true) (k6:PySem.W.keepIn K (.ref f6)=true)
  (a7:PySem.W.nsIn K mainGlobals "place_of" = some (some (.ref f7))) (l7:K.lookup f7=some ⟨oc7,od7,.func (PySem.W.fnOf "place_of" "place_of" (defArgs s_place_of) (defBody s_place_of) (defScope s_place_of) .none kV7 dc7 pm7 an7 cd7 ct7),sl7⟩) (c7:PySem.W.codeIn K cd7 "place_of" = true) (k7:PySem.W.keepIn K (.ref f7)=true)
  (a8:PySem.W.nsIn K mainGlobals "is_place" = some (some (.ref f8))) (l8:K.lookup f8=some ⟨oc8,od8,.func (PySem.W.fnOf "is_place" "is_place" (defArgs s_is_place) (defBody s_is_place) (defScope s_is_place) .none kV8 dc8 pm8 an8 cd8 ct8),sl8⟩) (c8:PySem.W.codeIn K cd8 "is_place" = true) (k8:PySem.W.keepIn K (.ref f8)=true)
  (a9:PySem.W.nsIn K mainGlobals "is_tie" = some (some (.ref f9))) (l9:K.lookup f9=some ⟨oc9,od9,.func (PySem.W.fnOf "is_tie" "is_tie" (defArgs s_is_tie) (defBody s_is_tie) (defScope s_is_tie) .none kV9 dc9 pm9 an9 cd9 ct9),sl9⟩) (c9:PySem.W.codeIn K cd9 "is_tie" = true) (k9:PySem.W.keepIn K (.ref f9)=true)
  (a10:PySem.W.nsIn K mainGlobals "least_first" = some (some (.ref f10))) (l10:K.lookup f10=some ⟨oc10,od10,.func (PySem.W.fnOf "least_first" "least_first" (defArgs s_least_first) (defBody s_least_first) (defScope s_least_first) .none kV10 dc10 pm10 an10 cd10 ct10),sl10⟩) (c10:PySem.W.codeIn K cd10 "least_first" = true) (k10:PySem.W.keepIn K (.ref f10)=true)
  (a11:PySem.W.nsIn K mainGlobals "corner_place" = some (some (.ref f11))) (l11:K.lookup f11=some ⟨oc11,od11,.func (PySem.W.fnOf "corner_place" "corner_place" (defArgs s_corner_place) (defBody s_corner_place) (defScope s_corner_place) .none kV11 dc11 pm11 an11 cd11 ct11),sl11⟩) (c11:PySem.W.codeIn K cd11 "corner_place" = true) (k11:PySem.W.keepIn K (.ref f11)=true)
  (a12:PySem.W.nsIn K mainGlobals "row_with" = some (some (.ref f12))) (l12:K.lookup f12=some ⟨oc12,od12,.func (PySem.W.fnOf "row_with" "row_with" (defArgs s_row_with) (defBody s_row_with) (defScope s_row_with) .none kV12 dc12 pm12 an12 cd12 ct12),sl12⟩) (c12:PySem.W.codeIn K cd12 "row_with" = true) (k12:PySem.W.keepIn K (.ref f12)=true)
  (a13:PySem.W.nsIn K mainGlobals "put_in" = some (some (.ref f13))) (l13:K.lookup f13=some ⟨oc13,od13,.func (PySem.W.fnOf "put_in" "put_in" (defArgs s_put_in) (defBody s_put_in) (defScope s_put_in) .none kV13 dc13 pm13 an13 cd13 ct13),sl13⟩) (c13:PySem.W.codeIn K cd13 "put_in" = true) (k13:PySem.W.keepIn K (.ref f13)=true)
  (a14:PySem.W.nsIn K mainGlobals "rows_without" = some (some (.ref f14))) (l14:K.lookup f14=some ⟨oc14,od14,.func (PySem.W.fnOf "rows_without" "rows_without" (defArgs s_rows_without) (defBody s_rows_without) (defScope s_rows_without) .none kV14 dc14 pm14 an14 cd14 ct14),sl14⟩) (c14:PySem.W.codeIn K cd14 "rows_without" = true) (k14:PySem.W.keepIn K (.ref f14)=true)
  (a15:PySem.W.nsIn K mainGlobals "taken_out" = some (some (.ref f15))) (l15:K.lookup f15=some ⟨oc15,od15,.func (PySem.W.fnOf "taken_out" "taken_out" (defArgs s_taken_out) (defBody s_taken_out) (defScope s_taken_out) .none kV15 dc15 pm15 an15 cd15 ct15),sl15⟩) (c15:PySem.W.codeIn K cd15 "taken_out" = true) (k15:PySem.W.keepIn K (.ref f15)=true)
  (a16:PySem.W.nsIn K mainGlobals "others_behind" = some (some (.ref f16))) (l16:K.lookup f16=some ⟨oc16,od16,.func (PySem.W.fnOf "others_behind" "others_behind" (defArgs s_others_behind) (defBody s_others_behind) (defScope s_others_behind) .none kV16 dc16 pm16 an16 cd16 ct16),sl16⟩) (c16:PySem.W.codeIn K cd16 "others_behind" = true) (k16:PySem.W.keepIn K (.ref f16)=true)
  (a17:PySem.W.nsIn K mainGlobals "place_drawn" = some (some (.ref f17))) (l17:K.lookup f17=some ⟨oc17,od17,.func (PySem.W.fnOf "place_drawn" "place_drawn" (defArgs s_place_drawn) (defBody s_place_drawn) (defScope s_place_drawn) .none kV17 dc17 pm17 an17 cd17 ct17),sl17⟩) (c17:PySem.W.codeIn K cd17 "place_drawn" = true) (k17:PySem.W.keepIn K (.ref f17)=true)
  (a18:PySem.W.nsIn K mainGlobals "drawn_in" = some (some (.ref f18))) (l18:K.lookup f18=some ⟨oc18,od18,.func (PySem.W.fnOf "drawn_in" "drawn_in" (defArgs s_drawn_in) (defBody s_drawn_in) (defScope s_drawn_in) .none kV18 dc18 pm18 an18 cd18 ct18),sl18⟩) (c18:PySem.W.codeIn K cd18 "drawn_in" = true) (k18:PySem.W.keepIn K (.ref f18)=true)
  (a19:PySem.W.nsIn K mainGlobals "_law_whole" = some (some (.ref f19))) (l19:K.lookup f19=some ⟨oc19,od19,.func (PySem.W.fnOf "_law_whole" "_law_whole" (defArgs s_law_whole) (defBody s_law_whole) (defScope s_law_whole) .none kV19 dc19 pm19 an19 cd19 ct19),sl19⟩) (c19:PySem.W.codeIn K cd19 "_law_whole" = true) (k19:PySem.W.keepIn K (.ref f19)=true)
  (a20:PySem.W.nsIn K mainGlobals "_law_begun" = some (some (.ref f20))) (l20:K.lookup f20=some ⟨oc20,od20,.func (PySem.W.fnOf "_law_begun" "_law_begun" (defArgs s_law_begun) (defBody s_law_begun) (defScope s_law_begun) .none kV20 dc20 pm20 an20 cd20 ct20),sl20⟩) (c20:PySem.W.codeIn K cd20 "_law_begun" = true) (k20:PySem.W.keepIn K (.ref f20)=true)
  (a21:PySem.W.nsIn K mainGlobals "_law_same" = some (some (.ref f21))) (l21:K.lookup f21=some ⟨oc21,od21,.func (PySem.W.fnOf "_law_same" "_law_same" (defArgs s_law_same) (defBody s_law_same) (defScope s_law_same) .none kV21 dc21 pm21 an21 cd21 ct21),sl21⟩) (c21:PySem.W.codeIn K cd21 "_law_same" = true) (k21:PySem.W.keepIn K (.ref f21)=true)
  (a22:PySem.W.nsIn K mainGlobals "_law_corner" = some (some (.ref f22))) (l22:K.lookup f22=some ⟨oc22,od22,.func (PySem.W.fnOf "_law_corner" "_law_corner" (defArgs s_law_corner) (defBody s_law_corner) (defScope s_law_corner) .none kV22 dc22 pm22 an22 cd22 ct22),sl22⟩) (c22:PySem.W.codeIn K cd22 "_law_corner" = true) (k22:PySem.W.keepIn K (.ref f22)=true)
  (a23:PySem.W.nsIn K mainGlobals "_law_corner_ahead" = some (some (.ref f23))) (l23:K.lookup f23=some ⟨oc23,od23,.func (PySem.W.fnOf "_law_corner_ahead" "_law_corner_ahead" (defArgs s_law_corner_ahead) (defBody s_law_corner_ahead) (defScope s_law_corner_ahead) .none kV23 dc23 pm23 an23 cd23 ct23),sl23⟩) (c23:PySem.W.codeIn K cd23 "_law_corner_ahead" = true) (k23:PySem.W.keepIn K (.ref f23)=true)
  (a24:PySem.W.nsIn K mainGlobals "_law_as_last" = some (some (.ref f24))) (l24:K.lookup f24=some ⟨oc24,od24,.func (PySem.W.fnOf "_law_as_last" "_law_as_last" (defArgs s_law_as_last) (defBody s_law_as_last) (defScope s_law_as_last) .none kV24 dc24 pm24 an24 cd24 ct24),sl24⟩) (c24:PySem.W.codeIn K cd24 "_law_as_last" = true) (k24:PySem.W.keepIn K (.ref f24)=true)
  (a25:PySem.W.nsIn K mainGlobals "_law_again" = some (some (.ref f25))) (l25:K.lookup f25=some ⟨oc25,od25,.func (PySem.W.fnOf "_law_again" "_law_again" (defArgs s_law_again) (defBody s_law_again) (defScope s_law_again) .none kV25 dc25 pm25 an25 cd25 ct25),sl25⟩) (c25:PySem.W.codeIn K cd25 "_law_again" = true) (k25:PySem.W.keepIn K (.ref f25)=true)
  (a26:PySem.W.nsIn K mainGlobals "_law_without" = some (some (.ref f26))) (l26:K.lookup f26=some ⟨oc26,od26,.func (PySem.W.fnOf "_law_without" "_law_without" (defArgs s_law_without) (defBody s_law_without) (defScope s_law_without) .none kV26 dc26 pm26 an26 cd26 ct26),sl26⟩) (c26:PySem.W.codeIn K cd26 "_law_without" = true) (k26:PySem.W.keepIn K (.ref f26)=true)
  (a27:PySem.W.nsIn K mainGlobals "law" = some (some (.ref f27))) (l27:K.lookup f27=some ⟨oc27,od27,.func (PySem.W.fnOf "law" "law" (defArgs s_law) (defBody s_law) (defScope s_law) .none kV27 dc27 pm27 an27 cd27 ct27),sl27⟩) (c27:PySem.W.codeIn K cd27 "law" = true) (k27:PySem.W.keepIn K (.ref f27)=true)
  {tk_MOST_TIES:Tok} (y_MOST_TIES:PySem.W.nsIn K mainGlobals "MOST_TIES" = some (some (.int 24 tk_MOST_TIES)))
  (z0:PySem.W.nsIn K mainGlobals "abs" = some none)
  (z1:PySem.W.nsIn K mainGlobals "all" = some none)
  (z2:PySem.W.nsIn K mainGlobals "bool" = some none)
  (z3:PySem.W.nsIn K mainGlobals "enumerate" = some none)
  (z4:PySem.W.nsIn K mainGlobals "int" = some none)
  (z5:PySem.W.nsIn K mainGlobals "isinstance" = some none)
  (z6:PySem.W.nsIn K mainGlobals "len" = some none)
  (z7:PySem.W.nsIn K mainGlobals "list" = some none)
  (z8:PySem.W.nsIn K mainGlobals "max" = some none)
  (z9:PySem.W.nsIn K mainGlobals "min" = some none)
  (z10:PySem.W.nsIn K mainGlobals "range" = some none)
  (z11:PySem.W.nsIn K mainGlobals "tuple" = some none)
  (z12:PySem.W.nsIn K mainGlobals "zip" = some none) :
  ∃ fd:FuncData,(∀ (s:Shared) (v:Value),BindsTo s fd ⟨[v],[]⟩ [("_law_script",v)])/\∀ base:Heap,K.In base->base.Ns mainGlobals mg->FnOk l.prog w K mg base CX0 8 fa fd ["_law_script"] (spD K fLaw):=by
 have e:=hfa.symm.trans (PySem.W.mg_of X G a27)
 cases e
 have mb:Mb mg:=by
  intro x hx
  simp only [List.mem_cons,List.not_mem_nil,or_false] at hx
  rcases hx with rfl | rfl | rfl | rfl | rfl | rfl | rfl | rfl | rfl | rfl | rfl | rfl | rfl
  ·exact PySem.W.mg_none_of X G z0
  ·exact PySem.W.mg_none_of X G z1
  ·exact PySem.W.mg_none_of X G z2
  ·exact PySem.W.mg_none_of X G z3
  ·exact PySem.W.mg_none_of X G z4
  ·exact PySem.W.mg_none_of X G z5
  ·exact PySem.W.mg_none_of X G z6
  ·exact PySem.W.mg_none_of X G z7
  ·exact PySem.W.mg_none_of X G z8
  ·exact PySem.W.mg_none_of X G z9
  ·exact PySem.W.mg_none_of X G z10
  ·exact PySem.W.mg_none_of X G z11
  ·exact PySem.W.mg_none_of X G z12
 have F1:=Zbj (st:=s_law_draw) l1 c1 k1
 have F2:=Zbj (st:=s_law_pen) l2 c2 k2
 have F3:=Zbj (st:=s_law_web) l3 c3 k3
 have F4:=Zbj (st:=s_law_order) l4 c4 k4
 have F5:=Zbj (st:=s_is_whole) l5 c5 k5
 have F6:=Zbj (st:=s_is_whole) l6 c6 k6
 have F7:=Zbj (st:=s_place_of) l7 c7 k7
 have F8:=Zbj (st:=s_is_place) l8 c8 k8
 have F9:=Zbj (st:=s_is_tie) l9 c9 k9
 have F10:=Zbj (st:=s_least_first) l10 c10 k10
 have F11:=Zbj (st:=s_corner_place) l11 c11 k11
 have F12:=Zbj (st:=s_row_with) l12 c12 k12
 have F13:=Zbj (st:=s_put_in) l13 c13 k13
 have F14:=Zbj (st:=s_rows_without) l14 c14 k14
 have F15:=Zbj (st:=s_taken_out) l15 c15 k15
 have F16:=Zbj (st:=s_others_behind) l16 c16 k16
 have F17:=Zbj (st:=s_place_drawn) l17 c17 k17
 have F18:=Zbj (st:=s_drawn_in) l18 c18 k18
 have F19:=Zbj (st:=s_law_whole) l19 c19 k19
 have F20:=Zbj (st:=s_law_begun) l20 c20 k20
 have F21:=Zbj (st:=s_law_same) l21 c21 k21
 have F22:=Zbj (st:=s_law_corner) l22 c22 k22
 have F23:=Zbj (st:=s_law_corner_ahead) l23 c23 k23
 have F24:=Zbj (st:=s_law_as_last) l24 c24 k24
 have F25:=Zbj (st:=s_law_again) l25 c25 k25
 have F26:=Zbj (st:=s_law_without) l26 c26 k26
 have F27:=Zbj (st:=s_law) l27 c27 k27
 have b1:=F1.binds (ps:=["_law_pen_here","_law_many"]) fun _ _ _ _ _ _ us hl=>by obtain ⟨a0,a1,rfl⟩:=lenK2 hl; rfl
 have b2:=F2.binds (ps:=["_law_script"]) fun _ _ _ _ _ _ us hl=>by obtain ⟨a0,rfl⟩:=lenK1 hl; rfl
 have b3:=F3.binds (ps:=["_law_pen_here","_law_places","_law_ties"]) fun _ _ _ _ _ _ us hl=>by obtain ⟨a0,a1,a2,rfl⟩:=lenK3 hl; rfl
 have b4:=F4.binds (ps:=["_law_pen_here","_law_web_here"]) fun _ _ _ _ _ _ us hl=>by obtain ⟨a0,a1,rfl⟩:=lenK2 hl; rfl
 have b5:=F5.binds (ps:=["thing"]) fun _ _ _ _ _ _ us hl=>by obtain ⟨a0,rfl⟩:=lenK1 hl; rfl
 have b6:=F6.binds (ps:=["thing"]) fun _ _ _ _ _ _ us hl=>by obtain ⟨a0,rfl⟩:=lenK1 hl; rfl
 have b7:=F7.binds (ps:=["web","end"]) fun _ _ _ _ _ _ us hl=>by obtain ⟨a0,a1,rfl⟩:=lenK2 hl; rfl
 have b8:=F8.binds (ps:=["web","place"]) fun _ _ _ _ _ _ us hl=>by obtain ⟨a0,a1,rfl⟩:=lenK2 hl; rfl
 have b9:=F9.binds (ps:=["web","tie"]) fun _ _ _ _ _ _ us hl=>by obtain ⟨a0,a1,rfl⟩:=lenK2 hl; rfl
 have b10:=F10.binds (ps:=["ends"]) fun _ _ _ _ _ _ us hl=>by obtain ⟨a0,rfl⟩:=lenK1 hl; rfl
 have b11:=F11.binds (ps:=["web","order","corner"]) fun _ _ _ _ _ _ us hl=>by obtain ⟨a0,a1,a2,rfl⟩:=lenK3 hl; rfl
 have b12:=F12.binds (ps:=["row","corner","end"]) fun _ _ _ _ _ _ us hl=>by obtain ⟨a0,a1,a2,rfl⟩:=lenK3 hl; rfl
 have b13:=F13.binds (ps:=["web","order","one","other"]) fun _ _ _ _ _ _ us hl=>by obtain ⟨a0,a1,a2,a3,rfl⟩:=lenK4 hl; rfl
 have b14:=F14.binds (ps:=["rows","tie"]) fun _ _ _ _ _ _ us hl=>by obtain ⟨a0,a1,rfl⟩:=lenK2 hl; rfl
 have b15:=F15.binds (ps:=["web","order","tie"]) fun _ _ _ _ _ _ us hl=>by obtain ⟨a0,a1,a2,rfl⟩:=lenK3 hl; rfl
 have b16:=F16.binds (ps:=["row","end"]) fun _ _ _ _ _ _ us hl=>by obtain ⟨a0,a1,rfl⟩:=lenK2 hl; rfl
 have b17:=F17.binds (ps:=["place","low","high"]) fun _ _ _ _ _ _ us hl=>by obtain ⟨a0,a1,a2,rfl⟩:=lenK3 hl; rfl
 have b18:=F18.binds (ps:=["web","order","tie"]) fun _ _ _ _ _ _ us hl=>by obtain ⟨a0,a1,a2,rfl⟩:=lenK3 hl; rfl
 have b19:=F19.binds (ps:=["_law_found"]) fun _ _ _ _ _ _ us hl=>by obtain ⟨a0,rfl⟩:=lenK1 hl; rfl
 have b20:=F20.binds (ps:=["_law_row"]) fun _ _ _ _ _ _ us hl=>by obtain ⟨a0,rfl⟩:=lenK1 hl; rfl
 have b21:=F21.binds (ps:=["_law_found","_law_due"]) fun _ _ _ _ _ _ us hl=>by obtain ⟨a0,a1,rfl⟩:=lenK2 hl; rfl
 have b22:=F22.binds (ps:=["_law_pen_here","_law_web_here","_law_order_here"]) fun _ _ _ _ _ _ us hl=>by obtain ⟨a0,a1,a2,rfl⟩:=lenK3 hl; rfl
 have b23:=F23.binds (ps:=["_law_web_here","_law_order_here","_law_end","_law_out"]) fun _ _ _ _ _ _ us hl=>by obtain ⟨a0,a1,a2,a3,rfl⟩:=lenK4 hl; rfl
 have b24:=F24.binds (ps:=["_law_web_here","_law_order_here","_law_tie"]) fun _ _ _ _ _ _ us hl=>by obtain ⟨a0,a1,a2,rfl⟩:=lenK3 hl; rfl
 have b25:=F25.binds (ps:=["_law_web_here","_law_order_here","_law_tie"]) fun _ _ _ _ _ _ us hl=>by obtain ⟨a0,a1,a2,rfl⟩:=lenK3 hl; rfl
 have b26:=F26.binds (ps:=["_law_web_here","_law_order_here","_law_gone","_law_end"]) fun _ _ _ _ _ _ us hl=>by obtain ⟨a0,a1,a2,a3,rfl⟩:=lenK4 hl; rfl
 refine ⟨PySem.W.fnOf "law" "law" (defArgs s_law) (defBody s_law) (defScope s_law) .none kV27 dc27 pm27 an27 cd27 ct27,fun s v=>.of_eq rfl,fun base _ _=>?_⟩
 have C1:Callee l.prog w K mg base 1 "_law_draw" ["_law_pen_here","_law_many"] (spB K fDraw):=⟨⟨_,_,Zm9 mb  F1,b1,k1,PySem.W.mg_of X G a1⟩⟩
 have C2:Callee l.prog w K mg base 1 "_law_pen" ["_law_script"] (spN K fPen):=⟨⟨_,_,Zpi mb  F2,b2,k2,PySem.W.mg_of X G a2⟩⟩
 have C3:Callee l.prog w K mg base 2 "_law_web" ["_law_pen_here","_law_places","_law_ties"] (spB K fWeb):=⟨⟨_,_,Zou mb C1 F3,b3,k3,PySem.W.mg_of X G a3⟩⟩
 have C4:Callee l.prog w K mg base 2 "_law_order" ["_law_pen_here","_law_web_here"] (spB K fOrder):=⟨⟨_,_,Zlx mb C1 F4,b4,k4,PySem.W.mg_of X G a4⟩⟩
 have C5:Callee l.prog w K mg base 1 "is_whole" ["thing"] (spD K fIsWP):=⟨⟨_,_,Znc mb  F5,b5,k5,PySem.W.mg_of X G a5⟩⟩
 have C6:Callee l.prog w K mg base 1 "is_whole" ["thing"] (spD K fWhole):=⟨⟨_,_,Zp2 mb  F6,b6,k6,PySem.W.mg_of X G a6⟩⟩
 have C7:Callee l.prog w K mg base 1 "place_of" ["web","end"] (spD K fPlace):=⟨⟨_,_,Zll mb  F7,b7,k7,PySem.W.mg_of X G a7⟩⟩
 have C8:Callee l.prog w K mg base 2 "is_place" ["web","place"] (spD K fIsPl):=⟨⟨_,_,Zna mb C5 F8,b8,k8,PySem.W.mg_of X G a8⟩⟩
 have C9:Callee l.prog w K mg base 2 "is_tie" ["web","tie"] (spD K fIsTie):=⟨⟨_,_,Zlb mb C6 F9,b9,k9,PySem.W.mg_of X G a9⟩⟩
 have C10:Callee l.prog w K mg base 1 "least_first" ["ends"] (spD K fLeastE):=⟨⟨_,_,Zkv mb  F10,b10,k10,PySem.W.mg_of X G a10⟩⟩
 have C11:Callee l.prog w K mg base 3 "corner_place" ["web","order","corner"] (spD K fCP):=⟨⟨_,_,Zqv mb C5 C8 C7 F11,b11,k11,PySem.W.mg_of X G a11⟩⟩
 have C12:Callee l.prog w K mg base 2 "row_with" ["row","corner","end"] (spD K fRW):=⟨⟨_,_,Zqo mb C5 F12,b12,k12,PySem.W.mg_of X G a12⟩⟩
 have C13:Callee l.prog w K mg base 4 "put_in" ["web","order","one","other"] (spD K fPut):=⟨⟨_,_,Zo4 mb (PySem.W.mg_of X G y_MOST_TIES) C11 C12 F13,b13,k13,PySem.W.mg_of X G a13⟩⟩
 have C14:Callee l.prog w K mg base 2 "rows_without" ["rows","tie"] (spD K fRowsW):=⟨⟨_,_,Znb mb C10 F14,b14,k14,PySem.W.mg_of X G a14⟩⟩
 have C15:Callee l.prog w K mg base 3 "taken_out" ["web","order","tie"] (spD K fOut):=⟨⟨_,_,Zo6 mb C9 C14 F15,b15,k15,PySem.W.mg_of X G a15⟩⟩
 have C16:Callee l.prog w K mg base 1 "others_behind" ["row","end"] (spD K fOb):=⟨⟨_,_,Zqj mb  F16,b16,k16,PySem.W.mg_of X G a16⟩⟩
 have C17:Callee l.prog w K mg base 1 "place_drawn" ["place","low","high"] (spD K fPd):=⟨⟨_,_,Zqr mb  F17,b17,k17,PySem.W.mg_of X G a17⟩⟩
 have C18:Callee l.prog w K mg base 3 "drawn_in" ["web","order","tie"] (spD K fInn):=⟨⟨_,_,Zoy mb C9 C16 C17 C14 F18,b18,k18,PySem.W.mg_of X G a18⟩⟩
 have C19:Callee l.prog w K mg base 1 "_law_whole" ["_law_found"] (spD K fWhole):=⟨⟨_,_,Zld mb  F19,b19,k19,PySem.W.mg_of X G a19⟩⟩
 have C20:Callee l.prog w K mg base 1 "_law_begun" ["_law_row"] (spD K fLeastE):=⟨⟨_,_,Zl1 mb  F20,b20,k20,PySem.W.mg_of X G a20⟩⟩
 have C21:Callee l.prog w K mg base 6 "_law_same" ["_law_found","_law_due"] (spD K (fSame 5)):=⟨⟨_,_,Zl9 mb C19 F21 b21 k21 (PySem.W.mg_of X G a21) 6,b21,k21,PySem.W.mg_of X G a21⟩⟩
 have C22:Callee l.prog w K mg base 2 "_law_corner" ["_law_pen_here","_law_web_here","_law_order_here"] (spB K fCorner):=⟨⟨_,_,Zkw mb C1 F22,b22,k22,PySem.W.mg_of X G a22⟩⟩
 have C23:Callee l.prog w K mg base 1 "_law_corner_ahead" ["_law_web_here","_law_order_here","_law_end","_law_out"] (spD K fCA):=⟨⟨_,_,Zqm mb  F23,b23,k23,PySem.W.mg_of X G a23⟩⟩
 have C24:Callee l.prog w K mg base 2 "_law_as_last" ["_law_web_here","_law_order_here","_law_tie"] (spD K fAL):=⟨⟨_,_,Zqn mb C20 F24,b24,k24,PySem.W.mg_of X G a24⟩⟩
 have C25:Callee l.prog w K mg base 7 "_law_again" ["_law_web_here","_law_order_here","_law_tie"] (spD K fAg):=⟨⟨_,_,Zqs mb C15 C23 C13 C24 C21 F25,b25,k25,PySem.W.mg_of X G a25⟩⟩
 have C26:Callee l.prog w K mg base 1 "_law_without" ["_law_web_here","_law_order_here","_law_gone","_law_end"] (spD K fWo):=⟨⟨_,_,Zqu mb  F26,b26,k26,PySem.W.mg_of X G a26⟩⟩
 exact ok_law mb C2 C3 C4 C1 C22 C13 C15 C21 C25 C18 C26 F27
end Lw
open PySem PySem.W PyProof.Rows
set_option maxRecDepth 100000 in
set_option maxHeartbeats 0 in
theorem PySem.Challenge.cw_holefloor_k36_whole_there_and_back_holds : PySem.Challenge.rw_holefloor_k36_whole_there_and_back.Holds := by
 w_on; o_law; k_head; (case hw=>w_witness2)
 k_fill
 refine L2.walk_law (k:=8) (x:="_law_script") (l:=PySem.Challenge.rw_holefloor_k36_whole_there_and_back) ⟨rfl,by decide,by decide,rfl⟩ rfl rfl (fun w h Y=>PySem.W.kIn_of Y) ?F
 case F=>
  intro w mg fa h KX G hmg
  refine' Lw.all_mk KX G hmg ?a1 ?l1 ?c1 ?k1 ?a2 ?l2 ?c2 ?k2 ?a3 ?l3 ?c3 ?k3 ?a4 ?l4 ?c4 ?k4 ?a5 ?l5 ?c5 ?k5 ?a6 ?l6 ?c6 ?k6 ?a7 ?l7 ?c7 ?k7 ?a8 ?l8 ?c8 ?k8 ?a9 ?l9 ?c9 ?k9 ?a10 ?l10 ?c10 ?k10 ?a11 ?l11 ?c11 ?k11 ?a12 ?l12 ?c12 ?k12 ?a13 ?l13 ?c13 ?k13 ?a14 ?l14 ?c14 ?k14 ?a15 ?l15 ?c15 ?k15 ?a16 ?l16 ?c16 ?k16 ?a17 ?l17 ?c17 ?k17 ?a18 ?l18 ?c18 ?k18 ?a19 ?l19 ?c19 ?k19 ?a20 ?l20 ?c20 ?k20 ?a21 ?l21 ?c21 ?k21 ?a22 ?l22 ?c22 ?k22 ?a23 ?l23 ?c23 ?k23 ?a24 ?l24 ?c24 ?k24 ?a25 ?l25 ?c25 ?k25 ?a26 ?l26 ?c26 ?k26 ?a27 ?l27 ?c27 ?k27 ?y_MOST_TIES ?z0 ?z1 ?z2 ?z3 ?z4 ?z5 ?z6 ?z7 ?z8 ?z9 ?z10 ?z11 ?z12
  (case a1=>k_is)
  (case l1=>k_is)
  (case c1=>k_is)
  (case k1=>k_is)
  (case a2=>k_is)
  (case l2=>k_is)
  (case c2=>k_is)
  (case k2=>k_is)
  (case a3=>k_is)
  (case l3=>k_is)
  (case c3=>k_is)
  (case k3=>k_is)
  (case a4=>k_is)
  (case l4=>k_is)
  (case c4=>k_is)
  (case k4=>k_is)
  (case a5=>k_is)
  (case l5=>k_is)
  (case c5=>k_is)
  (case k5=>k_is)
  (case a6=>k_is)
  (case l6=>k_is)
  (case c6=>k_is)
  (case k6=>k_is)
  (case a7=>k_is)
  (case l7=>k_is)
  (case c7=>k_is)
  (case k7=>k_is)
  (case a8=>k_is)
  (case l8=>k_is)
  (case c8=>k_is)
  (case k8=>k_is)
  (case a9=>k_is)
  (case l9=>k_is)
  (case c9=>k_is)
  (case k9=>k_is)
  (case a10=>k_is)
  (case l10=>k_is)
  (case c10=>k_is)
  (case k10=>k_is)
  (case a11=>k_is)
  (case l11=>k_is)
  (case c11=>k_is)
  (case k11=>k_is)
  (case a12=>k_is)
  (case l12=>k_is)
  (case c12=>k_is)
  (case k12=>k_is)
  (case a13=>k_is)
  (case l13=>k_is)
  (case c13=>k_is)
  (case k13=>k_is)
  (case a14=>k_is)
  (case l14=>k_is)
  (case c14=>k_is)
  (case k14=>k_is)
  (case a15=>k_is)
  (case l15=>k_is)
  (case c15=>k_is)
  (case k15=>k_is)
  (case a16=>k_is)
  (case l16=>k_is)
  (case c16=>k_is)
  (case k16=>k_is)
  (case a17=>k_is)
  (case l17=>k_is)
  (case c17=>k_is)
  (case k17=>k_is)
  (case a18=>k_is)
  (case l18=>k_is)
  (case c18=>k_is)
  (case k18=>k_is)
  (case a19=>k_is)
  (case l19=>k_is)
  (case c19=>k_is)
  (case k19=>k_is)
  (case a20=>k_is)
  (case l20=>k_is)
  (case c20=>k_is)
  (case k20=>k_is)
  (case a21=>k_is)
  (case l21=>k_is)
  (case c21=>k_is)
  (case k21=>k_is)
  (case a22=>k_is)
  (case l22=>k_is)
  (case c22=>k_is)
  (case k22=>k_is)
  (case a23=>k_is)
  (case l23=>k_is)
  (case c23=>k_is)
  (case k23=>k_is)
  (case a24=>k_is)
  (case l24=>k_is)
  (case c24=>k_is)
  (case k24=>k_is)
  (case a25=>k_is)
  (case l25=>k_is)
  (case c25=>k_is)
  (case k25=>k_is)
  (case a26=>k_is)
  (case l26=>k_is)
  (case c26=>k_is)
  (case k26=>k_is)
  (case a27=>k_is)
  (case l27=>k_is)
  (case c27=>k_is)
  (case k27=>k_is)
  (case y_MOST_TIES=>k_is)
  (case z0=>k_is)
  (case z1=>k_is)
  (case z2=>k_is)
  (case z3=>k_is)
  (case z4=>k_is)
  (case z5=>k_is)
  (case z6=>k_is)
  (case z7=>k_is)
  (case z8=>k_is)
  (case z9=>k_is)
  (case z10=>k_is)
  (case z11=>k_is)
  (case z12=>k_is)

