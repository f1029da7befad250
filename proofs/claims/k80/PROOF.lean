import PyProof.Rows.All
import Wide.All
import OpenK.AllK
import Wide.FinOn
import Lean
import PyProof.EqAt
import PyProof.EqKinds
import PyProof.TupleCall
import KE.KSortTup
import PyProof.NeKinds
import PyProof.ExcBaseAll.ValueError
import PyProof.ExcArgsOwn
import PyProof.NsDelKeeps
import PyProof.RulesAs
import PyProof.FString
import PyProof.AttrMissSeq
import PyProof.WalksS
import KE.KDictList
import KE.KDictSum
import PyProof.MinMaxWalk
import KE.KMinKey
import PyProof.Rows.CallKwBuiltin
import PySem.Challenge.RW_holefloor_k80_floors_of_several_parts
open List renaming getElem?_eq_getElem→Waa, length_map→Wab, getD_eq_getElem?_getD→Wad, replicate→Wae, getElem?_map→Waf, getElem?_eq_some_iff→Wag, size_toArray→Wah, getElem?_set_self→Wak, getElem?_set_ne→Wal, length_cons→Wam, mem_cons→Wan, length_append→Wap, getElem?_append_right→Waq, mem_singleton→Was, mem_cons_of_mem→Wau, mem_append_right→Wax, getElem?_append_left→Way, range→Waz, map_map→Wa1, mem_of_getElem?→Wa2, length→Wa3, length_take→Wa4, map_append→Wa6, length_replicate→Wa7, mem_cons_self→Wa8, getElem_mem→Wba, append_nil→Wbc, tail→Wbe, map_cons→Wbf, getElem?_replicate→Wbg, map→Wbh, mem_append→Wbj, lookup_cons→Wbk, eq_nil_of_length_eq_zero→Wbl, mem_map→Wbm, filter_cons→Wbn, mem_iff_getElem?→Wbo, mem_filter→Wbp, filter_append→Wbr, take_length→Wbt, all_eq_true→Wbu, length_range→Wbv, ext_getElem?→Wbw, zip_cons_cons→Wby, length_singleton→Wbz, mem_append_left→Wb0, nodup_cons→Wb1, length_nil→Wb2, getElem?_set→Wb3, filter_eq_self→Wb5, mem_range→Wca, getElem?_zip_eq_some→Wcb, length_drop→Wcc, set_eq_of_length_le→Wcd, length_set→Wce, getElem?_drop→Wcf, find?_cons→Wcg, take_add_one→Wck, append_assoc→Wcl, not_mem_nil→Wcn, getElem_toArray→Wco, any_cons→Wcp, map_congr_left→Wcq, nodup_append→Wcu, all_cons→Wcw, take_of_length_le→Wcx, length_pos_of_mem→Wcy, length_filter_le→Wcz, getElem?_toArray→Wc0, getElem?_eq_none→Wc1, replicate_succ→Wc3, getElem?_range→Wc4, filterMap_cons→Wc5, pairwise_cons→Wc7, getElem?_take→Wc8, getElem_inj→Wdc
open PySem.Heap renaming get?_push_of_some→Wac, lt_size→Wai, get?_push_size→Wao, get?_update_other→Wav, get?_update_self→Wbb, size_push→Wcs
open Nat renaming le_refl→Waj, ne_of_lt→War, lt_of_lt_of_le→Wa0, beq→Wa9, le_trans→Wbi, lt_succ_of_lt→Wbx, zero_le→Wb8, ne_of_gt→Wb9, lt_of_le_of_lt→Wch, lt_irrefl→Wci, le_of_lt→Wcm, le_succ→Wcr, mod_lt→Wda, lt_trichotomy→Wdb
open Bool renaming false_ne_true→Wat, and_eq_true→Wbd, false_eq_true→Wbs, eq_iff_iff→Wb4, false_and→Wct, eq_false_iff→Wcv, beq_eq_decide_eq→Wc2, true_and→Wc9
open Int renaming toNat_natCast→Waw, zero_add→Wbq, toNat_of_nonneg→Wb6, emod_lt_of_pos→Wb7, emod_nonneg→Wcj, le_refl→Wc6
open Option renaming some→Wa5
set_option Elab.async false
set_option linter.all false
set_option maxRecDepth 100000
namespace L2
open PySem PySem.Spec PyProof.Rows
abbrev Key:=Sum Int Str
def keyIs:Key->Value->Bool
 |.inl k,v=>Value.isInt k v
 |.inr x,v=>Value.isStrOf x v
def keyH (w:World):Key->Int
 |.inl k=>hashInt k
 |.inr x=>hashStr w x
theorem Za9:∀{k:Key}{v:Value},keyIs k v=true->(∃i t,k=Sum.inl i/\v=Value.int i t)\/(∃x t,k=Sum.inr x/\v=Value.str x t)
 |.inl i,v,h=>by
  obtain⟨t,e⟩:=Value.isInt_shape (k:=i) (v:=v) h;exact .inl ⟨i,t,rfl,e⟩
 |.inr x,v,h=>by
  obtain⟨t,e⟩:=Value.isStrOf_shape (x:=x) (v:=v) h;exact .inr ⟨x,t,rfl,e⟩
theorem Zjy (i:Int) (t:Tok):keyIs (.inl i) (.int i t)=true:=by simp[keyIs,Value.isInt]
theorem Zli (x:Str) (t:Tok):keyIs (.inr x) (.str x t)=true:=by simp[keyIs,Value.isStrOf]
theorem Zq1 (a b:Int):decide ((Sum.inl a:Key)=Sum.inl b)=(a == b):=by
 by_cases e:a=b
 ·subst e;simp
 ·have h:¬ (Sum.inl a:Key)=Sum.inl b:=λq=>e (Sum.inl.inj q)
  rw[decide_eq_false h];exact(beq_eq_false_iff_ne.mpr e).symm
theorem Zrq (a b:Str):decide ((Sum.inr a:Key)=Sum.inr b)=decide (a=b):=by
 by_cases e:a=b
 ·subst e;simp
 ·have h:¬ (Sum.inr a:Key)=Sum.inr b:=λq=>e (Sum.inr.inj q)
  rw[decide_eq_false h,decide_eq_false e]
theorem Zpo (a:Int) (b:Str):decide ((Sum.inl a:Key)=Sum.inr b)=false:=decide_eq_false (λq=>nomatch q)
theorem Zqv (a:Str) (b:Int):decide ((Sum.inr a:Key)=Sum.inl b)=false:=decide_eq_false (λq=>nomatch q)
def mixKind (prog:Program) (w:World):PySem.KeyKind prog w Key where
 is:=keyIs
 hash:=keyH w
 inj:=λv a b ha hb=>by
  rcases Za9 ha with ⟨i,t,rfl,rfl⟩|⟨x,t,rfl,rfl⟩
  ·rcases Za9 hb with ⟨j,u,rfl,e⟩|⟨y,u,rfl,e⟩
   ·injection e with e1 _;rw[e1]
   ·exact nomatch e
  ·rcases Za9 hb with ⟨j,u,rfl,e⟩|⟨y,u,rfl,e⟩
   ·exact nomatch e
   ·injection e with e1 _;rw[e1]
 byValue:=λk v h=>by
  rcases Za9 h with ⟨i,t,rfl,rfl⟩|⟨x,t,rfl,rfl⟩ <;> rfl
 pyHash:=λhv h=>by
  rcases Za9 hv with ⟨i,t,rfl,rfl⟩|⟨x,t,rfl,rfl⟩
  ·exact wpAny_pyHash_int h
  ·exact wpAny_pyHash_str h
 eqBool:=λhu hv h=>by
  rcases Za9 hu with ⟨i,t,rfl,rfl⟩|⟨x,t,rfl,rfl⟩
  ·rcases Za9 hv with ⟨j,u,rfl,rfl⟩|⟨y,u,rfl,rfl⟩
   ·rw[Zq1]at h;exact wpAny_eqBool_int h
   ·rw[Zpo]at h;exact SeqAt.EqAt.int_str i t y u _ _ _ _ h
  ·rcases Za9 hv with ⟨j,u,rfl,rfl⟩|⟨y,u,rfl,rfl⟩
   ·rw[Zqv]at h;exact SeqAt.EqAt.str_int x t j u _ _ _ _ h
   ·rw[Zrq]at h;exact wpAny_eqBool_str h
 «strs»:=λk x t v h=>by
  rcases Za9 h with ⟨i,u,rfl,e⟩|⟨y,u,rfl,e⟩
  ·exact nomatch e
  ·injection e with e1 _
   subst e1;cases v <;> rfl
theorem Zhg (prog:Program) (w:World) (i:Int) (t:Tok):(mixKind prog w).is (.inl i) (.int i t)=true:=Zjy i t
theorem Zhn (prog:Program) (w:World) (x:Str) (t:Tok):(mixKind prog w).is (.inr x) (.str x t)=true:=Zli x t
end L2
namespace L2
open PySem PySem.Spec PyProof.Rows
inductive V where
 |non|bl (b:Bool)|int (i:Int)|str (x:Str)|byt (b:Array UInt8)|flt (b:UInt64)|ref (a:Addr)|ty (n:String)
 deriving DecidableEq
def RelV:V->Value->Prop
 |.non,u=>u=Value.none
 |.bl b,u=>u=Value.bool b
 |.int i,u=>∃t,u=Value.int i t
 |.str x,u=>∃t,u=Value.str x t
 |.byt b,u=>∃t,u=Value.bytes b t
 |.flt b,u=>∃t,u=Value.float b t
 |.ref a,u=>u=Value.ref a
 |.ty n,u=>u=Value.type n
abbrev Vals:List V->List Value->Prop:=Paired RelV
theorem Vals.length {xs:List V}{us:List Value}(r:Vals xs us):xs.length=us.length:=Paired.length r
theorem Vals.get:∀{xs:List V}{us:List Value}{i:Nat}{x:V},Vals xs us->xs[i]?=some x->∃u,us[i]?=some u/\RelV x u
 |_,_,_,_,.nil,e=>by simp at e
 |_,_,0,_,.cons r _,e=>by simp at e;subst e;exact⟨_,rfl,r⟩
 |_,_,i+1,x,.cons _ t,e=>by
  obtain⟨u,h1,h2⟩:=Vals.get (i:=i) (x:=x) t (by simpa using e);exact⟨u,by simpa using h1,h2⟩
theorem Vals.set {x:V}{u:Value}(r:RelV x u):∀{xs:List V}{us:List Value}(i:Nat),Vals xs us->Vals (xs.set i x) (us.set i u)
 |_,_,_,.nil=>.nil
 |_,_,0,.cons _ t=>.cons r t
 |_,_,i+1,.cons q t=>.cons q (Vals.set r i t)
theorem Vals.append:∀{xs ys:List V}{us ws:List Value},Vals xs us->Vals ys ws->Vals (xs++ys) (us++ws)
 |_,_,_,_,.nil,s=>s
 |_,_,_,_,.cons r t,s=>.cons r (Vals.append t s)
theorem Vals.take:∀{xs:List V}{us:List Value}(n:Nat),Vals xs us->Vals (xs.take n) (us.take n)
 |_,_,0,_=>.nil
 |_,_,_+1,.nil=>.nil
 |_,_,n+1,.cons r t=>.cons r (Vals.take n t)
theorem Vals.drop:∀{xs:List V}{us:List Value}(n:Nat),Vals xs us->Vals (xs.drop n) (us.drop n)
 |_,_,0,r=>r
 |_,_,_+1,.nil=>.nil
 |_,_,n+1,.cons _ t=>Vals.drop n t
def RelO:Option V->Option Value->Prop
 |some v,some u=>RelV v u
 |none,none=>True
 |_,_=>False
def KV {κ:Type}:List (κ × V)->List (κ × Value)->Prop:=Paired λ(p:κ × V) (q:κ × Value)=>p.1=q.1/\RelV p.2 q.2
def kV:Key->V
 |.inl i=>.int i
 |.inr x=>.str x
inductive HO where
 /-- a list -/
 |lst (xs:List V)
 /-- a tuple (never changes) -/
 |tup (xs:List V)
 /-- a dict whose keys are ints and texts;one whose keys are tuples of ints and texts (the empty one is both) -/
 |dK (kvs:List (Key × V))|dT (kvs:List (List Key × V))
 /-- a set of ints: its members,its size -/
 |set (S:Int->Bool) (n:Nat)
 /-- an instance of the class at C,its dict at dx,its attributes -/
 |ins (C dx:Addr) (fs:List (Str × V))
 /-- the dict of the instance at x -/
 |own (x:Addr)
 /-- the dict of an exception -/
 |xd (fs:List (Str × V))
 /-- a bound method,f of x -/
 |met (f x:Addr)
 /-- a range object lo,lo+1,.. below hi -/
 |rng (lo hi:Int)
 /-- a thing that is known to the object (the script;a dict while a loop walks it): read,never written while it is so -/
 |frz (o:Obj) (u:HO)
 /-- a code object's table -/
 |tbl (ps:Array Value)
 /-- any other thing,by what is true of its one object (a def of one's own: SetO a S n:=HO.ext λh=>..) -/
 |ext (φ:Heap->Prop)
abbrev Hp:=Addr->Option HO
def upd (H:Hp) (a:Addr) (o:HO):Hp:=λb=>if b=a then some o else H b
theorem Zao {H:Hp}{a:Addr}{o:HO}:upd H a o a=some o:=by unfold upd;rw[if_pos rfl]
theorem Zau {H:Hp}{a b:Addr}{o:HO}(h:b≠a):upd H a o b=H b:=by unfold upd;rw[if_neg h]
theorem Zoz {H:Hp}{a:Addr}{o u:HO}:upd (upd H a o) a u=upd H a u:=by
 funext b;unfold upd;split <;> rfl
theorem Zrz {H:Hp}{a b:Addr}{o u:HO}(h:H a=some o) (h':H b=some u) (d:o≠u):a≠b:=by
 intro e;subst e;rw[h]at h';exact d (Wa5.inj h')
theorem Zbc {H:Hp}{a b:Addr}{o:HO}(h:H a=some o) (h':H b=none):a≠b:=by
 intro e;subst e;rw[h]at h';cases h'
def IsTupN (h:Heap) (a:Addr) (its:Array Value):Prop:=∃o,h.get? a=some o/\(o.cls=.type "tuple" /\ ∃n,o.data=.seq its n)/\o.dict=none
theorem IsTupN.tup {h:Heap}{a:Addr}{its:Array Value}(x:IsTupN h a its):IsTup h a its:=let ⟨o,e,c,_⟩:=x; ⟨o,e,c⟩
theorem IsTupN.new (h:Heap) (items:Array Value):IsTupN (h.push { cls:=.type "tuple",data:=.seq items }) h.objs.size items:=⟨_,Wao _ rfl,⟨rfl,_,rfl⟩,rfl⟩
section
variable (P:Program) (w:World)
def ObjOk (H:Hp) (h:Heap) (a:Addr):HO->Prop
 |.lst xs=>xs.length<=sizeLine/\∃(its:List Value) (n:Nat),Vals xs its/\h.get? a=some { cls:=.type "list",data:=.seq its.toArray n }
 |.tup xs=>xs.length<=sizeLine/\∃its:List Value,Vals xs its/\IsTupN h a its.toArray
 |.dK kvs=>kvs.length<=sizeLine/\(a == sysModules)=false/\∃vs,KV kvs vs/\h.DictOf (mixKind P w) a vs
 |.dT kvs=>kvs.length<=sizeLine/\(a == sysModules)=false/\∃xs:List (List Key × Addr × Value),
   Paired (λ(p:List Key × V) (q:List Key × Addr × Value)=>p.1=q.1/\H q.2.1=some (.tup (p.1.map kV))/\RelV p.2 q.2.2) kvs xs ∧
   ∃o es ep,h.get? a=some o/\o.ExactDict/\o.data=.dict es ep/\es.toList=xs.map (entryOfKey (tupleKind (mixKind P w)))/\(xs.map (·.1)).Nodup
 |.set S n=>h.SetOf (intKind P w) a S n
 |.ins C dx fs=>H dx=some (.own a)/\fs.length<=1000/\dx≠a/\h.get? a=some (PySem.W.instObj C dx) ∧
   ∃mA,h.Ns1 dx mA/\(∀f,RelO (fs.lookup f) (mA f))/\PySem.Within mA (fs.map (·.1))
 |.own _=>∃o,h.get? a=some o
 |.xd fs=>∃mA,h.Ns1 a mA/\∀f,RelO (fs.lookup f) (mA f)
 |.rng lo hi=>∃t u v,h.get? a=some { cls:=.type "range",data:=.fields #[.int lo t,.int hi u,.int 1 v] }
 |.frz o u=>h.get? a=some o/\ObjOk H h a u
 |.tbl ps=>h.get? a=some { cls:=.none,data:=.fields ps }
 |.met f x=>h.get? a=some (PySem.W.methodObj (.ref f) (.ref x))
 |.ext φ=>φ h/\(∃o,h.get? a=some o)/\∀h1 h2:Heap,φ h1->(∀o,h1.get? a=some o->h2.get? a=some o) -> φ h2
def HOk (H:Hp) (h:Heap):Prop:=∀a o,H a=some o->ObjOk P w H h a o
end
section
variable {P:Program}{w:World}{H H':Hp}{h h':Heap}{a:Addr}{o:HO}
theorem ObjOk.lt (x:ObjOk P w H h a o):a<h.objs.size:=by
 cases o with
 |lst xs=>obtain⟨_,_,_,_,e⟩:=x;exact Wai e
 |tup xs=>obtain⟨_,_,_,p⟩:=x;exact p.tup.lt
 |dK kvs=>obtain⟨_,_,_,_,o,_,_,e,_⟩:=x;exact Wai e
 |dT kvs=>obtain⟨_,_,_,_,o,_,_,e,_⟩:=x;exact Wai e
 |set S n=>obtain⟨o,_,_,_,e,_⟩:=x;exact Wai e
 |ins C dx fs=>obtain⟨_,_,_,e,_⟩:=x;exact Wai e
 |own y=>obtain⟨_,e⟩:=x;exact Wai e
 |xd fs=>obtain⟨_,⟨_,_,_,e,_⟩,_⟩:=x;exact Wai e
 |rng lo hi=>obtain⟨_,_,_,e⟩:=x;exact Wai e
 |frz ob u=>obtain⟨e,_⟩:=x;exact Wai e
 |tbl ps=>exact Wai (show h.get? a=some _ from x)
 |met f y=>exact Wai (show h.get? a=some _ from x)
 |ext φ=>obtain⟨_,⟨_,e⟩,_⟩:=x;exact Wai e
theorem Paired.mapP {α β:Type}{F G:α -> β -> Prop}:∀{l₁:List α}{l₂:List β},Paired F l₁ l₂ -> (∀a b,F a b->G a b)->Paired G l₁ l₂
 |_,_,.nil,_=>.nil
 |_,_,.cons r t,f=>.cons (f _ _ r) (Paired.mapP t f)
theorem ObjOk.stay (x:ObjOk P w H h a o) (k:∀b u,(b=a\/H b=some (.own a))->h.get? b=some u->h'.get? b=some u)
  (ho:∀b,H b=some (.own a)->H' b=some (.own a)) (ht:∀b xs,H b=some (.tup xs)->H' b=some (.tup xs)):ObjOk P w H' h' a o:=by
 induction o with
 |lst xs=>obtain⟨z,its,n,r,e⟩:=x;exact⟨z,its,n,r,k _ _ (.inl rfl) e⟩
 |tup xs=>obtain⟨z,its,r,ob,e,c⟩:=x;exact⟨z,its,r,ob,k _ _ (.inl rfl) e,c⟩
 |dK kvs=>obtain⟨z,y,vs,r,ob,es,ep,e,c⟩:=x;exact⟨z,y,vs,r,ob,es,ep,k _ _ (.inl rfl) e,c⟩
 |dT kvs=>
  obtain⟨z,y,xs,r,ob,es,ep,e,c⟩:=x;exact⟨z,y,xs,Paired.mapP r λp q z=>⟨z.1,ht _ _ z.2.1,z.2.2⟩,ob,es,ep,k _ _ (.inl rfl) e,c⟩
 |set S n=>obtain⟨ob,es,ep,t,e,c⟩:=x;exact⟨ob,es,ep,t,k _ _ (.inl rfl) e,c⟩
 |ins C dx fs=>
  obtain⟨d,z,ne,e,mA,⟨od,es,ep,e2,c⟩,r⟩:=x;exact⟨ho _ d,z,ne,k _ _ (.inl rfl) e,mA,⟨od,es,ep,k _ _ (.inr d) e2,c⟩,r⟩
 |own y=>obtain⟨ob,e⟩:=x;exact⟨ob,k _ _ (.inl rfl) e⟩
 |xd fs=>obtain⟨mA,⟨od,es,ep,e,c⟩,r⟩:=x;exact⟨mA,⟨od,es,ep,k _ _ (.inl rfl) e,c⟩,r⟩
 |rng lo hi=>obtain⟨t,u,v,e⟩:=x;exact⟨t,u,v,k _ _ (.inl rfl) e⟩
 |frz ob u ih=>obtain⟨e,q⟩:=x;exact⟨k _ _ (.inl rfl) e,ih q⟩
 |tbl ps=>
  have e:h.get? a=some { cls:=.none,data:=.fields ps }:=x;show h'.get? a=some { cls:=.none,data:=.fields ps };exact k a _ (.inl rfl) e
 |met f y=>
  have e:h.get? a=some (PySem.W.methodObj (.ref f) (.ref y)):=x;show h'.get? a=some (PySem.W.methodObj (.ref f) (.ref y));exact k a _ (.inl rfl) e
 |ext φ=>obtain⟨p,⟨o,e⟩,st⟩:=x;exact⟨st _ _ p λo q=>k _ _ (.inl rfl) q,⟨o,k _ _ (.inl rfl) e⟩,st⟩
theorem HOk.lt (x:HOk P w H h) (e:H a=some o):a<h.objs.size:=(x a o e).lt
theorem HOk.fresh (x:HOk P w H h) (e:h.objs.size<=a):H a=none:=by
 cases q:H a with
 |none=>rfl
 |some u=>exact absurd (Wa0 (x.lt q) e) (Wci _)
theorem HOk.kept (x:HOk P w H h) (k:∀b u,h.get? b=some u->h'.get? b=some u):HOk P w H h':=λa o e=>
 (x a o e).stay (λb u _ q=>k b u q) (λ_ q=>q) λ_ _ q=>q
theorem HOk.laid (x:HOk P w H h) (k:∀b u,h.get? b=some u->h'.get? b=some u) (hp:h.objs.size<=a) (new:ObjOk P w (upd H a o) h' a o):HOk P w (upd H a o) h':=λb u e=>by
 have hn:=x.fresh hp;by_cases hb:b=a
 ·subst hb;rw[Zao]at e;cases e;exact new
 ·rw[Zau hb]at e
  exact(x b u e).stay (λc v _ q=>k c v q) (λc q=>by rw[Zau (Zbc q hn)];exact q) λc xs q=>by rw[Zau (Zbc q hn)];exact q
end
def Rd (H:Hp) (a:Addr) (u:HO):Prop:=H a=some u\/∃o,H a=some (.frz o u)
theorem Rd.ok {P:Program}{w:World}{H:Hp}{h:Heap}{a:Addr}{u:HO}(r:Rd H a u) (x:HOk P w H h):ObjOk P w H h a u:=by
 rcases r with r|⟨o,r⟩
 ·exact x a u r
 ·obtain⟨_,q⟩:=x a _ r
  exact q
def Mut:Option HO->Prop
 |some (.lst _)=>True
 |some (.dK _)=>True
 |some (.dT _)=>True
 |some (.set _ _)=>True
 |some (.ins _ _ _)=>True
 |some (.ext _)=>True
 |_=>False
section
variable {P:Program}{w:World}{H:Hp}{h h':Heap}{x e:Addr}{o':HO}
theorem HOk.write (ok:HOk P w H h) (mu:Mut (H x)) (he:e=x\/H e=some (.own x)) (k:∀b u,b≠e->h.get? b=some u->h'.get? b=some u) (heo:∃u,h'.get? e=some u)
  (new:ObjOk P w (upd H x o') h' x o'):HOk P w (upd H x o') h':=λb u q=>by
 have nown:∀c y,H c=some (.own y)->c≠x:=λc y r z=>by subst z;rw[r]at mu;exact mu
 have ntup:∀c xs,H c=some (.tup xs)->c≠x:=λc xs r z=>by subst z;rw[r]at mu;exact mu
 by_cases hb:b=x
 ·subst hb;rw[Zao]at q;cases q;exact new
 ·rw[Zau hb]at q
  by_cases hbe:b=e
  ·have q':H b=some (.own x):=by
    rcases he with z|z
    ·exact absurd (hbe.trans z) hb
    ·rw[hbe];exact z
   rw[q]at q';cases q';obtain⟨v,hv⟩:=heo;exact⟨v,by rw[hbe];exact hv⟩
  ·refine(ok b u q).stay (λc v hc r=>k c v ?_ r) (λc r=>by rw[Zau (nown c b r)];exact r) λc xs r=>by rw[Zau (ntup c xs r)];exact r
   rcases hc with rfl|hc
   ·exact hbe
   ·rintro rfl
    rcases he with z|z
    ·exact nown c b hc z
    ·rw[hc]at z;cases z;exact hb rfl
end
structure Un (fs ex:List Addr) (H H':Hp) (h h':Heap):Prop where
 keep:∀b o,h.get? b=some o->H b=none->b ∉ fs->b ∉ ex->h'.get? b=some o
 slot:∀b o,h.get? b=some o->H b=none->b∈fs->b ∉ ex->∃sl,h'.get? b=some { o with slots:=sl }
 free:∀b o,h.get? b=some o->H b=none->b ∉ ex->H' b=none
 there:∀b o,h.get? b=some o->b ∉ ex->∃o',h'.get? b=some o'
 tups:∀b xs,H b=some (.tup xs)->H' b=some (.tup xs)
 frzs:∀b o u,H b=some (.frz o u)->H' b=some (.frz o u)
 tbls:∀b ps,H b=some (.tbl ps)->∃more,H' b=some (.tbl (ps++more))
section
variable {fs fs' ex ex':List Addr}{H H1 H2:Hp}{h h1 h2 h':Heap}{a x e:Addr}{o:HO}
theorem Un.any (u:Un fs ex H H1 h h1) {b:Addr}{ob:Obj}(q:h.get? b=some ob) (n:H b=none) (hx:b ∉ ex):∃sl,h1.get? b=some { ob with slots:=sl }:=by
 by_cases hb:b∈fs
 ·exact u.slot b ob q n hb hx
 ·exact⟨ob.slots,u.keep b ob q n hb hx⟩
theorem Un.kept (k:∀b u,h.get? b=some u->h'.get? b=some u):Un fs ex H H h h':=
 ⟨λb ob q _ _ _=>k b ob q,λb ob q _ _ _=>⟨ob.slots,k b ob q⟩,λ_ _ _ n _=>n,λb ob q _=>⟨ob,k b ob q⟩,λ_ _ q=>q,λ_ _ _ q=>q,λ_ ps q=>⟨#[],by rw[q];simp⟩⟩
theorem Un.refl:Un fs ex H H h h:=Un.kept λ_ _ q=>q
theorem Un.laid (k:∀b u,h.get? b=some u->h'.get? b=some u) (hp:h.objs.size<=a) (hn:H a=none):Un fs ex H (upd H a o) h h' where
 keep:=λb u q _ _ _=>k b u q
 slot:=λb u q _ _ _=>⟨u.slots,k b u q⟩
 free:=λb u q n _=>by rw[Zau (War (Wa0 (Wai q) hp))];exact n
 there:=λb u q _=>⟨u,k b u q⟩
 tups:=λb xs q=>by rw[Zau (Zbc q hn)];exact q
 frzs:=λb u xs q=>by rw[Zau (Zbc q hn)];exact q
 tbls:=λb ps q=>⟨#[],by rw[Zau (Zbc q hn),q];simp⟩
theorem Un.write (mu:Mut (H x)) (he:e=x\/H e=some (.own x)) (k:∀b u,b≠e->h.get? b=some u->h'.get? b=some u) (heo:∃u,h'.get? e=some u):Un fs ex H (upd H x o) h h':=by
 have hx:∀b,H b=none->b≠x:=λb n z=>by subst z;rw[n]at mu;exact mu
 have hb:∀b,H b=none->b≠e:=λb n z=>by
  subst z;rcases he with r|r
  ·exact hx b n r
  ·rw[n]at r;cases r
 have hm:∀b u,H b=some u->¬ Mut (some u)->b≠x:=λb u q nm z=>by subst z;rw[q]at mu;exact nm mu
 refine⟨λb u q n _ _=>k b u (hb b n) q,λb u q n _ _=>⟨u.slots,k b u (hb b n) q⟩,λb u q n _=>by rw[Zau (hx b n)];exact n,λb u q _=>?_,
  λb xs q=>by rw[Zau (hm b _ q λz=>z)];exact q,λb u xs q=>by rw[Zau (hm b _ q λz=>z)];exact q,λb ps q=>⟨#[],by rw[Zau (hm b _ q λz=>z),q];simp⟩⟩
 by_cases hbe:b=e
 ·subst hbe;exact heo
 ·exact⟨u,k b u hbe q⟩
end
def trk (h:Heap) (H:Hp):List Addr:=(Waz h.objs.size).filter λa=>(H a).isSome
def hidT (h:Heap) (H:Hp):Heap:=PySem.W.hideAll h (trk h H)
theorem Zjg (h:Heap) (H:Hp):(hidT h H).objs.size=h.objs.size:=PySem.W.hideAll_size _ _
theorem Zmm {h:Heap}{H:Hp}{b:Addr}{o:Obj}(e:h.get? b=some o) (n:H b=none):(hidT h H).get? b=some o:=
 PySem.W.hideAll_get _ e λhm=>by
  have q:(H b).isSome=true:=(Wbp.mp hm).2;rw[n]at q;simp at q
theorem Zo3 {h:Heap}{H:Hp}{b:Addr}{o:Obj}(e:(hidT h H).get? b=some o):h.get? b=some o/\H b=none:=by
 have e':h.get? b=some o:=PySem.W.of_hideAll (trk h H) e;refine⟨e',?_⟩;cases q:H b with
 |none=>rfl
 |some x=>
  have hm:b∈trk h H:=Wbp.mpr ⟨Wca.mpr (Wai e'),by simp[q]⟩;have z:(hidT h H).get? b=none:=PySem.W.hideAll_none (trk h H) hm;rw[z]at e;cases e
def allNews (g h:Heap) (L:Addr):List (Addr × Obj):=(Waz h.objs.size).filterMap λa=>if a=L\/(g.get? a).isSome=true then none else (h.get? a).map λo=>(a,o)
def rest (g h:Heap) (L d:Addr):List (Addr × Obj):=(allNews g h L).filter λp=>decide (p.1≠d)
end L2
namespace L2
open PySem PySem.Spec PyProof.Rows
structure Mod (K:W.Frag) (mg:Str->Option Value) (base:Heap):Prop where
 kin:K.In base
 glob:base.Ns mainGlobals mg
 blt:∃mb,base.Ns builtinsNs mb/\∀x:Str,x ≠ "__name__" -> mb x=bootBuiltins x
 nolimit:base.NoLimit
structure Cx where
 prog:Program
 w:World
 K:W.Frag
 mg:Str->Option Value
 base:Heap
 A:Around
 N:List Str
 s₀:Shared
 H₀:Hp
 env:Env
 outer:List Env
 stack:List Env
 ex:List Addr
 fn:Str->Bool
 calm:Bool
 pn:List (Addr × Obj)
 xe:Value->Shared->Prop
def frs (l:List Env):List Addr:=l.filterMap (·.frame)
abbrev Cx.fs (X:Cx):List Addr:=frs X.outer
def Vis (sc:Scope) (x:Str):Prop:=sc.names.lookup x=some .local\/sc.names.lookup x=some .cell\/sc.names.lookup x=some .free
def Loc (sc:Scope) (x:Str):Prop:=sc.names.lookup x=some .local\/sc.names.lookup x=some .cell
def Look (env:Env) (h:Heap) (m:Str->Option Value) (x:Str) (u:Value):Prop:=
 (env.kindOf x=some .local/\m x=some u)\/((env.kindOf x=some .cell\/env.kindOf x=some .free)/\∃c,env.cells.lookup x=some c/\h.IsCell c (some u))
structure Cx.Ok (X:Cx):Prop where
 mod:Mod X.K X.mg X.base
 kind:X.env.scope.kind=.function
 glob:X.env.globals=mainGlobals
 blt:X.env.builtins=builtinsNs
 above:X.s₀.heap.objs.size<=X.env.locals
 inj:∀x y c,X.env.cells.lookup x=some c->X.env.cells.lookup y=some c->x=y
 has:∀x,(X.env.kindOf x=some .cell\/X.env.kindOf x=some .free)->∃c,X.env.cells.lookup x=some c
 cab:∀x c,X.fn x=true->X.env.cells.lookup x=some c->X.s₀.heap.objs.size<=c
 hd:X.calm=true->X.A.handled=none
 frames:X.A.frames=some X.stack
 stk:X.stack=X.outer\/(X.stack=X.env::X.outer/\X.env.frame=some X.env.locals)
 exf:∀b∈X.ex,b≠X.env.locals/\∀x c,X.env.cells.lookup x=some c->c≠b
 bs:∀b o,X.base.get? b=some o->X.s₀.heap.get? b=some o/\X.H₀ b=none
 bsz:X.base.objs.size<=X.s₀.heap.objs.size
 noex:∀b o,X.base.get? b=some o->b ∉ X.ex
 exfs:∀b∈X.ex,b ∉ X.fs
 funs:X.s₀.heap.FunFrames X.base X.outer
 frf:∀b∈X.fs,X.H₀ b=none
structure Inv (X:Cx) (pins:List (Addr × Obj)) (σ:List (Option V)) (H:Hp) (s:Shared):Prop where
 ok:X.Ok
 os:s.os=X.s₀.os
 bare:AllBare s.gens
 base:Un X.fs X.ex X.H₀ H X.s₀.heap s.heap
 loc:∃m,s.heap.Ns X.env.locals m/\∀(i:Nat) (x:Str) (v:V),X.N[i]?=some x -> σ[i]?=some (some v)->Vis X.env.scope x->∃u,RelV v u/\Look X.env s.heap m x u
 cell:∀x c,X.env.cells.lookup x=some c->∃v,s.heap.IsCell c v
 free:H X.env.locals=none
 freeC:∀x c,X.env.cells.lookup x=some c->H c=none
 pin:∀p∈X.pn++pins,s.heap.get? p.1=some p.2/\H p.1=none/\p.1≠X.env.locals/\p.1 ∉ X.fs/\∀v,p.2.data≠.cell v
 hok:HOk X.prog X.w H s.heap
 len:σ.length=X.N.length
section
variable {X:Cx}{pins:List (Addr × Obj)}{σ:List (Option V)}{H H':Hp}{s:Shared}{h':Heap}
theorem Cx.Ok.nofr (ok:X.Ok) {b:Addr}{o:Obj}(e:X.base.get? b=some o):b ∉ X.fs:=λhb=>by
 have:=(ok.funs.mem hb).1;rw[e]at this;cases this
theorem Inv.bs (I:Inv X pins σ H s):∀b o,X.base.get? b=some o->s.heap.get? b=some o/\H b=none:=λb o e=>
 ⟨I.base.keep b o (I.ok.bs b o e).1 (I.ok.bs b o e).2 (I.ok.nofr e) (I.ok.noex b o e),I.base.free b o (I.ok.bs b o e).1 (I.ok.bs b o e).2 (I.ok.noex b o e)⟩
theorem Inv.bk (I:Inv X pins σ H s):∀b o,X.base.get? b=some o->s.heap.get? b=some o:=λb o e=>(I.bs b o e).1
theorem Inv.mod (I:Inv X pins σ H s):Mod X.K X.mg X.base:=I.ok.mod
theorem Inv.kIn (I:Inv X pins σ H s):X.K.In s.heap:=I.ok.mod.kin.keeps I.bk
theorem Inv.fr (I:Inv X pins σ H s):∃m,Fr X.base X.env.locals s.heap m:=
 let ⟨m,hn,_⟩:=I.loc
 ⟨m,hn,I.bk,Wbi I.ok.bsz I.ok.above⟩
theorem Inv.lt (I:Inv X pins σ H s):X.env.locals<s.heap.objs.size:=let ⟨_,hn,_⟩:=I.loc;hn.lt
theorem Inv.sz (I:Inv X pins σ H s):X.s₀.heap.objs.size<=s.heap.objs.size:=Wbi I.ok.above (Wcm I.lt)
theorem Inv.nofs (I:Inv X pins σ H s) {a:Addr}(h:s.heap.objs.size<=a):a ∉ X.fs:=λhb=>by
 obtain⟨_,o,ho,_⟩:=I.ok.funs.mem hb;exact absurd (Wa0 (Wai ho) (Wbi I.sz h)) (Wci _)
theorem Inv.cne (I:Inv X pins σ H s):∀x c,X.env.cells.lookup x=some c->c≠X.env.locals:=λx c e z=>by
 obtain⟨v,o,ho,hd⟩:=I.cell x c e;obtain⟨m,⟨o',es,ep,ho',hd',_⟩,_⟩:=I.loc;rw[z,ho']at ho;cases ho;rw[hd']at hd;cases hd
theorem Inv.funs (I:Inv X pins σ H s):s.heap.FunFrames X.base X.outer:=by
 have all:∀(l:List Env),(∀b∈frs l,b∈X.fs)->X.s₀.heap.FunFrames X.base l->s.heap.FunFrames X.base l:=by
  intro l
  induction l with
  |nil=>intro _ _;trivial
  |cons env r ih=>
   intro hs hl;obtain⟨hk,⟨L,o,hf,hn,ho,hd⟩,hr⟩:=hl;have hL:L∈X.fs:=hs L (by unfold frs;rw[Wc5,hf];exact Wa8);obtain⟨sl,e⟩:=I.base.slot L o ho (I.ok.frf L hL) hL λz=>I.ok.exfs L z hL;exact⟨hk,⟨L,_,hf,hn,e,hd⟩,ih (λb hb=>hs b (by unfold frs;rw[Wc5,hf];exact Wau _ hb)) hr⟩
 exact all X.outer (λ_ hb=>hb) I.ok.funs
theorem Inv.stack (I:Inv X pins σ H s):s.heap.FunFrames X.base X.stack:=by
 rcases I.ok.stk with e|⟨e,hf⟩
 ·rw[e];exact I.funs
 ·rw[e]
  obtain⟨m,hn,_⟩:=I.loc;refine .cons (by rw[I.ok.kind];decide) hf hn ?_ I.funs;exact Heap.get?_none_of_le (Wbi I.ok.bsz I.ok.above)
theorem Inv.stkSub (I:Inv X pins σ H s):∀b∈frs X.stack,b∈X.env.locals::X.fs:=λb hb=>by
 rcases I.ok.stk with e|⟨e,hf⟩
 ·rw[e]at hb;exact Wau _ hb
 ·rw[e]at hb
  unfold frs at hb;rw[Wc5,hf]at hb;exact hb
theorem Inv.stkFree (I:Inv X pins σ H s):∀b∈frs X.stack,H b=none:=λb hb=>by
 rcases Wan.mp (I.stkSub b hb) with e|hb
 ·rw[e];exact I.free
 ·obtain⟨_,o,ho,_⟩:=I.ok.funs.mem hb
  exact I.base.free b o ho (I.ok.frf b hb) λz=>I.ok.exfs b z hb
theorem Inv.step {g':Array GenState}{t':Nat}{d':Drawn}{ch:List Addr}(I:Inv X pins σ H s)
  (hch:∀b∈ch,(b∈X.ex\/X.s₀.heap.objs.size<=b)/\b≠X.env.locals/\(∀x c,X.env.cells.lookup x=some c->c≠b)/\∀p∈X.pn++pins,p.1≠b)
  (keep:∀b o,b≠X.env.locals->b ∉ X.fs->b ∉ ch->s.heap.get? b=some o->H b=none->h'.get? b=some o)
  (slot:∀b o,b≠X.env.locals->b∈X.fs->b ∉ ch->s.heap.get? b=some o->H b=none->∃sl,h'.get? b=some { o with slots:=sl }) (free:∀b o,b ∉ ch->s.heap.get? b=some o->H b=none->H' b=none)
  (there:∀b o,b ∉ ch->s.heap.get? b=some o->∃o',h'.get? b=some o')
  (tups:∀b xs,H b=some (.tup xs)->H' b=some (.tup xs)) (frzs:∀b o u,H b=some (.frz o u)->H' b=some (.frz o u)) (tbls:∀b ps,H b=some (.tbl ps)->∃more,H' b=some (.tbl (ps++more)))
  (ns:∀m,s.heap.Ns X.env.locals m->h'.Ns X.env.locals m) (hok:HOk X.prog X.w H' h') (hg:AllBare g') :
  Inv X pins σ H' { s with heap:=h',gens:=g',drawn:=d',toks:=t' }:=by
 have neL:∀b o,X.s₀.heap.get? b=some o->b≠X.env.locals:=λb o e=>War (Wa0 (Wai e) I.ok.above);have neC:∀b o,X.s₀.heap.get? b=some o->b ∉ X.ex->b ∉ ch:=λb o e hx hb=>by
  rcases(hch b hb).1 with z|z
  ·exact hx z
  ·exact absurd (Wa0 (Wai e) z) (Wci _)
 have cellK:∀x c,X.env.cells.lookup x=some c->∀v,s.heap.IsCell c v->h'.IsCell c v:=λx c e v hq_=>by
  obtain⟨o,ho,hd⟩:=hq_;have nch:c ∉ ch:=λz=>(hch c z).2.2.1 x c e rfl;by_cases hc:c∈X.fs
  ·obtain⟨sl,q⟩:=slot c o (I.cne x c e) hc nch ho (I.freeC x c e)
   exact⟨_,q,hd⟩
  ·exact⟨o,keep c o (I.cne x c e) hc nch ho (I.freeC x c e),hd⟩
 refine⟨I.ok,I.os,hg,⟨λb o e n hb hx=>?_,λb o e n hb hx=>?_,λb o e n hx=>?_,λb o e hx=>?_,λb xs e=>tups b xs (I.base.tups b xs e),λb o xs e=>frzs b o xs (I.base.frzs b o xs e),λb ps e=>?_⟩,?_,λx c e=>?_,?_,λx c e=>?_,λp hp=>?_,hok,I.len⟩
 ·exact keep b o (neL b o e) hb (neC b o e hx) (I.base.keep b o e n hb hx) (I.base.free b o e n hx)
 ·obtain⟨sl,e1⟩:=I.base.slot b o e n hb hx
  obtain⟨sl',e2⟩:=slot b _ (neL b o e) hb (neC b o e hx) e1 (I.base.free b o e n hx);exact⟨sl',e2⟩
 ·obtain⟨o',e1⟩:=I.base.there b o e hx
  exact free b o' (neC b o e hx) e1 (I.base.free b o e n hx)
 ·obtain⟨o',e1⟩:=I.base.there b o e hx
  exact there b o' (neC b o e hx) e1
 ·obtain⟨m1,e1⟩:=I.base.tbls b ps e
  obtain⟨m2,e2⟩:=tbls b _ e1;exact⟨m1++m2,by rw[e2,Array.append_assoc]⟩
 ·obtain⟨m,hn,hl⟩:=I.loc
  refine⟨m,ns m hn,λi x v e1 e2 e3=>?_⟩;obtain⟨u,r,l⟩:=hl i x v e1 e2 e3;refine⟨u,r,?_⟩;rcases l with l|⟨k,c,e,z⟩
  ·exact .inl l
  ·exact .inr ⟨k,c,e,cellK x c e _ z⟩
 ·obtain⟨v,z⟩:=I.cell x c e
  exact⟨v,cellK x c e v z⟩
 ·obtain⟨m,⟨o,_,_,ho,_⟩,_⟩:=I.loc
  exact free _ o (λz=>(hch _ z).2.1 rfl) ho I.free
 ·obtain⟨v,o,ho,hd⟩:=I.cell x c e
  exact free c o (λz=>(hch c z).2.2.1 x c e rfl) ho (I.freeC x c e)
 ·obtain⟨e,n,ne,nf,d⟩:=I.pin p hp
  have nch:p.1 ∉ ch:=λz=>(hch p.1 z).2.2.2 p hp rfl;exact⟨keep p.1 p.2 ne nf nch e n,free p.1 p.2 nch e n,ne,nf,d⟩
theorem Inv.un {t':Nat}(I:Inv X pins σ H s) (u:Un X.fs [] H H' s.heap h') (hok:HOk X.prog X.w H' h'):Inv X pins σ H' { s with heap:=h',toks:=t' }:=by
 obtain⟨m,⟨o,es,ep,ho,r⟩,_⟩:=id I.loc;obtain⟨sl,hL⟩:=u.any ho I.free (by simp);exact I.step (g':=s.gens) (d':=s.drawn) (ch:=[]) (λ_ z=>nomatch z) (λb o _ hb _ e n=>u.keep b o e n hb (by simp)) (λb o _ hb _ e n=>u.slot b o e n hb (by simp)) (λb o _ e n=>u.free b o e n (by simp)) (λb o _ e=>u.there b o e (by simp)) u.tups u.frzs u.tbls (λm' hm=>by
  obtain⟨o',es',ep',ho',r'⟩:=hm;rw[ho]at ho';cases ho';exact⟨_,es',ep',hL,r'⟩) hok I.bare
theorem Inv.call {g':Array GenState}{t':Nat}{d':Drawn}{ch:List Addr}(I:Inv X pins σ H s) (u:Un (frs X.stack) ch H H' s.heap h') (hok:HOk X.prog X.w H' h') (hg:AllBare g')
  (hch:∀b∈ch,(b∈X.ex\/X.s₀.heap.objs.size<=b)/\b≠X.env.locals/\(∀x c,X.env.cells.lookup x=some c->c≠b)/\∀p∈X.pn++pins,p.1≠b) :
  Inv X pins σ H' { s with heap:=h',gens:=g',drawn:=d',toks:=t' }:=by
 obtain⟨m,⟨o,es,ep,ho,r⟩,_⟩:=id I.loc;obtain⟨sl,hL⟩:=u.any ho I.free λz=>(hch _ z).2.1 rfl;exact I.step (ch:=ch) hch (λb o hL hb hc e n=>u.keep b o e n (λz=>(Wan.mp (I.stkSub b z)).elim hL hb) hc) (λb o _ _ hc e n=>u.any e n hc) (λb o hc e n=>u.free b o e n hc) (λb o hc e=>u.there b o e hc) u.tups u.frzs u.tbls (λm' hm=>by
  obtain⟨o',es',ep',ho',r'⟩:=hm;rw[ho]at ho';cases ho';exact⟨_,es',ep',hL,r'⟩) hok hg
theorem Inv.turned {t':Nat}{it:Addr}(I:Inv X pins σ H s) (k:∀b o,b≠it->s.heap.get? b=some o->h'.get? b=some o) (hn:H it=none) (hL:it≠X.env.locals)
  (h1:it∈X.ex\/X.s₀.heap.objs.size<=it) (h2:∀x c,X.env.cells.lookup x=some c->c≠it) (h3:∀p∈X.pn++pins,p.1≠it):Inv X pins σ H { s with heap:=h',toks:=t' }:=by
 have nit:∀b u,H b=some u->b≠it:=λb u e z=>by rw[z,hn]at e;cases e
 refine I.step (g':=s.gens) (d':=s.drawn) (ch:=[it]) (λb hb=>?_) (λb o _ _ hc e _=>k b o (λz=>hc (by simp[z])) e) (λb o _ _ hc e _=>⟨o.slots,k b o (λz=>hc (by simp[z])) e⟩) (λ_ _ _ _ n=>n)
  (λb o hc e=>⟨o,k b o (λz=>hc (by simp[z])) e⟩) (λ_ _ e=>e) (λ_ _ _ e=>e) (λb ps e=>⟨#[],by rw[e];simp⟩) (λm hm=>?_) (λb u e=>?_) I.bare
 ·have e:b=it:=by simpa using hb
  subst e;exact⟨h1,hL,h2,h3⟩
 ·obtain⟨o,es,ep,ho,r⟩:=hm
  exact⟨o,es,ep,k _ o (Ne.symm hL) ho,r⟩
 ·refine(I.hok b u e).stay (λc v hc q=>k c v ?_ q) (λ_ q=>q) λ_ _ q=>q
  rcases hc with z|z
  ·rw[z];exact nit b u e
  ·exact nit c _ z
theorem Inv.tok (I:Inv X pins σ H s) (t:Nat):Inv X pins σ H { s with toks:=t }:=I.un (h':=s.heap) (t':=t) Un.refl I.hok
theorem Inv.kept {t':Nat}(I:Inv X pins σ H s) (k:∀b u,s.heap.get? b=some u->h'.get? b=some u):Inv X pins σ H { s with heap:=h',toks:=t' }:=I.un (Un.kept k) (I.hok.kept k)
theorem Inv.laid {a:Addr}{o:HO}{t':Nat}(I:Inv X pins σ H s) (k:∀b u,s.heap.get? b=some u->h'.get? b=some u) (hp:s.heap.objs.size<=a) (new:ObjOk X.prog X.w (upd H a o) h' a o) :
  Inv X pins σ (upd H a o) { s with heap:=h',toks:=t' }:=I.un (Un.laid k hp (I.hok.fresh hp)) (I.hok.laid k hp new)
theorem Inv.write {x e:Addr}{o:HO}{t':Nat}(I:Inv X pins σ H s) (mu:Mut (H x)) (he:e=x\/H e=some (.own x)) (k:∀b u,b≠e->s.heap.get? b=some u->h'.get? b=some u) (heo:∃u,h'.get? e=some u)
  (new:ObjOk X.prog X.w (upd H x o) h' x o):Inv X pins σ (upd H x o) { s with heap:=h',toks:=t' }:=I.un (Un.write mu he k heo) (I.hok.write mu he k heo new)
theorem Inv.weak {σ':List (Option V)}(I:Inv X pins σ H s) (hl:σ'.length = σ.length) (w:∀(i:Nat) v,σ'[i]?=some (some v) -> σ[i]?=some (some v)):Inv X pins σ' H s:=
 ⟨I.ok,I.os,I.bare,I.base,let ⟨m,hn,hl'⟩:=I.loc; ⟨m,hn,λi x v e1 e2 e3=>hl' i x v e1 (w i v e2) e3⟩,I.cell,I.free,I.freeC,I.pin,I.hok,hl.trans I.len⟩
theorem Inv.pins_of {pins':List (Addr × Obj)}(I:Inv X pins σ H s) (h:∀p∈pins',s.heap.get? p.1=some p.2/\H p.1=none/\p.1≠X.env.locals/\p.1 ∉ X.fs/\∀v,p.2.data≠.cell v):Inv X pins' σ H s:=
 ⟨I.ok,I.os,I.bare,I.base,I.loc,I.cell,I.free,I.freeC,λp hp=>(Wbj.mp hp).elim (λz=>I.pin p (Wb0 _ z)) (h p),I.hok,I.len⟩
theorem Zgb {N:List Str}(hN:N.Nodup) {i j:Nat}{x:Str}(a:N[i]?=some x) (b:N[j]?=some x):i=j:=by
 obtain⟨h1,e1⟩:=Wag.mp a;obtain⟨h2,e2⟩:=Wag.mp b;exact(Wdc hN).mp (e1.trans e2.symm)
theorem Zgo {M:Model}{A:Around}{E:Value->Shared->Prop}{i:Nat}{x:Str}{v:V}{u:Value}{Q:Unit->Shared->Prop}(I:Inv X pins σ H s) (hN:X.N.Nodup) (hi:X.N[i]?=some x) (hx:Loc X.env.scope x) (r:RelV v u)
  (h:∀s',Inv X pins (σ.set i (some v)) H s' -> (∃a,Heap.SameBut a s.heap s'.heap/\(a=X.env.locals\/X.env.cells.lookup x=some a))->Q () s') (hf:X.fn x=true\/X.env.scope.names.lookup x=some .local:=by first|exact .inl rfl|exact .inr rfl|assumption):wpAny M A (storeName X.env x u) Q E s:=by
 obtain⟨m,hn,hl⟩:=id I.loc;have hcls:(X.env.scope.kind == .class || (X.env.scope.kind == .module && X.env.locals != X.env.globals))=false:=by rw[I.ok.kind];rfl
 have hiσ:i < σ.length:=by rw[I.len];exact(Wag.mp hi).1
 have cne:=I.cne;have tracked:∀{a:Addr}{h':Heap},(∃o,s.heap.get? a=some o/\H a=none)->Heap.SameBut a s.heap h' -> HOk X.prog X.w H h':=λ{a h'} ha hs b ob e=>by
  obtain⟨_,_,hfree⟩:=ha;refine(I.hok b ob e).stay (λc w' hc q=>(hs.2 c ?_).trans q) (λ_ q=>q) λ_ _ q=>q;rintro rfl;rcases hc with rfl|hc
  ·rw[hfree]at e;cases e
  ·rw[hfree]at hc;cases hc
 rcases hx with hk|hk
 ·refine wpAny_storeName_local hk hn (λh' hn' hs=>?_) hcls
  obtain⟨oL,_,_,hoL,_⟩:=id hn;refine h _ ⟨I.ok,I.os,I.bare,⟨λb o e n hb hx=>?_,λb o e n hb hx=>?_,I.base.free,λb o e hx=>?_,I.base.tups,I.base.frzs,I.base.tbls⟩,⟨_,hn',λj y v' e1 e2 e3=>?_⟩,λy c e=>?_,I.free,I.freeC,λp hp=>?_,tracked ⟨oL,hoL,I.free⟩ hs,by simpa using I.len⟩ ⟨_,hs,.inl rfl⟩
  ·exact(hs.2 b (War (Wa0 (Wai e) I.ok.above))).trans (I.base.keep b o e n hb hx)
  ·obtain⟨sl,e1⟩:=I.base.slot b o e n hb hx
   exact⟨sl,(hs.2 b (War (Wa0 (Wai e) I.ok.above))).trans e1⟩
  ·obtain⟨o',e1⟩:=I.base.there b o e hx
   exact⟨o',(hs.2 b (War (Wa0 (Wai e) I.ok.above))).trans e1⟩
  ·by_cases hj:j=i
   ·subst hj
    rw[hi]at e1;cases e1;rw[Wak hiσ]at e2;cases e2;exact⟨u,r,.inl ⟨hk,by simp⟩⟩
   ·rw[Wal (Ne.symm hj)]at e2
    obtain⟨u',r',q⟩:=hl j y v' e1 e2 e3;refine⟨u',r',?_⟩;rcases q with ⟨k,e⟩|⟨k,c,e,z⟩
    ·refine .inl ⟨k,?_⟩
     have:y≠x:=λe=>hj (Zgb hN e1 (e ▸ hi));simp[this,e]
    ·exact .inr ⟨k,c,e,z.sameBut hs (cne y c e)⟩
  ·obtain⟨w',z⟩:=I.cell y c e
   exact⟨w',z.sameBut hs (cne y c e)⟩
  ·obtain⟨e,n,ne,nf,d⟩:=I.pin p hp
   exact⟨(hs.2 p.1 ne).trans e,n,ne,nf,d⟩
 ·have hfn:X.fn x=true:=by
   rcases hf with z|z
   ·exact z
   ·rw[z]at hk;cases hk
  obtain⟨c,hc⟩:=I.ok.has x (.inl hk);obtain⟨w',z⟩:=I.cell x c hc;refine wpAny_storeName_cell I.ok.kind hk hc z (λh' hc' hs=>?_);obtain⟨oc,hoc,hocd⟩:=id z;refine h { s with heap:=h' } ⟨I.ok,I.os,I.bare,⟨λb o e n hb hx=>?_,λb o e n hb hx=>?_,I.base.free,λb o e hx=>?_,I.base.tups,I.base.frzs,I.base.tbls⟩,⟨m,hn.sameBut hs (Ne.symm (cne x c hc)),λj y v' e1 e2 e3=>?_⟩,λy c' e=>?_,I.free,I.freeC,λp hp=>?_,tracked ⟨oc,hoc,I.freeC x c hc⟩ hs,by simpa using I.len⟩ ⟨c,hs,.inr hc⟩
  ·exact(hs.2 b (War (Wa0 (Wai e) (I.ok.cab x c hfn hc)))).trans (I.base.keep b o e n hb hx)
  ·obtain⟨sl,e1⟩:=I.base.slot b o e n hb hx
   exact⟨sl,(hs.2 b (War (Wa0 (Wai e) (I.ok.cab x c hfn hc)))).trans e1⟩
  ·obtain⟨o',e1⟩:=I.base.there b o e hx
   exact⟨o',(hs.2 b (War (Wa0 (Wai e) (I.ok.cab x c hfn hc)))).trans e1⟩
  ·by_cases hj:j=i
   ·subst hj
    rw[hi]at e1;cases e1;rw[Wak hiσ]at e2;cases e2;exact⟨u,r,.inr ⟨.inl hk,c,hc,hc'⟩⟩
   ·rw[Wal (Ne.symm hj)]at e2
    obtain⟨u',r',q⟩:=hl j y v' e1 e2 e3;refine⟨u',r',?_⟩;rcases q with q|⟨k,c',e,z'⟩
    ·exact .inl q
    ·refine .inr ⟨k,c',e,z'.sameBut hs ?_⟩
     rintro rfl;exact hj (Zgb hN e1 (I.ok.inj _ _ _ e hc ▸ hi))
  ·by_cases hcc:c'=c
   ·subst hcc;exact⟨_,hc'⟩
   ·obtain⟨w2,z2⟩:=I.cell y c' e
    exact⟨w2,z2.sameBut hs hcc⟩
  ·obtain⟨e,n,ne,nf,d⟩:=I.pin p hp
   refine⟨(hs.2 p.1 ?_).trans e,n,ne,nf,d⟩;intro q;rw[q,hoc]at e;have q':oc=p.2:=Wa5.inj e;exact d w' (by rw[<- q'];exact hocd)
theorem Zda {M:Model}{A:Around}{E:Value->Shared->Prop}{i:Nat}{x:Str}{v:V}{u:Value}{Q:Unit->Shared->Prop}(I:Inv X pins σ H s) (hN:X.N.Nodup) (hi:X.N[i]?=some x) (hx:Loc X.env.scope x) (r:RelV v u)
  (h:∀s',Inv X pins (σ.set i (some v)) H s' -> Q () s') (hf:X.fn x=true\/X.env.scope.names.lookup x=some .local:=by first|exact .inl rfl|exact .inr rfl|assumption):wpAny M A (storeName X.env x u) Q E s:=
 Zgo I hN hi hx r (λs' I' _=>h s' I') hf
theorem Inv.call' {s':Shared}{ch:List Addr}(I:Inv X pins σ H s) (ho:s'.os=s.os) (u:Un (frs X.stack) ch H H' s.heap s'.heap) (hok:HOk X.prog X.w H' s'.heap) (hg:AllBare s'.gens)
  (hch:∀b∈ch,(b∈X.ex\/X.s₀.heap.objs.size<=b)/\b≠X.env.locals/\(∀x c,X.env.cells.lookup x=some c->c≠b)/\∀p∈X.pn++pins,p.1≠b):Inv X pins σ H' s':=by
 obtain⟨h',g',d',t',o'⟩:=s';have e:o'=s.os:=ho;subst e;exact I.call (g':=g') (t':=t') (d':=d') u hok hg hch
end
abbrev XK:=Value->Option Addr->Hp->Prop
abbrev St:=List (Option V)
abbrev VK:=V->Hp->Prop
abbrev TE:=St->Hp->VK->Prop
abbrev TT:=St->Hp->(Bool->Hp->Prop)->Prop
abbrev TA:=St->Hp->(List V->Hp->Prop)->Prop
structure Ends where
 nx:St->Hp->Prop
 rt:VK
 bk:St->Hp->Prop:=λ_ _=>False
 ct:St->Hp->Prop:=λ_ _=>False
abbrev TS:=Ends->St->Hp->Prop
def EP (X:Cx) (pins:List (Addr × Obj)) (σ:St) (Q:VK) (u:Value) (s':Shared):Prop:=∃v H',Inv X pins σ H' s' /\ RelV v u/\Q v H'
def TP (X:Cx) (pins:List (Addr × Obj)) (σ:St) (Q:Bool->Hp->Prop) (b:Bool) (s':Shared):Prop:=∃H',Inv X pins σ H' s' /\ Q b H'
def AP (X:Cx) (pins:List (Addr × Obj)) (σ:St) (Q:List V->Hp->Prop) (us:List Value) (s':Shared):Prop:=∃vs H',Inv X pins σ H' s' /\ Vals vs us/\Q vs H'
def SP (X:Cx) (pins:List (Addr × Obj)) (D:Ends) (f:Flow) (s':Shared):Prop:=
 match f with
 |.next=>∃σ' H',Inv X pins σ' H' s' /\ D.nx σ' H'
 |.brk=>∃σ' H',Inv X pins σ' H' s' /\ D.bk σ' H'
 |.cont=>∃σ' H',Inv X pins σ' H' s' /\ D.ct σ' H'
 |.ret u=>∃v σ' H',Inv X pins σ' H' s' /\ RelV v u/\D.rt v H'
def PE (X:Cx) (e:Expr) (t:TE):Prop:=
 ∀(pins:List (Addr × Obj)) (s:Shared) (σ:St) (H:Hp) (Q:VK),Inv X pins σ H s->t σ H Q->wpAny (model X.prog X.w) X.A (eval e X.env) (EP X pins σ Q) X.xe s
def PT (X:Cx) (e:Expr) (t:TT):Prop:=
 ∀(pins:List (Addr × Obj)) (s:Shared) (σ:St) (H:Hp) (Q:Bool->Hp->Prop),Inv X pins σ H s->t σ H Q->wpAny (model X.prog X.w) X.A (isTrue e X.env (eval e X.env)) (TP X pins σ Q) X.xe s
def PW (X:Cx) (e:Expr) (t:TT):Prop:=
 ∀(whole:Sem Value) (pins:List (Addr × Obj)) (s:Shared) (σ:St) (H:Hp) (Q:Bool->Hp->Prop),Inv X pins σ H s->t σ H Q->wpAny (model X.prog X.w) X.A (isTrue e X.env whole) (TP X pins σ Q) X.xe s
theorem PW.pt {X:Cx}{e:Expr}{t:TT}(h:PW X e t):PT X e t:=h _
def PA (X:Cx) (es:List Expr) (t:TA):Prop:=
 ∀(pos:Pos) (pins:List (Addr × Obj)) (s:Shared) (σ:St) (H:Hp) (Q:List V->Hp->Prop),Inv X pins σ H s->t σ H Q->wpAny (model X.prog X.w) X.A (spliced (backTo pos (starEach es X.env))) (AP X pins σ Q) X.xe s
def PS (X:Cx) (st:Stmt) (t:TS):Prop:=
 ∀(pins:List (Addr × Obj)) (s:Shared) (σ:St) (H:Hp) (D:Ends),Inv X pins σ H s->t D σ H->wpAny (model X.prog X.w) X.A (exec st X.env) (SP X pins D) X.xe s
def PSs (X:Cx) (st:List Stmt) (t:TS):Prop:=
 ∀(pins:List (Addr × Obj)) (s:Shared) (σ:St) (H:Hp) (D:Ends),Inv X pins σ H s->t D σ H->wpAny (model X.prog X.w) X.A (execs st X.env) (SP X pins D) X.xe s
theorem thn {α:Type}{t:Sem α}{Q Q':α -> Shared->Prop}{M:Model}{A:Around}{E:Value->Shared->Prop}{s:Shared}(h:wpAny M A t Q E s) (hQ:∀a s,Q a s->Q' a s):wpAny M A t Q' E s:=wpAny_mono h hQ λ_ _ x=>x
end L2
namespace L2
open PySem PySem.Spec PyProof.Rows
section
variable {X:Cx}
def tVar (i:Nat):TE:=λσ H Q=>∃v,σ[i]?=some (some v)/\Q v H
def tC (v:V):TE:=λ_ H Q=>Q v H
theorem Znl {i:Nat}{x:Str}{pos:Pos}(hN:X.N[i]?=some x) (hv:Vis X.env.scope x) (hd:(x == ("__debug__":Str))=false:=by decide) (hcd:(x == ("__classdict__":Str))=false:=by decide):PE X (.Name x pos) (tVar i):=by
 intro pins s σ H Q I h;obtain⟨v,e,h⟩:=h;obtain⟨m,hn,hl⟩:=I.loc;obtain⟨u,r,l⟩:=hl i x v hN e hv;have fin:EP X pins σ Q u s:=⟨v,H,I,r,h⟩;rcases l with ⟨hk,hm⟩|⟨hk,c,hc,hcell⟩
 ·exact wpAny_Name (wpAny_loadName_local I.ok.kind hk hn hm fin) hd
 ·rcases hk with hk|hk
  ·exact wpAny_Name (wpAny_loadName_cell I.ok.kind hk hc hcell fin) hd
  ·exact wpAny_Name (wpAny_loadName_free I.ok.kind hk hc hcell fin hcd) hd
theorem Zaf {i j pos}:PE X (.Constant (.int i) j pos) (tC (.int i)):=λ_ _ _ H _ I h=>wpAny_Constant_int ⟨.int i,H,I.tok _,⟨_,rfl⟩,h⟩
theorem Zjm {b j pos}:PE X (.Constant (.bool b) j pos) (tC (.bl b)):=λ_ _ _ H _ I h=>Constant_bool ⟨.bl b,H,I,rfl,h⟩
theorem Zkp {j pos}:PE X (.Constant .none j pos) (tC .non):=λ_ _ _ H _ I h=>Constant_none ⟨.non,H,I,rfl,h⟩
theorem Zpw {x j pos}:PE X (.Constant (.str x) j pos) (tC (.str x)):=λ_ _ _ H _ I h=>Calls.Constant_str ⟨.str x,H,I.tok _,⟨_,rfl⟩,h⟩
def Gl (X:Cx) (x:Str):Prop:=X.env.kindOf x=some .globalImplicit
theorem Zfo {E:Value->Shared->Prop}{pins:List (Addr × Obj)}{s:Shared}{σ:St}{H:Hp}{x:Str}{u:Value}{pos:Pos}{Q:Value->Shared->Prop}(I:Inv X pins σ H s) (hg:Gl X x) (hm:X.mg x=some u) (h:Q u s)
  (hd:(x == ("__debug__":Str))=false:=by decide):wpAny (model X.prog X.w) X.A (eval (.Name x pos) X.env) Q E s:=
 Calls.Name_function_global I.ok.kind hg (Calls.loadGlobal_global (by rw[I.ok.glob];exact I.mod.glob.keeps I.bk) hm h) hd
theorem Zdg {E:Value->Shared->Prop}{pins:List (Addr × Obj)}{s:Shared}{σ:St}{H:Hp}{x:Str}{u:Value}{pos:Pos}{Q:Value->Shared->Prop}(I:Inv X pins σ H s) (hg:Gl X x) (hm:X.mg x=none) (hv:bootBuiltins x=some u) (h:Q u s)
  (hn:x ≠ "__name__":=by decide) (hd:(x == ("__debug__":Str))=false:=by decide):wpAny (model X.prog X.w) X.A (eval (.Name x pos) X.env) Q E s:=by
 obtain⟨mb,h1,h2⟩:=I.mod.blt;exact Calls.Name_function_global I.ok.kind hg (Calls.loadGlobal_builtin (by rw[I.ok.glob];exact I.mod.glob.keeps I.bk) hm (by rw[I.ok.blt];exact h1.keeps I.bk) ((h2 x hn).trans hv) h) hd
theorem Zba {x:Str}{v:V}{u:Value}{pos:Pos}(hg:Gl X x) (hm:X.mg x=some u) (r:RelV v u) (hd:(x == ("__debug__":Str))=false:=by decide):PE X (.Name x pos) (tC v):=
 λ_ _ _ H _ I h=>Zfo I hg hm ⟨v,H,I,r,h⟩ hd
theorem Zoq {x:Str}{v:V}{u:Value}{pos:Pos}(hg:Gl X x) (hm:X.mg x=none) (hv:bootBuiltins x=some u) (r:RelV v u) (hn:x ≠ "__name__":=by decide) (hd:(x == ("__debug__":Str))=false:=by decide):PE X (.Name x pos) (tC v):=
 λ_ _ _ H _ I h=>Zdg I hg hm hv ⟨v,H,I,r,h⟩ hn hd
variable {a b:Expr}{ta tb:TE}{pos:Pos}
variable {tA tB':TT}{rest:List Expr}
def tAnd (t u:TT):TT:=λσ H Q=>t σ H λc H1=>if c=true then u σ H1 Q else Q false H1
def tOr (t u:TT):TT:=λσ H Q=>t σ H λc H1=>if c=true then Q true H1 else u σ H1 Q
def tNot (t:TT):TT:=λσ H Q=>t σ H λc H1=>Q (!c) H1
theorem pw_and1 (ha:PT X a tA):PW X (.BoolOp .And [a] pos) tA:=by
 intro wh pins s σ H Q I h;refine isTrue_and (thn (ha pins s σ H Q I h) λc s1 e=>?_);cases c with
 |true=>exact isTrue_and_nil e
 |false=>exact e
theorem pw_or1 (ha:PT X a tA):PW X (.BoolOp .Or [a] pos) tA:=by
 intro wh pins s σ H Q I h;refine isTrue_or (thn (ha pins s σ H Q I h) λc s1 e=>?_);cases c with
 |false=>exact isTrue_or_nil e
 |true=>exact e
theorem pw_and (ha:PT X a tA) (hb:PW X (.BoolOp .And (b::rest) pos) tB'):PW X (.BoolOp .And (a::b::rest) pos) (tAnd tA tB'):=by
 intro wh pins s σ H Q I h;refine isTrue_and (thn (ha pins s σ H _ I h) λc s1 ⟨H1,I1,q1⟩=>?_);cases c with
 |true=>exact hb wh pins s1 σ H1 Q I1 q1
 |false=>exact⟨H1,I1,q1⟩
theorem pw_or (ha:PT X a tA) (hb:PW X (.BoolOp .Or (b::rest) pos) tB'):PW X (.BoolOp .Or (a::b::rest) pos) (tOr tA tB'):=by
 intro wh pins s σ H Q I h;refine isTrue_or (thn (ha pins s σ H _ I h) λc s1 ⟨H1,I1,q1⟩=>?_);cases c with
 |true=>exact⟨H1,I1,q1⟩
 |false=>exact hb wh pins s1 σ H1 Q I1 q1
theorem Znn (ha:PT X a tA):PT X (.UnaryOp .Not a pos) (tNot tA):=by
 intro pins s σ H Q I h;exact isTrue_not (ha pins s σ H (λc H1=>Q (!c) H1) I h)
def tAndV (ta tb:TE):TE:=λσ H Q=>ta σ H λx H1=>∃c,x=.bl c/\if c=true then tb σ H1 Q else Q (.bl false) H1
def tOrV (ta tb:TE):TE:=λσ H Q=>ta σ H λx H1=>∃c,x=.bl c/\if c=true then Q (.bl true) H1 else tb σ H1 Q
def tNotV (ta:TE):TE:=λσ H Q=>ta σ H λx H1=>∃c,x=.bl c/\Q (.bl (!c)) H1
def tIf (t:TT) (ta tb:TE):TE:=λσ H Q=>t σ H λc H1=>if c=true then ta σ H1 Q else tb σ H1 Q
theorem Zfv {c:Expr}(hc:PT X c tA) (ha:PE X a ta) (hb:PE X b tb):PE X (.IfExp c a b pos) (tIf tA ta tb):=by
 intro pins s σ H Q I h;refine wpAny_IfExp (thn (hc pins s σ H _ I h) λd s1 ⟨H1,I1,q1⟩=>?_);cases d with
 |true=>exact ha pins s1 σ H1 Q I1 q1
 |false=>exact hb pins s1 σ H1 Q I1 q1
end
end L2
namespace L2
open PySem PySem.Spec PyProof.Rows
def SqL (K:W.Frag) (H:Hp) (a:Addr) (xs:List V):Prop:=
 Rd H a (.lst xs) ∨
  ∃(o:Obj) (its:Array Value) (n:Nat),K.lookup a=some o/\o.cls=.type "list" /\ o.dict=none/\o.data=.seq its n/\its.size<=sizeLine/\Vals xs its.toList
def SqT (K:W.Frag) (H:Hp) (a:Addr) (xs:List V):Prop:=
 Rd H a (.tup xs) ∨
  ∃(o:Obj) (its:Array Value) (n:Nat),K.lookup a=some o/\o.cls=.type "tuple" /\ o.data=.seq its n/\its.size<=sizeLine/\Vals xs its.toList
def absV:Value->Option V
 |.none=>some .non
 |.bool b=>some (.bl b)
 |.int i _=>some (.int i)
 |.str x _=>some (.str x)
 |.bytes b _=>some (.byt b)
 |.float b _=>some (.flt b)
 |.ref a=>some (.ref a)
 |.type n=>some (.ty n)
 |_=>none
theorem RelV.abs {x:V}{u:Value}(r:RelV x u):absV u=some x:=by
 cases x with
 |non=>cases r;rfl
 |bl _=>cases r;rfl
 |int _=>obtain⟨t,rfl⟩:=r;rfl
 |str _=>obtain⟨t,rfl⟩:=r;rfl
 |byt _=>obtain⟨t,rfl⟩:=r;rfl
 |flt _=>obtain⟨t,rfl⟩:=r;rfl
 |ref _=>cases r;rfl
 |ty _=>cases r;rfl
theorem RelV.inj {x y:V}{u:Value}(r:RelV x u) (q:RelV y u):x=y:=Wa5.inj (r.abs.symm.trans q.abs)
theorem Vals.inj:∀{xs ys:List V}{us:List Value},Vals xs us->Vals ys us->xs=ys
 |_,_,_,.nil,.nil=>rfl
 |_,_,_,.cons r t,.cons r' t'=>by rw[r.inj r',Vals.inj t t']
section
variable {X:Cx}{pins:List (Addr × Obj)}{σ:St}{H:Hp}{s:Shared}{a:Addr}{xs ys:List V}
theorem SqL.of {K:W.Frag}(h:H a=some (.lst xs)):SqL K H a xs:=.inl (.inl h)
theorem SqT.of {K:W.Frag}(h:H a=some (.tup xs)):SqT K H a xs:=.inl (.inl h)
theorem Inv.list (I:Inv X pins σ H s) (h:SqL X.K H a xs):∃its:List Value,Vals xs its/\PlainL s.heap a its.toArray/\xs.length<=sizeLine:=by
 rcases h with h|⟨o,its,n,hk,hc,hd,hs,hz,r⟩
 ·obtain⟨z,its,n,r,e⟩:=h.ok I.hok
  exact⟨its,r,⟨_,n,e,rfl,rfl,rfl⟩,z⟩
 ·refine⟨its.toList,r,⟨o,n,I.kIn a o hk,hc,hd,by simpa using hs⟩,?_⟩
  have e:=r.length;simp only[Array.length_toList]at e;omega
theorem Inv.tuple (I:Inv X pins σ H s) (h:SqT X.K H a xs):∃its:List Value,Vals xs its/\IsTup s.heap a its.toArray/\xs.length<=sizeLine:=by
 rcases h with h|⟨o,its,n,hk,hc,hs,hz,r⟩
 ·obtain⟨z,its,r,p⟩:=h.ok I.hok
  exact⟨its,r,p.tup,z⟩
 ·refine⟨its.toList,r,⟨o,I.kIn a o hk,hc,n,by simpa using hs⟩,?_⟩
  have e:=r.length;simp only[Array.length_toList]at e;omega
theorem Inv.list_inj (I:Inv X pins σ H s) (h:SqL X.K H a xs) (h':SqL X.K H a ys):xs=ys:=by
 obtain⟨its,r,⟨o,n,e,_,_,d⟩,_⟩:=I.list h;obtain⟨its',r',⟨o',n',e',_,_,d'⟩,_⟩:=I.list h';rw[e]at e';cases e';rw[d]at d';injection d' with d1 _
 have:its=its':=by simpa using congrArg Array.toList d1
 subst this;exact r.inj r'
theorem Inv.tuple_inj (I:Inv X pins σ H s) (h:SqT X.K H a xs) (h':SqT X.K H a ys):xs=ys:=by
 obtain⟨its,r,⟨o,e,_,n,d⟩,_⟩:=I.tuple h;obtain⟨its',r',⟨o',e',_,n',d'⟩,_⟩:=I.tuple h';rw[e]at e';cases e';rw[d]at d';injection d' with d1 _
 have:its=its':=by simpa using congrArg Array.toList d1
 subst this;exact r.inj r'
end
abbrev Cx.wish (X:Cx) (E:Value->Shared->Prop):Cx:={ X with xe:=E }
abbrev Cx.nox (X:Cx):Cx:=X.wish λ_ _=>False
theorem Cx.Ok.wish {X:Cx}(ok:X.Ok) (E:Value->Shared->Prop):(X.wish E).Ok:=
 ⟨ok.mod,ok.kind,ok.glob,ok.blt,ok.above,ok.inj,ok.has,ok.cab,ok.hd,ok.frames,ok.stk,ok.exf,ok.bs,ok.bsz,ok.noex,ok.exfs,ok.funs,ok.frf⟩
theorem Cx.Ok.unwish {X:Cx}{E:Value->Shared->Prop}(ok:(X.wish E).Ok):X.Ok:=
 ⟨ok.mod,ok.kind,ok.glob,ok.blt,ok.above,ok.inj,ok.has,ok.cab,ok.hd,ok.frames,ok.stk,ok.exf,ok.bs,ok.bsz,ok.noex,ok.exfs,ok.funs,ok.frf⟩
section
variable {X:Cx}{pins:List (Addr × Obj)}{σ:St}{H:Hp}{s:Shared}{E:Value->Shared->Prop}
theorem Inv.wish (I:Inv X pins σ H s) (E:Value->Shared->Prop):Inv (X.wish E) pins σ H s:=⟨I.ok.wish E,I.os,I.bare,I.base,I.loc,I.cell,I.free,I.freeC,I.pin,I.hok,I.len⟩
theorem Inv.unwish (I:Inv (X.wish E) pins σ H s):Inv X pins σ H s:=⟨I.ok.unwish,I.os,I.bare,I.base,I.loc,I.cell,I.free,I.freeC,I.pin,I.hok,I.len⟩
theorem SP.unwish {D:Ends}{f:Flow}{s':Shared}(h:SP (X.wish E) pins D f s'):SP X pins D f s':=by
 cases f with
 |next=>obtain⟨σ',H',I,q⟩:=h;exact⟨σ',H',I.unwish,q⟩
 |brk=>obtain⟨σ',H',I,q⟩:=h;exact⟨σ',H',I.unwish,q⟩
 |cont=>obtain⟨σ',H',I,q⟩:=h;exact⟨σ',H',I.unwish,q⟩
 |ret u=>obtain⟨v,σ',H',I,r,q⟩:=h;exact⟨v,σ',H',I.unwish,r,q⟩
theorem PSs.nox {st:List Stmt}{t:TS}(h:PSs X.nox st t):PSs X st t:=λpins s σ H D I hw=>
 wpAny_mono (h pins s σ H D (I.wish _) hw) (λ_ _ q=>q.unwish) λ_ _ z=>False.elim z
end
section
variable {X:Cx}{st:Stmt}{rest:List Stmt}{t u:TS}{e:Expr}{te:TE}{pos:Pos}
def tNext:TS:=λD σ H=>D.nx σ H
def tSeq (t u:TS):TS:=λD σ H=>t { D with nx:=u D } σ H
theorem Za0:PSs X [] tNext:=λ_ _ σ H _ I h=>wpAny_execs_nil ⟨σ,H,I,h⟩
theorem Zae (h1:PS X st t) (h2:PSs X rest u):PSs X (st::rest) (tSeq t u):=by
 intro pins s σ H D I h;refine wpAny_execs_cons (thn (h1 pins s σ H { D with nx:=u D } I h) λf s1 q=>?_);cases f with
 |next=>
  obtain⟨σ',H',I',q⟩:=q;exact h2 pins s1 σ' H' D I' q
 |ret v=>exact q
 |brk=>exact q
 |cont=>exact q
theorem Zai (h1:PS X st t):PSs X [st] t:=by
 intro pins s σ H D I h;refine wpAny_execs_cons (thn (h1 pins s σ H D I h) λf s1 q=>?_);cases f with
 |next=>exact wpAny_execs_nil q
 |ret v=>exact q
 |brk=>exact q
 |cont=>exact q
theorem Inv.quiet {pins:List (Addr × Obj)}{σ:St}{H:Hp}{s:Shared}(I:Inv X pins σ H s):interactive X.env=false:=by simp[interactive,I.ok.kind]
def tDrop (te:TE):TS:=λD σ H=>te σ H λ_ H1=>D.nx σ H1
theorem Zbv (he:PE X e te) (hs:swapsWith e none pos.line X.env=pure false:=by rfl):PS X (.Expr e pos) (tDrop te):=by
 intro pins s σ H D I h;exact wpAny_Expr_any (thn (he pins s σ H _ I h) λv s1 ⟨x,H1,I1,r1,q1⟩=>⟨σ,H1,I1,q1⟩) I.quiet hs
def tRet (te:TE):TS:=λD σ H=>te σ H D.rt
theorem Zaz (he:PE X e te):PS X (.Return (some e) pos) (tRet te):=by
 intro pins s σ H D I h;exact wpAny_Return_some (thn (he pins s σ H _ I h) λv s1 ⟨x,H1,I1,r1,q1⟩=>⟨x,σ,H1,I1,r1,q1⟩)
def tIfS (c:TT) (t u:TS):TS:=λD σ H=>c σ H λb H1=>if b=true then t D σ H1 else u D σ H1
theorem Zbz {c:Expr}{a b:List Stmt}{tc:TT}(hc:PT X c tc) (ha:PSs X a t) (hb:PSs X b u):PS X (.If c a b pos) (tIfS tc t u):=by
 intro pins s σ H D I h;refine wpAny_If (thn (hc pins s σ H _ I h) λd s1 ⟨H1,I1,q1⟩=>?_);cases d with
 |true=>exact ha pins s1 σ H1 D I1 q1
 |false=>exact hb pins s1 σ H1 D I1 q1
def tNever:TS:=λ_ _ _=>False
theorem Zkk {sts:List Stmt}:PSs X sts tNever:=λ_ _ _ _ _ _ h=>h.elim
end
abbrev TG:=V->St->Hp->(St->Hp->Prop)->Prop
abbrev TGs:=List V->St->Hp->(St->Hp->Prop)->Prop
def PG (X:Cx) (target:Expr) (t:TG):Prop:=
 ∀(pins:List (Addr × Obj)) (s:Shared) (σ:St) (H:Hp) (v:V) (u:Value) (Q:St->Hp->Prop),Inv X pins σ H s->RelV v u->t v σ H Q →
  wpAny (model X.prog X.w) X.A (assign target X.env u) (λ_ s'=>∃σ' H',Inv X pins σ' H' s' /\ Q σ' H') X.xe s
def PGs (X:Cx) (ts:List Expr) (t:TGs):Prop:=
 ∀(pins:List (Addr × Obj)) (s:Shared) (σ:St) (H:Hp) (vs:List V) (us:List Value) (Q:St->Hp->Prop),Inv X pins σ H s->Vals vs us->t vs σ H Q →
  wpAny (model X.prog X.w) X.A (assignInOrder ((assignEach ts X.env).map (·.2)) us) (λ_ s'=>∃σ' H',Inv X pins σ' H' s' /\ Q σ' H') X.xe s
abbrev TSet:=V->V->V->Hp->(Hp->Prop)->Prop
def PSet (X:Cx) (t:TSet):Prop:=
 ∀(pins:List (Addr × Obj)) (s:Shared) (σ:St) (H:Hp) (o i v:V) (ov iv u:Value) (Q:Hp->Prop),Inv X pins σ H s->RelV o ov->RelV i iv->RelV v u->t o i v H Q →
  wpAny (model X.prog X.w) X.A (setItem ov iv u) (λ_ s'=>∃H',Inv X pins σ H' s' /\ Q H') X.xe s
abbrev TIp:=V->V->Hp->VK->Prop
def PIp (X:Cx) (op:Operator) (t:TIp):Prop:=
 ∀(pins:List (Addr × Obj)) (s:Shared) (σ:St) (H:Hp) (x y:V) (v u:Value) (Q:VK),Inv X pins σ H s->RelV x v->RelV y u->t x y H Q →
  wpAny (model X.prog X.w) X.A (inplaceOp op v u) (EP X pins σ Q) X.xe s
section
variable {X:Cx}{pos:Pos}
def gName (i:Nat):TG:=λv σ H Q=>Q (σ.set i (some v)) H
theorem Zas {i:Nat}{x:Str}(hN:X.N.Nodup) (hi:X.N[i]?=some x) (hx:Loc X.env.scope x) (hf:X.fn x=true\/X.env.scope.names.lookup x=some .local:=by first|exact .inl rfl|exact .inr rfl|assumption):PG X (.Name x pos) (gName i):=by
 intro pins s σ H v u Q I r h;exact wpAny_assign_Name (Zda I hN hi hx r (λs' I'=>⟨_,H,I',h⟩) hf)
def gNil:TGs:=λvs σ H Q=>vs=[]/\Q σ H
def gCons (t:TG) (u:TGs):TGs:=λvs σ H Q=>∃v r,vs=v::r/\t v σ H λσ' H'=>u r σ' H' Q
theorem Zfr:PGs X [] gNil:=by
 intro pins s σ H vs us Q I r h;obtain⟨e,h⟩:=h;subst e;cases r;exact assignInOrder_nil ⟨σ,H,I,h⟩
theorem Zch {e:Expr}{es:List Expr}{t:TG}{u:TGs}(h1:PG X e t) (h2:PGs X es u)
  (hs:(assignEach (e::es) X.env).map (·.2)=assign e X.env::(assignEach es X.env).map (·.2):=by rfl):PGs X (e::es) (gCons t u):=by
 intro pins s σ H vs us Q I r h;obtain⟨v,vr,e1,h⟩:=h;subst e1;cases r with
 |cons r rr=>
  rw[hs];refine assignInOrder_cons (thn (h1 pins s σ H _ _ _ I r h) λ_ s1 ⟨σ1,H1,I1,q1⟩=>?_);exact h2 pins s1 σ1 H1 _ _ Q I1 rr q1
def gTup (K:W.Frag) (n:Nat) (t:TGs):TG:=λv σ H Q=>∃a xs,v=.ref a/\SqT K H a xs/\xs.length=n/\t xs σ H Q
theorem Zqr {es:List Expr}{k:Nat}{t:TGs}{n:Nat}(hc:X.calm=true) (h:PGs X es t)
  (hn:(assignEach es X.env).length=n:=by rfl) (hst:(assignEach es X.env).findIdx? (·.1)=none:=by rfl):PG X (.Tuple es k pos) (gTup X.K n t):=by
 intro pins s σ H v u Q I r hw;obtain⟨a,xs,e1,hq,hl,hw⟩:=hw;subst e1;cases r;obtain⟨its,rv,ht,hz⟩:=I.tuple hq;refine assign_Tuple_tuple (I.ok.hd hc) ht (by simp[hn,<- hl,rv.length]) hst λh' hx=>?_;have I1:Inv X pins σ H { s with heap:=h' }:=I.kept (t':=s.toks) λb o e=>hx b o (War (Wai e)) e;exact h pins _ σ H xs _ Q I1 (by simpa using rv) hw
def gSub (to ti:TE) (t:TSet):TG:=λv σ H Q=>to σ H λo H1=>ti σ H1 λi H2=>t o i v H2 λH3=>Q σ H3
theorem Zin {o i:Expr}{to ti:TE}{t:TSet}(ho:PE X o to) (hi:PE X i ti) (hs:PSet X t)
  (ha:∀v,assign (.Subscript o i pos) X.env v=(do
   let ov ← holding [v] (eval o X.env)
   let iv ← holding [v,ov] (eval i X.env)
   standAt pos
   holding [v,ov,iv] (setItem ov iv v)
   release [v,ov,iv] []):=by intro _;rfl):PG X (.Subscript o i pos) (gSub to ti t):=by
 intro pins s σ H v u Q I r h;rw[ha];refine wpAny_bind (wpAny_holding (thn (ho pins s σ H _ I h) λov s1 ⟨x,H1,I1,r1,q1⟩=>?_));refine wpAny_bind (wpAny_holding (thn (hi pins s1 σ H1 _ I1 q1) λiv s2 ⟨y,H2,I2,r2,q2⟩=>?_));refine wpAny_bind (wpAny_standAt (wpAny_bind (wpAny_holding (thn (hs pins s2 σ H2 x y v ov iv u _ I2 r1 r2 r q2) λ_ s3 ⟨H3,I3,q3⟩=>?_))));exact wpAny_release ⟨σ,H3,I3,q3⟩
def tAsg (te:TE) (g:TG):TS:=λD σ H=>te σ H λx H1=>g x σ H1 D.nx
theorem Zgn {tg e:Expr}{te:TE}{g:TG}(he:PE X e te) (hg:PG X tg g) (hs:swapsWithSole [tg] e pos.line X.env=pure false:=by rfl) (hw:swappedStores [tg] e X.env=pure none:=by rfl)
  (h1:(assignEach [tg] X.env).map (·.2)=[assign tg X.env]:=by rfl):PS X (.Assign [tg] e pos) (tAsg te g):=by
 intro pins s σ H D I h;refine wpAny_Assign_stores (thn (he pins s σ H _ I h) λv s1 ⟨x,H1,I1,r1,q1⟩=>?_) hs hw;rw[h1];exact thn (hg pins s1 σ H1 x v _ I1 r1 q1) λ_ s2 q=>q
theorem Zaq {i:Nat}{x:Str}{e:Expr}{te:TE}{pos':Pos}(hN:X.N.Nodup) (hi:X.N[i]?=some x) (hx:Loc X.env.scope x) (he:PE X e te) (hs:swapsWith e (some (.Name x pos')) pos.line X.env=pure false:=by rfl) (hf:X.fn x=true\/X.env.scope.names.lookup x=some .local:=by first|exact .inl rfl|exact .inr rfl|assumption) :
  PS X (.Assign [.Name x pos'] e pos) (tAsg te (gName i)):=by
 intro pins s σ H D I h;refine wpAny_Assign_Name (thn (he pins s σ H _ I h) λv s1 ⟨y,H1,I1,r1,q1⟩=>?_) hs;exact Zda I1 hN hi hx r1 (λs2 I2=>⟨_,H1,I2,q1⟩) hf
def tPar (i j:Nat) (ta:TA):TS:=λD σ H=>ta σ H λvs H1=>∃v w,vs=[v,w]/\D.nx ((σ.set i (some v)).set j (some w)) H1
theorem Zex {i j:Nat}{x y:Str}{a b:Expr}{ta:TA}{px py pt:Pos}{kt k2 pt2} (hc:X.calm=true) (hN:X.N.Nodup) (hi:X.N[i]?=some x) (hj:X.N[j]?=some y) (hij:i≠j)
  (hx:X.env.scope.names.lookup x=some .local) (hy:X.env.scope.names.lookup y=some .local) (ha:PA X [a,b] ta)
  (hw:swappedStores [.Tuple [.Name x px,.Name y py] kt pt] (.Tuple [a,b] k2 pt2) X.env=pure (some [x,y]))
  (hs:swapsWithSole [.Tuple [.Name x px,.Name y py] kt pt] (.Tuple [a,b] k2 pt2) pos.line X.env=pure false:=by rfl) :
  PS X (.Assign [.Tuple [.Name x px,.Name y py] kt pt] (.Tuple [a,b] k2 pt2) pos) (tPar i j ta):=by
 intro pins s σ H D I h;rw[exec_Assign_arm];refine wpAny_bind (wpAny_standAt ?_);rw[hs];refine wpAny_bind (wpAny_pure ?_);rw[if_neg (by decide)];refine wpAny_bind (Tuple_ (thn (ha _ pins s σ H _ I h) λus s1 ⟨vs,H1,I1,r1,q1⟩=>?_));obtain⟨v,w,e1,q1⟩:=q1;subst e1;obtain⟨u1,u2,rfl,rv,rw'⟩:∃u1 u2,us=[u1,u2]/\RelV v u1/\RelV w u2:=by
  cases r1 with
  |cons p q=>
   cases q with
   |cons p' q'=>
    cases q';exact⟨_,_,rfl,p,p'⟩
 refine wpAny_newObj_type ?_ (by show 2<=sizeLine;decide);have I2:Inv X pins σ H1 { s1 with heap:=s1.heap.push { cls:=.type "tuple",data:=.seq [u1,u2].toArray } }:=I1.kept (t':=s1.toks) λb o e=>Wac _ e;rw[hw];refine wpAny_bind (wpAny_pure ?_);show wpAny (model X.prog X.w) X.A (do rule "assign.swapped-stores";let items ← unpackItems (.ref s1.heap.objs.size) 2 none;assignInOrder [λv=>bindName X.env y v,λv=>bindName X.env x v] items.reverse;pure Flow.next) _ _ _;refine wpAny_bind (wpAny_rule (wpAny_bind (unpackItems_tuple (items:=#[u1,u2]) (I.ok.hd hc) (IsTup.new s1.heap _) λh' hx'=>?_)));have I3:=I2.kept (h':=h') (t':=s1.toks) λb o e=>hx' b o (War (Wai e)) e;show wpAny _ _ (assignInOrder [λv=>bindName X.env y v,λv=>bindName X.env x v] [u2,u1] >>= λ_=>pure Flow.next) _ _ _;refine wpAny_bind (assignInOrder_cons (wpAny_bindName (Zda I3 hN hj (.inl hy) rw' (λs2 I4=>?_) (.inr hy))));refine assignInOrder_cons (wpAny_bindName (Zda I4 hN hi (.inl hx) rv (λs3 I5=>assignInOrder_nil (wpAny_pure ?_)) (.inr hx)));rw[List.set_comm _ _ (Ne.symm hij)]at I5;exact⟨_,H1,I5,q1⟩
def tAug (i:Nat) (te:TE) (ti:TIp):TS:=λD σ H=>∃x,σ[i]?=some (some x)/\te σ H λy H1=>ti x y H1 λz H2=>D.nx (σ.set i (some z)) H2
theorem Zrp {i:Nat}{x:Str}{e:Expr}{te:TE}{op:Operator}{ti:TIp}{pos':Pos}(hN:X.N.Nodup) (hi:X.N[i]?=some x) (hx:Loc X.env.scope x) (he:PE X e te) (ho:PIp X op ti) (hf:X.fn x=true\/X.env.scope.names.lookup x=some .local:=by first|exact .inl rfl|exact .inr rfl|assumption) :
  PS X (.AugAssign (.Name x pos') op e pos) (tAug i te ti):=by
 intro pins s σ H D I h;obtain⟨v,e1,h⟩:=h;obtain⟨m,hn,hl⟩:=I.loc;have vis:Vis X.env.scope x:=by rcases hx with k|k;exact .inl k;exact .inr (.inl k)
 obtain⟨u,r,l⟩:=hl i x v hi e1 vis;refine wpAny_AugAssign_Name ?_;have go:wpAny (model X.prog X.w) X.A (eval e X.env) (λw s₂=>wpAny (model X.prog X.w) X.A (inplaceOp op u w) (λr s₃=>wpAny (model X.prog X.w) X.A (storeName X.env x r) (λ_=>SP X pins D .next) X.xe s₃) X.xe s₂) X.xe s:=by
  refine thn (he pins s σ H _ I h) λw s1 ⟨y,H1,I1,r1,q1⟩=>?_;refine thn (ho pins s1 σ H1 v y u w _ I1 r r1 q1) λz s2 ⟨zv,H2,I2,r2,q2⟩=>?_;exact Zda I2 hN hi hx r2 (λs3 I3=>⟨_,H2,I3,q2⟩) hf
 rcases l with ⟨hk,hm⟩|⟨hk,c,hc,hcell⟩
 ·exact wpAny_loadName_local I.ok.kind hk hn hm go
 ·rcases hk with hk|hk
  ·exact wpAny_loadName_cell I.ok.kind hk hc hcell go
  ·rcases hx with k|k
   ·have:X.env.scope.names.lookup x=some .free:=hk
    rw[k]at this;cases this
   ·have:X.env.scope.names.lookup x=some .free:=hk
    rw[k]at this;cases this
def ipI (f:Int->Int->Int):TIp:=λx y H Q=>∃i j,x=.int i/\y=.int j/\Q (.int (f i j)) H
theorem Zqe:PIp X .Add (ipI λi j=>i+j):=by
 intro pins s σ H x y v u Q I r1 r2 h;obtain⟨i,j,e1,e2,q⟩:=h;subst e1;subst e2;obtain⟨t,rfl⟩:=r1;obtain⟨t',rfl⟩:=r2;exact iadd_int ⟨.int _,H,I.tok _,⟨_,rfl⟩,q⟩
def tWhile (c:TT) (tb:TS):TS:=λD σ H=>∃W:Nat->St->Hp->Prop,(∃m,W m σ H)/\∀m σ H,W m σ H →
 c σ H λb H1=>if b=true then ∃N:St->Hp->Prop,(∀σ' H',N σ' H' -> ∃m',m'<m/\W m' σ' H')/\tb { D with nx:=N,ct:=N,bk:=D.nx } σ H1 else D.nx σ H1
theorem Zlz {c:Expr}{body:List Stmt}{tc:TT}{tb:TS}(hp:PassesOwn (model X.prog X.w) X.A X.env X.xe) (hc:PT X c tc) (hb:PSs X body tb):PS X (.While c body [] pos) (tWhile tc tb):=by
 intro pins s σ H D I h;obtain⟨W,⟨m0,w0⟩,turn⟩:=h;refine wpAny_While (codeAny_whileLoop (λn s'=>∃σ' H',Inv X pins σ' H' s' /\ W n σ' H') ?_ m0 ⟨σ,H,I,w0⟩);rintro n s1 ⟨σ1,H1,I1,w1⟩;refine wpAny_passesOwn hp (thn (hc pins s1 σ1 H1 _ I1 (turn n σ1 H1 w1)) λb s2 ⟨H2,I2,q2⟩=>?_);cases b with
 |true=>
  obtain⟨N,hN,q2⟩:=q2;rw[if_pos rfl];refine wpAny_passesOwn hp (thn (hb pins s2 σ1 H2 _ I2 q2) λf s3 q3=>?_);cases f with
  |next=>
   obtain⟨σ3,H3,I3,n3⟩:=q3;obtain⟨m',hm,w3⟩:=hN σ3 H3 n3;exact⟨m',hm,σ3,H3,I3,w3⟩
  |cont=>
   obtain⟨σ3,H3,I3,n3⟩:=q3;obtain⟨m',hm,w3⟩:=hN σ3 H3 n3;exact⟨m',hm,σ3,H3,I3,w3⟩
  |brk=>exact q3
  |ret v=>exact q3
 |false=>
  rw[if_neg Wat];exact wpAny_execs_nil ⟨σ1,H2,I2,q2⟩
end
structure It where
 go:Nat->Hp->Prop
 yld:Nat->Hp->V->Hp->Prop
 stop:Nat->Hp->Prop
def FpOk (X:Cx) (pins:List (Addr × Obj)) (H:Hp) (b:Addr):Prop:=
 H b=none/\b≠X.env.locals/\b ∉ X.fs/\(b∈X.ex\/X.s₀.heap.objs.size<=b)/\(∀x c,X.env.cells.lookup x=some c->c≠b)/\∀p∈X.pn++pins,p.1≠b
theorem Inv.fpOk {X:Cx}{pins:List (Addr × Obj)}{σ:St}{H H':Hp}{s:Shared}{b:Addr}(I:Inv X pins σ H s) (hb:s.heap.objs.size<=b) (hn:H' b=none):FpOk X pins H' b:=by
 refine⟨hn,Wb9 (Wa0 I.lt hb),I.nofs hb,.inr (Wbi I.sz hb),λx c e z=>?_,λp hp z=>?_⟩
 ·obtain⟨v,q⟩:=I.cell x c e
  exact absurd (Wa0 q.lt (by rw[z];exact hb)) (Wci _)
 ·exact absurd (Wa0 (Wai (I.pin p hp).1) (by rw[z];exact hb)) (Wci _)
structure TurnG (Cm:Cx->Prop) (P:Program) (w:World) (K:W.Frag) (tg:Expr) (J:It) (fp:List Addr) (it:Addr) (tn:Nat->Heap->Prop):Prop where
 mem:it∈fp
 obj:∀i h,tn i h->∀b∈fp,∃o,h.get? b=some o/\∀v,o.data≠.cell v
 keep:∀i h h',tn i h->(∀b∈fp,∀o,h.get? b=some o->h'.get? b=some o)->tn i h'
 item:∀(X:Cx),X.prog=P->X.w=w->X.K=K->Cm X->∀(i:Nat) (pins:List (Addr × Obj)) (s:Shared) (σ:St) (H:Hp) (E:Value->Shared->Prop),Inv X pins σ H s->(∀b∈fp,FpOk X pins H b)->tn i s.heap->J.go i H →
  wpAny (model P w) X.A (pyNext (.ref it)) (λr s1=>∃u,r=some u ∧
   wpAny (model P w) X.A (letOwnedTupleGo tg (.ref it) u) (λ_ s2=>∃x H',Inv X pins σ H' s2/\RelV x u/\J.yld i H x H' /\ tn (i+1) s2.heap/\∀b∈fp,H' b=none) E s1) E s
 done:∀(X:Cx),X.prog=P->X.w=w->X.K=K->Cm X->∀(i:Nat) (pins:List (Addr × Obj)) (s:Shared) (σ:St) (H:Hp) (E:Value->Shared->Prop),Inv X pins σ H s->(∀b∈fp,FpOk X pins H b)->tn i s.heap->J.stop i H →
  wpAny (model P w) X.A (pyNext (.ref it)) (λr s1=>r=none/\Inv X pins σ H s1) E s
 self:∀(A:Around) (i:Nat) (s:Shared) (Q:Value->Shared->Prop) (E:Value->Shared->Prop),tn i s.heap->Q (.ref it) s->wpAny (model P w) A (pyIter (.ref it)) Q E s
abbrev Turn:=TurnG λX=>X.calm=true
abbrev TI:=St->Hp->(It->Hp->Prop)->Prop
def PIEG (Cm:Cx->Prop) (X:Cx) (pins:List (Addr × Obj)) (σ:St) (tg:Expr) (R:It->Hp->Prop) (itv:Value) (s2:Shared):Prop:=
 ∃(it:Addr) (fp:List Addr) (tn:Nat->Heap->Prop) (J:It) (H':Hp),itv=.ref it/\Inv X pins σ H' s2/\TurnG Cm X.prog X.w X.K tg J fp it tn/\tn 0 s2.heap/\(∀b∈fp,FpOk X pins H' b)/\R J H'
def PIG (Cm:Cx->Prop) (X:Cx) (tg iter:Expr) (wi:TI):Prop:=
 ∀(pins:List (Addr × Obj)) (s:Shared) (σ:St) (H:Hp) (R:It->Hp->Prop),Inv X pins σ H s->wi σ H R →
  wpAny (model X.prog X.w) X.A (eval iter X.env) (λv s1=>wpAny (model X.prog X.w) X.A (pyIter v) (PIEG Cm X pins σ tg R) X.xe s1) X.xe s
abbrev PIE:=PIEG λX=>X.calm=true
abbrev PI:=PIG λX=>X.calm=true
theorem Zma {M:Model}{A:Around}{E:Value->Shared->Prop}{s:Shared}{tg:Expr}{it:Addr}{u:Value}{o:Obj}{n:String}{vs:Array Value}{Q:Unit->Shared->Prop}(ho:s.heap.get? it=some o) (hc:o.cls=.type n) (hd:o.data=.fields vs)
  (hn:["enumerate","zip","dict_itemiterator","dict_reverseitemiterator","odict_iterator","itertools.zip_longest","itertools.pairwise"].contains n=false) (hQ:Q () s):wpAny M A (letOwnedTupleGo tg (.ref it) u) Q E s:=by
 unfold letOwnedTupleGo;cases tg <;> first
  |exact wpAny_pure hQ
  | (cases u <;> first
      |exact wpAny_pure hQ
      | (refine wpAny_bind (wpAny_load ho ?_)
         rw[hc,hd];show wpAny M A (if (["enumerate","zip","dict_itemiterator","dict_reverseitemiterator","odict_iterator","itertools.zip_longest","itertools.pairwise"].contains n && vs[0]? == some (rawInt _))=true then _ else _) Q E s;rw[if_neg (by intro h;rw[hn,Wct]at h;cases h)];exact wpAny_pure hQ))
def Itl (K:W.Frag) (a:Addr):It:=
 ⟨λi H=>∃xs x,SqL K H a xs/\xs[i]?=some x,λi H x H'=>H'=H/\∀xs,SqL K H a xs->xs[i]?=some x,λi H=>∃xs,SqL K H a xs/\xs.length<=i⟩
def Itt (K:W.Frag) (a:Addr):It:=
 ⟨λi H=>∃xs x,SqT K H a xs/\xs[i]?=some x,λi H x H'=>H'=H/\∀xs,SqT K H a xs->xs[i]?=some x,λi H=>∃xs,SqT K H a xs/\xs.length<=i⟩
def Itr (lo:Int) (n:Nat):It:=⟨λi _=>i<n,λi H x H'=>H'=H/\x=.int (lo+i),λi _=>n<=i⟩
theorem Zj9 {P:Program}{w:World}{K:W.Frag}{tg:Expr}(a it:Addr):Turn P w K tg (Itl K a) [it] it (λi h=>h.IsListIter it a i) where
 mem:=by simp
 obj:=λi h st b hb=>by
  have e:b=it:=by simpa using hb
  subst e;obtain⟨o,e,c,d⟩:=st;exact⟨o,e,λv z=>by rw[d]at z;cases z⟩
 keep:=λi h h' st k=>st.at λo e=>k it (by simp) o e
 item:=by
  intro X hP hw hK hc i pins s σ H E I hf st hg;subst hP hw hK;obtain⟨xs,x,hq,hx⟩:=hg;obtain⟨its,rv,p,hz⟩:=I.list hq;obtain⟨u,hu,ru⟩:=rv.get hx;obtain⟨f0,f1,f2,f3,f4,f5⟩:=hf it (by simp);refine wpAny_pyNext_list_item st p.isList (x:=u) (by simpa using hu) λh' st' sb=>?_;have I1:Inv X pins σ H { s with heap:=h' }:=I.turned (t':=s.toks) (λb o hb e=>(sb.2 b hb).trans e) f0 f1 f3 f4 f5;obtain⟨o,e,c,d⟩:=id st';exact⟨u,rfl,Zma (s:={ s with heap:=h' }) e c d (by decide) ⟨x,H,I1,ru,⟨rfl,λys hy=>by rw[I.list_inj hy hq];exact hx⟩,st',λb hb=>(hf b hb).1⟩⟩
 done:=by
  intro X hP hw hK hc i pins s σ H E I hf st hg;subst hP hw hK;obtain⟨xs,hq,hx⟩:=hg;obtain⟨its,rv,p,hz⟩:=I.list hq;obtain⟨f0,f1,f2,f3,f4,f5⟩:=hf it (by simp);have hl:=rv.length;exact wpAny_pyNext_list_end (I.ok.hd hc) st p.isList (by simp;omega) λh' eb=>⟨rfl,I.turned (t':=s.toks) (λb o hb e=>eb b o hb e) f0 f1 f3 f4 f5⟩
 self:=λ_ _ _ _ _ st h=>wpAny_pyIter_listiter st h
theorem Zit {P:Program}{w:World}{K:W.Frag}{tg:Expr}(a it:Addr):Turn P w K tg (Itt K a) [it] it (λi h=>h.IsTupleIter it a i) where
 mem:=by simp
 obj:=λi h st b hb=>by
  have e:b=it:=by simpa using hb
  subst e;obtain⟨o,e,c,d⟩:=st;exact⟨o,e,λv z=>by rw[d]at z;cases z⟩
 keep:=λi h h' st k=>st.at λo e=>k it (by simp) o e
 item:=by
  intro X hP hw hK hc i pins s σ H E I hf st hg;subst hP hw hK;obtain⟨xs,x,hq,hx⟩:=hg;obtain⟨its,rv,p,hz⟩:=I.tuple hq;obtain⟨u,hu,ru⟩:=rv.get hx;obtain⟨f0,f1,f2,f3,f4,f5⟩:=hf it (by simp);refine wpAny_pyNext_tuple_item st (show s.heap.IsTuple a its.toArray from p) (x:=u) (by simpa using hu) λh' st' sb=>?_;have I1:Inv X pins σ H { s with heap:=h' }:=I.turned (t':=s.toks) (λb o hb e=>(sb.2 b hb).trans e) f0 f1 f3 f4 f5;obtain⟨o,e,c,d⟩:=id st';exact⟨u,rfl,Zma (s:={ s with heap:=h' }) e c d (by decide) ⟨x,H,I1,ru,⟨rfl,λys hy=>by rw[I.tuple_inj hy hq];exact hx⟩,st',λb hb=>(hf b hb).1⟩⟩
 done:=by
  intro X hP hw hK hc i pins s σ H E I hf st hg;subst hP hw hK;obtain⟨xs,hq,hx⟩:=hg;obtain⟨its,rv,p,hz⟩:=I.tuple hq;obtain⟨f0,f1,f2,f3,f4,f5⟩:=hf it (by simp);have hl:=rv.length;exact wpAny_pyNext_tuple_end (I.ok.hd hc) st (show s.heap.IsTuple a its.toArray from p) (by simp;omega) λh' eb=>⟨rfl,I.turned (t':=s.toks) (λb o hb e=>eb b o hb e) f0 f1 f3 f4 f5⟩
 self:=λ_ _ _ _ _ st h=>wpAny_pyIter_tupleiter st h
theorem Ziq {P:Program}{w:World}{K:W.Frag}{tg:Expr}(it:Addr) (lo:Int) (n:Nat):Turn P w K tg (Itr lo n) [it] it (λi h=>IsRangeIter h it (lo+(i:Nat)*1) ((n:Int)-(i:Nat)) 1) where
 mem:=by simp
 obj:=λi h st b hb=>by
  have e:b=it:=by simpa using hb
  subst e;exact⟨_,st,λv z=>by
   have z':Data.fields _=Data.cell v:=z;cases z'⟩
 keep:=λi h h' st k=>k it (by simp) _ st
 item:=by
  intro X hP hw hK hc i pins s σ H E I hf st hg;subst hP hw hK;obtain⟨f0,f1,f2,f3,f4,f5⟩:=hf it (by simp);have W:=Walks.range (prog:=X.prog) (w:=X.w) (I.ok.hd hc) it lo 1 n;refine W.item i s _ _ hg st λv h' tk hv st' kk=>?_;obtain⟨t,rfl⟩:=hv;have I1:Inv X pins σ H { s with heap:=h',toks:=tk }:=I.turned (λb o hb e=>kk b o (by simpa using hb) e) f0 f1 f3 f4 f5;refine⟨_,rfl,Zma (s:={ s with heap:=h',toks:=tk }) (n:="range_iterator") st' rfl rfl (by decide) ⟨.int (lo+i),H,I1,⟨t,?_⟩,⟨rfl,rfl⟩,st',λb hb=>(hf b hb).1⟩⟩;rw[Int.mul_one]
 done:=by
  intro X hP hw hK hc i pins s σ H E I hf st hg;subst hP hw hK;obtain⟨f0,f1,f2,f3,f4,f5⟩:=hf it (by simp);exact wpAny_pyNext_range_end (I.ok.hd hc) st (by have:n<=i:=hg;omega) λh' eb=>⟨rfl,I.turned (t':=s.toks) (λb o hb e=>eb b o hb e) f0 f1 f3 f4 f5⟩
 self:=λ_ _ _ _ _ st h=>wpAny_pyIter_rangeiter st h
end L2
namespace L2
open PySem PySem.Spec PyProof.Rows
section
variable {X:Cx}{tg:Expr}
def iList (K:W.Frag) (tl:TE):TI:=λσ H R=>tl σ H λx H1=>∃a,x=.ref a/\(∃xs,SqL K H1 a xs)/\R (Itl K a) H1
def iTup (K:W.Frag) (tl:TE):TI:=λσ H R=>tl σ H λx H1=>∃a,x=.ref a/\(∃xs,SqT K H1 a xs)/\R (Itt K a) H1
theorem Znt {l:Expr}{tl:TE}(hl:PE X l tl):PI X tg l (iList X.K tl):=by
 intro pins s σ H R I h;refine thn (hl pins s σ H _ I h) λv s1 ⟨x,H1,I1,r1,q1⟩=>?_;obtain⟨a,e,⟨xs,hq⟩,q⟩:=q1;subst e;cases r1;obtain⟨its,rv,p,hz⟩:=I1.list hq;refine wpAny_pyIter_list p.isList ?_;refine⟨s1.heap.objs.size,[s1.heap.objs.size],_,_,H1,rfl,I1.kept (t':=s1.toks) λb o e=>Wac _ e,Zj9 a _,⟨_,Wao _ rfl,rfl,rfl⟩,λb hb=>?_,q⟩;have e:b=s1.heap.objs.size:=by simpa using hb
 subst e;exact I1.fpOk (Waj _) (I1.hok.fresh (Waj _))
theorem Zpi {l:Expr}{tl:TE}(hl:PE X l tl):PI X tg l (iTup X.K tl):=by
 intro pins s σ H R I h;refine thn (hl pins s σ H _ I h) λv s1 ⟨x,H1,I1,r1,q1⟩=>?_;obtain⟨a,e,⟨xs,hq⟩,q⟩:=q1;subst e;cases r1;obtain⟨its,rv,p,hz⟩:=I1.tuple hq;refine wpAny_pyIter_tuple (show s1.heap.IsTuple a its.toArray from p) ?_;refine⟨s1.heap.objs.size,[s1.heap.objs.size],_,_,H1,rfl,I1.kept (t':=s1.toks) λb o e=>Wac _ e,Zit a _,⟨_,Wao _ rfl,rfl,rfl⟩,λb hb=>?_,q⟩;have e:b=s1.heap.objs.size:=by simpa using hb
 subst e;exact I1.fpOk (Waj _) (I1.hok.fresh (Waj _))
theorem range_it {pins:List (Addr × Obj)}{σ:St}{H:Hp}{s:Shared}{R:It->Hp->Prop}{E:Value->Shared->Prop}{lo hi:Int}{t u v:Tok}{tk:Nat}(I:Inv X pins σ H s) (h1:-(2 ^ 62)<=lo) (h2:lo<2 ^ 62) (h3:-(2 ^ 62)<=hi) (h4:hi<2 ^ 62)
  (q:R (Itr lo (hi-lo).toNat) H):wpAny (model X.prog X.w) X.A (pyIter (.ref s.heap.objs.size)) (PIE X pins σ tg R) E { s with heap:=s.heap.push { cls:=.type "range",data:=.fields #[.int lo t,.int hi u,.int 1 v] },toks:=tk }:=by
 refine wpAny_pyIter_range (IsRange.new ..) (small_one h1 h2 h3 h4) ?_;have I1:Inv X pins σ H { s with heap:=s.heap.push { cls:=.type "range",data:=.fields #[.int lo t,.int hi u,.int 1 v] },toks:=tk }:=I.kept λb o e=>Wac _ e;refine⟨(s.heap.push { cls:=.type "range",data:=.fields #[.int lo t,.int hi u,.int 1 v] }).objs.size,[(s.heap.push { cls:=.type "range",data:=.fields #[.int lo t,.int hi u,.int 1 v] }).objs.size],_,_,H,rfl,
  I1.kept (t':=tk) λb o e=>Wac _ e,Ziq _ lo (hi-lo).toNat,?_,λb hb=>?_,q⟩
 ·have e1:lo+((0:Nat):Int)*1=lo:=by simp
  have e2:(((hi-lo).toNat:Nat):Int)-((0:Nat):Int)=Builtin.Range.rangeSize lo hi 1:=by rw[rangeSize_one];split <;> omega
  show IsRangeIter _ _ (lo+((0:Nat):Int)*1) ((((hi-lo).toNat:Nat):Int)-((0:Nat):Int)) 1;rw[e1,e2];exact Wao _ rfl
 ·have e:b=(s.heap.push { cls:=.type "range",data:=.fields #[.int lo t,.int hi u,.int 1 v] }).objs.size:=by simpa using hb
  subst e;exact I1.fpOk (Waj _) (I1.hok.fresh (Waj _))
def iRng1 (ta:TA):TI:=λσ H R=>ta σ H λvs H1=>∃j:Int,vs=[.int j] /\ -(2 ^ 62)<=j/\j<2 ^ 62/\R (Itr 0 j.toNat) H1
theorem Za7 {a:Expr}{ta:TA}{p pos:Pos}(hg:Gl X "range") (hm:X.mg "range" = none) (ha:PA X [a] ta) (hs:starEach [a] X.env=[(false,eval a X.env)]:=by rfl):PI X tg (.Call (.Name "range" p) [a] [] pos) (iRng1 ta):=by
 intro pins s σ H R I h;refine Call_ (Zdg I hg hm boot_range (PyProof.Rows.callWith_type1 (thn (ha pos pins s σ H _ I h) λus s1 ⟨vs,H1,I1,r1,q1⟩=>?_) hs rfl));obtain⟨j,e,q1,q2,q⟩:=q1;subst e;cases r1 with
 |cons r rr=>
  cases rr;obtain⟨t,rfl⟩:=r;exact call_range_1 (range_it I1 (by omega) (by omega) q1 q2 (by simpa using q))
def tFor (wi:TI) (g:TG) (tb:TS):TS:=λD σ H=>wi σ H λJ H1=>∃W:Nat->Nat->St->Hp->Prop,(∃m,W 0 m σ H1)/\∀i m σ H,W i m σ H →
 (J.stop i H/\D.nx σ H)\/(J.go i H/\∃N:St->Hp->Prop,(∀σ' H',N σ' H' -> ∃m',m'<m/\W (i+1) m' σ' H')/\∀x H',J.yld i H x H' -> g x σ H' λσ2 H2=>tb { D with nx:=N,ct:=N,bk:=D.nx } σ2 H2)
def pinsAt (fp:List Addr) (h:Heap):List (Addr × Obj):=fp.filterMap λb=>(h.get? b).map λo=>(b,o)
theorem Zb2 {fp:List Addr}{h:Heap}{b:Addr}{o:Obj}(hb:b∈fp) (e:h.get? b=some o):(b,o)∈pinsAt fp h:=List.mem_filterMap.mpr ⟨b,hb,by rw[e];rfl⟩
theorem Zki {fp:List Addr}{h:Heap}{p:Addr × Obj}(hp:p∈pinsAt fp h):p.1∈fp/\h.get? p.1=some p.2:=by
 obtain⟨b,hb,e⟩:=List.mem_filterMap.mp hp;cases q:h.get? b with
 |none=>rw[q]at e;cases e
 |some o=>
  rw[q]at e;have e':(b,o)=p:=Wa5.inj e;subst e';exact⟨hb,q⟩
theorem Inv.pinned {pins:List (Addr × Obj)}{σ:St}{H:Hp}{s:Shared}{fp:List Addr}(I:Inv X pins σ H s) (hf:∀b∈fp,FpOk X pins H b) (ho:∀b∈fp,∃o,s.heap.get? b=some o/\∀v,o.data≠.cell v):Inv X (pins++pinsAt fp s.heap) σ H s:=
 I.pins_of λp hp=>(Wbj.mp hp).elim (λz=>I.pin p (Wax _ z)) λz=>by
  obtain⟨hb,e⟩:=Zki z;obtain⟨f0,f1,f2,_⟩:=hf p.1 hb;obtain⟨o,e',d⟩:=ho p.1 hb;rw[e]at e';cases e';exact⟨e,f0,f1,f2,d⟩
theorem Inv.unpinned {pins pl:List (Addr × Obj)}{σ:St}{H:Hp}{s:Shared}(I:Inv X (pins++pl) σ H s):Inv X pins σ H s:=I.pins_of λp hp=>I.pin p (Wax _ (Wb0 _ hp))
theorem Zc2 {iter:Expr}{body:List Stmt}{wi:TI}{g:TG}{tb:TS}{pos:Pos}(hp:PassesOwn (model X.prog X.w) X.A X.env X.xe) (hc:X.calm=true) (hi:PI X tg iter wi) (hg:PG X tg g) (hb:PSs X body tb)
  (hs:∀x,foldedSetIterable iter X.env x=pure x:=by intro _;rfl):PS X (.For tg iter body [] pos) (tFor wi g tb):=by
 intro pins s σ H D I h;refine wpAny_For (thn (hi pins s σ H _ I h) λv s1 h1=>thn h1 λitv s2 h2=>?_) hs;obtain⟨it,fp,tn,J,H2,e,I2,T,st2,f2,W,⟨m0,w0⟩,turn⟩:=h2;subst e
 -- what stays true of the iterator's objects through the loop
 have stat:∀{H':Hp},(∀b∈fp,H' b=none)->∀b∈fp,FpOk X pins H' b:=λhn b hb=>⟨hn b hb,(f2 b hb).2⟩;refine codeAny_forLoop_any (λn s'=>∃i σ' H',Inv X pins σ' H' s' /\ tn i s'.heap/\(∀b∈fp,H' b=none)/\W i n σ' H') ?_ m0 ⟨0,σ,H2,I2,st2,λb hb=>(f2 b hb).1,w0⟩;rintro n s3 ⟨i,σ3,H3,I3,st3,fr3,w3⟩;rcases turn i n σ3 H3 w3 with ⟨stop,qn⟩|⟨go,N,hN,step⟩
 ·refine wpAny_passesOwn hp (thn (T.done X rfl rfl rfl hc i pins s3 σ3 H3 X.xe I3 (stat fr3) st3 stop) λr s4 ⟨hr,I4⟩=>?_)
  subst hr;exact wpAny_execs_nil ⟨σ3,H3,I4,qn⟩
 ·refine wpAny_passesOwn hp (thn (T.item X rfl rfl rfl hc i pins s3 σ3 H3 X.xe I3 (stat fr3) st3 go) λr s4 ⟨u,hr,h4⟩=>?_)
  subst hr;refine wpAny_passesOwn hp (thn h4 λ_ s5 ⟨x,H5,I5,r5,y5,st5,fr5⟩=>?_);have I5':=I5.pinned (stat fr5) (T.obj _ _ st5);refine wpAny_passesOwn hp (thn (hg _ s5 σ3 H5 x u _ I5' r5 (step x H5 y5)) λ_ s6 ⟨σ6,H6,I6,q6⟩=>?_);refine wpAny_passesOwn hp (thn (hb _ s6 σ6 H6 _ I6 q6) λf s7 q7=>?_);have again:∀{σ7:St}{H7:Hp},Inv X (pins++pinsAt fp s5.heap) σ7 H7 s7->N σ7 H7->∃m,m<n/\∃i σ' H',Inv X pins σ' H' s7/\tn i s7.heap/\(∀b∈fp,H' b=none)/\W i m σ' H':=λ{σ7 H7} I7 n7=>by
   obtain⟨m',hm,w7⟩:=hN σ7 H7 n7;refine⟨m',hm,i+1,σ7,H7,I7.unpinned,T.keep _ _ _ st5 λb hb o e=>(I7.pin (b,o) (Wax _ (Wax _ (Zb2 hb e)))).1,λb hb=>?_,w7⟩;obtain⟨o,e,d⟩:=T.obj _ _ st5 b hb;exact(I7.pin (b,o) (Wax _ (Wax _ (Zb2 hb e)))).2.1
  cases f with
  |next=>obtain⟨σ7,H7,I7,n7⟩:=q7;exact again I7 n7
  |cont=>obtain⟨σ7,H7,I7,n7⟩:=q7;exact again I7 n7
  |brk=>obtain⟨σ7,H7,I7,q7⟩:=q7;exact⟨σ7,H7,I7.unpinned,q7⟩
  |ret v=>obtain⟨x7,σ7,H7,I7,r7,q7⟩:=q7;exact⟨x7,σ7,H7,I7.unpinned,r7,q7⟩
end
end L2
namespace L2
open PySem PySem.Spec PyProof.Rows
abbrev R2:=V->V->Hp->VK->Prop
def OpR (X:Cx) (f:Value->Value->Sem Value) (r:R2):Prop:=
 ∀(pins:List (Addr × Obj)) (s:Shared) (σ:St) (H:Hp) (x y:V) (v u:Value) (Q:VK),Inv X pins σ H s->RelV x v->RelV y u->r x y H Q →
  wpAny (model X.prog X.w) X.A (f v u) (EP X pins σ Q) X.xe s
def CallR (X:Cx) (f:Value) (r:List V->Hp->VK->Prop):Prop:=
 ∀(pins:List (Addr × Obj)) (s:Shared) (σ:St) (H:Hp) (xs:List V) (us:List Value) (Q:VK),Inv X pins σ H s->Vals xs us->r xs H Q →
  wpAny (model X.prog X.w) X.A (call f us) (EP X pins σ Q) X.xe s
def TruR (X:Cx) (r:V->Hp->(Bool->Hp->Prop)->Prop):Prop:=
 ∀(pins:List (Addr × Obj)) (s:Shared) (σ:St) (H:Hp) (x:V) (v:Value) (Q:Bool->Hp->Prop),Inv X pins σ H s->RelV x v->r x H Q →
  wpAny (model X.prog X.w) X.A (truthy v) (TP X pins σ Q) X.xe s
def tOp (r:R2) (ta tb:TE):TE:=λσ H Q=>ta σ H λx H1=>tb σ H1 λy H2=>r x y H2 Q
def tUn (r:V->Hp->VK->Prop) (ta:TE):TE:=λσ H Q=>ta σ H λx H1=>r x H1 Q
def rI (C:Int->Int->Prop) (g:Int->Int->V):R2:=λx y H Q=>∃i j,x=.int i/\y=.int j/\C i j/\Q (g i j) H
def rI0 (g:Int->Int->V):R2:=λx y H Q=>∃i j,x=.int i/\y=.int j/\Q (g i j) H
section
variable {X:Cx}{a b c:Expr}{ta tb tc:TE}{pos:Pos}
theorem binT (ha:PE X a ta) (hb:PE X b tb) {pins:List (Addr × Obj)}{s:Shared}{σ:St}{H:Hp}{R:V->V->Hp->Prop}(I:Inv X pins σ H s)
  (h:ta σ H λx H1=>tb σ H1 λy H2=>R x y H2) {Q:Value->Shared->Prop}{f:Value->Value->Sem Value}
  (hf:∀v u s2 x y H2,Inv X pins σ H2 s2->RelV x v->RelV y u->R x y H2->wpAny (model X.prog X.w) X.A (f v u) Q X.xe s2) :
  wpAny (model X.prog X.w) X.A (eval a X.env) (λv s₁=>wpAny (model X.prog X.w) X.A (eval b X.env) (λu s₂=>wpAny (model X.prog X.w) X.A (f v u) Q X.xe s₂) X.xe s₁) X.xe s:=by
 refine thn (ha pins s σ H _ I h) λv s1 ⟨x,H1,I1,r1,q1⟩=>?_;refine thn (hb pins s1 σ H1 _ I1 q1) λu s2 ⟨y,H2,I2,r2,q2⟩=>?_;exact hf v u s2 x y H2 I2 r1 r2 q2
theorem Zav {op:Operator}{r:R2}(ho:OpR X (binaryOp op) r) (ha:PE X a ta) (hb:PE X b tb):PE X (.BinOp a op b pos) (tOp r ta tb):=by
 intro pins s σ H Q I h;exact wpAny_BinOp (binT ha hb I h λv u s2 x y H2 I2 rx ry q=>ho pins s2 σ H2 x y v u Q I2 rx ry q)
theorem opI {f:Value->Value->Sem Value}{C:Int->Int->Prop}{g:Int->Int->Int}
  (rule:∀(i j:Int) (t u:Tok) (s:Shared) (Q:Value->Shared->Prop) (E:Value->Shared->Prop),C i j->Q (.int (g i j) s.toks) { s with toks:=s.toks+1 } -> wpAny (model X.prog X.w) X.A (f (.int i t) (.int j u)) Q E s) :
  OpR X f (rI C λi j=>.int (g i j)):=by
 intro pins s σ H x y v u Q I rx ry h;obtain⟨i,j,rfl,rfl,hc,q⟩:=h;obtain⟨t,rfl⟩:=rx;obtain⟨t',rfl⟩:=ry;exact rule i j t t' s _ _ hc ⟨.int (g i j),H,I.tok _,⟨_,rfl⟩,q⟩
theorem opI0 {f:Value->Value->Sem Value}{g:Int->Int->Int}
  (rule:∀(i j:Int) (t u:Tok) (s:Shared) (Q:Value->Shared->Prop) (E:Value->Shared->Prop),Q (.int (g i j) s.toks) { s with toks:=s.toks+1 } -> wpAny (model X.prog X.w) X.A (f (.int i t) (.int j u)) Q E s) :
  OpR X f (rI0 λi j=>.int (g i j)):=by
 intro pins s σ H x y v u Q I rx ry h;obtain⟨i,j,rfl,rfl,q⟩:=h;obtain⟨t,rfl⟩:=rx;obtain⟨t',rfl⟩:=ry;exact rule i j t t' s _ _ ⟨.int (g i j),H,I.tok _,⟨_,rfl⟩,q⟩
theorem opB0 {f:Value->Value->Sem Value}{g:Int->Int->Bool}
  (rule:∀(i j:Int) (t u:Tok) (s:Shared) (Q:Value->Shared->Prop) (E:Value->Shared->Prop),Q (.bool (g i j)) s->wpAny (model X.prog X.w) X.A (f (.int i t) (.int j u)) Q E s) :
  OpR X f (rI0 λi j=>.bl (g i j)):=by
 intro pins s σ H x y v u Q I rx ry h;obtain⟨i,j,rfl,rfl,q⟩:=h;obtain⟨t,rfl⟩:=rx;obtain⟨t',rfl⟩:=ry;exact rule i j t t' s _ _ ⟨.bl (g i j),H,I,rfl,q⟩
def CDiv (i j:Int):Prop:=0<j/\j<1073741824
def CPow (i j:Int):Prop:=0<=j/\j<=1000000/\i.natAbs<2 ^ 64
def CMul (i j:Int):Prop:=(-(2 ^ 64)<i/\i<2 ^ 64)\/(-(2 ^ 64)<j/\j<2 ^ 64)
theorem CMul.ok {i j:Int}(h:CMul i j):IntMulOk i j:=by
 rcases h with ⟨h1,h2⟩|⟨h1,h2⟩
 ·exact .of_left (intBits_le_64 h1 h2)
 ·exact .of_right (intBits_le_64 h1 h2)
theorem Zpr:OpR X (binaryOp .Add) (rI0 λi j=>.int (i+j)):=opI0 λ_ _ _ _ _ _ _ q=>add_int q
theorem Zno:OpR X (binaryOp .Sub) (rI0 λi j=>.int (i-j)):=opI0 λ_ _ _ _ _ _ _ q=>sub_int q
theorem Zc6:OpR X (binaryOp .Mult) (rI CMul λi j=>.int (i*j)):=opI λ_ _ _ _ _ _ _ hc q=>mul_int q hc.ok
theorem Zhf:OpR X (binaryOp .FloorDiv) (rI CDiv λi j=>.int (i / j)):=opI λi j _ _ _ _ _ hc q=>by
 have h1:(0:Int)<j:=hc.1;have h2:j<1073741824:=hc.2;exact floordiv_int (by omega) (by rw[Int.fdiv_eq_ediv_of_nonneg i (by omega)];exact q) (.inl (PyProof.noPylong_small (by omega)))
theorem Zcd:OpR X (binaryOp .Mod) (rI (λ_ j=>0<j) λi j=>.int (i % j)):=opI λi j _ _ _ _ _ hc q=>by
 have h1:(0:Int)<j:=hc;exact mod_int' (by omega) (by rw[Int.fmod_eq_emod_of_nonneg i (by omega)];exact q)
theorem Zrj:OpR X (binaryOp .Pow) (rI CPow λi j=>.int (i ^ j.toNat)):=opI λ_ _ _ _ _ _ _ hc q=>pow_int_small hc.1 hc.2.1 hc.2.2 q
theorem Znc:OpR X (binaryOp .BitXor) (rI0 λi j=>.int (Builtin.bitXor i j)):=opI0 λ_ _ _ _ _ _ _ q=>xor_int q
end
def scal:V->V->Bool
 |.non,.non=>true|.non,.int _=>true|.int _,.non=>true|.non,.bl _=>true|.bl _,.non=>true|.non,.str _=>true|.str _,.non=>true
 |.int _,.int _=>true|.bl _,.bl _=>true|.str _,.str _=>true|.byt _,.byt _=>true
 |.int _,.str _=>true|.str _,.int _=>true|.bl _,.str _=>true|.str _,.bl _=>true
 |_,_=>false
def rEq:R2:=λx y H Q=>scal x y=true/\Q (.bl (decide (x=y))) H
def rNe:R2:=λx y H Q=>scal x y=true/\Q (.bl (!decide (x=y))) H
theorem Zhz {i j:Int}:decide (V.int i=V.int j)=(i == j):=by
 rw[Wb4];simp
theorem Zqs {i j:Bool}:decide (V.bl i=V.bl j)=(i == j):=by
 rw[Wb4];simp
theorem Zo7 {i j:Str}:decide (V.str i=V.str j)=(i == j):=by
 rw[Wb4];simp
theorem Zoe {i j:Array UInt8}:decide (V.byt i=V.byt j)=(i.toList == j.toList):=by
 rw[Wb4];cases i;cases j;simp
section
variable {X:Cx}{a b c:Expr}{ta tb tc:TE}{pos:Pos}
theorem Zb7 {pins:List (Addr × Obj)}{σ:St}{H:Hp}{s:Shared}{Q:VK}{k k':Bool}(I:Inv X pins σ H s) (q:Q (.bl k) H) (e:k=k'):EP X pins σ Q (.bool k') s:=by
 subst e;exact⟨.bl k,H,I,rfl,q⟩
theorem Zru:OpR X (compareOp .Eq) rEq:=by
 intro pins s σ H x y v u Q I rx ry h;obtain⟨hs,q⟩:=h;cases x with
 |non=>
  cases rx;cases y with
  |non=>cases ry;exact PySem.EqNone.eq_none_none (Zb7 I q (by simp))
  |bl j=>cases ry;exact PySem.EqNone.eq_none_bool (Zb7 I q (by simp))
  |int j=>obtain⟨t',rfl⟩:=ry;exact PySem.EqNone.eq_none_int (Zb7 I q (by simp))
  |str j=>obtain⟨t',rfl⟩:=ry;exact PySem.EqNone.eq_none_str (Zb7 I q (by simp))
  |_=>exact absurd (show false=true from hs) Wat
 |bl i=>
  cases rx;cases y with
  |non=>cases ry;exact PySem.EqNone.eq_bool_none (Zb7 I q (by simp))
  |bl j=>cases ry;exact eq_bool (Zb7 I q Zqs)
  |str j=>obtain⟨t',rfl⟩:=ry;exact PySem.EqMixed.eq_bool_str (Zb7 I q (by simp))
  |_=>exact absurd (show false=true from hs) Wat
 |int i=>
  obtain⟨t,rfl⟩:=rx;cases y with
  |non=>cases ry;exact PySem.EqNone.eq_int_none (Zb7 I q (by simp))
  |int j=>obtain⟨t',rfl⟩:=ry;exact eq_int (Zb7 I q Zhz)
  |str j=>obtain⟨t',rfl⟩:=ry;exact PySem.EqMixed.eq_int_str (Zb7 I q (by simp))
  |_=>exact absurd (show false=true from hs) Wat
 |str i=>
  obtain⟨t,rfl⟩:=rx;cases y with
  |non=>cases ry;exact PySem.EqNone.eq_str_none (Zb7 I q (by simp))
  |bl j=>cases ry;exact PySem.EqMixed.eq_str_bool (Zb7 I q (by simp))
  |int j=>obtain⟨t',rfl⟩:=ry;exact PySem.EqMixed.eq_str_int (Zb7 I q (by simp))
  |str j=>obtain⟨t',rfl⟩:=ry;exact eq_str (Zb7 I q Zo7)
  |_=>exact absurd (show false=true from hs) Wat
 |byt i=>
  obtain⟨t,rfl⟩:=rx;cases y with
  |byt j=>obtain⟨t',rfl⟩:=ry;exact PySem.W.eq_bytes (Zb7 I q Zoe)
  |_=>exact absurd (show false=true from hs) Wat
 |_=>cases y <;> exact absurd (show false=true from hs) Wat
theorem Zoi:OpR X (compareOp .Lt) (rI0 λi j=>.bl (decide (i<j))):=opB0 λ_ _ _ _ _ _ _ q=>lt_int q
theorem Ziu:OpR X (compareOp .Gt) (rI0 λi j=>.bl (decide (j<i))):=opB0 λ_ _ _ _ _ _ _ q=>gt_int q
theorem Zr0:OpR X (compareOp .GtE) (rI0 λi j=>.bl (decide (j<=i))):=opB0 λ_ _ _ _ _ _ _ q=>ge_int q
theorem OpR.or {f:Value->Value->Sem Value}{r r':R2}(h:OpR X f r) (h':OpR X f r'):OpR X f (λx y H Q=>r x y H Q\/r' x y H Q):=by
 intro pins s σ H x y v u Q I rx ry q;rcases q with q|q
 ·exact h pins s σ H x y v u Q I rx ry q
 ·exact h' pins s σ H x y v u Q I rx ry q
theorem nomark (b:Expr) {op:CmpOp}(h:op≠.In:=by decide) (h2:op≠.NotIn:=by decide):behindInMarks op b=false:=by
 have e1:(op == CmpOp.In)=false:=by cases op <;> first|rfl|exact absurd rfl h
 have e2:(op == CmpOp.NotIn)=false:=by cases op <;> first|rfl|exact absurd rfl h2
 cases b <;> simp[behindInMarks,e1,e2]
theorem Zor {op:CmpOp}{r:R2}(ho:OpR X (compareOp op) r) (ha:PE X a ta) (hb:PE X b tb) (hm:behindInMarks op b=false):PE X (.Compare a [op] [b] pos) (tOp r ta tb):=by
 intro pins s σ H Q I h;exact wpAny_Compare1 (binT ha hb I h λv u s2 x y H2 I2 rx ry q=>ho pins s2 σ H2 x y v u Q I2 rx ry q) hm
def tTest (t:TE):TT:=λσ H Q=>t σ H λx H'=>∃k,x=.bl k/\Q k H'
theorem Zat {op:CmpOp}{r:R2}(ho:OpR X (compareOp op) r) (ha:PE X a ta) (hb:PE X b tb) (hm:behindInMarks op b=false):PT X (.Compare a [op] [b] pos) (tTest (tOp r ta tb)):=by
 intro pins s σ H Q I h;refine wpAny_isTrue_Compare1 (thn (ha pins s σ H _ I h) λv s1 ⟨x,H1,I1,r1,q1⟩=>thn (hb pins s1 σ H1 _ I1 q1) λu s2 ⟨y,H2,I2,r2,q2⟩=>
  thn (ho pins s2 σ H2 x y v u _ I2 r1 r2 q2) λc s3 ⟨z,H3,I3,r3,k,e,q3⟩=>?_) hm
 subst e;cases r3;exact wpAny_truthy_bool ⟨H3,I3,q3⟩
def TruV (K:W.Frag) (x:V) (H:Hp) (k:Bool):Prop:=
 match x with
 |.non=>k=false
 |.bl b=>k=b
 |.int i=>k=(i != 0)
 |.str y=>y.length<=sizeLine/\k=((y.length:Int) != 0)
 |.byt y=>y.size<=sizeLine/\k=((y.size:Int) != 0)
 |.ref p=>(∃xs,SqL K H p xs/\k = !xs.isEmpty)\/(∃xs,SqT K H p xs/\k = !xs.isEmpty)\/∃kvs,H p=some (.dK kvs)/\k = !kvs.isEmpty
 |_=>False
theorem Zje {κ:Type}{kvs:List (κ × V)}{vs:List (κ × Value)}(r:KV kvs vs):(!vs.isEmpty) = !kvs.isEmpty:=by
 cases r <;> rfl
theorem Zfa {xs:List V}{its:List Value}(r:Vals xs its):(!its.toArray.isEmpty) = !xs.isEmpty:=by
 cases r <;> simp
theorem line63:(sizeLine:Nat)<2 ^ 63:=by rw[sizeLine_eq];decide
theorem Zqp:TruR X (λx H Q=>∃k,TruV X.K x H k/\Q k H):=by
 intro pins s σ H x v Q I rx h;obtain⟨k,e,q⟩:=h;have hl:=line63;have hs:sizeLine=16777216:=sizeLine_eq;cases x with
 |non=>
  cases rx;have e':k=false:=e;subst e';exact truthy_none ⟨H,I,q⟩
 |bl b=>
  cases rx;have e':k=b:=e;subst e';exact wpAny_truthy_bool ⟨H,I,q⟩
 |int i=>
  obtain⟨t,rfl⟩:=rx;have e':k=(i != 0):=e;subst e';exact PySem.P.truthy_int ⟨H,I,q⟩
 |str y=>
  obtain⟨t,rfl⟩:=rx;obtain⟨hy,e'⟩:y.length<=sizeLine/\k=((y.length:Int) != 0):=e;subst e';exact PySem.P.truthy_str (by omega) ⟨H,I.tok _,q⟩
 |byt y=>
  obtain⟨t,rfl⟩:=rx;obtain⟨hy,e'⟩:y.size<=sizeLine/\k=((y.size:Int) != 0):=e;subst e';exact PySem.W.truthy_bytes (by omega) ⟨H,I.tok _,q⟩
 |ref p=>
  cases rx;have e':(∃xs,SqL X.K H p xs/\k = !xs.isEmpty)\/(∃xs,SqT X.K H p xs/\k = !xs.isEmpty)\/∃kvs,H p=some (.dK kvs)/\k = !kvs.isEmpty:=e;rcases e' with ⟨xs,hx,e'⟩|⟨xs,hx,e'⟩|⟨kvs,hx,e'⟩
  ·subst e'
   obtain⟨its,r,pl,hz⟩:=I.list hx;have hlen:=r.length;exact wpAny_truthy_list pl.isList (by simp only[Wah];omega) ⟨H,I.tok _,by rw[Zfa r];exact q⟩
  ·subst e'
   obtain⟨its,r,pl,hz⟩:=I.tuple hx;have hlen:=r.length;exact truthy_tuple pl (by simp only[Wah];omega) ⟨H,I.tok _,by rw[Zfa r];exact q⟩
  ·subst e'
   obtain⟨hz,hS,vs,r,m⟩:kvs.length<=sizeLine/\(p == sysModules)=false/\∃vs,KV kvs vs/\s.heap.DictOf (mixKind X.prog X.w) p vs:=I.hok p _ hx;have hlen:kvs.length=vs.length:=Paired.length r;exact wpAny_truthy_dict hS m (by omega) ⟨H,I.tok _,by rw[Zje r];exact q⟩
 |_=>exact(show False from e).elim
theorem Zlp (ha:PE X a ta) (he:∀whole,isTrue a X.env whole=(do let v ← whole;standAt a.pos;holding [v] (truthy v))) :
  PT X a (λσ H Q=>ta σ H λx H'=>∃k,TruV X.K x H' k/\Q k H'):=by
 intro pins s σ H Q I h;exact isTrue_plain (thn (ha pins s σ H _ I h) λv s1 ⟨x,H1,I1,r1,q1⟩=>Zqp pins s1 σ H1 x v Q I1 r1 q1) (he _)
theorem vals1 {x:V}{us:List Value}(r:Vals [x] us):∃u,us=[u]/\RelV x u:=by
 cases r with
 |cons r1 r2=>cases r2;exact⟨_,rfl,r1⟩
theorem vals2 {x y:V}{us:List Value}(r:Vals [x,y] us):∃u w',us=[u,w']/\RelV x u/\RelV y w':=by
 cases r with
 |cons r1 r2=>
  cases r2 with
  |cons r3 r4=>cases r4;exact⟨_,_,rfl,r1,r3⟩
theorem Zfm:CallR X (.builtin "abs") (λxs H Q=>∃i,xs=[.int i]/\Q (.int (if i<0 then -i else i)) H):=by
 intro pins s σ H xs us Q I r h;obtain⟨i,rfl,q⟩:=h;obtain⟨u,rfl,t,rfl⟩:=vals1 r;exact call_abs_int λu tk=>⟨.int (if i<0 then -i else i),H,I.tok _,⟨_,rfl⟩,q⟩
theorem Zdn (hc:X.calm=true):CallR X (.builtin "max") (λxs H Q=>∃i j,xs=[.int i,.int j]/\Q (.int (if j > i then j else i)) H):=by
 intro pins s σ H xs us Q I r h;obtain⟨i,j,rfl,q⟩:=h;obtain⟨u,w',rfl,⟨t,rfl⟩,⟨t',rfl⟩⟩:=vals2 r;refine max_two_ints (I.ok.hd hc) λh' tk k=>⟨_,H,I.kept k,?_,q⟩;by_cases hj:j > i
 ·rw[if_pos hj,if_pos hj];exact⟨_,rfl⟩
 ·rw[if_neg hj,if_neg hj];exact⟨_,rfl⟩
theorem Zcx (hc:X.calm=true):CallR X (.builtin "min") (λxs H Q=>∃i j,xs=[.int i,.int j]/\Q (.int (if j<i then j else i)) H):=by
 intro pins s σ H xs us Q I r h;obtain⟨i,j,rfl,q⟩:=h;obtain⟨u,w',rfl,⟨t,rfl⟩,⟨t',rfl⟩⟩:=vals2 r;refine min_two_ints (I.ok.hd hc) λh' tk k=>⟨_,H,I.kept k,?_,q⟩;by_cases hj:j<i
 ·rw[if_pos hj,if_pos hj];exact⟨_,rfl⟩
 ·rw[if_neg hj,if_neg hj];exact⟨_,rfl⟩
theorem Zkh:CallR X (.type "int") (λxs H Q=>(∃i,xs=[.int i]/\Q (.int i) H)\/∃k,xs=[.bl k]/\Q (.int (if k then 1 else 0)) H):=by
 intro pins s σ H xs us Q I r h;rcases h with ⟨i,rfl,q⟩|⟨k,rfl,q⟩
 ·obtain⟨u,rfl,t,rfl⟩:=vals1 r
  exact call_int_int ⟨.int i,H,I,⟨_,rfl⟩,q⟩
 ·obtain⟨u,rfl,r1⟩:=vals1 r
  cases r1;exact call_int_bool ⟨.int (if k then 1 else 0),H,I.tok _,⟨_,rfl⟩,q⟩
end
end L2
namespace L2
open PySem PySem.Spec PyProof.Rows
theorem RelO.some_of {v:V}{o:Option Value}(r:RelO (some v) o):∃u,o=some u/\RelV v u:=by
 cases o with
 |none=>exact(show False from r).elim
 |some u=>exact⟨u,rfl,r⟩
section
variable {X:Cx}{pins:List (Addr × Obj)}{σ:St}{H:Hp}{s:Shared}{a C dx:Addr}{fs:List (Str × V)}{f:Str}{v:V}{A:Around}{E:Value->Shared->Prop}
end
section
variable {X:Cx}{pins:List (Addr × Obj)}{σ:St}{H:Hp}{s:Shared}{A:Around}{E:Value->Shared->Prop}{Q:Value->Shared->Prop}{c:Value}{b:Bool}
end
end L2
namespace L2
open PySem PySem.Spec PyProof.Rows
structure Room (k:Nat) (A:Around):Prop where
 hd:A.handled=none
 dp:A.depth+3*k+5<recursionLimit
 un:A.units+16*k+200<cLine
 gd:A.guards=some []
theorem Room.mono {j k:Nat}{A:Around}(r:Room k A) (h:j<=k):Room j A:=⟨r.hd,by have:=r.dp;omega,by have:=r.un;omega,r.gd⟩
theorem Room.deeper {k:Nat}{A:Around}(r:Room (k+1) A) (env:Env):Room k (A.deeper env):=
 ⟨r.hd,by have:=r.dp;show A.depth+1+3*k+5<_;omega,by have:=r.un;show A.units+3+16*k+200<_;omega,r.gd⟩
theorem Room.depth {k:Nat}{A:Around}(r:Room k A):A.depth<recursionLimit:=by have:=r.dp;omega
theorem Room.units {k:Nat}{A:Around}(r:Room k A):A.units+64<cLine:=by have:=r.un;omega
def tNil:TA:=λ_ H Q=>Q [] H
def tCons (ta:TE) (tr:TA):TA:=λσ H Q=>ta σ H λx H1=>tr σ H1 λxs H2=>Q (x::xs) H2
section
variable {X:Cx}{e:Expr}{es:List Expr}{te:TE}{t:TA}{pos:Pos}
theorem Zac:PA X [] tNil:=λ_ _ _ _ H Q I h=>Calls.spliced_nil ⟨[],H,I,.nil,h⟩
theorem Zaa (ha:PE X e te) (hr:PA X es t) (hs:starEach (e::es) X.env=(false,eval e X.env)::starEach es X.env:=by rfl):PA X (e::es) (tCons te t):=by
 intro pos pins s σ H Q I h;rw[hs];show wpAny _ _ (spliced ((false,eval e X.env)::backTo pos (starEach es X.env))) _ _ s;refine Calls.spliced_cons (thn (ha pins s σ H _ I h) λu s1 ⟨x,H1,I1,r1,q1⟩=>?_);exact thn (hr pos pins s1 σ H1 _ I1 q1) λus s2 ⟨xs,H2,I2,r2,q2⟩=>⟨x::xs,H2,I2,.cons r1 r2,q2⟩
def tTup (t:TA):TE:=λσ H Q=>t σ H λxs H1=>xs.length<=sizeLine/\∀p,H1 p=none->Q (.ref p) (upd H1 p (.tup xs))
def tLst (t:TA):TE:=λσ H Q=>t σ H λxs H1=>xs.length<=sizeLine/\∀p,H1 p=none->Q (.ref p) (upd H1 p (.lst xs))
theorem Zb6 {x1} (h:PA X es t):PE X (.Tuple es x1 pos) (tTup t):=by
 intro pins s σ H Q I hq;refine wpAny_Tuple_spliced (thn (h pos pins s σ H _ I hq) λus s1 ⟨xs,H1,I1,r,z,q⟩=>⟨by rw[<- r.length];exact z,?_⟩);have hf:H1 s1.heap.objs.size=none:=I1.hok.fresh (Waj _);refine⟨.ref s1.heap.objs.size,upd H1 s1.heap.objs.size (.tup xs),I1.laid (t':=s1.toks) (λb u e=>Wac _ e) (Waj _) ?_,rfl,q _ hf⟩;exact⟨z,us,r,⟨_,Wao _ rfl,⟨rfl,_,rfl⟩,rfl⟩⟩
theorem Zbg (h:PA X es t):PE X (.List es pos) (tLst t):=by
 intro pins s σ H Q I hq;refine wpAny_List_spliced (thn (h pos pins s σ H _ I hq) λus s1 ⟨xs,H1,I1,r,z,q⟩=>⟨by rw[<- r.length];exact z,?_⟩);have hf:H1 s1.heap.objs.size=none:=I1.hok.fresh (Waj _);refine⟨.ref s1.heap.objs.size,upd H1 s1.heap.objs.size (.lst xs),I1.laid (t':=s1.toks) (λb u e=>Wac _ e) (Waj _) ?_,rfl,q _ hf⟩;exact⟨z,us,0,r,Wao _ rfl⟩
end
abbrev Sp:=List V->Hp->VK->XK->Prop
abbrev CXT:=List Env->Hp->Shared->XK->Value->Shared->Prop
structure Env0 (P:Program) (w:World) (K:W.Frag) (mg:Str->Option Value) (base:Heap) (A:Around) (outer:List Env) (s:Shared) (H:Hp):Prop where
 frames:A.frames=some outer
 mod:Mod K mg base
 bs:∀b o,base.get? b=some o->s.heap.get? b=some o/\H b=none
 bsz:base.objs.size<=s.heap.objs.size
 funs:s.heap.FunFrames base outer
 frf:∀b∈frs outer,H b=none
 hok:HOk P w H s.heap
 bare:AllBare s.gens
def CE (outer:List Env) (P:Program) (w:World) (H:Hp) (s:Shared) (Q:VK) (u:Value) (s':Shared):Prop:=
 ∃v H',s'.os=s.os/\AllBare s'.gens/\Un (frs outer) [] H H' s.heap s'.heap/\HOk P w H' s'.heap/\RelV v u/\Q v H'
def CR (CX:CXT) (outer:List Env) (P:Program) (w:World) (H:Hp) (s:Shared) (Q:VK) (E:XK) (r:Result) (s':Shared):Prop:=
 match r with
 |.ok (.ret u)=>CE outer P w H s Q u s'
 |.ok _=>False
 |.error e=>CX outer H s E e s'
structure FnOk (P:Program) (w:World) (K:W.Frag) (mg:Str->Option Value) (base:Heap) (CX:CXT) (k:Nat) (f:Addr) (fd:FuncData) (ps:List Str) (sp:Sp):Prop where
 len:∀vs H Q E,sp vs H Q E->vs.length=ps.length
 run:∀(A:Around) (outer:List Env) (s:Shared) (H:Hp) (args:Args) (us:List Value) (vs:List V) (Q:VK) (E:XK),Room k A->Env0 P w K mg base A outer s H->BindsTo s fd args (ps.zip us)->Vals vs us->sp vs H Q E →
  codeAny (model P w) A (.call (.ref f) args) (CR CX outer P w H s Q E) s
theorem FnOk.imp {P:Program}{w:World}{K:W.Frag}{mg:Str->Option Value}{base:Heap}{CX:CXT}{k:Nat}{f:Addr}{fd:FuncData}{ps:List Str}{sp sp':Sp}(F:FnOk P w K mg base CX k f fd ps sp)
  (h:∀vs H Q E,sp' vs H Q E->sp vs H Q E):FnOk P w K mg base CX k f fd ps sp':=
 ⟨λvs H Q E q=>F.len vs H Q E (h _ _ _ _ q),λA outer s H args us vs Q E hr he hb hv hs=>F.run A outer s H args us vs Q E hr he hb hv (h _ _ _ _ hs)⟩
section
variable {X:Cx}{pins:List (Addr × Obj)}{σ:St}{H:Hp}{s s':Shared}
theorem Inv.env0 (I:Inv X pins σ H s):Env0 X.prog X.w X.K X.mg X.base X.A X.stack s H:=
 ⟨I.ok.frames,I.ok.mod,I.bs,Wbi I.ok.bsz I.sz,I.stack,I.stkFree,I.hok,I.bare⟩
theorem Inv.after {Q:VK}{u:Value}(I:Inv X pins σ H s) (h:CE X.stack X.prog X.w H s Q u s'):EP X pins σ Q u s':=by
 obtain⟨v,H',os,bare,un,hok,r,q⟩:=h;obtain⟨hh,g,d,t,os'⟩:=s';obtain rfl:os'=s.os:=os;exact⟨v,H',I.call (h':=hh) (g':=g) (d':=d) (t':=t) (ch:=[]) un hok bare (λb z=>absurd z (by simp)),r,q⟩
end
def tCall (sp:Sp) (dvs:List V) (E:XK) (t:TA):TE:=λσ H Q=>t σ H λvs H1=>sp (vs++dvs) H1 Q E
def Binds (K:W.Frag) (fd:FuncData) (ps:List Str) (ds:List Value):Prop:=
 ∀(s:Shared) (us:List Value),K.In s.heap->(us++ds).length=ps.length->BindsTo s fd ⟨us,[]⟩ (ps.zip (us++ds))
theorem Binds.all {K:W.Frag}{fd:FuncData}{ps:List Str}(h:∀us:List Value,us.length=ps.length->bindArgs fd ⟨us,[]⟩=pure (ps.zip us)):Binds K fd ps []:=λs us _ hl=>by
 rw[Wbc]at hl ⊢;exact .of_eq (h us hl)
def Passes (CX:CXT) (X:Cx) (E:XK):Prop:=∀(pins:List (Addr × Obj)) (σ:St) (H:Hp) (s:Shared) (e:Value) (s':Shared),Inv X pins σ H s->CX X.stack H s E e s' -> X.xe e s'
section
variable {X:Cx}{CX:CXT}{k:Nat}{f C:Addr}{fd:FuncData}{ps:List Str}{sp:Sp}{dvs:List V}{ds:List Value}{E:XK}{x m:Str}{p pos apos:Pos}{e o:Expr}{es:List Expr}{ta:TE}{t:TA}
theorem Znb {pins:List (Addr × Obj)}{σ:St}{H:Hp}{s:Shared}{Q:VK}{us:List Value}{vs:List V}(F:FnOk X.prog X.w X.K X.mg X.base CX k f fd ps sp) (hr:Room k X.A) (hb:Binds X.K fd ps ds) (hd:Vals dvs ds) (hx:Passes CX X E)
  (I:Inv X pins σ H s) (r:Vals vs us) (h:sp (vs++dvs) H Q E):wpAny (model X.prog X.w) X.A (call (.ref f) us) (EP X pins σ Q) X.xe s:=by
 have r2:Vals (vs++dvs) (us++ds):=r.append hd;have hl:(us++ds).length=ps.length:=by rw[<- r2.length];exact F.len _ _ _ _ h
 refine wpAny_call (codeAny_mono (F.run X.A X.stack s H ⟨us,[]⟩ (us++ds) (vs++dvs) Q E hr I.env0 (hb s us I.kIn hl) r2 h) λr s' hq=>?_);cases r with
 |error e=>exact hx pins σ H s e s' I hq
 |ok fl=>
  cases fl with
  |ret u=>exact I.after hq
  |next=>exact False.elim hq
  |brk=>exact False.elim hq
  |cont=>exact False.elim hq
theorem Zj3 (F:FnOk X.prog X.w X.K X.mg X.base CX k f fd ps sp) (hr:Room k X.A) (hg:Gl X x) (hm:X.mg x=some (.ref f)) (hk:W.keepIn X.K (.ref f)=true) (hb:Binds X.K fd ps ds) (hd:Vals dvs ds) (hx:Passes CX X E)
  (ha:PA X (e::es) t) (hdb:(x == ("__debug__":Str))=false:=by decide) (he:starEach (e::es) X.env=(false,eval e X.env)::starEach es X.env:=by rfl) (hpl:(backTo pos (starEach es X.env)).any (·.1)=false:=by rfl) :
  PE X (.Call (.Name x p) (e::es) [] pos) (tCall sp dvs E t):=by
 intro pins s σ H Q I h;refine wpAny_Call_Name_kw (Zfo I hg hm ?_ hdb);refine PySem.W.callWith_K (h₀:=X.base) I.ok.mod.kin hk (thn (ha pos pins s σ H _ I h) λus s1 ⟨vs,H1,I1,r,q⟩=>⟨I1.kIn,?_⟩) he hpl;exact Znb F hr hb hd hx I1 r q
end
def PK (X:Cx) (kws:List Keyword) (t:TA):Prop:=
 ∀(pos:Pos) (pins:List (Addr × Obj)) (s:Shared) (σ:St) (H:Hp) (Q:List V->Hp->Prop),Inv X pins σ H s->t σ H Q->wpAny (model X.prog X.w) X.A (evalAll ((backToKw pos (keywordEach kws X.env)).map (·.2))) (AP X pins σ Q) X.xe s
section
variable {X:Cx}{CX:CXT}{k:Nat}{f C:Addr}{fd:FuncData}{ps ks:List Str}{sp:Sp}{E:XK}{x m:Str}{p pos apos kpos:Pos}{e o:Expr}{es:List Expr}{kws:List Keyword}{te ta:TE}{t tk:TA}{nm:Option Str}
theorem Zqy:PK X [] tNil:=λ_ _ _ _ H Q I h=>wpAny_evalAll_nil ⟨[],H,I,.nil,h⟩
theorem Zn0 (ha:PE X e te) (hr:PK X kws t):PK X (⟨nm,e,kpos⟩::kws) (tCons te t):=by
 intro pos pins s σ H Q I h;show wpAny _ _ (evalAll ((do let v ← eval e X.env;standAt pos;pure v)::(backToKw pos (keywordEach kws X.env)).map (·.2))) _ _ s;refine wpAny_evalAll_cons (wpAny_bind (thn (ha pins s σ H _ I h) λu s1 ⟨x,H1,I1,r1,q1⟩=>wpAny_bind (wpAny_standAt (wpAny_pure ?_))));exact thn (hr pos pins s1 σ H1 _ I1 q1) λus s2 ⟨xs,H2,I2,r2,q2⟩=>⟨x::xs,H2,I2,.cons r1 r2,q2⟩
variable {g:List Value->List Value->List Value}{gV:List V->List V->List V}
end
structure FnScope (N P:List Str) (sc:Scope):Prop where
 kind:sc.kind=.function
 co:sc.isCoroutine=false
 gen:sc.isGenerator=false
 nd:N.Nodup
 pre:N.take P.length=P
 par:∀x∈P,sc.names.lookup x=some .local\/sc.names.lookup x=some .cell
 nofree:∀y∈sc.names,y.2≠.free
theorem Zgy {kindOf:Str->Option NameKind}{x:Str}:∀{binds:List (Str × Value)}{m:Str->Option Value},(∀v,(x,v) ∉ binds)->bindL kindOf binds m x=m x
 |[],_,_=>rfl
 | (n,v)::r,m,h=>by
  unfold bindL;rw[Zgy λw hw=>h w (Wau _ hw)];split
  ·have:x≠n:=by rintro rfl;exact h v Wa8
   simp[this]
  ·rfl
theorem Zgr {kindOf:Str->Option NameKind}{x:Str}:∀{binds:List (Str × Value)}{m:Str->Option Value},(∀v,(x,v) ∉ binds)->bindC kindOf binds m x=m x
 |[],_,_=>rfl
 | (n,v)::r,m,h=>by
  unfold bindC;rw[Zgr λw hw=>h w (Wau _ hw)];split
  ·rfl
  ·have:x≠n:=by rintro rfl;exact h v Wa8
   simp[this]
theorem Zg1 {kindOf:Str->Option NameKind}{x:Str}{v:Value}:∀{P:List Str}{vs:List Value}{i:Nat}{m:Str->Option Value},P.Nodup->P[i]?=some x->vs[i]?=some v->kindOf x=some .local →
  bindL kindOf (P.zip vs) m x=some v
 |[],_,_,_,_,h,_,_=>by simp at h
 |_::_,[],_,_,_,_,h,_=>by simp at h
 |p::P,w::vs,0,m,nd,h1,h2,hk=>by
  simp at h1 h2;subst h1;subst h2;show bindL kindOf ((p,w)::P.zip vs) m p=_;unfold bindL;rw[Zgy λv hv=>(Wb1.mp nd).1 (List.of_mem_zip hv).1,if_pos hk];simp
 |p::P,w::vs,i+1,m,nd,h1,h2,hk=>by
  show bindL kindOf ((p,w)::P.zip vs) m x=_;unfold bindL;exact Zg1 (i:=i) (Wb1.mp nd).2 (by simpa using h1) (by simpa using h2) hk
theorem Zgu {kindOf:Str->Option NameKind}{x:Str}{v:Value}:∀{P:List Str}{vs:List Value}{i:Nat}{m:Str->Option Value},P.Nodup->P[i]?=some x->vs[i]?=some v->kindOf x≠some .local →
  bindC kindOf (P.zip vs) m x=some v
 |[],_,_,_,_,h,_,_=>by simp at h
 |_::_,[],_,_,_,_,h,_=>by simp at h
 |p::P,w::vs,0,m,nd,h1,h2,hk=>by
  simp at h1 h2;subst h1;subst h2;show bindC kindOf ((p,w)::P.zip vs) m p=_;unfold bindC;rw[Zgr λv hv=>(Wb1.mp nd).1 (List.of_mem_zip hv).1,if_neg hk];simp
 |p::P,w::vs,i+1,m,nd,h1,h2,hk=>by
  show bindC kindOf ((p,w)::P.zip vs) m x=_;unfold bindC;exact Zgu (i:=i) (Wb1.mp nd).2 (by simpa using h1) (by simpa using h2) hk
def start (N:List Str) (vs:List V):St:=vs.map some++Wae (N.length-vs.length) none
def cxOf (CX:CXT) (P:Program) (w:World) (K:W.Frag) (mg:Str->Option Value) (base:Heap) (N:List Str) (qual:Str) (scope:Scope) (f:Addr) (cd:Value) (A:Around) (outer:List Env) (s:Shared) (H:Hp) (E:XK):Cx where
 prog:=P
 w:=w
 K:=K
 mg:=mg
 base:=base
 A:=A.deeper (envOfC qual scope s.heap.objs.size f cd)
 N:=N
 s₀:=s
 H₀:=H
 env:=envOfC qual scope s.heap.objs.size f cd
 outer:=outer
 stack:=envOfC qual scope s.heap.objs.size f cd::outer
 ex:=[]
 calm:=true
 fn:=λ_=>true
 pn:=[]
 xe:=λe s'=>wpAny (model P w) (A.deeper (envOfC qual scope s.heap.objs.size f cd)) (leaving (envOfC qual scope s.heap.objs.size f cd) e) (λ_ s''=>CX outer H s E e s'') (λe' s''=>CX outer H s E e' s'') s'
theorem Zh9 {sc:Scope}{n:Nat}{x:Str}(h:sc.names.lookup x=some .cell):∃c,(cellsFrom n sc.names []).lookup x=some c:=by
 have q:=PySem.W.cellsFrom_some sc.names n [] (.inl h);exact Option.isSome_iff_exists.mp q
theorem Zjv {CX:CXT}{P:Program}{w:World}{K:W.Frag}{mg:Str->Option Value}{base:Heap}{N ps:List Str}{qual:Str}{scope:Scope}{f:Addr}{cd:Value}{A:Around}{outer:List Env}{s s1:Shared}{H:Hp}{E:XK}{us:List Value}{vs:List V}
  (S:FnScope N ps scope) (hd:A.handled=none) (e0:Env0 P w K mg base A outer s H) (hl:vs.length=ps.length) (r:Vals vs us)
  (x:InCallC s s.heap.objs.size (bindL (envOfC qual scope s.heap.objs.size f cd).kindOf (ps.zip us) λ_=>none) (cellsFrom (s.heap.objs.size+1) scope.names []) (bindC (envOfC qual scope s.heap.objs.size f cd).kindOf (ps.zip us) λ_=>none) s1) :
  Inv (cxOf CX P w K mg base N qual scope f cd A outer s H E) [] (start N vs) H s1:=by
 have hpl:ps.length<=N.length:=by have:=congrArg Wa3 S.pre;rw[Wa4]at this;omega
 obtain⟨h1,tk,rfl,hk⟩:=x.done;have noA:∀b:Addr,b ∉ (cxOf CX P w K mg base N qual scope f cd A outer s H E).ex:=λb z=>absurd (show b∈([]:List Addr) from z) (by simp);refine⟨⟨e0.mod,S.kind,rfl,rfl,Waj _,λy z c h1 h2=>?_,λy hy=>?_,λy c _ h=>?_,λ_=>hd,Around.frames_deeper e0.frames,.inr ⟨rfl,rfl⟩,λb z=>absurd z (noA b),e0.bs,e0.bsz,λb _ _=>noA b,λb z=>absurd z (noA b),e0.funs,e0.frf⟩,
  rfl,e0.bare,Un.kept hk,⟨_,x.toInCall.ns,λi y v h1 h2 h3=>?_⟩,λy c h=>⟨_,x.cell y c h⟩,e0.hok.fresh (Waj _),λy c h=>?_,λp hp=>absurd (show p∈([]:List (Addr × Obj)) from hp) (by simp),e0.hok.kept hk,?_⟩
 ·exact name_of_addr x.apart (PySem.mem_of_lookup h1) (PySem.mem_of_lookup h2)
 ·have hy:scope.names.lookup y=some .cell\/scope.names.lookup y=some .free:=hy
  rcases hy with hy|hy
  ·exact Zh9 hy
  ·exact absurd rfl (S.nofree _ (PySem.mem_of_lookup hy))
 ·exact Wcm (x.above y c (PySem.mem_of_lookup h))
 ·have hi:i<vs.length:=by
   unfold start at h2;by_cases hi:i<vs.length
   ·exact hi
   ·rw[Waq (by simpa using hi)]at h2
    rw[Wbg]at h2;split at h2 <;> cases h2
  have ha:vs[i]?=some v:=by
   unfold start at h2;rw[Way (by simpa using hi),Waf]at h2;cases e:vs[i]? with
   |none=>rw[e]at h2;cases h2
   |some a=>rw[e]at h2;cases h2;rfl
  obtain⟨u,hu,rv⟩:=r.get ha;have hp:ps[i]?=some y:=by
   rw[<- S.pre,List.getElem?_take_of_lt (by omega)];exact h1
  have ndP:ps.Nodup:=by rw[<- S.pre];exact S.nd.sublist (List.take_sublist _ _)
  refine⟨u,rv,?_⟩;rcases S.par y (Wa2 hp) with k|k
  ·exact .inl ⟨k,Zg1 ndP hp hu k⟩
  ·obtain⟨c,e⟩:=Zh9 (n:=s.heap.objs.size+1) k
   refine .inr ⟨.inl k,c,e,?_⟩;have q:=x.cell y c e;rw[Zgu ndP hp hu (by show scope.names.lookup y≠_;rw[k];decide)]at q;exact q
 ·exact e0.hok.fresh (Wcm (x.above y c (PySem.mem_of_lookup h)))
 ·unfold start
  show _=N.length;rw[Wap,Wab,Wa7];omega
theorem Zrh {CX:CXT}{P:Program}{w:World}{K:W.Frag}{mg:Str->Option Value}{base:Heap}{k:Nat}{f:Addr}{name qual:Str}{params:Arguments}{body:List Stmt}{scope:Scope}{dV kV doc pm cdv ct oc:Value}{an od:Option Addr}
  {osl:Array (Option Value)}{N ps:List Str}{sp:Sp}(lk:K.lookup f=some ⟨oc,od,.func (W.fnOf name qual params body scope dV kV doc pm an cdv ct),osl⟩) (hcd:W.codeIn K cdv qual=true) (S:FnScope N ps scope)
  (len:∀vs H Q E,sp vs H Q E->vs.length=ps.length)
  (hbody:∀(A:Around) (outer:List Env) (s:Shared) (H:Hp) (vs:List V) (Q:VK) (E:XK),Room k (A.deeper (envOfC qual scope s.heap.objs.size f cdv))->sp vs H Q E →
   ∃t,PSs (cxOf CX P w K mg base N qual scope f cdv A outer s H E) body t/\t { nx:=λ_ H'=>Q .non H',rt:=Q } (start N vs) H) :
  FnOk P w K mg base CX (k+1) f (W.fnOf name qual params body scope dV kV doc pm an cdv ct) ps sp:=by
 refine⟨len,λA outer s H args us vs Q E hr e0 hb r hsp=>?_⟩;have hl:=len _ _ _ _ hsp;have KX:K.In s.heap:=e0.mod.kin.keeps λb o e=>(e0.bs b o e).1;have lim:s.heap.NoLimit:=e0.mod.nolimit.keeps λb o e=>(e0.bs b o e).1;have hkind:∀y∈ps.zip us,scope.names.lookup y.1=some .local\/(scope.names.lookup y.1=some .cell/\((cellsFrom (s.heap.objs.size+1) scope.names []).lookup y.1).isSome=true):=λ⟨n,v⟩ hy=>by
  rcases S.par n (List.of_mem_zip hy).1 with q|q
  ·exact .inl q
  ·exact .inr ⟨q,PySem.W.cellsFrom_some _ _ _ (.inl q)⟩
 refine codeAny_call_function hr.depth (KX _ _ lk) rfl S.co S.gen rfl (PySem.W.codeRec_of KX hcd) (hb _ _ _ _ ?_);refine wpAny_newFunctionEnv_cells S.kind hkind λenv he s1 x=>?_;subst he;refine⟨lim.keeps x.toInCall.keep,codeAny_func ?_⟩;obtain⟨t,ht,hq⟩:=hbody A outer s H vs Q E (hr.deeper _) hsp;have I:Inv (cxOf CX P w K mg base N qual scope f cdv A outer s H E) [] (start N vs) H s1:=Zjv S hr.hd e0 hl r x;refine wpAny_mono (ht [] s1 (start N vs) H _ I hq) (λfl s' hs=>?_) λe s' hs=>hs;have fin:∀{σ':St}{H':Hp}{v:V}{u:Value},Inv (cxOf CX P w K mg base N qual scope f cdv A outer s H E) [] σ' H' s' -> RelV v u->Q v H' -> CE outer P w H s Q u s':=
  λ{σ' H' v u} J rv q=>⟨v,H',J.os,J.bare,J.base,J.hok,rv,q⟩
 cases fl with
 |ret u=>
  obtain⟨v,σ',H',J,rv,q⟩:=hs;exact fin J rv q
 |next=>
  obtain⟨σ',H',J,q⟩:=hs;exact fin (v:=V.non) (u:=Value.none) J rfl q
 |brk=>
  obtain⟨_,_,_,q⟩:=hs;exact False.elim q
 |cont=>
  obtain⟨_,_,_,q⟩:=hs;exact False.elim q
end L2
namespace L2
open PySem PySem.Spec PyProof.Rows
section
variable {X:Cx}{x:Str}{p pos:Pos}{e:Expr}{es:List Expr}{t:TA}{id T:String}{r:List V->Hp->VK->Prop}
def tCB (r:List V->Hp->VK->Prop) (t:TA):TE:=λσ H Q=>t σ H λvs H1=>r vs H1 Q
theorem Zaj (hc:CallR X (.builtin id) r) (hg:Gl X x) (hm:X.mg x=none) (hv:bootBuiltins x=some (.builtin id)) (ha:PA X (e::es) t) (hn:x ≠ "__name__":=by decide) (hdb:(x == ("__debug__":Str))=false:=by decide)
  (he:starEach (e::es) X.env=(false,eval e X.env)::starEach es X.env:=by rfl) (hpl:(backTo pos (starEach es X.env)).any (·.1)=false:=by rfl):PE X (.Call (.Name x p) (e::es) [] pos) (tCB r t):=by
 intro pins s σ H Q I h;refine wpAny_Call_Name_kw (Zdg I hg hm hv ?_ hn hdb);exact PyProof.Rows.callWith_builtin1 (thn (ha pos pins s σ H _ I h) λus s1 ⟨vs,H1,I1,r1,q1⟩=>hc pins s1 σ H1 vs us Q I1 r1 q1) he hpl
theorem Zcb (hc:CallR X (.type T) r) (hg:Gl X x) (hm:X.mg x=none) (hv:bootBuiltins x=some (.type T)) (ha:PA X (e::es) t) (hn:x ≠ "__name__":=by decide) (hdb:(x == ("__debug__":Str))=false:=by decide)
  (he:starEach (e::es) X.env=(false,eval e X.env)::starEach es X.env:=by rfl) (hpl:(backTo pos (starEach es X.env)).any (·.1)=false:=by rfl):PE X (.Call (.Name x p) (e::es) [] pos) (tCB r t):=by
 intro pins s σ H Q I h;refine wpAny_Call_Name_kw (Zdg I hg hm hv ?_ hn hdb);exact PyProof.Rows.callWith_type1 (thn (ha pos pins s σ H _ I h) λus s1 ⟨vs,H1,I1,r1,q1⟩=>hc pins s1 σ H1 vs us Q I1 r1 q1) he hpl
end
end L2
namespace HT
open PySem PyProof.Rows
def lexLt:List Int->List Int->Bool
 |[],[]=>false
 |[],_::_=>true
 |_::_,[]=>false
 |x::xs,y::ys=>if x=y then lexLt xs ys else decide (x<y)
theorem Zja (x y:Int) (xs ys:List Int):lexLt (x::xs) (y::ys)=if x=y then lexLt xs ys else decide (x<y):=rfl
theorem Zgf:lexLt [] []=false:=rfl
theorem Ze0 (y:Int) (ys:List Int):lexLt [] (y::ys)=true:=rfl
theorem Ze5 (x:Int) (xs:List Int):lexLt (x::xs) []=false:=rfl
theorem Zmt (A:Around) (s:Shared) (a:Int) (t:Tok) (c:Int) (u:Tok):∃e,SeqAt.EqAt A s (.int a t) (.int c u) e/\(e=true↔a=c):=
 ⟨(a == c),SeqAt.EqAt.int_int a t c u,by simp⟩
theorem Zmh (A:Around) (s:Shared) (a:Int) (t:Tok) (c:Int) (u:Tok) (prog:Program) (w:World) (E:Value->Shared->Prop) (Q:Value->Shared->Prop) (h:Q (.bool (decide (a<c))) s) :
  wpAny (model prog w) A (richCompare .Lt (.int a t) (.int c u)) Q E s:=
 (PyProof.Rows.lt_int h:wpAny (model prog w) A (compareOp .Lt (.int a t) (.int c u)) Q E s)
section
open PySem.SeqAt
open PySem.AutoSeq1 (wpAny_loadPart')
open PySem.MeetsSeq PySem.MeetsSeq2 PySem.MeetsSeq3
theorem tuple_lt_ints (l b:Addr) (items items2:Array Value) (n n2:Nat) (dd dd2:Option Addr) (sl sl2:Array (Option Value)) (ns ms:List Int) (hi:IntsAre items.toList ns) (hj:IntsAre items2.toList ms) :
  Meets (Builtin.«tuple.__lt__» ⟨[.ref l,.ref b],[]⟩)
   (λ_ R s=>s.heap.get? l=some { cls:=.type "tuple",dict:=dd,data:=.seq items n,slots:=sl } /\ s.heap.get? b=some { cls:=.type "tuple",dict:=dd2,data:=.seq items2 n2,slots:=sl2 } ∧
    R (.ok (.ret (.bool (lexLt ns ms)))) s):=
 .of_wp λprog w A R s h=>by
  obtain⟨hp,g,d,tk,os⟩:=s;obtain⟨hl,hb,h⟩:=h;have f2:=AutoSeq1.sub_tuple_tuple;have z1:items.size=ns.length:=by rw[<- hi.length];simp
  have z2:items2.size=ms.length:=by rw[<- hj.length];simp
  wp_walk using wpAny_loadPart' hl,wpAny_loadPart' hb,wpAny_forIn_list _ (λrest b s'=>b.1=none/\s'=⟨hp,g,d,tk,os⟩ /\ ∃(vs ws:List Value) (ns' ms':List Int),rest=vs.zip ws ∧
   IntsAre vs ns' /\ IntsAre ws ms' /\ ns'.length+items2.size=ms'.length+items.size/\R (.ok (.ret (.bool (lexLt ns' ms')))) ⟨hp,g,d,tk,os⟩) _
  case turn=>
   rintro⟨y,x⟩ rest b s' ⟨hb',rfl,vs,ws,ns',ms',hz,hvi,hwi,hlen,hR⟩;cases hvi with
   |nil=>rw[List.zip_nil_left]at hz;cases hz
   |cons a t hvi'=>
    cases hwi with
    |nil=>rw[List.zip_nil_right]at hz;cases hz
    |cons c u hwi'=>
     rw[Wby]at hz;injection hz with hyx hrest
     injection hyx with hy hx
     subst hy hx;rw[Zja]at hR;simp only[Wam]at hlen;obtain⟨e,he,hiff⟩:=Zmt A.in1 ⟨hp,g,d,tk,os⟩ a t c u;refine wpAny_bind (he prog w _ _ ?_);cases e with
     |true=>
      rw[if_pos (hiff.mp rfl)]at hR
      wp_walk
      exact⟨rfl,rfl,_,_,_,_,hrest,hvi',hwi',by omega,hR⟩
     |false=>
      rw[if_neg (λq=>absurd (hiff.mpr q) Wat)]at hR;have hri:=Zmh A.in1 ⟨hp,g,d,tk,os⟩ a t c u prog w
      wp_walk using hri
      exact⟨_,rfl,by simpa using hR⟩
  case fin=>
   rintro⟨b1,b2⟩ s' ⟨hb',rfl,vs,ws,ns',ms',hz,hvi,hwi,hlen,hR⟩;simp only at hb';subst hb';have hv:lexLt ns' ms'=decide (items.size<items2.size):=by
    cases hvi with
    |nil=>
     cases hwi with
     |nil=>
      simp only[Wb2]at hlen;rw[Zgf];exact(decide_eq_false (by omega)).symm
     |cons c u hw=>
      simp only[Wb2,Wam]at hlen;rw[Ze0];exact(decide_eq_true (by omega)).symm
    |cons a t hv=>
     cases hwi with
     |nil=>
      simp only[Wb2,Wam]at hlen;rw[Ze5];exact(decide_eq_false (by omega)).symm
     |cons c u hw=>
      rw[Wby]at hz;cases hz
   rw[hv]at hR
   wp_walk
   exact⟨_,rfl,by simpa [Builtin.Tuple.tupleCompareSizes] using hR⟩
  case h=>
   exact⟨rfl,rfl,items.toList,items2.toList,ns,ms,rfl,hi,hj,by omega,h⟩
end
section
variable {prog:Program}{w:World}{A:Around}{E:Value->Shared->Prop}{s:Shared}
theorem cat_tup {t b:Addr}{vs ws:List Value}{Q:Value->Shared->Prop}(ht:IsTup s.heap t vs.toArray) (hb:IsTup s.heap b ws.toArray) (hv:vs≠[])
  (h1:ws=[]->Q (.ref t) s) (h2:ws≠[]->Q (.ref s.heap.objs.size) { s with heap:=s.heap.push { cls:=.type "tuple",data:=.seq (vs++ws).toArray } })
  (hsz:vs.length+ws.length<=sizeLine):wpAny (model prog w) A (binaryOp .Add (.ref t) (.ref b)) Q E s:=by
 obtain⟨⟨cls,dd,data,sl⟩,ho,hc,n,hd⟩:=id ht;obtain⟨⟨cls2,dd2,data2,sl2⟩,ho2,hc2,n2,hd2⟩:=id hb;simp only at hc hd hc2 hd2;subst hc hd hc2 hd2;have e:vs.toArray++ws.toArray=(vs++ws).toArray:=by simp
 by_cases hw:ws=[]
 ·exact concat_meets ⟨_,ho,rfl⟩ ⟨_,ho2,rfl⟩ noFill_tuple_add seq_tuple_add PySem.F.slot_tuple_add PySem.F.entry_tuple_add (PySem.F.args_tuple_add_2 _ _)
   (tuple_addW1 t b vs.toArray ws.toArray n n2 dd dd2 sl sl2 (by simpa using hv) (by simp[hw])) ⟨ho,ho2,h1 hw⟩
 ·refine concat_meets ⟨_,ho,rfl⟩ ⟨_,ho2,rfl⟩ noFill_tuple_add seq_tuple_add PySem.F.slot_tuple_add PySem.F.entry_tuple_add (PySem.F.args_tuple_add_2 _ _)
   (tuple_addW2 t b vs.toArray ws.toArray n n2 dd dd2 sl sl2 (by simpa using hv) (by simpa using hw) (by rw[Wah,Wah];exact hsz)) ⟨ho,ho2,?_⟩
  rw[e];exact h2 hw
def sIx (n d:Nat):Option Int->Nat
 |none=>d
 |some v=>if v<0 then (v+(n:Int)).toNat else min v.toNat n
theorem Zqb (n d:Nat) (hd:d<=n) (o:Option Int):sIx n d o<=n:=by
 cases o with
 |none=>exact hd
 |some v=>
  show (if v<0 then (v+(n:Int)).toNat else min v.toNat n)<=n;by_cases hv:v<0
  ·rw[if_pos hv];omega
  ·rw[if_neg hv];exact Nat.min_le_right _ _
theorem Zjx (v:Int) (n d:Nat):(if v<0 then max (v+(n:Int)) 0 else min v (n:Int))=((sIx n d (some v):Nat):Int):=by
 show (if v<0 then max (v+(n:Int)) 0 else min v (n:Int))=(((if v<0 then (v+(n:Int)).toNat else min v.toNat n):Nat):Int);by_cases hv:v<0
 ·simp only[if_pos hv];omega
 ·simp only[if_neg hv];omega
theorem Zir (lo hi:Option Int) (n:Nat):Builtin.Slice.sliceAdjust lo hi 1 (n:Int)=(((sIx n 0 lo:Nat):Int),((sIx n n hi:Nat):Int)):=by
 have h1:¬ ((1:Int)<0):=by omega
 unfold Builtin.Slice.sliceAdjust;simp only[h1,if_false];refine Prod.ext ?_ ?_
 ·cases lo with
  |none=>rfl
  |some v=>exact Zjx v n 0
 ·cases hi with
  |none=>rfl
  |some v=>exact Zjx v n n
theorem Zi5 (i j:Nat):Builtin.Slice.slicePlaces (i:Int) (j:Int) 1=j-i:=by
 unfold Builtin.Slice.slicePlaces;have h1:(1:Int) > 0:=by omega
 simp only[h1,if_true,Int.ediv_one];split <;> omega
theorem Ze6 {v:Value}{o:Option Int}{Q:Option Int->Shared->Prop}(p:IsPart v o) (h:Q o s):wpAny (model prog w) A (Builtin.Slice.slicePartIndex v) Q E s:=by
 cases p with
 |none=>exact slicePart_none h
 |int i t=>exact slicePart_int h
theorem Zcv {sl:Addr}{vl vu:Value}{lo hi:Option Int}{n:Nat}{Q:Int × Int × Nat->Shared->Prop}(hs:s.heap.IsSliceOf sl vl vu .none) (pl:IsPart vl lo) (pu:IsPart vu hi)
  (h:Q (((sIx n 0 lo:Nat):Int),1,sIx n n hi-sIx n 0 lo) s):wpAny (model prog w) A (Builtin.Slice.sliceApplied (.ref sl) (pure (n:Int))) Q E s:=by
 obtain⟨os,hos,hcs,hds⟩:=id hs;unfold Builtin.Slice.sliceApplied Builtin.Slice.sliceFields;refine wpAny_bind (wpAny_bind (wpAny_field hos hds (x:=vl) rfl (wpAny_bind (wpAny_field hos hds (x:=vu) rfl (wpAny_bind (wpAny_field hos hds (x:=.none) rfl (wpAny_pure ?_)))))));refine wpAny_bind (slicePart_none ?_);show wpAny _ _ (if ((1:Int) == 0)=true then _ else _) _ _ s;rw[if_neg (by decide)];refine wpAny_bind (Ze6 pl (wpAny_bind (Ze6 pu (wpAny_bind (wpAny_pure ?_)))));show wpAny _ _ (match Builtin.Slice.sliceAdjust lo hi 1 (n:Int) with|(lo,hi)=>pure (lo,(1:Int),Builtin.Slice.slicePlaces lo hi 1)) _ _ s;rw[Zir lo hi n];show wpAny _ _ (pure (((sIx n 0 lo:Nat):Int),(1:Int),Builtin.Slice.slicePlaces ((sIx n 0 lo:Nat):Int) ((sIx n n hi:Nat):Int) 1)) _ _ s;rw[Zi5];exact wpAny_pure h
theorem Zme (xs:Array Value) (i k:Nat):((Waz k).filterMap λ(m:Nat)=>xs[((i:Int)+(m:Int)*1).toNat]?).toArray=((xs.toList.drop i).take k).toArray:=by
 have e:(λ(m:Nat)=>xs[((i:Int)+(m:Int)*1).toNat]?)=λm=>xs[i+m]?:=by
  funext m
  have:((i:Int)+(m:Int)*1).toNat=i+m:=by omega
  rw[this]
 rw[e];have:=pick_run xs i k;rw[List.filterMap_map]at this;have e2:((λx=>xs[x]?)∘λx=>i+x)=λm=>xs[i+m]?:=rfl;rw[e2]at this;rw[this]
theorem getItem_tuple_cut {t sl:Addr}{items:Array Value}{vl vu:Value}{lo hi:Option Int}{Q:Value->Shared->Prop}(ht:IsTup s.heap t items) (hs:s.heap.IsSliceOf sl vl vu .none) (pl:IsPart vl lo) (pu:IsPart vu hi)
  (hw:¬ (sIx items.size 0 lo=0/\sIx items.size items.size hi=items.size))
  (h:Q (.ref s.heap.objs.size) { s with heap:=s.heap.push { cls:=.type "tuple",data:=.seq ((items.toList.drop (sIx items.size 0 lo)).take (sIx items.size items.size hi-sIx items.size 0 lo)).toArray } })
  (hsz:items.size<=sizeLine):wpAny (model prog w) A (getItem (.ref t) (.ref sl)) Q E s:=by
 have htake:sizeOk (.seq ((items.toList.drop (sIx items.size 0 lo)).take (sIx items.size items.size hi-sIx items.size 0 lo)).toArray):=by
  show ((items.toList.drop (sIx items.size 0 lo)).take (sIx items.size items.size hi-sIx items.size 0 lo)).toArray.size<=sizeLine;rw[Wah,Wa4,Wcc,Array.length_toList];omega
 have hj:sIx items.size items.size hi<=items.size:=Zqb _ _ (Waj _) hi;obtain⟨os,hos,hcs,hds⟩:=id hs;have hTs:s.TypeIs (.ref sl) "slice":=⟨os,hos,hcs⟩;unfold getItem
 try with_reducible refine wpAny_holding ?_
 first|refine wpAny_bind (wpAny_pure ?_)|skip
 refine wpAny_bind (wpAny_sequenceKey ht.typeIs (by decide) ?_);refine wpAny_bind (wpAny_callSpecial?_slot (name:=Str.ofString "__getitem__") ht.typeIs PyProof.Rows.slot_tuple_getitem
  (wpAny_call_entry PyProof.Rows.slot_tuple_getitem ht.typeIs entry_tuple_getitem ?_ (args_tuple_getitem _ _)))
 show wpAny _ _ (Builtin.Tuple.tupleItemsOf (.ref t) >>= _) _ _ s;refine wpAny_bind (tupleItemsOf_ ht ?_);refine wpAny_bind (wpAny_typeOf hTs ?_);rw[if_pos (by decide)];refine wpAny_bind (Zcv hs pl pu ?_);have hno:¬ ((((sIx items.size 0 lo:Nat):Int) == 0 && (1:Int) == 1 && (sIx items.size items.size hi-sIx items.size 0 lo) == items.size)=true):=by
  intro q;rw[Wbd,Wbd]at q;have q1:((sIx items.size 0 lo:Nat):Int)=0:=eq_of_beq q.1.1;have q2:sIx items.size items.size hi-sIx items.size 0 lo=items.size:=eq_of_beq q.2;exact hw ⟨by omega,by omega⟩
 show wpAny _ _ (if (((sIx items.size 0 lo:Nat):Int) == 0 && (1:Int) == 1 && (sIx items.size items.size hi-sIx items.size 0 lo) == items.size)=true then _ else _) _ _ s;rw[if_neg hno,Zme]
 first
  |exact wpAny_bind (m:=Builtin.Tuple.tupleExact _) (wpAny_newObj_type (wpAny_pure ⟨_,rfl,wpAny_pure h⟩) htake)
  |exact wpAny_bind (m:=Builtin.Tuple.tupleExact _) (wpAny_newObj_type (wpAny_bind (wpAny_pure (wpAny_pure ⟨_,rfl,wpAny_pure h⟩))) htake)
  |exact wpAny_bind (wpAny_bind (m:=Builtin.Tuple.tupleExact _) (wpAny_newObj_type (wpAny_pure (wpAny_pure ⟨_,rfl,wpAny_pure h⟩)) htake))
  |exact wpAny_bind (wpAny_bind (m:=Builtin.Tuple.tupleExact _) (wpAny_newObj_type (wpAny_pure ⟨_,rfl,wpAny_pure h⟩) htake))
end
end HT
namespace L2
open PySem PySem.Spec PyProof.Rows
abbrev TO:=St->Hp->(Option Int->Hp->Prop)->Prop
def PO (X:Cx) (e:Option Expr) (t:TO):Prop:=
 ∀(pins:List (Addr × Obj)) (s:Shared) (σ:St) (H:Hp) (Q:Option Int->Hp->Prop),Inv X pins σ H s->t σ H Q →
  wpAny (model X.prog X.w) X.A (evalPart e X.env) (λu s'=>∃o H',Inv X pins σ H' s' /\ IsPart u o/\Q o H') X.xe s
def tNoPart:TO:=λ_ H Q=>Q none H
def tPart (t:TE):TO:=λσ H Q=>t σ H λx H1=>∃i,x=.int i/\Q (some i) H1
theorem Zd4 {ns:List Int}:∀{us:List Value},Vals (ns.map V.int) us->IntsAre us ns:=by
 induction ns with
 |nil=>intro us r;rw[List.map_nil]at r;cases r;exact .nil
 |cons n ns ih=>
  intro us r;rw[Wbf]at r;cases r with
  |cons r1 r2=>
   obtain⟨t,e⟩:=r1;subst e;exact .cons n t (ih r2)
section
variable {X:Cx}{e:Expr}{te:TE}{lo hi:Option Expr}{tl th:TO}{pos p2:Pos}
theorem Zob:PO X none tNoPart:=by
 intro pins s σ H Q I h;rw[evalPart_none];exact wpAny_pure ⟨none,H,I,.none,h⟩
theorem Zn5 (h:PE X e te):PO X (some e) (tPart te):=by
 intro pins s σ H Q I hw;rw[evalPart_some];refine thn (h pins s σ H _ I hw) λu s1 ⟨x,H1,I1,r1,q1⟩=>?_;obtain⟨i,rfl,q⟩:=q1;obtain⟨t,rfl⟩:=r1;exact⟨some i,H1,I1,.int i t,q⟩
def SlR (X:Cx) (r:V->Option Int->Option Int->Hp->VK->Prop):Prop:=
 ∀(pins:List (Addr × Obj)) (s:Shared) (σ:St) (H:Hp) (x:V) (v vl vu:Value) (lo hi:Option Int) (sl:Addr) (Q:VK),Inv X pins σ H s->RelV x v->s.heap.IsSliceOf sl vl vu .none->IsPart vl lo->IsPart vu hi->r x lo hi H Q →
  ∃T id,typeLookup (.type T) "__getitem__" = pure (some (.builtin id))/\s.TypeIs v T/\wpAny (model X.prog X.w) X.A (getItem v (.ref sl)) (EP X pins σ Q) X.xe s
theorem SlR.or {r r':V->Option Int->Option Int->Hp->VK->Prop}(h:SlR X r) (h':SlR X r'):SlR X (λx lo hi H Q=>r x lo hi H Q\/r' x lo hi H Q):=by
 intro pins s σ H x v vl vu lo hi sl Q I rx hs pl pu q;rcases q with q|q
 ·exact h pins s σ H x v vl vu lo hi sl Q I rx hs pl pu q
 ·exact h' pins s σ H x v vl vu lo hi sl Q I rx hs pl pu q
def tSl (r:V->Option Int->Option Int->Hp->VK->Prop) (te:TE) (tl th:TO):TE:=λσ H Q=>te σ H λx H1=>tl σ H1 λl H2=>th σ H2 λu H3=>r x l u H3 Q
theorem Zmb {r:V->Option Int->Option Int->Hp->VK->Prop}(hr:SlR X r) (he:PE X e te) (hl:PO X lo tl) (hu:PO X hi th):PE X (.Subscript e (.Slice lo hi none p2) pos) (tSl r te tl th):=by
 intro pins s σ H Q I h;refine Subscript_ (thn (he pins s σ H _ I h) λv s1 ⟨x,H1,I1,r1,q1⟩=>?_);refine wpAny_Slice (thn (hl pins s1 σ H1 _ I1 q1) λvl s2 ⟨l,H2,I2,pl,q2⟩=>thn (hu pins s2 σ H2 _ I2 q2) λvu s3 ⟨u,H3,I3,pu,q3⟩=>?_);rw[evalPart_none];refine wpAny_pure ?_;have I4:Inv X pins σ H3 { s3 with heap:=s3.heap.push { cls:=.type "slice",data:=.fields #[vl,vu,.none] } }:=I3.kept (t':=s3.toks) λb ob q=>Wac _ q;obtain⟨T,id,hT,ht,hg⟩:=hr pins { s3 with heap:=s3.heap.push { cls:=.type "slice",data:=.fields #[vl,vu,.none] } } σ H3 x v vl vu l u s3.heap.objs.size Q I4 r1 (Heap.IsSliceOf.new ..) pl pu q3;show wpAny (model X.prog X.w) X.A (subscriptTail e (.Slice lo hi none p2) v (.ref s3.heap.objs.size)) (EP X pins σ Q) X.xe { s3 with heap:=s3.heap.push { cls:=.type "slice",data:=.fields #[vl,vu,.none] } };exact tail_any (ops:=[.ref s3.heap.objs.size,v]) ht hT hg (by with_unfolding_all rfl)
def cutV (xs:List V) (lo hi:Option Int):List V:=(xs.drop (HT.sIx xs.length 0 lo)).take (HT.sIx xs.length xs.length hi-HT.sIx xs.length 0 lo)
theorem Zev (xs:List V) (lo hi:Option Int):(cutV xs lo hi).length<=xs.length:=by
 unfold cutV;rw[Wa4,Wcc];omega
def rSlT (K:W.Frag):V->Option Int->Option Int->Hp->VK->Prop:=λx lo hi H Q=>∃a xs,x=.ref a/\SqT K H a xs ∧
 ¬ (HT.sIx xs.length 0 lo=0/\HT.sIx xs.length xs.length hi=xs.length)/\∀p,H p=none->Q (.ref p) (upd H p (.tup (cutV xs lo hi)))
theorem Zrb:SlR X (rSlT X.K):=by
 intro pins s σ H x v vl vu lo hi sl Q I rx hs pl pu h;obtain⟨a,xs,rfl,hx,hw,q⟩:=h;cases rx;obtain⟨its,r,ht,hz⟩:=I.tuple hx;have hlen:its.toArray.size=xs.length:=by rw[Wah];exact r.length.symm
 refine⟨"tuple",_,PyProof.Rows.slot_tuple_getitem.lookup,ht.typeIs,?_⟩;refine HT.getItem_tuple_cut ht hs pl pu (by rw[hlen];exact hw) ?_ (by rw[hlen];exact hz);rw[hlen];refine⟨.ref s.heap.objs.size,_,I.laid (t':=s.toks) (o:=.tup (cutV xs lo hi)) (λb ob q=>Wac _ q) (Waj _) ?_,rfl,q _ (I.hok.fresh (Waj _))⟩;exact⟨Wbi (Zev xs lo hi) hz,_,(r.drop (HT.sIx xs.length 0 lo)).take (HT.sIx xs.length xs.length hi-HT.sIx xs.length 0 lo),IsTupN.new _ _⟩
def rCatT (K:W.Frag):R2:=λx y H Q=>∃a b xs ys,x=.ref a/\y=.ref b/\SqT K H a xs/\SqT K H b ys/\xs≠[]/\xs.length+ys.length<=sizeLine ∧
 (ys=[]->Q (.ref a) H)/\(ys≠[]->∀p,H p=none->Q (.ref p) (upd H p (.tup (xs++ys))))
theorem Vals.nil_iff {xs:List V}{us:List Value}(r:Vals xs us):us=[]↔xs=[]:=by
 cases r with
 |nil=>simp
 |cons _ _=>simp
theorem Zom:OpR X (binaryOp .Add) (rCatT X.K):=by
 intro pins s σ H x y v u Q I rx ry h;obtain⟨a,b,xs,ys,rfl,rfl,ha,hb,hx,hz,q1,q2⟩:=h;cases rx;cases ry;obtain⟨its,r1,p1,_⟩:=I.tuple ha;obtain⟨its2,r2,p2,_⟩:=I.tuple hb;refine HT.cat_tup p1 p2 (λz=>hx (r1.nil_iff.mp z)) (λz=>⟨.ref a,H,I,rfl,q1 (r2.nil_iff.mp z)⟩) (λz=>?_) (by rw[<- r1.length,<- r2.length];exact hz);refine⟨.ref s.heap.objs.size,_,I.laid (t':=s.toks) (o:=.tup (xs++ys)) (λb ob q=>Wac _ q) (Waj _) ?_,rfl,q2 (λw=>z (r2.nil_iff.mpr w)) _ (I.hok.fresh (Waj _))⟩;exact⟨by rw[Wap];exact hz,_,r1.append r2,IsTupN.new _ _⟩
end
end L2
namespace L2
open PySem PySem.Spec PyProof.Rows
def ixN (n:Nat) (i:Int):Option Nat:=if 0<=i then (if i<n then some i.toNat else none) else if -(n:Int)<=i then some (i+n).toNat else none
def atI {α:Type}(xs:List α) (i:Int):Option α:=(ixN xs.length i).bind λj=>xs[j]?
theorem Zkd {n:Nat}{i:Int}{j:Nat}(h:ixN n i=some j):seqIndex? i n=some j/\j<n /\ -(n:Int)<=i/\i<n:=by
 unfold ixN at h;by_cases h0:0<=i
 ·rw[if_pos h0]at h
  by_cases h1:i<n
  ·rw[if_pos h1]at h
   have e:i.toNat=j:=Wa5.inj h;exact⟨by rw[seqIndex_of h0 h1,e],by omega,by omega,h1⟩
  ·rw[if_neg h1]at h;cases h
 ·rw[if_neg h0]at h
  by_cases h1:-(n:Int)<=i
  ·rw[if_pos h1]at h
   have e:(i+n).toNat=j:=Wa5.inj h;exact⟨by rw[seqIndex_neg (by omega) h1,e],by omega,h1,by omega⟩
  ·rw[if_neg h1]at h;cases h
theorem Zhs {α:Type}{xs:List α}{i:Int}{v:α}(h:atI xs i=some v):∃j,seqIndex? i xs.length=some j/\xs[j]?=some v/\j<xs.length /\ -(xs.length:Int)<=i/\i<xs.length:=by
 unfold atI at h;cases e:ixN xs.length i with
 |none=>rw[e]at h;cases h
 |some j=>
  rw[e]at h;obtain⟨h1,h2,h3,h4⟩:=Zkd e;exact⟨j,h1,h,h2,h3,h4⟩
theorem Zby {α:Type}{xs:List α}{j:Nat}{v:α}(h:xs[j]?=some v):atI xs (j:Int)=some v:=by
 have hj:j<xs.length:=(Wag.mp h).1;have e:ixN xs.length (j:Int)=some j:=by
  unfold ixN;rw[if_pos (by omega),if_pos (by omega)];simp
 unfold atI;rw[e];exact h
def PlainIx (b:Expr):Prop:=∀o i,subscripted b false o i=operate [o,i] (getItem o i)
def IxR (X:Cx) (r:R2):Prop:=
 ∀(value slice:Expr) (pins:List (Addr × Obj)) (s:Shared) (σ:St) (H:Hp) (x y:V) (v u:Value) (Q:VK),Inv X pins σ H s->RelV x v->RelV y u->r x y H Q →
  subscripted slice false v u=operate [v,u] (getItem v u)->wpAny (model X.prog X.w) X.A (subscriptTail value slice v u) (EP X pins σ Q) X.xe s
def MtR (X:Cx) (id:String) (r:V->List V->Hp->VK->Prop):Prop:=
 ∀(pins:List (Addr × Obj)) (s:Shared) (σ:St) (H:Hp) (x:V) (xs:List V) (v:Value) (us:List Value) (Q:VK),Inv X pins σ H s->RelV x v->Vals xs us->r x xs H Q →
  wpAny (model X.prog X.w) X.A (call (.builtin id) (v::us)) (EP X pins σ Q) X.xe s
section
variable {X:Cx}{a b:Expr}{ta tb:TE}{pos:Pos}
theorem IxR.or {r r':R2}(h:IxR X r) (h':IxR X r'):IxR X (λx y H Q=>r x y H Q\/r' x y H Q):=by
 intro value slice pins s σ H x y v u Q I rx ry q hs;rcases q with q|q
 ·exact h value slice pins s σ H x y v u Q I rx ry q hs
 ·exact h' value slice pins s σ H x y v u Q I rx ry q hs
theorem Zam {r:R2}(hr:IxR X r) (ha:PE X a ta) (hb:PE X b tb) (hs:PlainIx b):PE X (.Subscript a b pos) (tOp r ta tb):=by
 intro pins s σ H Q I h;exact Subscript_ (binT ha hb I h λv u s2 x y H2 I2 rx ry q=>hr a b pins s2 σ H2 x y v u Q I2 rx ry q (hs _ _))
def rIxL (K:W.Frag):R2:=λx y H Q=>∃p xs i v,x=.ref p/\y=.int i/\SqL K H p xs/\atI xs i=some v/\Q v H
def rIxT (K:W.Frag):R2:=λx y H Q=>∃p xs i v,x=.ref p/\y=.int i/\SqT K H p xs/\atI xs i=some v/\Q v H
def rIxS:R2:=λx y H Q=>∃z i c,x=.str z/\y=.int i/\z.length<=sizeLine/\atI z.cps.toList i=some c/\Q (.str ⟨#[c]⟩) H
theorem Zol:IxR X (rIxL X.K):=by
 intro value slice pins s σ H x y v u Q I rx ry h hs;obtain⟨p,xs,i,z,rfl,rfl,hq,he,q⟩:=h;cases rx;obtain⟨t,rfl⟩:=ry;obtain⟨its,r,pl,hz⟩:=I.list hq;obtain⟨j,h1,h2,h3,h4,h5⟩:=Zhs he;obtain⟨w,ew,rw'⟩:=r.get h2;have hl:=r.length;have hn:=line63;have fin:EP X pins σ Q w s:=⟨z,H,I,rw',q⟩;by_cases h0:0<=i
 ·have hj:i.toNat=j:=by
   rw[seqIndex_of h0 h5]at h1;exact Wa5.inj h1
  exact item_listR pl.isList h0 (by omega) (by rw[hj];simpa using ew) fin hs
 ·have hj:(i+(its.toArray.size:Int)).toNat=j:=by
   rw[seqIndex_neg (by omega) h4]at h1;rw[Wah,<- hl];exact Wa5.inj h1
  exact subscriptTail_builtinR (x:=w) pl.isList.typeIs slot_list_getitem.lookup
   (wpAny_getItem_list_neg (Q:=λr s'=>r=w/\EP X pins σ Q r s') pl.isList (by omega) (by rw[Wah] <;> omega) (by omega) (by rw[hj];simpa using ew) ⟨rfl,fin⟩) hs
theorem Zqm:IxR X (rIxT X.K):=by
 intro value slice pins s σ H x y v u Q I rx ry h hs;obtain⟨p,xs,i,z,rfl,rfl,hq,he,q⟩:=h;cases rx;obtain⟨t,rfl⟩:=ry;obtain⟨its,r,pl,hz⟩:=I.tuple hq;obtain⟨j,h1,h2,h3,h4,h5⟩:=Zhs he;obtain⟨w,ew,rw'⟩:=r.get h2;have hl:=r.length;have hn:=line63;have fin:EP X pins σ Q w s:=⟨z,H,I,rw',q⟩;exact subscriptTail_builtinR (x:=w) pl.typeIs slot_tuple_getitem.lookup
  (getItem_tuple (j:=j) (Q:=λr s'=>r=w/\EP X pins σ Q r s') pl (by omega) (by omega) (by rw[Wah,<- hl];exact h1) (by simpa using ew) ⟨rfl,fin⟩) hs
theorem Zpu:IxR X rIxS:=by
 intro value slice pins s σ H x y v u Q I rx ry h hs;obtain⟨z,i,c,rfl,rfl,hz,he,q⟩:=h;obtain⟨t,rfl⟩:=rx;obtain⟨t',rfl⟩:=ry;obtain⟨j,h1,h2,h3,h4,h5⟩:=Zhs he;have hl:z.cps.toList.length=z.length:=by simp[Str.length]
 rw[hl]at h1 h4 h5;have hn:=line63;exact tail_any (typeIs_str s z t) slot_str_getitem.lookup (getItem_str (c:=c) (by
  have e1:decide (i < -(2 ^ 63:Int))=false:=decide_eq_false (by omega);have e2:decide (i ≥ 2 ^ 63)=false:=decide_eq_false (by omega);rw[e1,e2,Bool.or_false]) (by rw[h1];simpa using h2) ⟨.str ⟨#[c]⟩,H,I.tok _,⟨_,rfl⟩,q⟩) hs
def rIx (K:W.Frag):R2:=λx y H Q=>rIxL K x y H Q\/rIxT K x y H Q\/rIxS x y H Q
theorem Zp4:IxR X (rIx X.K):=Zol.or (Zqm.or Zpu)
theorem Zjd (its:List Value) (n j:Nat) (u:Value):Obj.mapSeq (·.setIfInBounds j u) { cls:=.type "list",data:=.seq its.toArray n } = { cls:=.type "list",data:=.seq (its.set j u).toArray n }:=by
 simp[Obj.mapSeq]
theorem Inv.lst {pins:List (Addr × Obj)}{σ:St}{H:Hp}{s:Shared}{p:Addr}{xs:List V}(I:Inv X pins σ H s) (h:H p=some (.lst xs)) :
  ∃(its:List Value) (n:Nat),Vals xs its/\s.heap.get? p=some { cls:=.type "list",data:=.seq its.toArray n } /\ xs.length<=sizeLine:=by
 obtain⟨z,its,n,r,e⟩:=I.hok p _ h;exact⟨its,n,r,e,z⟩
theorem Inv.lstUpd {pins:List (Addr × Obj)}{σ:St}{H:Hp}{s:Shared}{p:Addr}{xs ys:List V}{its its':List Value}{n n':Nat}{f:Obj->Obj}(I:Inv X pins σ H s) (h:H p=some (.lst xs))
  (ho:s.heap.get? p=some { cls:=.type "list",data:=.seq its.toArray n }) (hf:f { cls:=.type "list",data:=.seq its.toArray n } = { cls:=.type "list",data:=.seq its'.toArray n' }) (r:Vals ys its') (hz:ys.length<=sizeLine) (t:Nat) :
  Inv X pins σ (upd H p (.lst ys)) { s with heap:=s.heap.update p f,toks:=t }:=by
 have e:(s.heap.update p f).get? p=some { cls:=.type "list",data:=.seq its'.toArray n' }:=by
  rw[Wbb f ho (by rw[hf] <;> rfl),hf]
 refine I.write (x:=p) (e:=p) (by rw[h];trivial) (.inl rfl) (λb u hb q=>(Wav _ _ (Ne.symm hb)).trans q) ⟨_,e⟩ ?_;exact⟨hz,its',n',r,e⟩
def rSetL:V->V->V->Hp->(Hp->Prop)->Prop:=λo i v H Q=>∃p xs k j,o=.ref p/\i=.int k/\H p=some (.lst xs)/\ixN xs.length k=some j/\Q (upd H p (.lst (xs.set j v)))
theorem Zmq:PSet X rSetL:=by
 intro pins s σ H o i v ov iv u Q I ro ri rv h;obtain⟨p,xs,k,j,rfl,rfl,hp,hj,q⟩:=h;cases ro;obtain⟨t,rfl⟩:=ri;obtain⟨its,n,r,ho,hz⟩:=I.lst hp;obtain⟨h1,h2,h3,h4⟩:=Zkd hj;have hl:=r.length;have hn:=line63;have I':Inv X pins σ (upd H p (.lst (xs.set j v))) { s with heap:=s.heap.update p (Obj.mapSeq (·.setIfInBounds j u)) }:=
  I.lstUpd hp ho (Zjd its n j u) (r.set rv j) (by rw[Wce];exact hz) s.toks
 by_cases h0:0<=k
 ·have hk:k.toNat=j:=by
   rw[seqIndex_of h0 h4]at h1;exact Wa5.inj h1
  exact PySem.W.ki_setAt ho h0 (by omega) (by rw[Wah,<- hl];exact h4) (by rw[hk];exact⟨_,I',q⟩)
 ·have hk:(k+(its.toArray.size:Int)).toNat=j:=by
   rw[seqIndex_neg (by omega) h3]at h1;rw[Wah,<- hl];exact Wa5.inj h1
  exact PySem.W.ki_setBack ho (by omega) (by rw[Wah,<- hl];exact h3) (by omega) (by rw[hk];exact⟨_,I',q⟩)
theorem Zg4 (lo hi:Option Int) (n:Nat):(sliceBounds lo hi none n).1=((HT.sIx n 0 lo:Nat):Int)/\(sliceBounds lo hi none n).2.1=((HT.sIx n n hi:Nat):Int)/\(sliceBounds lo hi none n).2.2=1:=by
 refine⟨?_,?_,rfl⟩
 ·cases lo with
  |none=>simp[sliceBounds,HT.sIx]
  |some i=>
   simp only[sliceBounds,HT.sIx,Option.getD_none,show (1:Int) > 0 by decide,if_true];by_cases h:i<0
   ·simp only[h,if_true] <;> omega
   ·simp only[h,if_false] <;> omega
 ·cases hi with
  |none=>simp[sliceBounds,HT.sIx]
  |some i=>
   simp only[sliceBounds,HT.sIx,Option.getD_none,show (1:Int) > 0 by decide,if_true];by_cases h:i<0
   ·simp only[h,if_true] <;> omega
   ·simp only[h,if_false] <;> omega
theorem Zfu (its:List Value) (lo hi:Option Int):slicePick its.toArray lo hi none=((its.drop (HT.sIx its.length 0 lo)).take (HT.sIx its.length its.length hi-HT.sIx its.length 0 lo)).toArray:=by
 obtain⟨h1,h2,h3⟩:=Zg4 lo hi its.toArray.size;unfold slicePick;rw[h1,h2,h3];simp only[sliceRange_one,pick_run,Wah] <;> rfl
def rSlL (K:W.Frag):V->Option Int->Option Int->Hp->VK->Prop:=λx lo hi H Q=>∃a xs,x=.ref a/\SqL K H a xs/\∀p,H p=none->Q (.ref p) (upd H p (.lst (cutV xs lo hi)))
theorem Zon:SlR X (rSlL X.K):=by
 intro pins s σ H x v vl vu lo hi sl Q I rx hs pl pu h;obtain⟨a,xs,rfl,hx,q⟩:=h;cases rx;obtain⟨its,r,ht,hz⟩:=I.list hx;have hlen:=r.length;refine⟨"list",_,slot_list_getitem.lookup,ht.isList.typeIs,?_⟩;refine wpAny_getItem_list_slice ht.isList hs pl pu .none (by simp) ?_ (by rw[Wah] <;> omega)
 rw[Zfu,<- hlen];refine⟨.ref s.heap.objs.size,_,I.laid (t':=s.toks) (o:=.lst (cutV xs lo hi)) (λb ob q=>Wac _ q) (Waj _) ?_,rfl,q _ (I.hok.fresh (Waj _))⟩;exact⟨Wbi (Zev xs lo hi) hz,_,0,(r.drop (HT.sIx xs.length 0 lo)).take (HT.sIx xs.length xs.length hi-HT.sIx xs.length 0 lo),Wao _ rfl⟩
def flatV:V->Bool
 |.non=>true
 |.bl _=>true
 |.int _=>true
 |.str _=>true
 |_=>false
def eqV:V->V->Bool
 |.non,.non=>true
 |.bl a,.bl b=>a == b
 |.bl a,.int b=>(if a then 1 else 0) == b
 |.int a,.bl b=>a == (if b then 1 else 0)
 |.int a,.int b=>a == b
 |.str a,.str b=>a == b
 |_,_=>false
theorem Znh {A:Around}{s:Shared}{y x:V}{u v:Value}(ry:RelV y u) (rx:RelV x v) (fy:flatV y=true) (fx:flatV x=true):SeqAt.EqAt A s u v (eqV y x):=by
 cases y with
 |non=>
  cases ry;cases x with
  |non=>cases rx;exact SeqAt.EqAt.same _
  |bl b=>cases rx;exact SeqAt.EqAt.none_bool b
  |int b=>obtain⟨t,rfl⟩:=rx;exact SeqAt.EqAt.none_int b t
  |str b=>obtain⟨t,rfl⟩:=rx;exact SeqAt.EqAt.none_str b t
  |_=>exact absurd (show false=true from fx) Wat
 |bl a=>
  cases ry;cases x with
  |non=>cases rx;exact SeqAt.EqAt.bool_none a
  |bl b=>cases rx;exact SeqAt.EqAt.bool_bool a b
  |int b=>obtain⟨t,rfl⟩:=rx;exact SeqAt.EqAt.bool_int a b t
  |str b=>obtain⟨t,rfl⟩:=rx;exact SeqAt.EqAt.bool_str a b t
  |_=>exact absurd (show false=true from fx) Wat
 |int a=>
  obtain⟨t',rfl⟩:=ry;cases x with
  |non=>cases rx;exact SeqAt.EqAt.int_none a t'
  |bl b=>cases rx;exact SeqAt.EqAt.int_bool a t' b
  |int b=>obtain⟨t,rfl⟩:=rx;exact SeqAt.EqAt.int_int a t' b t
  |str b=>obtain⟨t,rfl⟩:=rx;exact SeqAt.EqAt.int_str a t' b t
  |_=>exact absurd (show false=true from fx) Wat
 |str a=>
  obtain⟨t',rfl⟩:=ry;cases x with
  |non=>cases rx;exact SeqAt.EqAt.str_none a t'
  |bl b=>cases rx;exact SeqAt.EqAt.str_bool a t' b
  |int b=>obtain⟨t,rfl⟩:=rx;exact SeqAt.EqAt.str_int a t' b t
  |str b=>obtain⟨t,rfl⟩:=rx;exact SeqAt.EqAt.str_str a t' b t
  |_=>exact absurd (show false=true from fx) Wat
 |_=>exact absurd (show false=true from fy) Wat
def eqU (x:V) (u:Value):Bool:=match u with
 |.none=>eqV .non x
 |.bool b=>eqV (.bl b) x
 |.int i _=>eqV (.int i) x
 |.str z _=>eqV (.str z) x
 |_=>false
theorem Zip {x y:V}{u:Value}(r:RelV y u) (f:flatV y=true):eqU x u=eqV y x:=by
 cases y with
 |non=>cases r;rfl
 |bl b=>cases r;rfl
 |int i=>obtain⟨t,rfl⟩:=r;rfl
 |str z=>obtain⟨t,rfl⟩:=r;rfl
 |_=>exact absurd (show false=true from f) Wat
theorem Zh0 {x:V}:∀{xs:List V}{us:List Value},Vals xs us->xs.all flatV=true->us.any (eqU x)=xs.any λy=>eqV y x
 |_,_,.nil,_=>rfl
 |y::xs,u::us,.cons r t,f=>by
  rw[Wcw,Wbd]at f;rw[Wcp,Wcp,Zip r f.1,Zh0 t f.2]
theorem Zfl {A:Around}{s:Shared}{x:V}{v:Value}(rx:RelV x v) (fx:flatV x=true):∀{xs:List V}{us:List Value},Vals xs us->xs.all flatV=true->∀u∈us,SeqAt.EqAt A s u v (eqU x u)
 |_,_,.nil,_=>λu hu=>by cases hu
 |y::xs,u::us,.cons r t,f=>λu' hu=>by
  rw[Wcw,Wbd]at f;rcases Wan.mp hu with rfl|hu
  ·rw[Zip r f.1];exact Znh r rx f.1 fx
  ·exact Zfl rx fx t f.2 u' hu
def inV (x:V) (xs:List V):Bool:=xs.any λy=>eqV y x
def rIn (K:W.Frag) (neg:Bool):R2:=λx y H Q=>∃p xs,y=.ref p/\(SqL K H p xs\/SqT K H p xs)/\flatV x=true/\xs.all flatV=true/\Q (.bl (if neg then !inV x xs else inV x xs)) H
theorem Zg6:OpR X (compareOp .NotIn) (rIn X.K true):=by
 intro pins s σ H x y v u Q I rx ry h;obtain⟨p,xs,rfl,hq,fx,fs,q⟩:=h;cases ry;rcases hq with hq|hq
 ·obtain⟨its,r,pl,hz⟩:=I.list hq
  refine SeqAt.notIn_listAt (eqU x) pl.isList (λw hw=>Zfl rx fx r fs w (by simpa using hw)) ⟨.bl _,H,I,rfl,?_⟩;rw[show its.toArray.any (eqU x)=its.any (eqU x) by simp,Zh0 r fs];exact q
 ·obtain⟨its,r,pl,hz⟩:=I.tuple hq
  refine SeqAt.notIn_tupleAt (eqU x) pl (λw hw=>Zfl rx fx r fs w (by simpa using hw)) ⟨.bl _,H,I,rfl,?_⟩;rw[show its.toArray.any (eqU x)=its.any (eqU x) by simp,Zh0 r fs];exact q
theorem Zg5:CallR X (.builtin "len") (λxs H Q=>∃p ys,xs=[.ref p]/\(SqL X.K H p ys\/SqT X.K H p ys)/\Q (.int ys.length) H):=by
 intro pins s σ H xs us Q I r h;obtain⟨p,ys,rfl,hq,q⟩:=h;obtain⟨u,rfl,rx⟩:=vals1 r;cases rx;have hn:=line63;rcases hq with hq|hq
 ·obtain⟨its,r',pl,hz⟩:=I.list hq
  have hlen:=r'.length;exact Calls.call_len_list pl.isList (by simp only[Wah] <;> omega) ⟨.int ys.length,H,I.tok _,⟨s.toks+1,by rw[Wah,hlen]⟩,q⟩
 ·obtain⟨its,r',pl,hz⟩:=I.tuple hq
  have hlen:=r'.length;exact len_tuple pl (by simp only[Wah] <;> omega) ⟨.int ys.length,H,I.tok _,⟨s.toks+1,by rw[Wah,hlen]⟩,q⟩
theorem CallR.or {f:Value}{r r':List V->Hp->VK->Prop}(h:CallR X f r) (h':CallR X f r'):CallR X f (λxs H Q=>r xs H Q\/r' xs H Q):=by
 intro pins s σ H xs us Q I rs q;rcases q with q|q
 ·exact h pins s σ H xs us Q I rs q
 ·exact h' pins s σ H xs us Q I rs q
theorem Zf8:CallR X (.type "tuple") (λxs H Q=>∃p ys,xs=[.ref p]/\((SqL X.K H p ys/\∀l,H l=none->Q (.ref l) (upd H l (.tup ys)))\/(SqT X.K H p ys/\Q (.ref p) H))):=by
 intro pins s σ H xs us Q I r h;obtain⟨p,ys,rfl,h⟩:=h;obtain⟨u,rfl,rx⟩:=vals1 r;cases rx;rcases h with ⟨hq,q⟩|⟨hq,q⟩
 ·obtain⟨its,r',pl,hz⟩:=I.list hq
  have hlen:=r'.length;refine call_tuple_list pl.isList (λh' kp=>?_) (by simp only[Wah] <;> omega)
  have I1:Inv X pins σ H { s with heap:=h' }:=I.kept (t':=s.toks) kp;have I2:Inv X pins σ (upd H h'.objs.size (.tup ys)) { s with heap:=h'.push { cls:=.type "tuple",data:=.seq its.toArray } }:=
   I1.laid (t':=s.toks) (λb o e=>Wac _ e) (Waj _) (show ObjOk X.prog X.w _ _ _ (.tup ys) from ⟨hz,its,r',IsTupN.new _ _⟩)
  exact⟨.ref h'.objs.size,_,I2,rfl,q _ (I1.hok.fresh (Waj _))⟩
 ·obtain⟨its,r',pl,hz⟩:=I.tuple hq
  exact call_tuple_same pl ⟨.ref p,H,I,rfl,q⟩
def tyV (K:W.Frag) (T:String) (x:V) (H:Hp):Prop:=match x with
 |.str _=>T = "str"
 |.int _=>T = "int"
 |.ref p=>(T = "list" /\ ∃xs,SqL K H p xs)\/(T = "tuple" /\ ((∃o,K.lookup p=some o/\o.cls=.type "tuple" /\ o.dict=none)\/∃xs,H p=some (.tup xs))) ∨
   (T = "dict" /\ ((∃kvs,H p=some (.dK kvs))\/∃kvs,H p=some (.dT kvs)))\/(T = "set" /\ ∃S n,H p=some (.set S n))
 |_=>False
theorem Zqn {pins:List (Addr × Obj)}{σ:St}{H:Hp}{s:Shared}{T:String}{x:V}{v:Value}(I:Inv X pins σ H s) (r:RelV x v) (ty:tyV X.K T x H) :
  s.TypeIs v T/\∀a,v=.ref a->∃ob,s.heap.get? a=some ob/\ob.dict=none:=by
 cases x with
 |str z=>
  obtain⟨t,rfl⟩:=r;cases (show T = "str" from ty);exact⟨typeIs_str s z t,λ_ e=>nomatch e⟩
 |int i=>
  obtain⟨t,rfl⟩:=r;cases (show T = "int" from ty);exact⟨typeIs_int s i t,λ_ e=>nomatch e⟩
 |ref p=>
  cases r;rcases ty with ⟨rfl,xs,hq⟩|⟨rfl,(⟨o,hk,hc,hd⟩|⟨xs,hk⟩)⟩|⟨rfl,hk⟩|⟨rfl,S,n,hk⟩
  ·obtain⟨its,_,pl,_⟩:=I.list hq
   refine⟨pl.isList.typeIs,λa e=>?_⟩;cases e;obtain⟨o,n,e,c,hd,_⟩:=pl;exact⟨o,e,hd⟩
  ·refine⟨⟨o,I.kIn p o hk,hc⟩,λa e=>?_⟩
   cases e;exact⟨o,I.kIn _ o hk,hd⟩
  ·obtain⟨_,_,_,o,e,⟨hc,_⟩,hd⟩:=I.hok p _ hk
   refine⟨⟨o,e,hc⟩,λa e2=>?_⟩;cases e2;exact⟨o,e,hd⟩
  ·have z:∃o,s.heap.get? p=some o/\o.ExactDict:=by
    rcases hk with ⟨kvs,hk⟩|⟨kvs,hk⟩
    ·obtain⟨_,_,_,_,o,_,_,e,ex,_⟩:=I.hok p _ hk
     exact⟨o,e,ex⟩
    ·obtain⟨_,_,_,_,o,_,_,e,ex,_⟩:=I.hok p _ hk
     exact⟨o,e,ex⟩
   obtain⟨o,e,ex⟩:=z;refine⟨⟨o,e,ex.1⟩,λa e2=>?_⟩;cases e2;exact⟨o,e,ex.2.1⟩
  ·obtain⟨o,_,_,_,e,ex,_⟩:=I.hok p _ hk
   refine⟨⟨o,e,ex.1⟩,λa e2=>?_⟩;cases e2;exact⟨o,e,ex.2.1⟩
 |_=>exact False.elim ty
def tBM (K:W.Frag) (T:String) (r:V->List V->Hp->VK->Prop) (to:TE) (t:TA):TE:=λσ H Q=>to σ H λx H1=>tyV K T x H1/\t σ H1 λxs H2=>r x xs H2 Q
variable {o e:Expr}{es:List Expr}{to:TE}{t:TA}{name:Str}{apos cpos:Pos}{T id:String}{r:V->List V->Hp->VK->Prop}
theorem Zrx (pa:PlainAttrs T) (slot:Slot T name id) (hty:typeOf (.builtin id)=pure (.type "method_descriptor")) (hm:MtR X id r) (ho:PE X o to) (ha:PA X (e::es) t)
  (hbase:attributeBase o name X.env (eval o X.env)=eval o X.env:=by rfl)
  (hfew:((backTo cpos (starEach (e::es) X.env)).all (λx=>!x.1) && (backToKw cpos (keywordEach [] X.env)).all (λx=>x.1.isSome)
   && decide ((e::es).length+([]:List Keyword).length+(if ([]:List Keyword).isEmpty then 0 else 1)<30))=true:=by rfl)
  (hline:(apos.endLine == cpos.line)=true:=by rfl) (hs:starEach (e::es) X.env=(false,eval e X.env)::starEach es X.env:=by rfl) (hplain:(backTo cpos (starEach es X.env)).any (·.1)=false:=by rfl) :
  PE X (.Call (.Attribute o name apos) (e::es) [] cpos) (tBM X.K T r to t):=by
 intro pins s σ H Q I h;refine wpAny_Call_method_late hbase hfew hline rfl (thn (ho pins s σ H _ I h) λv s1 ⟨x,H1,I1,r1,ty,q1⟩=>?_);obtain⟨h1,h2⟩:=Zqn I1 r1 ty;refine⟨T,id,pa,slot,hty,h1,h2,?_⟩;have hA:=ha cpos pins s1 σ H1 _ I1 q1;rw[hs]at hA ⊢;refine Calls.callWith_builtin (by show (false || (backTo cpos (starEach es X.env)).any (·.1))=false;rw[hplain] <;> rfl) (Calls.evalArgs_plain ?_)
 exact thn hA λus s2 ⟨vs,H2,I2,r2,q2⟩=>hm pins s2 σ H2 x vs v us Q I2 r1 r2 q2
end
end L2
namespace L2
open PySem PySem.Spec PyProof.Rows
def MtM (X:Cx) (id:String) (r:V->List V->Hp->VK->Prop):Prop:=
 ∀(pins:List (Addr × Obj)) (s:Shared) (σ:St) (H:Hp) (x:V) (xs:List V) (v:Value) (us:List Value) (Q:VK),Inv X pins σ H s->RelV x v->Vals xs us->r x xs H Q →
  wpAny (model X.prog X.w) X.A (call (.builtin id) (v::us)) (EP X pins σ Q) X.xe s
theorem Vals.one:∀{x:V}{us:List Value},Vals [x] us->∃u,us=[u]/\RelV x u:=by
 intro x us h;cases h with|cons r t=>cases t;exact⟨_,rfl,r⟩
theorem Vals.two:∀{x y:V}{us:List Value},Vals [x,y] us->∃u v,us=[u,v]/\RelV x u/\RelV y v:=by
 intro x y us h;cases h with|cons r t=>cases t with|cons q t=>cases t;exact⟨_,_,rfl,r,q⟩
section
variable {X:Cx}{pins:List (Addr × Obj)}{σ:St}{H:Hp}{s:Shared}{l b:Addr}{xs ys zs:List V}
theorem Inv.lset {its its':List Value}{n:Nat}{f:Array Value->Array Value}{t':Nat}(I:Inv X pins σ H s) (hH:H l=some (.lst xs))
  (e:s.heap.get? l=some { cls:=.type "list",data:=.seq its.toArray n }) (hf:f its.toArray=its'.toArray) (hv:Vals ys its') (hz:ys.length<=sizeLine) :
  Inv X pins σ (upd H l (.lst ys)) { s with heap:=s.heap.update l (Obj.mapSeq f),toks:=t' }:=by
 have q:=PySem.IsL.update e f;rw[hf]at q;refine I.write (x:=l) (e:=l) (by rw[hH];exact trivial) (.inl rfl) (λb' u hb hu=>(Wav s.heap (Obj.mapSeq f) (Ne.symm hb)).trans hu) ⟨_,q⟩ ?_;exact⟨hz,its',_,hv,q⟩
theorem Inv.lnew {its:List Value}{t':Nat}(I:Inv X pins σ H s) (hv:Vals ys its) (hz:ys.length<=sizeLine) :
  Inv X pins σ (upd H s.heap.objs.size (.lst ys)) { s with heap:=s.heap.push { cls:=.type "list",data:=.seq its.toArray },toks:=t' }:=
 I.laid (λ_ _ q=>Wac _ q) (Waj _) ⟨hz,its,0,hv,Wao _ rfl⟩
theorem Inv.fresh (I:Inv X pins σ H s):H s.heap.objs.size=none:=I.hok.fresh (Waj _)
theorem Inv.lstM (I:Inv X pins σ H s) (hH:H l=some (.lst xs)):xs.length<=sizeLine/\∃(its:List Value) (n:Nat),Vals xs its/\xs.length=its.length/\s.heap.get? l=some { cls:=.type "list",data:=.seq its.toArray n }:=by
 obtain⟨z,its,n,r,e⟩:=I.hok l _ hH;exact⟨z,its,n,r,r.length,e⟩
end
section
variable {X:Cx}
def rAppend:V->List V->Hp->VK->Prop:=λx vs H Q=>∃l xs y,x=.ref l/\vs=[y]/\H l=some (.lst xs)/\xs.length<sizeLine/\Q .non (upd H l (.lst (xs++[y])))
theorem Zc1:MtM X "list.append" rAppend:=by
 intro pins s σ H x vs v us Q I rx rv h;obtain⟨l,xs,y,rfl,rfl,hH,hz,q⟩:=h;cases rx;obtain⟨u,rfl,ru⟩:=rv.one;obtain⟨z,its,n,r,hl,e⟩:=I.lstM hH;refine call_meets F.slot_list_append ⟨_,e,rfl⟩ F.entry_list_append (F.args_list_append_2 _ _) (PySem.list_append l its.toArray n u (by rw[Wah];omega)) ⟨e,?_⟩;refine⟨.non,_,I.lset (its':=its++[u]) hH e (by simp) (r.append (.cons ru .nil)) ?_,rfl,q⟩;rw[Wap,Wbz];omega
def rCat:R2:=λx y H Q=>∃l b xs zs,x=.ref l/\y=.ref b/\H l=some (.lst xs)/\H b=some (.lst zs)/\xs.length+zs.length<=sizeLine/\∀p,H p=none->Q (.ref p) (upd H p (.lst (xs++zs)))
theorem Zp0:OpR X (binaryOp .Add) rCat:=by
 intro pins s σ H x y v u Q I rx ry h;obtain⟨l,b,xs,zs,rfl,rfl,hH,hB,hz,q⟩:=h;cases rx;cases ry;obtain⟨z,its,n,r,hl,e⟩:=I.lstM hH;obtain⟨z2,its2,n2,r2,hl2,e2⟩:=I.lstM hB;refine PySem.P.add_list e e2 ?_ (by rw[Wah,Wah];omega);have ea:its.toArray++its2.toArray=(its++its2).toArray:=by simp
 rw[ea];exact⟨.ref _,_,I.lnew (t':=s.toks) (r.append r2) (by rw[Wap];omega),rfl,q _ I.fresh⟩
end
end L2
namespace Att
open PySem PySem.W PySem.Calls PyProof.Rows
theorem Zer {P:Params}{h:Heap}:∀(ns:List Int) (vs:List Value),WellAll P h vs (ns.map WData.int)->IntsAre vs ns:=by
 intro ns
 induction ns with
 |nil=>
  intro vs w;rw[List.map_nil]at w;cases w;exact .nil
 |cons n ns ih=>
  intro vs w;rw[Wbf]at w;cases w with
  |cons a b=>
   cases a;exact .cons _ _ (ih _ b)
theorem Zkx {l:OpenLaw}{n:Nat}(hn:l.most=some n) {P:Params}{h:Heap}{args:List WData}{vals:List Value}
  (hpre:l.row.toRowW.claim.pre args=true) (hwl:WellAll P h vals args) :
  ∃a vs ns,vals=[Value.ref a]/\args=[WData.list (ns.map WData.int)]/\h.get? a=some { cls:=.type "list",data:=.seq vs.toArray } /\ IntsAre vs ns/\ns.length<=n:=by
 have hsh:WShape.hasAll [] args [.list .int]=true:=(pre_splitW hpre).1;have hc:l.pre.holds [] { args:=args } = true:=(pre_splitW hpre).2;obtain⟨d,r,rfl,h1,h2⟩:=hasAllW_cons hsh;obtain rfl:=hasAllW_nil h2;obtain⟨xs,rfl,h3⟩:=hasW_list h1;obtain⟨ns,rfl⟩:=items_int h3;have hlen:ns.length<=n:=by
  unfold OpenLaw.pre at hc;have h4:(WTm.not (.lt (.lit (.int (n:Int))) (.len (.arg 0)))).holds [] { args:=[.list (ns.map .int)] } = true:=by
   have h4:=(holds_andW hc).1;rw[hn]at h4;exact h4
  have h5:=condW_of h4 (w_not (w_lt w_lit (w_len_list (w_arg rfl))));rw[Wab]at h5;refine Nat.le_of_not_lt λq=>?_;have q':(n:Int)<((ns.length:Nat):Int):=by omega
  first
   | (rw[decide_eq_true q']at h5;exact absurd h5 (by decide))
   | (simp at h5;omega)
 cases hwl with
 |cons w1 w2=>
  cases w2;cases w1 with
  |list ho hall=>exact⟨_,_,ns,rfl,rfl,ho,Zer ns _ hall,hlen⟩
theorem Zlf (l:OpenLaw) (args:List WData):l.row.toRowW.claim.post args (.bool true) args=true:=
 postW_of (r:=l.row.toRowW) (X:=(true == true))
  (show WShape.has [] (.bool true) .bool=true by first|rfl|decide|simp[WShape.has,WShape.arms,WShape.armsAll])
  (show (WTm.eq .res (.lit (.bool true))).value [] { args:=args,res:=some (.bool true),after:=args } = some (.bool (true == true)) from w_eq_bool (w_res rfl) w_lit) rfl
theorem attach_call {l:OpenLaw}{n:Nat}{q:Program}{loose:List Str}{XP:(Str->Option Value)->Heap->Prop}{YP:World->Heap->Prop}{d:DefRec}
  (hn:l.most=some n) (hdf:d.params.defaults=[])
  (call:∀(w:World) (s₀ s₁:Shared) (mg mb:Str->Option Value) (fa:Addr) (o:Obj) (pm cd doc:Value) (a:Addr) (vs:List Value) (ns:List Int),
   Ground q loose [] XP w s₀ mg mb s₁.heap->YP w s₁.heap →
   s₁.heap.get? fa=some o->o.data=.func (docDef d.name d.params d.body d.scope pm cd doc)->s₁.heap.CodeRec cd d.name->mg d.name=some (.ref fa) →
   s₁.heap.get? a=some { cls:=.type "list",data:=.seq vs.toArray } -> IntsAre vs ns->ns.length<=n->s₁.gens = #[] →
   codeAny (model l.prog w) callerA (.call (.ref fa) ⟨[.ref a],[]⟩) (λr s'=>r=.ok (.ret (.bool true))/\OldK s₁.heap s'.heap/\s'.os=s₁.os/\AllBare s'.gens) s₁) :
  WalkO q loose XP YP l.row.toRowW d [] (λf vs=>PySem.call f vs):=by
 intro w s₀ s₁ mg mb G Y fa o pm cd doc dV kV ho hd hcd hD hmg hg args vals as hpre hlay hrd hwl hlo;obtain rfl:dV=.none:=Dflts.none hD hdf;obtain rfl:kV=.none:=Dflts.noKw hD;obtain⟨a,vs,ns,rfl,rfl,hobj,hints,hlen⟩:=Zkx hn hpre hwl;refine enter_call (codeAny_mono (call w s₀ s₁ mg mb fa o pm cd doc a vs ns G Y ho (fd_plain hd) hcd hmg hobj hints hlen hg) λr s' hq=>?_);obtain⟨rfl,h2,h3,h4⟩:=hq;exact⟨.inl ⟨.bool true,.bool true,[],rfl,λ_=>rfl,.bool true,Zlf l _,λ_=>⟨List.Pairwise.nil,λ_ hm=>(nomatch hm)⟩⟩,h2,h3,h4⟩
end Att
namespace L2
open PySem PySem.Spec PyProof.Rows
theorem Zds:∀{vs:List Value}{ns:List Int},IntsAre vs ns->Vals (ns.map V.int) vs
 |_,_,.nil=>.nil
 |_,_,.cons n t h=>.cons ⟨t,rfl⟩ (Zds h)
def Only (H:Hp):Prop:=∀b,H b=none\/∃o xs,H b=some (.frz o (.lst xs))
theorem law_call {P:Program}{w:World}{K:W.Frag}{mg mb:Str->Option Value}{CX:CXT}{k:Nat}{fa a:Addr}{fd:FuncData}{x:Str}{sp:Sp}{s₁:Shared}{vs:List Value}{ns:List Int}
  (KX:K.In s₁.heap) (hns:s₁.heap.Ns mainGlobals mg) (hb:s₁.heap.Ns builtinsNs mb) (hbb:∀x:Str,x ≠ "__name__" -> mb x=bootBuiltins x) (hlim:s₁.heap.NoLimit) (hg:s₁.gens = #[])
  (ha:s₁.heap.get? a=some { cls:=.type "list",data:=.seq vs.toArray }) (hi:IntsAre vs ns) (hl:ns.length<=sizeLine) (hr:Room k callerA)
  (F:∀base:Heap,K.In base->base.Ns mainGlobals mg->FnOk P w K mg base CX k fa fd [x] sp) (hbind:∀(s:Shared) (u:Value),BindsTo s fd ⟨[u],[]⟩ [(x,u)])
  (hsp:∀H:Hp,Only H->SqL K H a (ns.map V.int)->sp [.ref a] H (λv _=>v=.bl true) λ_ _ _=>False)
  (hCX:∀H e s',CX [] H s₁ (λ_ _ _=>False) e s' -> False) :
  codeAny (model P w) callerA (.call (.ref fa) ⟨[.ref a],[]⟩) (λr s'=>r=.ok (.ret (.bool true))/\OldK s₁.heap s'.heap/\s'.os=s₁.os/\AllBare s'.gens) s₁:=by
 have rv:=Zds hi;have lenV:=hi.length
 -- from an abstract heap in which nothing but the script may be tracked
 have core:∀H:Hp,Only H->SqL K H a (ns.map V.int)->HOk P w H s₁.heap->(∀b,H b≠none->b=a)->(H a≠none->K.lookup a=none) →
   codeAny (model P w) callerA (.call (.ref fa) ⟨[.ref a],[]⟩) (λr s'=>r=.ok (.ret (.bool true))/\OldK s₁.heap s'.heap/\s'.os=s₁.os/\AllBare s'.gens) s₁:=by
  intro H hO hS hok hA hK;have base_of:∀{b:Addr}{o:Obj},s₁.heap.get? b=some o->H b=none->(hidT s₁.heap H).get? b=some o:=λe n=>Zmm e n;have noA:∀{b:Addr}{o:Obj}{es:Array DictEntry}{ep:Nat},s₁.heap.get? b=some o->o.data=.dict es ep->H b=none:=λ{b o es ep} e d=>by
   cases q:H b with
   |none=>rfl
   |some u=>
    have e':b=a:=hA b (by rw[q];simp);subst e';rw[ha]at e;cases e;have d':Data.seq vs.toArray _=Data.dict es ep:=d;cases d'
  have nsK:∀{b:Addr}{m:Str->Option Value},s₁.heap.Ns b m->(hidT s₁.heap H).Ns b m:=λ{b m} ⟨o,es,ep,e,d,r⟩=>⟨o,es,ep,base_of e (noA e d),d,r⟩;have hKb:K.In (hidT s₁.heap H):=λb o e=>base_of (KX b o e) (by
   cases q:H b with
   |none=>rfl
   |some u=>
    have e':b=a:=hA b (by rw[q];simp);subst e';rw[hK (by rw[q];simp)]at e;cases e)
  have hM:Mod K mg (hidT s₁.heap H):=⟨hKb,nsK hns,⟨mb,nsK hb,hbb⟩,let ⟨mc,h1,h2⟩:=hlim; ⟨mc,nsK h1,h2⟩⟩;have e0:Env0 P w K mg (hidT s₁.heap H) callerA [] s₁ H:=⟨rfl,hM,λb o e=>Zo3 e,Nat.le_of_eq (Zjg _ _),trivial,λb hb=>absurd (show b∈([]:List Addr) from hb) (by simp),hok,.of_eq hg⟩;refine codeAny_mono ((F _ hKb (nsK hns)).run callerA [] s₁ H ⟨[.ref a],[]⟩ [.ref a] [.ref a] _ _ hr e0 (hbind s₁ (.ref a)) (.cons rfl .nil) (hsp H hO hS)) λr s' h=>?_;cases r with
  |error e=>exact(hCX H e s' h).elim
  |ok fl=>
   cases fl with
   |next=>exact False.elim h
   |brk=>exact False.elim h
   |cont=>exact False.elim h
   |ret u=>
    obtain⟨v,H',os,bare,un,hok',r',q⟩:=h;have q':v=.bl true:=q;subst q';obtain rfl:u=Value.bool true:=r';refine⟨rfl,OldK.of_keep λb o e=>?_,os,bare⟩;cases q:H b with
    |none=>exact un.keep b o e q (by intro z;exact absurd (show b∈([]:List Addr) from z) (by simp)) (by simp)
    |some u=>
     rcases hO b with z|⟨ob,xs,z⟩
     ·rw[q]at z;cases z
     ·have z2:=un.frzs b ob _ z
      obtain⟨e1,_⟩:=hok b _ z;obtain⟨e2,_⟩:=hok' b _ z2;rw[e]at e1;cases e1;exact e2
 cases hk:K.lookup a with
 |some o=>
  -- the script is one of the module's own objects
  have e:=KX a o hk;rw[ha]at e;cases e;refine core (λ_=>none) (λ_=>.inl rfl) (.inr ⟨_,vs.toArray,_,hk,rfl,rfl,rfl,by rw[Wah,lenV];exact hl,by simpa using rv⟩) (λb u z=>by have z':(none:Option HO)=some u:=z;cases z') (λb z=>absurd rfl z) λz=>absurd rfl z
 |none=>
  refine core (λb=>if b=a then some (.frz { cls:=.type "list",data:=.seq vs.toArray } (.lst (ns.map V.int))) else none) (λb=>?_) (.inl (.inr ⟨{ cls:=.type "list",data:=.seq vs.toArray },if_pos rfl⟩)) (λb u z=>?_) (λb z=>?_) λ_=>hk
  ·by_cases hb:b=a
   ·exact .inr ⟨_,_,if_pos hb⟩
   ·exact .inl (if_neg hb)
  ·by_cases hb:b=a
   ·have z':=(if_pos hb).symm.trans z
    cases z';subst hb;exact⟨ha,by rw[Wab];exact hl,vs,_,rv,ha⟩
   ·have z':=(if_neg hb).symm.trans z
    cases z'
  ·by_cases hb:b=a
   ·exact hb
   ·exact absurd (if_neg hb) z
end L2
namespace L2
open PySem PySem.Spec PyProof.Rows
theorem walk_of {l:PySem.W.OpenLaw}{n k:Nat}{q:Program}{loose:List Str}{XP:(Str->Option Value)->Heap->Prop}{YP:World->Heap->Prop}{d:DefRec}{K:Params->W.Frag}{CX:World->CXT}{sp:World->Sp}{x:Str}
  (hn:l.most=some n) (hn2:n<=sizeLine) (hdf:d.params.defaults=[]) (hr:Room k callerA)
  (hY:∀(w:World) (h:Heap),YP w h->(K w.params).In h)
  (F:∀(w:World) (mg:Str->Option Value) (fa:Addr) (h:Heap),(K w.params).In h->h.Ns mainGlobals mg->mg d.name=some (.ref fa) →
   ∃fd:FuncData,(∀(s:Shared) (u:Value),BindsTo s fd ⟨[u],[]⟩ [(x,u)]) ∧
    ∀base:Heap,(K w.params).In base->base.Ns mainGlobals mg->FnOk l.prog w (K w.params) mg base (CX w) k fa fd [x] (sp w))
  (hsp:∀(w:World) (H:Hp) (a:Addr) (ns:List Int),ns.length<=n->Only H->SqL (K w.params) H a (ns.map V.int)->sp w [.ref a] H (λv _=>v=.bl true) λ_ _ _=>False)
  (hCX:∀(w:World) (H:Hp) (s:Shared) (e:Value) (s':Shared),CX w [] H s (λ_ _ _=>False) e s' -> False) :
  PySem.W.WalkO q loose XP YP l.row.toRowW d [] (λf vs=>PySem.call f vs):=by
 refine Att.attach_call hn hdf λw s₀ s₁ mg mb fa o pm cd doc a vs ns G Y ho hd hcd hmg hobj hints hlen hg=>?_;have KX:=hY w _ Y;obtain⟨fd,hb,hF⟩:=F w mg fa _ KX G.T.g hmg;exact law_call KX G.T.g G.T.b G.T.builtins G.T.nolimit hg hobj hints (Wbi hlen hn2) hr hF hb (λH hO hS=>hsp w H a ns hlen hO hS) λH e s'=>hCX w H s₁ e s'
end L2
namespace L2
open PySem PySem.Spec PyProof.Rows
def defArgs (s:Stmt):Arguments:=match s with
 |.FunctionDef _ a _ _ _ _ _ _ _ _=>a
 |_=>{ posonlyargs:=[],args:=[],vararg:=none,kwonlyargs:=[],kw_defaults:=[],kwarg:=none,defaults:=[] }
def defBody (s:Stmt):List Stmt:=match s with
 |.FunctionDef _ _ b _ _ _ _ _ _ _=>b
 |_=>[]
def defScope (s:Stmt):Scope:=match s with
 |.FunctionDef _ _ _ _ _ _ sc _ _ _=>sc
 |_=>{ kind:=.function,names:=[],isGenerator:=false,isCoroutine:=false }
abbrev CX0:CXT:=λ_ _ _ _ _ _=>False
abbrev E0:XK:=λ_ _ _=>False
theorem pass0 {X:Cx}:Passes CX0 X E0:=λ_ _ _ _ _ _ _ h=>h.elim
structure Fun (K:W.Frag) (x qual:Str) (st:Stmt) (f:Addr) (fd:FuncData):Prop where
 ex:∃(oc:Value) (od:Option Addr) (kV doc pm:Value) (an:Option Addr) (cdv ct:Value) (osl:Array (Option Value)),
  fd=W.fnOf x qual (defArgs st) (defBody st) (defScope st) .none kV doc pm an cdv ct/\K.lookup f=some ⟨oc,od,.func fd,osl⟩ /\ W.codeIn K cdv qual=true
 kp:W.keepIn K (.ref f)=true
section
variable {P:Program}{w:World}{K:W.Frag}{mg:Str->Option Value}{base:Heap}
theorem Fun.ok {x qual:Str}{st:Stmt}{f:Addr}{fd:FuncData}{N ps:List Str}{k:Nat}{sp:Sp}(F:Fun K x qual st f fd) (S:FnScope N ps (defScope st)) (len:∀vs H Q E,sp vs H Q E->vs.length=ps.length)
  (hbody:∀(cdv:Value) (A:Around) (outer:List Env) (s:Shared) (H:Hp) (vs:List V) (Q:VK) (E:XK),Room k (A.deeper (envOfC qual (defScope st) s.heap.objs.size f cdv))->sp vs H Q E →
   ∃t,PSs (cxOf CX0 P w K mg base N qual (defScope st) f cdv A outer s H E).nox (defBody st) t/\t { nx:=λ_ H'=>Q .non H',rt:=Q } (start N vs) H):FnOk P w K mg base CX0 (k+1) f fd ps sp:=by
 obtain⟨oc,od,kV,doc,pm,an,cdv,ct,osl,rfl,lk,hcd⟩:=F.ex;refine Zrh lk hcd S len λA outer s H vs Q E hr hsp=>?_;obtain⟨t,h,q⟩:=hbody cdv A outer s H vs Q E hr hsp;exact⟨t,h.nox,q⟩
theorem Fun.binds {x qual:Str}{st:Stmt}{f:Addr}{fd:FuncData}{ps:List Str}(F:Fun K x qual st f fd)
  (h:∀(kV doc pm:Value) (an:Option Addr) (cdv ct:Value) (us:List Value),us.length=ps.length->bindArgs (W.fnOf x qual (defArgs st) (defBody st) (defScope st) .none kV doc pm an cdv ct) ⟨us,[]⟩=pure (ps.zip us)):Binds K fd ps []:=by
 obtain⟨oc,od,kV,doc,pm,an,cdv,ct,osl,rfl,lk,hcd⟩:=F.ex;exact .all (h kV doc pm an cdv ct)
theorem Zq9 {x qual:Str}{st:Stmt}{f:Addr}{oc:Value}{od an:Option Addr}{osl:Array (Option Value)}{kV doc pm cdv ct:Value}(l:K.lookup f=some ⟨oc,od,.func (W.fnOf x qual (defArgs st) (defBody st) (defScope st) .none kV doc pm an cdv ct),osl⟩)
  (c:W.codeIn K cdv qual=true) (k:W.keepIn K (.ref f)=true):Fun K x qual st f (W.fnOf x qual (defArgs st) (defBody st) (defScope st) .none kV doc pm an cdv ct):=⟨⟨oc,od,kV,doc,pm,an,cdv,ct,osl,rfl,l,c⟩,k⟩
end
theorem Zbs {A:Around}{k:Nat}(hr:Room k A):A.units+1<cLine:=Wch (Nat.add_le_add_left (by decide:1<=64) _) hr.units
theorem small1000 {n:Nat}(h:n<=1000):n<sizeLine:=Wch h (by decide)
section
variable {X:Cx}
theorem pv (i:Nat) {x:Str}{pos:Pos}(hN:X.N[i]?=some x:=by rfl) (hv:Vis X.env.scope x:=by first|exact Or.inl rfl|exact Or.inr (Or.inl rfl)|exact Or.inr (Or.inr rfl)) (hd:(x == ("__debug__":Str))=false:=by decide)
  (hcd:(x == ("__classdict__":Str))=false:=by decide):PE X (.Name x pos) (tVar i):=Znl hN hv hd hcd
end
theorem iteF {A B:Prop}(h:B):if false=true then A else B:=by
 rw[if_neg Wat];exact h
theorem iteT {A B:Prop}(h:A):if true=true then A else B:=by
 rw[if_pos rfl];exact h
theorem ite2 {c A B:Prop}[Decidable c] (h1:c->A) (h2:¬ c->B):if c then A else B:=by
 by_cases h:c
 ·rw[if_pos h]
  exact h1 h
 ·rw[if_neg h]
  exact h2 h
def Same (H H':Hp):Prop:=∀b o,H b=some o->H' b=some o
theorem Same.refl (H:Hp):Same H H:=λ_ _ h=>h
theorem Same.trans {H H1 H2:Hp}(a:Same H H1) (b:Same H1 H2):Same H H2:=λc o h=>b c o (a c o h)
theorem Same.seq {K:W.Frag}{H H':Hp}{a:Addr}{xs:List V}(e:Same H H') (h:SqL K H a xs):SqL K H' a xs:=by
 rcases h with (h|⟨o,h⟩)|h
 ·exact .inl (.inl (e _ _ h))
 ·exact .inl (.inr ⟨o,e _ _ h⟩)
 ·exact .inr h
end L2
namespace L2
open PySem PySem.Spec PyProof.Rows
section
variable {κ:Type}[DecidableEq κ]
def valV (kvs:List (κ × V)) (k:κ):Option V:=(kvs.find? λkv=>decide (kv.1=k)).map (·.2)
def putK (kvs:List (κ × V)) (k:κ) (v:V):List (κ × V):=
 if (kvs.any λkv=>decide (kv.1=k))=true then kvs.map (λkv=>if kv.1=k then (kv.1,v) else kv) else kvs++[(k,v)]
theorem Zgd {p:κ × V}{r:List (κ × V)}{k:κ}(e:p.1=k):valV (p::r) k=some p.2:=by simp[valV,Wcg,e]
theorem Zf3 {p:κ × V}{r:List (κ × V)}{k:κ}(e:¬ p.1=k):valV (p::r) k=valV r k:=by simp[valV,Wcg,e]
theorem Zik (k:κ):∀kvs:List (κ × V),(kvs.any λkv=>decide (kv.1=k))=(valV kvs k).isSome
 |[]=>rfl
 |p::r=>by
  rw[Wcp];by_cases e:p.1=k
  ·simp only[Zgd e,decide_eq_true e,Bool.true_or,Option.isSome_some]
  ·rw[Zf3 e,decide_eq_false e,Bool.false_or];exact Zik k r
theorem Zes (kvs:List (κ × V)) (k:κ) (v:V):(putK kvs k v).length<=kvs.length+1:=by
 unfold putK;split
 ·rw[Wab];omega
 ·rw[Wap,Wam,Wb2];omega
theorem RelO.isSome_eq {o:Option V}{u:Option Value}(r:RelO o u):o.isSome=u.isSome:=by
 cases o with
 |none=>cases u with
  |none=>rfl
  |some _=>exact(show False from r).elim
 |some _=>cases u with
  |none=>exact(show False from r).elim
  |some _=>rfl
theorem KV.val {kvs:List (κ × V)}{vs:List (κ × Value)}(r:KV kvs vs) (k:κ):RelO (valV kvs k) (valueAt vs k):=by
 unfold KV at r
 induction r with
 |nil=>exact True.intro
 |@cons p q ps qs h t ih=>
  obtain⟨h1,h2⟩:=h;by_cases e:p.1=k
  ·have e':q.1=k:=h1.symm.trans e
   have b:valueAt (q::qs) k=some q.2:=by simp[valueAt,Wcg,e']
   rw[Zgd e,b];exact h2
  ·have e':¬ q.1=k:=λz=>e (h1.trans z)
   have b:valueAt (q::qs) k=valueAt qs k:=by simp[valueAt,Wcg,e']
   rw[Zf3 e,b];exact ih
theorem KV.any {kvs:List (κ × V)}{vs:List (κ × Value)}(r:KV kvs vs) (k:κ):(kvs.any λkv=>decide (kv.1=k))=vs.any λkv=>decide (kv.1=k):=by
 unfold KV at r
 induction r with
 |nil=>rfl
 |cons h t ih=>rw[Wcp,Wcp,ih,h.1]
theorem KV.repl {kvs:List (κ × V)}{vs:List (κ × Value)}(r:KV kvs vs) (k:κ) {y:V}{u:Value}(ry:RelV y u) :
  KV (kvs.map λkv=>if kv.1=k then (kv.1,y) else kv) (vs.map λkv=>if kv.1=k then (kv.1,u) else kv):=by
 unfold KV at r ⊢
 induction r with
 |nil=>exact .nil
 |@cons p q ps qs h t ih=>
  rw[Wbf,Wbf];refine .cons ?_ ih;obtain⟨h1,h2⟩:=h;by_cases e:p.1=k
  ·rw[if_pos e,if_pos (h1.symm.trans e)];exact⟨h1,ry⟩
  ·rw[if_neg e,if_neg (λz=>e (h1.trans z))];exact⟨h1,h2⟩
theorem KV.put {kvs:List (κ × V)}{vs:List (κ × Value)}(r:KV kvs vs) (k:κ) {y:V}{u:Value}(ry:RelV y u):KV (putK kvs k y) (stored vs k u):=by
 unfold putK stored;rw[r.any k];by_cases e:(vs.any λkv=>decide (kv.1=k))=true
 ·rw[if_pos e,if_pos e];exact r.repl k ry
 ·rw[if_neg e,if_neg e];exact Paired.snoc r ⟨rfl,ry⟩
theorem KV.length {kvs:List (κ × V)}{vs:List (κ × Value)}(r:KV kvs vs):kvs.length=vs.length:=Paired.length r
end
theorem Zmu {P:Program}{w:World}{k:Key}{u:Value}(r:RelV (kV k) u):(mixKind P w).is k u=true:=by
 cases k with
 |inl i=>obtain⟨t,e⟩:=(show ∃t,u=Value.int i t from r);subst e;exact Zhg P w i t
 |inr x=>obtain⟨t,e⟩:=(show ∃t,u=Value.str x t from r);subst e;exact Zhn P w x t
theorem Zhb {P:Program}{w:World}:∀{ks:List Key}{us:List Value},Vals (ks.map kV) us->ItemsAre (mixKind P w) ks us
 |[],_,r=>by rw[List.map_nil]at r;cases r;exact .nil
 |k::ks,_,r=>by
  rw[Wbf]at r;cases r with
  |cons h t=>exact .cons (Zmu h) (Zhb t)
abbrev KT (H:Hp):List (List Key × V)->List (List Key × Addr × Value)->Prop:=Paired λp q=>p.1=q.1/\H q.2.1=some (.tup (p.1.map kV))/\RelV p.2 q.2.2
theorem KT.val {H:Hp}{kvs:List (List Key × V)}{xs:List (List Key × Addr × Value)}(r:KT H kvs xs) (k:List Key):RelO (valV kvs k) ((atKey xs k).map (·.2)):=by
 induction r with
 |nil=>exact True.intro
 |@cons p q ps qs h t ih=>
  obtain⟨h1,_,h2⟩:=h;by_cases e:p.1=k
  ·have e':q.1=k:=h1.symm.trans e
   have b:atKey (q::qs) k=some q.2:=by simp[atKey,Wcg,e']
   rw[Zgd e,b];exact h2
  ·have e':¬ q.1=k:=λz=>e (h1.trans z)
   have b:atKey (q::qs) k=atKey qs k:=by simp[atKey,Wcg,e']
   rw[Zf3 e,b];exact ih
theorem KT.repl {H:Hp}{kvs:List (List Key × V)}{xs:List (List Key × Addr × Value)}(r:KT H kvs xs) (k:List Key) {y:V}{u:Value}(ry:RelV y u) :
  KT H (kvs.map λkv=>if kv.1=k then (kv.1,y) else kv) (xs.map (putAt k u)):=by
 induction r with
 |nil=>exact .nil
 |@cons p q ps qs h t ih=>
  rw[Wbf,Wbf];refine .cons ?_ ih;obtain⟨h1,h2,h3⟩:=h;unfold putAt;by_cases e:p.1=k
  ·rw[if_pos e,if_pos (h1.symm.trans e)];exact⟨h1,h2,ry⟩
  ·rw[if_neg e,if_neg (λz=>e (h1.trans z))];exact⟨h1,h2,h3⟩
theorem KT.put {H:Hp}{kvs:List (List Key × V)}{xs:List (List Key × Addr × Value)}(r:KT H kvs xs) (k:List Key) {b:Addr}{y:V}{u:Value}(hb:H b=some (.tup (k.map kV))) (ry:RelV y u) :
  KT H (putK kvs k y) (storedH xs k b u):=by
 have e:(kvs.any λkv=>decide (kv.1=k))=(atKey xs k).isSome:=by
  rw[Zik,(r.val k).isSome_eq,Option.isSome_map]
 unfold putK storedH;rw[e];by_cases q:(atKey xs k).isSome=true
 ·rw[if_pos q,if_pos q];exact r.repl k ry
 ·rw[if_neg q,if_neg q];exact Paired.snoc r ⟨rfl,hb,ry⟩
theorem KT.keeps {H H':Hp}{kvs:List (List Key × V)}{xs:List (List Key × Addr × Value)}(r:KT H kvs xs) (ht:∀b ys,H b=some (.tup ys)->H' b=some (.tup ys)):KT H' kvs xs:=
 Paired.mapP r λ_ _ z=>⟨z.1,ht _ _ z.2.1,z.2.2⟩
section
variable {P:Program}{w:World}{H:Hp}{h:Heap}{a:Addr}
theorem Zrg {u:HO}(ok:HOk P w H h) (e:Rd H a u):ObjOk P w H h a u:=e.ok ok
theorem Zk1 {kvs:List (Key × V)}(ok:HOk P w H h) (e:Rd H a (.dK kvs)):kvs.length<=sizeLine/\(a == sysModules)=false/\∃vs,KV kvs vs/\h.DictOf (mixKind P w) a vs:=
 show ObjOk P w H h a (.dK kvs) from Zrg ok e
theorem Zr1 {kvs:List (Key × V)}(ok:HOk P w H h) (e:H a=some (.dK kvs)):kvs.length<=sizeLine/\(a == sysModules)=false/\∃vs,KV kvs vs/\h.DictOf (mixKind P w) a vs:=Zk1 ok (.inl e)
theorem Zh6 {ks:List Key}(ok:HOk P w H h) (e:H a=some (.tup (ks.map kV))):(tupleKind (mixKind P w)).is h ks a:=by
 obtain⟨_,its,r,o,h1,⟨h2,n,h3⟩,_⟩:=(show ObjOk P w H h a (.tup (ks.map kV)) from ok a _ e);exact⟨o,its.toArray,n,h1,h2,h3,by simpa using Zhb r⟩
theorem Zlq {kvs:List (List Key × V)}(ok:HOk P w H h) (e:Rd H a (.dT kvs)):kvs.length<=sizeLine/\(a == sysModules)=false ∧
  ∃xs,KT H kvs xs/\h.DictOfH (tupleKind (mixKind P w)) a xs:=by
 obtain⟨z,y,xs,r,o,es,ep,h1,h2,h3,h4,h5⟩:=(show ObjOk P w H h a (.dT kvs) from Zrg ok e);refine⟨z,y,xs,r,o,es,ep,h1,h2,h3,h4,λx hx=>?_,h5⟩;have all:∀{l:List (List Key × V)}{m:List (List Key × Addr × Value)},KT H l m->∀x∈m,(tupleKind (mixKind P w)).is h x.1 x.2.1:=by
  intro l m q
  induction q with
  |nil=>intro x hx;exact nomatch hx
  |@cons p q ps qs hq t ih=>
   intro x hx;rcases Wan.mp hx with e|hx
   ·subst e
    exact Zh6 ok (by rw[<- hq.1];exact hq.2.1)
   ·exact ih x hx
 exact all r x hx
theorem Zr3 {kvs:List (List Key × V)}(ok:HOk P w H h) (e:H a=some (.dT kvs)):kvs.length<=sizeLine/\(a == sysModules)=false ∧
  ∃xs,KT H kvs xs/\h.DictOfH (tupleKind (mixKind P w)) a xs:=Zlq ok (.inl e)
end
def DGet (H:Hp) (a:Addr) (y:V) (r:Option V):Prop:=
 (∃kvs k,Rd H a (.dK kvs)/\y=kV k/\r=valV kvs k)\/∃kvs k b,Rd H a (.dT kvs)/\y=.ref b/\H b=some (.tup (k.map kV))/\r=valV kvs k
def DPut (H:Hp) (a:Addr) (y v:V) (H':Hp):Prop:=
 (∃kvs k,H a=some (.dK kvs)/\y=kV k/\kvs.length<sizeLine/\H'=upd H a (.dK (putK kvs k v))) ∨
 ∃kvs k b,H a=some (.dT kvs)/\y=.ref b/\H b=some (.tup (k.map kV))/\kvs.length<sizeLine/\H'=upd H a (.dT (putK kvs k v))
section
variable {X:Cx}{pins:List (Addr × Obj)}{σ:St}{H:Hp}{s:Shared}{a:Addr}{y v:V}{u r:Value}{o:Option V}{A:Around}{E:Value->Shared->Prop}
theorem Zj8 {Q:Value->Shared->Prop}(hu:A.units+1<cLine) (I:Inv X pins σ H s) (g:DGet H a y (some v)) (ry:RelV y u) (h:∀w' s',Inv X pins σ H s' -> RelV v w' -> Q w' s') :
  wpAny (model X.prog X.w) A (getItem (.ref a) u) Q E s:=by
 rcases g with ⟨kvs,k,e,ey,l⟩|⟨kvs,k,b,e,ey,eb,l⟩
 ·subst ey
  obtain⟨z,hd,vs,rel,dd⟩:=Zk1 I.hok e;obtain⟨w',hw,rw'⟩:=RelO.some_of (v:=v) (o:=valueAt vs k) (by rw[l];exact rel.val k);exact wpAny_getItem_of (Zmu ry) dd.mapOf hw (h w' _ (I.tok _) rw')
 ·subst ey
  cases (show u=Value.ref b from ry);obtain⟨z,hd,xs,rel,dd⟩:=Zlq I.hok e;obtain⟨w',hw,rw'⟩:=RelO.some_of (v:=v) (o:=(atKey xs k).map (·.2)) (by rw[l];exact rel.val k);obtain⟨p,hp,hp2⟩:=Option.map_eq_some_iff.mp hw;refine wpAny_getItem_heap (tupleKind_room_in1 hu) (Zh6 I.hok eb) dd hp ?_;rw[hp2];exact h w' _ (I.tok _) rw'
theorem Zoo {Q:Value->Shared->Prop}(hu:A.units+1<cLine) (I:Inv X pins σ H s) (g:DGet H a y o) (ry:RelV y u) (h:∀s',Inv X pins σ H s' -> Q (.bool (!o.isSome)) s') :
  wpAny (model X.prog X.w) A (compareOp .NotIn u (.ref a)) Q E s:=by
 rcases g with ⟨kvs,k,e,ey,l⟩|⟨kvs,k,b,e,ey,eb,l⟩
 ·subst ey
  obtain⟨z,hd,vs,rel,dd⟩:=Zk1 I.hok e;refine wpAny_notIn_of (Zmu ry) hd dd.mapOf ?_;rw[<- (rel.val k).isSome_eq,<- l];exact h _ (I.tok _)
 ·subst ey
  cases (show u=Value.ref b from ry);obtain⟨z,hd,xs,rel,dd⟩:=Zlq I.hok e;refine wpAny_notIn_heap (tupleKind_room_in1 hu) (Zh6 I.hok eb) hd dd ?_;have q:=(rel.val k).isSome_eq;rw[Option.isSome_map]at q;rw[<- q,<- l];exact h _ (I.tok _)
theorem Zj2 {h':Heap}{t':Nat}{ob:HO}(I:Inv X pins σ H s) (mu:Mut (H a)) (hs:Heap.SameBut a s.heap h') (he:∃q,h'.get? a=some q) (new:ObjOk X.prog X.w (upd H a ob) h' a ob) :
  Inv X pins σ (upd H a ob) { s with heap:=h',toks:=t' }:=
 I.write (x:=a) (e:=a) mu (.inl rfl) (λb q hb z=>(hs.2 b hb).trans z) he new
theorem Zp8 {P:Program}{w:World}{H':Hp}{h':Heap}{kvs:List (Key × V)}{vs:List (Key × Value)}(z:kvs.length<=sizeLine) (hd:(a == sysModules)=false) (rel:KV kvs vs) (dd:h'.DictOf (mixKind P w) a vs) :
  ObjOk P w H' h' a (.dK kvs):=⟨z,hd,vs,rel,dd⟩
theorem Zj7 {H':Hp}{Q:Unit->Shared->Prop}(hu:A.units+1<cLine) (I:Inv X pins σ H s) (g:DPut H a y v H') (ry:RelV y u) (rv:RelV v r) (h:∀s',Inv X pins σ H' s' -> Q () s') :
  wpAny (model X.prog X.w) A (setItem (.ref a) u r) Q E s:=by
 rcases g with ⟨kvs,k,e,ey,l,eH⟩|⟨kvs,k,b,e,ey,eb,l,eH⟩
 ·subst ey eH
  obtain⟨z,hd,vs,rel,dd⟩:=Zr1 I.hok e;have hz:vs.length<=sizeLine:=by rw[<- rel.length];exact z
  have hl:(putK kvs k v).length<=sizeLine:=by have:=Zes kvs k v;omega
  refine wpAny_setItem_pairs (hsz:=hz) (Zmu ry) dd λh' dd' hs=>h _ ?_;have he:∃q,h'.get? a=some q:=let ⟨q,_,_,hq,_⟩:=dd'; ⟨q,hq⟩
  exact Zj2 I (by rw[e];exact True.intro) hs he (Zp8 hl hd (rel.put k rv) dd')
 ·subst ey eH
  cases (show u=Value.ref b from ry);obtain⟨z,hd,xs,rel,dd⟩:=Zr3 I.hok e;have hz:xs.length<=sizeLine:=by rw[<- Paired.length rel];exact z
  have hl:(putK kvs k v).length<=sizeLine:=by have:=Zes kvs k v;omega
  refine wpAny_setItem_heap (hsz:=hz) (tupleKind_room_in1 hu) (Zh6 I.hok eb) dd λh' dd' hs=>h _ ?_;obtain⟨q,es,ep,hq,h2,h3,h4,_,h5⟩:=dd';refine Zj2 I (by rw[e];exact True.intro) hs ⟨q,hq⟩ ⟨hl,hd,_,(rel.put k eb rv).keeps λc ys ec=>?_,q,es,ep,hq,h2,h3,h4,h5⟩;rw[Zau (Zrz ec e (λz=>nomatch z))];exact ec
end
section
variable {X:Cx}{pins:List (Addr × Obj)}{σ:St}{H:Hp}{s:Shared}{a:Addr}{kvs:List (Key × V)}{k:Key}{u:Value}{A:Around}{E:Value->Shared->Prop}
theorem Zry {Q:Value->Shared->Prop}(I:Inv X pins σ H s) (e:Rd H a (.dK kvs)) (h:∀t s',Inv X pins σ H s' -> Q (.int kvs.length t) s'):wpAny (model X.prog X.w) A (call (.builtin "len") [.ref a]) Q E s:=by
 obtain⟨z,hd,vs,rel,dd⟩:=Zk1 I.hok e;refine call_len_dict hd dd (by rw[<- rel.length];rw[sizeLine_eq]at z;omega) ?_;rw[<- rel.length];exact h _ _ (I.tok _)
end
theorem Zhi {X:Cx}{pins:List (Addr × Obj)}{σ:St}{H:Hp}{s:Shared}{a:Addr}{y:V}{o:Option V}(I:Inv X pins σ H s) (g:DGet H a y o):s.TypeIs (.ref a) "dict":=by
 rcases g with ⟨kvs,k,e,_,_⟩|⟨kvs,k,b,e,_,_,_⟩
 ·obtain⟨_,_,vs,_,dd⟩:=Zk1 I.hok e
  exact dd.typeIs
 ·obtain⟨_,_,xs,_,dd⟩:=Zlq I.hok e
  exact dd.typeIs
section
variable {X:Cx}{pos:Pos}
end
section
variable {X:Cx}{o e f:Expr}{apos cpos:Pos}{td ty tx:TE}
end
section
variable {X:Cx}{pins:List (Addr × Obj)}{σ:St}{H:Hp}{s:Shared}{a:Addr}{y:V}{u:Value}{A:Around}{E:Value->Shared->Prop}
end
end L2
namespace L2
open PySem PySem.Spec PyProof.Rows
section
variable {X:Cx}
theorem Zji:CallR X (.builtin "len") (λxs H Q=>∃a kvs,xs=[V.ref a]/\H a=some (.dK kvs)/\Q (.int kvs.length) H):=by
 intro pins s σ H xs us Q I r h;obtain⟨a,kvs,rfl,ha,q⟩:=h;obtain⟨u,rfl,ru⟩:=vals1 r;cases ru;exact Zry I (.inl ha) λt s' I'=>⟨.int kvs.length,H,I',⟨t,rfl⟩,q⟩
end
def clOf (env:Env):List (Str × NameKind)->List (Str × Addr)->List (Str × Addr)
 |[],cs=>cs
 | (n,k)::r,cs=>if k == .free then (match env.cells.lookup n with
     |some a=>clOf env r ((n,a)::cs)
     |none=>clOf env r cs) else clOf env r cs
theorem Zei {env:Env}:∀(names:List (Str × NameKind)) (cs:List (Str × Addr)),(∀n,(n,NameKind.free)∈names->∃a,env.cells.lookup n=some a) →
  (forIn names cs λ(x:Str × NameKind) (cs:List (Str × Addr))=>if (x.2 == .free)=true then (do let a ← cellOf env x.1;pure (ForInStep.yield ((x.1,a)::cs))) else pure (ForInStep.yield cs):Sem (List (Str × Addr)))=pure (clOf env names cs)
 |[],cs,_=>rfl
 | (n,k)::r,cs,h=>by
  rw[List.forIn_cons];have hr:∀m,(m,NameKind.free)∈r->∃a,env.cells.lookup m=some a:=λm hm=>h m (Wau _ hm);cases hk:k == NameKind.free with
  |false=>
   have e:clOf env ((n,k)::r) cs=clOf env r cs:=by simp[clOf,hk]
   rw[e,<- Zei r cs hr];simp only[hk,Wbs,if_false];rfl
  |true=>
   have hk':k=.free:=by simpa using hk
   subst hk';obtain⟨a,ha⟩:=h n Wa8;have e:clOf env ((n,.free)::r) cs=clOf env r ((n,a)::cs):=by simp[clOf,ha]
   have ec:cellOf env n=pure a:=by simp[cellOf,ha]
   rw[e,<- Zei r ((n,a)::cs) hr];simp only[hk,if_true,ec];rfl
theorem Zbl {env:Env}{scope:Scope}(h:∀n,(n,NameKind.free)∈scope.names->∃a,env.cells.lookup n=some a):closureFor scope env=pure (clOf env scope.names []):=by
 rw[<- Zei scope.names [] h];simp only[closureFor];exact Eq.trans (bind_pure _) rfl
theorem Zbb {env:Env}:∀(names:List (Str × NameKind)) (cs:List (Str × Addr)) {x:Str}{c:Addr},(∀y d,cs.lookup y=some d->env.cells.lookup y=some d)->(clOf env names cs).lookup x=some c->env.cells.lookup x=some c
 |[],cs,x,c,h,e=>h x c e
 | (n,k)::r,cs,x,c,h,e=>by
  unfold clOf at e;split at e
  ·split at e
   ·rename_i a ha
    refine Zbb r ((n,a)::cs) (λy d q=>?_) e;rw[Wbk]at q;split at q
    ·rename_i hy
     have hy':y=n:=by simpa using hy
     cases q;rw[hy'];exact ha
    ·exact h y d q
   ·exact Zbb r cs h e
  ·exact Zbb r cs h e
theorem Zdu {env:Env}:∀(names:List (Str × NameKind)) (cs:List (Str × Addr)) {x:Str},(∃c,cs.lookup x=some c)->∃c,(clOf env names cs).lookup x=some c
 |[],cs,x,h=>h
 | (n,k)::r,cs,x,h=>by
  have h2:∀a,∃c,((n,a)::cs).lookup x=some c:=λa=>by
   rw[Wbk];split
   ·exact⟨_,rfl⟩
   ·exact h
  unfold clOf;split
  ·split
   ·exact Zdu r _ (h2 _)
   ·exact Zdu r cs h
  ·exact Zdu r cs h
theorem Zcp {env:Env}:∀(names:List (Str × NameKind)) (cs:List (Str × Addr)) {x:Str},(x,NameKind.free)∈names->(∃a,env.cells.lookup x=some a)->∃c,(clOf env names cs).lookup x=some c
 |[],_,_,h,_=>by simp at h
 | (n,k)::r,cs,x,h,⟨a,ha⟩=>by
  rcases Wan.mp h with e|hm
  ·have e1:n=x:=(congrArg Prod.fst e).symm
   have e2:k=.free:=(congrArg Prod.snd e).symm;subst e1;subst e2;have e:clOf env ((n,.free)::r) cs=clOf env r ((n,a)::cs):=by simp[clOf,ha]
   rw[e];exact Zdu r _ ⟨a,by simp⟩
  ·unfold clOf
   split
   ·split
    ·exact Zcp r _ hm ⟨a,ha⟩
    ·exact Zcp r _ hm ⟨a,ha⟩
   ·exact Zcp r _ hm ⟨a,ha⟩
def relab (osc scope:Scope):Scope:=
 { scope with names:=scope.names.map λ(n,k)=>if (k == .free && osc.kind == .function && osc.names.lookup n == some .cell) then (n,.cell) else (n,k) }
theorem Zhd {osc scope:Scope}{x:Str}{k:NameKind}(hk:k=.cell\/k=.free) (hc:∀y∈scope.names,y.2≠.cell) (h:(relab osc scope).names.lookup x=some k):(x,NameKind.free)∈scope.names:=by
 have hm:=PySem.mem_of_lookup h;obtain⟨⟨n,j⟩,hy,e⟩:=Wbm.mp hm;dsimp only at e;split at e
 ·rename_i hj
  have e1:n=x:=congrArg Prod.fst e;have hj':j=.free:=by
   simp only[Wbd,beq_iff_eq]at hj;exact hj.1.1
  rw[<- e1,<- hj'];exact hy
 ·have e1:n=x:=congrArg Prod.fst e
  have e2:j=k:=congrArg Prod.snd e;rcases hk with z|z
  ·exact absurd (show ((n,j):Str × NameKind).2=.cell from e2.trans z) (hc _ hy)
  ·rw[<- e1,<- z,<- e2];exact hy
theorem Zd6 {osc:Scope}{x:Str}:∀{names:List (Str × NameKind)},names.lookup x=some .free →
  (names.map λ(n,k)=>if (k == NameKind.free && osc.kind == .function && osc.names.lookup n == some .cell) then (n,NameKind.cell) else (n,k)).lookup x=some .cell ∨
  (names.map λ(n,k)=>if (k == NameKind.free && osc.kind == .function && osc.names.lookup n == some .cell) then (n,NameKind.cell) else (n,k)).lookup x=some .free
 |[],h=>by simp at h
 | (n,k)::r,h=>by
  have ih:=@Zd6 osc x r;rw[Wbf];cases hx:x == n with
  |true=>
   simp only[Wbk,hx]at h;cases h;dsimp only;split
   ·left;simp[Wbk,hx]
   ·right;simp[Wbk,hx]
  |false=>
   simp only[Wbk,hx]at h;dsimp only;split
   ·simpa only[Wbk,hx] using ih h
   ·simpa only[Wbk,hx] using ih h
structure CompSc (osc:Scope) (oN:List Str) (scope:Scope) (fvs:List Str) (sel:List Nat):Prop where
 kind:scope.kind=.function
 nocell:∀y∈scope.names,y.2≠.cell
 names:∀y∈scope.names,y.2=.local->scope.names.lookup y.1=some .local
 free:∀y∈scope.names,y.2=.free->osc.names.lookup y.1=some .cell\/osc.names.lookup y.1=some .free
 len:fvs.length=sel.length
 fv:∀p∈fvs.zip sel,oN[p.2]?=some p.1/\scope.names.lookup p.1=some .free
def compCx (X:Cx) (scope:Scope) (N:List Str) (C:Addr) (s:Shared) (H:Hp) (ex:List Addr) (pn:List (Addr × Obj)):Cx where
 prog:=X.prog
 w:=X.w
 K:=X.K
 mg:=X.mg
 base:=X.base
 A:=X.A
 N:=N
 s₀:=s
 H₀:=H
 env:=compEnvC scope (clOf X.env scope.names []) C X.env
 outer:=X.stack
 stack:=X.stack
 ex:=ex
 fn:=λ_=>false
 calm:=X.calm
 pn:=pn
 xe:=λ_ _=>False
def compSt (n:Nat) (sel:List Nat) (σ:St):St:=Wae n none++sel.map λi=>(σ[i]?).getD none
section
variable {X:Cx}{pins:List (Addr × Obj)}{σ:St}{H:Hp}{s:Shared}{fp:List Addr}{scope:Scope}{tgs fvs:List Str}{sel:List Nat}
theorem Zdd (S:CompSc X.env.scope X.N scope fvs sel) (ok:X.Ok):∀n,(n,NameKind.free)∈scope.names->∃a,X.env.cells.lookup n=some a:=λn hn=>
 ok.has n (S.free _ hn rfl)
theorem Zpb (S:CompSc X.env.scope X.N scope fvs sel) (N:List Str) (I:Inv X pins σ H s) (hf:∀b∈fp,FpOk X pins H b) (hlt:∀b∈fp,b<s.heap.objs.size):(compCx X scope N s.heap.objs.size s H fp (X.pn++pins)).Ok where
 mod:=I.ok.mod
 kind:=S.kind
 glob:=I.ok.glob
 blt:=I.ok.blt
 above:=Waj _
 inj:=λx y c h1 h2=>I.ok.inj x y c (Zbb _ _ (λ_ _ z=>by simp at z) h1) (Zbb _ _ (λ_ _ z=>by simp at z) h2)
 has:=λx hx=>by
  have hm:(x,NameKind.free)∈scope.names:=by
   rcases hx with z|z
   ·exact Zhd (osc:=X.env.scope) (.inl rfl) S.nocell z
   ·exact Zhd (osc:=X.env.scope) (.inr rfl) S.nocell z
  exact Zcp scope.names [] hm (Zdd S I.ok x hm)
 cab:=λx c h _=>by cases h
 hd:=I.ok.hd
 frames:=I.ok.frames
 stk:=.inl rfl
 exf:=λb hb=>⟨War (hlt b hb),λx c e=>(hf b hb).2.2.2.2.1 x c (Zbb _ _ (λ_ _ z=>by simp at z) e)⟩
 bs:=I.bs
 bsz:=Wbi I.ok.bsz I.sz
 noex:=λb o e hb=>by
  rcases(hf b hb).2.2.2.1 with z|z
  ·exact I.ok.noex b o e z
  ·exact absurd (Wa0 (Wai e) (Wbi I.ok.bsz z)) (Wci _)
 exfs:=λb hb z=>by
  rcases Wan.mp (I.stkSub b z) with e|z
  ·exact(hf b hb).2.1 e
  ·exact(hf b hb).2.2.1 z
 funs:=I.stack
 frf:=I.stkFree
theorem Zmk (S:CompSc X.env.scope X.N scope fvs sel) (I:Inv X pins σ H s) (hf:∀b∈fp,FpOk X pins H b) (hlt:∀b∈fp,b<s.heap.objs.size) {h':Heap}{tk:Nat}{m:Str->Option Value}
  (hns:h'.Ns s.heap.objs.size m) (old:∀b o,s.heap.get? b=some o->h'.get? b=some o) :
  Inv (compCx X scope (tgs++fvs) s.heap.objs.size s H fp (X.pn++pins)) [] (compSt tgs.length sel σ) H { s with heap:=h',toks:=tk } where
 ok:=Zpb S _ I hf hlt
 os:=rfl
 bare:=I.bare
 base:=Un.kept old
 loc:=by
  refine⟨m,hns,λi x v h1 h2 h3=>?_⟩;have h1:(tgs++fvs)[i]?=some x:=h1;unfold compSt at h2;by_cases hi:i<tgs.length
  ·rw[Way (by simpa using hi),Wbg,if_pos hi]at h2
   cases h2
  ·have hi':tgs.length<=i:=Nat.le_of_not_lt hi
   rw[Waq (by simpa using hi'),Waf,Wa7]at h2;rw[Waq hi']at h1;cases hj:sel[i-tgs.length]? with
   |none=>rw[hj]at h2;cases h2
   |some j=>
    rw[hj]at h2;have h2:(σ[j]?).getD none=some v:=by simpa using h2
    have hz:(x,j)∈fvs.zip sel:=by
     refine Wa2 (i:=i-tgs.length) ?_;rw[Wcb];exact⟨h1,hj⟩
    obtain⟨hN,hfr⟩:=S.fv _ hz;have hσ:σ[j]?=some (some v):=by
     cases q:σ[j]? with
     |none=>rw[q]at h2;cases h2
     |some o=>rw[q]at h2;exact congrArg some h2
    have hko:X.env.scope.names.lookup x=some .cell\/X.env.scope.names.lookup x=some .free:=S.free (x,.free) (PySem.mem_of_lookup hfr) rfl;obtain⟨m0,hn0,hl0⟩:=I.loc;obtain⟨u,r,l⟩:=hl0 j x v hN hσ (.inr hko);refine⟨u,r,.inr ⟨Zd6 hfr,?_⟩⟩;rcases l with ⟨hk,_⟩|⟨_,c,hc,hcell⟩
    ·have hk:X.env.scope.names.lookup x=some .local:=hk
     rcases hko with z|z <;> (rw[hk]at z;cases z)
    ·obtain⟨c',hc'⟩:=Zcp scope.names [] (PySem.mem_of_lookup hfr) ⟨c,hc⟩
     have e:=Zbb scope.names [] (λ_ _ z=>by simp at z) hc';rw[hc]at e;cases e;obtain⟨o,ho,hd⟩:=hcell;exact⟨c,hc',o,old _ _ ho,hd⟩
 cell:=λx c e=>by
  obtain⟨v,o,ho,hd⟩:=I.cell x c (Zbb _ _ (λ_ _ z=>by simp at z) e);exact⟨v,o,old _ _ ho,hd⟩
 free:=I.hok.fresh (Waj _)
 freeC:=λx c e=>I.freeC x c (Zbb _ _ (λ_ _ z=>by simp at z) e)
 pin:=λp hp=>by
  have hp:p∈(X.pn++pins)++[]:=hp;rw[Wbc]at hp;obtain⟨e,n,ne,nf,d⟩:=I.pin p hp;refine⟨old _ _ e,n,War (Wai e),λz=>?_,d⟩;rcases Wan.mp (I.stkSub p.1 z) with q|q
  ·exact ne q
  ·exact nf q
 hok:=I.hok.kept old
 len:=by
  unfold compSt;show _=(tgs++fvs).length;rw[Wap,Wap,Wa7,Wab,S.len]
theorem Zlc {N:List Str}{σ':St}{H':Hp}{s':Shared}{h':Heap}(I:Inv X pins σ H s) (hf:∀b∈fp,FpOk X pins H b)
  (J:Inv (compCx X scope N s.heap.objs.size s H fp (X.pn++pins)) [] σ' H' s') (sb:Heap.SameBut s.heap.objs.size s'.heap h'):Inv X pins σ H' { s' with heap:=h' }:=by
 have B:Un (frs X.stack) fp H H' s.heap s'.heap:=J.base;have ne:∀b o,s.heap.get? b=some o->b≠s.heap.objs.size:=λb o e=>War (Wai e);have fr:H' s.heap.objs.size=none:=J.free;refine I.call' (s':={ s' with heap:=h' }) (ch:=fp) J.os ⟨λb o e n h1 h2=>?_,λb o e n h1 h2=>?_,B.free,λb o e h2=>?_,B.tups,B.frzs,B.tbls⟩ (λb ob e=>?_) J.bare λb hb=>?_
 ·exact(sb.2 b (ne b o e)).trans (B.keep b o e n h1 h2)
 ·obtain⟨sl,q⟩:=B.slot b o e n h1 h2
  exact⟨sl,(sb.2 b (ne b o e)).trans q⟩
 ·obtain⟨o',q⟩:=B.there b o e h2
  exact⟨o',(sb.2 b (ne b o e)).trans q⟩
 ·refine(J.hok b ob e).stay (λc w' hc q=>(sb.2 c ?_).trans q) (λ_ q=>q) λ_ _ q=>q
  intro z;rcases hc with hc|hc
  ·rw[<- hc,z,fr]at e;cases e
  ·rw[z,fr]at hc;cases hc
 ·exact⟨(hf b hb).2.2.2.1,(hf b hb).2.1,(hf b hb).2.2.2.2.1,(hf b hb).2.2.2.2.2⟩
end
def PTs (X:Cx) (ifs:List Expr) (t:TT):Prop:=
 ∀(pins:List (Addr × Obj)) (s:Shared) (σ:St) (H:Hp) (Q:Bool->Hp->Prop),Inv X pins σ H s->t σ H Q →
  wpAny (model X.prog X.w) X.A (forIn ifs true λc r=>if r=true then do let ok ← isTrue c X.env (eval c X.env);pure (ForInStep.yield ok) else pure (ForInStep.yield r)) (TP X pins σ Q) X.xe s
def tTrue:TT:=λ_ H Q=>Q true H
theorem Zb8 {X:Cx}:PTs X [] tTrue:=λpins s σ H Q I h=>wpAny_tests_nil ⟨H,I,h⟩
theorem Zga {X:Cx}{c:Expr}{t:TT}(h:PT X c t):PTs X [c] t:=λpins s σ H Q I hq=>wpAny_tests_one (h pins s σ H Q I hq)
def tComp (n:Nat) (sel:List Nat) (wi:TI) (g:TG) (tc:TT) (te:TE):TE:=λσ H Q=>wi σ H λJ H1=>∀acc,H1 acc=none->∃W:Nat->Nat->St->Hp->Prop,
 (∃m,W 0 m (compSt n sel σ) (upd H1 acc (.lst [])))/\∀i m σ' H',W i m σ' H' →
  (J.stop i H' /\ Q (.ref acc) H')\/(J.go i H' /\ ∃N:St->Hp->Prop,(∀σ2 H2,N σ2 H2->∃m',m'<m/\W (i+1) m' σ2 H2) ∧
   ∀x H2,J.yld i H' x H2->g x σ' H2 λσ2 H3=>tc σ2 H3 λb H4=>if b=true then te σ2 H4 λy H5=>∃ys,H5 acc=some (.lst ys)/\ys.length<sizeLine/\N σ2 (upd H5 acc (.lst (ys++[y]))) else N σ2 H4)
section
variable {X:Cx}
theorem Zeq {elt tg iter:Expr}{ifs:List Expr}{scope:Scope}{pos:Pos}{tgs fvs:List Str}{sel:List Nat}{g:TG}{tc:TT}{te:TE}(S:CompSc X.env.scope X.N scope fvs sel) {Cm:Cx->Prop}(hc:∀C s H ex pn,Cm (compCx X scope (tgs++fvs) C s H ex pn))
  (hg:∀C s H ex pn,PG (compCx X scope (tgs++fvs) C s H ex pn) tg g) (ht:∀C s H ex pn,PTs (compCx X scope (tgs++fvs) C s H ex pn) ifs tc) (he:∀C s H ex pn,PE (compCx X scope (tgs++fvs) C s H ex pn) elt te)
  {pins:List (Addr × Obj)}{σ:St}{s:Shared}{itv:Value}{Q:VK}{E:Value->Shared->Prop}{RR:Value->Addr->Result->Shared->Prop}
  (h2:PIEG Cm X pins σ tg (λJ H1=>∀acc,H1 acc=none->∃W:Nat->Nat->St->Hp->Prop,
   (∃m,W 0 m (compSt tgs.length sel σ) (upd H1 acc (.lst [])))/\∀i m σ' H',W i m σ' H' →
   (J.stop i H' /\ Q (.ref acc) H')\/(J.go i H' /\ ∃N:St->Hp->Prop,(∀σ2 H2,N σ2 H2->∃m',m'<m/\W (i+1) m' σ2 H2) ∧
   ∀x H2,J.yld i H' x H2->g x σ' H2 λσ2 H3=>tc σ2 H3 λb H4=>if b=true then te σ2 H4 λy H5=>∃ys,H5 acc=some (.lst ys)/\ys.length<sizeLine/\N σ2 (upd H5 acc (.lst (ys++[y]))) else N σ2 H4)) itv s)
  (fin:∀(s':Shared) (C acc:Addr) (H':Hp) (m:Str->Option Value),s'.heap.Ns C m->FpOk X pins H' C->(∀h',Heap.SameBut C s'.heap h' -> Inv X pins σ H' { s' with heap:=h' })->Q (.ref acc) H' -> RR (.ref acc) C (.ok .next) s') :
  wpAny (model X.prog X.w) X.A (newList []) (λacc s3=>wpAny (model X.prog X.w) X.A (newFunctionEnv scope X.env.globals (clOf X.env scope.names []) [] X.env.qual none .none (some X.env)) (λcenv s4=>
   codeAny (model X.prog X.w) X.A (.compStart (.ListComp elt [⟨tg,iter,ifs,0⟩] scope pos) 0 itv acc { cenv with scope:=relabel scope X.env }) (RR acc cenv.locals) s4) E s3) E s:=by
 obtain⟨it,fp,tn,J,H1,e,I,T,st,f2,h2⟩:=h2;subst e;have hlt:∀b∈fp,b<s.heap.objs.size:=λb hb=>let ⟨o,ho,_⟩:=T.obj 0 _ st b hb; Wai ho
 refine wpAny_newObj_type (wpAny_newFunctionEnv S.nocell (by intro y hy;simp at hy) (λh1 hns hsb=>?_) S.kind);dsimp only at hns hsb ⊢;have I3:Inv X pins σ (upd H1 s.heap.objs.size (.lst [])) { s with heap:=s.heap.push { cls:=.type "list",data:=.seq ([]:List Value).toArray },toks:=s.toks }:=I.lnew (its:=[]) .nil (by decide);have hacc:H1 s.heap.objs.size=none:=I.hok.fresh (Waj _);obtain⟨W,⟨m0,w0⟩,turn⟩:=h2 s.heap.objs.size hacc;generalize hs3:({ s with heap:=s.heap.push { cls:=.type "list",data:=.seq ([]:List Value).toArray },toks:=s.toks }:Shared)=s3 at I3;have hh3:s3.heap=s.heap.push { cls:=.type "list",data:=.seq ([]:List Value).toArray }:=by rw[<- hs3]
 have old3:∀b o,s.heap.get? b=some o->s3.heap.get? b=some o:=λb o q=>by rw[hh3];exact Wac _ q
 have hf3:∀b∈fp,FpOk X pins (upd H1 s.heap.objs.size (.lst [])) b:=λb hb=>⟨by rw[Zau (War (hlt b hb))];exact(f2 b hb).1,(f2 b hb).2⟩;have hlt3:∀b∈fp,b<s3.heap.objs.size:=λb hb=>by rw[hh3,Wcs];exact Wbx (hlt b hb)
 have tn3:tn 0 s3.heap:=T.keep 0 _ _ st λb hb o q=>old3 b o q;have old4:∀b o,s3.heap.get? b=some o->h1.get? b=some o:=λb o q=>by
  have hb:b≠s3.heap.objs.size:=War (Wai q);rw[hh3]at hb q;exact(hsb.2 b hb).trans (Wac _ q)
 have tn4:tn 0 h1:=T.keep 0 _ _ tn3 λb hb o q=>old4 b o q;have hC:(s.heap.push { cls:=.type "list",data:=.seq ([]:List Value).toArray }).objs.size=s3.heap.objs.size:=by rw[hh3]
 rw[hC]at hns;have J0:=Zmk (tgs:=tgs) (tk:=s.toks+([]:List (Str × Value)).length) S I3 hf3 hlt3 hns old4;have es:({ s3 with heap:=h1,toks:=s.toks+([]:List (Str × Value)).length }:Shared) = { s with heap:=h1,toks:=s.toks+([]:List (Str × Value)).length }:=by rw[<- hs3]
 rw[es]at J0;generalize hY:compCx X scope (tgs++fvs) s3.heap.objs.size s3 (upd H1 s.heap.objs.size (.lst [])) fp (X.pn++pins)=Y at J0;have hYp:Y.prog=X.prog:=by rw[<- hY];rfl
 have hYw:Y.w=X.w:=by rw[<- hY];rfl
 have hYK:Y.K=X.K:=by rw[<- hY];rfl
 have hYA:Y.A=X.A:=by rw[<- hY];rfl
 have hYc:Cm Y:=by rw[<- hY];exact hc _ _ _ _ _
 have hYx:Y.xe=λ_ _=>False:=by rw[<- hY];rfl
 have hYe:Y.env=compEnvC scope (clOf X.env scope.names []) s3.heap.objs.size X.env:=by rw[<- hY];rfl
 have stat:∀{H':Hp},(∀b∈fp,H' b=none)->∀b∈fp,FpOk Y [] H' b:=λhn b hb=>by
  rw[<- hY];refine⟨hn b hb,War (hlt3 b hb),λz=>?_,.inl hb,λx c e=>?_,λp hp z=>?_⟩
  ·rcases Wan.mp (I3.stkSub b z) with q|q
   ·exact(hf3 b hb).2.1 q
   ·exact(hf3 b hb).2.2.1 q
  ·exact(hf3 b hb).2.2.2.2.1 x c (Zbb _ _ (λ_ _ z=>by simp at z) e)
  ·have hp:p∈(X.pn++pins)++[]:=hp
   rw[Wbc]at hp;exact(hf3 b hb).2.2.2.2.2 p hp z
 have loop:codeAny (model X.prog X.w) X.A (.compLoop (.ListComp elt [⟨tg,iter,ifs,0⟩] scope pos) 0 (.ref it) (.ref s.heap.objs.size) Y.env) (RR (.ref s.heap.objs.size) s3.heap.objs.size)
   { s with heap:=h1,toks:=s.toks+([]:List (Str × Value)).length }:=by
  refine codeAny_loop rfl (λn s'=>∃i σ' H',Inv Y [] σ' H' s' /\ tn i s'.heap/\(∀b∈fp,H' b=none)/\W i n σ' H') ?_ m0 ⟨0,_,_,J0,tn4,λb hb=>(hf3 b hb).1,w0⟩;rintro n s5 ⟨i,σ5,H5,I5,st5,fr5,w5⟩;show wpAny _ X.A ((compTurn (.ListComp elt [⟨tg,iter,ifs,0⟩] scope pos) 0 (.ref it) (.ref s.heap.objs.size) Y.env).onRaise (λx=>do noteFrame x Y.env;theTreesLotGoes x)) _ _ s5;refine wpAny_noted (wpAny_mono (E:=λ_ _=>False) ?_ (λ_ _ q=>q) λ_ _ z=>z.elim);rw[compTurn_list];refine wpAny_bind (wpAny_standAt (wpAny_bind ?_));rcases turn i n σ5 H5 w5 with ⟨stop,qn⟩|⟨go,N,hN,step⟩
  ·have D:=T.done Y hYp hYw hYK hYc i [] s5 σ5 H5 (λ_ _=>False) I5 (stat fr5) st5 stop
   rw[hYA]at D;refine thn D λr s6 ⟨hr,I6⟩=>?_;subst hr;refine wpAny_pure ?_;obtain⟨m6,hn6,_⟩:=I6.loc;rw[hYe]at hn6;refine fin s6 _ _ H5 m6 hn6 (I3.fpOk (Waj _) (by have z:=I6.free;rw[hYe]at z;exact z)) (λh' sb=>?_) qn;have I6':Inv (compCx X scope (tgs++fvs) s3.heap.objs.size s3 (upd H1 s.heap.objs.size (.lst [])) fp (X.pn++pins)) [] σ5 H5 s6:=by rw[hY];exact I6
   exact Zlc I3 hf3 I6' sb
  ·have D:=T.item Y hYp hYw hYK hYc i [] s5 σ5 H5 (λ_ _=>False) I5 (stat fr5) st5 go
   rw[hYA]at D;refine thn D λr s6 ⟨u,hr,h6⟩=>?_;subst hr;refine wpAny_bind (thn h6 λ_ s7 ⟨x,H7,I7,r7,y7,st7,fr7⟩=>?_);have I7':=I7.pinned (stat fr7) (T.obj _ _ st7);have G:=hg s3.heap.objs.size s3 (upd H1 s.heap.objs.size (.lst [])) fp (X.pn++pins);have TT:=ht s3.heap.objs.size s3 (upd H1 s.heap.objs.size (.lst [])) fp (X.pn++pins);have EE:=he s3.heap.objs.size s3 (upd H1 s.heap.objs.size (.lst [])) fp (X.pn++pins);rw[hY]at G TT EE;have G1:=G _ s7 σ5 H7 x u _ I7' r7 (step x H7 y7);rw[hYp,hYw,hYA,hYx]at G1;refine wpAny_bind (thn G1 λ_ s8 ⟨σ8,H8,I8,q8⟩=>?_);have T1:=TT _ s8 σ8 H8 _ I8 q8;rw[hYp,hYw,hYA,hYx]at T1;refine wpAny_bind (thn T1 λok s9 ⟨H9,I9,q9⟩=>?_);have again:∀{s':Shared}{σ':St}{H':Hp},Inv Y ([]++pinsAt fp s7.heap) σ' H' s' -> N σ' H' -> ∃m,m<n/\∃i σ' H',Inv Y [] σ' H' s' /\ tn i s'.heap/\(∀b∈fp,H' b=none)/\W i m σ' H':=λ{s' σ' H'} K7 n7=>by
    obtain⟨m',hm,w7⟩:=hN σ' H' n7;refine⟨m',hm,i+1,σ',H',K7.unpinned,T.keep _ _ _ st7 λb hb o e=>(K7.pin (b,o) (Wax _ (Wax _ (Zb2 hb e)))).1,λb hb=>?_,w7⟩;obtain⟨o,e,d⟩:=T.obj _ _ st7 b hb;exact(K7.pin (b,o) (Wax _ (Wax _ (Zb2 hb e)))).2.1
   cases ok with
   |false=>
    have q9:N σ8 H9:=q9;exact wpAny_pure ⟨by rw[hYe],again I9 q9⟩
   |true=>
    have q9:te σ8 H9 λy H5=>∃ys,H5 s.heap.objs.size=some (.lst ys)/\ys.length<sizeLine/\N σ8 (upd H5 s.heap.objs.size (.lst (ys++[y]))):=q9;have E1:=EE _ s9 σ8 H9 _ I9 q9;rw[hYp,hYw,hYA,hYx]at E1;refine wpAny_bind (wpAny_bind (thn E1 λv sa ⟨y,Ha,Ia,ra,ys,ea,za,na⟩=>?_));have M:=Zc1 (X:=Y) _ sa σ8 Ha (.ref s.heap.objs.size) [y] (.ref s.heap.objs.size) [v] (λ_ H=>N σ8 H) Ia rfl (.cons ra .nil) ⟨_,ys,y,rfl,rfl,ea,za,na⟩;rw[hYp,hYw,hYA,hYx]at M;refine wpAny_bind (thn M λ_ sb ⟨_,Hb,Ib,_,nb⟩=>wpAny_pure (wpAny_pure ⟨by rw[hYe],again Ib nb⟩))
 have hcs:(relabel scope X.env)=(relabel scope X.env):=rfl;have loop':=loop;rw[hYe]at loop';show codeAny (model X.prog X.w) X.A (.compStart (.ListComp elt [⟨tg,iter,ifs,0⟩] scope pos) 0 (.ref it) (.ref s.heap.objs.size) (compEnvC scope (clOf X.env scope.names []) (s.heap.push { cls:=.type "list",data:=.seq ([]:List Value).toArray }).objs.size X.env)) (RR (.ref s.heap.objs.size) (s.heap.push { cls:=.type "list",data:=.seq ([]:List Value).toArray }).objs.size) _;rw[hC];exact codeAny_compStart_list loop' (T.self _ 0 _ _ _ tn4 loop')
theorem Zb1 {elt tg iter:Expr}{ifs:List Expr}{scope:Scope}{pos:Pos}{fvs:List Str}{sel:List Nat}{wi:TI}{g:TG}{tc:TT}{te:TE}(tgs:List Str) (S:CompSc X.env.scope X.N scope fvs sel) (hc:X.calm=true)
  (hi:PI X tg iter wi) (hg:∀C s H ex pn,PG (compCx X scope (tgs++fvs) C s H ex pn) tg g) (ht:∀C s H ex pn,PTs (compCx X scope (tgs++fvs) C s H ex pn) ifs tc) (he:∀C s H ex pn,PE (compCx X scope (tgs++fvs) C s H ex pn) elt te)
  (hs:∀x,foldedSetIterable iter X.env x=pure x:=by intro _;rfl) :
  PE X (.ListComp elt [⟨tg,iter,ifs,0⟩] scope pos) (tComp tgs.length sel wi g tc te):=by
 intro pins s σ H Q I h;rw[eval_ListComp];refine wpAny_comprehension_free (use:=none) rfl hs (Zbl (Zdd S I.ok)) S.kind S.names (thn (hi pins s σ H _ I h) λv s1 h1=>thn h1 λitv s2 h2=>?_);refine Zeq (Cm:=λX=>X.calm=true) S (λ_ _ _ _ _=>hc) hg ht he (RR:=λacc C=>compPost (model X.prog X.w) X.A X.xe none (EP X pins σ Q) acc C) (Q:=Q) h2 ?_;intro s' C acc H' m hn _ hI q;exact⟨m,hn,λh' sb=>⟨.ref acc,H',hI h' sb,rfl,q⟩⟩
theorem Zgi {elt tg iter:Expr}{ifs:List Expr}{scope:Scope}{pos spos py:Pos}{fvs:List Str}{sel:List Nat}{wi:TI}{g:TG}{tc:TT}{te:TE}{i:Nat}{y:Str}(tgs:List Str) (S:CompSc X.env.scope X.N scope fvs sel) (hc:X.calm=true)
  (hN:X.N.Nodup) (hiy:X.N[i]?=some y) (hx:Loc X.env.scope y)
  (hi:PI X tg iter wi) (hg:∀C s H ex pn,PG (compCx X scope (tgs++fvs) C s H ex pn) tg g) (ht:∀C s H ex pn,PTs (compCx X scope (tgs++fvs) C s H ex pn) ifs tc) (he:∀C s H ex pn,PE (compCx X scope (tgs++fvs) C s H ex pn) elt te)
  (hs:∀x,foldedSetIterable iter X.env x=pure x:=by intro _;rfl) (hsw:swapsWith (.ListComp elt [⟨tg,iter,ifs,0⟩] scope pos) (some (.Name y py)) spos.line X.env=pure true:=by rfl)
  (hf:X.fn y=true\/X.env.scope.names.lookup y=some .local:=by first|exact .inl rfl|exact .inr rfl|assumption) :
  PS X (.Assign [.Name y py] (.ListComp elt [⟨tg,iter,ifs,0⟩] scope pos) spos) (tAsg (tComp tgs.length sel wi g tc te) (gName i)):=by
 intro pins s σ H D I h;rw[exec_Assign_Name_used _ _ _ _ hsw];refine wpAny_bind (wpAny_standAt (wpAny_bind ?_));show wpAny _ X.A (do let _ ← comprehension (.ListComp elt [⟨tg,iter,ifs,0⟩] scope pos) scope X.env _ (newList []) false (eval iter X.env) (some (assign (.Name y py) X.env))) _ _ s;refine wpAny_bind (wpAny_mono (wpAny_comprehension_free (use:=some (assign (.Name y py) X.env)) (Q:=λ_ s'=>SP X pins D .next s') rfl hs (Zbl (Zdd S I.ok)) S.kind S.names
  (thn (hi pins s σ H _ I h) λv s1 h1=>thn h1 λitv s2 h2=>?_)) (λ_ s' hq=>wpAny_pure (wpAny_pure hq)) λ_ _ e=>e)
 refine Zeq (Cm:=λX=>X.calm=true) S (λ_ _ _ _ _=>hc) hg ht he (RR:=λacc C=>compPost (model X.prog X.w) X.A X.xe (some (assign (.Name y py) X.env)) (λ_ s'=>SP X pins D .next s') acc C) (Q:=λv H'=>D.nx (σ.set i (some v)) H') h2 ?_;intro s' C acc H' m hn fp hI q;have I0:Inv X pins σ H' s':=hI s'.heap (.refl ..);show wpAny _ X.A (assign (.Name y py) X.env (.ref acc)) _ _ _;refine wpAny_assign_Name (Zgo (v:=.ref acc) I0 hN hiy hx rfl (λs2 I2 hsb=>?_) hf);obtain⟨a,sb,ha⟩:=hsb;have hCa:C≠a:=by
  rcases ha with z|z
  ·rw[z];exact fp.2.1
  ·exact Ne.symm (fp.2.2.2.2.1 y a z)
 refine⟨m,hn.sameBut sb hCa,λh' sb'=>?_⟩;obtain⟨f0,f1,f2,f3,f4,f5⟩:=fp;exact⟨_,H',I2.turned (t':=s2.toks) (it:=C) (λb o hb e=>(sb'.2 b hb).trans e) f0 f1 f3 f4 f5,q⟩
end
def InsC (a C:Addr) (h:Heap):Prop:=∃ox vs,h.get? a=some ox/\ox.cls=.ref C/\ox.data=.fields vs/\vs[2]?=some .none
inductive D where
 |non|bl (b:Bool)|int (i:Int)|str (x:Str)|ty (n:String)|tup (ds:List D)|lst (ds:List D)|scr (ds:List D)|adr (a:Addr)|dct (ks:List Key) (ds:List D)|exc (a C:Addr)
mutual
inductive Rep (K:W.Frag) (G:Hp):V->D->Prop
 |non:Rep K G .non .non
 |bl (b:Bool):Rep K G (.bl b) (.bl b)
 |int (i:Int):Rep K G (.int i) (.int i)
 |str (x:Str):Rep K G (.str x) (.str x)
 |ty (n:String):Rep K G (.ty n) (.ty n)
 |tup {a:Addr}{vs:List V}{ds:List D}:G a=some (.tup vs)->Reps K G vs ds->Rep K G (.ref a) (.tup ds)
 |lst {a:Addr}{vs:List V}{ds:List D}:G a=some (.lst vs)->Reps K G vs ds->Rep K G (.ref a) (.lst ds)
 |scr {a:Addr}{vs:List V}{ds:List D}:SqL K G a vs->Reps K G vs ds->Rep K G (.ref a) (.scr ds)
 |adr (a:Addr):Rep K G (.ref a) (.adr a)
 |dct {a:Addr}{ks:List Key}{vs:List V}{ds:List D}:G a=some (.dK (ks.zip vs))->ks.length=vs.length->Reps K G vs ds->Rep K G (.ref a) (.dct ks ds)
 |exc {a C:Addr}:G a=some (.ext (InsC a C))->Rep K G (.ref a) (.exc a C)
inductive Reps (K:W.Frag) (G:Hp):List V->List D->Prop
 |nil:Reps K G [] []
 |cons {v:V}{d:D}{vs:List V}{ds:List D}:Rep K G v d->Reps K G vs ds->Reps K G (v::vs) (d::ds)
end
def RepI (K:W.Frag) (G:Hp) (v:V):D->Prop
 |.non=>v=.non
 |.bl b=>v=.bl b
 |.int i=>v=.int i
 |.str x=>v=.str x
 |.ty n=>v=.ty n
 |.tup ds=>∃a vs,v=.ref a/\G a=some (.tup vs)/\Reps K G vs ds
 |.lst ds=>∃a vs,v=.ref a/\G a=some (.lst vs)/\Reps K G vs ds
 |.scr ds=>∃a vs,v=.ref a/\SqL K G a vs/\Reps K G vs ds
 |.adr a=>v=.ref a
 |.dct ks ds=>∃a vs,v=.ref a/\G a=some (.dK (ks.zip vs))/\ks.length=vs.length/\Reps K G vs ds
 |.exc a C=>v=.ref a/\G a=some (.ext (InsC a C))
theorem Rep.inv {K:W.Frag}{G:Hp}{v:V}{d:D}(r:Rep K G v d):RepI K G v d:=by
 cases r with
 |tup h r=>exact⟨_,_,rfl,h,r⟩
 |lst h r=>exact⟨_,_,rfl,h,r⟩
 |scr h r=>exact⟨_,_,rfl,h,r⟩
 |dct h l r=>exact⟨_,_,rfl,h,l,r⟩
 |exc h=>exact⟨rfl,h⟩
 |_=>rfl
def RepsI (K:W.Frag) (G:Hp) (vs:List V):List D->Prop
 |[]=>vs=[]
 |d::ds=>∃v ws,vs=v::ws/\Rep K G v d/\Reps K G ws ds
theorem Reps.inv {K:W.Frag}{G:Hp}{vs:List V}{ds:List D}(r:Reps K G vs ds):RepsI K G vs ds:=by
 cases r with
 |nil=>rfl
 |cons a b=>exact⟨_,_,rfl,a,b⟩
section
variable {K:W.Frag}{G G' H H':Hp}
mutual
theorem Rep.mono (s:Same G G'):∀{v:V}{d:D},Rep K G v d->Rep K G' v d
 |_,_,.non=>.non
 |_,_,.bl b=>.bl b
 |_,_,.int i=>.int i
 |_,_,.str x=>.str x
 |_,_,.ty n=>.ty n
 |_,_,.tup h r=>.tup (s _ _ h) (Reps.mono s r)
 |_,_,.lst h r=>.lst (s _ _ h) (Reps.mono s r)
 |_,_,.scr h r=>.scr (s.seq h) (Reps.mono s r)
 |_,_,.adr a=>.adr a
 |_,_,.dct h l r=>.dct (s _ _ h) l (Reps.mono s r)
 |_,_,.exc h=>.exc (s _ _ h)
theorem Reps.mono (s:Same G G'):∀{vs:List V}{ds:List D},Reps K G vs ds->Reps K G' vs ds
 |_,_,.nil=>.nil
 |_,_,.cons h r=>.cons (Rep.mono s h) (Reps.mono s r)
end
theorem Reps.length:∀{vs:List V}{ds:List D},Reps K G vs ds->vs.length=ds.length
 |_,_,.nil=>rfl
 |_,_,.cons _ r=>by rw[Wam,Wam,r.length]
theorem Reps.get:∀{vs:List V}{ds:List D}{i:Nat}{d:D},Reps K G vs ds->ds[i]?=some d->∃v,vs[i]?=some v/\Rep K G v d
 |_,_,_,_,.nil,e=>by simp at e
 |_,_,0,_,.cons r _,e=>by simp at e;subst e;exact⟨_,rfl,r⟩
 |_,_,i+1,d,.cons _ t,e=>by
  obtain⟨u,h1,h2⟩:=Reps.get (i:=i) (d:=d) t (by simpa using e);exact⟨u,by simpa using h1,h2⟩
theorem Reps.get':∀{vs:List V}{ds:List D}{i:Nat}{v:V},Reps K G vs ds->vs[i]?=some v->∃d,ds[i]?=some d/\Rep K G v d
 |_,_,_,_,.nil,e=>by simp at e
 |_,_,0,_,.cons r _,e=>by simp at e;subst e;exact⟨_,rfl,r⟩
 |_,_,i+1,d,.cons _ t,e=>by
  obtain⟨u,h1,h2⟩:=Reps.get' (i:=i) (v:=d) t (by simpa using e);exact⟨u,by simpa using h1,h2⟩
theorem Reps.append:∀{vs ws:List V}{ds es:List D},Reps K G vs ds->Reps K G ws es->Reps K G (vs++ws) (ds++es)
 |_,_,_,_,.nil,s=>s
 |_,_,_,_,.cons r t,s=>.cons r (Reps.append t s)
theorem Reps.take:∀{vs:List V}{ds:List D}(n:Nat),Reps K G vs ds->Reps K G (vs.take n) (ds.take n)
 |_,_,0,_=>.nil
 |_,_,_+1,.nil=>.nil
 |_,_,n+1,.cons r t=>.cons r (Reps.take n t)
theorem Reps.drop:∀{vs:List V}{ds:List D}(n:Nat),Reps K G vs ds->Reps K G (vs.drop n) (ds.drop n)
 |_,_,0,r=>r
 |_,_,_+1,.nil=>.nil
 |_,_,n+1,.cons _ t=>Reps.drop n t
theorem Reps.reverse {vs:List V}{ds:List D}(h:Reps K G vs ds):Reps K G vs.reverse ds.reverse:=by
 induction vs generalizing ds with
 |nil=>cases h;exact .nil
 |cons v vs ih=>
  cases h with
  |cons r t=>rw[List.reverse_cons,List.reverse_cons];exact(ih t).append (.cons r .nil)
theorem Reps.set:∀{vs:List V}{ds:List D}{v:V}{d:D}(i:Nat),Reps K G vs ds->Rep K G v d->Reps K G (vs.set i v) (ds.set i d)
 |_,_,_,_,_,.nil,_=>.nil
 |_,_,_,_,0,.cons _ t,q=>.cons q t
 |_,_,_,_,i+1,.cons r t,q=>.cons r (Reps.set i t q)
theorem Reps.ints {vs:List V}:∀{ns:List Int},Reps K G vs (ns.map D.int)->vs=ns.map V.int:=by
 induction vs with
 |nil=>intro ns h;cases ns with
  |nil=>rfl
  |cons n ns=>cases h
 |cons v vs ih=>intro ns h;cases ns with
  |nil=>cases h
  |cons n ns=>
   cases h with
   |cons r t=>cases r.inv;rw[ih t];rfl
theorem Reps.ofInts:∀(ns:List Int),Reps K G (ns.map V.int) (ns.map D.int)
 |[]=>.nil
 |n::ns=>.cons (.int n) (Reps.ofInts ns)
theorem Zft {vs:List V}{ds:List D}{i:Int}{d:D}(r:Reps K G vs ds) (h:atI ds i=some d):∃v,atI vs i=some v/\Rep K G v d:=by
 unfold atI at h ⊢;rw[<- r.length]at h;cases e:ixN vs.length i with
 |none=>rw[e]at h;cases h
 |some j=>rw[e]at h;exact r.get h
end
inductive OD where
 |lst (ds:List D)|dct (kvs:List (Key × D))|set (S:Int->Bool) (n:Nat)|dtt (kvs:List (List Key × D))
def OwnRep (K:W.Frag) (G:Hp):HO->OD->Prop
 |.lst vs,.lst ds=>Reps K G vs ds
 |.dK kvs,.dct kds=>Paired (λ(p:Key × V) (q:Key × D)=>p.1=q.1/\Rep K G p.2 q.2) kvs kds
 |.set S n,.set S' n'=>S=S' /\ n=n'
 |.dT kvs,.dtt kds=>Paired (λ(p:List Key × V) (q:List Key × D)=>p.1=q.1/\Rep K G p.2 q.2) kvs kds
 |_,_=>False
theorem OwnRep.mono {K:W.Frag}{G G':Hp}(s:Same G G') {o:HO}{od:OD}(h:OwnRep K G o od):OwnRep K G' o od:=by
 cases o <;> cases od <;> first
  |exact h.elim
  |exact Reps.mono s h
  |exact Paired.mapP h λ_ _ z=>⟨z.1,z.2.mono s⟩
  |exact h
inductive Slot where
 |any|val (d:D)|own (o:OD)|bor (o:OD)|ownA (a:Addr) (o:OD)
abbrev Evt:=List Slot
def Slot.od:Slot->Option OD
 |.own o=>some o
 |.bor o=>some o
 |.ownA _ o=>some o
 |_=>none
structure Gm where
 B:Addr->Prop
 F:Hp
 Hz:Hp
 Xo:Hp
def SlotAt (g:Gm) (x:Slot) (a:Addr):Prop:=match x with
 |.own _=>g.Hz a=none
 |.bor _=>g.B a
 |.ownA b _=>b=a/\g.Hz a=none
 |_=>True
structure Ok (K:W.Frag) (g:Gm) (G H:Hp) (σ:St) (Δ:Evt):Prop where
 same:∀b o,¬ g.B b->g.Hz b=some o->H b=some o
 lent:∀b,g.B b->H b≠none
 sub:Same g.F G
 frz:∀b o,G b=some o->H b=some o/\(g.Hz b=none\/g.F b=some o)
 ext:∀b o,g.Xo b=some o->H b=some o/\G b=none/\∀(i:Nat) x od,Δ[i]?=some x->x.od=some od -> σ[i]?≠some (some (.ref b))
 len:Δ.length = σ.length
 val:∀(i:Nat) d,Δ[i]?=some (.val d)->∃v,σ[i]?=some (some v)/\Rep K G v d
 own:∀(i:Nat) x od,Δ[i]?=some x->x.od=some od->∃a o,σ[i]?=some (some (.ref a))/\H a=some o/\OwnRep K G o od/\G a=none/\SlotAt g x a
 dis:∀(i j:Nat) x y od od' a,Δ[i]?=some x->x.od=some od -> Δ[j]?=some y->y.od=some od' -> σ[i]?=some (some (.ref a)) -> σ[j]?=some (some (.ref a))->i=j
section
variable {K:W.Frag}{g:Gm}{G H G' H':Hp}{σ:St}{Δ:Evt}
theorem Ok.live (k:Ok K g G H σ Δ):Same G H:=λb o e=>(k.frz b o e).1
theorem Ok.there (k:Ok K g G H σ Δ) {b:Addr}(h:H b=none):g.Hz b=none:=by
 cases e:g.Hz b with
 |none=>rfl
 |some o=>
  by_cases hb:g.B b
  ·exact absurd h (k.lent b hb)
  ·have:=k.same b o hb e
   rw[h]at this;cases this
theorem Ok.grow (k:Ok K g G H σ Δ) (sg:Same G G') (sh:Same H H') (hg:∀b o,G' b=some o->H' b=some o/\(G b=some o\/H b=none)):Ok K g G' H' σ Δ where
 same:=λb o hb e=>sh b o (k.same b o hb e)
 lent:=λb hb z=>by
  cases e:H b with
  |none=>exact k.lent b hb e
  |some o=>rw[sh b o e]at z;cases z
 sub:=k.sub.trans sg
 frz:=λb o e=>by
  obtain⟨h1,h2⟩:=hg b o e;refine⟨h1,?_⟩;rcases h2 with z|z
  ·exact(k.frz b o z).2
  ·exact .inl (k.there z)
 ext:=λb o e=>by
  obtain⟨h1,h2,h3⟩:=k.ext b o e;refine⟨sh b o h1,?_,h3⟩;cases q:G' b with
  |none=>rfl
  |some o'=>
   rcases(hg b o' q).2 with z|z
   ·rw[h2]at z;cases z
   ·rw[h1]at z;cases z
 len:=k.len
 val:=λi d e=>by
  obtain⟨v,h1,h2⟩:=k.val i d e;exact⟨v,h1,h2.mono sg⟩
 own:=λi x od e1 e2=>by
  obtain⟨a,o,h1,h2,h3,h4,h5⟩:=k.own i x od e1 e2;refine⟨a,o,h1,sh a o h2,h3.mono sg,?_,h5⟩;cases q:G' a with
  |none=>rfl
  |some o'=>
   rcases(hg a o' q).2 with z|z
   ·rw[h4]at z;cases z
   ·rw[h2]at z;cases z
 dis:=k.dis
theorem Ok.laid (k:Ok K g G H σ Δ) {p:Addr}(hp:H p=none) (o:HO):Ok K g (upd G p o) (upd H p o) σ Δ /\ Same G (upd G p o):=by
 have hG:G p=none:=by
  cases e:G p with
  |none=>rfl
  |some u=>rw[k.live p u e]at hp;cases hp
 have sg:Same G (upd G p o):=λb u e=>by rw[Zau (Zbc e hG)];exact e
 refine⟨k.grow sg (λb u e=>by rw[Zau (Zbc e hp)];exact e) λb u e=>?_,sg⟩;by_cases hb:b=p
 ·subst hb;rw[Zao]at e ⊢;exact⟨e,.inr hp⟩
 ·rw[Zau hb]at e ⊢;exact⟨k.live b u e,.inl e⟩
theorem Ok.lt (k:Ok K g G H σ Δ) {i:Nat}{x:Slot}(h:Δ[i]?=some x):i < σ.length:=by
 rw[<- k.len];exact(Wag.mp h).1
def Pend (K:W.Frag) (g:Gm) (G H:Hp) (σ:St) (Δ:Evt) (a:Addr) (od:OD):Prop:=
 ∃o,H a=some o/\OwnRep K G o od/\G a=none/\g.Hz a=none/\g.Xo a=none/\∀(i:Nat) x od',Δ[i]?=some x->x.od=some od' -> σ[i]?≠some (some (.ref a))
theorem Ok.setVal (k:Ok K g G H σ Δ) {v:V}{d:D}{i:Nat}(hi:i < Δ.length) (r:Rep K G v d):Ok K g G H (σ.set i (some v)) (Δ.set i (.val d)):=by
 have hs:i < σ.length:=by rw[<- k.len];exact hi
 have old:∀(j:Nat) x od,(Δ.set i (.val d))[j]?=some x->x.od=some od->j≠i /\ Δ[j]?=some x/\(σ.set i (some v))[j]? = σ[j]?:=λj x od e1 e2=>by
  by_cases hj:j=i
  ·subst hj
   rw[Wak hi]at e1;cases e1;cases e2
  ·rw[Wal (Ne.symm hj)]at e1
   exact⟨hj,e1,Wal (Ne.symm hj)⟩
 refine⟨k.same,k.lent,k.sub,k.frz,λb o e=>?_,by simp[k.len],λj e h=>?_,λj x od e1 e2=>?_,λj l x y od od' a e1 e2 e3 e4 e5 e6=>?_⟩
 ·obtain⟨h1,h2,h3⟩:=k.ext b o e
  refine⟨h1,h2,λj x od e1 e2=>?_⟩;obtain⟨_,q1,q2⟩:=old j x od e1 e2;rw[q2];exact h3 j x od q1 e2
 ·by_cases hj:j=i
  ·subst hj
   rw[Wak hi]at h;cases h;exact⟨v,Wak hs,r⟩
  ·rw[Wal (Ne.symm hj)]at h ⊢
   exact k.val j e h
 ·obtain⟨_,q1,q2⟩:=old j x od e1 e2
  rw[q2];exact k.own j x od q1 e2
 ·obtain⟨_,q1,q2⟩:=old j x od e1 e2
  obtain⟨_,q3,q4⟩:=old l y od' e3 e4;rw[q2]at e5;rw[q4]at e6;exact k.dis j l x y od od' a q1 e2 q3 e4 e5 e6
theorem Ok.setOwn (k:Ok K g G H σ Δ) {a:Addr}{od:OD}{i:Nat}(hi:i < Δ.length) (p:Pend K g G H σ Δ a od):Ok K g G H (σ.set i (some (.ref a))) (Δ.set i (.own od)):=by
 obtain⟨o,p1,p2,p3,p4,p5,p6⟩:=p;have hs:i < σ.length:=by rw[<- k.len];exact hi
 have old:∀(j:Nat) x,j≠i->(Δ.set i (.own od))[j]?=some x -> Δ[j]?=some x/\(σ.set i (some (.ref a)))[j]? = σ[j]?:=λj x hj e1=>by
  rw[Wal (Ne.symm hj)]at e1;exact⟨e1,Wal (Ne.symm hj)⟩
 refine⟨k.same,k.lent,k.sub,k.frz,λb ob e=>?_,by simp[k.len],λj e h=>?_,λj x od' e1 e2=>?_,λj l x y od1 od2 c e1 e2 e3 e4 e5 e6=>?_⟩
 ·obtain⟨h1,h2,h3⟩:=k.ext b ob e
  refine⟨h1,h2,λj x od' e1 e2=>?_⟩;by_cases hj:j=i
  ·subst hj
   rw[Wak hs];intro z;cases z;rw[p5]at e;cases e
  ·obtain⟨q1,q2⟩:=old j x hj e1
   rw[q2];exact h3 j x od' q1 e2
 ·by_cases hj:j=i
  ·subst hj
   rw[Wak hi]at h;cases h
  ·rw[Wal (Ne.symm hj)]at h ⊢
   exact k.val j e h
 ·by_cases hj:j=i
  ·subst hj
   rw[Wak hi]at e1;cases e1;cases e2;exact⟨a,o,Wak hs,p1,p2,p3,p4⟩
  ·obtain⟨q1,q2⟩:=old j x hj e1
   rw[q2];exact k.own j x od' q1 e2
 ·by_cases hj:j=i
  ·by_cases hl:l=i
   ·rw[hj,hl]
   ·obtain⟨q3,q4⟩:=old l y hl e3
    rw[q4]at e6;rw[hj,Wak hs]at e5;cases e5;exact absurd e6 (p6 l y od2 q3 e4)
  ·obtain⟨q1,q2⟩:=old j x hj e1
   rw[q2]at e5;by_cases hl:l=i
   ·rw[hl,Wak hs]at e6
    cases e6;exact absurd e5 (p6 j x od1 q1 e2)
   ·obtain⟨q3,q4⟩:=old l y hl e3
    rw[q4]at e6;exact k.dis j l x y od1 od2 c q1 e2 q3 e4 e5 e6
def Slot.put:Slot->OD->Slot
 |.own _,o=>.own o
 |.bor _,o=>.bor o
 |.ownA a _,o=>.ownA a o
 |x,_=>x
theorem SlotAt.put {g:Gm}{x:Slot}{a:Addr}{o:OD}(h:SlotAt g x a):SlotAt g (x.put o) a:=by cases x <;> exact h
theorem SlotAt.free {g:Gm}{x:Slot}{a:Addr}{od:OD}(h:SlotAt g x a) (ho:x.od=some od):g.Hz a=none\/g.B a:=by
 cases x with
 |any=>cases ho
 |val d=>cases ho
 |own o=>exact .inl h
 |bor o=>exact .inr h
 |ownA b o=>exact .inl h.2
theorem Slot.put_od {x:Slot}{od o:OD}(h:x.od=some od):(x.put o).od=some o:=by cases x <;> cases h <;> rfl
theorem Ok.write (k:Ok K g G H σ Δ) {a:Addr}{od od':OD}{x:Slot}{i:Nat}{o':HO}(hx:Δ[i]?=some x) (hod:x.od=some od) (ha:σ[i]?=some (some (.ref a))) (r:OwnRep K G o' od'):Ok K g G (upd H a o') σ (Δ.set i (x.put od')):=by
 obtain⟨a',o,q1,q2,q3,q4,q5⟩:=k.own i x od hx hod;rw[ha]at q1;cases q1;have hi:i < Δ.length:=(Wag.mp hx).1;have other:∀(j:Nat) y od2,(Δ.set i (x.put od'))[j]?=some y->y.od=some od2->j≠i -> Δ[j]?=some y:=λj y od2 e1 e2 hj=>by
  rw[Wal (Ne.symm hj)]at e1;exact e1
 have anyOd:∀(j:Nat) y od2,(Δ.set i (x.put od'))[j]?=some y->y.od=some od2->∃y' od3,Δ[j]?=some y' /\ y'.od=some od3:=λj y od2 e1 e2=>by
  by_cases hj:j=i
  ·subst hj;exact⟨x,od,hx,hod⟩
  ·exact⟨y,od2,other j y od2 e1 e2 hj,e2⟩
 refine⟨λb u hb e=>?_,λb hb=>?_,k.sub,λb u e=>?_,λb u e=>?_,by simp[k.len],λj e h=>?_,λj y od2 e1 e2=>?_,λj l y z od1 od2 c e1 e2 e3 e4 e5 e6=>?_⟩
 ·have hba:b≠a:=by
   intro z;subst z;rcases q5.free hod with z|z
   ·rw[z]at e;cases e
   ·exact hb z
  rw[Zau hba];exact k.same b u hb e
 ·by_cases hba:b=a
  ·subst hba;rw[Zao];intro z;cases z
  ·rw[Zau hba];exact k.lent b hb
 ·have hba:b≠a:=by intro z;subst z;rw[q4]at e;cases e
  rw[Zau hba];exact k.frz b u e
 ·obtain⟨h1,h2,h3⟩:=k.ext b u e
  have hba:b≠a:=by intro z;subst z;exact h3 i x od hx hod ha
  rw[Zau hba];refine⟨h1,h2,λj y od2 e1 e2=>?_⟩;obtain⟨y',od3,z1,z2⟩:=anyOd j y od2 e1 e2;exact h3 j y' od3 z1 z2
 ·by_cases hj:j=i
  ·subst hj
   rw[Wak hi]at h;cases x <;> cases hod <;> cases h
  ·rw[Wal (Ne.symm hj)]at h
   exact k.val j e h
 ·by_cases hj:j=i
  ·subst hj
   rw[Wak hi]at e1;cases e1;rw[Slot.put_od hod]at e2;cases e2;exact⟨a,o',ha,Zao,r,q4,q5.put⟩
  ·have e1':=other j y od2 e1 e2 hj
   obtain⟨c,oc,w1,w2,w3,w4,w5⟩:=k.own j y od2 e1' e2;have hca:c≠a:=by
    intro z;subst z;exact hj (k.dis j i y x od2 od c e1' e2 hx hod w1 ha)
   exact⟨c,oc,w1,by rw[Zau hca];exact w2,w3,w4,w5⟩
 ·obtain⟨y',od3,z1,z2⟩:=anyOd j y od1 e1 e2
  obtain⟨y'',od4,z3,z4⟩:=anyOd l z od2 e3 e4;exact k.dis j l y' y'' od3 od4 c z1 z2 z3 z4 e5 e6
theorem Ok.freeze (k:Ok K g G H σ Δ) {a:Addr}{ds:List D}{vs:List V}(p:Pend K g G H σ Δ a (.lst ds)) (hv:H a=some (.lst vs)):Ok K g (upd G a (.lst vs)) H σ Δ /\ Same G (upd G a (.lst vs))/\Rep K (upd G a (.lst vs)) (.ref a) (.lst ds):=by
 obtain⟨o,p1,p2,p3,p4,p5,p6⟩:=p;rw[hv]at p1;cases p1;have p2:Reps K G vs ds:=p2;have sg:Same G (upd G a (.lst vs)):=λb u e=>by rw[Zau (Zbc e p3)];exact e
 refine⟨⟨k.same,k.lent,k.sub.trans sg,λb u e=>?_,λb u e=>?_,k.len,λj d h=>?_,λj x od e1 e2=>?_,k.dis⟩,sg,.lst Zao (p2.mono sg)⟩
 ·by_cases hb:b=a
  ·subst hb;rw[Zao]at e;cases e;exact⟨hv,.inl p4⟩
  ·rw[Zau hb]at e;exact k.frz b u e
 ·obtain⟨h1,h2,h3⟩:=k.ext b u e
  have hb:b≠a:=by intro z;subst z;rw[p5]at e;cases e
  exact⟨h1,by rw[Zau hb];exact h2,h3⟩
 ·obtain⟨v,h1,h2⟩:=k.val j d h
  exact⟨v,h1,h2.mono sg⟩
 ·obtain⟨c,o,w1,w2,w3,w4,w5⟩:=k.own j x od e1 e2
  have hc:c≠a:=by intro z;subst z;exact p6 j x od e1 e2 w1
  exact⟨c,o,w1,w2,w3.mono sg,by rw[Zau hc];exact w4,w5⟩
theorem Ok.drop (k:Ok K g G H σ Δ) (i:Nat):Ok K g G H σ (Δ.set i .any):=by
 have old:∀(j:Nat) x,(Δ.set i .any)[j]?=some x->x=.any\/(Δ[j]?=some x/\j≠i):=λj x e1=>by
  by_cases hj:j=i
  ·subst hj
   rw[Wb3]at e1;simp at e1;exact .inl e1.2.symm
  ·rw[Wal (Ne.symm hj)]at e1
   exact .inr ⟨e1,hj⟩
 have oldO:∀(j:Nat) x od,(Δ.set i .any)[j]?=some x->x.od=some od -> Δ[j]?=some x:=λj x od e1 e2=>by
  rcases old j x e1 with z|z
  ·subst z;cases e2
  ·exact z.1
 refine⟨k.same,k.lent,k.sub,k.frz,λb o e=>?_,by simp[k.len],λj e h=>?_,λj x od e1 e2=>k.own j x od (oldO j x od e1 e2) e2,λj l x y od od' a e1 e2 e3 e4=>k.dis j l x y od od' a (oldO j x od e1 e2) e2 (oldO l y od' e3 e4) e4⟩
 ·obtain⟨h1,h2,h3⟩:=k.ext b o e
  exact⟨h1,h2,λj x od e1 e2=>h3 j x od (oldO j x od e1 e2) e2⟩
 ·rcases old j _ h with z|z
  ·cases z
  ·exact k.val j e z.1
theorem Ok.take (k:Ok K g G H σ Δ) {i:Nat}{od:OD}(h:Δ[i]?=some (.own od)):∃a,σ[i]?=some (some (.ref a))/\Pend K g G H σ (Δ.set i .any) a od:=by
 obtain⟨a,o,h1,h2,h3,h4,h5⟩:=k.own i _ od h rfl;have h5:g.Hz a=none:=h5;refine⟨a,h1,o,h2,h3,h4,h5,?_,λj x od' e1 e2 e3=>?_⟩
 ·cases q:g.Xo a with
  |none=>rfl
  |some u=>exact absurd h1 ((k.ext a u q).2.2 i _ od h rfl)
 ·by_cases hj:j=i
  ·subst hj
   rw[Wb3]at e1;simp at e1;obtain⟨_,e1⟩:=e1;subst e1;cases e2
  ·rw[Wal (Ne.symm hj)]at e1
   exact hj (k.dis j i x _ od' od a e1 e2 h rfl e3 h1)
end
def Cont (K:W.Frag) (g:Gm) (G:Hp) (σ:St) (P:D->Evt->Prop) (Q:VK):Prop:=
 ∀v d G' H' Δ',Ok K g G' H' σ Δ' -> Same G G' -> Rep K G' v d->P d Δ' -> Q v H'
def JE (K:W.Frag) (t:TE) (Δ:Evt) (P:D->Evt->Prop):Prop:=
 ∀g G H σ Q,Ok K g G H σ Δ -> Cont K g G σ P Q->t σ H Q
def JT (K:W.Frag) (t:TT) (Δ:Evt) (P:Bool->Evt->Prop):Prop:=
 ∀g G H σ Q,Ok K g G H σ Δ -> (∀b G' H' Δ',Ok K g G' H' σ Δ' -> Same G G' -> P b Δ' -> Q b H')->t σ H Q
def JA (K:W.Frag) (t:TA) (Δ:Evt) (P:List D->Evt->Prop):Prop:=
 ∀g G H σ Q,Ok K g G H σ Δ -> (∀vs ds G' H' Δ',Ok K g G' H' σ Δ' -> Same G G' -> Reps K G' vs ds->P ds Δ' -> Q vs H')->t σ H Q
def JO (K:W.Frag) (t:TE) (Δ:Evt) (P:OD->Evt->Prop):Prop:=
 ∀g G H σ Q,Ok K g G H σ Δ -> (∀a od G' H' Δ',Ok K g G' H' σ Δ' -> Same G G' -> Pend K g G' H' σ Δ' a od->P od Δ' -> Q (.ref a) H')->t σ H Q
def JR2 (K:W.Frag) (r:R2) (d e:D) (Δ:Evt) (P:D->Evt->Prop):Prop:=
 ∀g G H σ Q x y,Ok K g G H σ Δ -> Rep K G x d->Rep K G y e->Cont K g G σ P Q->r x y H Q
def JR1 (K:W.Frag) (r:V->Hp->VK->Prop) (d:D) (Δ:Evt) (P:D->Evt->Prop):Prop:=
 ∀g G H σ Q x,Ok K g G H σ Δ -> Rep K G x d->Cont K g G σ P Q->r x H Q
def JC (K:W.Frag) (r:List V->Hp->VK->Prop) (ds:List D) (Δ:Evt) (P:D->Evt->Prop):Prop:=
 ∀g G H σ Q vs,Ok K g G H σ Δ -> Reps K G vs ds->Cont K g G σ P Q->r vs H Q
structure Pst where
 nx:Evt->Prop
 rt:D->Evt->Prop
 bk:Evt->Prop:=λ_=>False
 ct:Evt->Prop:=λ_=>False
 ro:OD->Evt->Prop:=λ_ _=>False
structure SCont (K:W.Frag) (g:Gm) (P:Pst) (E:Ends):Prop where
 nx:∀σ G H Δ,Ok K g G H σ Δ -> P.nx Δ -> E.nx σ H
 rt:∀v d σ G H Δ,Ok K g G H σ Δ -> Rep K G v d->P.rt d Δ -> E.rt v H
 bk:∀σ G H Δ,Ok K g G H σ Δ -> P.bk Δ -> E.bk σ H
 ct:∀σ G H Δ,Ok K g G H σ Δ -> P.ct Δ -> E.ct σ H
 ro:∀a od σ G H Δ,Ok K g G H σ Δ -> Pend K g G H σ Δ a od->P.ro od Δ -> E.rt (.ref a) H
def JS (K:W.Frag) (t:TS) (Δ:Evt) (P:Pst):Prop:=
 ∀g G H σ E,Ok K g G H σ Δ -> SCont K g P E->t E σ H
def JG (K:W.Frag) (t:TG) (d:D) (Δ:Evt) (P:Evt->Prop):Prop:=
 ∀g G H σ v (R:St->Hp->Prop),Ok K g G H σ Δ -> Rep K G v d->(∀σ' G' H' Δ',Ok K g G' H' σ' Δ' -> Same G G' -> P Δ' -> R σ' H')->t v σ H R
def JGs (K:W.Frag) (t:TGs) (ds:List D) (Δ:Evt) (P:Evt->Prop):Prop:=
 ∀g G H σ vs (R:St->Hp->Prop),Ok K g G H σ Δ -> Reps K G vs ds->(∀σ' G' H' Δ',Ok K g G' H' σ' Δ' -> Same G G' -> P Δ' -> R σ' H')->t vs σ H R
section
variable {K:W.Frag}{Δ:Evt}
theorem Cont.up {g:Gm}{G G1:Hp}{σ:St}{P:D->Evt->Prop}{Q:VK}(c:Cont K g G σ P Q) (s:Same G G1):Cont K g G1 σ P Q:=
 λv d G' H' Δ' k s' r p=>c v d G' H' Δ' k (s.trans s') r p
theorem JE.mono {t:TE}{P P':D->Evt->Prop}(h:JE K t Δ P) (hp:∀d Δ,P d Δ -> P' d Δ):JE K t Δ P':=
 λg G H σ Q k c=>h g G H σ Q k λv d G' H' Δ' k' s r p=>c v d G' H' Δ' k' s r (hp d Δ' p)
theorem JS.mono {t:TS}{P P':Pst}(h:JS K t Δ P) (hn:∀Δ,P.nx Δ -> P'.nx Δ) (hr:∀d Δ,P.rt d Δ -> P'.rt d Δ) (hb:∀Δ,P.bk Δ -> P'.bk Δ) (hc:∀Δ,P.ct Δ -> P'.ct Δ) (ho:∀od Δ,P.ro od Δ -> P'.ro od Δ):JS K t Δ P':=
 λg G H σ E k c=>h g G H σ E k ⟨λσ' G' H' Δ' k' p=>c.nx σ' G' H' Δ' k' (hn _ p),λv d σ' G' H' Δ' k' r p=>c.rt v d σ' G' H' Δ' k' r (hr _ _ p),λσ' G' H' Δ' k' p=>c.bk σ' G' H' Δ' k' (hb _ p),λσ' G' H' Δ' k' p=>c.ct σ' G' H' Δ' k' (hc _ p),λa od σ' G' H' Δ' k' r p=>c.ro a od σ' G' H' Δ' k' r (ho _ _ p)⟩
theorem Zad {i:Nat}{d:D}{P:D->Evt->Prop}(h:Δ[i]?=some (.val d)) (p:P d Δ):JE K (tVar i) Δ P:=λg G H σ Q k c=>by
 obtain⟨v,h1,h2⟩:=k.val i d h;exact⟨v,h1,c v d G H Δ k (Same.refl _) h2 p⟩
theorem Zhr {i:Nat}{ds:List D}{P:D->Evt->Prop}(h:Δ[i]?=some (.own (.lst ds))) (p:P (.lst ds) (Δ.set i (.val (.lst ds)))):JE K (tVar i) Δ P:=λg G H σ Q k c=>by
 obtain⟨a,h1,pd⟩:=k.take h;obtain⟨o,q1,q2,_⟩:=id pd;cases o with
 |lst vs=>
  obtain⟨k2,sg,r⟩:=(k.drop i).freeze pd q1;have k3:=k2.setVal (i:=i) (by simpa using (Wag.mp h).1) r;have e1:σ.set i (some (.ref a)) = σ:=by
   apply Wbw;intro j;by_cases hj:j=i
   ·subst hj;rw[Wak (k.lt h),h1]
   ·rw[Wal (Ne.symm hj)]
  rw[e1,List.set_set]at k3;exact⟨.ref a,h1,c _ _ _ H _ k3 sg r p⟩
 |_=>exact absurd q2 (λz=>z)
theorem Zar {i:Int}{P:D->Evt->Prop}(p:P (.int i) Δ):JE K (tC (.int i)) Δ P:=λg G H σ Q k c=>c _ _ G H Δ k (Same.refl _) (.int i) p
theorem Zqu {b:Bool}{P:D->Evt->Prop}(p:P (.bl b) Δ):JE K (tC (.bl b)) Δ P:=λg G H σ Q k c=>c _ _ G H Δ k (Same.refl _) (.bl b) p
theorem Zio {P:D->Evt->Prop}(p:P .non Δ):JE K (tC .non) Δ P:=λg G H σ Q k c=>c _ _ G H Δ k (Same.refl _) .non p
theorem Zp2 {x:Str}{P:D->Evt->Prop}(p:P (.str x) Δ):JE K (tC (.str x)) Δ P:=λg G H σ Q k c=>c _ _ G H Δ k (Same.refl _) (.str x) p
theorem Zqz {x:String}{P:D->Evt->Prop}(p:P (.ty x) Δ):JE K (tC (.ty x)) Δ P:=λg G H σ Q k c=>c _ _ G H Δ k (Same.refl _) (.ty x) p
theorem Zaw {r:R2}{ta tb:TE}{P:D->Evt->Prop}(h:JE K ta Δ λd Δ1=>JE K tb Δ1 λe Δ2=>JR2 K r d e Δ2 P):JE K (tOp r ta tb) Δ P:=λg G H σ Q k c=>
 h g G H σ _ k λx d G1 H1 Δ1 k1 s1 r1 p1=>p1 g G1 H1 σ _ k1 λy e G2 H2 Δ2 k2 s2 r2 p2=>p2 g G2 H2 σ Q x y k2 (r1.mono s2) r2 (c.up (s1.trans s2))
theorem Zrv {r:V->Hp->VK->Prop}{ta:TE}{P:D->Evt->Prop}(h:JE K ta Δ λd Δ1=>JR1 K r d Δ1 P):JE K (tUn r ta) Δ P:=λg G H σ Q k c=>
 h g G H σ _ k λx d G1 H1 Δ1 k1 s1 r1 p1=>p1 g G1 H1 σ Q x k1 r1 (c.up s1)
theorem Zag {P:List D->Evt->Prop}(p:P [] Δ):JA K tNil Δ P:=λg G H σ Q k c=>c [] [] G H Δ k (Same.refl _) .nil p
theorem Zab {ta:TE}{tr:TA}{P:List D->Evt->Prop}(h:JE K ta Δ λd Δ1=>JA K tr Δ1 λds Δ2=>P (d::ds) Δ2):JA K (tCons ta tr) Δ P:=λg G H σ Q k c=>
 h g G H σ _ k λx d G1 H1 Δ1 k1 s1 r1 p1=>p1 g G1 H1 σ _ k1 λvs ds G2 H2 Δ2 k2 s2 r2 p2=>c _ _ G2 H2 Δ2 k2 (s1.trans s2) (.cons (r1.mono s2) r2) p2
theorem Zbx {r:List V->Hp->VK->Prop}{ta:TA}{P:D->Evt->Prop}(h:JA K ta Δ λds Δ1=>JC K r ds Δ1 P):JE K (tCB r ta) Δ P:=λg G H σ Q k c=>
 h g G H σ _ k λvs ds G1 H1 Δ1 k1 s1 r1 p1=>p1 g G1 H1 σ Q vs k1 r1 (c.up s1)
theorem Zdo {ta:TA}{P:D->Evt->Prop}(h:JA K ta Δ λds Δ1=>ds.length<=sizeLine/\P (.tup ds) Δ1):JE K (tTup ta) Δ P:=λg G H σ Q k c=>
 h g G H σ _ k λvs ds G1 H1 Δ1 k1 s1 r1 ⟨z,p1⟩=>⟨by rw[r1.length];exact z,λp hp=>by
  obtain⟨k2,sg⟩:=k1.laid hp (.tup vs);exact c _ _ _ _ Δ1 k2 (s1.trans sg) (.tup Zao (r1.mono sg)) p1⟩
theorem Zdt {ta:TA}{P:D->Evt->Prop}(h:JA K ta Δ λds Δ1=>ds.length<=sizeLine/\P (.lst ds) Δ1):JE K (tLst ta) Δ P:=λg G H σ Q k c=>
 h g G H σ _ k λvs ds G1 H1 Δ1 k1 s1 r1 ⟨z,p1⟩=>⟨by rw[r1.length];exact z,λp hp=>by
  obtain⟨k2,sg⟩:=k1.laid hp (.lst vs);exact c _ _ _ _ Δ1 k2 (s1.trans sg) (.lst Zao (r1.mono sg)) p1⟩
theorem Ok.fresh {g:Gm}{G H:Hp}{σ:St}(k:Ok K g G H σ Δ) {p:Addr}{o:HO}{od:OD}(hp:H p=none) (r:OwnRep K G o od):Ok K g G (upd H p o) σ Δ /\ Pend K g G (upd H p o) σ Δ p od:=by
 have hG:G p=none:=by
  cases e:G p with
  |none=>rfl
  |some u=>rw[k.live p u e]at hp;cases hp
 refine⟨k.grow (Same.refl _) (λb u e=>by rw[Zau (Zbc e hp)];exact e) λb u e=>⟨?_,.inl e⟩,o,Zao,r,hG,k.there hp,?_,λj x od' e1 e2 e3=>?_⟩
 ·have hb:b≠p:=by intro z;subst z;rw[hG]at e;cases e
  rw[Zau hb];exact k.live b u e
 ·cases q:g.Xo p with
  |none=>rfl
  |some u=>have z:=(k.ext p u q).1;rw[hp]at z;cases z
 ·obtain⟨a,oo,w1,w2,_⟩:=k.own j x od' e1 e2
  rw[e3]at w1;cases w1;rw[hp]at w2;cases w2
theorem Zeb {ta:TA}{P:OD->Evt->Prop}(h:JA K ta Δ λds Δ1=>ds.length<=sizeLine/\P (.lst ds) Δ1):JO K (tLst ta) Δ P:=λg G H σ Q k c=>
 h g G H σ _ k λvs ds G1 H1 Δ1 k1 s1 r1 ⟨z,p1⟩=>⟨by rw[r1.length];exact z,λp hp=>by
  obtain⟨k2,pd⟩:=k1.fresh (od:=.lst ds) hp (show OwnRep K G1 (.lst vs) (.lst ds) from r1);exact c p _ G1 _ Δ1 k2 s1 pd p1⟩
theorem Zbe {t:TE}{P:D->Evt->Prop}(h:JO K t Δ λod Δ1=>∃ds,od=.lst ds/\P (.lst ds) Δ1):JE K t Δ P:=λg G H σ Q k c=>
 h g G H σ Q k λa od G1 H1 Δ1 k1 s1 pd hq_=>by
  obtain⟨ds,e,p1⟩:=hq_;subst e;obtain⟨o,q1,q2,_⟩:=id pd;cases o with
  |lst vs=>
   obtain⟨k2,sg,r⟩:=k1.freeze pd q1;exact c _ _ _ H1 Δ1 k2 (s1.trans sg) r p1
  |_=>exact absurd q2 (λz=>z)
theorem Zf9 {c:TT}{ta tb:TE}{P:D->Evt->Prop}(h:JT K c Δ λb Δ1=>if b=true then JE K ta Δ1 P else JE K tb Δ1 P):JE K (tIf c ta tb) Δ P:=λg G H σ Q k q=>
 h g G H σ _ k λb G1 H1 Δ1 k1 s1 p1=>by
  cases b with
  |true=>exact(show JE K ta Δ1 P from p1) g G1 H1 σ Q k1 (q.up s1)
  |false=>exact(show JE K tb Δ1 P from p1) g G1 H1 σ Q k1 (q.up s1)
theorem Za6 {t:TE}{P:Bool->Evt->Prop}(h:JE K t Δ λd Δ1=>∃b,d=.bl b/\P b Δ1):JT K (tTest t) Δ P:=λg G H σ Q k c=>
 h g G H σ _ k λv d G1 H1 Δ1 k1 s1 r1 hq_=>by obtain⟨b,e,p1⟩:=hq_;subst e;cases r1.inv;exact⟨b,rfl,c b G1 H1 Δ1 k1 s1 p1⟩
theorem Znd {a b:TT}{P:Bool->Evt->Prop}(h:JT K a Δ λx Δ1=>if x=true then JT K b Δ1 P else P false Δ1):JT K (tAnd a b) Δ P:=λg G H σ Q k c=>
 h g G H σ _ k λx G1 H1 Δ1 k1 s1 p1=>by
  cases x with
  |true=>exact(show JT K b Δ1 P from p1) g G1 H1 σ _ k1 λy G2 H2 Δ2 k2 s2 p2=>c y G2 H2 Δ2 k2 (s1.trans s2) p2
  |false=>exact c false G1 H1 Δ1 k1 s1 p1
theorem Zqj {a b:TT}{P:Bool->Evt->Prop}(h:JT K a Δ λx Δ1=>if x=true then P true Δ1 else JT K b Δ1 P):JT K (tOr a b) Δ P:=λg G H σ Q k c=>
 h g G H σ _ k λx G1 H1 Δ1 k1 s1 p1=>by
  cases x with
  |true=>exact c true G1 H1 Δ1 k1 s1 p1
  |false=>exact(show JT K b Δ1 P from p1) g G1 H1 σ _ k1 λy G2 H2 Δ2 k2 s2 p2=>c y G2 H2 Δ2 k2 (s1.trans s2) p2
theorem Zkj {a:TT}{P:Bool->Evt->Prop}(h:JT K a Δ λx Δ1=>P (!x) Δ1):JT K (tNot a) Δ P:=λg G H σ Q k c=>
 h g G H σ _ k λx G1 H1 Δ1 k1 s1 p1=>c (!x) G1 H1 Δ1 k1 s1 p1
theorem Zb5 {P:Bool->Evt->Prop}(p:P true Δ):JT K tTrue Δ P:=λg G H σ Q k c=>c true G H Δ k (Same.refl _) p
theorem Zlj {P:Pst}(p:P.nx Δ):JS K tNext Δ P:=λg G H σ E k c=>c.nx σ G H Δ k p
theorem Znk {t u:TS}{P:Pst}(h:JS K t Δ { P with nx:=λΔ1=>JS K u Δ1 P }):JS K (tSeq t u) Δ P:=λg G H σ E k c=>
 h g G H σ _ k ⟨λσ1 G1 H1 Δ1 k1 p1=>p1 g G1 H1 σ1 E k1 c,c.rt,c.bk,c.ct,c.ro⟩
theorem Zq4 {te:TE}{P:Pst}(h:JE K te Δ P.rt):JS K (tRet te) Δ P:=λg G H σ E k c=>
 h g G H σ _ k λv d G1 H1 Δ1 k1 s1 r1 p1=>c.rt v d σ G1 H1 Δ1 k1 r1 p1
theorem Zo4 {te:TE}{P:Pst}(h:JO K te Δ P.ro):JS K (tRet te) Δ P:=λg G H σ E k c=>
 h g G H σ _ k λa od G1 H1 Δ1 k1 s1 pd p1=>c.ro a od σ G1 H1 Δ1 k1 pd p1
theorem Zng {i:Nat}{od:OD}{P:OD->Evt->Prop}(h:Δ[i]?=some (.own od)) (p:P od (Δ.set i .any)):JO K (tVar i) Δ P:=λg G H σ Q k c=>by
 obtain⟨a,h1,pd⟩:=k.take h;exact⟨.ref a,h1,c a od G H _ (k.drop i) (Same.refl _) pd p⟩
theorem Zo9 {te:TE}{P:Pst}(h:JE K te Δ λ_ Δ1=>P.nx Δ1):JS K (tDrop te) Δ P:=λg G H σ E k c=>
 h g G H σ _ k λv d G1 H1 Δ1 k1 s1 r1 p1=>c.nx σ G1 H1 Δ1 k1 p1
theorem Zrt {c:TT}{t u:TS}{P:Pst}(h:JT K c Δ λb Δ1=>if b=true then JS K t Δ1 P else JS K u Δ1 P):JS K (tIfS c t u) Δ P:=λg G H σ E k q=>
 h g G H σ _ k λb G1 H1 Δ1 k1 s1 p1=>by
  cases b with
  |true=>exact(show JS K t Δ1 P from p1) g G1 H1 σ E k1 q
  |false=>exact(show JS K u Δ1 P from p1) g G1 H1 σ E k1 q
theorem Zp3 {te:TE}{t:TG}{P:Pst}(h:JE K te Δ λd Δ1=>JG K t d Δ1 P.nx):JS K (tAsg te t) Δ P:=λg G H σ E k c=>
 h g G H σ _ k λv d G1 H1 Δ1 k1 s1 r1 p1=>p1 g G1 H1 σ v _ k1 r1 λσ2 G2 H2 Δ2 k2 s2 p2=>c.nx σ2 G2 H2 Δ2 k2 p2
theorem Zgm {P:Evt->Prop}(p:P Δ):JGs K gNil [] Δ P:=λg G H σ vs R k r c=>by cases r;exact⟨rfl,c σ G H Δ k (Same.refl _) p⟩
theorem Zcg {t:TG}{u:TGs}{d:D}{ds:List D}{P:Evt->Prop}(h:JG K t d Δ λΔ1=>JGs K u ds Δ1 P):JGs K (gCons t u) (d::ds) Δ P:=λg G H σ vs R k r c=>by
 obtain⟨_,_,rfl,r1,rr⟩:=r.inv
 next=>exact⟨_,_,rfl,h g G H σ _ _ k r1 λσ1 G1 H1 Δ1 k1 s1 p1=>p1 g G1 H1 σ1 _ R k1 (rr.mono s1) λσ2 G2 H2 Δ2 k2 s2 p2=>c σ2 G2 H2 Δ2 k2 (s1.trans s2) p2⟩
theorem Zh5 {n:Nat}{t:TGs}{ds:List D}{P:Evt->Prop}(hl:ds.length=n) (h:JGs K t ds Δ P):JG K (gTup K n t) (.tup ds) Δ P:=λg G H σ v R k r c=>by
 obtain⟨_,_,rfl,ha,rs⟩:=r.inv
 next=>exact⟨_,_,rfl,SqT.of (k.live _ _ ha),by rw[rs.length];exact hl,h g G H σ _ R k rs c⟩
def ItOk (K:W.Frag) (G:Hp) (J:It) (ds:List D):Prop:=
 ∀G1 H1,Same G G1->Same G1 H1->J.stop ds.length H1/\∀(i:Nat) d,ds[i]?=some d->J.go i H1/\∀x H2,J.yld i H1 x H2->∃G2,Same G1 G2/\Same H1 H2/\(∀b o,G2 b=some o->H2 b=some o/\(G1 b=some o\/H1 b=none))/\Rep K G2 x d
def JI (K:W.Frag) (wi:TI) (Δ:Evt) (P:List D->Evt->Prop):Prop:=
 ∀g G H σ (R:It->Hp->Prop),Ok K g G H σ Δ -> (∀J ds G' H' Δ',Ok K g G' H' σ Δ' -> Same G G' -> ItOk K G' J ds->P ds Δ' -> R J H')->wi σ H R
theorem Zqg {tl:TE}{P:List D->Evt->Prop}(h:JE K tl Δ λd Δ1=>∃ds,d=.tup ds/\P ds Δ1):JI K (iTup K tl) Δ P:=λg G H σ R k c=>
 h g G H σ _ k λv d G1 H1 Δ1 k1 s1 r1 hq_=>by
  obtain⟨ds,e,p1⟩:=hq_;subst e;obtain⟨a,vs,rfl,ha,rs⟩:=r1.inv
  next=>
   refine⟨a,rfl,⟨vs,SqT.of (k1.live _ _ ha)⟩,c _ ds G1 H1 Δ1 k1 s1 (λG2 H2 sg sh=>⟨⟨vs,SqT.of (sh _ _ (sg _ _ ha)),by rw[rs.length];exact Waj _⟩,λi d e=>?_⟩) p1⟩;obtain⟨v,hv,rv⟩:=rs.get e;refine⟨⟨vs,v,SqT.of (sh _ _ (sg _ _ ha)),hv⟩,λx H3 ⟨e3,y3⟩=>⟨G2,Same.refl _,by rw[e3];exact Same.refl _,λb o q=>⟨by rw[e3];exact sh b o q,.inl q⟩,?_⟩⟩;have:=y3 vs (SqT.of (sh _ _ (sg _ _ ha)));rw[hv]at this;cases this;exact rv.mono sg
theorem Znq {tl:TE}{P:List D->Evt->Prop}(h:JE K tl Δ λd Δ1=>∃ds,(d=.lst ds\/d=.scr ds)/\P ds Δ1):JI K (iList K tl) Δ P:=λg G H σ R k c=>
 h g G H σ _ k λv d G1 H1 Δ1 k1 s1 r1 hq_=>by
  obtain⟨ds,e,p1⟩:=hq_;obtain⟨a,vs,ea,hs,rs⟩:∃a vs,v=.ref a/\SqL K G1 a vs/\Reps K G1 vs ds:=by
   rcases e with e|e
   ·subst e;cases r1 with|lst ha rs=>exact⟨_,_,rfl,SqL.of ha,rs⟩
   ·subst e;cases r1 with|scr ha rs=>exact⟨_,_,rfl,ha,rs⟩
  subst ea;refine⟨a,rfl,⟨vs,k1.live.seq hs⟩,c _ ds G1 H1 Δ1 k1 s1 (λG2 H2 sg sh=>⟨⟨vs,sh.seq (sg.seq hs),by rw[rs.length];exact Waj _⟩,λi d e=>?_⟩) p1⟩;obtain⟨v,hv,rv⟩:=rs.get e;refine⟨⟨vs,v,sh.seq (sg.seq hs),hv⟩,λx H3 ⟨e3,y3⟩=>⟨G2,Same.refl _,by rw[e3];exact Same.refl _,λb o q=>⟨by rw[e3];exact sh b o q,.inl q⟩,?_⟩⟩;have:=y3 vs (sh.seq (sg.seq hs));rw[hv]at this;cases this;exact rv.mono sg
def rngD (lo:Int) (n:Nat):List D:=(Waz n).map λi:Nat=>D.int (lo+(i:Int))
theorem Za2 (lo:Int) (n:Nat):(rngD lo n).length=n:=by simp[rngD]
theorem Zbd {lo:Int}{n i:Nat}{d:D}(h:(rngD lo n)[i]?=some d):i<n/\d=.int (lo+(i:Int)):=by
 unfold rngD at h;rw[Waf]at h;cases e:(Waz n)[i]? with
 |none=>rw[e]at h;cases h
 |some j=>
  rw[e]at h;obtain⟨h1,h2⟩:=Wag.mp e;rw[List.getElem_range]at h2;subst h2;exact⟨by simpa using h1,(Wa5.inj h).symm⟩
theorem Zly {G:Hp}(lo:Int) (n:Nat):ItOk K G (Itr lo n) (rngD lo n):=λG1 H1 sg sh=>by
 refine⟨by show n<=(rngD lo n).length;rw[Za2];exact Waj _,λi d e=>?_⟩;obtain⟨h1,h2⟩:=Zbd e;subst h2;refine⟨h1,λx H2 ⟨e2,y2⟩=>⟨G1,Same.refl _,by rw[e2];exact Same.refl _,λb o q=>⟨by rw[e2];exact sh b o q,.inl q⟩,?_⟩⟩;subst y2;exact .int _
theorem Za5 {ta:TA}{P:List D->Evt->Prop}(h:JA K ta Δ λds Δ1=>∃n:Int,ds=[.int n] /\ -(2 ^ 62)<=n/\n<2 ^ 62/\P (rngD 0 n.toNat) Δ1):JI K (iRng1 ta) Δ P:=λg G H σ R k c=>
 h g G H σ _ k λvs ds G1 H1 Δ1 k1 s1 r1 hq_=>by
  obtain⟨n,e,h1,h2,p1⟩:=hq_;subst e;obtain⟨_,_,rfl,ra,rr⟩:=r1.inv
  next=>
   cases rr.inv;cases ra.inv;exact⟨n,rfl,h1,h2,c _ _ G1 H1 Δ1 k1 s1 (Zly 0 _) p1⟩
theorem Zql {wi:TI}{t:TG}{tb:TS}{P:Pst}(h:JI K wi Δ λds Δ1=>∃I:Nat->Evt->Prop,I 0 Δ1/\(∀i d Δ2,ds[i]?=some d->I i Δ2->JG K t d Δ2 λΔ3=>JS K tb Δ3 ⟨I (i+1),P.rt,P.nx,I (i+1),P.ro⟩)/\∀Δ2,I ds.length Δ2->P.nx Δ2) :
  JS K (tFor wi t tb) Δ P:=λg G H σ E k c=>
 h g G H σ _ k λJ ds G1 H1 Δ1 k1 s1 it hq_=>by
  obtain⟨I,h0,ht,he⟩:=hq_;refine⟨λi m σ H=>m=ds.length-i/\i<=ds.length/\∃G Δ,Ok K g G H σ Δ /\ Same G1 G/\I i Δ,⟨ds.length,by simp,Wb8 _,G1,Δ1,k1,Same.refl _,h0⟩,?_⟩;rintro i m σ2 H2 ⟨rfl,hi,G2,Δ2,k2,s2,h2⟩;obtain⟨stop,go⟩:=it G2 H2 s2 k2.live;by_cases hlt:i<ds.length
  ·obtain⟨g1,g2⟩:=go i _ (Waa hlt)
   refine .inr ⟨g1,λσ' H'=>i+1<=ds.length/\∃G Δ,Ok K g G H' σ' Δ /\ Same G1 G/\I (i+1) Δ,λσ' H' p'=>⟨ds.length-(i+1),by omega,rfl,p'.1,p'.2⟩,λx H3 y=>?_⟩;obtain⟨G3,a1,a2,a3,a4⟩:=g2 x H3 y;have k3:=k2.grow a1 a2 a3;refine ht i _ Δ2 (Waa hlt) h2 { g with F:=G3,Xo:=g.Xo } G3 H3 σ2 x _ ?_ a4 λσ4 G4 H4 Δ4 k4 s4 p4=>?_
   ·exact⟨k3.same,k3.lent,Same.refl _,λb o q=>⟨(k3.frz b o q).1,.inr q⟩,k3.ext,k3.len,k3.val,k3.own,k3.dis⟩
   ·have cv:∀{G5 H5:Hp}{σ5:St}{Δ5:Evt},Ok K { g with F:=G3,Xo:=g.Xo } G5 H5 σ5 Δ5->Ok K g G5 H5 σ5 Δ5/\Same G1 G5:=λ{G5 H5 σ5 Δ5} k5=>
     ⟨⟨k5.same,k5.lent,k3.sub.trans k5.sub,λb o q=>by
      obtain⟨q1,q2⟩:=k5.frz b o q;refine⟨q1,?_⟩;rcases q2 with z|z
      ·exact .inl z
      ·exact(k3.frz b o z).2,k5.ext,k5.len,k5.val,k5.own,k5.dis⟩,s2.trans (a1.trans k5.sub)⟩
    refine p4 _ G4 H4 σ4 _ k4 ⟨λσ5 G5 H5 Δ5 k5 p5=>?_,λv d σ5 G5 H5 Δ5 k5 r5 p5=>?_,λσ5 G5 H5 Δ5 k5 p5=>?_,λσ5 G5 H5 Δ5 k5 p5=>?_,λa od σ5 G5 H5 Δ5 k5 pd5 p5=>?_⟩
    ·exact⟨hlt,G5,Δ5,(cv k5).1,(cv k5).2,p5⟩
    ·exact c.rt v d σ5 G5 H5 Δ5 (cv k5).1 r5 p5
    ·exact c.nx σ5 G5 H5 Δ5 (cv k5).1 p5
    ·exact⟨hlt,G5,Δ5,(cv k5).1,(cv k5).2,p5⟩
    ·exact c.ro a od σ5 G5 H5 Δ5 (cv k5).1 pd5 p5
  ·have e:i=ds.length:=by omega
   subst e;exact .inl ⟨stop,c.nx σ2 G2 H2 Δ2 k2 (he Δ2 h2)⟩
theorem Zlv {c:TT}{tb:TS}{P:Pst}(I:Nat->Evt->Prop) (h0:∃m,I m Δ) (ht:∀m Δ1,I m Δ1->JT K c Δ1 λb Δ2=>if b=true then JS K tb Δ2 ⟨λΔ3=>∃m',m'<m/\I m' Δ3,P.rt,P.nx,λΔ3=>∃m',m'<m/\I m' Δ3,P.ro⟩ else P.nx Δ2) :
  JS K (tWhile c tb) Δ P:=λg G H σ E k q=>by
 obtain⟨m,h0⟩:=h0;refine⟨λm σ H=>∃G Δ,Ok K g G H σ Δ /\ I m Δ,⟨m,G,Δ,k,h0⟩,?_⟩;rintro m σ1 H1 ⟨G1,Δ1,k1,h1⟩;refine ht m Δ1 h1 g G1 H1 σ1 _ k1 λb G2 H2 Δ2 k2 s2 p2=>?_;cases b with
 |true=>
  refine⟨λσ' H'=>∃m',m'<m/\∃G Δ,Ok K g G H' σ' Δ /\ I m' Δ,λσ' H' ⟨m',hm,z⟩=>⟨m',hm,z⟩,?_⟩;refine(show JS K tb Δ2 _ from p2) g G2 H2 σ1 _ k2 ⟨λσ5 G5 H5 Δ5 k5 ⟨m',hm,p5⟩=>⟨m',hm,G5,Δ5,k5,p5⟩,q.rt,q.nx,λσ5 G5 H5 Δ5 k5 ⟨m',hm,p5⟩=>⟨m',hm,G5,Δ5,k5,p5⟩,q.ro⟩
 |false=>exact q.nx σ1 G2 H2 Δ2 k2 p2
end
section
variable {K:W.Frag}{Δ:Evt}{P:D->Evt->Prop}
theorem jr_I {C:Int->Int->Prop}{f:Int->Int->Int}{i j:Int}(hc:C i j) (p:P (.int (f i j)) Δ):JR2 K (rI C λi j=>.int (f i j)) (.int i) (.int j) Δ P:=λg G H σ Q x y k rx ry c=>by
 cases rx.inv;cases ry.inv;exact⟨i,j,rfl,rfl,hc,c _ _ G H Δ k (Same.refl _) (.int _) p⟩
theorem Zmd {f:Int->Int->Int}{i j:Int}(p:P (.int (f i j)) Δ):JR2 K (rI0 λi j=>.int (f i j)) (.int i) (.int j) Δ P:=λg G H σ Q x y k rx ry c=>by
 cases rx.inv;cases ry.inv;exact⟨i,j,rfl,rfl,c _ _ G H Δ k (Same.refl _) (.int _) p⟩
theorem Zhh {f:Int->Int->Bool}{i j:Int}(p:P (.bl (f i j)) Δ):JR2 K (rI0 λi j=>.bl (f i j)) (.int i) (.int j) Δ P:=λg G H σ Q x y k rx ry c=>by
 cases rx.inv;cases ry.inv;exact⟨i,j,rfl,rfl,c _ _ G H Δ k (Same.refl _) (.bl _) p⟩
theorem Zgt {i j:Int}(p:P (.bl (decide (i=j))) Δ):JR2 K rEq (.int i) (.int j) Δ P:=λg G H σ Q x y k rx ry c=>by
 cases rx.inv;cases ry.inv;refine⟨rfl,?_⟩;have e:decide (V.int i=V.int j)=decide (i=j):=by rw[Zhz];exact(Wc2 i j)
 rw[e];exact c _ _ G H Δ k (Same.refl _) (.bl _) p
theorem Zrw {i j:Int}(p:P (.bl (!decide (i=j))) Δ):JR2 K rNe (.int i) (.int j) Δ P:=λg G H σ Q x y k rx ry c=>by
 cases rx.inv;cases ry.inv;refine⟨rfl,?_⟩;have e:decide (V.int i=V.int j)=decide (i=j):=by rw[Zhz];exact(Wc2 i j)
 rw[e];exact c _ _ G H Δ k (Same.refl _) (.bl _) p
theorem Zrn {ds:List D}{i:Int}{d:D}(h:atI ds i=some d) (p:P d Δ):JR2 K (rIxT K) (.tup ds) (.int i) Δ P:=λg G H σ Q x y k rx ry c=>by
 obtain⟨_,_,rfl,ha,rs⟩:=rx.inv
 next=>
  cases ry.inv;obtain⟨v,h1,h2⟩:=Zft rs h;exact⟨_,_,i,v,rfl,rfl,SqT.of (k.live _ _ ha),h1,c v d G H Δ k (Same.refl _) h2 p⟩
theorem Zrr {ds:List D}{i:Int}{d:D}(h:atI ds i=some d) (p:P d Δ):JR2 K (rIxL K) (.lst ds) (.int i) Δ P:=λg G H σ Q x y k rx ry c=>by
 obtain⟨_,_,rfl,ha,rs⟩:=rx.inv
 next=>
  cases ry.inv;obtain⟨v,h1,h2⟩:=Zft rs h;exact⟨_,_,i,v,rfl,rfl,SqL.of (k.live _ _ ha),h1,c v d G H Δ k (Same.refl _) h2 p⟩
theorem Zlb {n:Nat}{te:TE}{Pp:Pst}{x:Slot}{od:OD}(hx:Δ[n]?=some x) (ho:x.od=some od) (hod:∃ds,od=.lst ds)
  (h:JE K te Δ λd Δ1=>∃y ds,Δ1[n]?=some y/\y.od=some (.lst ds)/\ds.length<sizeLine/\Pp.nx (Δ1.set n (y.put (.lst (ds++[d]))))) :
  JS K (tDrop (tBM K "list" rAppend (tVar n) (tCons te tNil))) Δ Pp:=λg G H σ E k c=>by
 obtain⟨a,o,h1,h2,h3,h4,h5⟩:=k.own n x _ hx ho;obtain⟨ds0,hod⟩:=hod;subst hod;cases o with
 |lst vs0=>
  refine⟨.ref a,h1,.inl ⟨rfl,_,SqL.of h2⟩,h g G H σ _ k λv d G1 H1 Δ1 k1 s1 r1 ⟨y,ds,q1,q2,q3,p⟩=>?_⟩;obtain⟨a',o',w1,w2,w3,w4,w5⟩:=k1.own n y _ q1 q2;rw[h1]at w1;cases w1;cases o' with
  |lst vs=>
   have w3:Reps K G1 vs ds:=w3;exact⟨a,vs,v,rfl,rfl,w2,by rw[w3.length];exact q3,c.nx σ G1 _ _ (k1.write q1 q2 h1 (show OwnRep K G1 (.lst (vs++[v])) (.lst (ds++[d])) from w3.append (.cons r1 .nil))) p⟩
  |_=>exact absurd w3 (λz=>z)
 |_=>exact absurd h3 (λz=>z)
theorem Zp1 {ds es:List D}(he:ds=[.lst es]\/ds=[.tup es]) (p:P (.int es.length) Δ) :
  JC K (λxs H Q=>∃p ys,xs=[.ref p]/\(SqL K H p ys\/SqT K H p ys)/\Q (.int ys.length) H) ds Δ P:=λg G H σ Q vs k rs c=>by
 rcases he with he|he <;> subst he
 ·obtain⟨_,_,rfl,r,t⟩:=rs.inv
  next=>
   cases t.inv;obtain⟨_,_,rfl,ha,rs⟩:=r.inv
   next=>
    refine⟨_,_,rfl,.inl (SqL.of (k.live _ _ ha)),?_⟩;rw[rs.length];exact c _ _ G H Δ k (Same.refl _) (.int _) p
 ·obtain⟨_,_,rfl,r,t⟩:=rs.inv
  next=>
   cases t.inv;obtain⟨_,_,rfl,ha,rs⟩:=r.inv
   next=>
    refine⟨_,_,rfl,.inr (SqT.of (k.live _ _ ha)),?_⟩;rw[rs.length];exact c _ _ G H Δ k (Same.refl _) (.int _) p
theorem Zns {n:Nat}{x:Slot}{ds:List D}(hx:Δ[n]?=some x) (ho:x.od=some (.lst ds)) (p:P (.int ds.length) Δ) :
  JE K (tCB (λxs H Q=>∃p ys,xs=[.ref p]/\(SqL K H p ys\/SqT K H p ys)/\Q (.int ys.length) H) (tCons (tVar n) tNil)) Δ P:=λg G H σ Q k c=>by
 obtain⟨a,o,h1,h2,h3,h4,h5⟩:=k.own n x _ hx ho;cases o with
 |lst vs=>
  have h3:Reps K G vs ds:=h3;refine⟨.ref a,h1,a,vs,rfl,.inl (SqL.of h2),?_⟩;rw[h3.length];exact c _ _ G H Δ k (Same.refl _) (.int _) p
 |_=>exact absurd h3 (λz=>z)
theorem Zpv {i:Int}(p:P (.int (if i<0 then -i else i)) Δ):JC K (λxs H Q=>∃i,xs=[.int i]/\Q (.int (if i<0 then -i else i)) H) [.int i] Δ P:=λg G H σ Q vs k rs c=>by
 obtain⟨_,_,rfl,r,t⟩:=rs.inv
 next=>cases t.inv;cases r.inv;exact⟨i,rfl,c _ _ G H Δ k (Same.refl _) (.int _) p⟩
theorem Zdi {f:Int->Int->Int}{i j:Int}(p:P (.int (f i j)) Δ):JC K (λxs H Q=>∃i j,xs=[.int i,.int j]/\Q (.int (f i j)) H) [.int i,.int j] Δ P:=λg G H σ Q vs k rs c=>by
 obtain⟨_,_,rfl,r,t⟩:=rs.inv
 next=>
  obtain⟨_,_,rfl,r',t⟩:=t.inv
  next=>cases t.inv;cases r.inv;cases r'.inv;exact⟨i,j,rfl,c _ _ G H Δ k (Same.refl _) (.int _) p⟩
theorem Zm3 {ds es:List D}(he:ds=[.lst es]\/ds=[.tup es]) (p:P (.tup es) Δ) :
  JC K (λxs H Q=>∃p ys,xs=[.ref p]/\((SqL K H p ys/\∀l,H l=none->Q (.ref l) (upd H l (.tup ys)))\/(SqT K H p ys/\Q (.ref p) H))) ds Δ P:=λg G H σ Q vs k rs c=>by
 rcases he with he|he <;> subst he
 ·obtain⟨_,_,rfl,r,t⟩:=rs.inv
  next=>
   cases t.inv;obtain⟨_,_,rfl,ha,rs⟩:=r.inv
   next=>
    refine⟨_,_,rfl,.inl ⟨SqL.of (k.live _ _ ha),λl hl=>?_⟩⟩;obtain⟨k2,sg⟩:=k.laid hl (.tup _);exact c _ _ _ _ Δ k2 sg (.tup Zao (rs.mono sg)) p
 ·obtain⟨_,_,rfl,r,t⟩:=rs.inv
  next=>
   cases t.inv;obtain⟨_,_,rfl,ha,rs⟩:=r.inv
   next=>exact⟨_,_,rfl,.inr ⟨SqT.of (k.live _ _ ha),c _ _ G H Δ k (Same.refl _) (.tup ha rs) p⟩⟩
def glue (F H H':Hp):Hp:=λb=>match H b with
 |none=>H' b
 |some _=>F b
theorem Zdp {F H H':Hp}{b:Addr}(h:H b=none):glue F H H' b=H' b:=by unfold glue;rw[h]
theorem Zct {F H H':Hp}{b:Addr}{o:HO}(h:H b=some o):glue F H H' b=F b:=by unfold glue;rw[h]
theorem Zef {G H H':Hp}(l:Same G H):Same G (glue G H H'):=λb o e=>by rw[Zct (l b o e)];exact e
theorem Zfs {G H H':Hp}(l:Same G H) (sh:∀b o,G b=some o->H b=some o->H' b=some o):∀b o,glue G H H' b=some o->H' b=some o/\(G b=some o\/H b=none):=λb o e=>by
 cases q:H b with
 |none=>rw[Zdp q]at e;exact⟨e,.inr rfl⟩
 |some u=>rw[Zct q]at e;exact⟨sh b o e (l b o e),.inl e⟩
abbrev DSp:=List D->(D->Prop)->Prop
def spD (K:W.Frag) (f:DSp):Sp:=λvs H Q _=>∃F ds Post,Same F H/\Reps K F vs ds/\f ds Post/\∀r H' d,Same H H' -> Rep K (glue F H H') r d->Post d->Q r H'
theorem Zbf {f:DSp}{ta:TA}{E:XK}(h:JA K ta Δ λds Δ1=>f ds λd=>P d Δ1):JE K (tCall (spD K f) [] E ta) Δ P:=λg G H σ Q k c=>
 h g G H σ _ k λvs ds G1 H1 Δ1 k1 s1 r1 p1=>by
  show spD K f (vs++[]) H1 Q E;rw[Wbc];refine⟨G1,ds,_,k1.live,r1,p1,λr H' d sh rr pd=>?_⟩;have sg:=Zef (H':=H') k1.live;exact c r d _ H' Δ1 (k1.grow sg sh (Zfs k1.live λb o _ e=>sh b o e)) (s1.trans sg) rr pd
abbrev BSp:=List D->List D->(D->List D->Prop)->Prop
def spB (K:W.Frag) (f:BSp):Sp:=λvs H Q _=>∃F a us ws ps ds Post,vs=.ref a::ws/\Same F H/\F a=none/\H a=some (.lst us)/\Reps K F us ps/\Reps K F ws ds/\f ps ds Post ∧
 ∀r H' us' ps' d,(∀b o,b≠a->H b=some o->H' b=some o)->H' a=some (.lst us')->Reps K (glue F H H') us' ps' -> Rep K (glue F H H') r d->Post d ps' -> Q r H'
theorem Ok.lend {g:Gm}{G H H':Hp}{σ:St}(k:Ok K g G H σ Δ) {i:Nat}{x:Slot}{ps ps':List D}{us':List V}{a:Addr}(hx:Δ[i]?=some x) (ho:x.od=some (.lst ps)) (ha:σ[i]?=some (some (.ref a)))
  (sh:∀b o,b≠a->H b=some o->H' b=some o) (hn:H' a=some (.lst us')) (r:Reps K (glue G H H') us' ps'):Ok K g (glue G H H') H' σ (Δ.set i (x.put (.lst ps')))/\Same G (glue G H H'):=by
 obtain⟨a',o,h1,h2,h3,h4,h5⟩:=k.own i x _ hx ho;rw[ha]at h1;cases h1;have sg:=Zef (H':=H') k.live;have k2:Ok K g (glue G H H') (upd H' a o) σ Δ:=by
  refine k.grow sg (λb u e=>?_) λb u e=>?_
  ·by_cases hb:b=a
   ·subst hb;rw[Zao,<- h2];exact e
   ·rw[Zau hb];exact sh b u hb e
  ·have hb:b≠a:=by intro z;subst z;rw[Zct h2,h4]at e;cases e
   rw[Zau hb];exact Zfs k.live (λc w e1 e2=>sh c w (λz=>by subst z;rw[h4]at e1;cases e1) e2) b u e
 have k3:=k2.write hx ho ha (show OwnRep K (glue G H H') (.lst us') (.lst ps') from r);rw[Zoz]at k3;have e:upd H' a (.lst us')=H':=by
  funext b
  by_cases hb:b=a
  ·subst hb;rw[Zao,hn]
  ·rw[Zau hb]
 rw[e]at k3;exact⟨k3,sg⟩
theorem Zk5 {f:BSp}{ta:TA}{E:XK}{i:Nat}{x:Slot}{od:OD}(hx:Δ[i]?=some x) (ho:x.od=some od) (h:JA K ta Δ λds Δ1=>∃y ps,Δ1[i]?=some y/\y.od=some (.lst ps)/\f ps ds λd ps'=>P d (Δ1.set i (y.put (.lst ps')))) :
  JE K (tCall (spB K f) [] E (tCons (tVar i) ta)) Δ P:=λg G H σ Q k c=>by
 obtain⟨a,o,h1,h2,h3,h4,h5⟩:=k.own i x _ hx ho;refine⟨.ref a,h1,h g G H σ _ k λvs ds G1 H1 Δ1 k1 s1 r1 ⟨y,ps,q1,q2,p1⟩=>?_⟩;show spB K f ((.ref a::vs)++[]) H1 Q E;rw[Wbc];obtain⟨a',o',w1,w2,w3,w4,w5⟩:=k1.own i y _ q1 q2;rw[h1]at w1;cases w1;cases o' with
 |lst us=>
  refine⟨G1,a,us,vs,ps,ds,_,rfl,k1.live,w4,w2,w3,r1,p1,λr H' us' ps' d sh hn rr rd pd=>?_⟩;obtain⟨k2,sg⟩:=k1.lend q1 q2 h1 sh hn rr;exact c r d _ H' _ k2 (s1.trans sg) rd pd
 |_=>exact absurd w3 (λz=>z)
abbrev NSp:=List D->(List D->Prop)->Prop
def spN (K:W.Frag) (f:NSp):Sp:=λvs H Q _=>∃F ds Post,Same F H/\Reps K F vs ds/\f ds Post ∧
 ∀a H' us ps,Same H H' -> H a=none->H' a=some (.lst us)->Reps K (λb=>if b=a then none else glue F H H' b) us ps->Post ps->Q (.ref a) H'
theorem Zci {f:NSp}{ta:TA}{E:XK}{Po:OD->Evt->Prop}(h:JA K ta Δ λds Δ1=>f ds λps=>Po (.lst ps) Δ1):JO K (tCall (spN K f) [] E ta) Δ Po:=λg G H σ Q k c=>
 h g G H σ _ k λvs ds G1 H1 Δ1 k1 s1 r1 p1=>by
  show spN K f (vs++[]) H1 Q E;rw[Wbc];refine⟨G1,ds,_,k1.live,r1,p1,λa H' us ps sh ha hn rr pd=>?_⟩;have sg:Same G1 (λb=>if b=a then none else glue G1 H1 H' b):=λb o e=>by
   have hb:b≠a:=by intro z;subst z;rw[k1.live _ _ e]at ha;cases ha
   try dsimp only
   rw[if_neg hb];exact Zef k1.live b o e
  have k2:Ok K g (λb=>if b=a then none else glue G1 H1 H' b) H' σ Δ1:=k1.grow sg sh λb o e=>by
   try dsimp only at e
   by_cases hb:b=a
   ·rw[if_pos hb]at e;cases e
   ·rw[if_neg hb]at e;exact Zfs k1.live (λb o _ e=>sh b o e) b o e
  refine c a _ _ H' Δ1 k2 (s1.trans sg) ⟨.lst us,hn,(show OwnRep K _ (.lst us) (.lst ps) from rr),by simp,k1.there ha,?_,λj x od' e1 e2 e3=>?_⟩ pd
  ·cases q:g.Xo a with
   |none=>rfl
   |some u=>have z:=(k1.ext a u q).1;rw[ha]at z;cases z
  ·obtain⟨b,oo,w1,w2,_⟩:=k1.own j x od' e1 e2
   rw[e3]at w1;cases w1;rw[ha]at w2;cases w2
end
def startD (N:List Str) (ds:List D):Evt:=ds.map .val++Wae (N.length-ds.length) .any
section
variable {K:W.Frag}
theorem Zeg {g:Gm}{G H:Hp}{N:List Str}{vs:List V}{ds:List D}(rs:Reps K G vs ds) (hl:ds.length<=N.length) (same:∀b o,¬ g.B b->g.Hz b=some o->H b=some o) (lent:∀b,g.B b->H b≠none) (sub:Same g.F G)
  (frz:∀b o,G b=some o->H b=some o/\(g.Hz b=none\/g.F b=some o)) (ext:∀b,g.Xo b=none):Ok K g G H (start N vs) (startD N ds):=by
 have noOd:∀(i:Nat) x od,(startD N ds)[i]?=some x->x.od=some od->False:=λi x od e1 e2=>by
  have hm:=Wa2 e1;rcases Wbj.mp hm with z|z
  ·obtain⟨d,_,rfl⟩:=Wbm.mp z;cases e2
  ·rw[List.mem_replicate]at z;rw[z.2]at e2;cases e2
 refine⟨same,lent,sub,frz,λb o e=>(by rw[ext b]at e;cases e),?_,λi d e=>?_,λi x od e1 e2=>(noOd i x od e1 e2).elim,λi j x y od od' a e1 e2=>(noOd i x od e1 e2).elim⟩
 ·unfold start startD
  rw[Wap,Wap,Wab,Wab,Wa7,Wa7,rs.length]
 ·unfold startD at e
  unfold start;by_cases hi:i<ds.length
  ·rw[Way (by simpa using hi),Waf]at e
   cases q:ds[i]? with
   |none=>rw[q]at e;cases e
   |some d'=>
    rw[q]at e;have e:Slot.val d'=Slot.val d:=by simpa using e
    cases e;obtain⟨v,h1,h2⟩:=rs.get q;refine⟨v,?_,h2⟩;rw[Way (by rw[Wab,rs.length];exact hi),Waf,h1];rfl
  ·rw[Waq (by simpa using hi),Wbg]at e
   split at e <;> cases e
theorem Zha {f:DSp}{t:TS}{N:List Str}{vs:List V}{H:Hp}{Q:VK}{E:XK}(ht:∀ds Post,f ds Post->ds.length<=N.length/\JS K t (startD N ds) ⟨λ_=>Post .non,λd _=>Post d,λ_=>False,λ_=>False,λ_ _=>False⟩) (h:spD K f vs H Q E) :
  t { nx:=λ_ H'=>Q .non H',rt:=Q } (start N vs) H:=by
 obtain⟨F,ds,Post,l,rs,hf,q⟩:=h;obtain⟨hl,hj⟩:=ht ds Post hf;have fin:∀{v:V}{d:D}{σ:St}{G H':Hp}{Δ:Evt},Ok K ⟨λ_=>False,F,H,λ_=>none⟩ G H' σ Δ -> Rep K G v d->Post d->Q v H':=λ{v d σ G H' Δ} k r p=>by
  refine q v H' d (λb o e=>k.same b o (λz=>z) e) (r.mono λb o e=>?_) p;obtain⟨e1,e2⟩:=k.frz b o e;rcases e2 with z|z
  ·rw[Zdp z];exact e1
  ·rw[Zct (l b o z)];exact z
 refine hj ⟨λ_=>False,F,H,λ_=>none⟩ F H (start N vs) _ (Zeg rs hl (λ_ _ _ e=>e) (λ_ z=>z.elim) (Same.refl _) (λb o e=>⟨l b o e,.inr e⟩) λ_=>rfl) ⟨λσ G H' Δ k p=>fin k .non p,λv d σ G H' Δ k r p=>fin k r p,λ_ _ _ _ _ z=>z.elim,λ_ _ _ _ _ z=>z.elim,λ_ _ _ _ _ _ _ _ z=>z.elim⟩
theorem Zla {f:NSp}{t:TS}{N:List Str}{vs:List V}{H:Hp}{Q:VK}{E:XK}(ht:∀ds Post,f ds Post->ds.length<=N.length/\JS K t (startD N ds) ⟨λ_=>False,λ_ _=>False,λ_=>False,λ_=>False,λod _=>∃ps,od=.lst ps/\Post ps⟩) (h:spN K f vs H Q E) :
  t { nx:=λ_ H'=>Q .non H',rt:=Q } (start N vs) H:=by
 obtain⟨F,ds,Post,l,rs,hf,q⟩:=h;obtain⟨hl,hj⟩:=ht ds Post hf;refine hj ⟨λ_=>False,F,H,λ_=>none⟩ F H (start N vs) _ (Zeg rs hl (λ_ _ _ e=>e) (λ_ z=>z.elim) (Same.refl _) (λb o e=>⟨l b o e,.inr e⟩) λ_=>rfl) ⟨λ_ _ _ _ _ z=>z.elim,λ_ _ _ _ _ _ _ _ z=>z.elim,λ_ _ _ _ _ z=>z.elim,λ_ _ _ _ _ z=>z.elim,λa od σ G H' Δ k pd ⟨ps,e,p⟩=>?_⟩;subst e;obtain⟨o,h1,h2,h3,h4,h5,h6⟩:=pd;cases o with
 |lst us=>
  refine q a H' us ps (λb o e=>k.same b o (λz=>z) e) h4 h1 (Reps.mono (λb o e=>?_) (show Reps K G us ps from h2)) p;have hb:b≠a:=by intro z;subst z;rw[h3]at e;cases e
  try dsimp only
  rw[if_neg hb];obtain⟨e1,e2⟩:=k.frz b o e;rcases e2 with z|z
  ·rw[Zdp z];exact e1
  ·rw[Zct (l b o z)];exact z
 |_=>exact absurd h2 (λz=>z)
theorem Zmr {f:BSp}{t:TS}{N:List Str}{vs:List V}{H:Hp}{Q:VK}{E:XK}(ht:∀ps ds Post,f ps ds Post->ds.length+1<=N.length/\JS K t (.bor (.lst ps)::startD N.tail ds) ⟨λΔ=>∃ps',Δ[0]?=some (.bor (.lst ps'))/\Post .non ps',λd Δ=>∃ps',Δ[0]?=some (.bor (.lst ps'))/\Post d ps',λ_=>False,λ_=>False,λ_ _=>False⟩) (h:spB K f vs H Q E) :
  t { nx:=λ_ H'=>Q .non H',rt:=Q } (start N vs) H:=by
 obtain⟨F,a,us,ws,ps,ds,Post,rfl,l,fa,ha,ru,rs,hf,q⟩:=h;obtain⟨hl,hj⟩:=ht ps ds Post hf;have fin:∀{v:V}{d:D}{σ:St}{G H':Hp}{Δ:Evt}{ps':List D},Ok K ⟨λb=>b=a,F,H,λ_=>none⟩ G H' σ Δ -> Δ[0]?=some (.bor (.lst ps'))->Rep K G v d->Post d ps' -> Q v H':=λ{v d σ G H' Δ ps'} k e0 r p=>by
  obtain⟨a',o,h1,h2,h3,h4,h5⟩:=k.own 0 _ _ e0 rfl;have ea:a'=a:=h5;subst ea;cases o with
  |lst us'=>
   have up:Same G (glue F H H'):=λb o e=>by
    obtain⟨e1,e2⟩:=k.frz b o e;rcases e2 with z|z
    ·rw[Zdp z];exact e1
    ·rw[Zct (l b o z)];exact z
   exact q v H' us' ps' d (λb o hb e=>k.same b o hb e) h2 (Reps.mono up (show Reps K G us' ps' from h3)) (r.mono up) p
  |_=>exact absurd h3 (λz=>z)
 cases N with
 |nil=>simp at hl
 |cons n0 N=>
  have hl':ds.length<=N.length:=by simpa using hl
  have k0:=Zeg (K:=K) (H:=H) (g:=⟨λb=>b=a,F,H,λ_=>none⟩) (N:=N) rs hl' (λ_ _ _ e=>e) (λb z=>by subst z;rw[ha];intro w;cases w) (Same.refl _) (λb o e=>⟨l b o e,.inr e⟩) λ_=>rfl;have e1:start (n0::N) (.ref a::ws)=some (.ref a)::start N ws:=by
   unfold start;rw[Wbf,Wam,Wam,Nat.add_sub_add_right];rfl
  rw[e1];have noOd:∀(i:Nat) x od,(startD N ds)[i]?=some x->x.od=some od->False:=λi x od e1 e2=>by
   have hm:=Wa2 e1;rcases Wbj.mp hm with z|z
   ·obtain⟨d,_,rfl⟩:=Wbm.mp z;cases e2
   ·rw[List.mem_replicate]at z;rw[z.2]at e2;cases e2
  have k1:Ok K ⟨λb=>b=a,F,H,λ_=>none⟩ F H (some (.ref a)::start N ws) (.bor (.lst ps)::startD N ds):=by
   refine⟨k0.same,k0.lent,k0.sub,k0.frz,λb o e=>(by cases e),(by rw[Wam,Wam,k0.len]),λi d e=>?_,λi x od e1 e2=>?_,λi j x y od od' c e1 e2 e3 e4 _ _=>?_⟩
   ·cases i with
    |zero=>cases e
    |succ i=>exact k0.val i d e
   ·cases i with
    |zero=>cases e1;cases e2;exact⟨a,.lst us,rfl,ha,ru,fa,rfl⟩
    |succ i=>exact(noOd i x od e1 e2).elim
   ·cases i with
    |zero=>cases j with
     |zero=>rfl
     |succ j=>exact(noOd j y od' e3 e4).elim
    |succ i=>exact(noOd i x od e1 e2).elim
  exact hj _ F H _ _ k1 ⟨λσ G H' Δ k ⟨ps',e,p⟩=>fin k e .non p,λv d σ G H' Δ k r ⟨ps',e,p⟩=>fin k e r p,λ_ _ _ _ _ z=>z.elim,λ_ _ _ _ _ z=>z.elim,λ_ _ _ _ _ _ _ _ z=>z.elim⟩
theorem Zc3 {f:DSp}{n:Nat}(h:∀ds Post,f ds Post->ds.length=n):∀vs H Q E,spD K f vs H Q E->vs.length=n:=λvs H Q E hq_=>by obtain⟨F,ds,Post,l,rs,hf,q⟩:=hq_;rw[rs.length];exact h ds Post hf
theorem Zew {f:NSp}{n:Nat}(h:∀ds Post,f ds Post->ds.length=n):∀vs H Q E,spN K f vs H Q E->vs.length=n:=λvs H Q E hq_=>by obtain⟨F,ds,Post,l,rs,hf,q⟩:=hq_;rw[rs.length];exact h ds Post hf
theorem Zgj {f:BSp}{n:Nat}(h:∀ps ds Post,f ps ds Post->ds.length+1=n):∀vs H Q E,spB K f vs H Q E->vs.length=n:=λvs H Q E hq_=>by obtain⟨F,a,us,ws,ps,ds,Post,e,l,fa,ha,ru,rs,hf,q⟩:=hq_;rw[e,Wam,rs.length];exact h ps ds Post hf
end
def JGn (K:W.Frag) (n:Nat) (t:TG) (d:D) (Δ:Evt) (P:Evt->Prop):Prop:=
 ∀g G H σ v (R:St->Hp->Prop),Ok K g G H σ Δ -> Rep K G v d->(∀σ' G' H' Δ',Ok K g G' H' σ' Δ' -> Same G G' -> (∀j,n<=j -> σ'[j]? = σ[j]?)->P Δ' -> R σ' H')->t v σ H R
section
variable {K:W.Frag}{Δ:Evt}
theorem Zig {n i:Nat}{d:D}{P:Evt->Prop}(hn:i<n) (hi:i < Δ.length) (p:P (Δ.set i (.val d))):JGn K n (gName i) d Δ P:=λg G H σ v R k r c=>
 c _ G H _ (k.setVal hi r) (Same.refl _) (λj hj=>Wal (by omega)) p
end
def compD (n:Nat) (sel:List Nat) (Δ:Evt):Evt:=Wae n .any++sel.map λi=>(Δ[i]?).getD .any
def backAt (n:Nat) (sel:List Nat) (Δi:Evt) (i:Nat) (x:Slot):Slot:=match x with
 |.val d=>.val d
 |.any=>.any
 |x=>match sel.idxOf? i with
  |none=>x
  |some j=>match Δi[n+j]? with
   |some (.own o)=>.own o
   |some (.bor o)=>.bor o
   |some (.ownA a o)=>.ownA a o
   |_=>.any
def backD (n:Nat) (sel:List Nat) (Δi:Evt):Nat->Evt->Evt
 |_,[]=>[]
 |i,x::r=>backAt n sel Δi i x::backD n sel Δi (i+1) r
theorem Zcl (n:Nat) (sel:List Nat) (Δi:Evt):∀(Δ:Evt) (k i:Nat),(backD n sel Δi k Δ)[i]?=(Δ[i]?).map (backAt n sel Δi (k+i))
 |[],k,i=>by simp[backD]
 |x::r,k,0=>by simp[backD]
 |x::r,k,i+1=>by
  have:=Zcl n sel Δi r (k+1) i;simp only[backD,List.getElem?_cons_succ];rw[this,show k+1+i=k+(i+1) by omega]
theorem Zg2 (n:Nat) (sel:List Nat) (Δi:Evt):∀(Δ:Evt) (k:Nat),(backD n sel Δi k Δ).length = Δ.length
 |[],k=>rfl
 |x::r,k=>by simp[backD,Zg2 n sel Δi r (k+1)]
theorem Zdv {sel:List Nat}{i j:Nat}(h:sel.idxOf? i=some j):sel[j]?=some i:=by
 have h2:=List.idxOf?_eq_some_iff.mp h;obtain⟨hj,e,_⟩:=h2;rw[Waa hj,e]
theorem Zjh {n:Nat}{sel:List Nat}{Δi:Evt}{i:Nat}{x y:Slot}{od:OD}(h:backAt n sel Δi i x=y) (ho:y.od=some od) :
  (x=y/\sel.idxOf? i=none)\/∃j,sel[j]?=some i /\ Δi[n+j]?=some y/\∃od',x.od=some od':=by
 unfold backAt at h;cases x with
 |any=>subst h;cases ho
 |val d=>subst h;cases ho
 |own o=>
  dsimp only at h;cases q:sel.idxOf? i with
  |none=>rw[q]at h;exact .inl ⟨h,rfl⟩
  |some j=>
   rw[q]at h;dsimp only at h;refine .inr ⟨j,Zdv q,?_,o,rfl⟩;cases e:Δi[n+j]? with
   |none=>rw[e]at h;subst h;cases ho
   |some z=>rw[e]at h;cases z <;> (subst h;first|rfl|cases ho)
 |ownA a o=>
  dsimp only at h;cases q:sel.idxOf? i with
  |none=>rw[q]at h;exact .inl ⟨h,rfl⟩
  |some j=>
   rw[q]at h;dsimp only at h;refine .inr ⟨j,Zdv q,?_,o,rfl⟩;cases e:Δi[n+j]? with
   |none=>rw[e]at h;subst h;cases ho
   |some z=>rw[e]at h;cases z <;> (subst h;first|rfl|cases ho)
 |bor o=>
  dsimp only at h;cases q:sel.idxOf? i with
  |none=>rw[q]at h;exact .inl ⟨h,rfl⟩
  |some j=>
   rw[q]at h;dsimp only at h;refine .inr ⟨j,Zdv q,?_,o,rfl⟩;cases e:Δi[n+j]? with
   |none=>rw[e]at h;subst h;cases ho
   |some z=>rw[e]at h;cases z <;> (subst h;first|rfl|cases ho)
section
variable {K:W.Frag}{Δ:Evt}
open Classical in
noncomputable def aside (g:Gm) (sel:List Nat) (σ:St) (Δ:Evt) (H:Hp) (acc:Addr) (ys:List V):Hp:=λb=>
 if b=acc then some (.lst ys) else if ∃(i:Nat) (x:Slot) (od:OD),Δ[i]?=some x/\x.od=some od/\i ∉ sel /\ σ[i]?=some (some (.ref b)) then H b else g.Xo b
theorem Zde {n:Nat}{sel:List Nat}{σ:St}{j i:Nat}(h:sel[j]?=some i):(compSt n sel σ)[n+j]?=some ((σ[i]?).getD none):=by
 unfold compSt;rw[Waq (by rw[Wa7];omega),Wa7,Nat.add_sub_cancel_left,Waf,h];rfl
theorem Zce {n:Nat}{sel:List Nat}{Δ:Evt}{k:Nat}{x:Slot}(h:(compD n sel Δ)[k]?=some x):x=.any\/∃j i,k=n+j/\sel[j]?=some i /\ Δ[i]?=some x:=by
 unfold compD at h;by_cases hk:k<n
 ·rw[Way (by simpa using hk),Wbg,if_pos hk]at h
  exact .inl (Wa5.inj h).symm
 ·rw[Waq (by simpa using hk),Wa7,Waf]at h
  cases e:sel[k-n]? with
  |none=>rw[e]at h;cases h
  |some i=>
   rw[e]at h;have h:(Δ[i]?).getD .any=x:=by simpa using h
   cases q:Δ[i]? with
   |none=>rw[q]at h;exact .inl h.symm
   |some y=>rw[q]at h;cases h;exact .inr ⟨k-n,i,by omega,e,q⟩
theorem Zfh {g:Gm}{G1 H1:Hp}{σ:St}{Δ1:Evt}{n:Nat}{sel:List Nat}{acc:Addr}{X0:Hp}(hsel:sel.Nodup) (k1:Ok K g G1 H1 σ Δ1) (hacc:H1 acc=none)
  (hX:∀b o,X0 b=some o->(b=acc/\o=.lst [])\/(b≠acc/\(((∃(i:Nat) (x:Slot) (od:OD),Δ1[i]?=some x/\x.od=some od/\i ∉ sel /\ σ[i]?=some (some (.ref b)))/\H1 b=some o)\/g.Xo b=some o))):Ok K ⟨g.B,G1,g.Hz,X0⟩ G1 (upd H1 acc (.lst [])) (compSt n sel σ) (compD n sel Δ1):=by
 have hsl:∀{j j' i:Nat},sel[j]?=some i->sel[j']?=some i->j=j':=λ{j j' i} a b=>by
  obtain⟨h1,e1⟩:=Wag.mp a;obtain⟨h2,e2⟩:=Wag.mp b;exact(Wdc hsel).mp (e1.trans e2.symm)
 have hGa:G1 acc=none:=by
  cases e:G1 acc with
  |none=>rfl
  |some u=>rw[k1.live _ _ e]at hacc;cases hacc
 have cs:∀{j i:Nat}{a:Addr},sel[j]?=some i->(compSt n sel σ)[n+j]?=some (some (.ref a)) -> σ[i]?=some (some (.ref a)):=λ{j i a} ej e3=>by
  rw[Zde ej]at e3;cases q:σ[i]? with
  |none=>rw[q]at e3;cases e3
  |some w=>rw[q]at e3;cases e3;rfl
 have oldH:∀b o,H1 b=some o->(upd H1 acc (.lst [])) b=some o:=λb o e=>by rw[Zau (Zbc e hacc)];exact e
 refine⟨λb o hb e=>oldH b o (k1.same b o hb e),λb hb z=>?_,Same.refl _,λb o e=>⟨oldH b o (k1.live b o e),.inr e⟩,λb o e=>?_,?_,λi d e=>?_,λi x od e1 e2=>?_,λi j x y od od' a e1 e2 e3 e4 e5 e6=>?_⟩
 ·cases q:H1 b with
  |none=>exact k1.lent b hb q
  |some u=>rw[oldH b u q]at z;cases z
 ·rcases hX b o e with ⟨rfl,rfl⟩|⟨hb,⟨⟨i0,x0,od0,f1,f2,f3,f4⟩,e⟩|e⟩
  ·refine⟨Zao,hGa,λi x od e1 e2 e3=>?_⟩
   rcases Zce e1 with z|⟨j,i',ei,ej,z⟩
   ·subst z;cases e2
   ·subst ei
    obtain⟨a,o,w1,w2,_⟩:=k1.own i' x od z e2;rw[cs ej e3]at w1;cases w1;rw[hacc]at w2;cases w2
  ·obtain⟨a,oo,w1,w2,w3,w4,w5⟩:=k1.own i0 x0 od0 f1 f2
   rw[f4]at w1;cases w1;refine⟨oldH b o e,w4,λi x od e1 e2 e3=>?_⟩;rcases Zce e1 with z|⟨j,i',ei,ej,z⟩
   ·subst z;cases e2
   ·subst ei
    have:=k1.dis i0 i' x0 x od0 od b f1 f2 z e2 f4 (cs ej e3);subst this;exact f3 (Wa2 ej)
  ·obtain⟨w1,w2,w3⟩:=k1.ext b o e
   refine⟨oldH b o w1,w2,λi x od e1 e2 e3=>?_⟩;rcases Zce e1 with z|⟨j,i',ei,ej,z⟩
   ·subst z;cases e2
   ·subst ei;exact w3 i' x od z e2 (cs ej e3)
 ·unfold compD compSt
  simp
 ·rcases Zce e with z|⟨j,i',ei,ej,z⟩
  ·cases z
  ·subst ei
   obtain⟨v,w1,w2⟩:=k1.val i' d z;exact⟨v,by rw[Zde ej,w1];rfl,w2⟩
 ·rcases Zce e1 with z|⟨j,i',ei,ej,z⟩
  ·subst z;cases e2
  ·subst ei
   obtain⟨a,o,w1,w2,w3,w4,w5⟩:=k1.own i' x od z e2;exact⟨a,o,by rw[Zde ej,w1];rfl,oldH a o w2,w3,w4,w5⟩
 ·rcases Zce e1 with z|⟨j1,i1,ei,ej,z⟩
  ·subst z;cases e2
  ·rcases Zce e3 with z'|⟨j2,i2,ei',ej',z'⟩
   ·subst z';cases e4
   ·subst ei;subst ei'
    have:=k1.dis i1 i2 x y od od' a z e2 z' e4 (cs ej e5) (cs ej' e6);subst this;rw[hsl ej ej']
theorem Zf5 {σ σ2:St}{Δ1 Δ2:Evt}{n:Nat}{sel:List Nat}(hσ:∀j,n<=j -> σ2[j]?=(compSt n sel σ)[j]?) (i:Nat) (y:Slot) (od:OD) (e1:(backD n sel Δ2 0 Δ1)[i]?=some y) (e2:y.od=some od) :
  ∃x od',Δ1[i]?=some x/\x.od=some od' /\ ((x=y/\i ∉ sel)\/∃j,sel[j]?=some i /\ Δ2[n+j]?=some y /\ σ2[n+j]?=some ((σ[i]?).getD none)):=by
 rw[Zcl]at e1;cases q:Δ1[i]? with
 |none=>rw[q]at e1;cases e1
 |some x=>
  rw[q]at e1;have e1:backAt n sel Δ2 i x=y:=by simpa using e1
  rcases Zjh e1 e2 with ⟨z1,z2⟩|⟨j,z1,z2,od',z3⟩
  ·refine⟨x,od,rfl,by rw[z1];exact e2,.inl ⟨z1,λhm=>?_⟩⟩
   rw[List.idxOf?_eq_none_iff]at z2;exact z2 hm
  ·exact⟨x,od',rfl,z3,.inr ⟨j,z1,z2,by rw[hσ (n+j) (by omega)];exact Zde z1⟩⟩
theorem Zeh {g:Gm}{G1 H1 G2 H2 Xv:Hp}{σ σ2:St}{Δ1 Δ2:Evt}{n:Nat}{sel:List Nat}{acc:Addr}(k1:Ok K g G1 H1 σ Δ1) (hacc:H1 acc=none) (k2:Ok K ⟨g.B,G1,g.Hz,Xv⟩ G2 H2 σ2 Δ2) (hσ:∀j,n<=j -> σ2[j]?=(compSt n sel σ)[j]?)
  (hX:∀b o,b≠acc->(∃(i:Nat) (x:Slot) (od:OD),Δ1[i]?=some x/\x.od=some od/\i ∉ sel /\ σ[i]?=some (some (.ref b)))->H1 b=some o->Xv b=some o) (hY:∀b o,b≠acc->¬ (∃(i:Nat) (x:Slot) (od:OD),Δ1[i]?=some x/\x.od=some od/\i ∉ sel /\ σ[i]?=some (some (.ref b)))->g.Xo b=some o->Xv b=some o):Ok K g G2 H2 σ (backD n sel Δ2 0 Δ1):=by
 have s2:Same G1 G2:=k2.sub;have src:=Zf5 (Δ1:=Δ1) (Δ2:=Δ2) hσ;refine⟨k2.same,k2.lent,k1.sub.trans s2,λb o e=>?_,λb o e=>?_,by rw[Zg2,k1.len],λi d e=>?_,λi y od e1 e2=>?_,λi j x y od od' a e1 e2 e3 e4 e5 e6=>?_⟩
 ·obtain⟨q1,q2⟩:=k2.frz b o e
  refine⟨q1,?_⟩;rcases q2 with z|z
  ·exact .inl z
  ·exact(k1.frz b o z).2
 ·obtain⟨w1,w2,w3⟩:=k1.ext b o e
  have hne:b≠acc:=by intro z;subst z;rw[hacc]at w1;cases w1
  obtain⟨u1,u2,u3⟩:=k2.ext b o (hY b o hne (λ⟨i,x,od,f1,f2,f3,f4⟩=>w3 i x od f1 f2 f4) e);refine⟨u1,u2,λi y od e1 e2 e3=>?_⟩;obtain⟨x,od',f1,f2,_⟩:=src i y od e1 e2;exact w3 i x od' f1 f2 e3
 ·rw[Zcl]at e
  cases q:Δ1[i]? with
  |none=>rw[q]at e;cases e
  |some x=>
   rw[q]at e;have e:backAt n sel Δ2 (0+i) x=.val d:=by simpa using e
   have ex:x=.val d:=by
    unfold backAt at e;cases x with
    |any=>cases e
    |val d'=>exact e
    |own o=>dsimp only at e;split at e <;> first|cases e|(split at e <;> cases e)
    |bor o=>dsimp only at e;split at e <;> first|cases e|(split at e <;> cases e)
    |ownA a o=>dsimp only at e;split at e <;> first|cases e|(split at e <;> cases e)
   subst ex;obtain⟨v,w1,w2⟩:=k1.val i d q;exact⟨v,w1,w2.mono s2⟩
 ·obtain⟨x,od',f1,f2,f3⟩:=src i y od e1 e2
  rcases f3 with ⟨f3,f4⟩|⟨j,f3,f4,f5⟩
  ·subst f3
   obtain⟨a,o,w1,w2,w3,w4,w5⟩:=k1.own i x od f1 e2;have hne:a≠acc:=by intro z;subst z;rw[hacc]at w2;cases w2
   obtain⟨u1,u2,u3⟩:=k2.ext a o (hX a o hne ⟨i,x,od,f1,e2,f4,w1⟩ w2);exact⟨a,o,w1,u1,w3.mono s2,u2,w5⟩
  ·obtain⟨a,o,w1,w2,w3,w4,w5⟩:=k2.own (n+j) y od f4 e2
   obtain⟨a0,o0,v1,_⟩:=k1.own i x od' f1 f2;rw[f5,v1]at w1;have ea:a0=a:=by cases w1;rfl
   subst ea;exact⟨a0,o,v1,w2,w3,w4,w5⟩
 ·obtain⟨x',od1,f1,f2,_⟩:=src i x od e1 e2
  obtain⟨y',od2,f3,f4,_⟩:=src j y od' e3 e4;exact k1.dis i j x' y' od1 od2 a f1 f2 f3 f4 e5 e6
theorem Ok.base {g:Gm}{G1 F X G5 H5:Hp}{σ5:St}{Δ5:Evt}(sF:Same G1 F) (hF:∀b o,F b=some o->(g.Hz b=none\/G1 b=some o)) (k5:Ok K ⟨g.B,F,g.Hz,X⟩ G5 H5 σ5 Δ5):Ok K ⟨g.B,G1,g.Hz,X⟩ G5 H5 σ5 Δ5:=
 ⟨k5.same,k5.lent,sF.trans k5.sub,λb o q=>by
  obtain⟨q1,q2⟩:=k5.frz b o q;refine⟨q1,?_⟩;rcases q2 with z|z
  ·exact .inl z
  ·exact hF b o z,k5.ext,k5.len,k5.val,k5.own,k5.dis⟩
theorem Zlo {n:Nat}{sel:List Nat}{wi:TI}{t:TG}{tc:TT}{te:TE}{P:OD->Evt->Prop}(hsel:sel.Nodup)
  (h:JI K wi Δ λds Δ1=>ds.length<sizeLine/\∃I:Nat->List D->Evt->Prop,I 0 [] (compD n sel Δ1) ∧
   (∀i d ys Δ2,ds[i]?=some d->I i ys Δ2->JGn K n t d Δ2 λΔ3=>JT K tc Δ3 λb Δ4=>if b=true then JE K te Δ4 λe Δ5=>I (i+1) (ys++[e]) Δ5 else I (i+1) ys Δ4) ∧
   ∀ys Δ2,I ds.length ys Δ2->P (.lst ys) (backD n sel Δ2 0 Δ1)):JO K (tComp n sel wi t tc te) Δ P:=λg G H σ Q k c=>
 h g G H σ _ k λJ ds G1 H1 Δ1 k1 s1 it ⟨hz,I,h0,ht,he⟩ acc hacc=>by
  have nacc:∀(i:Nat) x od,Δ1[i]?=some x->x.od=some od -> σ[i]?≠some (some (.ref acc)):=λi x od e1 e2 e3=>by
   obtain⟨a,o,w1,w2,_⟩:=k1.own i x od e1 e2;rw[e3]at w1;cases w1;rw[hacc]at w2;cases w2
  -- the word at each turn
  let Wd:Nat->St->Hp->Prop:=λi σ' H'=>i<=ds.length/\(∀j,n<=j -> σ'[j]?=(compSt n sel σ)[j]?)/\∃G ys vs Δi,ys.length<=i/\Reps K G vs ys/\Ok K ⟨g.B,G1,g.Hz,aside g sel σ Δ1 H1 acc vs⟩ G H' σ' Δi/\I i ys Δi
  refine⟨λi m σ' H'=>m=ds.length-i/\Wd i σ' H',⟨ds.length,by simp,Wb8 _,λ_ _=>rfl,G1,[],[],compD n sel Δ1,Waj _,.nil,?_,h0⟩,?_⟩
  ·refine Zfh hsel k1 hacc λb o e=>?_
   have e:aside g sel σ Δ1 H1 acc [] b=some o:=e;unfold aside at e;by_cases hb:b=acc
   ·rw[if_pos hb]at e;cases e;exact .inl ⟨hb,rfl⟩
   ·rw[if_neg hb]at e
    split at e
    case isTrue hx=>exact .inr ⟨hb,.inl ⟨hx,e⟩⟩
    case isFalse hx=>exact .inr ⟨hb,.inr e⟩
  ·rintro i m σ2 H2 ⟨rfl,hi,hσ,G2,ys,vs,Δ2,hy,ry,k2,h2⟩
   have s2:Same G1 G2:=k2.sub;obtain⟨stop,go⟩:=it G2 H2 s2 k2.live;have hacc2:∀{G' H':Hp}{σ':St}{Δ':Evt}{vs:List V}{F:Hp},Ok K ⟨g.B,F,g.Hz,aside g sel σ Δ1 H1 acc vs⟩ G' H' σ' Δ' -> H' acc=some (.lst vs)/\G' acc=none/\∀(i:Nat) x od,Δ'[i]?=some x->x.od=some od -> σ'[i]?≠some (some (.ref acc)):=λ{G' H' σ' Δ' vs F} kk=>
    kk.ext acc (.lst vs) (by show aside g sel σ Δ1 H1 acc vs acc=_;unfold aside;rw[if_pos rfl])
   by_cases hlt:i<ds.length
   ·obtain⟨g1,g2⟩:=go i _ (Waa hlt)
    refine .inr ⟨g1,λσ' H'=>Wd (i+1) σ' H',λσ' H' p'=>⟨ds.length-(i+1),by omega,rfl,p'⟩,λx H3 y=>?_⟩;obtain⟨G3,a1,a2,a3,a4⟩:=g2 x H3 y;have k3:=k2.grow a1 a2 a3;have hG3:∀b o,G3 b=some o->(g.Hz b=none\/G1 b=some o):=λb o q=>(k3.frz b o q).2;have k3':Ok K ⟨g.B,G3,g.Hz,aside g sel σ Δ1 H1 acc vs⟩ G3 H3 σ2 Δ2:=⟨k3.same,k3.lent,Same.refl _,λb o q=>⟨(k3.frz b o q).1,.inr q⟩,k3.ext,k3.len,k3.val,k3.own,k3.dis⟩;have ry3:Reps K G3 vs ys:=ry.mono a1;have s13:Same G1 G3:=s2.trans a1;refine ht i _ ys Δ2 (Waa hlt) h2 ⟨g.B,G3,g.Hz,aside g sel σ Δ1 H1 acc vs⟩ G3 H3 σ2 x _ k3' a4 λσ4 G4 H4 Δ4 k4 s4 e4 p4=>?_;have hσ4:∀j,n<=j -> σ4[j]?=(compSt n sel σ)[j]?:=λj hj=>(e4 j hj).trans (hσ j hj);refine p4 _ G4 H4 σ4 _ k4 λb G5 H5 Δ5 k5 s5 p5=>?_;cases b with
    |false=>exact⟨hlt,hσ4,G5,ys,vs,Δ5,by omega,ry3.mono (s4.trans s5),k5.base s13 hG3,p5⟩
    |true=>
     refine(show JE K te Δ5 _ from p5) _ G5 H5 σ4 _ k5 λv d G6 H6 Δ6 k6 s6 r6 p6=>?_;have ry6:Reps K G6 vs ys:=ry3.mono (s4.trans (s5.trans s6));obtain⟨b1,b2,b3⟩:=hacc2 k6;refine⟨vs,b1,by rw[ry6.length];omega,hlt,hσ4,G6,ys++[d],vs++[v],Δ6,by rw[Wap,Wbz];omega,ry6.append (.cons r6 .nil),?_,p6⟩;have k7:=k6.base s13 hG3;have oldH:∀b o,b≠acc->H6 b=some o->(upd H6 acc (.lst (vs++[v]))) b=some o:=λb o hb e=>by rw[Zau hb];exact e
     have aNe:∀b o,b≠acc->aside g sel σ Δ1 H1 acc (vs++[v]) b=some o->aside g sel σ Δ1 H1 acc vs b=some o:=λb o hb e=>by
      unfold aside at e ⊢;rw[if_neg hb]at e ⊢;exact e
     refine⟨λb o hb e=>?_,λb hb=>?_,k7.sub,λb o e=>?_,λb o e=>?_,k7.len,k7.val,λi x od e1 e2=>?_,k7.dis⟩
     ·have hne:b≠acc:=by
       intro z;subst z;have e:g.Hz b=some o:=e;rw[k1.there hacc]at e;cases e
      exact oldH b o hne (k7.same b o hb e)
     ·by_cases hne:b=acc
      ·subst hne;rw[Zao];intro z;cases z
      ·rw[Zau hne];exact k7.lent b hb
     ·have hne:b≠acc:=by intro z;subst z;rw[b2]at e;cases e
      exact⟨oldH b o hne (k7.frz b o e).1,(k7.frz b o e).2⟩
     ·by_cases hne:b=acc
      ·subst hne
       have e:aside g sel σ Δ1 H1 b (vs++[v]) b=some o:=e;unfold aside at e;rw[if_pos rfl]at e;cases e;exact⟨Zao,b2,b3⟩
      ·obtain⟨w1,w2,w3⟩:=k7.ext b o (aNe b o hne e)
       exact⟨oldH b o hne w1,w2,w3⟩
     ·obtain⟨a,o,w1,w2,w3,w4,w5⟩:=k7.own i x od e1 e2
      have hne:a≠acc:=by intro z;subst z;exact b3 i x od e1 e2 w1
      exact⟨a,o,w1,oldH a o hne w2,w3,w4,w5⟩
   ·have e:i=ds.length:=by omega
    subst e;refine .inl ⟨stop,?_⟩;obtain⟨b1,b2,b3⟩:=hacc2 k2;have src:=Zf5 (Δ1:=Δ1) (Δ2:=Δ2) hσ;have k9:Ok K g G2 H2 σ (backD n sel Δ2 0 Δ1):=Zeh k1 hacc k2 hσ (λb o hb hx e=>by show aside g sel σ Δ1 H1 acc vs b=_;unfold aside;rw[if_neg hb,if_pos hx];exact e) (λb o hb hx e=>by show aside g sel σ Δ1 H1 acc vs b=_;unfold aside;rw[if_neg hb,if_neg hx];exact e);refine c acc _ G2 H2 _ k9 (s1.trans s2) ⟨.lst vs,b1,(show OwnRep K G2 (.lst vs) (.lst ys) from ry),b2,k1.there hacc,?_,λi y od e1 e2 e3=>?_⟩ (he ys Δ2 h2)
    ·cases q:g.Xo acc with
     |none=>rfl
     |some u=>have z:=(k1.ext acc u q).1;rw[hacc]at z;cases z
    ·obtain⟨x',od1,f1,f2,_⟩:=src i y od e1 e2
     exact nacc i x' od1 f1 f2 e3
theorem Zhx {n:Nat}{sel:List Nat}{wi:TI}{t:TG}{tc:TT}{te:TE}{P:D->Evt->Prop}(hsel:sel.Nodup)
  (h:JI K wi Δ λds Δ1=>ds.length<sizeLine/\∃I:Nat->List D->Evt->Prop,I 0 [] (compD n sel Δ1) ∧
   (∀i d ys Δ2,ds[i]?=some d->I i ys Δ2->JGn K n t d Δ2 λΔ3=>JT K tc Δ3 λb Δ4=>if b=true then JE K te Δ4 λe Δ5=>I (i+1) (ys++[e]) Δ5 else I (i+1) ys Δ4) ∧
   ∀ys Δ2,I ds.length ys Δ2->P (.lst ys) (backD n sel Δ2 0 Δ1)):JE K (tComp n sel wi t tc te) Δ P:=
 Zbe (Zlo hsel λg G H σ R k c=>h g G H σ R k λJ ds G' H' Δ' k' s' it ⟨z,I,h0,ht,he⟩=>c J ds G' H' Δ' k' s' it ⟨z,I,h0,ht,λys Δ2 q=>⟨ys,rfl,he ys Δ2 q⟩⟩)
theorem Zm6 {n:Nat}{sel:List Nat}{wi:TI}{t:TG}{tc:TT}{te:TE}{P:D->Evt->Prop}(hsel:sel.Nodup)
  (h:JI K wi Δ λds Δ1=>ds.length<sizeLine/\∃(fix:Evt) (p:D->Bool) (f:D->D),compD n sel Δ1=Wae n .any++fix ∧
   (∀(i:Nat) d (ts:Evt),ds[i]?=some d->ts.length=n->JGn K n t d (ts++fix) λΔ3=>JT K tc Δ3 λb Δ4=>b=p d/\if b=true then JE K te Δ4 λe Δ5=>e=f d/\∃ts',ts'.length=n /\ Δ5=ts'++fix else ∃ts',ts'.length=n /\ Δ4=ts'++fix) ∧
   P (.lst ((ds.filter p).map f)) (backD n sel (Wae n .any++fix) 0 Δ1)):JE K (tComp n sel wi t tc te) Δ P:=by
 refine Zhx hsel λg G H σ R k c=>h g G H σ R k λJ ds G' H' Δ' k' s' it ⟨z,fix,p,f,e0,ht,he⟩=>c J ds G' H' Δ' k' s' it ⟨z,λi ys Δ=>ys=((ds.take i).filter p).map f/\∃ts:Evt,ts.length=n /\ Δ = ts++fix,?_,?_,?_⟩
 ·exact⟨by simp,_,by simp,e0⟩
 ·rintro i d ys Δ2 hd ⟨rfl,ts,hts,rfl⟩
  have tk:ds.take (i+1)=ds.take i++[d]:=by
   rw[Wck,hd];rfl
  intro g G H σ v R k r c;refine ht i d ts hd hts g G H σ v R k r λσ' G' H' Δ' k' s' e' q=>c σ' G' H' Δ' k' s' e' λg G H σ Q k c=>q g G H σ Q k λb G' H' Δ' k' s' ⟨eb,q⟩=>c b G' H' Δ' k' s' ?_;cases b with
  |true=>
   rw[if_pos rfl]at q ⊢;refine q.mono λe Δ5 ⟨e1,ts',h1,h2⟩=>⟨?_,ts',h1,h2⟩;rw[tk,Wbr,Wa6,Wbn,<- eb,e1];rfl
  |false=>
   rw[if_neg Wat]at q ⊢;obtain⟨ts',h1,h2⟩:=q;refine⟨?_,ts',h1,h2⟩;rw[tk,Wbr,Wa6,Wbn,<- eb];simp
 ·rintro ys Δ2 ⟨rfl,ts,hts,rfl⟩
  rw[Wbt];have e:backD n sel (ts++fix) 0 Δ'=backD n sel (Wae n .any++fix) 0 Δ':=by
   apply Wbw;intro i;rw[Zcl,Zcl];congr 1
   funext x
   unfold backAt;have e2:∀j,(ts++fix)[n+j]?=(Wae n Slot.any++fix)[n+j]?:=λj=>by
    rw[Waq (by omega),Waq (by simp),hts,Wa7]
   simp only[e2]
  rw[e];exact he
end
end L2
set_option Elab.async false
set_option linter.all false
set_option maxRecDepth 100000
namespace HT
open PySem PyProof.Rows
section
variable {prog:Program}{w:World}{A:Around}{E:Value->Shared->Prop}{s:Shared}
theorem getItem_tuple_whole {t sl:Addr}{items:Array Value}{vl vu:Value}{lo hi:Option Int}{Q:Value->Shared->Prop}(ht:IsTup s.heap t items) (hs:s.heap.IsSliceOf sl vl vu .none) (pl:IsPart vl lo) (pu:IsPart vu hi)
  (hw:sIx items.size 0 lo=0/\sIx items.size items.size hi=items.size) (h:Q (.ref t) s):wpAny (model prog w) A (getItem (.ref t) (.ref sl)) Q E s:=by
 obtain⟨os,hos,hcs,hds⟩:=id hs;have hTs:s.TypeIs (.ref sl) "slice":=⟨os,hos,hcs⟩;unfold getItem
 try with_reducible refine wpAny_holding ?_
 first|refine wpAny_bind (wpAny_pure ?_)|skip
 refine wpAny_bind (wpAny_sequenceKey ht.typeIs (by decide) ?_);refine wpAny_bind (wpAny_callSpecial?_slot (name:=Str.ofString "__getitem__") ht.typeIs PyProof.Rows.slot_tuple_getitem
  (wpAny_call_entry PyProof.Rows.slot_tuple_getitem ht.typeIs entry_tuple_getitem ?_ (args_tuple_getitem _ _)))
 show wpAny _ _ (Builtin.Tuple.tupleItemsOf (.ref t) >>= _) _ _ s;refine wpAny_bind (tupleItemsOf_ ht ?_);refine wpAny_bind (wpAny_typeOf hTs ?_);rw[if_pos (by decide)];refine wpAny_bind (Zcv hs pl pu ?_);have hyes:(((sIx items.size 0 lo:Nat):Int) == 0 && (1:Int) == 1 && (sIx items.size items.size hi-sIx items.size 0 lo) == items.size)=true:=by
  rw[hw.1,hw.2];simp
 show wpAny _ _ (if (((sIx items.size 0 lo:Nat):Int) == 0 && (1:Int) == 1 && (sIx items.size items.size hi-sIx items.size 0 lo) == items.size)=true then _ else _) _ _ s;rw[if_pos hyes]
 first
  |exact wpAny_pure ⟨_,rfl,wpAny_pure h⟩
  |exact wpAny_pure ⟨_,rfl,h⟩
  |exact wpAny_bind (wpAny_pure (wpAny_pure ⟨_,rfl,wpAny_pure h⟩))
  | (refine wpAny_bind (wpAny_bind (wpAny_typeOf ht.typeIs (wpAny_pure ?_)))
     rw[if_pos (by decide)];exact wpAny_bind (wpAny_rule (wpAny_pure ⟨_,rfl,wpAny_pure h⟩)))
theorem tuple_index {t:Addr}{items:Array Value}{x:Value}{e:Value->Bool}{j:Nat}{Q:Value->Shared->Prop}(ht:IsTup s.heap t items) (he:∀y∈items,PySem.SeqAt.EqAt A.in1 s y x (e y)) (hj:j<items.size)
  (hit:e items[j]=true) (hno:∀m (hm:m<items.size),m<j->e items[m]=false) (h:Q (.int j s.toks) { s with toks:=s.toks+1 }) :
  wpAny (model prog w) A (call (.builtin "tuple.index") [.ref t,x]) Q E s:=by
 refine wpAny_call_entry PySem.F.slot_tuple_index ht.typeIs PySem.F.entry_tuple_index ?_ (PySem.F.args_tuple_index_2 _ _);show wpAny _ _ (Builtin.Tuple.tupleItemsOf (.ref t) >>= _) _ _ s;refine wpAny_bind (tupleItemsOf_ ht ?_);refine wpAny_bind (wpAny_pure (wpAny_bind (wpAny_pure (wpAny_bind ?_))));rw[Nat.min_self];simp only[Std.Legacy.Range.forIn_eq_forIn_range',Std.Legacy.Range.size,Nat.sub_zero,Nat.add_sub_cancel,Nat.div_one];refine wpAny_mono (Q:=λb s'=>s' = { s with toks:=s.toks+1 } /\ b.1=some (Fin.done (.ret (.int j s.toks)))) ?_ (λb s' hb=>?_) λ_ _ z=>z;refine wpAny_forIn_list _ (λl b s'=>s'=s/\∃i,l=List.range' i (items.size-i)/\i<=j) _ ?_ ?_ _ _ ⟨rfl,0,rfl,Wb8 _⟩
 ·rintro i rest b s' ⟨rfl,k,hl,hk⟩
  have hk2:items.size-k=(items.size-k-1)+1:=by omega
  rw[hk2,List.range'_succ]at hl;injection hl with hl1 hl2
  subst hl1;have hi:i<items.size:=by omega
  rw[Array.getElem?_eq_getElem hi];refine wpAny_bind (he _ (Array.getElem_mem hi) prog w _ _ ?_);by_cases hij:i=j
  ·subst hij
   rw[hit,if_pos rfl];exact wpAny_bind (wpAny_bind (wpAny_mkInt (wpAny_pure (wpAny_pure ⟨rfl,rfl⟩))))
  ·rw[hno i hi (by omega),if_neg Wat]
   exact wpAny_pure ⟨rfl,i+1,by rw[hl2,show items.size-i-1=items.size-(i+1) by omega],by omega⟩
 ·rintro b s' ⟨rfl,k,hl,hk⟩
  have:=congrArg Wa3 hl;simp at this;omega
 ·obtain⟨rfl,e1⟩:=hb
  obtain⟨b1,b2⟩:=b;dsimp only at e1;subst e1;exact wpAny_pure ⟨_,rfl,h⟩
end
end HT
namespace L2
open PySem PySem.Spec PyProof.Rows
section
variable {X:Cx}
def rSlT' (K:W.Frag):V->Option Int->Option Int->Hp->VK->Prop:=λx lo hi H Q=>∃a xs,x=.ref a/\SqT K H a xs ∧
 ((HT.sIx xs.length 0 lo=0/\HT.sIx xs.length xs.length hi=xs.length)->Q (.ref a) H) ∧
 (¬ (HT.sIx xs.length 0 lo=0/\HT.sIx xs.length xs.length hi=xs.length)->∀p,H p=none->Q (.ref p) (upd H p (.tup (cutV xs lo hi))))
theorem Zn3:SlR X (rSlT' X.K):=by
 intro pins s σ H x v vl vu lo hi sl Q I rx hs pl pu h;obtain⟨a,xs,rfl,hx,q1,q2⟩:=h;by_cases hw:HT.sIx xs.length 0 lo=0/\HT.sIx xs.length xs.length hi=xs.length
 ·cases rx
  obtain⟨its,r,ht,hz⟩:=I.tuple hx;have hlen:its.toArray.size=xs.length:=by rw[Wah];exact r.length.symm
  exact⟨"tuple",_,PyProof.Rows.slot_tuple_getitem.lookup,ht.typeIs,HT.getItem_tuple_whole ht hs pl pu (by rw[hlen];exact hw) ⟨.ref a,H,I,rfl,q1 hw⟩⟩
 ·exact Zrb pins s σ H (.ref a) v vl vu lo hi sl Q I rx hs pl pu ⟨a,xs,rfl,hx,hw,q2 hw⟩
def rSlU (K:W.Frag):V->Option Int->Option Int->Hp->VK->Prop:=λx lo hi H Q=>rSlL K x lo hi H Q\/rSlT' K x lo hi H Q
theorem slU:SlR X (rSlU X.K):=Zon.or Zn3
def tSlR (K:W.Frag) (te:TE):TE:=λσ H Q=>te σ H λx H1=>∃a xs,x=.ref a/\SqT K H1 a xs/\∀p,H1 p=none->Q (.ref p) (upd H1 p (.tup xs.reverse))
def rCatT' (K:W.Frag):R2:=λx y H Q=>∃a b xs ys,x=.ref a/\y=.ref b/\SqT K H a xs/\SqT K H b ys/\xs.length+ys.length<=sizeLine ∧
 (xs=[]->Q (.ref b) H)/\(xs≠[]->ys=[]->Q (.ref a) H)/\(xs≠[]->ys≠[]->∀p,H p=none->Q (.ref p) (upd H p (.tup (xs++ys))))
theorem Zmj:OpR X (binaryOp .Add) (rCatT' X.K):=by
 intro pins s σ H x y v u Q I rx ry h;obtain⟨a,b,xs,ys,rfl,rfl,ha,hb,hz,q0,q1,q2⟩:=h;by_cases hx:xs=[]
 ·cases rx
  cases ry;obtain⟨its,r1,p1,_⟩:=I.tuple ha;obtain⟨its2,r2,p2,_⟩:=I.tuple hb;obtain⟨⟨cls,dd,data,sl⟩,ho,hc,n,hd⟩:=id p1;obtain⟨⟨cls2,dd2,data2,sl2⟩,ho2,hc2,n2,hd2⟩:=id p2;simp only at hc hd hc2 hd2;subst hc hd hc2 hd2;exact concat_meets ⟨_,ho,rfl⟩ ⟨_,ho2,rfl⟩ noFill_tuple_add seq_tuple_add PySem.F.slot_tuple_add PySem.F.entry_tuple_add (PySem.F.args_tuple_add_2 _ _)
   (tuple_addW0 a b its.toArray its2.toArray n n2 dd dd2 sl sl2 (by simp[r1.nil_iff.mpr hx])) ⟨ho,ho2,⟨.ref b,H,I,rfl,q0 hx⟩⟩
 ·exact Zom pins s σ H (.ref a) (.ref b) v u Q I rx ry ⟨a,b,xs,ys,rfl,rfl,ha,hb,hx,hz,q1 hx,q2 hx⟩
def rAddU (K:W.Frag):R2:=λx y H Q=>rI0 (λi j=>.int (i+j)) x y H Q\/(rCatT' K x y H Q\/rCat x y H Q)
theorem Zok:OpR X (binaryOp .Add) (rAddU X.K):=Zpr.or (Zmj.or Zp0)
theorem Zb3:OpR X (compareOp .Eq) rEq:=Zru
def rIxD:R2:=λx y H Q=>∃a v,x=.ref a/\DGet H a y (some v)/\Q v H
theorem Zn7 (hu:X.A.units+1<cLine):IxR X rIxD:=by
 intro value slice pins s σ H x y v u Q I rx ry h hs;obtain⟨a,w',rfl,g,q⟩:=h;cases rx;exact tail_any (Zhi I g) PySem.F.slot_dict_getitem.lookup (Zj8 hu I g ry λw2 s3 I3 rw'=>⟨w',H,I3,rw',q⟩) hs
def rIxU (K:W.Frag):R2:=λx y H Q=>rIx K x y H Q\/rIxD x y H Q
theorem ixU (hu:X.A.units+1<cLine):IxR X (rIxU X.K):=Zp4.or (Zn7 hu)
def rSetD:V->V->V->Hp->(Hp->Prop)->Prop:=λo i v H Q=>∃a H',o=.ref a/\DPut H a i v H' /\ Q H'
theorem Zl0 (hu:X.A.units+1<cLine):PSet X rSetD:=by
 intro pins s σ H o i v ov iv u Q I ro ri rv h;obtain⟨a,H',rfl,g,q⟩:=h;cases ro;exact Zj7 hu I g ri rv λs' I'=>⟨H',I',q⟩
theorem PSet.or {t t':TSet}(h:PSet X t) (h':PSet X t'):PSet X (λo i v H Q=>t o i v H Q\/t' o i v H Q):=by
 intro pins s σ H o i v ov iv u Q I ro ri rv q;rcases q with q|q
 ·exact h pins s σ H o i v ov iv u Q I ro ri rv q
 ·exact h' pins s σ H o i v ov iv u Q I ro ri rv q
def rSetU:V->V->V->Hp->(Hp->Prop)->Prop:=λo i v H Q=>rSetL o i v H Q\/rSetD o i v H Q
theorem setU (hu:X.A.units+1<cLine):PSet X rSetU:=Zmq.or (Zl0 hu)
def rLenU (K:W.Frag):List V->Hp->VK->Prop:=λxs H Q=>(∃p ys,xs=[.ref p]/\(SqL K H p ys\/SqT K H p ys)/\Q (.int ys.length) H)\/∃a kvs,xs=[V.ref a]/\H a=some (.dK kvs)/\Q (.int kvs.length) H
theorem Zlh:CallR X (.builtin "len") (rLenU X.K):=Zg5.or Zji
def insI (n:Nat) (i:Int):Nat:=if i<0 then (i+(n:Int)).toNat else min i.toNat n
def rInsert:V->List V->Hp->VK->Prop:=λx vs H Q=>∃l xs i y,x=.ref l/\vs=[.int i,y]/\H l=some (.lst xs)/\xs.length<sizeLine /\ -(2 ^ 62)<=i/\i<2 ^ 62/\Q .non (upd H l (.lst (xs.take (insI xs.length i)++y::xs.drop (insI xs.length i))))
theorem Zg7:MtM X "list.insert" rInsert:=by
 intro pins s σ H x vs v us Q I rx rv h;obtain⟨l,xs,i,y,rfl,rfl,hH,hz,h1,h2,q⟩:=h;cases rx;obtain⟨ui,uy,rfl,⟨t,rfl⟩,ry⟩:=rv.two;obtain⟨z,its,n,r,hl,e⟩:=I.lstM hH;refine call_meets F.slot_list_insert ⟨_,e,rfl⟩ F.entry_list_insert (F.args_list_insert_3 _ _ _) (PySem.AutoSeq1.list_insert_list_int_val_1 l its.toArray n i t uy (by
  have hf:Builtin.List.listFitsIndex i=true:=by
   unfold Builtin.List.listFitsIndex;rw[decide_eq_true (by omega),decide_eq_true (by omega)];rfl
  rw[hf];decide) (by rw[Wah];omega)) ⟨e,?_⟩
 refine⟨.non,_,I.lset (its':=its.take (insI xs.length i)++uy::its.drop (insI xs.length i)) hH e ?_ ((r.take _).append (.cons ry (r.drop _))) ?_,rfl,q⟩
 ·have e1:(if i<0 then (i+(its.toArray.size:Int)).toNat else min i.toNat its.toArray.size)=insI xs.length i:=by
   unfold insI;rw[Wah,hl]
  dsimp only;rw[e1];apply Array.ext';simp;rw[Wcx (by rw[Wcc];exact Waj _)]
 ·rw[Wap,Wam,Wa4,Wcc]
  omega
def rIndexT (K:W.Frag):V->List V->Hp->VK->Prop:=λx vs H Q=>∃a xs y j,x=.ref a/\vs=[y]/\SqT K H a xs/\flatV y=true/\xs.all flatV=true/\j<xs.length ∧
 (∃z,xs[j]?=some z/\eqV z y=true)/\(∀m z,m<j->xs[m]?=some z->eqV z y=false)/\Q (.int j) H
theorem Zez:MtM X "tuple.index" (rIndexT X.K):=by
 intro pins s σ H x vs v us Q I rx rv h;obtain⟨a,xs,y,j,rfl,rfl,hx,fy,fx,hj,⟨z,hz1,hz2⟩,hno,q⟩:=h;cases rx;obtain⟨u,rfl,ru⟩:=rv.one;obtain⟨its,r,ht,hz⟩:=I.tuple hx;have hl:its.length=xs.length:=r.length.symm;have key:∀w∈its.toArray,SeqAt.EqAt X.A.in1 s w u (eqU y w):=λw hw=>by
  have hw:w∈its:=by simpa using hw
  obtain⟨k,hk,e⟩:=List.mem_iff_getElem.mp hw;have hk':k<xs.length:=by omega
  obtain⟨w',hw',rw'⟩:=r.get (Waa hk');have ew:w'=w:=by
   rw[Waa hk]at hw';exact(Wa5.inj hw').symm.trans e
  subst ew;have fk:flatV xs[k]=true:=Wbu.mp fx _ (Wba hk');rw[Zip rw' fk];exact Znh rw' ru fk fy
 have at_:∀(k:Nat) (hk:k<its.toArray.size) (z:V),xs[k]?=some z->eqU y its.toArray[k]=eqV z y:=λk hk z e=>by
  obtain⟨w',hw',rw'⟩:=r.get e;have hk2:k<its.length:=by simpa using hk
  rw[Waa hk2]at hw';have ew:its.toArray[k]=w':=by simpa using Wa5.inj hw'
  rw[ew];exact Zip rw' (Wbu.mp fx _ (Wa2 e))
 have hj':j<its.toArray.size:=by simpa [hl] using hj
 refine HT.tuple_index ht key hj' (by rw[at_ j hj' z hz1];exact hz2) (λm hm hmj=>?_) ⟨.int j,H,I.tok _,⟨_,rfl⟩,q⟩;have hm2:m<xs.length:=by simpa [hl] using hm
 rw[at_ m hm _ (Waa hm2)];exact hno m _ hmj (Waa hm2)
end
end L2
namespace L2
open PySem PySem.Spec PyProof.Rows
section
variable {X:Cx}
theorem PI.or {tg iter:Expr}{w w':TI}(h:PI X tg iter w) (h':PI X tg iter w'):PI X tg iter (λσ H R=>w σ H R\/w' σ H R):=by
 intro pins s σ H R I q;rcases q with q|q
 ·exact h pins s σ H R I q
 ·exact h' pins s σ H R I q
def iSeq (K:W.Frag) (tl:TE):TI:=λσ H R=>iList K tl σ H R\/iTup K tl σ H R
theorem Zqt {tg l:Expr}{tl:TE}(hl:PE X l tl):PI X tg l (iSeq X.K tl):=(Znt hl).or (Zpi hl)
def tTru (K:W.Frag) (ta:TE):TT:=λσ H Q=>ta σ H λx H'=>∃k,TruV K x H' k/\Q k H'
theorem Zpt {a:Expr}{ta:TE}(ha:PE X a ta) (he:∀whole,isTrue a X.env whole=(do let v ← whole;standAt a.pos;holding [v] (truthy v))):PT X a (tTru X.K ta):=Zlp ha he
end
section
variable {K:W.Frag}{Δ:Evt}{P:D->Evt->Prop}
theorem Zdj {i j:Int}(p:P (.int (i+j)) Δ):JR2 K (rAddU K) (.int i) (.int j) Δ P:=λg G H σ Q x y k rx ry c=>by
 cases rx.inv;cases ry.inv;exact .inl ⟨i,j,rfl,rfl,c _ _ G H Δ k (Same.refl _) (.int _) p⟩
theorem Zhj {ds es:List D}(hz:ds.length+es.length<=sizeLine) (p:P (.lst (ds++es)) Δ):JR2 K (rAddU K) (.lst ds) (.lst es) Δ P:=λg G H σ Q x y k rx ry c=>by
 obtain⟨_,_,rfl,ha,ra⟩:=rx.inv
 next=>
  obtain⟨_,_,rfl,hb,rb⟩:=ry.inv
  next=>
   refine .inr (.inr ⟨_,_,_,_,rfl,rfl,k.live _ _ ha,k.live _ _ hb,by rw[ra.length,rb.length];exact hz,λq hq=>?_⟩);obtain⟨k2,sg⟩:=k.laid hq (.lst _);exact c _ _ _ _ Δ k2 sg (.lst Zao ((ra.append rb).mono sg)) p
theorem Zb0 {ds:List D}{i:Int}{d:D}(h:atI ds i=some d) (p:P d Δ):JR2 K (rIxU K) (.tup ds) (.int i) Δ P:=λg G H σ Q x y k rx ry c=>
 .inl (.inr (.inl (Zrn h p g G H σ Q x y k rx ry c)))
theorem Zbk {ds:List D}{i:Int}{d:D}(h:atI ds i=some d) (p:P d Δ):JR2 K (rIxU K) (.lst ds) (.int i) Δ P:=λg G H σ Q x y k rx ry c=>
 .inl (.inl (Zrr h p g G H σ Q x y k rx ry c))
theorem Zc4 {n:Nat}{tb:TE}{x:Slot}{ds:List D}(hx:Δ[n]?=some x) (ho:x.od=some (.lst ds)) (h:JE K tb Δ λe Δ1=>∃y es i d,Δ1[n]?=some y/\y.od=some (.lst es)/\e=.int i/\atI es i=some d/\P d Δ1):JE K (tOp (rIxU K) (tVar n) tb) Δ P:=λg G H σ Q k c=>by
 obtain⟨a,o,h1,h2,h3,h4,h5⟩:=k.own n x _ hx ho;refine⟨.ref a,h1,h g G H σ _ k λv e G1 H1 Δ1 k1 s1 r1 ⟨y,es,i,d,q1,q2,q3,q4,p⟩=>?_⟩;subst q3;cases r1.inv;obtain⟨a',o',w1,w2,w3,w4,w5⟩:=k1.own n y _ q1 q2;rw[h1]at w1;cases w1;cases o' with
 |lst vs=>
  obtain⟨u,z1,z2⟩:=Zft (show Reps K G1 vs es from w3) q4;exact .inl (.inl ⟨a,vs,i,u,rfl,rfl,SqL.of w2,z1,c u d G1 H1 Δ1 k1 s1 z2 p⟩)
 |_=>exact absurd w3 (λz=>z)
theorem Zjo {n:Nat}{ti te:TE}{Pp:Pst}(h:JE K te Δ λd Δ1=>(∃x od,Δ1[n]?=some x/\x.od=some od)/\JE K ti Δ1 λe Δ2=>∃x ds i j,Δ2[n]?=some x/\x.od=some (.lst ds)/\e=.int i/\ixN ds.length i=some j/\Pp.nx (Δ2.set n (x.put (.lst (ds.set j d))))) :
  JS K (tAsg te (gSub (tVar n) ti rSetU)) Δ Pp:=λg G H σ E k c=>
 h g G H σ _ k λv d G1 H1 Δ1 k1 s1 r1 hq_=>by
  obtain⟨⟨x,od,hx,ho⟩,p1⟩:=hq_;obtain⟨a,o,h1,h2,h3,h4,h5⟩:=k1.own n x _ hx ho;refine⟨.ref a,h1,p1 g G1 H1 σ _ k1 λu e G2 H2 Δ2 k2 s2 r2 ⟨y,ds,i,j,q1,q2,q3,q4,p⟩=>?_⟩;subst q3;cases r2.inv;obtain⟨a',o',w1,w2,w3,w4,w5⟩:=k2.own n y _ q1 q2;rw[h1]at w1;cases w1;cases o' with
  |lst vs=>
   have w3:Reps K G2 vs ds:=w3;exact .inl ⟨a,vs,i,j,rfl,rfl,w2,by rw[w3.length];exact q4,c.nx σ G2 _ _ (k2.write q1 q2 h1 (show OwnRep K G2 (.lst (vs.set j v)) (.lst (ds.set j d)) from w3.set j (r1.mono s2))) p⟩
  |_=>exact absurd w3 (λz=>z)
theorem Zcw {ds es:List D}(he:ds=[.lst es]\/ds=[.tup es]) (p:P (.int es.length) Δ):JC K (rLenU K) ds Δ P:=λg G H σ Q vs k rs c=>.inl (Zp1 he p g G H σ Q vs k rs c)
theorem Zf1 {n:Nat}{x:Slot}{ds:List D}(hx:Δ[n]?=some x) (ho:x.od=some (.lst ds)) (p:P (.int ds.length) Δ):JE K (tCB (rLenU K) (tCons (tVar n) tNil)) Δ P:=λg G H σ Q k c=>by
 obtain⟨v,h1,h2⟩:=Zns hx ho p g G H σ Q k c;exact⟨v,h1,.inl h2⟩
def cutD (ds:List D) (lo hi:Option Int):List D:=(ds.drop (HT.sIx ds.length 0 lo)).take (HT.sIx ds.length ds.length hi-HT.sIx ds.length 0 lo)
theorem Zlm {α:Type}(xs:List α) (lo hi:Option Int) (h:HT.sIx xs.length 0 lo=0/\HT.sIx xs.length xs.length hi=xs.length):(xs.drop (HT.sIx xs.length 0 lo)).take (HT.sIx xs.length xs.length hi-HT.sIx xs.length 0 lo)=xs:=by
 rw[h.1,h.2];simp
def JO2 (t:TO) (Δ:Evt) (K:W.Frag) (P:Option Int->Evt->Prop):Prop:=
 ∀g G H σ (Q:Option Int->Hp->Prop),Ok K g G H σ Δ -> (∀o G' H' Δ',Ok K g G' H' σ Δ' -> Same G G' -> P o Δ' -> Q o H')->t σ H Q
theorem Zo0 {P:Option Int->Evt->Prop}(p:P none Δ):JO2 tNoPart Δ K P:=λg G H σ Q k c=>c none G H Δ k (Same.refl _) p
theorem Znu {te:TE}{P:Option Int->Evt->Prop}(h:JE K te Δ λd Δ1=>∃i,d=.int i/\P (some i) Δ1):JO2 (tPart te) Δ K P:=λg G H σ Q k c=>
 h g G H σ _ k λv d G1 H1 Δ1 k1 s1 r1 hq_=>by obtain⟨i,e,p⟩:=hq_;subst e;cases r1.inv;exact⟨i,rfl,c (some i) G1 H1 Δ1 k1 s1 p⟩
def slD (d:D) (lo hi:Option Int):Option D:=match d with
 |.lst ds=>some (.lst (cutD ds lo hi))
 |.scr ds=>some (.lst (cutD ds lo hi))
 |.tup ds=>some (.tup (cutD ds lo hi))
 |_=>none
theorem Zrs {te:TE}{tl th:TO}(h:JE K te Δ λd Δ1=>JO2 tl Δ1 K λlo Δ2=>JO2 th Δ2 K λhi Δ3=>∃e,slD d lo hi=some e/\P e Δ3):JE K (tSl (rSlU K) te tl th) Δ P:=λg G H σ Q k c=>
 h g G H σ _ k λv d G1 H1 Δ1 k1 s1 r1 p1=>p1 g G1 H1 σ _ k1 λlo G2 H2 Δ2 k2 s2 p2=>p2 g G2 H2 σ _ k2 λhi G3 H3 Δ3 k3 s3 hq_=>by
  obtain⟨e,he,p⟩:=hq_;have r3:=r1.mono (s2.trans s3);have cc:=c.up (s1.trans (s2.trans s3));cases r3 with
  |lst ha rs=>
   cases he;refine .inl ⟨_,_,rfl,SqL.of (k3.live _ _ ha),λq hq=>?_⟩;obtain⟨k4,sg⟩:=k3.laid hq (.lst _);refine cc _ _ _ _ Δ3 k4 sg (.lst Zao (Reps.mono sg ?_)) p;unfold cutV cutD;rw[rs.length];exact(rs.drop _).take _
  |scr ha rs=>
   cases he;refine .inl ⟨_,_,rfl,k3.live.seq ha,λq hq=>?_⟩;obtain⟨k4,sg⟩:=k3.laid hq (.lst _);refine cc _ _ _ _ Δ3 k4 sg (.lst Zao (Reps.mono sg ?_)) p;unfold cutV cutD;rw[rs.length];exact(rs.drop _).take _
  |tup ha rs=>
   cases he;refine .inr ⟨_,_,rfl,SqT.of (k3.live _ _ ha),λhw=>?_,λhw q hq=>?_⟩
   ·rw[rs.length]at hw
    refine cc _ _ _ _ Δ3 k3 (Same.refl _) (.tup ha ?_) p;unfold cutD;rw[Zlm _ _ _ hw];exact rs
   ·obtain⟨k4,sg⟩:=k3.laid hq (.tup _)
    refine cc _ _ _ _ Δ3 k4 sg (.tup Zao (Reps.mono sg ?_)) p;unfold cutV cutD;rw[rs.length];exact(rs.drop _).take _
  |_=>cases he
theorem Zra {te:TE}(h:JE K te Δ λd Δ1=>∃ds,d=.tup ds/\P (.tup ds.reverse) Δ1):JE K (tSlR K te) Δ P:=λg G H σ Q k c=>
 h g G H σ _ k λv d G1 H1 Δ1 k1 s1 r1 hq_=>by
  obtain⟨ds,e,p⟩:=hq_;subst e;obtain⟨_,_,rfl,ha,rs⟩:=r1.inv
  next=>
   refine⟨_,_,rfl,SqT.of (k1.live _ _ ha),λq hq=>?_⟩;obtain⟨k4,sg⟩:=k1.laid hq (.tup _);exact c _ _ _ _ Δ1 k4 (s1.trans sg) (.tup Zao (rs.reverse.mono sg)) p
theorem Zdw {tl:TE}{P:List D->Evt->Prop}(h:JE K tl Δ λd Δ1=>∃ds,(d=.lst ds\/d=.scr ds)/\P ds Δ1):JI K (iSeq K tl) Δ P:=λg G H σ R k c=>.inl (Znq h g G H σ R k c)
theorem Zhm {tl:TE}{P:List D->Evt->Prop}(h:JE K tl Δ λd Δ1=>∃ds,d=.tup ds/\P ds Δ1):JI K (iSeq K tl) Δ P:=λg G H σ R k c=>.inr (Zqg h g G H σ R k c)
def truD:D->Option Bool
 |.non=>some false
 |.bl b=>some b
 |.int i=>some (i != 0)
 |.lst ds=>some !ds.isEmpty
 |.tup ds=>some !ds.isEmpty
 |_=>none
theorem Reps.isEmpty {G:Hp}{vs:List V}{ds:List D}(r:Reps K G vs ds):vs.isEmpty=ds.isEmpty:=by cases r <;> rfl
theorem Zey {t:TE}{Pb:Bool->Evt->Prop}(h:JE K t Δ λd Δ1=>∃b,truD d=some b/\Pb b Δ1):JT K (tTru K t) Δ Pb:=λg G H σ Q k c=>
 h g G H σ _ k λv d G1 H1 Δ1 k1 s1 r1 hq_=>by
  obtain⟨b,e,p1⟩:=hq_;refine⟨b,?_,c b G1 H1 Δ1 k1 s1 p1⟩;cases r1 with
  |non=>cases e;rfl
  |bl b=>cases e;rfl
  |int i=>cases e;rfl
  |str x=>cases e
  |ty n=>cases e
  |scr ha rs=>cases e
  |adr a=>cases e
  |dct ha hl rs=>cases e
  |exc ha=>cases e
  |lst ha rs=>cases e;exact .inl ⟨_,SqL.of (k1.live _ _ ha),by rw[rs.isEmpty]⟩
  |tup ha rs=>cases e;exact .inr (.inl ⟨_,SqT.of (k1.live _ _ ha),by rw[rs.isEmpty]⟩)
theorem Zo1 {ta tb:TE}(h:JE K ta Δ λd Δ1=>∃b,d=.bl b/\if b=true then JE K tb Δ1 P else P (.bl false) Δ1):JE K (tAndV ta tb) Δ P:=λg G H σ Q k c=>
 h g G H σ _ k λv d G1 H1 Δ1 k1 s1 r1 hq_=>by
  obtain⟨b,e,p1⟩:=hq_;subst e;cases r1.inv;refine⟨b,rfl,?_⟩;cases b with
  |true=>exact(show JE K tb Δ1 P from p1) g G1 H1 σ Q k1 (c.up s1)
  |false=>exact c _ _ G1 H1 Δ1 k1 s1 (.bl false) p1
theorem Zq7 {ta tb:TE}(h:JE K ta Δ λd Δ1=>∃b,d=.bl b/\if b=true then P (.bl true) Δ1 else JE K tb Δ1 P):JE K (tOrV ta tb) Δ P:=λg G H σ Q k c=>
 h g G H σ _ k λv d G1 H1 Δ1 k1 s1 r1 hq_=>by
  obtain⟨b,e,p1⟩:=hq_;subst e;cases r1.inv;refine⟨b,rfl,?_⟩;cases b with
  |false=>exact(show JE K tb Δ1 P from p1) g G1 H1 σ Q k1 (c.up s1)
  |true=>exact c _ _ G1 H1 Δ1 k1 s1 (.bl true) p1
theorem Zov {ta:TE}(h:JE K ta Δ λd Δ1=>∃b,d=.bl b/\P (.bl !b) Δ1):JE K (tNotV ta) Δ P:=λg G H σ Q k c=>
 h g G H σ _ k λv d G1 H1 Δ1 k1 s1 r1 hq_=>by
  obtain⟨b,e,p1⟩:=hq_;subst e;cases r1.inv;exact⟨b,rfl,c _ _ G1 H1 Δ1 k1 s1 (.bl !b) p1⟩
theorem Zim {to te:TE}(h:JE K to Δ λd Δ1=>∃ns:List Int,d=.tup (ns.map D.int)/\JE K te Δ1 λe Δ2=>∃i j,e=.int i/\ns[j]?=some i/\(∀m,m<j->ns[m]?≠some i)/\P (.int (j:Nat)) Δ2) :
  JE K (tBM K "tuple" (rIndexT K) to (tCons te tNil)) Δ P:=λg G H σ Q k c=>
 h g G H σ _ k λv d G1 H1 Δ1 k1 s1 r1 hq_=>by
  obtain⟨ns,e,p1⟩:=hq_;subst e;obtain⟨a,vs,rfl,ha,rs⟩:=r1.inv
  next=>
   refine⟨.inr (.inl ⟨rfl,.inr ⟨_,k1.live _ _ ha⟩⟩),p1 g G1 H1 σ _ k1 λu e G2 H2 Δ2 k2 s2 r2 ⟨i,j,q1,q2,q3,p⟩=>?_⟩;subst q1;cases r2.inv;have ev:vs=ns.map V.int:=rs.ints;subst ev;have hj:j<ns.length:=(Wag.mp q2).1;refine⟨a,_,.int i,j,rfl,rfl,SqT.of (k2.live _ _ (s2 _ _ ha)),rfl,?_,by simpa using hj,⟨.int i,by rw[Waf,q2];rfl,by simp[eqV]⟩,λm z hm hz=>?_,c _ _ G2 H2 Δ2 k2 (s1.trans s2) (.int _) p⟩
   ·rw[List.all_map];exact Wbu.mpr λ_ _=>rfl
   ·rw[Waf]at hz
    cases e:ns[m]? with
    |none=>rw[e]at hz;cases hz
    |some w=>
     rw[e]at hz;have hz:V.int w=z:=by simpa using hz
     subst hz;have hne:w≠i:=λq=>q3 m hm (by rw[e,q]);show (w == i)=false;exact beq_eq_false_iff_ne.mpr hne
end
section
variable {K:W.Frag}{g:Gm}{G H:Hp}{σ:St}{Δ:Evt}
theorem Ok.setVal' (k:Ok K g G H σ Δ) {v:V}{d:D}(i:Nat) (r:Rep K G v d):Ok K g G H (σ.set i (some v)) (Δ.set i (.val d)):=by
 by_cases hi:i < Δ.length
 ·exact k.setVal hi r
 ·have hl:=k.len
  rw[Wcd (l:=σ) (by omega),Wcd (l:=Δ) (by omega)];exact k
theorem Ok.setOwn' (k:Ok K g G H σ Δ) {a:Addr}{od:OD}(i:Nat) (p:Pend K g G H σ Δ a od):Ok K g G H (σ.set i (some (.ref a))) (Δ.set i (.own od)):=by
 by_cases hi:i < Δ.length
 ·exact k.setOwn hi p
 ·have hl:=k.len
  rw[Wcd (l:=σ) (by omega),Wcd (l:=Δ) (by omega)];exact k
theorem Zq6 {te:TE}{i:Nat}{P:Pst}(h:JE K te Δ λd Δ1=>P.nx (Δ1.set i (.val d))):JS K (tAsg te (gName i)) Δ P:=λg G H σ E k c=>
 h g G H σ _ k λv d G1 H1 Δ1 k1 s1 r1 p1=>c.nx _ G1 H1 _ (k1.setVal' i r1) p1
theorem Znw {te:TE}{i:Nat}{P:Pst}(h:JO K te Δ λod Δ1=>P.nx (Δ1.set i (.own od))):JS K (tAsg te (gName i)) Δ P:=λg G H σ E k c=>
 h g G H σ _ k λa od G1 H1 Δ1 k1 s1 pd p1=>c.nx _ G1 H1 _ (k1.setOwn' i pd) p1
theorem Zn4 {i j:Nat}{ta:TA}{P:Pst}(h:JA K ta Δ λds Δ1=>∃d e,ds=[d,e]/\P.nx ((Δ1.set i (.val d)).set j (.val e))):JS K (tPar i j ta) Δ P:=λg G H σ E k c=>
 h g G H σ _ k λvs ds G1 H1 Δ1 k1 s1 r1 hq_=>by
  obtain⟨d,e,hd,p1⟩:=hq_;subst hd;obtain⟨_,_,rfl,ra,rr⟩:=r1.inv
  next=>
   obtain⟨_,_,rfl,rb,rr⟩:=rr.inv
   next=>
    cases rr.inv;exact⟨_,_,rfl,c.nx _ G1 H1 _ ((k1.setVal' i ra).setVal' j rb) p1⟩
theorem Zbt {i:Nat}{d:D}{P:Evt->Prop}(p:P (Δ.set i (.val d))):JG K (gName i) d Δ P:=λg G H σ v R k r c=>c _ G H _ (k.setVal' i r) (Same.refl _) p
theorem Zhp {n i:Nat}{d:D}{P:Evt->Prop}(hn:i<n) (p:P (Δ.set i (.val d))):JGn K n (gName i) d Δ P:=λg G H σ v R k r c=>
 c _ G H _ (k.setVal' i r) (Same.refl _) (λj hj=>Wal (by omega)) p
theorem Zp5 {n:Nat}{te:TE}{Pp:Pst}{x:Slot}{ds0:List D}(hx:Δ[n]?=some x) (ho:x.od=some (.lst ds0))
  (h:JE K te Δ λd Δ1=>∃y ds,Δ1[n]?=some y/\y.od=some (.lst ds)/\ds.length<sizeLine/\Pp.nx (Δ1.set n (y.put (.lst (ds++[d]))))) :
  JS K (tDrop (tBM K "list" rAppend (tVar n) (tCons te tNil))) Δ Pp:=Zlb hx ho ⟨_,rfl⟩ h
end
section
variable {K:W.Frag}{Δ:Evt}{nx bk ct:Evt->Prop}{rt:D->Evt->Prop}{ro:OD->Evt->Prop}
theorem Za3 (p:nx Δ):JS K tNext Δ ⟨nx,rt,bk,ct,ro⟩:=Zlj p
theorem Zap {t u:TS}(h:JS K t Δ ⟨λΔ1=>JS K u Δ1 ⟨nx,rt,bk,ct,ro⟩,rt,bk,ct,ro⟩):JS K (tSeq t u) Δ ⟨nx,rt,bk,ct,ro⟩:=Znk h
theorem Za8 {t u:TS}(I:Evt->Prop) (h1:JS K t Δ ⟨I,rt,bk,ct,ro⟩) (h2:∀Δ1,I Δ1->JS K u Δ1 ⟨nx,rt,bk,ct,ro⟩):JS K (tSeq t u) Δ ⟨nx,rt,bk,ct,ro⟩:=
 Znk (h1.mono h2 (λ_ _ z=>z) (λ_ z=>z) (λ_ z=>z) λ_ _ z=>z)
theorem Zbo {te:TE}(h:JE K te Δ rt):JS K (tRet te) Δ ⟨nx,rt,bk,ct,ro⟩:=Zq4 h
theorem Zd0 {te:TE}(h:JO K te Δ ro):JS K (tRet te) Δ ⟨nx,rt,bk,ct,ro⟩:=Zo4 h
theorem Zn8 {te:TE}(h:JE K te Δ λ_ Δ1=>nx Δ1):JS K (tDrop te) Δ ⟨nx,rt,bk,ct,ro⟩:=Zo9 h
theorem Zcf {c:TT}{t u:TS}(h:JT K c Δ λb Δ1=>if b=true then JS K t Δ1 ⟨nx,rt,bk,ct,ro⟩ else JS K u Δ1 ⟨nx,rt,bk,ct,ro⟩):JS K (tIfS c t u) Δ ⟨nx,rt,bk,ct,ro⟩:=Zrt h
theorem Zax {te:TE}{i:Nat}(h:JE K te Δ λd Δ1=>nx (Δ1.set i (.val d))):JS K (tAsg te (gName i)) Δ ⟨nx,rt,bk,ct,ro⟩:=Zq6 h
theorem Zd8 {te:TE}{i:Nat}(h:JO K te Δ λod Δ1=>nx (Δ1.set i (.own od))):JS K (tAsg te (gName i)) Δ ⟨nx,rt,bk,ct,ro⟩:=Znw h
theorem Zc8 {i j:Nat}{ta:TA}(h:JA K ta Δ λds Δ1=>∃d e,ds=[d,e]/\nx ((Δ1.set i (.val d)).set j (.val e))):JS K (tPar i j ta) Δ ⟨nx,rt,bk,ct,ro⟩:=Zn4 h
theorem Zri {te:TE}{t:TG}(h:JE K te Δ λd Δ1=>JG K t d Δ1 nx):JS K (tAsg te t) Δ ⟨nx,rt,bk,ct,ro⟩:=Zp3 h
theorem Zjj {n:Nat}{te:TE}{x:Slot}{ds0:List D}(hx:Δ[n]?=some x) (ho:x.od=some (.lst ds0))
  (h:JE K te Δ λd Δ1=>∃y ds,Δ1[n]?=some y/\y.od=some (.lst ds)/\ds.length<sizeLine/\nx (Δ1.set n (y.put (.lst (ds++[d]))))) :
  JS K (tDrop (tBM K "list" rAppend (tVar n) (tCons te tNil))) Δ ⟨nx,rt,bk,ct,ro⟩:=Zp5 hx ho h
theorem Zif {n:Nat}{ti te:TE}(h:JE K te Δ λd Δ1=>(∃x ds,Δ1[n]?=some x/\x.od=some (.lst ds))/\JE K ti Δ1 λe Δ2=>∃x ds i j,Δ2[n]?=some x/\x.od=some (.lst ds)/\e=.int i/\ixN ds.length i=some j/\nx (Δ2.set n (x.put (.lst (ds.set j d))))) :
  JS K (tAsg te (gSub (tVar n) ti rSetU)) Δ ⟨nx,rt,bk,ct,ro⟩:=Zjo (h.mono λd Δ1 ⟨⟨x,ds,h1,h2⟩,h3⟩=>⟨⟨x,_,h1,h2⟩,h3⟩)
theorem Zc7 {wi:TI}{t:TG}{tb:TS}(h:JI K wi Δ λds Δ1=>∃I:Nat->Evt->Prop,I 0 Δ1/\(∀i d Δ2,ds[i]?=some d->I i Δ2->JG K t d Δ2 λΔ3=>JS K tb Δ3 ⟨I (i+1),rt,nx,I (i+1),ro⟩)/\∀Δ2,I ds.length Δ2->nx Δ2) :
  JS K (tFor wi t tb) Δ ⟨nx,rt,bk,ct,ro⟩:=Zql h
theorem Zmi {c:TT}{tb:TS}(I:Nat->Evt->Prop) (h0:∃m,I m Δ) (ht:∀m Δ1,I m Δ1->JT K c Δ1 λb Δ2=>if b=true then JS K tb Δ2 ⟨λΔ3=>∃m',m'<m/\I m' Δ3,rt,nx,λΔ3=>∃m',m'<m/\I m' Δ3,ro⟩ else nx Δ2) :
  JS K (tWhile c tb) Δ ⟨nx,rt,bk,ct,ro⟩:=Zlv I h0 ht
end
theorem Zk3 {α β:Type}{f:α -> β}{xs:List α}{i:Int}(h0:0<=i) (h1:i<(xs.length:Int)):∃c,xs[i.toNat]?=some c/\atI (xs.map f) i=some (f c):=by
 have hk:i.toNat<xs.length:=by omega
 have e:i=((i.toNat:Nat):Int):=by omega
 have q:xs[i.toNat]?=some xs[i.toNat]:=Waa hk;generalize xs[i.toNat]=c at q;refine⟨c,q,?_⟩;have z:atI (xs.map f) ((i.toNat:Nat):Int)=some (f c):=Zby (by rw[Waf,q];rfl);rw[<- e]at z;exact z
theorem Zjz:bootBuiltins "abs" = some (.builtin "abs"):=by decide +kernel
theorem Zbr:bootBuiltins "len" = some (.builtin "len"):=by decide +kernel
theorem Zff:bootBuiltins "min" = some (.builtin "min"):=by decide +kernel
theorem Zic:bootBuiltins "max" = some (.builtin "max"):=by decide +kernel
theorem Zal:bootBuiltins "isinstance" = some (.builtin "isinstance"):=by decide +kernel
theorem Zkg:bootBuiltins "sorted" = some (.builtin "sorted"):=by decide +kernel
theorem Zdc:bootBuiltins "tuple" = some (.type "tuple"):=by decide +kernel
theorem Zow:bootBuiltins "list" = some (.type "list"):=by decide +kernel
theorem Zqq:bootBuiltins "set" = some (.type "set"):=by decide +kernel
theorem Zq3:bootBuiltins "int" = some (.type "int"):=by decide +kernel
structure Callee (P:Program) (w:World) (K:W.Frag) (mg:Str->Option Value) (base:Heap) (k:Nat) (x:Str) (ps:List Str) (sp:Sp):Prop where
 ex:∃(f:Addr) (fd:FuncData),FnOk P w K mg base CX0 k f fd ps sp/\Binds K fd ps []/\W.keepIn K (.ref f)=true/\mg x=some (.ref f)
section
variable {X:Cx}{k:Nat}{x:Str}{ps:List Str}{sp:Sp}{e:Expr}{es:List Expr}{t:TA}{p pos:Pos}
theorem Za4 (C:Callee X.prog X.w X.K X.mg X.base k x ps sp) (hr:Room k X.A) (ha:PA X (e::es) t) (hg:Gl X x:=by rfl) (hdb:(x == ("__debug__":Str))=false:=by decide)
  (he:starEach (e::es) X.env=(false,eval e X.env)::starEach es X.env:=by rfl) (hpl:(backTo pos (starEach es X.env)).any (·.1)=false:=by rfl):PE X (.Call (.Name x p) (e::es) [] pos) (tCall sp [] E0 t):=by
 obtain⟨f,fd,F,b,kp,m⟩:=C.ex;exact Zj3 F hr hg m kp b .nil pass0 ha hdb he hpl
end
def fixD (sel:List Nat) (Δ:Evt):Evt:=sel.map λi=>(Δ[i]?).getD .any
theorem Zd7 {n:Nat}{sel:List Nat}{ts Δ:Evt}(ht:ts.length=n):backD n sel (ts++fixD sel Δ) 0 Δ = Δ:=by
 apply Wbw;intro i;rw[Zcl];cases q:Δ[i]? with
 |none=>rfl
 |some x=>
  show some (backAt n sel (ts++fixD sel Δ) (0+i) x)=some x;congr 1;rw[Nat.zero_add];have key:∀j,sel.idxOf? i=some j->(ts++fixD sel Δ)[n+j]?=some x:=λj hj=>by
   rw[Waq (by omega),ht,Nat.add_sub_cancel_left];unfold fixD;rw[Waf,Zdv hj];show some ((Δ[i]?).getD .any)=_;rw[q];rfl
  unfold backAt;cases x with
  |any=>rfl
  |val d=>rfl
  |own o=>
   dsimp only;cases e:sel.idxOf? i with
   |none=>rfl
   |some j=>dsimp only;rw[key j e]
  |bor o=>
   dsimp only;cases e:sel.idxOf? i with
   |none=>rfl
   |some j=>dsimp only;rw[key j e]
  |ownA a o=>
   dsimp only;cases e:sel.idxOf? i with
   |none=>rfl
   |some j=>dsimp only;rw[key j e]
section
variable {K:W.Frag}{Δ:Evt}{P:D->Evt->Prop}
theorem Zbp {sel:List Nat}{wi:TI}{tc:TT}{te:TE}(hsel:sel.Nodup)
  (h:JI K wi Δ λds Δ1=>ds.length<sizeLine/\∃(p:D->Bool) (f:D->D),
   (∀(i:Nat) d,ds[i]?=some d->JT K tc (.val d::fixD sel Δ1) λb Δ4=>b=p d/\if b=true then JE K te Δ4 λe Δ5=>e=f d/\∃x,Δ5=x::fixD sel Δ1 else ∃x,Δ4=x::fixD sel Δ1) ∧
   P (.lst ((ds.filter p).map f)) Δ1):JE K (tComp 1 sel wi (gName 0) tc te) Δ P:=by
 refine Zm6 hsel λg G H σ R k c=>h g G H σ R k λJ ds G' H' Δ' k' s' it ⟨z,p,f,ht,he⟩=>c J ds G' H' Δ' k' s' it ⟨z,fixD sel Δ',p,f,rfl,λi d ts hd hts=>?_,?_⟩
 ·refine Zhp (by decide) ?_
  obtain⟨x,rfl⟩:∃x,ts=[x]:=by
   match ts,hts with
   |[x],_=>exact⟨x,rfl⟩
  intro g G H σ Q k c;refine ht i d hd g G H σ Q k λb G1 H1 Δ1 k1 s1 ⟨e1,q⟩=>c b G1 H1 Δ1 k1 s1 ⟨e1,?_⟩;cases b with
  |true=>
   rw[if_pos rfl]at q ⊢;exact q.mono λe Δ5 ⟨e2,x,e3⟩=>⟨e2,[x],rfl,e3⟩
  |false=>
   rw[if_neg Wat]at q ⊢;obtain⟨x,e3⟩:=q;exact⟨[x],rfl,e3⟩
 ·rw[Zd7 (by simp)];exact he
theorem Zil {sel:List Nat}{wi:TI}{tc:TT}{te:TE}{Po:OD->Evt->Prop}(hsel:sel.Nodup)
  (h:JI K wi Δ λds Δ1=>ds.length<sizeLine/\∃(p:D->Bool) (f:D->D),
   (∀(i:Nat) d,ds[i]?=some d->JT K tc (.val d::fixD sel Δ1) λb Δ4=>b=p d/\if b=true then JE K te Δ4 λe Δ5=>e=f d/\∃x,Δ5=x::fixD sel Δ1 else ∃x,Δ4=x::fixD sel Δ1) ∧
   Po (.lst ((ds.filter p).map f)) Δ1):JO K (tComp 1 sel wi (gName 0) tc te) Δ Po:=by
 refine Zlo hsel λg G H σ R k c=>h g G H σ R k λJ ds G' H' Δ' k' s' it ⟨z,p,f,ht,he⟩=>c J ds G' H' Δ' k' s' it ⟨z,λi ys Δ=>ys=((ds.take i).filter p).map f/\∃x,Δ = x::fixD sel Δ',⟨by simp,.any,rfl⟩,?_,?_⟩
 ·rintro i d ys Δ2 hd ⟨rfl,x,rfl⟩
  have tk:ds.take (i+1)=ds.take i++[d]:=by
   rw[Wck,hd];rfl
  refine Zhp (by decide) ?_;intro g G H σ Q k c;refine ht i d hd g G H σ Q k λb G1 H1 Δ1 k1 s1 ⟨e1,q⟩=>c b G1 H1 Δ1 k1 s1 ?_;cases b with
  |true=>
   rw[if_pos rfl]at q ⊢;refine q.mono λe Δ5 ⟨e2,x,e3⟩=>⟨?_,x,e3⟩;rw[tk,Wbr,Wa6,Wbn,<- e1,e2];rfl
  |false=>
   rw[if_neg Wat]at q ⊢;obtain⟨x,e3⟩:=q;refine⟨?_,x,e3⟩;rw[tk,Wbr,Wa6,Wbn,<- e1];simp
 ·rintro ys Δ2 ⟨rfl,x,rfl⟩
  rw[Wbt,show (x::fixD sel Δ')=[x]++fixD sel Δ' from rfl,Zd7 (by simp)];exact he
end
def tGhost (base:Nat) (t:TS):TS:=λE σ H=>t { E with nx:=λσ' H'=>∃σ2:St,σ2.length = σ'.length/\(∀i,i<base -> σ2[i]? = σ'[i]?)/\E.nx σ2 H' } σ H
theorem Zlr {X:Cx}{st:Stmt}{t:TS}(base:Nat) (hv:∀x∈X.N.drop base,X.env.scope.names.lookup x=none) (h:PS X st t):PS X st (tGhost base t):=by
 intro pins s σ H E I hw;refine thn (h pins s σ H _ I hw) λf s1 q=>?_;cases f with
 |next=>
  obtain⟨σ',H',I',σ2,hl,hs,q⟩:=q;refine⟨σ2,H',⟨I'.ok,I'.os,I'.bare,I'.base,?_,I'.cell,I'.free,I'.freeC,I'.pin,I'.hok,hl.trans I'.len⟩,q⟩;obtain⟨m,hn,hl'⟩:=I'.loc;refine⟨m,hn,λi x v e1 e2 e3=>?_⟩;by_cases hi:i<base
  ·rw[hs i hi]at e2;exact hl' i x v e1 e2 e3
  ·have hm:x∈X.N.drop base:=by
    refine Wa2 (i:=i-base) ?_;rw[Wcf,show base+(i-base)=i by omega];exact e1
   have z:=hv x hm;rcases e3 with w|w|w <;> (rw[z]at w;cases w)
 |ret v=>exact q
 |brk=>exact q
 |cont=>exact q
def Nest (K:W.Frag) (g:Gm) (G H:Hp) (σ:St) (Δ:Evt) (cs:List (Addr × HO)) (ods:List OD):Prop:=
 (cs.map (·.1)).Nodup/\Paired (λ(c:Addr × HO) (od:OD)=>OwnRep K G c.2 od) cs ods/\∀c∈cs,H c.1=some c.2/\G c.1=none/\g.Hz c.1=none/\g.Xo c.1=none/\∀(i:Nat) x od',Δ[i]?=some x->x.od=some od' -> σ[i]?≠some (some (.ref c.1))
def JN (K:W.Frag) (t:TE) (Δ:Evt) (P:List OD->Evt->Prop):Prop:=
 ∀g G H σ Q,Ok K g G H σ Δ -> (∀acc cs ods G' H' Δ',Ok K g G' H' σ Δ' -> Same G G' -> Rep K G' (.ref acc) (.lst (cs.map λ(c:Addr × HO)=>D.adr c.1))->g.Hz acc=none->Nest K g G' H' σ Δ' cs ods->P ods Δ' -> Q (.ref acc) H')->t σ H Q
section
variable {K:W.Frag}{Δ:Evt}
def cellAt (cs:List (Addr × HO)) (b:Addr):Option HO:=(cs.find? λc=>decide (c.1=b)).map (·.2)
theorem Zdk {cs:List (Addr × HO)}{b:Addr}:cellAt cs b=none ↔ ∀c∈cs,c.1≠b:=by
 unfold cellAt;rw[Option.map_eq_none_iff,List.find?_eq_none];constructor
 ·intro h c hc e;exact h c hc (decide_eq_true e)
 ·intro h c hc e;exact h c hc (of_decide_eq_true e)
theorem Ze9 {cs:List (Addr × HO)}(nd:(cs.map (·.1)).Nodup) {c:Addr × HO}(hc:c∈cs):cellAt cs c.1=some c.2:=by
 induction cs with
 |nil=>cases hc
 |cons d r ih=>
  rw[Wbf,Wb1]at nd;unfold cellAt;rcases Wan.mp hc with e|hc
  ·subst e;simp
  ·have hne:d.1≠c.1:=λe=>nd.1 (by rw[e];exact Wbm.mpr ⟨c,hc,rfl⟩)
   rw[List.find?_cons_of_neg (by simpa using hne)];exact ih nd.2 hc
open Classical in
noncomputable def asideN (g:Gm) (sel:List Nat) (σ:St) (Δ:Evt) (H:Hp) (acc:Addr) (cs:List (Addr × HO)):Hp:=λb=>
 if b=acc then some (.lst (cs.map λc=>V.ref c.1)) else match cellAt cs b with
  |some o=>some o
  |none=>if ∃(i:Nat) (x:Slot) (od:OD),Δ[i]?=some x/\x.od=some od/\i ∉ sel /\ σ[i]?=some (some (.ref b)) then H b else g.Xo b
theorem Zck {g:Gm}{sel:List Nat}{σ:St}{Δ:Evt}{H:Hp}{acc:Addr}{cs:List (Addr × HO)}:asideN g sel σ Δ H acc cs acc=some (.lst (cs.map λc=>V.ref c.1)):=by unfold asideN;rw[if_pos rfl]
theorem Zcc {g:Gm}{sel:List Nat}{σ:St}{Δ:Evt}{H:Hp}{acc b:Addr}{o:HO}{cs:List (Addr × HO)}(hb:b≠acc) (e:cellAt cs b=some o):asideN g sel σ Δ H acc cs b=some o:=by unfold asideN;rw[if_neg hb,e]
theorem Zcj {g:Gm}{sel:List Nat}{σ:St}{Δ:Evt}{H:Hp}{acc b:Addr}{cs:List (Addr × HO)}(hb:b≠acc) (e:cellAt cs b=none) (hx:∃(i:Nat) (x:Slot) (od:OD),Δ[i]?=some x/\x.od=some od/\i ∉ sel /\ σ[i]?=some (some (.ref b))):asideN g sel σ Δ H acc cs b=H b:=by
 unfold asideN;rw[if_neg hb,e];exact if_pos hx
theorem Zca {g:Gm}{sel:List Nat}{σ:St}{Δ:Evt}{H:Hp}{acc b:Addr}{cs:List (Addr × HO)}(hb:b≠acc) (e:cellAt cs b=none) (hx:¬ ∃(i:Nat) (x:Slot) (od:OD),Δ[i]?=some x/\x.od=some od/\i ∉ sel /\ σ[i]?=some (some (.ref b))):asideN g sel σ Δ H acc cs b=g.Xo b:=by
 unfold asideN;rw[if_neg hb,e];exact if_neg hx
theorem Zoc {n:Nat}{sel:List Nat}{wi:TI}{t:TG}{tc:TT}{te:TE}{P:List OD->Evt->Prop}(hsel:sel.Nodup)
  (h:JI K wi Δ λds Δ1=>ds.length<sizeLine/\∃I:Nat->List OD->Evt->Prop,I 0 [] (compD n sel Δ1) ∧
   (∀i d ys Δ2,ds[i]?=some d->I i ys Δ2->JGn K n t d Δ2 λΔ3=>JT K tc Δ3 λb Δ4=>if b=true then JO K te Δ4 λe Δ5=>I (i+1) (ys++[e]) Δ5 else I (i+1) ys Δ4) ∧
   ∀ys Δ2,I ds.length ys Δ2->P ys (backD n sel Δ2 0 Δ1)):JN K (tComp n sel wi t tc te) Δ P:=λg G H σ Q k c=>
 h g G H σ _ k λJ ds G1 H1 Δ1 k1 s1 it ⟨hz,I,h0,ht,he⟩ acc hacc=>by
  have nacc:∀(i:Nat) x od,Δ1[i]?=some x->x.od=some od -> σ[i]?≠some (some (.ref acc)):=λi x od e1 e2 e3=>by
   obtain⟨a,o,w1,w2,_⟩:=k1.own i x od e1 e2;rw[e3]at w1;cases w1;rw[hacc]at w2;cases w2
  let Wd:Nat->St->Hp->Prop:=λi σ' H'=>i<=ds.length/\(∀j,n<=j -> σ'[j]?=(compSt n sel σ)[j]?)/\∃G ys cs Δi,cs.length<=i/\(cs.map (·.1)).Nodup/\(∀c∈cs,c.1≠acc/\g.Hz c.1=none/\g.Xo c.1=none/\∀(i:Nat) x od,Δ1[i]?=some x->x.od=some od->i ∉ sel -> σ[i]?≠some (some (.ref c.1)))/\Paired (λ(c:Addr × HO) (od:OD)=>OwnRep K G c.2 od) cs ys ∧
   Ok K ⟨g.B,G1,g.Hz,asideN g sel σ Δ1 H1 acc cs⟩ G H' σ' Δi/\I i ys Δi
  refine⟨λi m σ' H'=>m=ds.length-i/\Wd i σ' H',⟨ds.length,by simp,Wb8 _,λ_ _=>rfl,G1,[],[],compD n sel Δ1,Waj _,List.nodup_nil,λc hc=>(nomatch hc),.nil,?_,h0⟩,?_⟩
  ·refine Zfh hsel k1 hacc λb o e=>?_
   have e:asideN g sel σ Δ1 H1 acc [] b=some o:=e;by_cases hb:b=acc
   ·subst hb;rw[Zck]at e;cases e;exact .inl ⟨rfl,rfl⟩
   ·by_cases hx:∃(i:Nat) (x:Slot) (od:OD),Δ1[i]?=some x/\x.od=some od/\i ∉ sel /\ σ[i]?=some (some (.ref b))
    ·rw[Zcj hb rfl hx]at e;exact .inr ⟨hb,.inl ⟨hx,e⟩⟩
    ·rw[Zca hb rfl hx]at e;exact .inr ⟨hb,.inr e⟩
  ·rintro i m σ2 H2 ⟨rfl,hi,hσ,G2,ys,cs,Δ2,hy,nd,hcs,ry,k2,h2⟩
   have s2:Same G1 G2:=k2.sub;obtain⟨stop,go⟩:=it G2 H2 s2 k2.live;by_cases hlt:i<ds.length
   ·obtain⟨g1,g2⟩:=go i _ (Waa hlt)
    refine .inr ⟨g1,λσ' H'=>Wd (i+1) σ' H',λσ' H' p'=>⟨ds.length-(i+1),by omega,rfl,p'⟩,λx H3 y=>?_⟩;obtain⟨G3,a1,a2,a3,a4⟩:=g2 x H3 y;have k3:=k2.grow a1 a2 a3;have hG3:∀b o,G3 b=some o->(g.Hz b=none\/G1 b=some o):=λb o q=>(k3.frz b o q).2;have k3':Ok K ⟨g.B,G3,g.Hz,asideN g sel σ Δ1 H1 acc cs⟩ G3 H3 σ2 Δ2:=⟨k3.same,k3.lent,Same.refl _,λb o q=>⟨(k3.frz b o q).1,.inr q⟩,k3.ext,k3.len,k3.val,k3.own,k3.dis⟩;have ry3:Paired (λ(c:Addr × HO) (od:OD)=>OwnRep K G3 c.2 od) cs ys:=Paired.mapP ry λ_ _ z=>z.mono a1;have s13:Same G1 G3:=s2.trans a1;refine ht i _ ys Δ2 (Waa hlt) h2 ⟨g.B,G3,g.Hz,asideN g sel σ Δ1 H1 acc cs⟩ G3 H3 σ2 x _ k3' a4 λσ4 G4 H4 Δ4 k4 s4 e4 p4=>?_;have hσ4:∀j,n<=j -> σ4[j]?=(compSt n sel σ)[j]?:=λj hj=>(e4 j hj).trans (hσ j hj);refine p4 _ G4 H4 σ4 _ k4 λb G5 H5 Δ5 k5 s5 p5=>?_;cases b with
    |false=>exact⟨hlt,hσ4,G5,ys,cs,Δ5,by omega,nd,hcs,Paired.mapP ry3 λ_ _ z=>z.mono (s4.trans s5),k5.base s13 hG3,p5⟩
    |true=>
     refine(show JO K te Δ5 _ from p5) _ G5 H5 σ4 _ k5 λa od G6 H6 Δ6 k6 s6 pd p6=>?_;have ry6:Paired (λ(c:Addr × HO) (od:OD)=>OwnRep K G6 c.2 od) cs ys:=Paired.mapP ry3 λ_ _ z=>z.mono (s4.trans (s5.trans s6));obtain⟨b1,b2,b3⟩:=k6.ext acc _ Zck;obtain⟨oa,d1,d2,d3,d4,d5,d6⟩:=pd;have d5:asideN g sel σ Δ1 H1 acc cs a=none:=d5;have hane:a≠acc:=by intro z;subst z;rw[Zck]at d5;cases d5
     have hac:cellAt cs a=none:=by
      cases q:cellAt cs a with
      |none=>rfl
      |some o=>rw[Zcc hane q]at d5;cases d5
     have hax:∀(i:Nat) x od,Δ1[i]?=some x->x.od=some od->i ∉ sel -> σ[i]?≠some (some (.ref a)):=λi x od e1 e2 e3 e4=>by
      rw[Zcj hane hac ⟨i,x,od,e1,e2,e3,e4⟩]at d5;obtain⟨a',o',w1,w2,_⟩:=k1.own i x od e1 e2;rw[e4]at w1;cases w1;rw[d5]at w2;cases w2
     have hagx:g.Xo a=none:=by
      rw[Zca hane hac (λ⟨i,x,od,e1,e2,e3,e4⟩=>hax i x od e1 e2 e3 e4)]at d5;exact d5
     have hnm:=Zdk.mp hac;refine⟨cs.map λc=>V.ref c.1,b1,by rw[Wab];omega,hlt,hσ4,G6,ys++[od],cs++[(a,oa)],Δ6,by rw[Wap,Wbz];omega,?_,λc hc=>?_,Paired.snoc ry6 d2,?_,p6⟩
     ·rw[Wa6]
      refine Wcu.mpr ⟨nd,by simp,λx hx y hy=>?_⟩;rw[List.map_singleton,Was]at hy;subst hy;obtain⟨c,hc,rfl⟩:=Wbm.mp hx;exact hnm c hc
     ·rcases Wbj.mp hc with hc|hc
      ·exact hcs c hc
      ·rw[Was.mp hc];exact⟨hane,d4,hagx,hax⟩
     ·have k7:=k6.base s13 hG3
      have nd':((cs++[(a,oa)]).map (·.1)).Nodup:=by
       rw[Wa6];refine Wcu.mpr ⟨nd,by simp,λx hx y hy=>?_⟩;rw[List.map_singleton,Was]at hy;subst hy;obtain⟨c,hc,rfl⟩:=Wbm.mp hx;exact hnm c hc
      have er:(cs++[(a,oa)]).map (λc=>V.ref c.1)=(cs.map λc=>V.ref c.1)++[V.ref a]:=by simp
      have oldH:∀b o,b≠acc->H6 b=some o->(upd H6 acc (.lst ((cs.map λc=>V.ref c.1)++[V.ref a]))) b=some o:=λb o hb e=>by rw[Zau hb];exact e
      refine⟨λb o hb e=>?_,λb hb=>?_,k7.sub,λb o e=>?_,λb o e=>?_,k7.len,k7.val,λi x od e1 e2=>?_,k7.dis⟩
      ·have hne:b≠acc:=by
        intro z;subst z;have e:g.Hz b=some o:=e;rw[k1.there hacc]at e;cases e
       exact oldH b o hne (k7.same b o hb e)
      ·by_cases hne:b=acc
       ·subst hne;rw[Zao];intro z;cases z
       ·rw[Zau hne];exact k7.lent b hb
      ·have hne:b≠acc:=by intro z;subst z;rw[b2]at e;cases e
       exact⟨oldH b o hne (k7.frz b o e).1,(k7.frz b o e).2⟩
      ·have e:asideN g sel σ Δ1 H1 acc (cs++[(a,oa)]) b=some o:=e
       by_cases hne:b=acc
       ·subst hne
        rw[Zck,er]at e;cases e;exact⟨Zao,b2,b3⟩
       ·by_cases hba:b=a
        ·subst hba
         rw[Zcc hne (Ze9 nd' (c:=(b,oa)) (Wax _ (Was.mpr rfl)))]at e;cases e;exact⟨oldH b _ hne d1,d3,d6⟩
        ·have ec:cellAt (cs++[(a,oa)]) b=cellAt cs b:=by
          unfold cellAt;rw[List.find?_append];cases (cs.find? λc=>decide (c.1=b)) with
          |some c=>rfl
          |none=>
           rw[List.find?_cons_of_neg (by simpa using Ne.symm hba)];rfl
         have e':asideN g sel σ Δ1 H1 acc cs b=some o:=by
          cases q:cellAt cs b with
          |some o'=>rw[Zcc hne (ec.trans q)]at e;rw[Zcc hne q];exact e
          |none=>
           by_cases hx:∃(i:Nat) (x:Slot) (od:OD),Δ1[i]?=some x/\x.od=some od/\i ∉ sel /\ σ[i]?=some (some (.ref b))
           ·rw[Zcj hne (ec.trans q) hx]at e;rw[Zcj hne q hx];exact e
           ·rw[Zca hne (ec.trans q) hx]at e;rw[Zca hne q hx];exact e
         obtain⟨w1,w2,w3⟩:=k7.ext b o e';exact⟨oldH b o hne w1,w2,w3⟩
      ·obtain⟨a',o,w1,w2,w3,w4,w5⟩:=k7.own i x od e1 e2
       have hne:a'≠acc:=by intro z;subst z;exact b3 i x od e1 e2 w1
       exact⟨a',o,w1,oldH a' o hne w2,w3,w4,w5⟩
   ·have e:i=ds.length:=by omega
    subst e;refine .inl ⟨stop,?_⟩;obtain⟨b1,b2,b3⟩:=k2.ext acc _ Zck;have src:=Zf5 (Δ1:=Δ1) (Δ2:=Δ2) hσ;have k9:Ok K g G2 H2 σ (backD n sel Δ2 0 Δ1):=Zeh k1 hacc k2 hσ (λb o hb hx e=>by
      show asideN g sel σ Δ1 H1 acc cs b=_;rw[Zcj hb (Zdk.mpr λc hc z=>?_) hx]
      ·exact e
      ·obtain⟨i0,x0,od0,f1,f2,f3,f4⟩:=hx
       exact(hcs c hc).2.2.2 i0 x0 od0 f1 f2 f3 (by rw[z];exact f4)) (λb o hb hx e=>by
      show asideN g sel σ Δ1 H1 acc cs b=_;rw[Zca hb (Zdk.mpr λc hc z=>?_) hx]
      ·exact e
      ·have:=(hcs c hc).2.2.1;rw[z,e]at this;cases this)
    -- the outer list is frozen
    have nslot:∀(i:Nat) y od,(backD n sel Δ2 0 Δ1)[i]?=some y->y.od=some od -> σ[i]?≠some (some (.ref acc)):=λi y od e1 e2=>by
     obtain⟨x',od1,f1,f2,_⟩:=src i y od e1 e2;exact nacc i x' od1 f1 f2
    have refs:∀{G:Hp}(l:List (Addr × HO)),Reps K G (l.map λc=>V.ref c.1) (l.map λc=>D.adr c.1):=λ{G} l=>by
     induction l with
     |nil=>exact .nil
     |cons c r ih=>exact .cons (.adr _) ih
    have gX:g.Xo acc=none:=by
     cases q:g.Xo acc with
     |none=>rfl
     |some u=>have z:=(k1.ext acc u q).1;rw[hacc]at z;cases z
    obtain⟨kf,sf,rf⟩:=k9.freeze (a:=acc) (ds:=cs.map λ(c:Addr × HO)=>D.adr c.1) (vs:=cs.map λ(c:Addr × HO)=>V.ref c.1) ⟨_,b1,(show Reps K G2 (cs.map λ(c:Addr × HO)=>V.ref c.1) (cs.map λ(c:Addr × HO)=>D.adr c.1) from refs cs),b2,k1.there hacc,gX,nslot⟩ b1;refine c acc cs ys _ H2 _ kf (s1.trans (s2.trans sf)) rf (k1.there hacc) ⟨nd,Paired.mapP ry λ_ _ z=>z.mono sf,λcc hc=>?_⟩ (he ys Δ2 h2);obtain⟨f1,f2,f3,f4⟩:=hcs cc hc;obtain⟨u1,u2,u3⟩:=k2.ext cc.1 cc.2 (Zcc f1 (Ze9 nd hc));refine⟨u1,by rw[Zau f1];exact u2,f2,f3,λi y od e1 e2 e3=>?_⟩;obtain⟨x,od',w1,w2,w3⟩:=src i y od e1 e2;rcases w3 with ⟨w3,w4⟩|⟨j,w3,w4,w5⟩
    ·exact f4 i x od' w1 w2 w4 e3
    ·exact u3 (n+j) y od w4 e2 (by rw[w5,e3];rfl)
def putN:Nat->List (Addr × OD)->Evt->Evt
 |_,[],Δ=>Δ
 |b,c::r,Δ=>putN (b+1) r (Δ.set b (.ownA c.1 c.2))
def putS:Nat->List Addr->St->St
 |_,[],σ=>σ
 |b,a::r,σ=>putS (b+1) r (σ.set b (some (.ref a)))
theorem Zih:∀(as:List Addr) (b:Nat) (σ:St),(putS b as σ).length = σ.length
 |[],_,_=>rfl
 |a::r,b,σ=>by rw[putS,Zih r (b+1),Wce]
theorem Zfd:∀(as:List Addr) (b:Nat) (σ:St) (i:Nat),i<b->(putS b as σ)[i]? = σ[i]?
 |[],_,_,_,_=>rfl
 |a::r,b,σ,i,h=>by rw[putS,Zfd r (b+1) _ i (by omega),Wal (by omega)]
theorem Ok.setOwnA {g:Gm}{G H:Hp}{σ:St}(k:Ok K g G H σ Δ) {a:Addr}{od:OD}{i:Nat}(hi:i < Δ.length) (p:Pend K g G H σ Δ a od):Ok K g G H (σ.set i (some (.ref a))) (Δ.set i (.ownA a od)):=by
 have k1:=k.setOwn hi p;obtain⟨o,p1,p2,p3,p4,p5,p6⟩:=p;have hs:i < σ.length:=by rw[<- k.len];exact hi
 have old:∀(j:Nat) x,j≠i->(Δ.set i (.ownA a od))[j]?=some x->(Δ.set i (.own od))[j]?=some x:=λj x hj e=>by
  rw[Wal (Ne.symm hj)]at e ⊢;exact e
 have cv:∀(j:Nat) x od',(Δ.set i (.ownA a od))[j]?=some x->x.od=some od' -> ∃y,(Δ.set i (.own od))[j]?=some y/\y.od=some od':=λj x od' e1 e2=>by
  by_cases hj:j=i
  ·subst hj
   rw[Wak hi]at e1;cases e1;cases e2;exact⟨.own od,Wak hi,rfl⟩
  ·exact⟨x,old j x hj e1,e2⟩
 refine⟨k1.same,k1.lent,k1.sub,k1.frz,λb u e=>?_,by simp[k.len],λj d e=>?_,λj x od' e1 e2=>?_,λj l x y od1 od2 c e1 e2 e3 e4 e5 e6=>?_⟩
 ·obtain⟨h1,h2,h3⟩:=k1.ext b u e
  refine⟨h1,h2,λj x od' e1 e2=>?_⟩;obtain⟨y,f1,f2⟩:=cv j x od' e1 e2;exact h3 j y od' f1 f2
 ·by_cases hj:j=i
  ·subst hj
   rw[Wak hi]at e;cases e
  ·exact k1.val j d (old j _ hj e)
 ·by_cases hj:j=i
  ·subst hj
   rw[Wak hi]at e1;cases e1;cases e2;exact⟨a,o,Wak hs,p1,p2,p3,rfl,p4⟩
  ·exact k1.own j x od' (old j x hj e1) e2
 ·obtain⟨x',f1,f2⟩:=cv j x od1 e1 e2
  obtain⟨y',f3,f4⟩:=cv l y od2 e3 e4;exact k1.dis j l x' y' od1 od2 c f1 f2 f3 f4 e5 e6
theorem Ok.putN {g:Gm}{G H:Hp}:∀(cs:List (Addr × HO)) (ods:List OD) (b:Nat) (σ:St) (Δ:Evt),Ok K g G H σ Δ -> b+ods.length <= Δ.length->Nest K g G H σ Δ cs ods →
  Ok K g G H (putS b (cs.map (·.1)) σ) (L2.putN b ((cs.map (·.1)).zip ods) Δ)
 |[],[],_,_,_,k,_,_=>k
 |[],_::_,_,_,_,_,_,n=>by cases n.2.1
 |_::_,[],_,_,_,_,_,n=>by cases n.2.1
 |c::cs,od::ods,b,σ,Δ,k,hl,⟨nd,pr,al⟩=>by
  cases pr with
  |cons r t=>
   obtain⟨h1,h2,h3,h4,h5⟩:=al c Wa8;rw[Wbf,Wb1]at nd;have hb:b < Δ.length:=by rw[Wam]at hl;omega
   have k1:=k.setOwnA hb ⟨c.2,h1,r,h2,h3,h4,h5⟩;refine Ok.putN cs ods (b+1) _ _ k1 (by rw[Wce];rw[Wam]at hl;omega) ⟨nd.2,t,λd hd=>?_⟩;obtain⟨f1,f2,f3,f4,f5⟩:=al d (Wau _ hd);have hne:d.1≠c.1:=λe=>nd.1 (by rw[<- e];exact Wbm.mpr ⟨d,hd,rfl⟩);refine⟨f1,f2,f3,f4,λj x od' e1 e2=>?_⟩;by_cases hj:j=b
   ·subst hj
    rw[Wak (by rw[<- k.len];exact hb)];intro z;have:c.1=d.1:=by
     have z1:=Wa5.inj (Wa5.inj z);injection z1
    exact hne this.symm
   ·rw[Wal (Ne.symm hj)]at e1 ⊢
    exact f5 j x od' e1 e2
theorem Zln:∀(l:List (Addr × OD)) (R T:Evt) (m:Nat),l.length<=m->L2.putN R.length l (R++Wae m Slot.any++T)=R++l.map (λc=>Slot.ownA c.1 c.2)++Wae (m-l.length) Slot.any++T
 |[],R,T,m,_=>by simp[L2.putN]
 |c::r,R,T,m,h=>by
  obtain⟨m',rfl⟩:∃m',m=m'+1:=⟨m-1,by rw[Wam]at h;omega⟩;have e:(R++Wae (m'+1) Slot.any++T).set R.length (.ownA c.1 c.2)=(R++[.ownA c.1 c.2])++Wae m' Slot.any++T:=by
   rw[Wc3];simp[List.set_append_right]
  rw[L2.putN,e];have:=Zln r (R++[.ownA c.1 c.2]) T m' (by rw[Wam]at h;omega);rw[Wap,Wbz]at this;rw[this];simp
theorem Zpf {te:TE}{i base:Nat}{nx bk ct:Evt->Prop}{rt:D->Evt->Prop}{ro:OD->Evt->Prop}
  (h:JN K te Δ λods Δ1=>i<base/\base+ods.length <= Δ1.length/\∀as:List Addr,as.length=ods.length->as.Nodup->nx (L2.putN base (as.zip ods) (Δ1.set i (.val (.lst (as.map D.adr)))))) :
  JS K (tGhost base (tAsg te (gName i))) Δ ⟨nx,rt,bk,ct,ro⟩:=λg G H σ E k c=>
 h g G H σ _ k λacc cs ods G1 H1 Δ1 k1 s1 rr _ nn hq_=>by
  obtain⟨hi,hb,p⟩:=hq_;have hl:cs.length=ods.length:=Paired.length nn.2.1;have e0:(cs.map λc=>D.adr c.1)=(cs.map (·.1)).map D.adr:=by rw[Wa1];rfl
  have k2:=k1.setVal' i rr;have n2:Nest K g G1 H1 (σ.set i (some (.ref acc))) (Δ1.set i (.val (.lst (cs.map λc=>D.adr c.1)))) cs ods:=by
   obtain⟨nd,pr,al⟩:=nn;refine⟨nd,pr,λd hd=>?_⟩;obtain⟨f1,f2,f3,f4,f5⟩:=al d hd;refine⟨f1,f2,f3,f4,λj x od' e1 e2=>?_⟩;by_cases hj:j=i
   ·subst hj
    by_cases hlt:j < Δ1.length
    ·rw[Wak hlt]at e1;cases e1;cases e2
    ·rw[Wc1 (by rw[Wce];omega)]at e1;cases e1
   ·rw[Wal (Ne.symm hj)]at e1 ⊢
    exact f5 j x od' e1 e2
  have k3:=Ok.putN cs ods base _ _ k2 (by rw[Wce];exact hb) n2;refine⟨putS base (cs.map (·.1)) (σ.set i (some (.ref acc))),Zih _ _ _,λj hj=>Zfd _ _ _ j hj,?_⟩;rw[e0]at k3;exact c.nx _ G1 H1 _ k3 (p (cs.map (·.1)) (by rw[Wab,hl]) nn.1)
theorem Zj6 {n j:Nat}{a:Addr}{ds:List D}{P:D->Evt->Prop}(hx:Δ[n]?=some (.val (.adr a))) (hj:Δ[j]?=some (.ownA a (.lst ds))) (p:P (.int ds.length) Δ):JE K (tCB (rLenU K) (tCons (tVar n) tNil)) Δ P:=λg G H σ Q k c=>by
 obtain⟨v,h1,h2⟩:=k.val n _ hx;cases h2;obtain⟨a',o,w1,w2,w3,w4,w5⟩:=k.own j _ _ hj rfl;obtain⟨rfl,_⟩:=w5;cases o with
 |lst vs=>
  have w3:Reps K G vs ds:=w3;refine⟨_,h1,.inl ⟨_,vs,rfl,.inl (SqL.of w2),?_⟩⟩;rw[w3.length];exact c _ _ G H Δ k (Same.refl _) (.int _) p
 |_=>exact absurd w3 (λz=>z)
theorem Zo6 {n:Nat}{t1 t2:TE}{a:Addr}{j0:Nat}{ds0:List D}{nx bk ct:Evt->Prop}{rt:D->Evt->Prop}{ro:OD->Evt->Prop}(hx:Δ[n]?=some (.val (.adr a))) (hj0:Δ[j0]?=some (.ownA a (.lst ds0)))
  (h:JE K t1 Δ λe1 Δ1=>JE K t2 Δ1 λe2 Δ2=>∃j i ds,e1=.int i /\ Δ2[j]?=some (.ownA a (.lst ds))/\ds.length<sizeLine /\ -(2 ^ 62)<=i/\i<2 ^ 62/\nx (Δ2.set j (.ownA a (.lst (ds.take (insI ds.length i)++e2::ds.drop (insI ds.length i)))))) :
  JS K (tDrop (tBM K "list" rInsert (tVar n) (tCons t1 (tCons t2 tNil)))) Δ ⟨nx,rt,bk,ct,ro⟩:=λg G H σ E k c=>by
 obtain⟨v,h1,h2⟩:=k.val n _ hx;cases h2;obtain⟨a',o,w1,w2,w3,w4,w5⟩:=k.own j0 _ _ hj0 rfl;obtain⟨rfl,_⟩:=w5;cases o with
 |lst vs0=>
  refine⟨_,h1,.inl ⟨rfl,_,SqL.of w2⟩,h g G H σ _ k λv1 e1 G1 H1 Δ1 k1 s1 r1 p1=>p1 g G1 H1 σ _ k1 λv2 e2 G2 H2 Δ2 k2 s2 r2 ⟨j,i,ds,q1,q2,q3,q4,q5,p⟩=>?_⟩;subst q1;cases r1.inv;obtain⟨a2,o2,u1,u2,u3,u4,u5⟩:=k2.own j _ _ q2 rfl;obtain⟨rfl,_⟩:=u5;cases o2 with
  |lst vs=>
   have u3:Reps K G2 vs ds:=u3;refine⟨_,vs,i,v2,rfl,rfl,u2,by rw[u3.length];exact q3,q4,q5,?_⟩;have k3:=k2.write q2 rfl u1 (show OwnRep K G2 (.lst (vs.take (insI vs.length i)++v2::vs.drop (insI vs.length i))) (.lst (ds.take (insI ds.length i)++e2::ds.drop (insI ds.length i))) from by
    rw[u3.length];exact(u3.take _).append (.cons r2 (u3.drop _)))
   exact c.nx σ G2 _ _ k3 p
  |_=>exact absurd u3 (λz=>z)
 |_=>exact absurd w3 (λz=>z)
theorem JS.conv {t:TS}{Δ':Evt}{P:Pst}(hc:∀g G H σ,Ok K g G H σ Δ -> ∃G',Same G G' /\ Ok K g G' H σ Δ') (h:JS K t Δ' P):JS K t Δ P:=λg G H σ E k c=>by
 obtain⟨G',s,k'⟩:=hc g G H σ k;exact h g G' H σ E k' c
theorem Ok.freezeA {g:Gm}{G H:Hp}{σ:St}(k:Ok K g G H σ Δ) {i:Nat}{a:Addr}{ds:List D}(h:Δ[i]?=some (.ownA a (.lst ds))):∃G',Same G G' /\ Ok K g G' H σ (Δ.set i .any)/\Rep K G' (.ref a) (.lst ds):=by
 obtain⟨a',o,w1,w2,w3,w4,w5⟩:=k.own i _ _ h rfl;obtain⟨rfl,w6⟩:=w5;cases o with
 |lst vs=>
  have pd:Pend K g G H σ (Δ.set i .any) a (.lst ds):=by
   refine⟨.lst vs,w2,w3,w4,w6,?_,λj x od' e1 e2 e3=>?_⟩
   ·cases q:g.Xo a with
    |none=>rfl
    |some u=>exact absurd w1 ((k.ext a u q).2.2 i _ _ h rfl)
   ·by_cases hj:j=i
    ·subst hj
     rw[Wb3]at e1;simp at e1;obtain⟨_,e1⟩:=e1;subst e1;cases e2
    ·rw[Wal (Ne.symm hj)]at e1
     exact hj (k.dis j i x _ od' _ a e1 e2 h rfl e3 w1)
  obtain⟨k2,sg,r⟩:=(k.drop i).freeze pd w2;exact⟨_,sg,k2,r⟩
 |_=>exact absurd w3 (λz=>z)
theorem Ok.freezeN {g:Gm}{H:Hp}{σ:St}:∀(cs:List (Addr × List D)) (R T:Evt) (G:Hp),Ok K g G H σ (R++cs.map (λc=>Slot.ownA c.1 (.lst c.2))++T) →
  ∃G',Same G G' /\ Ok K g G' H σ (R++Wae cs.length .any++T)/\∀c∈cs,Rep K G' (.ref c.1) (.lst c.2)
 |[],R,T,G,k=>⟨G,Same.refl _,by simpa using k,λc hc=>nomatch hc⟩
 |c::r,R,T,G,k=>by
  have hi:(R++(c::r).map (λc=>Slot.ownA c.1 (.lst c.2))++T)[R.length]?=some (.ownA c.1 (.lst c.2)):=by simp
  obtain⟨G1,s1,k1,r1⟩:=k.freezeA hi;have e:(R++(c::r).map (λc=>Slot.ownA c.1 (.lst c.2))++T).set R.length .any=(R++[.any])++r.map (λc=>Slot.ownA c.1 (.lst c.2))++T:=by
   simp[List.set_append_right]
  rw[e]at k1;obtain⟨G2,s2,k2,r2⟩:=Ok.freezeN r (R++[.any]) T G1 k1;refine⟨G2,s1.trans s2,?_,λd hd=>?_⟩
  ·have e2:(R++[Slot.any])++Wae r.length Slot.any++T=R++Wae (c::r).length Slot.any++T:=by
    rw[Wam,Wc3];simp
   rw[e2]at k2;exact k2
  ·rcases Wan.mp hd with e|hd
   ·subst e;exact r1.mono s2
   ·exact r2 d hd
theorem Ok.thaw {g:Gm}{G H:Hp}{σ:St}{cs:List (Addr × List D)}{R T:Evt}{i:Nat}(k:Ok K g G H σ (R++cs.map (λc=>Slot.ownA c.1 (.lst c.2))++T)) (hi:R[i]?=some (.val (.lst (cs.map λc=>D.adr c.1)))) :
  ∃G',Same G G' /\ Ok K g G' H σ (R.set i (.val (.lst (cs.map λc=>D.lst c.2)))++Wae cs.length .any++T):=by
 have hlt:i<R.length:=(Wag.mp hi).1;obtain⟨v,h1,h2⟩:=k.val i _ (by rw[Wcl,Way hlt];exact hi);obtain⟨G1,s1,k1,r1⟩:=Ok.freezeN cs R T G k;refine⟨G1,s1,?_⟩;have rr:Rep K G1 v (.lst (cs.map λc=>D.lst c.2)):=by
  cases h2 with
  |lst ha rs=>
   refine .lst (s1 _ _ ha) ?_;have key:∀(l:List (Addr × List D)) (vs:List V),(∀c∈l,Rep K G1 (.ref c.1) (.lst c.2))->Reps K G vs (l.map λc=>D.adr c.1)->Reps K G1 vs (l.map λc=>D.lst c.2):=by
    intro l
    induction l with
    |nil=>intro vs _ h;cases h;exact .nil
    |cons c r ih=>
     intro vs hc h;cases h with
     |cons h1 h2=>
      cases h1;exact .cons (hc c Wa8) (ih _ (λd hd=>hc d (Wau _ hd)) h2)
   exact key cs _ r1 rs
 have k2:=k1.setVal' i rr;have e1:σ.set i (some v) = σ:=by
  apply Wbw;intro j;by_cases hj:j=i
  ·subst hj;rw[Wak (by obtain⟨z,_⟩:=Wag.mp h1;exact z),h1]
  ·rw[Wal (Ne.symm hj)]
 rw[e1]at k2;have e2:(R++Wae cs.length Slot.any++T).set i (.val (.lst (cs.map λc=>D.lst c.2)))=R.set i (.val (.lst (cs.map λc=>D.lst c.2)))++Wae cs.length Slot.any++T:=by
  rw[Wcl,Wcl,List.set_append_left _ _ hlt]
 rw[e2]at k2;exact k2
end
section
variable {X:Cx}(K:W.Frag)
theorem ixK (hu:X.A.units+1<cLine) (hK:X.K=K:=by rfl):IxR X (rIxU K):=hK ▸ ixU hu
theorem slK (hK:X.K=K:=by rfl):SlR X (rSlU K):=hK ▸ slU
theorem addK (hK:X.K=K:=by rfl):OpR X (binaryOp .Add) (rAddU K):=hK ▸ Zok
theorem lenK (hK:X.K=K:=by rfl):CallR X (.builtin "len") (rLenU K):=hK ▸ Zlh
def rTup (K:W.Frag):List V->Hp->VK->Prop:=λxs H Q=>∃p ys,xs=[.ref p]/\((SqL K H p ys/\∀l,H l=none->Q (.ref l) (upd H l (.tup ys)))\/(SqT K H p ys/\Q (.ref p) H))
theorem tupK (hK:X.K=K:=by rfl):CallR X (.type "tuple") (rTup K):=hK ▸ Zf8
def rLst (K:W.Frag):List V->Hp->VK->Prop:=λxs H Q=>∃p ys,xs=[.ref p]/\(SqL K H p ys\/SqT K H p ys)/\∀l,H l=none->Q (.ref l) (upd H l (.lst ys))
theorem idxK (hK:X.K=K:=by rfl):MtM X "tuple.index" (rIndexT K):=hK ▸ Zez
theorem seqK {tg l:Expr}{tl:TE}(hl:PE X l tl) (hK:X.K=K:=by rfl):PI X tg l (iSeq K tl):=hK ▸ Zqt hl
theorem truK {a:Expr}{ta:TE}(ha:PE X a ta) (he:∀whole,isTrue a X.env whole=(do let v ← whole;standAt a.pos;holding [v] (truthy v))) (hK:X.K=K:=by rfl):PT X a (tTru K ta):=hK ▸ Zpt ha he
theorem gtupK {es:List Expr}{k:Nat}{t:TGs}{n:Nat}{pos:Pos}(hc:X.calm=true) (h:PGs X es t)
  (hn:(assignEach es X.env).length=n:=by rfl) (hst:(assignEach es X.env).findIdx? (·.1)=none:=by rfl) (hK:X.K=K:=by rfl):PG X (.Tuple es k pos) (gTup K n t):=hK ▸ Zqr hc h hn hst
variable {o e:Expr}{es:List Expr}{to:TE}{t:TA}{name:Str}{apos cpos:Pos}{T id:String}{r:V->List V->Hp->VK->Prop}
theorem bmK (pa:PlainAttrs T) (slot:PySem.Slot T name id) (hty:typeOf (.builtin id)=pure (.type "method_descriptor")) (hm:MtR X id r) (ho:PE X o to) (ha:PA X (e::es) t)
  (hbase:attributeBase o name X.env (eval o X.env)=eval o X.env:=by rfl)
  (hfew:((backTo cpos (starEach (e::es) X.env)).all (λx=>!x.1) && (backToKw cpos (keywordEach [] X.env)).all (λx=>x.1.isSome)
   && decide ((e::es).length+([]:List Keyword).length+(if ([]:List Keyword).isEmpty then 0 else 1)<30))=true:=by rfl)
  (hline:(apos.endLine == cpos.line)=true:=by rfl) (hs:starEach (e::es) X.env=(false,eval e X.env)::starEach es X.env:=by rfl) (hplain:(backTo cpos (starEach es X.env)).any (·.1)=false:=by rfl) (hK:X.K=K:=by rfl) :
  PE X (.Call (.Attribute o name apos) (e::es) [] cpos) (tBM K T r to t):=hK ▸ Zrx pa slot hty hm ho ha hbase hfew hline hs hplain
end
section
variable {K:W.Frag}{Δ:Evt}{P:D->Evt->Prop}
theorem Zec {ds es:List D}(he:ds=[.lst es]\/ds=[.tup es]) (p:P (.tup es) Δ):JC K (rTup K) ds Δ P:=Zm3 he p
theorem Znp {ds es:List D}(he:ds=[.lst es]\/ds=[.tup es]) (p:P (.lst es) Δ):JC K (rLst K) ds Δ P:=λg G H σ Q vs k rs c=>by
 rcases he with he|he <;> subst he
 ·obtain⟨_,_,rfl,r,t⟩:=rs.inv
  next=>
   cases t.inv;obtain⟨_,_,rfl,ha,rs⟩:=r.inv
   next=>
    refine⟨_,_,rfl,.inl (SqL.of (k.live _ _ ha)),λl hl=>?_⟩;obtain⟨k2,sg⟩:=k.laid hl (.lst _);exact c _ _ _ _ Δ k2 sg (.lst Zao (rs.mono sg)) p
 ·obtain⟨_,_,rfl,r,t⟩:=rs.inv
  next=>
   cases t.inv;obtain⟨_,_,rfl,ha,rs⟩:=r.inv
   next=>
    refine⟨_,_,rfl,.inr (SqT.of (k.live _ _ ha)),λl hl=>?_⟩;obtain⟨k2,sg⟩:=k.laid hl (.lst _);exact c _ _ _ _ Δ k2 sg (.lst Zao (rs.mono sg)) p
theorem Zml {sel:List Nat}{wi:TI}{tc:TT}{te:TE}{Po:List OD->Evt->Prop}(hsel:sel.Nodup)
  (h:JI K wi Δ λds Δ1=>ds.length<sizeLine/\∃(p:D->Bool) (f:D->OD),
   (∀(i:Nat) d,ds[i]?=some d->JT K tc (.val d::fixD sel Δ1) λb Δ4=>b=p d/\if b=true then JO K te Δ4 λe Δ5=>e=f d/\∃x,Δ5=x::fixD sel Δ1 else ∃x,Δ4=x::fixD sel Δ1) ∧
   Po ((ds.filter p).map f) Δ1):JN K (tComp 1 sel wi (gName 0) tc te) Δ Po:=by
 refine Zoc hsel λg G H σ R k c=>h g G H σ R k λJ ds G' H' Δ' k' s' it ⟨z,p,f,ht,he⟩=>c J ds G' H' Δ' k' s' it ⟨z,λi ys Δ=>ys=((ds.take i).filter p).map f/\∃x,Δ = x::fixD sel Δ',⟨by simp,.any,rfl⟩,?_,?_⟩
 ·rintro i d ys Δ2 hd ⟨rfl,x,rfl⟩
  have tk:ds.take (i+1)=ds.take i++[d]:=by
   rw[Wck,hd];rfl
  refine Zhp (by decide) ?_;intro g G H σ Q k c;refine ht i d hd g G H σ Q k λb G1 H1 Δ1 k1 s1 ⟨e1,q⟩=>c b G1 H1 Δ1 k1 s1 ?_;cases b with
  |true=>
   rw[if_pos rfl]at q ⊢;intro g G H σ Q k c;refine q g G H σ Q k λa od G2 H2 Δ2 k2 s2 pd ⟨e2,x,e3⟩=>c a od G2 H2 Δ2 k2 s2 pd ⟨?_,x,e3⟩;rw[tk,Wbr,Wa6,Wbn,<- e1,e2];rfl
  |false=>
   rw[if_neg Wat]at q ⊢;obtain⟨x,e3⟩:=q;refine⟨?_,x,e3⟩;rw[tk,Wbr,Wa6,Wbn,<- e1];simp
 ·rintro ys Δ2 ⟨rfl,x,rfl⟩
  rw[Wbt,show (x::fixD sel Δ')=[x]++fixD sel Δ' from rfl,Zd7 (by simp)];exact he
end
def fLaw:DSp:=λds Post=>∃ns:List Int,ds=[.scr (ns.map .int)]/\ns.length<=63/\Post (.bl true)
def spLaw (K:W.Frag):Sp:=λvs H Q _=>∃(a:Addr) (ns:List Int),vs=[.ref a]/\SqL K H a (ns.map V.int)/\ns.length<=63/\∀H',Q (.bl true) H'
theorem Zm2 {K:W.Frag}{vs:List V}{H:Hp}{Q:VK}{E:XK}(h:spLaw K vs H Q E):spD K fLaw vs H Q E:=by
 obtain⟨a,ns,rfl,hs,hl,q⟩:=h;refine⟨H,[.scr (ns.map .int)],λd=>d=.bl true,Same.refl _,.cons (.scr hs (Reps.ofInts ns)) .nil,⟨ns,rfl,hl,rfl⟩,λr H' d sh rr e=>?_⟩;subst e;cases rr.inv;exact q H'
theorem walk_law {l:PySem.W.OpenLaw}{q:Program}{loose:List Str}{XP:(Str->Option Value)->Heap->Prop}{YP:World->Heap->Prop}{d:DefRec}{K:Params->W.Frag}{k:Nat}{x:Str}(hk:Room k callerA) (hn:l.most=some 63) (hdf:d.params.defaults=[])
  (hY:∀(w:World) (h:Heap),YP w h->(K w.params).In h)
  (F:∀(w:World) (mg:Str->Option Value) (fa:Addr) (h:Heap),(K w.params).In h->h.Ns mainGlobals mg->mg d.name=some (.ref fa) →
   ∃fd:FuncData,(∀(s:Shared) (u:Value),BindsTo s fd ⟨[u],[]⟩ [(x,u)])/\∀base:Heap,(K w.params).In base->base.Ns mainGlobals mg->FnOk l.prog w (K w.params) mg base CX0 k fa fd [x] (spD (K w.params) fLaw)) :
  PySem.W.WalkO q loose XP YP l.row.toRowW d [] (λf vs=>PySem.call f vs):=
 L2.walk_of (n:=63) (k:=k) (x:=x) (CX:=λ_=>CX0) (sp:=λw=>spLaw (K w.params)) hn (by decide) hdf hk hY
  (λw mg fa h h1 h2 h3=>by
   obtain⟨fd,b,f⟩:=F w mg fa h h1 h2 h3;exact⟨fd,b,λbase kb nb=>(f base kb nb).imp λvs H Q E z=>Zm2 z⟩)
  (λ_ _ a ns hl _ hS=>⟨a,ns,rfl,hS,hl,λ_=>rfl⟩) λ_ _ _ _ _ z=>z
section
variable {prog:Program}{w:World}{A:Around}{E:Value->Shared->Prop}{s:Shared}
end
section
variable {K:W.Frag}{Δ:Evt}
end
section
variable {X:Cx}
end
open PySem PySem.Spec PyProof.Rows PySem.SeqAt
def RowAt (h:Heap) (v:Value) (r:List Int):Prop:=∃(a:Addr) (its:List Value),v=.ref a/\IsTup h a its.toArray/\IntsAre its r
theorem RowAt.keep {h h':Heap}{v:Value}{r:List Int}(x:RowAt h v r) (k:∀b o,h.get? b=some o->h'.get? b=some o):RowAt h' v r:=by
 obtain⟨a,its,e,⟨o,ho,hc⟩,i⟩:=x;exact⟨a,its,e,⟨o,k a o ho,hc⟩,i⟩
section
variable {X:Cx}
def rInU (K:W.Frag) (neg:Bool):R2:=λx y H Q=>rIn K neg x y H Q\/(∃a o,y=.ref a/\DGet H a x o/\Q (.bl (if neg then !o.isSome else o.isSome)) H) ∨
 ∃a S n i,y=.ref a/\x=.int i/\H a=some (.set S n)/\Q (.bl (if neg then !S i else S i)) H
theorem notinK (K:W.Frag) (hu:X.A.units+1<cLine) (hK:X.K=K:=by rfl):OpR X (compareOp .NotIn) (rInU K true):=by
 subst hK;intro pins s σ H x y v u Q I rx ry h;rcases h with h|⟨a,o,rfl,hd,q⟩|⟨a,S,n,i,rfl,rfl,hs,q⟩
 ·exact Zg6 pins s σ H x y v u Q I rx ry h
 ·cases ry
  exact Zoo hu I hd rx λs' I'=>⟨.bl _,H,I',rfl,q⟩
 ·cases ry
  obtain⟨t,rfl⟩:=rx;exact wpAny_notInSet_of (knd:=intKind X.prog X.w) (k:=i) (by simp[intKind,Value.isInt]) rfl (I.hok a _ hs) ⟨.bl _,H,I.tok _,rfl,q⟩
def rIndexL (K:W.Frag):V->List V->Hp->VK->Prop:=λx vs H Q=>∃(a:Addr) (ns:List Int) (i:Int),x=.ref a/\vs=[.int i]/\SqL K H a (ns.map V.int)/\ns.length<=1000/\i∈ns/\Q (.int (ns.idxOf i:Nat)) H
theorem idxLK (K:W.Frag) (hK:X.K=K:=by rfl):MtM X "list.index" (rIndexL K):=by
 subst hK;intro pins s σ H x vs v us Q I rx rv h;obtain⟨a,ns,i,rfl,rfl,hx,hl,hm,q⟩:=h;cases rx;obtain⟨u,rfl,ru⟩:=rv.one;obtain⟨t,rfl⟩:=ru;obtain⟨its,r,pl,hz⟩:=I.list hx;have hi:=Zd4 r;have hlen:=hi.length;obtain⟨⟨cls,dd,data,sl⟩,ho,hc,n,hd⟩:=pl.isList;simp only at hc hd;subst hc hd;have hj:ns.idxOf i<ns.length:=List.idxOf_lt_length_iff.mpr hm;refine call_meets PySem.F.slot_list_index ⟨_,ho,rfl⟩ PySem.F.entry_list_index (PySem.F.args_list_index_2 _ _)
  (list_indexAt a its.toArray n dd sl (.int i t) (isInt i) (ns.idxOf i) (by simpa [hlen] using hj) (by omega) ?_ ?_) ⟨ho,λy hy=>(eq_isInt i t hi y (by simpa using hy)).at _ _,⟨.int _,H,I.tok _,⟨_,rfl⟩,q⟩⟩
 ·show isInt i its[ns.idxOf i]=true
  rw[isInt_at i hi _ (by omega) hj];simpa using List.getElem_idxOf hj
 ·intro j hjs hlt
  show isInt i its[j]=false;rw[isInt_at i hi j (by simpa using hjs) (by omega)];exact ne_of_lt_idxOf hlt _
end
section
variable {K:W.Frag}{Δ:Evt}{P:D->Evt->Prop}
theorem Zl1 (i:Int) (ns:List Int):inV (.int i) (ns.map V.int)=decide (i∈ns):=by
 unfold inV;rw[List.any_map]
 induction ns with
 |nil=>rfl
 |cons n ns ih=>
  rw[Wcp,ih];show ((n == i) || decide (i∈ns))=_;by_cases h:n=i
  ·subst h;simp
  ·rw[beq_eq_false_iff_ne.mpr h,Bool.false_or]
   have:(i∈n::ns)↔i∈ns:=by simp[Ne.symm h]
   exact decide_eq_decide.mpr this.symm
theorem Zll (ns:List Int):(ns.map V.int).all flatV=true:=by rw[List.all_map];exact Wbu.mpr λ_ _=>rfl
theorem Zet {to te:TE}(h:JE K to Δ λd Δ1=>∃ns:List Int,d=.lst (ns.map D.int)/\ns.length<=1000/\JE K te Δ1 λe Δ2=>∃i,e=.int i/\i∈ns/\P (.int (ns.idxOf i:Nat)) Δ2) :
  JE K (tBM K "list" (rIndexL K) to (tCons te tNil)) Δ P:=λg G H σ Q k c=>
 h g G H σ _ k λv d G1 H1 Δ1 k1 s1 r1 hq_=>by
  obtain⟨ns,e,hl,p1⟩:=hq_;subst e;obtain⟨a,vs,rfl,ha,rs⟩:=r1.inv
  next=>
   refine⟨.inl ⟨rfl,_,SqL.of (k1.live _ _ ha)⟩,p1 g G1 H1 σ _ k1 λu e G2 H2 Δ2 k2 s2 r2 ⟨i,q1,q2,p⟩=>?_⟩;subst q1;cases r2.inv;have ev:vs=ns.map V.int:=rs.ints;subst ev;exact⟨a,ns,i,rfl,rfl,SqL.of (k2.live _ _ (s2 _ _ ha)),hl,q2,c _ _ G2 H2 Δ2 k2 (s1.trans s2) (.int _) p⟩
def rowD (r:List Int):D:=.tup (r.map D.int)
end
theorem Zi9 {A:Around}{k:Nat}(hr:Room k A):A.units+8<cLine:=Wch (Nat.add_le_add_left (by decide:8<=64) _) hr.units
open PySem PySem.Spec PyProof.Rows PySem.SeqAt
def flatD:D->Option V
 |.non=>some .non
 |.bl b=>some (.bl b)
 |.int i=>some (.int i)
 |.str x=>some (.str x)
 |_=>none
def eqFlat (d e:D):Bool:=match flatD d,flatD e with
 |some x,some y=>eqV x y
 |_,_=>false
def eqF:Nat->D->D->Bool
 |0,_,_=>false
 |n+1,.tup xs,.tup ys=>xs.length == ys.length && (xs.zip ys).all λp=>eqF n p.1 p.2
 |n+1,.lst xs,.lst ys=>xs.length == ys.length && (xs.zip ys).all λp=>eqF n p.1 p.2
 |_+1,d,e=>eqFlat d e
def Dp:Nat->D->Prop
 |0,_=>False
 |_+1,.int _=>True
 |n+1,.tup xs=>∀d∈xs,Dp n d
 |n+1,.lst xs=>∀d∈xs,Dp n d
 |_,_=>False
theorem Rep.uniq {K:W.Frag}{G:Hp}:∀(n:Nat) {v:V}{d e:D},Rep K G v d->Rep K G v e->Dp n d->Dp n e->d=e
 |0,_,_,_,_,_,h,_=>h.elim
 |n+1,v,d,e,hd,he,pd,pe=>by
  have all:∀{vs:List V}{xs ys:List D},Reps K G vs xs->Reps K G vs ys->(∀d∈xs,Dp n d)->(∀d∈ys,Dp n d)->xs=ys:=by
   intro vs
   induction vs with
   |nil=>intro xs ys h1 h2 _ _;cases h1;cases h2;rfl
   |cons v vs ih=>
    intro xs ys h1 h2 p1 p2;cases h1 with
    |cons a1 b1=>
     cases h2 with
     |cons a2 b2=>
      rw[Rep.uniq n a1 a2 (p1 _ Wa8) (p2 _ Wa8),ih b1 b2 (λd hd=>p1 d (Wau _ hd)) λd hd=>p2 d (Wau _ hd)]
  cases d with
  |int i=>cases hd;cases he;rfl
  |tup xs=>
   cases hd with
   |tup ha ra=>
    cases e with
    |tup ys=>cases he with|tup hb rb=>rw[ha]at hb;cases hb;rw[all ra rb pd pe]
    |lst ys=>cases he with|lst hb rb=>rw[ha]at hb;cases hb
    |int i=>cases he
    |_=>exact pe.elim
  |lst xs=>
   cases hd with
   |lst ha ra=>
    cases e with
    |lst ys=>cases he with|lst hb rb=>rw[ha]at hb;cases hb;rw[all ra rb pd pe]
    |tup ys=>cases he with|tup hb rb=>rw[ha]at hb;cases hb
    |int i=>cases he
    |_=>exact pe.elim
  |_=>exact pd.elim
theorem Zfx:∀(n:Nat) (d:D),Dp n d->eqF n d d=true
 |0,_,h=>h.elim
 |n+1,.int i,_=>by show (i == i)=true;simp
 |n+1,.tup xs,h=>by
  show (xs.length == xs.length && (xs.zip xs).all λp=>eqF n p.1 p.2)=true;rw[beq_self_eq_true,Wc9,Wbu];intro p hp;obtain⟨i,hi⟩:=Wbo.mp hp;rw[Wcb]at hi;have e:p.1=p.2:=Wa5.inj (hi.1.symm.trans hi.2);rw[<- e];exact Zfx n _ (h _ (Wa2 hi.1))
 |n+1,.lst xs,h=>by
  show (xs.length == xs.length && (xs.zip xs).all λp=>eqF n p.1 p.2)=true;rw[beq_self_eq_true,Wc9,Wbu];intro p hp;obtain⟨i,hi⟩:=Wbo.mp hp;rw[Wcb]at hi;have e:p.1=p.2:=Wa5.inj (hi.1.symm.trans hi.2);rw[<- e];exact Zfx n _ (h _ (Wa2 hi.1))
 |_+1,.non,h=>h.elim
 |_+1,.bl _,h=>h.elim
 |_+1,.str _,h=>h.elim
 |_+1,.ty _,h=>h.elim
 |_+1,.scr _,h=>h.elim
 |_+1,.adr _,h=>h.elim
 |_+1,.dct _ _,h=>h.elim
 |_+1,.exc _ _,h=>h.elim
def atZip (n:Nat) (xs ys:List D) (j:Nat):Bool:=match xs[j]?,ys[j]? with
 |some a,some b=>eqF n a b
 |_,_=>false
theorem Zh3 (n:Nat):∀(xs ys:List D),(Waz (min xs.length ys.length)).all (atZip n xs ys)=(xs.zip ys).all λp=>eqF n p.1 p.2
 |[],ys=>by simp
 |_::_,[]=>by simp
 |x::xs,y::ys=>by
  rw[Wam,Wam,Nat.succ_min_succ,List.range_succ_eq_map,Wcw,List.all_map,Wby,Wcw,<- Zh3 n xs ys];rfl
section
variable {X:Cx}
theorem Znm:∀(n:Nat) {A:Around}{pins:List (Addr × Obj)}{σ:St}{H G:Hp}{s:Shared}{x y:V}{v u:Value}{d e:D},Inv X pins σ H s->Same G H->Rep X.K G x d->Rep X.K G y e->RelV x v->RelV y u->Dp n d->Dp n e->A.units+n<cLine →
  EqAt A s v u (eqF n d e)/\(∀a b,v=.ref a->u=.ref b->RcAt A s v u (eqF n d e))
 |0,_,_,_,_,_,_,_,_,_,_,_,_,_,_,_,_,_,_,h,_,_=>h.elim
 |n+1,A,pins,σ,H,G,s,x,y,v,u,d,e,I,sg,rx,ry,rv,ru,pd,pe,hu=>by
  have hu0:A.units<cLine:=by omega
  have hu1:A.in1.units+n<cLine:=by show A.units+1+n<cLine;omega
  have items:∀{vs us:List V}{its its2:List Value}{xs ys:List D},Vals vs its->Vals us its2->Reps X.K G vs xs->Reps X.K G us ys->(∀d∈xs,Dp n d)->(∀d∈ys,Dp n d) →
    ∀j (h1:j<its.toArray.size) (h2:j<its2.toArray.size),EqAt A.in1 s its.toArray[j] its2.toArray[j] (atZip n xs ys j):=by
   intro vs us its its2 xs ys w1 w2 r1 r2 p1 p2 j h1 h2;have l1:=w1.length;have l2:=r1.length;have l3:=w2.length;have l4:=r2.length;have h1':j<its.length:=by simpa using h1
   have h2':j<its2.length:=by simpa using h2
   have hx:j<xs.length:=by omega
   have hy:j<ys.length:=by omega
   obtain⟨a,ha1,ha2⟩:=r1.get (Waa hx);obtain⟨b,hb1,hb2⟩:=r2.get (Waa hy);obtain⟨va,hv1,hv2⟩:=w1.get ha1;obtain⟨vb,hw1,hw2⟩:=w2.get hb1;have e1:its.toArray[j]=va:=by
    rw[Waa h1']at hv1;simpa using Wa5.inj hv1
   have e2:its2.toArray[j]=vb:=by
    rw[Waa h2']at hw1;simpa using Wa5.inj hw1
   have e3:atZip n xs ys j=eqF n xs[j] ys[j]:=by unfold atZip;rw[Waa hx,Waa hy]
   rw[e1,e2,e3];exact(Znm n I sg ha2 hb2 hv2 hw2 (p1 _ (Wba hx)) (p2 _ (Wba hy)) hu1).1
  have same:∀a,v=.ref a->u=.ref a->eqF (n+1) d e=true:=λa h1 h2=>by
   have hx:x=.ref a:=by cases x <;> simp[RelV,h1]at rv <;> first|(rw[rv])|skip
   have hy:y=.ref a:=by cases y <;> simp[RelV,h2]at ru <;> first|(rw[ru])|skip
   rw[hx]at rx;rw[hy]at ry;rw[Rep.uniq (n+1) rx ry pd pe];exact Zfx (n+1) e pe
  have lift:(∃a,v=.ref a)->(∃b,u=.ref b)->(∀a b,v=.ref a->u=.ref b->RcAt A s v u (eqF (n+1) d e))->EqAt A s v u (eqF (n+1) d e)/\(∀a b,v=.ref a->u=.ref b->RcAt A s v u (eqF (n+1) d e)):=by
   rintro⟨a,rfl⟩ ⟨b,rfl⟩ h;refine⟨?_,h⟩;by_cases hab:a=b
   ·subst hab
    rw[same a rfl rfl];exact EqAt.same _
   ·exact .of_refs hab (h a b rfl rfl)
  cases d with
  |int i=>
   cases rx;obtain⟨t,rfl⟩:=rv;refine⟨?_,λa b z=>nomatch z⟩;cases e with
   |int j=>
    cases ry;obtain⟨t',rfl⟩:=ru;exact EqAt.int_int i t j t'
   |tup ys=>
    cases ry with
    |tup hb rb=>
     cases ru;obtain⟨its,w1,pl,_⟩:=I.tuple (SqT.of (sg _ _ hb));exact EqAt.int_tuple i t pl hu0
   |lst ys=>
    cases ry with
    |lst hb rb=>
     cases ru;obtain⟨its,w1,pl,_⟩:=I.list (SqL.of (sg _ _ hb));exact EqAt.int_list i t pl.isList hu0
   |_=>exact pe.elim
  |tup xs=>
   cases rx with
   |@tup a vs _ ha ra=>
    cases rv;obtain⟨its,w1,pl,_⟩:=I.tuple (SqT.of (sg _ _ ha));cases e with
    |int j=>
     cases ry;obtain⟨t',rfl⟩:=ru;exact⟨EqAt.tuple_int j t' pl hu0,λa b _ z=>nomatch z⟩
    |tup ys=>
     cases ry with
     |@tup b us _ hb rb=>
      cases ru;obtain⟨its2,w2,pl2,_⟩:=I.tuple (SqT.of (sg _ _ hb));refine lift ⟨_,rfl⟩ ⟨_,rfl⟩ λ_ _ _ _=>?_;have z:=RcAt.tuples (A:=A) (s:=s) pl pl2 hu0 (items w1 w2 ra rb pd pe);have e1:((Waz (min its.toArray.size its2.toArray.size)).all (atZip n xs ys) && its.toArray.size == its2.toArray.size)=eqF (n+1) (.tup xs) (.tup ys):=by
       show _=(xs.length == ys.length && (xs.zip ys).all λp=>eqF n p.1 p.2);rw[<- Zh3,Wah,Wah,<- w1.length,<- w2.length,ra.length,rb.length,Bool.and_comm]
      rw[e1]at z;exact z
    |lst ys=>
     cases ry with
     |@lst b us _ hb rb=>
      cases ru;obtain⟨its2,w2,pl2,_⟩:=I.list (SqL.of (sg _ _ hb));exact⟨EqAt.tuple_list pl pl2.isList hu0,λ_ _ _ _=>RcAt.tuple_list pl pl2.isList hu0⟩
    |_=>exact pe.elim
  |lst xs=>
   cases rx with
   |@lst a vs _ ha ra=>
    cases rv;obtain⟨its,w1,pl,_⟩:=I.list (SqL.of (sg _ _ ha));cases e with
    |int j=>
     cases ry;obtain⟨t',rfl⟩:=ru;exact⟨EqAt.list_int j t' pl.isList hu0,λa b _ z=>nomatch z⟩
    |tup ys=>
     cases ry with
     |@tup b us _ hb rb=>
      cases ru;obtain⟨its2,w2,pl2,_⟩:=I.tuple (SqT.of (sg _ _ hb));exact⟨EqAt.list_tuple pl.isList pl2 hu0,λ_ _ _ _=>RcAt.list_tuple pl.isList pl2 hu0⟩
    |lst ys=>
     cases ry with
     |@lst b us _ hb rb=>
      cases ru;obtain⟨its2,w2,pl2,_⟩:=I.list (SqL.of (sg _ _ hb));refine lift ⟨_,rfl⟩ ⟨_,rfl⟩ λ_ _ _ _=>?_;have l1:=w1.length;have l2:=w2.length;have l3:=ra.length;have l4:=rb.length;by_cases hl:xs.length=ys.length
      ·have hsz:its.toArray.size=its2.toArray.size:=by rw[Wah,Wah];omega
       have z:=RcAt.lists (A:=A) (s:=s) pl.isList pl2.isList hsz hu0 (items w1 w2 ra rb pd pe);have e1:(Waz its.toArray.size).all (atZip n xs ys)=eqF (n+1) (.lst xs) (.lst ys):=by
        show _=(xs.length == ys.length && (xs.zip ys).all λp=>eqF n p.1 p.2);rw[<- Zh3,Wah,hl,beq_self_eq_true,Wc9,Nat.min_self,show its.length=ys.length by omega]
       rw[e1]at z;exact z
      ·have z:=RcAt.lists_lengths (A:=A) (s:=s) pl.isList pl2.isList (by rw[Wah,Wah];simp;omega) hu0
       have e1:eqF (n+1) (.lst xs) (.lst ys)=false:=by
        show (xs.length == ys.length && (xs.zip ys).all λp=>eqF n p.1 p.2)=false;rw[beq_eq_false_iff_ne.mpr hl,Wct]
       rw[e1];exact z
    |_=>exact pe.elim
  |_=>exact pd.elim
def rEqD (K:W.Frag):R2:=λx y H Q=>∃G d e n,Same G H/\Rep K G x d/\Rep K G y e/\Dp n d/\Dp n e/\n<=5/\(∃a,x=.ref a)/\(∃b,y=.ref b)/\Q (.bl (eqF n d e)) H
theorem eqDK (K:W.Frag) (hv:X.A.units+8<cLine) (hK:X.K=K:=by rfl):OpR X (compareOp .Eq) (rEqD K):=by
 subst hK;intro pins s σ H x y v u Q I rx ry h;obtain⟨G,d,e,n,sg,r1,r2,p1,p2,hn,⟨a,rfl⟩,⟨b,rfl⟩,q⟩:=h;cases rx;cases ry;exact(Znm n I sg r1 r2 rfl rfl p1 p2 (A:=X.A) (by omega)).2 a b rfl rfl X.prog X.w _ _ ⟨.bl _,H,I,rfl,q⟩
theorem Zdf:∀{vs:List Value}{ns:List Int},vs.length=ns.length->(∀(i:Nat) v,vs[i]?=some v->∃t,v=.int (ns.getD i 0) t)->IntsAre vs ns
 |[],[],_,_=>.nil
 |[],_::_,h,_=>by simp at h
 |_::_,[],h,_=>by simp at h
 |v::vs,n::ns,h,g=>by
  obtain⟨t,rfl⟩:=g 0 v rfl;exact .cons n t (Zdf (by simpa using h) λi u e=>by simpa using g (i+1) u (by simpa using e))
def tLR (ta:TA):TE:=λσ H Q=>ta σ H λvs H1=>∃n:Nat,vs=[.int (n:Int)]/\n<=1000/\∀l,H1 l=none->Q (.ref l) (upd H1 l (.lst ((Waz n).map λi:Nat=>V.int (i:Int))))
theorem Zea {a:Expr}{ta:TA}{p p2 pos pos2:Pos}(hc:X.calm=true) (hgL:Gl X "list") (hmL:X.mg "list" = none) (hgR:Gl X "range") (hmR:X.mg "range" = none) (ha:PA X [a] ta) (hs:starEach [a] X.env=[(false,eval a X.env)]:=by rfl)
  (he:starEach [.Call (.Name "range" p2) [a] [] pos2] X.env=[(false,eval (.Call (.Name "range" p2) [a] [] pos2) X.env)]:=by rfl) :
  PE X (.Call (.Name "list" p) [.Call (.Name "range" p2) [a] [] pos2] [] pos) (tLR ta):=by
 intro pins s σ H Q I h;refine wpAny_Call_Name_kw (Zdg I hgL hmL Zow ?_);refine PyProof.Rows.callWith_type1 ?_ he rfl;rw[he];show wpAny _ _ (spliced ((false,eval (.Call (.Name "range" p2) [a] [] pos2) X.env)::backTo pos [])) _ _ s;refine Calls.spliced_cons ?_;refine Call_ (Zdg I hgR hmR boot_range (PyProof.Rows.callWith_type1 (thn (ha pos2 pins s σ H _ I h) λus s1 ⟨vs,H1,I1,r1,q1⟩=>?_) hs rfl));obtain⟨n,e,hn,q⟩:=q1;subst e;cases r1 with
 |cons r rr=>
  cases rr;obtain⟨t,rfl⟩:=r;refine call_range_1 (Calls.spliced_nil ?_);have I2:Inv X pins σ H1 { s1 with heap:=s1.heap.push { cls:=.type "range",data:=.fields #[.int 0 s1.toks,.int (n:Int) t,.int 1 (s1.toks+1)] },toks:=s1.toks+1+1 }:=I1.kept λb o e=>Wac _ e;refine call_list_range (a:=0) (b:=(n:Int)) (c:=1) (n:=n) (I1.ok.hd hc) (IsRange.new ..) (small_one (by decide) (by decide) (by omega) (by omega)) (by rw[rangeSize_one];split <;> omega) (by omega) λh' tk acc c' hk hD hI=>?_
  have hl:acc.size=n:=hI.1;refine⟨.ref _,_,I2.laid (t':=tk) hk (Waj _) (show ObjOk X.prog X.w _ h' _ (.lst ((Waz n).map λi:Nat=>V.int (i:Int))) from ⟨?_,acc.toList,c',?_,?_⟩),rfl,q _ (I2.hok.fresh (Waj _))⟩
  ·rw[Wab,Wbv];exact Wcm (small1000 hn)
  ·have:IntsAre acc.toList ((Waz n).map λi:Nat=>(i:Int)):=by
    refine Zdf (by rw[Array.length_toList,hl,Wab,Wbv]) λi v e=>?_;have hi:i<n:=by
     have:=(Wag.mp e).1;rw[Array.length_toList,hl]at this;exact this
    obtain⟨t',rfl⟩:=hI.2 i v (by rw[<- Array.getElem?_toList];exact e);refine⟨t',?_⟩;rw[Wad,Waf,Wc4 hi];show Value.int (0+(i:Int)*1) t'=Value.int (i:Int) t';rw[Wbq,Int.mul_one]
   have:=Zds this;rw[Wa1]at this;exact this
  ·rw[Array.toArray_toList];exact hD
end
section
variable {K:W.Frag}{Δ:Evt}{P:D->Evt->Prop}
def isSeqD:D->Bool
 |.tup _=>true
 |.lst _=>true
 |_=>false
theorem Zkl {G:Hp}{x:V}{d:D}(r:Rep K G x d) (h:isSeqD d=true):∃a,x=.ref a:=by
 cases r with
 |tup _ _=>exact⟨_,rfl⟩
 |lst _ _=>exact⟨_,rfl⟩
 |_=>cases h
theorem Zro {n:Nat}{d e:D}(hn:n<=5) (pd:Dp n d) (pe:Dp n e) (sd:isSeqD d=true) (se:isSeqD e=true) (p:P (.bl (eqF n d e)) Δ):JR2 K (rEqD K) d e Δ P:=λg G H σ Q x y k rx ry c=>
 ⟨G,d,e,n,k.live,rx,ry,pd,pe,hn,Zkl rx sd,Zkl ry se,c _ _ G H Δ k (Same.refl _) (.bl _) p⟩
theorem Zqc {ta:TA}{Po:OD->Evt->Prop}(h:JA K ta Δ λds Δ1=>∃n:Nat,ds=[.int (n:Int)]/\n<=1000/\Po (.lst ((Waz n).map λi:Nat=>D.int (i:Int))) Δ1):JO K (tLR ta) Δ Po:=λg G H σ Q k c=>
 h g G H σ _ k λvs ds G1 H1 Δ1 k1 s1 r1 hq_=>by
  obtain⟨n,e,hl,p⟩:=hq_;subst e;obtain⟨_,_,rfl,r,t⟩:=r1.inv
  next=>
   cases t.inv;cases r.inv;refine⟨n,rfl,hl,λl hl=>?_⟩;obtain⟨k2,pd⟩:=k1.fresh (od:=.lst ((Waz n).map λi:Nat=>D.int (i:Int))) hl (show OwnRep K G1 (.lst ((Waz n).map λi:Nat=>V.int (i:Int))) (.lst ((Waz n).map λi:Nat=>D.int (i:Int))) from by
    have:=Reps.ofInts (K:=K) (G:=G1) ((Waz n).map λi:Nat=>(i:Int));rw[Wa1,Wa1]at this;exact this)
   exact c l _ G1 _ Δ1 k2 s1 pd p
theorem Zpd {n:Nat}{t1 t2:TE}{x:Slot}{ds0:List D}{nx bk ct:Evt->Prop}{rt:D->Evt->Prop}{ro:OD->Evt->Prop}(hx:Δ[n]?=some x) (ho:x.od=some (.lst ds0))
  (h:JE K t1 Δ λe1 Δ1=>JE K t2 Δ1 λe2 Δ2=>∃y i ds,e1=.int i /\ Δ2[n]?=some y/\y.od=some (.lst ds)/\ds.length<sizeLine /\ -(2 ^ 62)<=i/\i<2 ^ 62/\nx (Δ2.set n (y.put (.lst (ds.take (insI ds.length i)++e2::ds.drop (insI ds.length i)))))) :
  JS K (tDrop (tBM K "list" rInsert (tVar n) (tCons t1 (tCons t2 tNil)))) Δ ⟨nx,rt,bk,ct,ro⟩:=λg G H σ E k c=>by
 obtain⟨a,o,h1,h2,h3,h4,h5⟩:=k.own n x _ hx ho;cases o with
 |lst vs0=>
  refine⟨.ref a,h1,.inl ⟨rfl,_,SqL.of h2⟩,h g G H σ _ k λv1 e1 G1 H1 Δ1 k1 s1 r1 p1=>p1 g G1 H1 σ _ k1 λv2 e2 G2 H2 Δ2 k2 s2 r2 ⟨y,i,ds,q1,q2,q2',q3,q4,q5,p⟩=>?_⟩;subst q1;cases r1.inv;obtain⟨a2,o2,u1,u2,u3,u4,u5⟩:=k2.own n y _ q2 q2';rw[h1]at u1;cases u1;cases o2 with
  |lst vs=>
   have u3:Reps K G2 vs ds:=u3;refine⟨_,vs,i,v2,rfl,rfl,u2,by rw[u3.length];exact q3,q4,q5,?_⟩;have k3:=k2.write q2 q2' h1 (show OwnRep K G2 (.lst (vs.take (insI vs.length i)++v2::vs.drop (insI vs.length i))) (.lst (ds.take (insI ds.length i)++e2::ds.drop (insI ds.length i))) from by
    rw[u3.length];exact(u3.take _).append (.cons r2 (u3.drop _)))
   exact c.nx σ G2 _ _ k3 p
  |_=>exact absurd u3 (λz=>z)
 |_=>exact absurd h3 (λz=>z)
end
open PySem PySem.Spec PyProof.Rows PySem.SeqAt
def Ris (xs:Array Nat):Prop:=∀(i j a b:Nat),i<j->xs[i]?=some a->xs[j]?=some b->a<b
theorem Zf2 (xs:Array Nat) (R:Ris xs) (j:Nat):∀(fuel lo hi:Nat),hi-lo<=fuel->lo<=hi->hi<=xs.size->(∀(i a:Nat),i<lo->xs[i]?=some a->a<j)->(∀(i a:Nat),hi<=i->xs[i]?=some a->j<=a) →
  SetTable.below.go xs j fuel lo hi<=xs.size/\(∀(i a:Nat),i<SetTable.below.go xs j fuel lo hi->xs[i]?=some a->a<j)/\∀(i a:Nat),SetTable.below.go xs j fuel lo hi<=i->xs[i]?=some a->j<=a
 |0,lo,hi,h1,h2,h3,h4,h5=>by
  have:lo=hi:=by omega
  subst this;show lo<=xs.size/\_;exact⟨h3,h4,h5⟩
 |fuel+1,lo,hi,h1,h2,h3,h4,h5=>by
  unfold SetTable.below.go;by_cases hlt:lo<hi
  ·rw[if_pos hlt]
   dsimp only;have hm:(lo+hi) / 2<xs.size:=by omega
   have hg:xs.getD ((lo+hi) / 2) j=xs[(lo+hi) / 2]:=by simp[Array.getD,hm]
   by_cases hc:xs.getD ((lo+hi) / 2) j<j
   ·rw[if_pos hc]
    refine Zf2 xs R j fuel _ _ (by omega) (by omega) h3 (λi a hi' e=>?_) h5;by_cases hi2:i=(lo+hi) / 2
    ·subst hi2
     rw[Array.getElem?_eq_getElem hm]at e;cases e;omega
    ·have:=R i ((lo+hi) / 2) a _ (by omega) e (Array.getElem?_eq_getElem hm)
     omega
   ·rw[if_neg hc]
    refine Zf2 xs R j fuel _ _ (by omega) (by omega) (by omega) h4 λi a hi' e=>?_;by_cases hi2:i=(lo+hi) / 2
    ·subst hi2
     rw[Array.getElem?_eq_getElem hm]at e;cases e;omega
    ·have:=R ((lo+hi) / 2) i _ a (by omega) (Array.getElem?_eq_getElem hm) e
     omega
  ·rw[if_neg hlt]
   have:lo=hi:=by omega
   subst this;exact⟨h3,h4,h5⟩
theorem Zfi {xs:Array Nat}(R:Ris xs) (j:Nat):SetTable.below xs j<=xs.size/\(∀(i a:Nat),i<SetTable.below xs j->xs[i]?=some a->a<j)/\∀(i a:Nat),SetTable.below xs j<=i->xs[i]?=some a->j<=a:=
 Zf2 xs R j xs.size 0 xs.size (by omega) (Wb8 _) (Waj _) (λi a h=>by omega) λi a h e=>by
  have:=(Array.getElem?_eq_some_iff.mp e).1;omega
theorem Zgk {α:Type}(xs:Array α) (p:Nat) (x:α) (h:p<=xs.size):(SetTable.insertAt xs p x).toList=xs.toList.take p++x::xs.toList.drop p:=by
 unfold SetTable.insertAt;rw[Array.toList_append,Array.toList_push,Array.toList_extract,Array.toList_extract];simp[List.extract_eq_take_drop,Wcl];rw[Wcx (by simp)]
theorem Zg0 {α:Type}(xs:Array α) (p:Nat) (x:α) (h:p<=xs.size) (i:Nat):(SetTable.insertAt xs p x)[i]?=if i<p then xs[i]? else if i=p then some x else xs[i-1]?:=by
 rw[<- Array.getElem?_toList,Zgk xs p x h];by_cases h1:i<p
 ·rw[if_pos h1,Way (by rw[Wa4,Array.length_toList];omega),List.getElem?_take_of_lt h1,Array.getElem?_toList]
 ·rw[if_neg h1,Waq (by rw[Wa4,Array.length_toList];omega),Wa4,Array.length_toList,Nat.min_eq_left h]
  by_cases h2:i=p
  ·rw[if_pos h2,h2,Nat.sub_self];rfl
  ·rw[if_neg h2,show i-p=(i-1-p)+1 by omega,List.getElem?_cons_succ,Wcf,Array.getElem?_toList,show p+(i-1-p)=i-1 by omega]
theorem Zo5 {xs:Array Nat}(R:Ris xs) {j:Nat}(hj:xs[SetTable.below xs j]?≠some j):Ris (SetTable.insertAt xs (SetTable.below xs j) j):=by
 obtain⟨b1,b2,b3⟩:=Zfi R j;have b4:∀(i a:Nat),SetTable.below xs j<=i->xs[i]?=some a->j<a:=λi a h e=>by
  have h1:=b3 i a h e;by_cases hi:i=SetTable.below xs j
  ·subst hi
   rcases Nat.lt_or_eq_of_le h1 with z|z
   ·exact z
   ·subst z;exact absurd e hj
  ·obtain⟨s1,s2⟩:=Array.getElem?_eq_some_iff.mp e
   have hlt:SetTable.below xs j<xs.size:=by omega
   have h2:=b3 _ _ (Waj _) (Array.getElem?_eq_getElem hlt);have:=R (SetTable.below xs j) i _ a (by omega) (Array.getElem?_eq_getElem hlt) e;omega
 intro i k a b hik ha hb;rw[Zg0 _ _ _ b1]at ha hb;split at ha
 ·split at hb
  ·exact R i k a b hik ha hb
  ·split at hb
   ·cases hb;exact b2 i a (by omega) ha
   ·exact R i (k-1) a b (by omega) ha hb
 ·split at ha
  ·cases ha
   rw[if_neg (by omega),if_neg (by omega)]at hb;exact b4 (k-1) b (by omega) hb
  ·rw[if_neg (by omega),if_neg (by omega)]at hb
   exact R (i-1) (k-1) a b (by omega) ha hb
theorem Zoa:Ris #[]:=λi j a b _ e=>by simp at e
theorem Zk6 (n:Nat):Ris (Array.range n):=λi j a b h e1 e2=>by
 simp[Array.getElem?_range]at e1 e2;omega
structure TabOk (led:Bool) (t:SetTable):Prop where
 led:t.led=led
 dum:t.dummies = #[]
 ris:Ris t.place
theorem TabOk.fresh (led:Bool):TabOk led (SetTable.fresh 0 0 led):=⟨rfl,rfl,Zoa⟩
theorem TabOk.standIn {led:Bool}{t:SetTable}(h:TabOk led t) (n:Nat):TabOk led (t.standIn n):=⟨h.led,rfl,Zk6 n⟩
theorem Zjf (j:Nat):SetTable.has #[] j=false:=by unfold SetTable.has;simp
theorem Zeo {t:SetTable}(hd:t.dummies = #[]) {hashAt:Nat->Int}{h:Int}:∀(fuel:Nat) (p:SetTable.Probe) {j:Nat}{dm:Option Nat},p.dummy=none->SetTable.probe.go t hashAt h fuel p=some (.empty j dm)->dm=none/\t.place[SetTable.below t.place j]?≠some j
 |0,_,_,_,_,e=>by cases e
 |fuel+1,p,j,dm,hp,e=>by
  unfold SetTable.probe.go at e;have adv:(t.advance p).dummy=none:=by unfold SetTable.advance;split <;> exact hp
  unfold SetTable.slot at e;dsimp only at e;by_cases hl:(t.place[SetTable.below t.place p.j]? == some p.j)=true
  ·rw[if_pos hl]at e
   dsimp only at e;split at e
   ·cases e
   ·exact Zeo hd fuel _ adv e
  ·rw[if_neg hl,hd,Zjf]at e
   simp only[Wbs,if_false]at e;injection e with e
   injection e with e1 e2
   subst e1 e2;exact⟨hp,λz=>hl (by rw[z];simp)⟩
theorem TabOk.put {led:Bool}{t:SetTable}(h:TabOk led t) {j:Nat}(hj:t.place[SetTable.below t.place j]?≠some j):TabOk led (t.put j).1:=by
 refine⟨h.led,?_,Zo5 h.ris hj⟩;show (if SetTable.has t.dummies j=true then _ else t.dummies) = #[];rw[h.dum,Zjf];rfl
theorem TabOk.layNew {led:Bool}{t:SetTable}(h:TabOk led t) (es:Array (Int × Value)) (hs:Int) (x:Value):TabOk led (layNew t es hs x).2.1:=by
 unfold PySem.layNew;unfold SetTable.freeSlot;cases q:t.probe (λ_=>hs+1) hs (t.probeStart hs) with
 |none=>exact h.standIn _
 |some m=>
  cases m with
  |candidate j i p=>exact h.standIn _
  |empty j dm=>
   obtain⟨e1,e2⟩:=Zeo h.dum _ (t.probeStart hs) rfl (show SetTable.probe.go t (λ_=>hs+1) hs (10*SetTable.turns t.mask) (t.probeStart hs)=some (.empty j dm) from q);subst e1;show TabOk led ((t.put j).1.orStandIn _);unfold SetTable.orStandIn;split
   ·exact h.put e2
   ·exact(h.put e2).standIn _
theorem Zls (owner:Array (Option Nat)) (m:Nat):Ris ((((Waz m).filterMap λj=>(owner.getD j none).map (j,·)).map (·.1)).toArray):=by
 have pw:((Waz m).filterMap λj=>(owner.getD j none).map (j,·)).Pairwise (λa b=>a.1<b.1):=by
  rw[List.pairwise_filterMap];refine List.Pairwise.imp ?_ List.pairwise_lt_range;intro a b hab c hc d hd;cases qa:owner.getD a none with
  |none=>rw[qa]at hc;cases hc
  |some k=>
   cases qb:owner.getD b none with
   |none=>rw[qb]at hd;cases hd
   |some l=>
    rw[qa]at hc;rw[qb]at hd;have hc:(a,k)=c:=by simpa using hc
    have hd:(b,l)=d:=by simpa using hd
    subst hc hd;exact hab
 intro i j a b hij ea eb;rw[Wc0,Waf]at ea eb;cases qa:((Waz m).filterMap λj=>(owner.getD j none).map (j,·))[i]? with
 |none=>rw[qa]at ea;cases ea
 |some c=>
  cases qb:((Waz m).filterMap λj=>(owner.getD j none).map (j,·))[j]? with
  |none=>rw[qb]at eb;cases eb
  |some d=>
   rw[qa]at ea;rw[qb]at eb;have ea:c.1=a:=by simpa using ea
   have eb:d.1=b:=by simpa using eb
   subst ea eb;obtain⟨i1,i2⟩:=Wag.mp qa;obtain⟨j1,j2⟩:=Wag.mp qb;have:=List.pairwise_iff_getElem.mp pw i j i1 j1 hij;rw[i2,j2]at this;exact this
theorem TabOk.relay {led:Bool}{t:SetTable}(h:TabOk led t) (es:Array (Int × Value)) (wanted:Nat):TabOk led (relayAll t es wanted).2.1:=by
 unfold PySem.relayAll;cases q:t.relaid (es.map (·.1)) wanted with
 |none=>exact h.standIn _
 |some r=>
  obtain⟨t',order⟩:=r;dsimp only;split
  ·unfold SetTable.relaid SetTable.laid at q
   cases q2:SetTable.layClean (SetTable.sizeAbove wanted-1) (es.map (·.1)) with
   |none=>rw[q2]at q;cases q
   |some owner=>
    rw[q2]at q;have q:_=some (t',order):=q;have e:=congrArg Prod.fst (Wa5.inj q);dsimp only at e;rw[<- e];exact⟨h.led,rfl,Zls owner _⟩
  ·exact h.standIn _
def numOf:Value->Int
 |.int i _=>i
 |_=>0
section
variable {prog:Program}{w:World}
def byTextB (w:World):Bool:=w.params.followText "set-order"
structure SetG (prog:Program) (w:World) (h:Heap) (a:Addr) (o:Obj) (es:Array (Int × Value)) (ep:Nat) (t:SetTable) (ks:List Int):Prop where
 get:h.get? a=some o
 ex:o.ExactSet
 dat:o.data=.set es ep t
 el:ElemsOf (intKind prog w) es.toList
 room:es.size<scanBound
 fit:t.fits es.size=true
 tab:TabOk (!byTextB w) t
 perm:(es.toList.map λe=>numOf e.2).Perm ks
 nd:ks.Nodup
def SetI (prog:Program) (w:World) (h:Heap) (a:Addr) (ks:List Int):Prop:=∃o es ep t,SetG prog w h a o es ep t ks
theorem SetI.keep {h h':Heap}{a:Addr}{ks:List Int}(x:SetI prog w h a ks) (k:∀o,h.get? a=some o->h'.get? a=some o):SetI prog w h' a ks:=by
 obtain⟨o,es,ep,t,g⟩:=x;exact⟨o,es,ep,t,k _ g.get,g.ex,g.dat,g.el,g.room,g.fit,g.tab,g.perm,g.nd⟩
theorem SetG.size {h:Heap}{a:Addr}{o:Obj}{es:Array (Int × Value)}{ep:Nat}{t:SetTable}{ks:List Int}(g:SetG prog w h a o es ep t ks):es.size=ks.length:=by
 have:=g.perm.length_eq;rw[Wab,Array.length_toList]at this;exact this
theorem Zgq {k:Int}{v:Value}(h:(intKind prog w).is k v=true):numOf v=k/\∃t,v=.int k t:=by
 obtain⟨t,rfl⟩:=Value.isInt_shape (show Value.isInt k v=true from h);exact⟨rfl,t,rfl⟩
theorem Zh7 {es:List (Int × Value)}(h:ElemsOf (intKind prog w) es) {e:Int × Value}(he:e∈es):∃t,e.2=.int (numOf e.2) t:=by
 obtain⟨⟨k,hk,_⟩,_⟩:=h e he;obtain⟨h1,t,h2⟩:=Zgq hk;exact⟨t,by rw[h2];rfl⟩
theorem Zkz {es:List (Int × Value)}(h:ElemsOf (intKind prog w) es) {k:Int}:(∃e∈es,(intKind prog w).is k e.2=true)↔k∈es.map λe=>numOf e.2:=by
 rw[Wbm];constructor
 ·rintro⟨e,he,hp⟩;exact⟨e,he,(Zgq hp).1⟩
 ·rintro⟨e,he,rfl⟩
  obtain⟨t,ht⟩:=Zh7 h he;exact⟨e,he,by rw[ht];exact intKind_is _ _ _ _⟩
section
variable {A:Around}{E:Value->Shared->Prop}{s:Shared}
theorem SetG.store {h:Heap}{a:Addr}{o:Obj}{es:Array (Int × Value)}{ep:Nat}{t:SetTable}{ks:List Int}(g:SetG prog w h a o es ep t ks) {es':Array (Int × Value)}{t':SetTable}{ks':List Int}
  (hel:ElemsOf (intKind prog w) es'.toList) (hb:es'.size<scanBound) (hf:t'.fits es'.size=true) (ht:TabOk (!byTextB w) t') (hp:(es'.toList.map λe=>numOf e.2).Perm ks') (hn:ks'.Nodup) :
  SetG prog w (h.update a (Obj.putSet es' t')) a { o with data:=.set es' (ep+1) t' } es' (ep+1) t' ks':=by
 have hg:(h.update a (Obj.putSet es' t')).get? a=some { o with data:=.set es' (ep+1) t' }:=by
  have:=Wbb (Obj.putSet es' t') g.get (by rw[putSet_of es' t' g.dat];rfl);rw[putSet_of es' t' g.dat]at this;exact this
 exact⟨hg,g.ex,rfl,hel,hb,hf,ht,hp,hn⟩
def addE (ks:List Int) (k:Int):List Int:=if k∈ks then ks else ks++[k]
theorem Zmz {a:Addr}{ks:List Int}{k:Int}{tk:Tok}{Q:Bool->Shared->Prop}(hS:SetI prog w s.heap a ks) (hroom:ks.length+1<scanBound)
  (h:∀b h',Heap.SameBut a s.heap h' -> SetI prog w h' a (addE ks k)->Q b { s with heap:=h' }) :
  wpAny (model prog w) A (setAddHashed a (.int k tk) (hashInt k)) Q E s:=by
 obtain⟨o,es,ep,t,g⟩:=hS;have hsz:=g.size;have hkey:(intKind prog w).is k (.int k tk)=true:=intKind_is _ _ _ _;unfold setAddHashed setAddHashedIn;refine wpAny_holding (wpAny_bind (wpAny_setState_of g.get g.dat g.fit ?_));dsimp only;rw[byScan_of (knd:=intKind prog w) rfl g.room g.el];simp only[↓reduceIte];unfold setAddByScan;refine wpAny_bind ?_;refine wpAny_bind (wpAny_rule ?_);refine wpAny_bind (wpAny_setScan_of (knd:=intKind prog w) (k:=k) hkey g.get g.dat g.fit g.el ?_);cases hr:List.findIdx? (λe=>(intKind prog w).is k e.2) es.toList with
 |some j=>
  dsimp only;obtain⟨hj,hpj,_⟩:=List.findIdx?_eq_some_iff_getElem.mp hr;have hk:k∈ks:=g.perm.mem_iff.mp ((Zkz g.el).mp ⟨es.toList[j],Wba hj,hpj⟩);refine wpAny_pure (wpAny_pure ?_);have e:s = { s with heap:=s.heap }:=by cases s;rfl
  rw[e];refine h _ s.heap (Heap.SameBut.refl a s.heap) ?_;unfold addE;rw[if_pos hk];exact⟨o,es,ep,t,g⟩
 |none=>
  dsimp only;have hk:k ∉ ks:=λz=>by
   obtain⟨e,he,hp⟩:=(Zkz g.el).mpr (g.perm.mem_iff.mpr z);have:=List.findIdx?_eq_none_iff.mp hr e he;rw[hp]at this;cases this
  have hgw:∀(b:Bool) {s₁:Shared}{Q':Unit->Shared->Prop},Q' () s₁ -> wpAny (model prog w) A (match b with|true=>rule "set.scan.the-table-gave-way" |false=>pure ()) Q' E s₁:=
   λb s₁ Q' hq=>by cases b <;> first|exact wpAny_pure hq|exact wpAny_rule hq
  have hperm:=layNew_perm t es (hashInt k) (.int k tk);have hfits:=layNew_fits t es (hashInt k) (.int k tk);have htab:=g.tab.layNew es (hashInt k) (.int k tk);generalize hL:layNew t es (hashInt k) (.int k tk)=L at hperm hfits htab ⊢;obtain⟨es1,t1,wasDummy,gave⟩:=L;dsimp only at hperm hfits htab ⊢;rw[Array.toList_push]at hperm;have hel1:ElemsOf (intKind prog w) es1.toList:=(g.el.push (k:=k) hkey rfl).perm hperm;have hsz1:es1.size=es.size+1:=by rw[<- Array.length_toList,hperm.length_eq,Wap,Array.length_toList];rfl
  have hb1:es1.size<scanBound:=by omega
  have hp1:(es1.toList.map λe=>numOf e.2).Perm (ks++[k]):=by
   refine(hperm.map _).trans ?_;rw[Wa6];exact List.Perm.append_right _ g.perm
  have hnd1:(ks++[k]).Nodup:=by
   rw[Wcu];refine⟨g.nd,by simp,λa ha b hb e=>?_⟩;rw[Was.mp hb]at e;exact hk (e ▸ ha)
  have eadd:addE ks k=ks++[k]:=by unfold addE;rw[if_neg hk]
  refine wpAny_bind (hgw _ ?_);have tail:∀(Q2:Option Bool->Shared->Prop),(∀h',Heap.SameBut a s.heap h' -> SetI prog w h' a (ks++[k])->Q2 (some true) { s with heap:=h' })->∀(g0:Bool->Sem Unit),(∀(b:Bool) (s₁:Shared) (Q':Unit->Shared->Prop),Q' () s₁ -> wpAny (model prog w) A (g0 b) Q' E s₁) →
    wpAny (model prog w) A (do
     storeSet a es1 t1
     if (!wasDummy && t1.tooFull)=true then do
       g0 (relayAll t1 es1 (SetTable.grown es1.size)).2.2
       storeSet a (relayAll t1 es1 (SetTable.grown es1.size)).1 (relayAll t1 es1 (SetTable.grown es1.size)).2.1
       pure (some true)
      else pure (some true)) Q2 E s:=by
   intro Q2 hq g0 hg0;refine wpAny_bind (wpAny_storeSet_of g.get g.dat ?_ (fits_of_scanBound hb1));have g1:=g.store (es':=es1) (t':=t1) hel1 hb1 hfits htab hp1 hnd1;have sb1:=Heap.SameBut.update s.heap a (Obj.putSet es1 t1);split
   ·have hp:=relayAll_perm t1 es1 (SetTable.grown es1.size)
    have hfr:=relayAll_fits t1 es1 (SetTable.grown es1.size);have htr:=htab.relay es1 (SetTable.grown es1.size);generalize hRl:relayAll t1 es1 (SetTable.grown es1.size)=Rl at hp hfr htr ⊢;obtain⟨es2,t3,gave2⟩:=Rl;dsimp only at hp hfr htr ⊢;have hsz2:es2.size=es1.size:=by rw[<- Array.length_toList,hp.length_eq,Array.length_toList]
    refine wpAny_bind (hg0 _ _ _ ?_);refine wpAny_bind (wpAny_storeSet_of g1.get rfl ?_ (fits_of_scanBound (by omega)));have g2:=g1.store (es':=es2) (t':=t3) (hel1.perm hp) (by omega) hfr htr ((hp.map _).trans hp1) hnd1;exact wpAny_pure (hq _ (sb1.trans (Heap.SameBut.update _ a _)) ⟨_,_,_,_,g2⟩)
   ·exact wpAny_pure (hq _ sb1 ⟨_,_,_,_,g1⟩)
  have hgv:∀(b:Bool) (s₁:Shared) (Q':Unit->Shared->Prop),Q' () s₁ -> wpAny (model prog w) A (match b with|true=>rule "set.scan.the-table-gave-way" |false=>pure ()) Q' E s₁:=λb s₁ Q' hq=>hgw b hq;split
  ·refine wpAny_bind ?_
   rw[hashByValue_scannable 8 (x:=.int k tk) rfl];refine wpAny_pure ?_;simp only[plainKind,if_true];exact tail _ (λh' sb hS'=>by dsimp only;exact wpAny_pure (h _ h' sb (by rw[eadd];exact hS'))) _ hgv
  ·refine wpAny_bind (wpAny_pure ?_)
   simp only[↓reduceIte];exact tail _ (λh' sb hS'=>by dsimp only;exact wpAny_pure (h _ h' sb (by rw[eadd];exact hS'))) _ hgv
end
end
def metK (val:Nat->Int):Nat->List Int
 |0=>[]
 |i+1=>addE (metK val i) (val i)
theorem Zh4 (val:Nat->Int) (i:Nat):(metK val i).length<=i:=by
 induction i with
 |zero=>exact Waj _
 |succ i ih=>
  show (addE (metK val i) (val i)).length<=i+1;unfold addE;split
  ·omega
  ·rw[Wap,Wbz];omega
theorem Zmw {val:Nat->Int}{i:Nat}{x:Int}:x∈metK val i ↔ ∃j,j<i/\val j=x:=by
 induction i with
 |zero=>simp[metK]
 |succ i ih=>
  show x∈addE (metK val i) (val i)↔_;unfold addE;constructor
  ·intro h
   split at h
   ·obtain⟨j,hj,e⟩:=ih.mp h;exact⟨j,by omega,e⟩
   ·rcases Wbj.mp h with h|h
    ·obtain⟨j,hj,e⟩:=ih.mp h;exact⟨j,by omega,e⟩
    ·exact⟨i,by omega,(Was.mp h).symm⟩
  ·rintro⟨j,hj,rfl⟩
   by_cases hji:j=i
   ·subst hji
    split
    ·assumption
    ·exact Wax _ (by simp)
   ·have:=ih.mpr ⟨j,by omega,rfl⟩
    split
    ·exact this
    ·exact Wb0 _ this
section
variable {prog:Program}{w:World}{A:Around}{R:Result->Shared->Prop}{I:Addr}{fp wr:List Addr}{G:Array GenState->Array GenState->Prop}{n:Nat}{P:Nat->Value->Prop}{St:Nat->Shared->Prop}
theorem Zhy (W:WalksS prog w A.in1 I fp wr G n P St) (S:Addr) (hSf:S ∉ fp)
  (val:Nat->Int) (hval:∀i v,P i v->∃t,v=.int (val i) t) (hb:n+1<scanBound) :
  ∀(k i:Nat) (s:Shared),n-i=k->i<=n->St i s->SetI prog w s.heap S (metK val i) →
   (∀s',Moved (S::wr) G s s' -> SetI prog w s'.heap S (metK val n)->R (.ok (.ret .none)) s') →
   codeAny (model prog w) A (.builtin "set.update.loop" ⟨[.ref S,.ref I],[]⟩) R s:=by
 have hSw:S ∉ wr:=λh=>hSf (W.sub _ h);have hsub:∀b∈wr,b∈S::wr:=λb hb=>Wau _ hb;intro k
 induction k with
 |zero=>
  intro i s hk hi hst hS hR;have hin:i=n:=by omega
  subst hin;refine codeAny_builtin F.entry_set_update_loop ?_;rw[Around.under_plainId F.plain_set_update_loop _];show wpAny _ A.in1 (pyNext (.ref I) >>= _) _ _ s;refine wpAny_bind (W.done s _ _ hst λs' hm=>?_);show wpAny _ A.in1 (ret Value.none) _ _ s';exact wpAny_pure (hR s' (hm.mono hsub) (hS.keep λo e=>hm.heap S o hSw e))
 |succ k ih=>
  intro i s hk hi hst hS hR;have hlt:i<n:=by omega
  refine codeAny_builtin F.entry_set_update_loop ?_;rw[Around.under_plainId F.plain_set_update_loop _];show wpAny _ A.in1 (pyNext (.ref I) >>= _) _ _ s;refine wpAny_bind (W.item i s _ _ hlt hst λv s' hP hst' hm=>?_);obtain⟨t,rfl⟩:=hval i v hP;have hS':SetI prog w s'.heap S (metK val i):=hS.keep λo e=>hm.heap S o hSw e;show wpAny _ A.in1 (holding [Value.int (val i) t] (setAdd S (.int (val i) t)) >>= _) _ _ s';refine wpAny_bind (wpAny_holding ?_);unfold setAdd;refine wpAny_holding ?_;refine wpAny_bind ((intKind prog w).pyHash (k:=val i) (intKind_is _ _ _ _) ?_);have hroom:(metK val i).length+1<scanBound:=by have:=Zh4 val i;omega
  refine Zmz (s:={ s' with toks:=s'.toks+1 }) hS' hroom λb h' hsb hS2=>?_;refine wpAny_pure ⟨plainId_quiet F.plain_set_update_loop _,ih (i+1) _ (by omega) hlt (W.frame _ s' _ _ hst' (Wcr _) λb hb o e=>?_) hS2 λs'' hm'' hS''=>?_⟩
  ·rw[hsb.2 b (λh:b=S=>hSf (by rw[<- h];exact hb))];exact e
  ·refine hR s'' (Moved.trans W.gtrans ((hm.mono hsub).then_heap (Wcr _) λb o hb e=>?_) hm'') hS''
   rw[hsb.2 b (λh:b=S=>hb (by rw[h];exact Wa8))];exact e
end
section
variable {prog:Program}{w:World}{A:Around}{E:Value->Shared->Prop}{s:Shared}
abbrev set0 (w:World):Obj:={ cls:=.type "set",dict:=none,data:=.set #[] 0 (.fresh 0 0 (!byTextB w)) }
theorem Zm5 (x:Value) {N:Value->Shared->Prop}(h:N (.ref s.heap.objs.size) { s with heap:=s.heap.push (set0 w) }) :
  codeAny (model prog w) A (.call (.builtin "set.__new__") ⟨[.type "set",x],[]⟩) (wants N E) s:=
 codeAny_of_tree (by
  have su:=sub_set_self;obtain⟨hp,g,d,tk,os⟩:=s;refine wpAny_bind (m:=checkBuiltinCall "set.__new__" ⟨[.type "set",x],[]⟩) (wpAny_of_eq (F.newCall_set_1 x) (wpAny_pure ⟨plainId_quiet F.plain_set_new _,codeAny_builtin F.entry_set_new ?_⟩));rw[Around.under_plainId F.plain_set_new _];unfold Builtin.«set.__new__» Builtin.Frozenset.newClass
  wp_walk
  refine wpAny_askSetting (wpAny_pure ?_);simp only[newObj];exact wpAny_bind (wpAny_alloc (wpAny_pure (wpAny_pure h))))
theorem Zk4 {S l:Addr}{its:Array Value}{ns:List Int}{N:Result->Shared->Prop}(hh:A.handled=none) (hS:s.heap.get? S=some (set0 w)) (hl:s.heap.IsList l its) (hi:IntsAre its.toList ns) (hb:its.size+1<scanBound)
  (q:∀h' tk,SetI prog w h' S (metK (λi=>ns.getD i 0) its.size)->(∀b o,b≠S->s.heap.get? b=some o->h'.get? b=some o)->N (.ok (.ret .none)) { s with heap:=h',toks:=tk }) :
  wpAny (model prog w) A.in1 (Builtin.«set.__init__» ⟨[.ref S,.ref l],[]⟩) (λfin s'=>match fin with|.done f=>N (.ok f) s'|.again c=>c.quiet=true/\codeAny (model prog w) A c N s') (λe s'=>N (.error e) s') s:=by
 have lS:l≠S:=by
  obtain⟨o,e,c,_⟩:=hl;intro z;subst z;rw[hS]at e;cases e;exact absurd (show Value.type "set" = Value.type "list" from c) (by decide)
 have lt:l<s.heap.objs.size:=by obtain⟨o,e,_⟩:=hl;exact Wai e
 have ltS:S<s.heap.objs.size:=Wai hS;obtain⟨⟨c0,d0,dt0,sl0⟩,e0,hc0,n0,hd0⟩:=id hl;simp only at hc0 hd0;subst hc0 hd0;have hT:s.TypeIs (.ref S) "set":=⟨_,hS,rfl⟩;have k1:=F.sub_list_set;have k2:=F.sub_list_frozenset;have k3:(Value.type "list" == Value.type "dict")=false:=by decide
 unfold Builtin.«set.__init__» noKeywords Builtin.Frozenset.updateFrom;generalize hPI:pyIter=PI
 wp_walk
 subst hPI;refine wpAny_pyIter_list hl (wpAny_bind (wpAny_runValue ?_));have ne1:l≠s.heap.objs.size:=War lt;have ne2:S ∉ [s.heap.objs.size,l]:=by
  simp only[Wan,Wcn,or_false,not_or];exact⟨War ltS,Ne.symm lS⟩
 refine Zhy (Walks.list (by simp[hh]) _ l ne1 its).toS S ne2 (λi=>ns.getD i 0) (λi v e=>IntsAre.int_at hi i v (by rw[Array.getElem?_toList];exact e)) hb its.size 0 _ (by omega) (Wb8 _) ⟨⟨_,Wao _ rfl,rfl,rfl⟩,hl.push _⟩ ?_ λs2 mv fin=>?_
 ·exact⟨_,#[],0,_,Wac _ hS,⟨rfl,rfl,rfl⟩,rfl,λe he=>by simp at he,by decide,by rfl,TabOk.fresh _,List.Perm.refl _,List.nodup_nil⟩
 ·rw[Moved.eq_with mv]
  refine wpAny_pure (wpAny_pure (q _ _ fin λb o hb e=>mv.heap b o ?_ (Wac _ e)));simp only[Wan,Wcn,or_false,not_or];exact⟨hb,War (Wai e)⟩
set_option maxHeartbeats 3200000 in
theorem Zkq {l:Addr}{its:Array Value}{ns:List Int}{Q:Value->Shared->Prop}(hh:A.handled=none) (hl:s.heap.IsList l its) (hi:IntsAre its.toList ns) (hb:its.size+1<scanBound)
  (q:∀(h':Heap) (tk:Nat),SetI prog w h' s.heap.objs.size (metK (λi=>ns.getD i 0) its.size)->(∀b o,s.heap.get? b=some o->h'.get? b=some o)->Q (.ref s.heap.objs.size) { s with heap:=h',toks:=tk }) :
  wpAny (model prog w) A (call (.type "set") [.ref l]) Q E s:=by
 have ft:=F.called_set;obtain⟨c,tl,e1⟩:=ft.mro;have e2:=ft.made;have e3:=ft.sub;have e4:=ft.notType;have e5:=ft.canCreate;have e6:=F.typeCall_set_1 (.ref l);refine wpAny_call (codeAny_of_tree (show wpAny _ _ (callAny (.type "set") _) _ _ _ from wpAny_pure ⟨Code.quiet_builtin _ (by decide +kernel),codeAny_builtin F.entry_type_call ?_⟩));rw[Around.under_plain (weight_type_call_type _ _ _) rfl]
 repeat (any_goals (first|assumption|wp_step))
 refine codeAny_mono (Zm5 (.ref l) (E:=E) (N:=λv s1=>v=.ref s.heap.objs.size/\s1 = { s with heap:=s.heap.push (set0 w) }) ⟨rfl,rfl⟩) λr s1 hr=>?_;cases r with
 |error e=>exact hr
 |ok fl=>
  cases fl with
  |ret v=>
   obtain⟨rfl,rfl⟩:=hr;have hS:(s.heap.push (set0 w)).get? s.heap.objs.size=some (set0 w):=Wao _ rfl;have hT:Shared.TypeIs { s with heap:=s.heap.push (set0 w) } (.ref s.heap.objs.size) "set":=⟨_,hS,rfl⟩;have f1:=ft.init.lookup;have f2:=ft.init.bind (.ref s.heap.objs.size)
   repeat (any_goals (first|assumption|wp_step))
   refine codeAny_mono (codeAny_call_builtin (R:=wants (λr s2=>r=.none/\Q (.ref s.heap.objs.size) s2) E) ft.init.plain F.entry_set_init (check_set_init_1 hT (Zk4 (by simp[hh]) hS (hl.push _) hi hb λh' tk z1 z2=>⟨rfl,q h' tk z1 λb o e=>z2 b o (War (Wai e)) (Wac _ e)⟩))) λr2 s2 hr2=>?_;cases r2 with
   |error e=>exact hr2
   |ok fl2=>
    cases fl2 with
    |ret r=>
     obtain⟨rfl,hq⟩:=hr2
     repeat (any_goals (first|assumption|wp_step))
    |_=>exact hr2.elim
  |_=>exact hr.elim
end
end L2
namespace L2
open PySem PySem.Spec PyProof.Rows PySem.SeqAt
theorem Zan:PySem.Slot "set_iterator" "__next__" "set_iterator.__next__":=
 .of (owner:="set_iterator") (n:="__next__") (by rw[typeLookup_type,builtinLookup_eq_fast];kernel_rfl) (by decide +kernel) (by decide +kernel) (by decide +kernel)
  (by first|exact .inl (by decide +kernel)|exact .inr (by decide +kernel)) (by rw[isSubtype_type];kernel_rfl)
theorem Zbh:entryFor table "set_iterator.__next__" = some Builtin.«set_iterator.__next__»:=entryFor_of_tree (by kernel_rfl)
theorem Ze4:entryFor table "set.__iter__" = some Builtin.«frozenset.__iter__»:=entryFor_alias (id':="frozenset.__iter__") (by kernel_rfl) rfl (by decide +kernel) (by kernel_rfl)
theorem Zbj (a:Value):argsOk "set_iterator.__next__" ⟨[a],[]⟩:=by
 unfold argsOk;kernel_rfl
abbrev setItO (first:Value) (i:Nat) (a:Addr) (n ep:Nat):Obj:={ cls:=.type "set_iterator",dict:=none,data:=.fields #[first,.int i 0,.ref a,.int n 0,.int ep 0],slots:=#[] }
section
variable {prog:Program}{w:World}{A:Around}{E:Value->Shared->Prop}{s:Shared}
theorem Zi0 {I a:Addr}{slot i next:Nat}{x:Value}{o:Obj}{es:Array (Int × Value)}{ep:Nat}{t:SetTable}{ks:List Int}{Q:Option Value->Shared->Prop}(hI:s.heap.get? I=some (setItO (.int slot 0) i a es.size ep)) (g:SetG prog w s.heap a o es ep t ks)
  (hn:∀(A:Around) (E:Value->Shared->Prop) (Q':Option (Value × Nat)->Shared->Prop),Q' (some (x,next)) s->wpAny (model prog w) A (setNext a slot i ep) Q' E s)
  (q:∀h',h'.get? I=some (setItO (.int next 0) (i+1) a es.size ep)->Heap.SameBut I s.heap h' -> Q (some x) { s with heap:=h' }):wpAny (model prog w) A (pyNext (.ref I)) Q E s:=by
 have hT:s.TypeIs (.ref I) "set_iterator":=⟨_,hI,rfl⟩;unfold pyNext;refine wpAny_bind (wpAny_attempt (wpAny_callSpecial?_slot (name:=Str.ofString "__next__") hT Zan (wpAny_call_entry Zan hT Zbh ?_ (Zbj _))));refine wpAny_bind (wpAny_pure ?_);refine wpAny_bind (wpAny_fieldsOf hI rfl ?_);refine wpAny_bind (wpAny_setEntries_of g.get g.dat g.fit ?_);rw[if_neg (by simp)];refine wpAny_bind (hn _ _ _ ?_);refine wpAny_bind (wpAny_setField_rec hI (by simp) λh1 e1 sb1=>?_);refine wpAny_bind (wpAny_setField_rec (s:={ s with heap:=h1 }) e1 (by simp) λh2 e2 sb2=>?_);exact wpAny_pure ⟨_,rfl,wpAny_pure (q h2 (by rw[e2];rfl) (sb1.trans sb2))⟩
theorem Zjc {I a:Addr}{slot i:Nat}{o:Obj}{es:Array (Int × Value)}{ep:Nat}{t:SetTable}{ks:List Int}{Q:Option Value->Shared->Prop}(hh:A.handled=none) (hI:s.heap.get? I=some (setItO (.int slot 0) i a es.size ep)) (g:SetG prog w s.heap a o es ep t ks)
  (hn:∀(A:Around) (E:Value->Shared->Prop) (Q':Option (Value × Nat)->Shared->Prop),Q' none s->wpAny (model prog w) A (setNext a slot i ep) Q' E s)
  (q:∀h',Heap.ExtBut I s.heap h' -> Q none { s with heap:=h' }):wpAny (model prog w) A (pyNext (.ref I)) Q E s:=by
 have hT:s.TypeIs (.ref I) "set_iterator":=⟨_,hI,rfl⟩;unfold pyNext;refine wpAny_bind (wpAny_attempt (wpAny_callSpecial?_slot (name:=Str.ofString "__next__") hT Zan (wpAny_call_entry Zan hT Zbh ?_ (Zbj _))));refine wpAny_bind (wpAny_pure ?_);refine wpAny_bind (wpAny_fieldsOf hI rfl ?_);refine wpAny_bind (wpAny_setEntries_of g.get g.dat g.fit ?_);rw[if_neg (by simp)];refine wpAny_bind (hn _ _ _ ?_);refine wpAny_bind (wpAny_setField_rec hI (by simp) λh1 e1 sb1=>wpAny_bind ?_);simp only[newExc,newTuple];refine wpAny_bind (wpAny_newObj_type ?_ (by size_fits));refine wpAny_bind (m:=firstArgMember _ _) (wpAny_of_eq (a:=Value.none) (by first|rfl|(simp only[firstArgMember];rfl)) ?_);refine wpAny_newObj_type ?_ (by size_fits);simp only[raiseNew];refine wpAny_bind (wpAny_handled ?_);rw[show A.in1.handled=none from hh];refine wpAny_bind (wpAny_pure (wpAny_throw ?_));refine wpAny_bind (wpAny_isInstance (T:="StopIteration") (b:=true) ⟨_,Wao _ rfl,rfl⟩ isSubtype_stop ?_);exact wpAny_pure (q _ ((sb1.extBut.push _).push _))
theorem Zhw {I a T:Addr}{i k:Nat}{e:Int × Value}{o:Obj}{es:Array (Int × Value)}{ep:Nat}{t:SetTable}{ks:List Int}{pl:List Nat}{Q:Option Value->Shared->Prop}(hI:s.heap.get? I=some (setItO (.ref T) i a es.size ep)) (g:SetG prog w s.heap a o es ep t ks)
  (hT:s.heap.get? T=some { cls:=.type "tuple",data:=.seq (pl.map λj:Nat=>rawInt (j:Int)).toArray }) (hk:pl[i]?=some k) (he:es[k]?=some e)
  (q:∀h',h'.get? I=some (setItO (.ref T) (i+1) a es.size ep)->Heap.SameBut I s.heap h' -> Q (some e.2) { s with heap:=h' }):wpAny (model prog w) A (pyNext (.ref I)) Q E s:=by
 have hTy:s.TypeIs (.ref I) "set_iterator":=⟨_,hI,rfl⟩;unfold pyNext;refine wpAny_bind (wpAny_attempt (wpAny_callSpecial?_slot (name:=Str.ofString "__next__") hTy Zan (wpAny_call_entry Zan hTy Zbh ?_ (Zbj _))));refine wpAny_bind (wpAny_pure ?_);refine wpAny_bind (wpAny_fieldsOf hI rfl ?_);refine wpAny_bind (wpAny_setEntries_of g.get g.dat g.fit ?_);rw[if_neg (by simp)];refine wpAny_bind (wpAny_seqItems hT rfl ?_);have e1:(pl.map λj:Nat=>rawInt (j:Int)).toArray[(i:Int).toNat]?=some (.int (k:Int) 0):=by
  rw[Waw,Wc0,Waf,hk];rfl
 dsimp only;rw[e1];dsimp only;unfold setNextDrawn;refine wpAny_bind (wpAny_bind (wpAny_setState_of g.get g.dat g.fit ?_));dsimp only;rw[if_neg (by simp)];rw[show es[(k:Int).toNat]?=some e from by rw[Waw];exact he];obtain⟨e1,e2⟩:=e;refine wpAny_pure ?_;refine wpAny_bind (wpAny_setField_rec hI (by simp) λh2 e2' sb2=>?_);exact wpAny_pure ⟨_,rfl,wpAny_pure (q h2 (by rw[e2'];rfl) sb2)⟩
theorem Ze1 {I a T:Addr}{i:Nat}{o:Obj}{es:Array (Int × Value)}{ep:Nat}{t:SetTable}{ks:List Int}{pl:List Nat}{Q:Option Value->Shared->Prop}(hh:A.handled=none) (hI:s.heap.get? I=some (setItO (.ref T) i a es.size ep)) (g:SetG prog w s.heap a o es ep t ks)
  (hT:s.heap.get? T=some { cls:=.type "tuple",data:=.seq (pl.map λj:Nat=>rawInt (j:Int)).toArray }) (hk:pl[i]?=none)
  (q:∀h',Heap.ExtBut I s.heap h' -> Q none { s with heap:=h' }):wpAny (model prog w) A (pyNext (.ref I)) Q E s:=by
 have hTy:s.TypeIs (.ref I) "set_iterator":=⟨_,hI,rfl⟩;unfold pyNext;refine wpAny_bind (wpAny_attempt (wpAny_callSpecial?_slot (name:=Str.ofString "__next__") hTy Zan (wpAny_call_entry Zan hTy Zbh ?_ (Zbj _))));refine wpAny_bind (wpAny_pure ?_);refine wpAny_bind (wpAny_fieldsOf hI rfl ?_);refine wpAny_bind (wpAny_setEntries_of g.get g.dat g.fit ?_);rw[if_neg (by simp)];refine wpAny_bind (wpAny_seqItems hT rfl ?_);have e1:(pl.map λj:Nat=>rawInt (j:Int)).toArray[(i:Int).toNat]?=none:=by
  rw[Waw,Wc0,Waf,hk];rfl
 dsimp only;rw[e1];dsimp only;refine wpAny_bind (wpAny_setField_rec hI (by simp) λh1 e1 sb1=>?_);refine wpAny_bind (wpAny_setField_rec (s:={ s with heap:=h1 }) e1 (by simp) λh2 e2 sb2=>wpAny_bind ?_);simp only[newExc,newTuple];refine wpAny_bind (wpAny_newObj_type ?_ (by size_fits));refine wpAny_bind (m:=firstArgMember _ _) (wpAny_of_eq (a:=Value.none) (by first|rfl|(simp only[firstArgMember];rfl)) ?_);refine wpAny_newObj_type ?_ (by size_fits);simp only[raiseNew];refine wpAny_bind (wpAny_handled ?_);rw[show A.in1.handled=none from hh];refine wpAny_bind (wpAny_pure (wpAny_throw ?_));refine wpAny_bind (wpAny_isInstance (T:="StopIteration") (b:=true) ⟨_,Wao _ rfl,rfl⟩ isSubtype_stop ?_);exact wpAny_pure (q _ (((sb1.trans sb2).extBut.push _).push _))
theorem Zfe (a:Addr) (slot given ep:Nat):setNext a slot given ep=(do
  let (es,epoch,t) ← setState a
  if ← setsByText then
   if epoch != ep then unsupported "set_iterator.__next__:elements-changed"
   return ((← setWalk a)[given]?).map λe=>(e.2,slot)
  if !t.plain && es.size > 1 then unsupported "set_iterator.__next__:the-table-is-plain-no-more"
  let _ ← (if !t.led && !es.isEmpty then unsupported "set:maker-not-led" else pure ():Sem Unit)
  let i:=SetTable.below t.place slot
  return match es[i]?,t.place[i]? with
   |some (_,x),some j=>some (x,j+1)
   |_,_=>none):=rfl
theorem Zi7 (a:Addr):setWalk a=(do
  let (es,epoch,t) ← setState a
  if ← setsByText then return pickOrder ((← ask).params.setOrder a epoch) es
  if !t.plain && es.size > 1 then return (← drawOrder es.size es.toList).toArray
  let _ ← (if !t.led && es.size > 1 then unsupported "set:maker-not-led" else pure ():Sem Unit)
  return es):=rfl
theorem Zh1 (a:Addr):setDrawn a=(do
  let (es,_,t) ← setState a
  let byText ← setsByText
  return !byText && (!t.plain && es.size > 1)):=rfl
end
end L2
namespace L2
open PySem PySem.Spec PyProof.Rows PySem.SeqAt
theorem Zc5:PySem.Slot "set_iterator" "__iter__" "set_iterator.__iter__":=
 .of (owner:="set_iterator") (n:="__iter__") (by rw[typeLookup_type,builtinLookup_eq_fast];kernel_rfl) (by decide +kernel) (by decide +kernel) (by decide +kernel)
  (by first|exact .inl (by decide +kernel)|exact .inr (by decide +kernel)) (by rw[isSubtype_type];kernel_rfl)
theorem Zee:entryFor table "set_iterator.__iter__" = some Builtin.«dict_keyiterator.__iter__»:=entryFor_alias (id':="dict_keyiterator.__iter__") (by kernel_rfl) rfl (by decide +kernel) (by kernel_rfl)
theorem Zek (a:Value):argsOk "set_iterator.__iter__" ⟨[a],[]⟩:=by unfold argsOk;kernel_rfl
section
variable {prog:Program}{w:World}{A:Around}{E:Value->Shared->Prop}{s:Shared}
theorem Zfg {I:Addr}{first:Value}{i n ep:Nat}{a:Addr}{Q:Value->Shared->Prop}(hI:s.heap.get? I=some (setItO first i a n ep)) (q:Q (.ref I) s):wpAny (model prog w) A (pyIter (.ref I)) Q E s:=by
 have hT:s.TypeIs (.ref I) "set_iterator":=⟨_,hI,rfl⟩;refine wpAny_pyIter_slot hT Zc5 (wpAny_call_entry Zc5 hT Zee ?_ (Zek _));show wpAny _ _ (ret (.ref I)) _ _ s;exact wpAny_pure ⟨_,rfl,"set_iterator",_,hT,Zan.lookup,q⟩
theorem Zdl {Q:Bool->Shared->Prop}(q:Q (byTextB w) s):wpAny (model prog w) A setsByText Q E s:=by
 unfold setsByText;exact wpAny_bind (wpAny_askSetting (wpAny_pure q))
theorem Zhc {a:Addr}{slot given ep:Nat}{o:Obj}{es:Array (Int × Value)}{t:SetTable}{ks:List Int}{Q:Option (Value × Nat)->Shared->Prop}(hb:byTextB w=true) (g:SetG prog w s.heap a o es ep t ks)
  (q:Q (((pickOrder (w.params.setOrder a ep) es)[given]?).map λe=>(e.2,slot)) s):wpAny (model prog w) A (setNext a slot given ep) Q E s:=by
 rw[Zfe];refine wpAny_bind (wpAny_setState_of g.get g.dat g.fit (wpAny_bind (Zdl ?_)));rw[hb];simp only[if_true];rw[if_neg (by simp),Zi7];refine wpAny_bind (wpAny_bind (wpAny_setState_of g.get g.dat g.fit (wpAny_bind (Zdl ?_))));rw[hb];simp only[if_true];exact wpAny_bind (wpAny_askSetting (wpAny_pure (wpAny_pure q)))
theorem Ze7 {a:Addr}{slot given ep:Nat}{o:Obj}{es:Array (Int × Value)}{t:SetTable}{ks:List Int}{Q:Option (Value × Nat)->Shared->Prop}(hb:byTextB w=false) (g:SetG prog w s.heap a o es ep t ks) (hd:(!t.plain && decide (es.size > 1))=false)
  (q:Q (match es[SetTable.below t.place slot]?,t.place[SetTable.below t.place slot]? with|some (_,x),some j=>some (x,j+1)|_,_=>none) s):wpAny (model prog w) A (setNext a slot given ep) Q E s:=by
 have hl:t.led=true:=by rw[g.tab.led,hb];rfl
 rw[Zfe];refine wpAny_bind (wpAny_setState_of g.get g.dat g.fit (wpAny_bind (Zdl ?_)));rw[hb];simp only[Wbs,if_false,hd,hl,Bool.not_true,Wct];exact wpAny_bind (wpAny_pure (wpAny_pure q))
theorem Zd2 {α:Type}:∀{l:List α}{i:Nat}(h:i<l.length),(l[i]::l.eraseIdx i).Perm l
 |x::l,0,_=>List.Perm.refl _
 |x::l,i+1,h=>by
  have h':i<l.length:=by simpa using h
  show (l[i]::x::l.eraseIdx i).Perm (x::l);exact(List.Perm.swap _ _ _).trans (List.Perm.cons _ (Zd2 h'))
theorem Zj5 {α:Type}(next:Nat->Nat):∀(fuel k:Nat) (left:List α) (out:Array α),left.length=fuel->(pickOrder.go next fuel k left out).toList.Perm (out.toList++left)
 |0,k,left,out,h=>by
  have:left=[]:=Wbl h;subst this;unfold pickOrder.go;rw[Wbc]
 |fuel+1,k,left,out,h=>by
  unfold pickOrder.go;have hi:next k % left.length<left.length:=Wda _ (by omega)
  rw[Waa hi];dsimp only;refine(Zj5 next fuel (k+1) _ _ (by rw[List.length_eraseIdx_of_lt hi];omega)).trans ?_;rw[Array.toList_push,Wcl];refine List.Perm.append_left _ ?_;exact Zd2 hi
theorem Zko {α:Type}(next:Nat->Nat) (xs:Array α):(pickOrder next xs).toList.Perm xs.toList:=by
 unfold pickOrder;exact Zj5 next xs.size 0 xs.toList #[] (by simp)
def slotAt (pl:Array Nat):Nat->Nat
 |0=>0
 |j+1=>pl.getD j 0+1
theorem Zed {pl:Array Nat}(R:Ris pl) {j:Nat}(hj:j<=pl.size):SetTable.below pl (slotAt pl j)=j:=by
 obtain⟨b1,b2,b3⟩:=Zfi R (slotAt pl j);cases j with
 |zero=>
  apply Classical.byContradiction;intro h;have hlt:0<pl.size:=by omega
  have:=b2 0 _ (by omega) (Array.getElem?_eq_getElem hlt);exact absurd this (by show ¬ _<0;omega)
 |succ j=>
  have hlt:j<pl.size:=by omega
  have hg:pl.getD j 0=pl[j]:=by simp[Array.getD,hlt]
  have es:slotAt pl (j+1)=pl[j]+1:=by show pl.getD j 0+1=_;rw[hg]
  rw[es]at b1 b2 b3 ⊢;rcases Wdb (SetTable.below pl (pl[j]+1)) (j+1) with z|z|z
  ·have:=b3 j _ (by omega) (Array.getElem?_eq_getElem hlt)
   omega
  ·exact z
  ·have hlt2:j+1<pl.size:=by omega
   have h1:=b2 (j+1) _ z (Array.getElem?_eq_getElem hlt2);have h2:=R j (j+1) _ _ (by omega) (Array.getElem?_eq_getElem hlt) (Array.getElem?_eq_getElem hlt2);omega
theorem SetG.keep {h h':Heap}{a:Addr}{o:Obj}{es:Array (Int × Value)}{ep:Nat}{t:SetTable}{ks:List Int}(g:SetG prog w h a o es ep t ks) (k:∀o,h.get? a=some o->h'.get? a=some o):SetG prog w h' a o es ep t ks:=
 ⟨k _ g.get,g.ex,g.dat,g.el,g.room,g.fit,g.tab,g.perm,g.nd⟩
theorem Zfc (hh:A.handled=none) {I a:Addr}(hne:a≠I) {o:Obj}{es:Array (Int × Value)}{ep:Nat}{t:SetTable}{ks:List Int}(sl:Nat->Nat) (L:List (Int × Value))
  (hs:∀(s:Shared) j e,SetG prog w s.heap a o es ep t ks->L[j]?=some e->∀(A:Around) (E:Value->Shared->Prop) (Q':Option (Value × Nat)->Shared->Prop),Q' (some (e.2,sl (j+1))) s->wpAny (model prog w) A (setNext a (sl j) j ep) Q' E s)
  (hd:∀(s:Shared),SetG prog w s.heap a o es ep t ks->∀(A:Around) (E:Value->Shared->Prop) (Q':Option (Value × Nat)->Shared->Prop),Q' none s->wpAny (model prog w) A (setNext a (sl L.length) L.length ep) Q' E s) :
  Walks prog w A I [I,a] [I] L.length (λj v=>∃e,L[j]?=some e/\v=e.2) (λj h=>h.get? I=some (setItO (.int (sl j) 0) j a es.size ep)/\SetG prog w h a o es ep t ks) where
 sub:=λb hb=>by simp at hb;simp[hb]
 frame:=λ_ _ _ st hk=>⟨hk I (by simp) _ st.1,st.2.keep λo e=>hk a (by simp) o e⟩
 item:=λi s Q E hi st hQ=>by
  refine Zi0 st.1 st.2 (hs s i _ st.2 (Waa hi)) λh' e sb=>?_;refine hQ _ h' s.toks ⟨_,Waa hi,rfl⟩ ⟨e,st.2.keep λo q=>(sb.2 a hne).trans q⟩ λb o hb q=>(sb.2 b (λz=>hb (by simp[z]))).trans q
 done:=λs Q E st hQ=>Zjc hh st.1 st.2 (hd s st.2) λh' eb=>hQ h' s.toks λb o hb e=>eb b o (λz=>hb (by simp[z])) e
 self:=λ_ _ _ _ st hQ=>Zfg st.1 hQ
theorem Zht (hh:A.handled=none) {I a T:Addr}(hne:a≠I) (hnt:T≠I) {o:Obj}{es:Array (Int × Value)}{ep:Nat}{t:SetTable}{ks:List Int}(pl:List Nat) (L:List (Int × Value)) (hl:L.length=pl.length) (hs:∀(j k:Nat) e,pl[j]?=some k->L[j]?=some e->es[k]?=some e) :
  Walks prog w A I [I,a,T] [I] L.length (λj v=>∃e,L[j]?=some e/\v=e.2) (λj h=>h.get? I=some (setItO (.ref T) j a es.size ep)/\SetG prog w h a o es ep t ks/\h.get? T=some { cls:=.type "tuple",data:=.seq (pl.map λj:Nat=>rawInt (j:Int)).toArray }) where
 sub:=λb hb=>by simp at hb;simp[hb]
 frame:=λ_ _ _ st hk=>⟨hk I (by simp) _ st.1,st.2.1.keep λo e=>hk a (by simp) o e,hk T (by simp) _ st.2.2⟩
 item:=λi s Q E hi st hQ=>by
  have hp:i<pl.length:=by omega
  refine Zhw st.1 st.2.1 st.2.2 (Waa hp) (hs i _ _ (Waa hp) (Waa hi)) λh' e sb=>?_;refine hQ _ h' s.toks ⟨_,Waa hi,rfl⟩ ⟨e,st.2.1.keep λo q=>(sb.2 a hne).trans q,(sb.2 T hnt).trans st.2.2⟩ λb o hb q=>(sb.2 b (λz=>hb (by simp[z]))).trans q
 done:=λs Q E st hQ=>Ze1 hh st.1 st.2.1 st.2.2 (Wc1 (by omega)) λh' eb=>hQ h' s.toks λb o hb e=>eb b o (λz=>hb (by simp[z])) e
 self:=λ_ _ _ _ st hQ=>Zfg st.1 hQ
theorem Zkn {src:Source}{n:Nat}{Q:Nat->Shared->Prop}(hn:n≠0) (q:∀k dr,k<n->Q k { s with drawn:=dr }):wpAny (model prog w) A (choose src n) Q E s:=by
 intro Γ p _;unfold choose;rw[Sem.wp_choose];refine⟨hn,?_⟩;show Sem.wp _ _ (Sem.pure _) _ _ _ _
 first|rw[Sem.wp_pure]|simp only[Sem.wp]
 exact q _ _ (Wda _ (Nat.pos_of_ne_zero hn))
theorem Zkb:∀(n:Nat) {s:Shared}{xs:List Nat}{Q:List Nat->Shared->Prop},xs.length=n->(∀ys dr,ys.Perm xs->Q ys { s with drawn:=dr })->wpAny (model prog w) A (drawOrder n xs) Q E s
 |0,s,xs,Q,h,q=>by
  have:xs=[]:=Wbl h;subst this;unfold drawOrder;exact wpAny_pure (q [] s.drawn (List.Perm.refl _))
 |n+1,s,[],Q,h,q=>by simp at h
 |n+1,s,x::xs,Q,h,q=>by
  unfold drawOrder;refine wpAny_bind (Zkn (by simp) λk dr hk=>?_);rw[Waa hk];refine wpAny_bind (Zkb n (by rw[List.length_eraseIdx_of_lt hk];omega) λys dr' hy=>wpAny_pure (q _ dr' ?_));exact(List.Perm.cons _ hy).trans (Zd2 hk)
end
end L2
namespace L2
open PySem PySem.Spec PyProof.Rows PySem.SeqAt
section
variable {prog:Program}{w:World}{A:Around}{E:Value->Shared->Prop}{s:Shared}
structure SWalk (prog:Program) (w:World) (A:Around) (a:Addr) (es:Array (Int × Value)) (s s1:Shared) (I:Addr) where
 fp:List Addr
 L:List (Int × Value)
 St:Nat->Heap->Prop
 old:∀b o,s.heap.get? b=some o->s1.heap.get? b=some o
 new:s.heap.objs.size<=I
 fpo:∀b∈fp,b=a\/s.heap.objs.size<=b
 perm:L.Perm es.toList
 W:Walks prog w A I fp [I] L.length (λj v=>∃e,L[j]?=some e/\v=e.2) St
 st:St 0 s1.heap
theorem Zi2 (es:Array (Int × Value)):(Waz es.size).map (λk=>es.getD k (0,.none))=es.toList:=by
 apply List.ext_getElem
 ·simp
 ·intro i h1 h2
  simp only[List.getElem_map,List.getElem_range,Array.getElem_toList];simp only[Array.length_toList]at h2;simp[Array.getD,h2]
theorem set_iter {a:Addr}{o:Obj}{es:Array (Int × Value)}{ep:Nat}{t:SetTable}{ks:List Int}{Q:Value->Shared->Prop}(hh:A.handled=none) (g:SetG prog w s.heap a o es ep t ks)
  (q:∀(h1:Heap) dr (I:Addr),Nonempty (SWalk prog w A a es s { s with heap:=h1,drawn:=dr } I)->Q (.ref I) { s with heap:=h1,drawn:=dr }):wpAny (model prog w) A (pyIter (.ref a)) Q E s:=by
 have hT:s.TypeIs (.ref a) "set":=⟨o,g.get,g.ex.1⟩;have hlt:a<s.heap.objs.size:=Wai g.get;have hne1:a≠s.heap.objs.size:=War hlt;have hne2:a≠s.heap.objs.size+1:=War (Wbx hlt);have hroom:es.size<=sizeLine:=by
  have:=g.room;rw[sizeLine_eq];unfold scanBound at this;omega
 refine wpAny_pyIter_slot hT F.slot_set_iter (wpAny_call_entry F.slot_set_iter hT Ze4 ?_ (F.args_set_iter_1 _));unfold Builtin.«frozenset.__iter__» Builtin.Frozenset.slot0 slotArgs;simp only[List.isEmpty_nil,Bool.not_true,Wbs,↓reduceIte,bind_assoc,Wb2,bne_self_eq_false];unfold Builtin.Frozenset.addrOf Builtin.Frozenset.sizeOf;refine wpAny_bind (wpAny_pure ?_)
 try dsimp only
 refine wpAny_bind (wpAny_pure ?_);refine wpAny_bind (wpAny_bind (wpAny_setEntries_of g.get g.dat g.fit (wpAny_pure ?_)));rw[Zh1];refine wpAny_bind (wpAny_bind (wpAny_setState_of g.get g.dat g.fit (wpAny_bind (Zdl (wpAny_pure ?_)))));by_cases hd:(!byTextB w && (!t.plain && decide (es.size > 1)))=true
 ·have hd2:=hd
  rw[if_pos hd];refine wpAny_bind (Zkb es.size (by simp) λys dr hy=>?_);have hyl:=hy.length_eq;rw[Wbv]at hyl;refine wpAny_bind (wpAny_newTuple ?_ (by rw[Wab,hyl];exact hroom));have g1:=g.keep (h':=s.heap.push (seqObj "tuple" (ys.map λi:Nat=>rawInt (i:Int)).toArray 0)) λo e=>Wac _ e;refine wpAny_bind (wpAny_setEpoch_of g1.get g1.dat g1.fit ?_);refine wpAny_bind (wpAny_newObj_type ?_ (by size_fits));have hsz:(s.heap.push (seqObj "tuple" (ys.map λi:Nat=>rawInt (i:Int)).toArray 0)).objs.size=s.heap.objs.size+1:=size_push' _ _;have hI:((s.heap.push (seqObj "tuple" (ys.map λi:Nat=>rawInt (i:Int)).toArray 0)).push (setItO (.ref s.heap.objs.size) 0 a es.size ep)).get? (s.heap.objs.size+1)=some (setItO (.ref s.heap.objs.size) 0 a es.size ep):=by
   rw[<- hsz];exact Wao _ rfl
  have hTu:((s.heap.push (seqObj "tuple" (ys.map λi:Nat=>rawInt (i:Int)).toArray 0)).push (setItO (.ref s.heap.objs.size) 0 a es.size ep)).get? s.heap.objs.size=some { cls:=.type "tuple",data:=.seq (ys.map λj:Nat=>rawInt (j:Int)).toArray }:=
   Wac _ (Wao _ rfl)
  show wpAny _ _ (ret (.ref (s.heap.push (seqObj "tuple" (ys.map λi:Nat=>rawInt (i:Int)).toArray 0)).objs.size)) _ _ { s with heap:=(s.heap.push (seqObj "tuple" (ys.map λi:Nat=>rawInt (i:Int)).toArray 0)).push (setItO (.ref s.heap.objs.size) 0 a es.size ep),drawn:=dr };rw[hsz];refine wpAny_pure ⟨_,rfl,"set_iterator",_,⟨_,hI,rfl⟩,Zan.lookup,?_⟩;have hin:∀k∈ys,k<es.size:=λk hk=>Wca.mp (hy.mem_iff.mp hk);have hL:(ys.map λk=>es.getD k (0,.none)).length=ys.length:=Wab _;refine q _ dr (s.heap.objs.size+1) ⟨⟨[s.heap.objs.size+1,a,s.heap.objs.size],ys.map λk=>es.getD k (0,.none),_,λb o e=>Wac _ (Wac _ e),Wcr _,?_,?_,Zht hh hne2 (War (Nat.lt_succ_self _)) ys _ hL ?_,hI,g1.keep λo e=>Wac _ e,hTu⟩⟩
  ·intro b hb
   simp only[Wan,Wcn,or_false]at hb;rcases hb with h|h|h
   ·exact .inr (by rw[h];exact Wcr _)
   ·exact .inl h
   ·exact .inr (Nat.le_of_eq h.symm)
  ·exact(hy.map _).trans (List.Perm.of_eq (Zi2 es))
  ·intro j k e h1 h2
   rw[Waf,h1]at h2;cases h2;have:=hin k (Wa2 h1);simp[Array.getD,this]
 ·rw[if_neg hd]
  refine wpAny_bind (wpAny_pure ?_);refine wpAny_bind (wpAny_setEpoch_of g.get g.dat g.fit ?_);refine wpAny_bind (wpAny_newObj_type ?_ (by size_fits));have hI:(s.heap.push (setItO (.int 0 0) 0 a es.size ep)).get? s.heap.objs.size=some (setItO (.int 0 0) 0 a es.size ep):=Wao _ rfl;refine wpAny_pure ⟨_,rfl,"set_iterator",_,⟨_,hI,rfl⟩,Zan.lookup,?_⟩;have g1:=g.keep (h':=s.heap.push (setItO (.int 0 0) 0 a es.size ep)) λo e=>Wac _ e;have fpo:∀b∈[s.heap.objs.size,a],b=a\/s.heap.objs.size<=b:=λb hb=>by
   simp at hb;rcases hb with h|h
   ·right;omega
   ·exact .inl h
  cases hb:byTextB w with
  |true=>
   refine q _ s.drawn s.heap.objs.size ⟨⟨[s.heap.objs.size,a],(pickOrder (w.params.setOrder a ep) es).toList,_,λb o e=>Wac _ e,Waj _,fpo,Zko _ _,Zfc hh hne1 (λ_=>0) _ ?_ ?_,hI,g1⟩⟩
   ·intro s j e g he A E Q' hq
    refine Zhc hb g ?_;rw[Array.getElem?_toList]at he;rw[he];exact hq
   ·intro s g A E Q' hq
    refine Zhc hb g ?_;rw[Array.getElem?_eq_none (by simp)];exact hq
  |false=>
   have hd':(!t.plain && decide (es.size > 1))=false:=by
    rw[hb]at hd;simpa using hd
   have hps:t.place.size=es.size:=by
    have:=g.fit;unfold SetTable.fits at this;simp only[Wbd,beq_iff_eq]at this;exact this.1
   refine q _ s.drawn s.heap.objs.size ⟨⟨[s.heap.objs.size,a],es.toList,_,λb o e=>Wac _ e,Waj _,fpo,List.Perm.refl _,Zfc hh hne1 (slotAt t.place) _ ?_ ?_,hI,g1⟩⟩
   ·intro s j e g he A E Q' hq
    refine Ze7 hb g hd' ?_;rw[Array.getElem?_toList]at he;have hj:=(Array.getElem?_eq_some_iff.mp he).1;rw[Zed g.tab.ris (by omega),he,Array.getElem?_eq_getElem (by omega)];have:slotAt t.place (j+1)=t.place[j]+1:=by
     show t.place.getD j 0+1=_;simp[Array.getD,show j<t.place.size by omega]
    rw[this]at hq;exact hq
   ·intro s g A E Q' hq
    refine Ze7 hb g hd' ?_;rw[Array.length_toList,Zed g.tab.ris (Nat.le_of_eq hps.symm),Array.getElem?_eq_none (Waj _)];exact hq
end
end L2
namespace L2
open PySem PySem.Spec PyProof.Rows PySem.SeqAt
section
variable {prog:Program}{w:World}{A:Around}{E:Value->Shared->Prop}{s:Shared}
theorem Zl6 {r:Addr}{Q:Bool->Shared->Prop}(hT:s.TypeIs (.ref r) "set") (h:Q false s):wpAny (model prog w) A (Builtin.List.listLengthHint (.ref r)) Q E s:=by
 unfold Builtin.List.listLengthHint;refine wpAny_bind (wpAny_specialOf hT F.slot_set_len.lookup ?_);generalize hid:("set.__len__":String)=nm
 wp_delta
 rw[show splitId nm=some ("set","__len__") by subst hid;decide +kernel];subst hid;refine wpAny_bind (wpAny_isInstance (T:="set") (b:=true) hT (by rw[isSubtype_type];kernel_rfl) ?_);refine wpAny_ite_split (λz=>absurd z (by decide)) λ_=>?_;refine wpAny_ite_split (λ_=>wpAny_bind (wpAny_typeOf hT (wpAny_pure h))) λz=>absurd (by decide +kernel) z
theorem Zhu {L:List (Int × Value)}{acc:Array Value}(h:ItemsOf (λj v=>∃e,L[j]?=some e/\v=e.2) acc L.length):acc.toList=L.map (·.2):=by
 obtain⟨h1,h2⟩:=h;apply Wbw;intro i;rw[Array.getElem?_toList,Waf];by_cases hi:i<acc.size
 ·obtain⟨e,e1,e2⟩:=h2 i _ (Array.getElem?_eq_getElem hi)
  rw[e1,Array.getElem?_eq_getElem hi,e2];rfl
 ·rw[Array.getElem?_eq_none (by omega),Wc1 (by omega)];rfl
theorem Ziz {R:Result->Shared->Prop}{a S:Addr}{o:Obj}{es:Array (Int × Value)}{ep c₀:Nat}{t:SetTable}{ks:List Int}(hh:A.handled=none) (g:SetG prog w s.heap a o es ep t ks) (hSa:S≠a) (res:Value) (hS:s.heap.get? S=some { cls:=.type "list",data:=.seq #[] c₀ })
  (hR:∀h' tk dr c' (L:List (Int × Value)),(∀b o,b≠S->s.heap.get? b=some o->h'.get? b=some o)->L.Perm es.toList->h'.get? S=some { cls:=.type "list",dict:=none,data:=.seq (L.map (·.2)).toArray c',slots:=#[] } -> R (.ok (.ret res)) { s with heap:=h',toks:=tk,drawn:=dr }) :
  wpAny (model prog w) A.in1 (Builtin.List.listExtendWith (.ref S) (.ref a) res)
   (λfin s'=>match fin with|.done f=>R (.ok f) s'|.again c'=>c'.quiet=true/\codeAny (model prog w) A c' R s') (λe s'=>R (.error e) s') s:=by
 have hT:s.TypeIs (.ref a) "set":=⟨o,g.get,g.ex.1⟩;have hSl:S<s.heap.objs.size:=Wai hS;unfold Builtin.List.listExtendWith;refine wpAny_bind (wpAny_typeOf (T:="set") hT ?_);have h1:Builtin.List.listSameRef (.ref S) (.ref a)=false:=by simp[Builtin.List.listSameRef,hSa]
 have h2:(Value.type "set" == Value.type "list")=false:=by decide +kernel
 have h3:(Value.type "set" == Value.type "tuple")=false:=by decide +kernel
 simp only[h1,h2,h3,Bool.or_false,Wbs,if_false];refine wpAny_bind (set_iter hh g λh1 dr I ⟨K⟩=>?_);have hK:=K.perm.length_eq;have hn:K.L.length<=sizeLine:=by
  have:=g.room;rw[hK,Array.length_toList,sizeLine_eq];unfold scanBound at this;omega
 have hSf:S ∉ K.fp:=λz=>by
  rcases K.fpo S z with z|z
  ·exact hSa z
  ·exact absurd hSl (Nat.not_lt.mpr z)
 have key:∀(h:Heap) (c₁ tk:Nat),K.St 0 h->(∀b o,b≠S->s.heap.get? b=some o->h.get? b=some o) →
   h.get? S=some { cls:=.type "list",data:=.seq #[] c₁ } -> codeAny (model prog w) A (.builtin "list.extend.loop" ⟨[.ref S,.ref I,res],[]⟩) R { s with heap:=h,toks:=tk,drawn:=dr }:=by
  intro h c₁ tk hst hk hS₁;refine codeAny_extend_loopS K.W.toS hn S hSf res _ 0 _ #[] c₁ rfl (Wb8 _) hst hS₁ (ItemsOf.nil _) λs' acc' c' hm hS' hacc=>?_;rw[Moved.eq_with hm];have ea:=Zhu hacc;refine hR s'.heap s'.toks dr c' K.L (λb o hb e=>hm.heap b o (λhmem=>?_) (hk b o hb e)) K.perm ?_
  ·rcases Wan.mp hmem with e'|hmem
   ·exact hb e'
   ·exact absurd (Wai e) (by rw[Was.mp hmem];exact Nat.not_lt.mpr K.new)
  ·rw[<- ea,Array.toArray_toList];exact hS'
 have hS₁:=K.old _ _ hS;refine wpAny_bind (wpAny_holding (Zl6 ⟨o,K.old _ _ g.get,g.ex.1⟩ ?_));refine wpAny_ite_split (λ_=>?_) (λ_=>wpAny_pure ⟨plainId_quiet F.plain_extend_loop _,key _ c₀ _ K.st (λb o _ e=>K.old _ _ e) hS₁⟩);refine wpAny_bind (wpAny_rule ?_);refine wpAny_bind ?_;show wpAny _ _ (updateSeq S (·.push .none) >>= λ_=>updateSeq S (·.pop)) _ _ _;refine wpAny_bind (wpAny_updateSeq hS₁ rfl ?_);have hS₂:=Wbb (Obj.mapSeq (·.push Value.none)) hS₁ rfl;refine wpAny_updateSeq (hz:=by seq_fits) hS₂ rfl ?_;have hS₃:=Wbb (Obj.mapSeq (·.pop)) hS₂ rfl;refine wpAny_pure ⟨plainId_quiet F.plain_extend_loop _,key _ _ _ ?_ (λb o hb e=>?_) hS₃⟩
 ·refine K.W.frame 0 _ _ K.st λb hb o e=>?_
  have hbS:S≠b:=λh=>hSf (h ▸ hb);exact(Wav _ _ hbS).trans ((Wav _ _ hbS).trans e)
 ·exact(Wav _ _ (Ne.symm hb)).trans ((Wav _ _ (Ne.symm hb)).trans (K.old _ _ e))
theorem Zhk {R:List Value->Shared->Prop}{a:Addr}{o:Obj}{es:Array (Int × Value)}{ep:Nat}{t:SetTable}{ks:List Int}(hh:A.handled=none) (g:SetG prog w s.heap a o es ep t ks)
  (h:∀(h':Heap) (tk:Nat) dr (L:List (Int × Value)),(∀b o,s.heap.get? b=some o->h'.get? b=some o)->s.heap.objs.size<h'.objs.size->L.Perm es.toList->R (L.map (·.2)) { s with heap:=h',toks:=tk,drawn:=dr }) :
  wpAny (model prog w) A (collect (.ref a)) R E s:=by
 have hlt:a<s.heap.objs.size:=Wai g.get;unfold collect;refine wpAny_bind (wpAny_runValue (codeAny_builtin entry_proto_collect' ?_));rw[Around.under_plainId F.plain_proto_collect _];show wpAny _ A.in1 (newList [] >>= λl=>again (.builtin "list.__iadd__" ⟨[l,.ref a],[]⟩)) _ _ s;refine wpAny_bind (wpAny_newList ?_);refine wpAny_pure ⟨plainId_quiet F.plain_list_iadd _,codeAny_builtin entry_list_iadd' ?_⟩;rw[Around.under_plainId F.plain_list_iadd _];show wpAny _ A.in1 (Builtin.List.listExtendWith (.ref s.heap.objs.size) (.ref a) (.ref s.heap.objs.size)) _ _ _;have hS₁:(s.heap.push (seqObj "list" ([]:List Value).toArray 0)).get? s.heap.objs.size=some { cls:=.type "list",data:=.seq #[] 0 }:=Wao _ rfl;have z:=Ziz (A:=A) (s:={ s with heap:=s.heap.push (seqObj "list" ([]:List Value).toArray 0) })
  (R:=λ(q:Result) (s':Shared)=>∃(h':Heap) (tk:Nat) (dr:_) (c':Nat) (L:List (Int × Value)),q=.ok (.ret (.ref s.heap.objs.size))/\s' = { s with heap:=h',toks:=tk,drawn:=dr } ∧
   (∀b o,s.heap.get? b=some o->h'.get? b=some o)/\L.Perm es.toList/\h'.get? s.heap.objs.size=some { cls:=.type "list",dict:=none,data:=.seq (L.map (·.2)).toArray c',slots:=#[] })
  hh (g.keep λo e=>Wac _ e) (Wb9 hlt) (.ref s.heap.objs.size) hS₁
  λh' tk dr c' L hk hp hS'=>⟨h',tk,dr,c',L,rfl,rfl,λb o e=>hk b o (War (Wai e)) (Wac _ e),hp,hS'⟩
 refine wpAny_mono z (λfin s' x=>?_) λe s' x=>?_
 ·cases fin with
  |done f=>
   obtain⟨h',tk,dr,c',L,e,rfl,hk,hp,hS'⟩:=x;cases e;show wpAny _ A (load s.heap.objs.size >>= _) _ _ _;refine wpAny_bind (wpAny_load hS' ?_);exact wpAny_pure (h h' tk dr L hk (Wai hS') hp)
  |again c₁=>
   refine⟨x.1,codeAny_mono x.2 λq s₂ y=>?_⟩;obtain⟨h',tk,dr,c',L,rfl,rfl,hk,hp,hS'⟩:=y;show wpAny _ A (load s.heap.objs.size >>= _) _ _ _;refine wpAny_bind (wpAny_load hS' ?_);exact wpAny_pure (h h' tk dr L hk (Wai hS') hp)
 ·obtain⟨h',tk,dr,c',L,e,_⟩:=x
  cases e
theorem Zej:∀{vs:List Value},(∀v∈vs,∃t,v=.int (numOf v) t)->IntsAre vs (vs.map numOf)
 |[],_=>.nil
 |v::vs,h=>by
  obtain⟨t,e⟩:=h v (by simp);have:=Zej (vs:=vs) λu hu=>h u (Wau _ hu);rw[Wbf];generalize numOf v=n at e ⊢;subst e;exact .cons _ t this
theorem Ziw {a:Addr}{ks:List Int}{Q:Value->Shared->Prop}(hh:A.handled=none) (hS:SetI prog w s.heap a ks) (h64:ks.length<64)
  (h:∀(h':Heap) (tk:Nat) dr (l:Addr) (out:List Value) (ms:List Int) (c:Nat),(∀b o,s.heap.get? b=some o->h'.get? b=some o)->s.heap.objs.size<=l->h'.get? l=some (seqObj "list" out.toArray c)->IntsAre out ms->ms.Perm ks->ms.Pairwise (· <= ·)->Q (.ref l) { s with heap:=h',toks:=tk,drawn:=dr }) :
  wpAny (model prog w) A (call (.builtin "sorted") [.ref a]) Q E s:=by
 obtain⟨o,es,ep,t,g⟩:=hS;refine Calls.call_function_entry kind_sorted plain_sorted entry_sorted (args_sorted1 _) ?_;unfold Builtin.«sorted»;refine wpAny_bind (m:=checkCount "sorted" 1 1 _) (wpAny_pure ?_);refine wpAny_bind (Zhk hh g λh' tk dr L hk hsz hp=>?_);have hI:IntsAre (L.map (·.2)) ((L.map (·.2)).map numOf):=Zej λv hv=>by
  obtain⟨e,he,rfl⟩:=Wbm.mp hv;exact Zh7 g.el (hp.mem_iff.mp he)
 have hpk:((L.map (·.2)).map numOf).Perm ks:=by
  rw[Wa1];exact(hp.map _).trans g.perm
 have hlen:(L.map (·.2)).length<64:=by
  have:=hpk.length_eq;rw[Wab]at this;omega
 refine wpAny_bind (wpAny_newList ?_ (by rw[sizeLine_eq];omega));have hoL:(h'.push (seqObj "list" (L.map (·.2)).toArray 0)).get? h'.objs.size=some (seqObj "list" (L.map (·.2)).toArray 0):=Wao _ rfl;refine wpAny_bind (wpAny_holding (wpAny_call_entry slot_list_sort ⟨_,hoL,rfl⟩ entry_list_sort (list_sort_tree hoL hI hlen λout ms a1 a2 a3=>⟨_,rfl,?_⟩) (args_list_sort _)));obtain⟨c,hc⟩:=sortedHeap_at (out:=out) hoL;refine wpAny_pure ⟨_,rfl,h _ tk dr _ out.toList ms c (λb o e=>?_) (Wcm hsz) (by rw[Array.toArray_toList];exact hc) a1 (a2.trans hpk) a3⟩;have hb:=hk b o e;have hbl:=Wai hb;rw[sortedHeap_old (War hbl) (by rw[size_push'];exact Wbx hbl)];exact Wac _ hb
end
end L2
namespace L2
open PySem PySem.Spec PyProof.Rows PySem.SeqAt
section
variable {X:Cx}
theorem Inv.drew {pins:List (Addr × Obj)}{σ:List (Option V)}{H:Hp}{s:Shared}(I:Inv X pins σ H s) (dr:_):Inv X pins σ H { s with drawn:=dr }:=
 ⟨I.ok,I.os,I.bare,I.base,I.loc,I.cell,I.free,I.freeC,I.pin,I.hok,I.len⟩
theorem Zks {ms:List Int}(h1:ms.Pairwise (· <= ·)) (h2:ms.Nodup):ms.Pairwise (· < ·):=by
 have:=List.Pairwise.and h1 h2;exact this.imp λhq_=>by obtain⟨a,b⟩:=hq_;omega
theorem Zf0 {ns:List Int}{x:Int}:x∈metK (λi=>ns.getD i 0) ns.length↔x∈ns:=by
 rw[Zmw];constructor
 ·rintro⟨j,hj,rfl⟩
  rw[Wad,Waa hj];exact Wba hj
 ·intro h
  obtain⟨j,hj,rfl⟩:=List.getElem_of_mem h;exact⟨j,hj,by rw[Wad,Waa hj];rfl⟩
def tSS (K:W.Frag) (ta:TA):TE:=λσ H Q=>ta σ H λvs H1=>∃(p:Addr) (ns:List Int),vs=[.ref p]/\SqL K H1 p (ns.map V.int)/\ns.length<64/\∀(l:Addr) (ms:List Int),ms.Pairwise (· < ·)->(∀x,x∈ms↔x∈ns)->H1 l=none->Q (.ref l) (upd H1 l (.lst (ms.map V.int)))
theorem Zfj {a:Expr}{ta:TA}{p p2 pos pos2:Pos}{K:W.Frag}(hK:X.K=K) (hc:X.calm=true) (hgL:Gl X "sorted") (hmL:X.mg "sorted" = none) (hgR:Gl X "set") (hmR:X.mg "set" = none) (ha:PA X [a] ta) (hs:starEach [a] X.env=[(false,eval a X.env)]:=by rfl)
  (he:starEach [.Call (.Name "set" p2) [a] [] pos2] X.env=[(false,eval (.Call (.Name "set" p2) [a] [] pos2) X.env)]:=by rfl) :
  PE X (.Call (.Name "sorted" p) [.Call (.Name "set" p2) [a] [] pos2] [] pos) (tSS K ta):=by
 subst hK;intro pins s σ H Q I h;refine wpAny_Call_Name_kw (Zdg I hgL hmL Zkg ?_);refine PyProof.Rows.callWith_builtin1 ?_ he rfl;rw[he];show wpAny _ _ (spliced ((false,eval (.Call (.Name "set" p2) [a] [] pos2) X.env)::backTo pos [])) _ _ s;refine Calls.spliced_cons ?_;refine wpAny_Call_Name_kw (Zdg I hgR hmR Zqq ?_);refine PyProof.Rows.callWith_type1 (thn (ha pos2 pins s σ H _ I h) λus s1 ⟨vs,H1,I1,r1,q1⟩=>?_) hs rfl;obtain⟨p,ns,e,hx,hl,q⟩:=q1;subst e;obtain⟨u,rfl,ru⟩:=vals1 r1;cases (show u=Value.ref p from ru);obtain⟨its,w1,p1,hz⟩:=I1.list hx;have hi:=Zd4 w1;have hlen:=hi.length;refine Zkq (I1.ok.hd hc) p1.isList (by simpa using hi) (by rw[Wah];unfold scanBound;omega) λh' tk hS hk=>?_;rw[show its.toArray.size=ns.length by rw[Wah];exact hlen]at hS;refine Calls.spliced_nil ?_;have I2:Inv X pins σ H1 { s1 with heap:=h',toks:=tk }:=I1.kept hk;have hm:=Zh4 (λi=>ns.getD i 0) ns.length;refine Ziw (s:={ s1 with heap:=h',toks:=tk }) (I1.ok.hd hc) hS (by omega) λh2 tk2 dr l out ms c k2 hl2 ho2 hi2 hp2 hs2=>?_;have hml:=hp2.length_eq;have nd:ms.Nodup:=by
  obtain⟨_,_,_,_,g⟩:=hS;exact hp2.nodup_iff.mpr g.nd
 have I3:=(I2.laid (t':=tk2) k2 hl2 (show ObjOk X.prog X.w _ h2 l (.lst (ms.map V.int)) from ⟨by rw[Wab];exact Wcm (small1000 (by omega)),out,c,Zds hi2,ho2⟩)).drew dr;exact⟨.ref l,_,I3,rfl,q l ms (Zks hs2 nd) (λx=>hp2.mem_iff.trans Zf0) (I2.hok.fresh hl2)⟩
end
section
variable {K:W.Frag}{Δ:Evt}
theorem Zp7 {ta:TA}{Po:OD->Evt->Prop}(h:JA K ta Δ λds Δ1=>∃ns:List Int,ds=[.lst (ns.map .int)]/\ns.length<64/\∀ms:List Int,ms.Pairwise (· < ·)->(∀x,x∈ms↔x∈ns)->Po (.lst (ms.map .int)) Δ1):JO K (tSS K ta) Δ Po:=λg G H σ Q k c=>
 h g G H σ _ k λvs ds G1 H1 Δ1 k1 s1 r1 hq_=>by
  obtain⟨ns,e,hl,p⟩:=hq_;subst e;obtain⟨_,_,rfl,r,t⟩:=r1.inv
  next=>
   cases t.inv;obtain⟨a,us,rfl,ha,rr⟩:=r.inv
   next=>
    have ev:=rr.ints;subst ev;refine⟨a,ns,rfl,SqL.of (k1.live _ _ ha),hl,λl ms o1 o2 hl=>?_⟩;obtain⟨k2,pd⟩:=k1.fresh (od:=.lst (ms.map .int)) hl (show OwnRep K G1 (.lst (ms.map V.int)) (.lst (ms.map .int)) from Reps.ofInts ms);exact c l _ G1 _ Δ1 k2 s1 pd (p ms o1 o2)
end
structure CompScK (osc:Scope) (oN:List Str) (y:Str) (scope:Scope) (fvs:List Str) (sel:List Nat):Prop where
 kind:scope.kind=.function
 one:scope.names.filter (λz=>z.2 == .cell)=[(y,.cell)]
 own:∀z∈scope.names,z.1=y->z.2=.cell
 names:∀z∈scope.names,z.2=.local->scope.names.lookup z.1=some .local
 free:∀z∈scope.names,z.2=.free->osc.names.lookup z.1=some .cell\/osc.names.lookup z.1=some .free
 len:fvs.length=sel.length
 fv:∀p∈fvs.zip sel,oN[p.2]?=some p.1/\scope.names.lookup p.1=some .free
def compCxK (X:Cx) (y:Str) (scope:Scope) (N:List Str) (C:Addr) (s:Shared) (H:Hp) (ex:List Addr) (pn:List (Addr × Obj)):Cx:=
 { compCx X scope N C s H ex pn with env:=compEnvC scope ((y,C+1)::clOf X.env scope.names []) C X.env,fn:=λx=>x == y }
theorem Zcn {y:Str}:∀(names:List (Str × NameKind)) (n:Nat) (acc:List (Str × Addr)),(names.filter (λz=>z.2 == .cell)=[]->cellsFrom n names acc=acc)/\(names.filter (λz=>z.2 == .cell)=[(y,.cell)]->cellsFrom n names acc=(y,n)::acc)
 |[],n,acc=>⟨λ_=>rfl,λh=>by simp at h⟩
 | (x,k)::r,n,acc=>by
  unfold cellsFrom;rw[Wbn];cases hk:k == NameKind.cell with
  |true=>
   simp only[hk,if_true];refine⟨λh=>by simp at h,λh=>?_⟩;have h1:=(List.cons.inj h).1;have h2:=(List.cons.inj h).2;cases h1;exact(Zcn (y:=y) r (n+1) _).1 h2
  |false=>
   simp only[hk,Wbs,if_false];exact Zcn r n acc
theorem Zcs {y:Str}:∀(names:List (Str × NameKind)) (h:Heap),(names.filter (λz=>z.2 == .cell)=[]->pushCells h names=h)/\(names.filter (λz=>z.2 == .cell)=[(y,.cell)]->pushCells h names=h.push { cls:=.type "cell",data:=.cell none })
 |[],h=>⟨λ_=>rfl,λh=>by simp at h⟩
 | (x,k)::r,h=>by
  unfold pushCells;rw[Wbn];cases hk:k == NameKind.cell with
  |true=>
   simp only[hk,if_true];exact⟨λh=>by simp at h,λe=>(Zcs (y:=y) r _).1 (List.cons.inj e).2⟩
  |false=>
   simp only[hk,Wbs,if_false];exact Zcs r h
section
variable {X:Cx}{pins:List (Addr × Obj)}{σ:St}{H:Hp}{s:Shared}{fp:List Addr}{scope:Scope}{tgs fvs:List Str}{sel:List Nat}{y:Str}
theorem newEnvK {M:Model}{A:Around}{E:Value->Shared->Prop}{osc:Scope}{oN:List Str}{g:Addr}{cl:List (Str × Addr)}{qual:Str}{env:Env}{Q:Env->Shared->Prop}(S:CompScK osc oN y scope fvs sel)
  (q:∀h',h'.Ns s.heap.objs.size (λ_=>none)->h'.IsCell (s.heap.objs.size+1) none->(∀b o,s.heap.get? b=some o->h'.get? b=some o) →
   Q { scope,locals:=s.heap.objs.size,globals:=g,cells:=(y,s.heap.objs.size+1)::cl,qual,func:=none,code:=env.code,frame:=env.frame,builtins:=env.builtins } { s with heap:=h' }) :
  wpAny M A (newFunctionEnv scope g cl [] qual none .none (some env)) Q E s:=by
 simp only[newFunctionEnv,Option.isSome_some,if_true];refine wpAny_bind (wpAny_alloc ?_);refine wpAny_bind (wpAny_layCells _ (λname kind cells=>by cases hkc:kind == NameKind.cell <;> simp[hkc]) _ _ _ _ ?_)
 have hsz:(s.heap.push { cls:=.type "dict",data:=.dict #[] }).objs.size=s.heap.objs.size+1:=Wcs ..;rw[(Zcn (y:=y) _ _ _).2 S.one,(Zcs (y:=y) _ _).2 S.one];show wpAny M A _ Q E { s with heap:=(s.heap.push { cls:=.type "dict",data:=.dict #[] }).push { cls:=.type "cell",data:=.cell none } };refine wpAny_bind (wpAny_pure (wpAny_pure ?_));have hc:((s.heap.push { cls:=.type "dict",data:=.dict #[] }).push { cls:=.type "cell",data:=.cell none }).get? (s.heap.objs.size+1)=some { cls:=.type "cell",data:=.cell none }:=by
  rw[<- hsz];exact Wao _ rfl
 have z:=q _ ((Heap.Ns.new s.heap (.type "dict")).keeps λb o e=>Wac { cls:=.type "cell",data:=.cell none } e) ⟨_,hc,rfl⟩ λb o e=>Wac _ (Wac _ e);rw[<- hsz]at z;exact z
theorem ownK {env:Env}{names:List (Str × NameKind)}{n:Nat}{x:Str}{c:Addr}(e:((y,n)::clOf env names []).lookup x=some c):(x=y/\c=n)\/env.cells.lookup x=some c:=by
 rw[Wbk]at e;split at e
 ·rename_i h
  cases e;exact .inl ⟨by simpa using h,rfl⟩
 ·exact .inr (Zbb _ _ (λ_ _ z=>by simp at z) e)
theorem Zel (S:CompScK X.env.scope X.N y scope fvs sel) (ok:X.Ok):∀n,(n,NameKind.free)∈scope.names->∃a,X.env.cells.lookup n=some a:=λn hn=>
 ok.has n (S.free _ hn rfl)
theorem Zmn (S:CompScK X.env.scope X.N y scope fvs sel) (N:List Str) (I:Inv X pins σ H s) (hf:∀b∈fp,FpOk X pins H b) (hlt:∀b∈fp,b<s.heap.objs.size):(compCxK X y scope N s.heap.objs.size s H fp (X.pn++pins)).Ok where
 mod:=I.ok.mod
 kind:=S.kind
 glob:=I.ok.glob
 blt:=I.ok.blt
 above:=Waj _
 inj:=λx z c h1 h2=>by
  have old:∀x,X.env.cells.lookup x=some c->c≠s.heap.objs.size+1:=λx e=>by
   obtain⟨v,q⟩:=I.cell x c e;exact War (Wbx q.lt)
  rcases ownK h1 with ⟨a,b⟩|a
  ·rcases ownK h2 with ⟨a',b'⟩|a'
   ·rw[a,a']
   ·exact absurd b (old _ a')
  ·rcases ownK h2 with ⟨a',b'⟩|a'
   ·exact absurd b' (old _ a)
   ·exact I.ok.inj x z c a a'
 has:=λx hx=>by
  by_cases hxy:x=y
  ·subst hxy
   exact⟨s.heap.objs.size+1,by show ((x,_)::clOf X.env scope.names []).lookup x=_;simp⟩
  have hm:(x,NameKind.free)∈scope.names:=by
   have key:∀k,(k=.cell\/k=.free)->(relab X.env.scope scope).names.lookup x=some k->(x,NameKind.free)∈scope.names:=λk hk h=>by
    obtain⟨⟨n,j⟩,hy,e⟩:=Wbm.mp (PySem.mem_of_lookup h);dsimp only at e;split at e
    ·rename_i hj
     have e1:n=x:=congrArg Prod.fst e;have hj':j=.free:=by
      simp only[Wbd,beq_iff_eq]at hj;exact hj.1.1
     rw[<- e1,<- hj'];exact hy
    ·have e1:n=x:=congrArg Prod.fst e
     have e2:j=k:=congrArg Prod.snd e;rcases hk with z|z
     ·have hin:((n,j):Str × NameKind)∈scope.names.filter (λz=>z.2 == .cell):=Wbp.mpr ⟨hy,by rw[e2,z];rfl⟩
      rw[S.one,Was]at hin;exact absurd (e1.symm.trans (congrArg Prod.fst hin)) hxy
     ·rw[<- e1,<- z,<- e2];exact hy
   rcases hx with z|z
   ·exact key _ (.inl rfl) z
   ·exact key _ (.inr rfl) z
  obtain⟨c,hc⟩:=Zcp scope.names [] hm (Zel S I.ok x hm);exact⟨c,by
   show ((y,_)::clOf X.env scope.names []).lookup x=_;rw[Wbk,show (x == y)=false from by simpa using hxy];exact hc⟩
 cab:=λx c h e=>by
  rcases ownK e with ⟨_,z⟩|z
  ·rw[z];exact Wcr _
  ·have hx:x=y:=by simpa using (show (x == y)=true from h)
   subst hx;have:((x,s.heap.objs.size+1)::clOf X.env scope.names []).lookup x=some c:=e;simp at this;rw[<- this];exact Wcr _
 hd:=I.ok.hd
 frames:=I.ok.frames
 stk:=.inl rfl
 exf:=λb hb=>⟨War (hlt b hb),λx c e=>by
  rcases ownK e with ⟨_,z⟩|z
  ·rw[z];exact Wb9 (Wbx (hlt b hb))
  ·exact(hf b hb).2.2.2.2.1 x c z⟩
 bs:=I.bs
 bsz:=Wbi I.ok.bsz I.sz
 noex:=λb o e hb=>by
  rcases(hf b hb).2.2.2.1 with z|z
  ·exact I.ok.noex b o e z
  ·exact absurd (Wa0 (Wai e) (Wbi I.ok.bsz z)) (Wci _)
 exfs:=λb hb z=>by
  rcases Wan.mp (I.stkSub b z) with e|z
  ·exact(hf b hb).2.1 e
  ·exact(hf b hb).2.2.1 z
 funs:=I.stack
 frf:=I.stkFree
theorem Zld (S:CompScK X.env.scope X.N y scope fvs sel) (I:Inv X pins σ H s) (hf:∀b∈fp,FpOk X pins H b) (hlt:∀b∈fp,b<s.heap.objs.size) {h':Heap}{tk:Nat}{m:Str->Option Value}
  (hns:h'.Ns s.heap.objs.size m) (hcl:h'.IsCell (s.heap.objs.size+1) none) (old:∀b o,s.heap.get? b=some o->h'.get? b=some o) :
  Inv (compCxK X y scope (tgs++fvs) s.heap.objs.size s H fp (X.pn++pins)) [] (compSt tgs.length sel σ) H { s with heap:=h',toks:=tk } where
 ok:=Zmn S _ I hf hlt
 os:=rfl
 bare:=I.bare
 base:=Un.kept old
 loc:=by
  refine⟨m,hns,λi x v h1 h2 h3=>?_⟩;have h1:(tgs++fvs)[i]?=some x:=h1;unfold compSt at h2;by_cases hi:i<tgs.length
  ·rw[Way (by simpa using hi),Wbg,if_pos hi]at h2
   cases h2
  ·have hi':tgs.length<=i:=Nat.le_of_not_lt hi
   rw[Waq (by simpa using hi'),Waf,Wa7]at h2;rw[Waq hi']at h1;cases hj:sel[i-tgs.length]? with
   |none=>rw[hj]at h2;cases h2
   |some j=>
    rw[hj]at h2;have h2:(σ[j]?).getD none=some v:=by simpa using h2
    have hz:(x,j)∈fvs.zip sel:=by
     refine Wa2 (i:=i-tgs.length) ?_;rw[Wcb];exact⟨h1,hj⟩
    obtain⟨hN,hfr⟩:=S.fv _ hz;have hσ:σ[j]?=some (some v):=by
     cases q:σ[j]? with
     |none=>rw[q]at h2;cases h2
     |some o=>rw[q]at h2;exact congrArg some h2
    have hko:X.env.scope.names.lookup x=some .cell\/X.env.scope.names.lookup x=some .free:=S.free (x,.free) (PySem.mem_of_lookup hfr) rfl;obtain⟨m0,hn0,hl0⟩:=I.loc;obtain⟨u,r,l⟩:=hl0 j x v hN hσ (.inr hko);refine⟨u,r,.inr ⟨Zd6 hfr,?_⟩⟩;rcases l with ⟨hk,_⟩|⟨_,c,hc,hcell⟩
    ·have hk:X.env.scope.names.lookup x=some .local:=hk
     rcases hko with z|z <;> (rw[hk]at z;cases z)
    ·obtain⟨c',hc'⟩:=Zcp scope.names [] (PySem.mem_of_lookup hfr) ⟨c,hc⟩
     have e:=Zbb scope.names [] (λ_ _ z=>by simp at z) hc';rw[hc]at e;cases e;obtain⟨o,ho,hd⟩:=hcell;have hxy:(x == y)=false:=by
      cases q:x == y with
      |false=>rfl
      |true=>
       have:x=y:=by simpa using q
       have:=S.own (x,.free) (PySem.mem_of_lookup hfr) this;cases this
     exact⟨c,by show ((y,s.heap.objs.size+1)::clOf X.env scope.names []).lookup x=some c;rw[Wbk,hxy];exact hc',o,old _ _ ho,hd⟩
 cell:=λx c e=>by
  rcases ownK e with ⟨_,z⟩|z
  ·rw[z];exact⟨none,hcl⟩
  ·obtain⟨v,o,ho,hd⟩:=I.cell x c z
   exact⟨v,o,old _ _ ho,hd⟩
 free:=I.hok.fresh (Waj _)
 freeC:=λx c e=>by
  rcases ownK e with ⟨_,z⟩|z
  ·rw[z];exact I.hok.fresh (Wcr _)
  ·exact I.freeC x c z
 pin:=λp hp=>by
  have hp:p∈(X.pn++pins)++[]:=hp;rw[Wbc]at hp;obtain⟨e,n,ne,nf,d⟩:=I.pin p hp;refine⟨old _ _ e,n,War (Wai e),λz=>?_,d⟩;rcases Wan.mp (I.stkSub p.1 z) with q|q
  ·exact ne q
  ·exact nf q
 hok:=I.hok.kept old
 len:=by
  unfold compSt;show _=(tgs++fvs).length;rw[Wap,Wap,Wa7,Wab,S.len]
theorem Zjb {N:List Str}{σ':St}{H':Hp}{s':Shared}{h':Heap}(I:Inv X pins σ H s) (hf:∀b∈fp,FpOk X pins H b)
  (J:Inv (compCxK X y scope N s.heap.objs.size s H fp (X.pn++pins)) [] σ' H' s') (sb:Heap.SameBut s.heap.objs.size s'.heap h'):Inv X pins σ H' { s' with heap:=h' }:=by
 have B:Un (frs X.stack) fp H H' s.heap s'.heap:=J.base;have ne:∀b o,s.heap.get? b=some o->b≠s.heap.objs.size:=λb o e=>War (Wai e);have fr:H' s.heap.objs.size=none:=J.free;refine I.call' (s':={ s' with heap:=h' }) (ch:=fp) J.os ⟨λb o e n h1 h2=>?_,λb o e n h1 h2=>?_,B.free,λb o e h2=>?_,B.tups,B.frzs,B.tbls⟩ (λb ob e=>?_) J.bare λb hb=>?_
 ·exact(sb.2 b (ne b o e)).trans (B.keep b o e n h1 h2)
 ·obtain⟨sl,q⟩:=B.slot b o e n h1 h2
  exact⟨sl,(sb.2 b (ne b o e)).trans q⟩
 ·obtain⟨o',q⟩:=B.there b o e h2
  exact⟨o',(sb.2 b (ne b o e)).trans q⟩
 ·refine(J.hok b ob e).stay (λc w' hc q=>(sb.2 c ?_).trans q) (λ_ q=>q) λ_ _ q=>q
  intro z;rcases hc with hc|hc
  ·rw[<- hc,z,fr]at e;cases e
  ·rw[z,fr]at hc;cases hc
 ·exact⟨(hf b hb).2.2.2.1,(hf b hb).2.1,(hf b hb).2.2.2.2.1,(hf b hb).2.2.2.2.2⟩
end
section
variable {X:Cx}
theorem Zi6 {y:Str}{elt tg iter:Expr}{ifs:List Expr}{scope:Scope}{pos:Pos}{tgs fvs:List Str}{sel:List Nat}{g:TG}{tc:TT}{te:TE}(S:CompScK X.env.scope X.N y scope fvs sel) (hc:X.calm=true)
  (hg:∀C s H ex pn,PG (compCxK X y scope (tgs++fvs) C s H ex pn) tg g) (ht:∀C s H ex pn,PTs (compCxK X y scope (tgs++fvs) C s H ex pn) ifs tc) (he:∀C s H ex pn,PE (compCxK X y scope (tgs++fvs) C s H ex pn) elt te)
  {pins:List (Addr × Obj)}{σ:St}{s:Shared}{itv:Value}{Q:VK}{E:Value->Shared->Prop}{RR:Value->Addr->Result->Shared->Prop}
  (h2:PIE X pins σ tg (λJ H1=>∀acc,H1 acc=none->∃W:Nat->Nat->St->Hp->Prop,
   (∃m,W 0 m (compSt tgs.length sel σ) (upd H1 acc (.lst [])))/\∀i m σ' H',W i m σ' H' →
   (J.stop i H' /\ Q (.ref acc) H')\/(J.go i H' /\ ∃N:St->Hp->Prop,(∀σ2 H2,N σ2 H2->∃m',m'<m/\W (i+1) m' σ2 H2) ∧
   ∀x H2,J.yld i H' x H2->g x σ' H2 λσ2 H3=>tc σ2 H3 λb H4=>if b=true then te σ2 H4 λy H5=>∃ys,H5 acc=some (.lst ys)/\ys.length<sizeLine/\N σ2 (upd H5 acc (.lst (ys++[y]))) else N σ2 H4)) itv s)
  (fin:∀(s':Shared) (C acc:Addr) (H':Hp) (m:Str->Option Value),s'.heap.Ns C m->FpOk X pins H' C->(∀h',Heap.SameBut C s'.heap h' -> Inv X pins σ H' { s' with heap:=h' })->Q (.ref acc) H' -> RR (.ref acc) C (.ok .next) s') :
  wpAny (model X.prog X.w) X.A (newList []) (λacc s3=>wpAny (model X.prog X.w) X.A (newFunctionEnv scope X.env.globals (clOf X.env scope.names []) [] X.env.qual none .none (some X.env)) (λcenv s4=>
   codeAny (model X.prog X.w) X.A (.compStart (.ListComp elt [⟨tg,iter,ifs,0⟩] scope pos) 0 itv acc { cenv with scope:=relabel scope X.env }) (RR acc cenv.locals) s4) E s3) E s:=by
 obtain⟨it,fp,tn,J,H1,e,I,T,st,f2,h2⟩:=h2;subst e;have hlt:∀b∈fp,b<s.heap.objs.size:=λb hb=>let ⟨o,ho,_⟩:=T.obj 0 _ st b hb; Wai ho
 refine wpAny_newObj_type (newEnvK S λh1 hns hcl old=>?_);dsimp only at hns hcl old ⊢;have I3:Inv X pins σ (upd H1 s.heap.objs.size (.lst [])) { s with heap:=s.heap.push { cls:=.type "list",data:=.seq ([]:List Value).toArray },toks:=s.toks }:=I.lnew (its:=[]) .nil (by decide);have hacc:H1 s.heap.objs.size=none:=I.hok.fresh (Waj _);obtain⟨W,⟨m0,w0⟩,turn⟩:=h2 s.heap.objs.size hacc;generalize hs3:({ s with heap:=s.heap.push { cls:=.type "list",data:=.seq ([]:List Value).toArray },toks:=s.toks }:Shared)=s3 at I3;have hh3:s3.heap=s.heap.push { cls:=.type "list",data:=.seq ([]:List Value).toArray }:=by rw[<- hs3]
 have old3:∀b o,s.heap.get? b=some o->s3.heap.get? b=some o:=λb o q=>by rw[hh3];exact Wac _ q
 have hf3:∀b∈fp,FpOk X pins (upd H1 s.heap.objs.size (.lst [])) b:=λb hb=>⟨by rw[Zau (War (hlt b hb))];exact(f2 b hb).1,(f2 b hb).2⟩;have hlt3:∀b∈fp,b<s3.heap.objs.size:=λb hb=>by rw[hh3,Wcs];exact Wbx (hlt b hb)
 have tn3:tn 0 s3.heap:=T.keep 0 _ _ st λb hb o q=>old3 b o q;have old4:∀b o,s3.heap.get? b=some o->h1.get? b=some o:=λb o q=>by
  rw[hh3]at q;exact old b o q
 have tn4:tn 0 h1:=T.keep 0 _ _ tn3 λb hb o q=>old4 b o q;have hC:(s.heap.push { cls:=.type "list",data:=.seq ([]:List Value).toArray }).objs.size=s3.heap.objs.size:=by rw[hh3]
 rw[hC]at hns hcl;have J0:=Zld (tgs:=tgs) (tk:=s.toks) S I3 hf3 hlt3 hns hcl old4;have es:({ s3 with heap:=h1,toks:=s.toks }:Shared) = { s with heap:=h1,toks:=s.toks }:=by rw[<- hs3]
 rw[es]at J0;generalize hY:compCxK X y scope (tgs++fvs) s3.heap.objs.size s3 (upd H1 s.heap.objs.size (.lst [])) fp (X.pn++pins)=Y at J0;have hYp:Y.prog=X.prog:=by rw[<- hY];rfl
 have hYw:Y.w=X.w:=by rw[<- hY];rfl
 have hYK:Y.K=X.K:=by rw[<- hY];rfl
 have hYA:Y.A=X.A:=by rw[<- hY];rfl
 have hYc:Y.calm=true:=by rw[<- hY];exact hc
 have hYx:Y.xe=λ_ _=>False:=by rw[<- hY];rfl
 have hYe:Y.env=compEnvC scope ((y,s3.heap.objs.size+1)::clOf X.env scope.names []) s3.heap.objs.size X.env:=by rw[<- hY];rfl
 have stat:∀{H':Hp},(∀b∈fp,H' b=none)->∀b∈fp,FpOk Y [] H' b:=λhn b hb=>by
  rw[<- hY];refine⟨hn b hb,War (hlt3 b hb),λz=>?_,.inl hb,λx c e=>?_,λp hp z=>?_⟩
  ·rcases Wan.mp (I3.stkSub b z) with q|q
   ·exact(hf3 b hb).2.1 q
   ·exact(hf3 b hb).2.2.1 q
  ·rcases ownK e with ⟨_,z⟩|z
   ·rw[z];exact Wb9 (Wbx (hlt3 b hb))
   ·exact(hf3 b hb).2.2.2.2.1 x c z
  ·have hp:p∈(X.pn++pins)++[]:=hp
   rw[Wbc]at hp;exact(hf3 b hb).2.2.2.2.2 p hp z
 have loop:codeAny (model X.prog X.w) X.A (.compLoop (.ListComp elt [⟨tg,iter,ifs,0⟩] scope pos) 0 (.ref it) (.ref s.heap.objs.size) Y.env) (RR (.ref s.heap.objs.size) s3.heap.objs.size)
   { s with heap:=h1,toks:=s.toks }:=by
  refine codeAny_loop rfl (λn s'=>∃i σ' H',Inv Y [] σ' H' s' /\ tn i s'.heap/\(∀b∈fp,H' b=none)/\W i n σ' H') ?_ m0 ⟨0,_,_,J0,tn4,λb hb=>(hf3 b hb).1,w0⟩;rintro n s5 ⟨i,σ5,H5,I5,st5,fr5,w5⟩;show wpAny _ X.A ((compTurn (.ListComp elt [⟨tg,iter,ifs,0⟩] scope pos) 0 (.ref it) (.ref s.heap.objs.size) Y.env).onRaise (λx=>do noteFrame x Y.env;theTreesLotGoes x)) _ _ s5;refine wpAny_noted (wpAny_mono (E:=λ_ _=>False) ?_ (λ_ _ q=>q) λ_ _ z=>z.elim);rw[compTurn_list];refine wpAny_bind (wpAny_standAt (wpAny_bind ?_));rcases turn i n σ5 H5 w5 with ⟨stop,qn⟩|⟨go,N,hN,step⟩
  ·have D:=T.done Y hYp hYw hYK hYc i [] s5 σ5 H5 (λ_ _=>False) I5 (stat fr5) st5 stop
   rw[hYA]at D;refine thn D λr s6 ⟨hr,I6⟩=>?_;subst hr;refine wpAny_pure ?_;obtain⟨m6,hn6,_⟩:=I6.loc;rw[hYe]at hn6;refine fin s6 _ _ H5 m6 hn6 (I3.fpOk (Waj _) (by have z:=I6.free;rw[hYe]at z;exact z)) (λh' sb=>?_) qn;have I6':Inv (compCxK X y scope (tgs++fvs) s3.heap.objs.size s3 (upd H1 s.heap.objs.size (.lst [])) fp (X.pn++pins)) [] σ5 H5 s6:=by rw[hY];exact I6
   exact Zjb I3 hf3 I6' sb
  ·have D:=T.item Y hYp hYw hYK hYc i [] s5 σ5 H5 (λ_ _=>False) I5 (stat fr5) st5 go
   rw[hYA]at D;refine thn D λr s6 ⟨u,hr,h6⟩=>?_;subst hr;refine wpAny_bind (thn h6 λ_ s7 ⟨x,H7,I7,r7,y7,st7,fr7⟩=>?_);have I7':=I7.pinned (stat fr7) (T.obj _ _ st7);have G:=hg s3.heap.objs.size s3 (upd H1 s.heap.objs.size (.lst [])) fp (X.pn++pins);have TT:=ht s3.heap.objs.size s3 (upd H1 s.heap.objs.size (.lst [])) fp (X.pn++pins);have EE:=he s3.heap.objs.size s3 (upd H1 s.heap.objs.size (.lst [])) fp (X.pn++pins);rw[hY]at G TT EE;have G1:=G _ s7 σ5 H7 x u _ I7' r7 (step x H7 y7);rw[hYp,hYw,hYA,hYx]at G1;refine wpAny_bind (thn G1 λ_ s8 ⟨σ8,H8,I8,q8⟩=>?_);have T1:=TT _ s8 σ8 H8 _ I8 q8;rw[hYp,hYw,hYA,hYx]at T1;refine wpAny_bind (thn T1 λok s9 ⟨H9,I9,q9⟩=>?_);have again:∀{s':Shared}{σ':St}{H':Hp},Inv Y ([]++pinsAt fp s7.heap) σ' H' s' -> N σ' H' -> ∃m,m<n/\∃i σ' H',Inv Y [] σ' H' s' /\ tn i s'.heap/\(∀b∈fp,H' b=none)/\W i m σ' H':=λ{s' σ' H'} K7 n7=>by
    obtain⟨m',hm,w7⟩:=hN σ' H' n7;refine⟨m',hm,i+1,σ',H',K7.unpinned,T.keep _ _ _ st7 λb hb o e=>(K7.pin (b,o) (Wax _ (Wax _ (Zb2 hb e)))).1,λb hb=>?_,w7⟩;obtain⟨o,e,d⟩:=T.obj _ _ st7 b hb;exact(K7.pin (b,o) (Wax _ (Wax _ (Zb2 hb e)))).2.1
   cases ok with
   |false=>
    have q9:N σ8 H9:=q9;exact wpAny_pure ⟨by rw[hYe],again I9 q9⟩
   |true=>
    have q9:te σ8 H9 λy H5=>∃ys,H5 s.heap.objs.size=some (.lst ys)/\ys.length<sizeLine/\N σ8 (upd H5 s.heap.objs.size (.lst (ys++[y]))):=q9;have E1:=EE _ s9 σ8 H9 _ I9 q9;rw[hYp,hYw,hYA,hYx]at E1;refine wpAny_bind (wpAny_bind (thn E1 λv sa ⟨y,Ha,Ia,ra,ys,ea,za,na⟩=>?_));have M:=Zc1 (X:=Y) _ sa σ8 Ha (.ref s.heap.objs.size) [y] (.ref s.heap.objs.size) [v] (λ_ H=>N σ8 H) Ia rfl (.cons ra .nil) ⟨_,ys,y,rfl,rfl,ea,za,na⟩;rw[hYp,hYw,hYA,hYx]at M;refine wpAny_bind (thn M λ_ sb ⟨_,Hb,Ib,_,nb⟩=>wpAny_pure (wpAny_pure ⟨by rw[hYe],again Ib nb⟩))
 have hcs:(relabel scope X.env)=(relabel scope X.env):=rfl;have loop':=loop;rw[hYe]at loop';show codeAny (model X.prog X.w) X.A (.compStart (.ListComp elt [⟨tg,iter,ifs,0⟩] scope pos) 0 (.ref it) (.ref s.heap.objs.size) (compEnvC scope ((y,(s.heap.push { cls:=.type "list",data:=.seq ([]:List Value).toArray }).objs.size+1)::clOf X.env scope.names []) (s.heap.push { cls:=.type "list",data:=.seq ([]:List Value).toArray }).objs.size X.env)) (RR (.ref s.heap.objs.size) (s.heap.push { cls:=.type "list",data:=.seq ([]:List Value).toArray }).objs.size) _;rw[hC];exact codeAny_compStart_list loop' (T.self _ 0 _ _ _ tn4 loop')
theorem Zgz {y:Str}{elt tg iter:Expr}{ifs:List Expr}{scope:Scope}{pos:Pos}{fvs:List Str}{sel:List Nat}{wi:TI}{g:TG}{tc:TT}{te:TE}(tgs:List Str) (S:CompScK X.env.scope X.N y scope fvs sel) (hc:X.calm=true)
  (hi:PI X tg iter wi) (hg:∀C s H ex pn,PG (compCxK X y scope (tgs++fvs) C s H ex pn) tg g) (ht:∀C s H ex pn,PTs (compCxK X y scope (tgs++fvs) C s H ex pn) ifs tc) (he:∀C s H ex pn,PE (compCxK X y scope (tgs++fvs) C s H ex pn) elt te)
  (hs:∀x,foldedSetIterable iter X.env x=pure x:=by intro _;rfl) :
  PE X (.ListComp elt [⟨tg,iter,ifs,0⟩] scope pos) (tComp tgs.length sel wi g tc te):=by
 intro pins s σ H Q I h;rw[eval_ListComp];refine wpAny_comprehension_free (use:=none) rfl hs (Zbl (Zel S I.ok)) S.kind S.names (thn (hi pins s σ H _ I h) λv s1 h1=>thn h1 λitv s2 h2=>?_);refine Zi6 S hc hg ht he (RR:=λacc C=>compPost (model X.prog X.w) X.A X.xe none (EP X pins σ Q) acc C) (Q:=Q) h2 ?_;intro s' C acc H' m hn _ hI q;exact⟨m,hn,λh' sb=>⟨.ref acc,H',hI h' sb,rfl,q⟩⟩
end
open PySem PySem.Spec PyProof.Rows PySem.SeqAt
section
variable {K:W.Frag}{Δ:Evt}{P:D->Evt->Prop}
theorem Zof {b:Bool}(p:P (.int (if b then 1 else 0)) Δ):JC K (λxs H Q=>(∃i,xs=[.int i]/\Q (.int i) H)\/∃k,xs=[.bl k]/\Q (.int (if k then 1 else 0)) H) [.bl b] Δ P:=λg G H σ Q vs k rs c=>by
 obtain⟨_,_,rfl,r,t⟩:=rs.inv
 next=>cases t.inv;cases r.inv;exact .inr ⟨b,rfl,c _ _ G H Δ k (Same.refl _) (.int _) p⟩
end
section
variable {K:W.Frag}{Δ:Evt}
theorem Zpy {i:Nat}{te:TE}{ti:TIp}{d:D}{nx bk ct:Evt->Prop}{rt:D->Evt->Prop}{ro:OD->Evt->Prop}(hx:Δ[i]?=some (.val d)) (h:JE K te Δ λe Δ1=>Δ1[i]?=some (.val d)/\JR2 K ti d e Δ1 λz Δ2=>nx (Δ2.set i (.val z))):JS K (tAug i te ti) Δ ⟨nx,rt,bk,ct,ro⟩:=λg G H σ E k c=>by
 obtain⟨v,h1,h2⟩:=k.val i d hx;refine⟨v,h1,h g G H σ _ k λu e G1 H1 Δ1 k1 s1 r1 ⟨_,p1⟩=>p1 g G1 H1 σ _ v u k1 (h2.mono s1) r1 λz dz G2 H2 Δ2 k2 s2 r2 p2=>?_⟩;exact c.nx _ G2 H2 _ (k2.setVal' i r2) p2
end
open PySem PySem.Spec PyProof.Rows PySem.SeqAt
section
variable {K:W.Frag}{Δ:Evt}{P:D->Evt->Prop}
end
section
variable {K:W.Frag}{Δ:Evt}
end
section
variable {X:Cx}
end
abbrev rlt:=HT.lexLt
theorem RowAt.inj {h:Heap}{v:Value}{a b:List Int}(x:RowAt h v a) (y:RowAt h v b):a=b:=by
 obtain⟨p,its,rfl,⟨o,ho,hc,n,hd⟩,hi⟩:=x;obtain⟨q,its2,e,⟨o2,ho2,hc2,n2,hd2⟩,hi2⟩:=y;cases e;rw[ho]at ho2;cases ho2;rw[hd]at hd2;have e:its=its2:=by
  have:=Data.seq.inj hd2;simpa using this.1
 subst e;clear hd hd2
 induction hi generalizing b with
 |nil=>cases hi2;rfl
 |cons n t _ ih=>cases hi2 with|cons _ _ r=>rw[ih r]
section
variable {X:Cx}
end
section
variable {K:W.Frag}{Δ:Evt}
end
section
variable {K:W.Frag}{Δ:Evt}{P:D->Evt->Prop}
end
theorem ObjOk.has {P:Program}{w:World}{H:Hp}{h:Heap}{a:Addr}{o:HO}(x:ObjOk P w H h a o):∃ob,h.get? a=some ob:=by
 cases o with
 |lst xs=>obtain⟨_,_,_,_,e⟩:=x;exact⟨_,e⟩
 |tup xs=>obtain⟨_,_,_,o,e,_⟩:=x;exact⟨_,e⟩
 |dK kvs=>obtain⟨_,_,_,_,o,_,_,e,_⟩:=x;exact⟨_,e⟩
 |dT kvs=>obtain⟨_,_,_,_,o,_,_,e,_⟩:=x;exact⟨_,e⟩
 |set S n=>obtain⟨o,_,_,_,e,_⟩:=x;exact⟨_,e⟩
 |ins C dx fs=>obtain⟨_,_,_,e,_⟩:=x;exact⟨_,e⟩
 |own y=>exact x
 |xd fs=>obtain⟨_,⟨_,_,_,e,_⟩,_⟩:=x;exact⟨_,e⟩
 |rng lo hi=>obtain⟨_,_,_,e⟩:=x;exact⟨_,e⟩
 |frz ob u=>obtain⟨e,_⟩:=x;exact⟨_,e⟩
 |tbl ps=>exact⟨_,x⟩
 |met f y=>exact⟨_,x⟩
 |ext φ=>exact x.2.1
theorem HOk.noneAt {P:Program}{w:World}{H:Hp}{h:Heap}{a:Addr}(x:HOk P w H h) (e:h.get? a=none):H a=none:=by
 cases q:H a with
 |none=>rfl
 |some o=>obtain⟨ob,z⟩:=(x a o q).has;rw[e]at z;cases z
structure Nw (X:Cx) (pins:List (Addr × Obj)) (H:Hp) (b:Addr):Prop where
 old:X.s₀.heap.get? b=none
 trk:H b=none
 loc:b≠X.env.locals
 cel:∀x c,X.env.cells.lookup x=some c->c≠b
 pin:∀p∈X.pn++pins,p.1≠b
section
variable {X:Cx}{pins:List (Addr × Obj)}{σ:St}{H H':Hp}{s:Shared}{h':Heap}{b:Addr}
theorem Nw.of (I:Inv X pins σ H s) (hex:X.ex=[]) (e:s.heap.get? b=none):Nw X pins H b where
 old:=by
  cases q:X.s₀.heap.get? b with
  |none=>rfl
  |some o=>obtain⟨o',z⟩:=I.base.there b o q (by rw[hex];simp);rw[e]at z;cases z
 trk:=I.hok.noneAt e
 loc:=by rintro rfl;obtain⟨m,⟨o,_,_,ho,_⟩,_⟩:=I.loc;rw[e]at ho;cases ho
 cel:=λx c hc z=>by subst z;obtain⟨v,o,ho,_⟩:=I.cell x c hc;rw[e]at ho;cases ho
 pin:=λp hp z=>by have:=(I.pin p hp).1;rw[z,e]at this;cases this
theorem Nw.at (n:Nw X pins H b) (h:H' b=none):Nw X pins H' b:=⟨n.old,h,n.loc,n.cel,n.pin⟩
theorem Inv.moved {hid:List Addr}(I:Inv X pins σ H s) (hex:X.ex=[]) (new:∀b∈hid,Nw X pins H b) (kp:∀b o,s.heap.get? b=some o->b ∉ hid->b ∉ frs X.stack->h'.get? b=some o) (up:s.heap.UpToSlots h'):Inv X pins σ H { s with heap:=h' }:=by
 have nst:∀b,b≠X.env.locals->b ∉ X.fs->b ∉ frs X.stack:=λb h1 h2 z=>(Wan.mp (I.stkSub b z)).elim h1 h2;have neL:∀b o,X.s₀.heap.get? b=some o->b≠X.env.locals:=λb o e=>War (Wa0 (Wai e) I.ok.above);have nhd:∀b o,X.s₀.heap.get? b=some o->b ∉ hid:=λb o e z=>by rw[(new b z).old]at e;cases e
 have nx:∀b,b ∉ X.ex:=λb=>by rw[hex];simp
 have cellK:∀c v,s.heap.IsCell c v->h'.IsCell c v:=λc v hq=>by
  obtain⟨o,ho,hd⟩:=hq;obtain⟨sl,e⟩:=up c o ho (λvs q=>by rw[hd]at q;cases q);exact⟨_,e,hd⟩
 refine⟨I.ok,I.os,I.bare,⟨λb o e n hb hx=>?_,λb o e n hb hx=>?_,I.base.free,λb o e hx=>?_,I.base.tups,I.base.frzs,I.base.tbls⟩,?_,λx c e=>?_,I.free,I.freeC,λp hp=>?_,λb u e=>?_,I.len⟩
 ·exact kp b o (I.base.keep b o e n hb hx) (nhd b o e) (nst b (neL b o e) hb)
 ·obtain⟨sl,e1⟩:=I.base.slot b o e n hb hx
  obtain⟨_,o',ho',hd⟩:=I.funs.mem hb;rw[e1]at ho';cases ho';obtain⟨sl',e2⟩:=up b _ e1 hd;exact⟨sl',e2⟩
 ·obtain⟨o',e1⟩:=I.base.there b o e hx
  by_cases hb:b∈frs X.stack
  ·obtain⟨_,o2,ho',hd⟩:=I.stack.mem hb
   obtain⟨sl',e2⟩:=up b _ ho' hd;exact⟨_,e2⟩
  ·exact⟨o',kp b o' e1 (nhd b o e) hb⟩
 ·obtain⟨m,hn,hl⟩:=I.loc
  refine⟨m,up.ns hn,λi x v e1 e2 e3=>?_⟩;obtain⟨u,r,l⟩:=hl i x v e1 e2 e3;refine⟨u,r,?_⟩;rcases l with l|⟨k,c,e,z⟩
  ·exact .inl l
  ·exact .inr ⟨k,c,e,cellK c _ z⟩
 ·obtain⟨v,z⟩:=I.cell x c e
  exact⟨v,cellK c v z⟩
 ·obtain⟨e,n,ne,nf,d⟩:=I.pin p hp
  exact⟨kp p.1 p.2 e (λz=>(new _ z).pin p hp rfl) (nst _ ne nf),n,ne,nf,d⟩
 ·refine(I.hok b u e).stay (λc v hc q=>kp c v q (λz=>?_) λz=>?_) (λ_ q=>q) λ_ _ q=>q
  ·have n:=(new c z).trk
   rcases hc with rfl|hc
   ·rw[e]at n;cases n
   ·rw[hc]at n;cases n
  ·have n:=I.stkFree c z
   rcases hc with rfl|hc
   ·rw[e]at n;cases n
   ·rw[hc]at n;cases n
end
def Trc (h:Heap) (a C T:Addr):Prop:=
 ∃oe vs oT ts,h.get? a=some oe/\oe.cls=.ref C/\oe.data=.fields vs/\vs[1]?=some (.ref T)/\vs[2]?=some .none/\T≠a/\h.get? T=some oT/\oT.data=.fields ts/\ts[3]?=some .none
section
variable {M:Model}{A:Around}{E:Value->Shared->Prop}{s:Shared}{Q:Unit->Shared->Prop}{env:Env}{outer:List Env}{base:Heap}{L e:Addr}{oe:Obj}{vs:Array Value}
theorem Zp6 (hl:s.heap.FunFrames base (env::outer)) (he:s.heap.get? e=some oe) (hd:oe.data=.fields vs):e ∉ frs (env::outer):=λhm=>by
 obtain⟨_,o,ho,hn⟩:=hl.mem hm;rw[he]at ho;exact hn vs (Wa5.inj ho ▸ hd)
structure Noted (h h':Heap) (l:List Env) (e:Addr) (oe:Obj) (T:Addr):Prop where
 keep:∀b o,h.get? b=some o->b≠e->b ∉ frs l->h'.get? b=some o
 up:∀b o,h.get? b=some o->b≠e->(∀ws,o.data≠.fields ws)->∃sl,h'.get? b=some { o with slots:=sl }
 new:h.get? T=none
 exc:h'.get? e=some (oe.mapFields (·.setIfInBounds 1 (.ref T)))
 tb:∃oT ts,h'.get? T=some oT/\oT.data=.fields ts/\3<ts.size
theorem entryX {head:Value}{hadNext:Bool}(hfr:A.frames=some (env::outer)) (hl:s.heap.FunFrames base (env::outer)) (hf:env.frame=some L) (he:s.heap.get? e=some oe) (hd:oe.data=.fields vs) (hsz:1<vs.size)
  (h:∀h' T,Noted s.heap h' (env::outer) e oe T->Q () { s with heap:=h' }) :
  wpAny M A (do let a ← frameOf env;let pl ← entryPlaceOf L hadNext;let b ← EntryCells.newEntry head a .none (rawInt L) .none pl;setField (.ref e) 1 b) Q E s:=by
 have hene:=Zp6 hl he hd;refine wpAny_bind (wpAny_frameOf_fun hfr hl hf λg1 hg=>?_);refine wpAny_bind (wpAny_entryPlaceOf λpl hp=>?_);unfold EntryCells.newEntry newFields;refine wpAny_bind (wpAny_newObj_type ?_ (hp.sizeOk5 _ _ _ _ _));have he1:g1.get? e=some oe:=(hg.2.1 e hene).trans he;have he2:=Wac (h:=g1) { cls:=.type "traceback",dict:=none,data:=.fields ([head,.ref L,.none,rawInt L,.none]++(if pl.isEmpty then Wae 6 Value.none else pl)).toArray } he1;refine wpAny_setField he2 hd hsz (h _ g1.objs.size ?_);have nT:g1.objs.size≠e:=Wb9 (Wai he1);have hd3:=Obj.data_mapFields hd (·.setIfInBounds 1 (Value.ref g1.objs.size));have hT3:=(Wav (g1.push { cls:=.type "traceback",dict:=none,data:=.fields ([head,.ref L,.none,rawInt L,.none]++(if pl.isEmpty then Wae 6 Value.none else pl)).toArray }) (Obj.mapFields (·.setIfInBounds 1 (Value.ref g1.objs.size))) (Ne.symm nT)).trans (Wao g1 rfl);refine⟨λb o hb h1 h2=>?_,λb o hb h1 hn=>?_,?_,?_,⟨_,_,hT3,rfl,?_⟩⟩
 ·rw[Wav _ _ (Ne.symm h1)]
  exact Wac _ ((hg.2.1 b h2).trans hb)
 ·obtain⟨sl,q⟩:=hg.2.2 b o hb
  exact⟨sl,by rw[Wav _ _ (Ne.symm h1)];exact Wac _ q⟩
 ·exact Heap.get?_none_of_le (by rw[hg.1];exact Waj _)
 ·exact Wbb _ he2 (Obj.isFreed_of_fields hd3)
 ·rw[Wah,Wap,Wam,Wam,Wam,Wam]
  omega
theorem noteN (hfr:A.frames=some (env::outer)) (hl:s.heap.FunFrames base (env::outer)) (hf:env.frame=some L) (he:s.heap.get? e=some oe) (hd:oe.data=.fields vs) (h1:vs[1]?=some .none)
  (h:∀h' T,Noted s.heap h' (env::outer) e oe T->Q () { s with heap:=h' }):wpAny M A (noteFrame (.ref e) env) Q E s:=by
 unfold noteFrame;simp only[hf];refine wpAny_bind (wpAny_field he hd h1 ?_);rw[if_neg (by decide)];exact entryX hfr hl hf he hd (Array.getElem?_eq_some_iff.mp h1).1 h
theorem noteT {T:Addr}{oT:Obj}{ts:Array Value}(hfr:A.frames=some (env::outer)) (hl:s.heap.FunFrames base (env::outer)) (hf:env.frame=some L) (he:s.heap.get? e=some oe) (hd:oe.data=.fields vs) (h1:vs[1]?=some (.ref T)) (hTe:T≠e)
  (hT:s.heap.get? T=some oT) (hdT:oT.data=.fields ts) (h3:ts[3]?=some .none) (h:∀h' T',Noted (s.heap.update T (Obj.mapFields (·.setIfInBounds 3 .none))) h' (env::outer) e oe T' -> Q () { s with heap:=h' }):wpAny M A (noteFrame (.ref e) env) Q E s:=by
 unfold noteFrame;simp only[hf];refine wpAny_bind (wpAny_field he hd h1 ?_);rw[if_pos (show (Value.ref T != Value.none)=true from by simp)];refine wpAny_bind (wpAny_field hT hdT h3 ?_);rw[if_neg (show ¬ ((Value.none == rawInt L)=true) from by simp[rawInt])];refine wpAny_bind (wpAny_setField hT hdT (Array.getElem?_eq_some_iff.mp h3).1 ?_);have ot:∀b,b≠T->(s.heap.update T (Obj.mapFields (·.setIfInBounds 3 Value.none))).get? b=s.heap.get? b:=λb hb=>Wav _ _ (Ne.symm hb);refine entryX (s:={ s with heap:=s.heap.update T (Obj.mapFields (·.setIfInBounds 3 .none)) }) hfr (hl.of_keeps λb o hb hn=>⟨o,(ot b λq=>?_).trans hb,rfl⟩) hf ((ot e (Ne.symm hTe)).trans he) hd (Array.getElem?_eq_some_iff.mp h1).1 λh' T' n=>h h' T' n;rw[q,hT]at hb;exact hn ts (Wa5.inj hb ▸ hdT)
end
section
variable {X:Cx}{pins:List (Addr × Obj)}{σ:St}{H H':Hp}{s:Shared}{h':Heap}{a C T:Addr}
theorem Inv.noted {h0:Heap}{oe:Obj}{vs:Array Value}{hid:List Addr}{T':Addr}(I:Inv X pins σ H s) (hex:X.ex=[]) (na:Nw X pins H a) (new:∀b∈hid,Nw X pins H b) (he:s.heap.get? a=some oe) (hc:oe.cls=.ref C) (hd:oe.data=.fields vs) (h2:vs[2]?=some .none)
  (k0:∀b,b ∉ hid->h0.get? b=s.heap.get? b) (hf0:∀b∈hid,∀o,s.heap.get? b=some o->∃ws,o.data=.fields ws) (hn0:∀b,h0.get? b=none->s.heap.get? b=none) (n:Noted h0 h' X.stack a oe T') {h3:Heap}(e3:h3=h'.update T' (Obj.mapFields (·.setIfInBounds 3 .none))) :
  Inv X pins σ H { s with heap:=h3 } /\ Trc h3 a C T' /\ Nw X pins H T':=by
 subst e3;have nT:=Nw.of I hex (hn0 _ n.new);have ot:∀b,b≠T' -> (h'.update T' (Obj.mapFields (·.setIfInBounds 3 Value.none))).get? b=h'.get? b:=λb hb=>Wav _ _ (Ne.symm hb);have hTa:T'≠a:=by rintro rfl;have z:=hn0 _ n.new;rw[he]at z;cases z
 have ne:∀b o,s.heap.get? b=some o->b≠T':=λb o e z=>by subst z;rw[hn0 _ n.new]at e;cases e
 have fl:∀b,b∈a::hid->∀o,s.heap.get? b=some o->∃ws,o.data=.fields ws:=λb hb o e=>by
  rcases Wan.mp hb with rfl|hb
  ·rw[he]at e;cases e;exact⟨vs,hd⟩
  ·exact hf0 b hb o e
 refine⟨I.moved (hid:=a::hid) hex (λb hb=>(Wan.mp hb).elim (λz=>by subst z;exact na) (new b)) (λb o e h1 h2=>?_) (λb o e hnf=>?_),?_,nT⟩
 ·have h1a:b≠a:=λz=>h1 (by simp[z])
  have h1b:b ∉ hid:=λz=>h1 (Wau _ z);rw[ot b (ne b o e)];exact n.keep b o ((k0 b h1b).trans e) h1a h2
 ·have hb:b ∉ a::hid:=λz=>by obtain⟨ws,q⟩:=fl b z o e;exact hnf ws q
  have h1a:b≠a:=λz=>hb (by simp[z]);have h1b:b ∉ hid:=λz=>hb (Wau _ z);obtain⟨sl,q⟩:=n.up b o ((k0 b h1b).trans e) h1a hnf;exact⟨sl,(ot b (ne b o e)).trans q⟩
 ·obtain⟨oT,ts,t1,t2,t3⟩:=n.tb
  have sz:2<vs.size:=(Array.getElem?_eq_some_iff.mp h2).1;refine⟨_,_,_,_,(ot a (Ne.symm hTa)).trans n.exc,(Obj.cls_mapFields _ _).trans hc,Obj.data_mapFields hd _,?_,?_,hTa,Wbb _ t1 (Obj.isFreed_of_fields (Obj.data_mapFields t2 _)),Obj.data_mapFields t2 _,?_⟩
  ·simp[show 1<vs.size by omega]
  ·rw[Array.getElem?_setIfInBounds_ne (by decide)];exact h2
  ·simp[t3]
variable {M:Model}{E:Value->Shared->Prop}{Q:Unit->Shared->Prop}
theorem Zia {h h':Heap}{l:List Env}{e T:Addr}{oe:Obj}{vs:Array Value}{A:Around}{s:Shared}(hd:oe.data=.fields vs) (sz:1<vs.size) (n:Noted h h' l e oe T) (h:Q () { s with heap:=h'.update T (Obj.mapFields (·.setIfInBounds 3 .none)) }) :
  wpAny M A (setFlight (.ref e) none) Q E { s with heap:=h' }:=by
 obtain⟨oT,ts,t1,t2,t3⟩:=n.tb;exact wpAny_setFlight_none (s:={ s with heap:=h' }) n.exc (Obj.data_mapFields hd _) (by simp[sz]) t1 t2 t3 h
theorem Zk9 (I:Inv X pins σ H s) (hex:X.ex=[]) (hst:X.stack=X.env::X.outer) (hf:X.env.frame=some X.env.locals) (tr:Trc s.heap a C T) (na:Nw X pins H a) (nT:Nw X pins H T)
  (h:∀h' T',Inv X pins σ H { s with heap:=h' } -> Trc h' a C T' -> Nw X pins H T' -> Q () { s with heap:=h' }):wpAny M X.A (noteFrame (.ref a) X.env) (λ_ s2=>wpAny M X.A (setFlight (.ref a) none) Q E s2) E s:=by
 obtain⟨oe,vs,oT,ts,h1,h2,h3,h4,h5,h6,h7,h8,h9⟩:=tr;have hfr:=I.ok.frames;have hl:=I.stack;rw[hst]at hfr hl;have ot:∀b,b≠T->(s.heap.update T (Obj.mapFields (·.setIfInBounds 3 Value.none))).get? b=s.heap.get? b:=λb hb=>Wav _ _ (Ne.symm hb);refine noteT hfr hl hf h1 h3 h4 h6 h7 h8 h9 λh' T' n=>?_;refine Zia h3 (Array.getElem?_eq_some_iff.mp h4).1 n ?_;rw[<- hst]at n;obtain⟨J,t1,t2⟩:=I.noted (hid:=[T]) hex na (λb hb=>by rcases Wan.mp hb with rfl|hb;exact nT;cases hb) h1 h2 h3 h5 (λb hb=>ot b (by simpa using hb)) (λb hb o e=>by
  have hb:b=T:=by simpa using hb
  subst hb;rw[h7]at e;cases e;exact⟨ts,h8⟩) (λb e=>by
   by_cases hb:b=T
   ·subst hb
    rw[Wbb _ h7 (Obj.isFreed_of_fields (Obj.data_mapFields h8 _))]at e;cases e
   ·exact(ot b hb).symm.trans e) n rfl
 exact h _ T' J t1 t2
theorem Zmy (I:Inv X pins σ H s) (hex:X.ex=[]) (hst:X.stack=X.env::X.outer) (hf:X.env.frame=some X.env.locals) (tr:Trc s.heap a C T) (na:Nw X pins H a) (nT:Nw X pins H T)
  (h:∀h' T',Inv X pins σ H { s with heap:=h' } -> Trc h' a C T' -> Nw X pins H T' -> Q () { s with heap:=h' }):wpAny M X.A (leaving X.env (.ref a)) Q E s:=by
 unfold leaving;exact wpAny_bind (Zk9 I hex hst hf tr na nT h)
theorem Zjk {h1:Heap}{args:List Value}(I:Inv X pins σ H s) (hex:X.ex=[]) (hst:X.stack=X.env::X.outer) (hf:X.env.frame=some X.env.locals) (hm:Heap.MadeExcOf s.heap h1 a (.ref C) args)
  (h:∀h' T',Inv X pins σ H { s with heap:=h' } -> Trc h' a C T' -> Nw X pins H a->Nw X pins H T' -> Q () { s with heap:=h' }):wpAny M X.A (leaving X.env (.ref a)) Q E { s with heap:=h1 }:=by
 have J:Inv X pins σ H { s with heap:=h1 }:=I.kept (t':=s.toks) hm.keeps;have na:=Nw.of I hex hm.new;obtain⟨t,he,_,_⟩:=hm.there;have hfr:=J.ok.frames;have hl:=J.stack;rw[hst]at hfr hl;unfold leaving;refine wpAny_bind (noteN (s:={ s with heap:=h1 }) hfr hl hf he rfl rfl λh' T' n=>?_);refine Zia (vs:=#[.ref t,.none,.none,.none,.bool false,.none]) (s:={ s with heap:=h1 }) rfl (show 1<6 by decide) n ?_;rw[<- hst]at n;obtain⟨J2,t1,t2⟩:=J.noted (hid:=[]) hex na (λb hb=>by cases hb) he rfl rfl rfl (λb _=>rfl) (λb hb=>by cases hb) (λb e=>e) n rfl;exact h _ T' J2 t1 na t2
theorem Zl8 {A:Around}(I:Inv X pins σ H s) (hex:X.ex=[]) (tr:Trc s.heap a C T) (na:Nw X pins H a) (nT:Nw X pins H T)
  (h:∀h' T',Inv X pins σ H { s with heap:=h' } -> Trc h' a C T' -> Nw X pins H T' -> Q () { s with heap:=h' }):wpAny M A (setFlight (.ref a) none) Q E s:=by
 obtain⟨oe,vs,oT,ts,h1,h2,h3,h4,h5,h6,h7,h8,h9⟩:=tr;have sz:=(Array.getElem?_eq_some_iff.mp h9).1;have ot:∀b,b≠T->(s.heap.update T (Obj.mapFields (·.setIfInBounds 3 Value.none))).get? b=s.heap.get? b:=λb hb=>Wav _ _ (Ne.symm hb);refine wpAny_setFlight_none h1 h3 h4 h7 h8 sz (h _ T ?_ ?_ nT)
 ·refine I.moved (hid:=[T]) hex (λb hb=>by rcases Wan.mp hb with rfl|hb;exact nT;cases hb) (λb o e hb _=>(ot b (by simpa using hb)).trans e) (λb o e hnf=>⟨o.slots,(ot b λz=>?_).trans e⟩)
  subst z;rw[h7]at e;cases e;exact hnf ts h8
 ·exact⟨oe,vs,_,_,(ot a (Ne.symm h6)).trans h1,h2,h3,h4,h5,h6,Wbb _ h7 (Obj.isFreed_of_fields (Obj.data_mapFields h8 _)),Obj.data_mapFields h8 _,by simp[sz]⟩
end
def CXE (P:Program) (w:World):CXT:=λouter H s E e s'=>
 ∃(a C T:Addr) (H':Hp),e=.ref a/\s'.os=s.os/\AllBare s'.gens/\Un (frs outer) [] H H' s.heap s'.heap/\HOk P w H' s'.heap/\H' a=none/\s.heap.get? a=none/\H' T=none/\s.heap.get? T=none/\Trc s'.heap a C T/\E (.ref C) none H'
def Throws (X:Cx) (E:XK):Prop:=∀(pins:List (Addr × Obj)) (σ:St) (H:Hp) (s:Shared) (h1:Heap) (a C:Addr) (args:List Value),Inv X pins σ H s->Heap.MadeExcOf s.heap h1 a (.ref C) args->E (.ref C) none H->X.xe (.ref a) { s with heap:=h1 }
section
variable {P:Program}{w:World}{K:W.Frag}{mg:Str->Option Value}{base:Heap}{N:List Str}{qual:Str}{scope:Scope}{f:Addr}{cd:Value}{A:Around}{outer:List Env}{s0:Shared}{H0:Hp}{E:XK}
theorem Zdy:Passes (CXE P w) (cxOf (CXE P w) P w K mg base N qual scope f cd A outer s0 H0 E) E:=λpins σ H s e s' I hq=>by
 obtain⟨a,C,T,H',rfl,os,bare,un,hok,ha,hsa,hT,hsT,tr,hE⟩:=hq;have J:=I.call' (ch:=[]) os un hok bare (λb z=>absurd z (by simp));have na:=(Nw.of I rfl hsa).at ha;have nT:=(Nw.of I rfl hsT).at hT;refine Zmy J rfl rfl rfl tr na nT λh' T' J2 t1 t2=>?_;exact⟨a,C,T',H',rfl,J2.os,J2.bare,J2.base,J2.hok,ha,na.old,t2.trk,t2.old,t1,hE⟩
theorem Zl2:Throws (cxOf (CXE P w) P w K mg base N qual scope f cd A outer s0 H0 E) E:=λpins σ H s h1 a C args I hm hE=>by
 refine Zjk I rfl rfl rfl hm λh' T' J2 t1 na t2=>?_;exact⟨a,C,T',H,rfl,J2.os,J2.bare,J2.base,J2.hok,na.trk,na.old,t2.trk,t2.old,t1,hE⟩
end
abbrev ExcC (K:W.Frag) (C:Addr):Prop:=PySem.W.excIn K C [.type "ValueError",.type "Exception",.type "BaseException",.type "object"] "ValueError.__new__" = true
def ExcO (h:Heap) (C:Addr) (bm:List Value):Prop:=∃N nm qn bs hd sn sub ab col dd k0 k1 k2 k3 k5 mN,h.get? C=some (excClassObj nm qn C N bs bm hd sn sub ab col dd k0 k1 k2 k3 k5 "ValueError.__new__")/\h.Ns N mN/\mN "__init__" = none/\OwnTail h [.type "ValueError",.type "Exception",.type "BaseException",.type "object"] bm
theorem Zd5 {K:W.Frag}{h:Heap}{C:Addr}(X:K.In h) (q:ExcC K C):∃bm,ExcO h C bm/\∀v b,PySem.W.mroIn K C v=some b->(Value.ref C::bm).contains v=b:=by
 unfold ExcC PySem.W.excIn at q;split at q
 next dd cd sl e=>
  split at q
  next C' bm k0 k1 k2 k3 n k5 e1 e2=>
   rw[Wbd,Wbd,Wbd,Wbd,Wbd]at q;obtain⟨⟨⟨⟨⟨q1,q2⟩,q3⟩,q4⟩,q5⟩,q6⟩:=q;have q1:=beq_iff_eq.mp q1;have q2:=beq_iff_eq.mp q2;rw[Bool.not_eq_true']at q3;subst q1;cases cd with
   |mk nm bs mro ns qn hd sn sub ab col del=>
    dsimp only at e1 q3 q5 q6;have q7:=beq_iff_eq.mp q6;subst e1;subst q3;have e3:sl = #[k0,k1,k2,k3,some (.builtin n),k5]:=by
     cases sl with
     |mk l=>exact congrArg Array.mk e2
    subst e3;subst q2;refine⟨bm,⟨ns,nm,qn,bs,hd,sn,sub,ab,col,dd,k0,k1,k2,k3,k5,_,X _ _ e,.of_isNs (PySem.W.isNs_of_in X q5),PySem.W.nsMap_none_of_in X q5 q7,PySem.W.tail_of_in X q4⟩,λv b hv=>?_⟩;unfold PySem.W.mroIn PySem.W.clsIn at hv;rw[e]at hv;have hv:some ((Value.ref C'::bm).contains v)=some b:=hv;exact Wa5.inj hv
  next=>cases q
 next=>cases q
def tRaise (C:Addr) (E:XK) (t:TA):TS:=λ_ σ H=>t σ H λvs H1=>vs.length<=sizeLine/\E (.ref C) none H1
section
variable {X:Cx}{x:Str}{C:Addr}{np cpos pos:Pos}{e:Expr}{es:List Expr}{t:TA}{E:XK}
theorem Zl7 (cl:ExcC X.K C) (hg:Gl X x) (hm:X.mg x=some (.ref C)) (hh:X.A.handled=none) (hr:Throws X E) (ha:PA X (e::es) t) (hdb:(x == ("__debug__":Str))=false:=by decide)
  (he:starEach (e::es) X.env=(false,eval e X.env)::starEach es X.env:=by rfl) (hpl:(backTo cpos (starEach (e::es) X.env)).any (·.1)=false:=by rfl):PS X (.Raise (some (.Call (.Name x np) (e::es) [] cpos)) none pos) (tRaise C E t):=by
 intro pins s σ H D I h;obtain⟨bm,⟨N,nm,qn,bs,hd,sn,sub,ab,col,dd,k0,k1,k2,k3,k5,mN,o1,o2,o3,o4⟩,_⟩:=Zd5 I.ok.mod.kin cl;refine wpAny_Raise_call_subT (C:=C) (nm:=nm) (q:=qn) (N:=N) (bs:=bs) (bm:=bm) (hdct:=hd) (sn:=sn) (sub:=sub) (ab:=ab) (col:=col) (dd:=dd) (k0:=k0) (k1:=k1) (k2:=k2) (k3:=k3) (k5:=k5) (mN:=mN) F.excBase_ValueError (o4.hasType rfl) hh hpl o3 ?_;refine Zfo I hg hm ⟨rfl,?_⟩ hdb;have e1:backTo cpos (starEach (e::es) X.env)=(false,eval e X.env)::backTo cpos (starEach es X.env):=by rw[he];rfl
 rw[e1];refine Calls.evalArgs_plain ?_;rw[<- e1];refine thn (ha cpos pins s σ H _ I h) λus s1 ⟨vs,H1,I1,r,z,q⟩=>?_;exact⟨rfl,by rw[<- r.length];exact z,I1.bk _ _ o1,o2.keeps I1.bk,o4.keeps I1.bk,λh' a hm'=>hr pins σ H1 s1 h' a C us I1 hm' q⟩
end
structure ExcI (K:W.Frag) (C:Addr):Prop where
 cl:ExcC K C
 ga:PySem.W.findIn K (.ref C) "__getattribute__" = some (some (.builtin "BaseException.__getattribute__"))
 gt:PySem.W.findIn K (.ref C) "__getattr__" = some none
 ca:PySem.W.findIn K (.ref C) "__class__" = some (some (.builtin "object.__class__"))
 gs:PySem.W.specialIn K (.builtin "object.__class__") "__get__" = some (some (.builtin "getset_descriptor.__get__"))
 tk:PySem.W.takesIn K (.builtin "object.__class__")=some true
 ob:PySem.W.mroIn K C (.type "object")=some true
 be:PySem.W.mroIn K C (.type "BaseException")=some true
theorem InsC.ty {a C:Addr}{h:Heap}{M:Model}(I:InsC a C h):PySem.W.Looks M h (typeOf (.ref a)) (.ref C):=by
 obtain⟨o,_,h1,h2,_⟩:=I;exact h2 ▸ (PySem.W.Looks.ld h1).andThen .now
section
variable {prog:Program}{w:World}{A:Around}{E:Value->Shared->Prop}{K:W.Frag}{s:Shared}{a C:Addr}
theorem Zjq {M:Model}{nameV:Value}{Q:Unit->Shared->Prop}(X:K.In s.heap) (Z:ExcI K C) (I:InsC a C s.heap) (hq:Q () s):wpAny M A (checkBuiltinCall "BaseException.__getattribute__" ⟨[.ref a,nameV],[]⟩) Q E s:=by
 obtain⟨h,g,d,t,os⟩:=s;have hk:builtinKind "BaseException.__getattribute__" = some .slot:=by decide +kernel
 have hs:splitId "BaseException.__getattribute__" = some ("BaseException","__getattribute__"):=by decide +kernel
 obtain⟨bm,⟨N,nm,qn,bs,hd,sn,sub,ab,col,dd,k0,k1,k2,k3,k5,mN,hC,o2,o3,o4⟩,hmro⟩:=Zd5 X Z.cl;have hB:=hmro _ _ Z.be;obtain⟨ox,_,hx,hc,_⟩:=I;have ha:=F.args_bexc_ga (.ref a) nameV;simp only[checkBuiltinCall,hk,hs];refine wpAny_bind ?_;unfold isInstance
 repeat (first|(with_reducible refine wpAny_loadPart_at hx ?_;rw[hc])|(with_reducible refine wpAny_isSubtype_exc hC ?_;rw[hB])|wp_step)
 exact hq
theorem Ziv {R:Result->Shared->Prop}{tp:Value}(X:K.In s.heap) (I:InsC a C s.heap) (hm:PySem.W.mroIn K C (.type "object")=some true) (h:R (.ok (.ret (.ref C))) s) :
  codeAny (model prog w) A (.call (.builtin "getset_descriptor.__get__") ⟨[.builtin "object.__class__",.ref a,tp],[]⟩) R s:=by
 obtain⟨h0,g,d,t,os⟩:=s;have l0:=I.ty (M:=model prog w);have l1:=PySem.W.looks_mroIn (M:=model prog w) X hm;have ht:(⟨h0,g,d,t,os⟩:Shared).TypeIs (.builtin "object.__class__") "getset_descriptor":=PySem.W.KF.type_class;refine codeAny_call_builtin PySem.W.KF.slot_gs.plain PySem.W.KF.entry_gs (PySem.W.KF.slot_gs.check _ _ _ _ _ _ _ _ ht (PySem.W.KF.args_gs _ _ _) ?_);unfold Builtin.«getset_descriptor.__get__» Builtin.Getset_descriptor.descrGet;rw[PySem.W.dga_obj];refine wpAny_bind (m:=pure _) (wpAny_pure ?_);unfold Builtin.Getset_descriptor.descrGetter Builtin.Getset_descriptor.descrCheckInstance Builtin.Getset_descriptor.descrNameAndClass isInstance;simp only[PySem.W.KF.owner_class]
 repeat lk
 refine⟨Code.quiet_builtin _ (by decide +kernel),codeAny_builtin PySem.W.KF.entry_class ?_⟩;unfold Builtin.«object.__class__» shownTypeOf
 repeat lk
 exact h
theorem Zkf {Q:Option Value->Shared->Prop}(X:K.In s.heap) (Z:ExcI K C) (I:InsC a C s.heap) (h:Q (some (.ref C)) { s with toks:=s.toks+1 }):wpAny (model prog w) A (getAttr? (.ref a) "__class__") Q E s:=by
 obtain⟨hh,g,d,t,os⟩:=s;have L0:=I.ty (M:=model prog w);have L1:=PySem.W.looks_findIn (M:=model prog w) X Z.ga;have L2:=PySem.W.looks_findIn (M:=model prog w) X Z.gt;have L3:PySem.W.Looks (model prog w) hh (Builtin.ObjectAttr.find (.ref a) (.ref C) "__class__") (.bind (.builtin "getset_descriptor.__get__") (.builtin "object.__class__")):=by
  unfold Builtin.ObjectAttr.find;refine(PySem.W.looks_findIn X Z.ca).andThen ((show PySem.W.Looks (model prog w) hh (Builtin.ObjectAttr.getOf (some (.builtin "object.__class__"))) _ from PySem.W.looks_specialIn X Z.gs).andThen ?_);have q:PySem.W.Looks (model prog w) hh (Builtin.ObjectAttr.dataDescriptor? (some (.builtin "object.__class__")) (some (.builtin "getset_descriptor.__get__"))) (some (.builtin "getset_descriptor.__get__",.builtin "object.__class__")):=(PySem.W.looks_takesIn X Z.tk).andThen .now;exact q.andThen (PySem.W.Looks.tag .now)
 have f3:=F.excAttr_ValueError.ga.bind (.ref a);have hx2:(Value.builtin "BaseException.__getattribute__" == Value.builtin "object.__getattribute__")=false:=by decide +kernel
 have hx1:(onTheHeap (Value.ref C) && Value.builtin "BaseException.__getattribute__" == Value.builtin "object.__getattribute__")=false:=by rw[hx2];rfl
 unfold getAttr? getAttrBy? getAttrBy;refine wpAny_bind (wpAny_mkText (wpAny_bind (wpAny_attempt (wpAny_holding (wpAny_bind (L0.at (wpAny_bind (L1.at ?_))))))));dsimp only;rw[hx1];rw[if_neg Wat];unfold getAttrByItsOwn hookBefore;rw[if_pos (show onTheHeap (Value.ref C)=true from rfl)];refine wpAny_bind (L2.at (wpAny_bind (wpAny_attempt (wpAny_holding ?_))));unfold callGetattribute;rw[Wct,if_neg Wat];unfold boundAndCalled;refine wpAny_bind (wpAny_of_eq f3 ?_);refine wpAny_call (codeAny_call_builtin F.excAttr_ValueError.ga.plain F.entry_bexc_ga (Zjq X Z I ?_));unfold Builtin.«object.__getattribute__»;refine wpAny_bind (m:=slotArgs _ _ _) (wpAny_pure ?_);dsimp only;refine wpAny_bind (m:=Builtin.ObjectAttr.attrName _) (wpAny_pure ?_);refine wpAny_bind (L0.at (wpAny_bind (L3.at ?_)));dsimp only;unfold Builtin.ObjectAttr.bindTo;dsimp only;refine wpAny_bind (wpAny_holding (wpAny_call (Ziv (s:=⟨hh,g,d,t+1,os⟩) X I Z.ob (wpAny_pure ?_))));exact PySem.W.handed_on rfl (wpAny_pure h)
theorem Zf7 (Z:ExcI K C):PySem.W.KitX K (.ref a) (.ref C) (InsC a C) where
 ty:=λ_ _ _ I=>I.ty
 it:=λ_ h X _=>by
  obtain⟨bm,⟨N,nm,qn,bs,hd,sn,sub,ab,col,dd,k0,k1,k2,k3,k5,mN,hC,_⟩,_⟩:=Zd5 X Z.cl;intro A' Q' E' s' k q;unfold isType loadHead;exact wpAny_bind (wpAny_loadPart (k _ _ hC) (wpAny_pure q))
 ne:=λh tp dd its n sl X htp=>by
  obtain⟨bm,⟨N,nm,qn,bs,hd,sn,sub,ab,col,dd',k0,k1,k2,k3,k5,mN,hC,_⟩,_⟩:=Zd5 X Z.cl;refine Wcv.mpr λq=>?_;have e:C=tp:=Value.ref.inj (beq_iff_eq.mp q);subst e;rw[hC]at htp;exact absurd (congrArg Obj.cls (Wa5.inj htp)) (by intro z;injection z with z;exact absurd z (by decide))
 ca:=λX I k=>Zkf X Z I k
end
theorem Ze2 {M:Model}{A:Around}{E:Value->Shared->Prop}{K:W.Frag}{s:Shared}{a C FE:Addr}{Q:Bool->Shared->Prop}(X:K.In s.heap) (cF:ExcC K FE) (cC:ExcC K C) (hm:PySem.W.mroIn K C (.ref FE)=some true) (I:InsC a C s.heap) (hq:Q true s) :
  wpAny M A (excMatches (.ref a) (.ref FE)) Q E s:=by
 obtain⟨h,g,d,t,os⟩:=s;obtain⟨bm,⟨N,nm,qn,bs,hd,sn,sub,ab,col,dd,k0,k1,k2,k3,k5,mN,hC,_⟩,hmro⟩:=Zd5 X cC;obtain⟨bm',⟨N',nm',qn',bs',hd',sn',sub',ab',col',dd',k0',k1',k2',k3',k5',mN',hF,_,_,oF⟩,_⟩:=Zd5 X cF;have hA:=hmro _ _ hm;have hB:(Value.ref FE::bm').contains (.type "BaseException")=true:=by rw[List.contains_cons,oF.hasType (X:="BaseException") (b:=true) rfl,Bool.or_true]
 obtain⟨ox,_,hx,hc,_⟩:=I;have f:=tc_notTuple;unfold excMatches
 repeat (first|(with_reducible refine wpAny_loadPart_at hx ?_;rw[hc])|with_reducible refine wpAny_loadPart_at hF ?_|(with_reducible refine wpAny_isSubtype_exc hF ?_;rw[hB])|(with_reducible refine wpAny_isSubtype_exc hC ?_;rw[hA])|wp_step)
 exact hq
abbrev XC (X:Cx) (e:Addr):Cx:={ X with A:=X.A.mark (some (.ref e)),calm:=false,xe:=λ_ _=>False }
theorem Cx.Ok.suite {X:Cx}(ok:X.Ok) (e:Addr):(XC X e).Ok:=
 ⟨ok.mod,ok.kind,ok.glob,ok.blt,ok.above,ok.inj,ok.has,ok.cab,(λz=>nomatch z),ok.frames,ok.stk,ok.exf,ok.bs,ok.bsz,ok.noex,ok.exfs,ok.funs,ok.frf⟩
abbrev XT (X:Cx) (pn:List (Addr × Obj)) (xe:Value->Shared->Prop):Cx:={ X with pn:=pn,xe:=xe }
theorem Cx.Ok.try_ {X:Cx}(ok:X.Ok) (pn:List (Addr × Obj)) (xe:Value->Shared->Prop):(XT X pn xe).Ok:=
 ⟨ok.mod,ok.kind,ok.glob,ok.blt,ok.above,ok.inj,ok.has,ok.cab,ok.hd,ok.frames,ok.stk,ok.exf,ok.bs,ok.bsz,ok.noex,ok.exfs,ok.funs,ok.frf⟩
section
variable {X:Cx}{pins:List (Addr × Obj)}{σ:St}{H:Hp}{s:Shared}{a C:Addr}
theorem Inv.suite (I:Inv X pins σ H s) (e:Addr):Inv (XC X e) pins σ H s:=⟨I.ok.suite e,I.os,I.bare,I.base,I.loc,I.cell,I.free,I.freeC,I.pin,I.hok,I.len⟩
theorem Inv.unsuite {e:Addr}(ok:X.Ok) (I:Inv (XC X e) pins σ H s):Inv X pins σ H s:=⟨ok,I.os,I.bare,I.base,I.loc,I.cell,I.free,I.freeC,I.pin,I.hok,I.len⟩
theorem Inv.into {xe:Value->Shared->Prop}(I:Inv X pins σ H s):Inv (XT X (X.pn++pins) xe) [] σ H s:=⟨I.ok.try_ _ _,I.os,I.bare,I.base,I.loc,I.cell,I.free,I.freeC,λp hp=>I.pin p (by simpa using hp),I.hok,I.len⟩
theorem Inv.outof {xe:Value->Shared->Prop}{pins1:List (Addr × Obj)}(ok:X.Ok) (I:Inv (XT X (X.pn++pins) xe) pins1 σ H s):Inv X pins σ H s:=⟨ok,I.os,I.bare,I.base,I.loc,I.cell,I.free,I.freeC,λp hp=>I.pin p (Wb0 _ hp),I.hok,I.len⟩
theorem Inv.held (I:Inv X pins σ H s) (n:Nw X pins H a) (hi:InsC a C s.heap):Inv X pins σ (upd H a (.ext (InsC a C))) s:=by
 have keep:∀b,b≠a->upd H a (.ext (InsC a C)) b=H b:=λb hb=>Zau hb;have nn:∀b u,H b=some u->b≠a:=λb u e z=>by subst z;rw[n.trk]at e;cases e
 refine⟨I.ok,I.os,I.bare,⟨I.base.keep,I.base.slot,λb o e q hx=>?_,I.base.there,λb xs e=>?_,λb o u e=>?_,λb ps e=>?_⟩,I.loc,I.cell,?_,λx c e=>?_,λp hp=>?_,λb u e=>?_,I.len⟩
 ·rw[keep b (λz=>by subst z;rw[n.old]at e;cases e)];exact I.base.free b o e q hx
 ·have q:=I.base.tups b xs e
  rw[keep b (nn b _ q)];exact q
 ·have q:=I.base.frzs b o u e
  rw[keep b (nn b _ q)];exact q
 ·obtain⟨m,q⟩:=I.base.tbls b ps e
  exact⟨m,by rw[keep b (nn b _ q)];exact q⟩
 ·rw[keep _ (Ne.symm n.loc)];exact I.free
 ·rw[keep _ (n.cel x c e)];exact I.freeC x c e
 ·obtain⟨e,q,r⟩:=I.pin p hp
  exact⟨e,by rw[keep _ (n.pin p hp)];exact q,r⟩
 ·by_cases hb:b=a
  ·subst hb
   rw[Zao]at e;cases e;obtain⟨ox,vs,h1,h2⟩:=hi;exact⟨⟨ox,vs,h1,h2⟩,⟨ox,h1⟩,λh1' h2' ⟨o,ws,z1,z2⟩ k=>⟨o,ws,k o z1,z2⟩⟩
  ·rw[keep b hb]at e
   refine(I.hok b u e).stay (λc v _ q=>q) (λc q=>?_) λc xs q=>?_
   ·rw[keep c (nn c _ q)];exact q
   ·rw[keep c (nn c _ q)];exact q
theorem Inv.gone {M:Model}{A:Around}{E:Value->Shared->Prop}{i:Nat}{x:Str}{pos:Pos}{Q:Unit->Shared->Prop}(I:Inv X pins σ H s) (hN:X.N.Nodup) (hi:X.N[i]?=some x) (hk:X.env.scope.names.lookup x=some .local)
  (h:∀s',Inv X pins (σ.set i none) H s' -> Q () s'):wpAny M A (do bindName X.env x .none;unbindBehindTheSuite X.env x pos) Q E s:=by
 obtain⟨m,hn,hl⟩:=id I.loc;have hcls:(X.env.scope.kind == .class || (X.env.scope.kind == .module && X.env.locals != X.env.globals))=false:=by rw[I.ok.kind];rfl
 refine wpAny_nameGoes_keeps (show X.env.kindOf x=some .local from hk) hn hcls λh' v hn' hs=>h _ ?_;have cne:=I.cne;obtain⟨oL,_,_,hoL,_⟩:=id hn;have ltL:∀b o,X.s₀.heap.get? b=some o->b≠X.env.locals:=λb o e=>War (Wa0 (Wai e) I.ok.above);refine⟨I.ok,I.os,I.bare,⟨λb o e n hb hx=>?_,λb o e n hb hx=>?_,I.base.free,λb o e hx=>?_,I.base.tups,I.base.frzs,I.base.tbls⟩,⟨_,hn',λj y v' e1 e2 e3=>?_⟩,λy c e=>?_,I.free,I.freeC,λp hp=>?_,λb u e=>?_,by simpa using I.len⟩
 ·exact(hs.2 b (ltL b o e)).trans (I.base.keep b o e n hb hx)
 ·obtain⟨sl,e1⟩:=I.base.slot b o e n hb hx
  exact⟨sl,(hs.2 b (ltL b o e)).trans e1⟩
 ·obtain⟨o',e1⟩:=I.base.there b o e hx
  exact⟨o',(hs.2 b (ltL b o e)).trans e1⟩
 ·have hj:j≠i:=by
   intro z;subst z;rw[Wb3]at e2;split at e2
   ·split at e2 <;> cases e2
   ·rename_i z;exact z rfl
  rw[Wal (Ne.symm hj)]at e2;obtain⟨u',r',q⟩:=hl j y v' e1 e2 e3;refine⟨u',r',?_⟩;rcases q with ⟨k,e⟩|⟨k,c,e,z⟩
  ·refine .inl ⟨k,?_⟩
   have hy:y≠x:=λe=>hj (Zgb hN e1 (e ▸ hi));show (if y=x then v else m y)=_;rw[if_neg hy];exact e
  ·exact .inr ⟨k,c,e,z.sameBut hs (cne y c e)⟩
 ·obtain⟨w',z⟩:=I.cell y c e
  exact⟨w',z.sameBut hs (cne y c e)⟩
 ·obtain⟨e,n,ne,nf,d⟩:=I.pin p hp
  exact⟨(hs.2 p.1 ne).trans e,n,ne,nf,d⟩
 ·refine(I.hok b u e).stay (λc w' hc q=>(hs.2 c ?_).trans q) (λ_ q=>q) λ_ _ q=>q
  rintro rfl;rcases hc with rfl|hc
  ·rw[I.free]at e;cases e
  ·rw[I.free]at hc;cases hc
end
def tTry (K:W.Frag) (FE:Addr) (i n:Nat) (tb:XK->TS) (th:Addr->TS):TS:=λD σ H=>∃E:XK,tb E D σ H/\∀C H1,E (.ref C) none H1->(ExcC K C/\PySem.W.mroIn K C (.ref FE)=some true) ∧
 ∀a,H1 a=none->th a ⟨λσ' H'=>D.nx (σ'.set i none) H',D.rt,λσ' H'=>D.bk (σ'.set i none) H',λσ' H'=>D.ct (σ'.set i none) H'⟩ ((Wae n none).set i (some (.ref a))) (upd H1 a (.ext (InsC a C)))
section
variable {X:Cx}{x y:Str}{FE:Addr}{np hpos pos:Pos}{b0:Stmt}{body hb:List Stmt}{i n:Nat}{tb:XK->TS}{th:Addr->TS}
theorem Zqk (nd:X.N.Nodup) (hi:X.N[i]?=some y) (hk:X.env.scope.names.lookup y=some .local) (hn:X.N.length=n) (hex:X.ex=[]) (hst:X.stack=X.env::X.outer) (hf:X.env.frame=some X.env.locals) (hg:Gl X x) (hm:X.mg x=some (.ref FE)) (cF:ExcC X.K FE)
  (hbd:∀(E:XK) (pn:List (Addr × Obj)) (xe:Value->Shared->Prop),Passes (CXE X.prog X.w) (XT X pn xe) E->PSs (XT X pn xe) body (tb E)) (hh:∀a,PSs (XC X a) (b0::hb) (th a)) (hfn:X.fn y=true\/X.env.scope.names.lookup y=some .local:=by exact .inr rfl) (hdb:(x == ("__debug__":Str))=false:=by decide) :
  PS X (.Try body [.ExceptHandler (some (.Name x np)) (some y) (b0::hb) hpos] [] [] pos) (tTry X.K FE i n tb th):=by
 intro pins s σ H D I h;obtain⟨E,hB,hE⟩:=h;refine wpAny_Try_except ?_;refine wpAny_mono (hbd E (X.pn++pins) (λe s1=>wpAny (model X.prog X.w) X.A (noteFrame e X.env) (λ_ s2=>wpAny (model X.prog X.w) X.A (setFlight e none) (λ_ s3=>wpAny (model X.prog X.w) X.A (handleBy e X.env [.ExceptHandler (some (.Name x np)) (some y) (b0::hb) hpos]) (SP X pins D) X.xe s3) X.xe s2) X.xe s1) ?_ [] s σ H D I.into hB) (λf s1 hq=>?_) (λ_ _ z=>z)
 ·intro pins1 σ1 H1 s1 e s2 J hq
  obtain⟨a,C,T,H2,rfl,os,bare,un,hok,ha,hsa,hT,hsT,tr,hE'⟩:=hq;have J1:Inv X pins σ1 H1 s1:=Inv.outof I.ok J;have J2:Inv X pins σ1 H2 s2:=J1.call' (ch:=[]) os un hok bare (λb z=>absurd z (by simp));have na:=(Nw.of J1 hex hsa).at ha;have nT:=(Nw.of J1 hex hsT).at hT;obtain⟨⟨cC,mC⟩,hth⟩:=hE C H2 hE';refine Zk9 J2 hex hst hf tr na nT λh3 T3 K3 t3 n3=>?_;have inC:∀{h:Heap}{T:Addr},Trc h a C T->InsC a C h:=λq=>by
   obtain⟨oe,vs,oT,ts,q1,q2,q3,_,q4,_⟩:=q;exact⟨oe,vs,q1,q2,q3,q4⟩
  refine wpAny_handleBy_cons (codeAny_handlers_test ?_) (by intro q;cases q);refine Zfo (X:=XC X a) (K3.suite a) hg hm ?_ hdb;refine Ze2 (K:=X.K) K3.kIn cF cC mC (inC t3) ?_;refine codeAny_handlers_suite_as ?_;refine Zl8 K3 hex t3 na n3 λh4 T4 K4 t4 n4=>?_;have K5:=(K4.held na (inC t4)).suite a;have K6:=K5.weak (σ':=Wae n none) (by rw[Wa7,<- hn];exact K5.len.symm) (λj v z=>by
   rw[Wbg]at z;split at z <;> cases z)
  refine Zda (X:=XC X a) (v:=.ref a) K6 nd hi (.inl hk) rfl (λs5 K7=>?_) hfn;refine wpAny_mono (hh a pins s5 _ _ _ K7 (hth a ha)) (λf s6 q=>?_) (λ_ _ z=>z.elim);cases f with
  |next=>
   obtain⟨σ',H',K8,q⟩:=q;exact Inv.gone (K8.unsuite I.ok) nd hi hk λs7 K9=>⟨_,H',K9,q⟩
  |brk=>
   obtain⟨σ',H',K8,q⟩:=q;exact Inv.gone (K8.unsuite I.ok) nd hi hk λs7 K9=>⟨_,H',K9,q⟩
  |cont=>
   obtain⟨σ',H',K8,q⟩:=q;exact Inv.gone (K8.unsuite I.ok) nd hi hk λs7 K9=>⟨_,H',K9,q⟩
  |ret u=>
   obtain⟨v,σ',H',K8,r,q⟩:=q;exact Inv.gone (K8.unsuite I.ok) nd hi hk λs7 K9=>⟨v,_,H',K9,r,q⟩
 ·cases f with
  |next=>
   obtain⟨σ',H',J,q⟩:=hq;exact wpAny_execs_nil ⟨σ',H',Inv.outof I.ok J,q⟩
  |brk=>
   obtain⟨σ',H',J,q⟩:=hq;exact⟨σ',H',Inv.outof I.ok J,q⟩
  |cont=>
   obtain⟨σ',H',J,q⟩:=hq;exact⟨σ',H',Inv.outof I.ok J,q⟩
  |ret u=>
   obtain⟨v,σ',H',J,r,q⟩:=hq;exact⟨v,σ',H',Inv.outof I.ok J,r,q⟩
end
def rIsiE (K:W.Frag):List V->Hp->VK->Prop:=λxs H Q=>∃a C b,H a=some (.ext (InsC a C))/\ExcI K C/\Q (.bl b) H ∧
 ((∃c,xs=[.ref a,.ref c]/\PySem.W.kitOne K (.ref C) (.ref c)=some b)\/(∃t,xs=[.ref a,.ty t]/\PySem.W.kitOne K (.ref C) (.type t)=some b) ∨
  ∃(p:Addr) (cs:List Addr),xs=[.ref a,.ref p]/\H p=some (.tup (cs.map V.ref))/\PySem.W.kitAny K (.ref C) (cs.map Value.ref)=some b)
section
variable {X:Cx}
theorem isiEK (K:W.Frag) (hK:X.K=K:=by rfl):CallR X (.builtin "isinstance") (rIsiE K):=by
 subst hK;intro pins s σ H xs us Q I r h;obtain⟨a,C,b,ha,Z,q,h⟩:=h;obtain⟨hi,_⟩:=I.hok a _ ha;rcases h with ⟨c,rfl,e⟩|⟨t,rfl,e⟩|⟨p,cs,rfl,hp,e⟩
 ·obtain⟨u,u',rfl,rx,rn⟩:=vals2 r
  cases (show u=Value.ref a from rx);cases (show u'=Value.ref c from rn);exact PySem.W.kia_one (Zf7 Z) I.kIn hi e (λz=>nomatch z) λtk=>⟨.bl b,H,I.tok _,rfl,q⟩
 ·obtain⟨u,u',rfl,rx,rn⟩:=vals2 r
  cases (show u=Value.ref a from rx);cases (show u'=Value.type t from rn);exact PySem.W.kia_one (Zf7 Z) I.kIn hi e (λz=>nomatch z) λtk=>⟨.bl b,H,I.tok _,rfl,q⟩
 ·obtain⟨u,u',rfl,rx,rn⟩:=vals2 r
  cases (show u=Value.ref a from rx);cases (show u'=Value.ref p from rn);obtain⟨_,its,rv,o,ho,⟨hc,n,hd⟩,hdd⟩:=I.hok p _ hp;have hv:∀(ns:List Addr) (its:List Value),Vals (ns.map V.ref) its->its=ns.map Value.ref:=by
   intro ns
   induction ns with
   |nil=>intro its h;cases h;rfl
   |cons b r ih=>intro its h;cases h with|cons h1 h2=>cases (show _=Value.ref b from h1);rw[ih _ h2];rfl
  have e2:=hv cs its rv;subst e2;obtain⟨cls,dd,data,sl⟩:=o;simp only at hc hd hdd;subst hc hd hdd;exact PySem.W.kia_tup (Zf7 Z) I.kIn hi ho e (λz=>nomatch z) λtk=>⟨.bl b,H,I.tok _,rfl,q⟩
end
structure CalleeX (P:Program) (w:World) (K:W.Frag) (mg:Str->Option Value) (base:Heap) (k:Nat) (x:Str) (ps:List Str) (sp:Sp):Prop where
 ex:∃(f:Addr) (fd:FuncData),FnOk P w K mg base (CXE P w) k f fd ps sp/\Binds K fd ps []/\W.keepIn K (.ref f)=true/\mg x=some (.ref f)
section
variable {X:Cx}{k:Nat}{x:Str}{ps:List Str}{sp:Sp}{e:Expr}{es:List Expr}{t:TA}{p pos:Pos}{E:XK}
theorem Zdx (C:CalleeX X.prog X.w X.K X.mg X.base k x ps sp) (hr:Room k X.A) (hx:Passes (CXE X.prog X.w) X E) (ha:PA X (e::es) t) (hg:Gl X x:=by rfl) (hdb:(x == ("__debug__":Str))=false:=by decide)
  (he:starEach (e::es) X.env=(false,eval e X.env)::starEach es X.env:=by rfl) (hpl:(backTo pos (starEach es X.env)).any (·.1)=false:=by rfl):PE X (.Call (.Name x p) (e::es) [] pos) (tCall sp [] E t):=by
 obtain⟨f,fd,F,b,kp,m⟩:=C.ex;exact Zj3 F hr hg m kp b .nil hx ha hdb he hpl
end
section
variable {P:Program}{w:World}{K:W.Frag}{mg:Str->Option Value}{base:Heap}
theorem Fun.okX {x qual:Str}{st:Stmt}{f:Addr}{fd:FuncData}{N ps:List Str}{k:Nat}{sp:Sp}(F:Fun K x qual st f fd) (S:FnScope N ps (defScope st)) (len:∀vs H Q E,sp vs H Q E->vs.length=ps.length)
  (hbody:∀(cdv:Value) (A:Around) (outer:List Env) (s:Shared) (H:Hp) (vs:List V) (Q:VK) (E:XK),Room k (A.deeper (envOfC qual (defScope st) s.heap.objs.size f cdv))->sp vs H Q E →
   ∃t,PSs (cxOf (CXE P w) P w K mg base N qual (defScope st) f cdv A outer s H E) (defBody st) t/\t { nx:=λ_ H'=>Q .non H',rt:=Q } (start N vs) H):FnOk P w K mg base (CXE P w) (k+1) f fd ps sp:=by
 obtain⟨oc,od,kV,doc,pm,an,cdv,ct,osl,rfl,lk,hcd⟩:=F.ex;exact Zrh lk hcd S len λA outer s H vs Q E hr hsp=>hbody cdv A outer s H vs Q E hr hsp
end
def EW (E:XK) (Xp:Addr->Prop) (g:Gm):Prop:=∀C H',(∀b o,¬ g.B b->g.Hz b=some o->H' b=some o)->(∀b,g.B b->H' b≠none)->Same g.F H' -> (∀b o,g.Xo b=some o->H' b=some o)->Xp C->E (.ref C) none H'
def JX (K:W.Frag) (E:XK) (Xp:Addr->Prop) (t:TS) (Δ:Evt) (P:Pst):Prop:=∀g G H σ D,EW E Xp g->Ok K g G H σ Δ -> SCont K g P D->t D σ H
abbrev XSp:=List D->(D->Prop)->(Addr->Prop)->Prop
def spX (K:W.Frag) (f:XSp):Sp:=λvs H Q E=>∃F ds Post Xp,Same F H/\Reps K F vs ds/\f ds Post Xp/\(∀r H' d,Same H H' -> Rep K (glue F H H') r d->Post d->Q r H')/\∀C H',Same H H' -> Xp C->E (.ref C) none H'
section
variable {K:W.Frag}{Δ:Evt}{E:XK}{Xp:Addr->Prop}{nx bk ct:Evt->Prop}{rt:D->Evt->Prop}{ro:OD->Evt->Prop}
theorem EW.at {g:Gm}{G H H':Hp}{σ:St}{C:Addr}(w:EW E Xp g) (k:Ok K g G H σ Δ) (s:Same H H') (x:Xp C):E (.ref C) none H':=
 w C H' (λb o hb e=>s b o (k.same b o hb e)) (λb hb z=>by
  cases q:H b with
  |none=>exact k.lent b hb q
  |some o=>rw[s b o q]at z;cases z) (λb o e=>s b o (k.live b o (k.sub b o e))) (λb o e=>s b o (k.ext b o e).1) x
theorem Zcm {f:XSp}{n:Nat}(h:∀ds Post Xp,f ds Post Xp->ds.length=n):∀vs H Q E,spX K f vs H Q E->vs.length=n:=λvs H Q E hq=>by
 obtain⟨F,ds,Post,Xp,l,rs,hf,q⟩:=hq;rw[rs.length];exact h ds Post Xp hf
theorem Zf4 {f:XSp}{t:TS}{N:List Str}{vs:List V}{H:Hp}{Q:VK}(ht:∀ds Post Xp,f ds Post Xp->ds.length<=N.length/\JX K E Xp t (startD N ds) ⟨λ_=>Post .non,λd _=>Post d,λ_=>False,λ_=>False,λ_ _=>False⟩) (h:spX K f vs H Q E) :
  t { nx:=λ_ H'=>Q .non H',rt:=Q } (start N vs) H:=by
 obtain⟨F,ds,Post,Xp,l,rs,hf,q,x⟩:=h;obtain⟨hl,hj⟩:=ht ds Post Xp hf;have fin:∀{v:V}{d:D}{σ:St}{G H':Hp}{Δ:Evt},Ok K ⟨λ_=>False,F,H,λ_=>none⟩ G H' σ Δ -> Rep K G v d->Post d->Q v H':=λ{v d σ G H' Δ} k r p=>by
  refine q v H' d (λb o e=>k.same b o (λz=>z) e) (r.mono λb o e=>?_) p;obtain⟨e1,e2⟩:=k.frz b o e;rcases e2 with z|z
  ·rw[Zdp z];exact e1
  ·rw[Zct (l b o z)];exact z
 refine hj ⟨λ_=>False,F,H,λ_=>none⟩ F H (start N vs) _ (λC H' h1 _ _ _ xc=>x C H' (λb o e=>h1 b o (λz=>z) e) xc) (Zeg rs hl (λ_ _ _ e=>e) (λ_ z=>z.elim) (Same.refl _) (λb o e=>⟨l b o e,.inr e⟩) λ_=>rfl) ⟨λσ G H' Δ k p=>fin k .non p,λv d σ G H' Δ k r p=>fin k r p,λ_ _ _ _ _ z=>z.elim,λ_ _ _ _ _ z=>z.elim,λ_ _ _ _ _ _ _ _ z=>z.elim⟩
theorem Zka {t:TS}{P:Pst}(h:JS K t Δ P):JX K E Xp t Δ P:=λg G H σ D _ k c=>h g G H σ D k c
theorem Zgw {t u:TS}(h:JX K E Xp t Δ ⟨λΔ1=>JX K E Xp u Δ1 ⟨nx,rt,bk,ct,ro⟩,rt,bk,ct,ro⟩):JX K E Xp (tSeq t u) Δ ⟨nx,rt,bk,ct,ro⟩:=λg G H σ D w k c=>
 h g G H σ _ w k ⟨λσ1 G1 H1 Δ1 k1 p1=>p1 g G1 H1 σ1 D w k1 c,c.rt,c.bk,c.ct,c.ro⟩
theorem Zr4 {c:TT}{t u:TS}{P:Pst}(h:JT K c Δ λb Δ1=>if b=true then JX K E Xp t Δ1 P else JX K E Xp u Δ1 P):JX K E Xp (tIfS c t u) Δ P:=λg G H σ D w k q=>
 h g G H σ _ k λb G1 H1 Δ1 k1 s1 p1=>by
  cases b with
  |true=>exact(show JX K E Xp t Δ1 P from p1) g G1 H1 σ D w k1 q
  |false=>exact(show JX K E Xp u Δ1 P from p1) g G1 H1 σ D w k1 q
theorem Zpa {P:Pst}(p:P.nx Δ):JX K E Xp tNext Δ P:=Zka (Zlj p)
theorem Zm0 {C:Addr}{ta:TA}{P:Pst}(h:JA K ta Δ λds Δ1=>ds.length<=sizeLine/\Xp C):JX K E Xp (tRaise C E ta) Δ P:=λg G H σ D w k q=>
 h g G H σ _ k λvs ds G1 H1 Δ1 k1 s1 r1 ⟨z,x⟩=>⟨by rw[r1.length];exact z,w.at k1 (Same.refl _) x⟩
def JEX (K:W.Frag) (E:XK) (Xp:Addr->Prop) (t:TE) (Δ:Evt) (P:D->Evt->Prop):Prop:=∀g G H σ Q,EW E Xp g->Ok K g G H σ Δ -> Cont K g G σ P Q->t σ H Q
theorem Zbq {f:XSp}{ta:TA}{P:D->Evt->Prop}(h:JA K ta Δ λds Δ1=>f ds (λd=>P d Δ1) Xp):JEX K E Xp (tCall (spX K f) [] E ta) Δ P:=λg G H σ Q w k c=>
 h g G H σ _ k λvs ds G1 H1 Δ1 k1 s1 r1 p1=>by
  show spX K f (vs++[]) H1 Q E;rw[Wbc];refine⟨G1,ds,_,_,k1.live,r1,p1,λr H' d sh rr pd=>?_,λC H' sh x=>w.at k1 sh x⟩;have sg:=Zef (H':=H') k1.live;exact c r d _ H' Δ1 (k1.grow sg sh (Zfs k1.live λb o _ e=>sh b o e)) (s1.trans sg) rr pd
theorem Zie {te:TE}{P:Pst}(h:JEX K E Xp te Δ P.rt):JX K E Xp (tRet te) Δ P:=λg G H σ D w k c=>
 h g G H σ _ w k λv d G1 H1 Δ1 k1 s1 r1 p1=>c.rt v d σ G1 H1 Δ1 k1 r1 p1
theorem Zd3 {te:TE}{P:Pst}(h:JEX K E Xp te Δ λ_ Δ1=>P.nx Δ1):JX K E Xp (tDrop te) Δ P:=λg G H σ D w k c=>
 h g G H σ _ w k λv d G1 H1 Δ1 k1 s1 r1 p1=>c.nx σ G1 H1 Δ1 k1 p1
theorem Ok.unset {g:Gm}{G H:Hp}{σ:St}(k:Ok K g G H σ Δ) (i:Nat):Ok K g G H (σ.set i none) (Δ.set i .any):=by
 have ne:∀(j:Nat) x,(Δ.set i .any)[j]?=some x->x≠.any->j≠i /\ Δ[j]?=some x/\(σ.set i none)[j]? = σ[j]?:=λj x e h=>by
  by_cases hj:j=i
  ·subst hj
   rw[Wb3]at e;split at e
   ·split at e
    ·cases e;exact absurd rfl h
    ·cases e
   ·rename_i z;exact absurd rfl z
  ·rw[Wal (Ne.symm hj)]at e
   exact⟨hj,e,Wal (Ne.symm hj)⟩
 have od:∀(x:Slot) o,x.od=some o->x≠.any:=λx o e z=>by subst z;cases e
 refine⟨k.same,k.lent,k.sub,k.frz,λb o e=>?_,by simp[k.len],λj d e=>?_,λj x o e1 e2=>?_,λj l x y o o' a e1 e2 e3 e4 e5 e6=>?_⟩
 ·obtain⟨h1,h2,h3⟩:=k.ext b o e
  refine⟨h1,h2,λj x o e1 e2=>?_⟩;obtain⟨_,q1,q2⟩:=ne j x e1 (od x o e2);rw[q2];exact h3 j x o q1 e2
 ·obtain⟨_,q1,q2⟩:=ne j _ e (by intro z;cases z)
  rw[q2];exact k.val j d q1
 ·obtain⟨_,q1,q2⟩:=ne j x e1 (od x o e2)
  rw[q2];exact k.own j x o q1 e2
 ·obtain⟨_,q1,q2⟩:=ne j x e1 (od x o e2)
  obtain⟨_,q3,q4⟩:=ne l y e3 (od y o' e4);rw[q2]at e5;rw[q4]at e6;exact k.dis j l x y o o' a q1 e2 q3 e4 e5 e6
theorem Zpk {FE:Addr}{i n:Nat}{tb:XK->TS}{th:Addr->TS}(Xp:Addr->Prop) (hn:Δ.length=n) (hi:i<n) (hb:∀E,JX K E Xp (tb E) Δ ⟨nx,rt,bk,ct,ro⟩)
  (hh:∀C,Xp C->(ExcC K C/\PySem.W.mroIn K C (.ref FE)=some true)/\∀a,JS K (th a) ((Wae n .any).set i (.val (.exc a C))) ⟨λΔ1=>nx (Δ1.set i .any),rt,λΔ1=>bk (Δ1.set i .any),λΔ1=>ct (Δ1.set i .any),ro⟩) :
  JS K (tTry K FE i n tb th) Δ ⟨nx,rt,bk,ct,ro⟩:=λg G H σ D k c=>by
 refine⟨λv _ H'=>∃C,v=.ref C/\Xp C/\(∀b o,¬ g.B b->g.Hz b=some o->H' b=some o)/\(∀b,g.B b->H' b≠none)/\Same g.F H' /\ (∀b o,g.Xo b=some o->H' b=some o),?_,λC H1 hq=>?_⟩
 ·exact hb _ g G H σ D (λC H' h1 h2 h3 h4 x=>⟨C,rfl,x,h1,h2,h3,h4⟩) k c
 ·obtain⟨C',e,x,h1,h2,h3,h4⟩:=hq
  cases e;obtain⟨hx,hj⟩:=hh C x;refine⟨hx,λa ha=>?_⟩;have noOd:∀(j:Nat) (z:Slot) o,(Wae n Slot.any)[j]?=some z->z.od=some o->False:=λj z o e1 e2=>by
   rw[Wbg]at e1;split at e1
   ·cases e1;cases e2
   ·cases e1
  have k0:Ok K g g.F H1 (Wae n none) (Wae n .any):=by
   refine⟨h1,h2,Same.refl _,λb o e=>⟨h3 b o e,.inr e⟩,λb o e=>⟨h4 b o e,?_,λj z o' e1 e2=>(noOd j z o' e1 e2).elim⟩,by simp,λj d e=>?_,λj z o' e1 e2=>(noOd j z o' e1 e2).elim,λj l z y o o' b e1 e2=>(noOd j z o e1 e2).elim⟩
   ·cases q:g.F b with
    |none=>rfl
    |some u=>have z:=(k.ext b o e).2.1;rw[k.sub b u q]at z;cases z
   ·rw[Wbg]at e
    split at e <;> cases e
  obtain⟨k1,sg⟩:=k0.laid ha (.ext (InsC a C));have k2:=k1.setVal (i:=i) (by simpa using hi) (.exc Zao);exact hj a g _ _ _ _ k2 ⟨λσ' G' H' Δ' k' p=>c.nx _ G' H' _ (k'.unset i) p,c.rt,λσ' G' H' Δ' k' p=>c.bk _ G' H' _ (k'.unset i) p,λσ' G' H' Δ' k' p=>c.ct _ G' H' _ (k'.unset i) p,c.ro⟩
theorem Zop {a C c:Addr}{b:Bool}{P:D->Evt->Prop}(Z:ExcI K C) (e:PySem.W.kitOne K (.ref C) (.ref c)=some b) (p:P (.bl b) Δ):JC K (rIsiE K) [.exc a C,.adr c] Δ P:=λg G H σ Q vs k rs q=>by
 obtain⟨_,_,rfl,r,t⟩:=rs.inv
 next=>
  obtain⟨_,_,rfl,r',t⟩:=t.inv
  next=>
   cases t.inv;obtain⟨rfl,ha⟩:=r.inv
   next=>
    cases r'.inv;exact⟨_,C,b,k.live _ _ ha,Z,q _ _ G H Δ k (Same.refl _) (.bl b) p,.inl ⟨c,rfl,e⟩⟩
theorem Zm7 {a C:Addr}{n:String}{b:Bool}{P:D->Evt->Prop}(Z:ExcI K C) (e:PySem.W.kitOne K (.ref C) (.type n)=some b) (p:P (.bl b) Δ):JC K (rIsiE K) [.exc a C,.ty n] Δ P:=λg G H σ Q vs k rs q=>by
 obtain⟨_,_,rfl,r,t⟩:=rs.inv
 next=>
  obtain⟨_,_,rfl,r',t⟩:=t.inv
  next=>
   cases t.inv;obtain⟨rfl,ha⟩:=r.inv
   next=>
    cases r'.inv;exact⟨_,C,b,k.live _ _ ha,Z,q _ _ G H Δ k (Same.refl _) (.bl b) p,.inr (.inl ⟨n,rfl,e⟩)⟩
theorem Zgs {a:Addr}{P:D->Evt->Prop}(p:P (.adr a) Δ):JE K (tC (.ref a)) Δ P:=λg G H σ Q k c=>c _ _ G H Δ k (Same.refl _) (.adr a) p
end
theorem Zb9 {K:W.Frag}{C c:Addr}{b:Bool}(h1:PySem.W.isClsIn K c=true) (h2:PySem.W.typeIn K (.ref c)=some (.type "type")) (h3:PySem.W.subIn K (.ref C) (.ref c)=some b) (h4:(C == c)=true->b=true):PySem.W.kitOne K (.ref C) (.ref c)=some b:=by
 unfold PySem.W.kitOne PySem.W.kitCls;by_cases e:(Value.ref C == Value.ref c)=true
 ·rw[if_pos e]
  have e':C=c:=Value.ref.inj (beq_iff_eq.mp e);rw[h4 (by rw[e'];exact beq_self_eq_true c)]
 ·rw[if_neg e]
  have h1:(PySem.W.clsIn K c).isSome=true:=h1;simp only[h1,h2,beq_self_eq_true,Bool.and_self,if_true,h3]
open PySem PySem.Spec PyProof.Rows PySem.SeqAt
def rNeF (K:W.Frag):R2:=λx y H Q=>Q (.bl false) H/\((x=.non/\y=.non)\/∃(a b:Addr) (xs:List V),x=.ref a/\y=.ref b/\(∀v∈xs,flatV v=true)/\((SqL K H a xs/\SqL K H b xs)\/(SqT K H a xs/\SqT K H b xs)))
theorem Zkm {A:Around}{s:Shared}{x:V}{v u:Value}(h:flatV x=true) (rv:RelV x v) (ru:RelV x u):EqAt A s v u true:=by
 cases x with
 |non=>cases (show v=Value.none from rv);cases (show u=Value.none from ru);exact EqAt.same _
 |bl b=>cases (show v=Value.bool b from rv);cases (show u=Value.bool b from ru);exact EqAt.same _
 |int i=>
  obtain⟨t,rfl⟩:=rv;obtain⟨t',rfl⟩:=ru;have:=EqAt.int_int (A:=A) (s:=s) i t i t'
  rwa [beq_self_eq_true]at this
 |str i=>
  obtain⟨t,rfl⟩:=rv;obtain⟨t',rfl⟩:=ru;have:=EqAt.str_str (A:=A) (s:=s) i t i t'
  rwa [beq_self_eq_true]at this
 |_=>cases h
section
variable {X:Cx}
theorem neFK (K:W.Frag) (hv:X.A.units+8<cLine) (hK:X.K=K:=by rfl):OpR X (compareOp .NotEq) (rNeF K):=by
 subst hK;intro pins s σ H x y v u Q I rx ry h;obtain⟨q,h⟩:=h;rcases h with ⟨rfl,rfl⟩|⟨a,b,xs,rfl,rfl,hf,h⟩
 ·cases (show v=Value.none from rx);cases (show u=Value.none from ry)
  exact RcNeAt.none_none (A:=X.A) (s:=s) X.prog X.w _ _ ⟨.bl false,H,I,rfl,q⟩
 ·cases rx;cases ry
  have items:∀{its its2:List Value},Vals xs its->Vals xs its2->∀j (h1:j<its.toArray.size) (h2:j<its2.toArray.size),EqAt X.A.in1 s its.toArray[j] its2.toArray[j] ((λ_=>true) j):=by
   intro its its2 w1 w2 j h1 h2;have l1:=w1.length;have h1':j<its.length:=by simpa using h1
   have h2':j<its2.length:=by simpa using h2
   have hx:j<xs.length:=by omega
   obtain⟨va,hv1,hv2⟩:=w1.get (Waa hx);obtain⟨vb,hw1,hw2⟩:=w2.get (Waa hx);rw[Waa h1']at hv1;rw[Waa h2']at hw1;rw[Wco,Wco,Wa5.inj hv1,Wa5.inj hw1];exact Zkm (hf _ (Wba hx)) hv2 hw2
  have hu:X.A.units<cLine:=by omega
  rcases h with ⟨h1,h2⟩|⟨h1,h2⟩
  ·obtain⟨its,w1,p1,_⟩:=I.list h1
   obtain⟨its2,w2,p2,_⟩:=I.list h2;have l1:=w1.length;have l2:=w2.length;refine RcNeAt.lists (A:=X.A) (s:=s) (e:=λ_=>true) p1.isList p2.isList (by rw[Wah,Wah];omega) hu (items w1 w2) X.prog X.w _ _ ?_;rw[Wbu.mpr (λ_ _=>rfl)];exact⟨.bl false,H,I,rfl,q⟩
  ·obtain⟨its,w1,p1,_⟩:=I.tuple h1
   obtain⟨its2,w2,p2,_⟩:=I.tuple h2;have l1:=w1.length;have l2:=w2.length;refine RcNeAt.tuples (A:=X.A) (s:=s) (e:=λ_=>true) p1 p2 hu (items w1 w2) X.prog X.w _ _ ?_;rw[Wbu.mpr (λ_ _=>rfl),show its.toArray.size=its2.toArray.size by rw[Wah,Wah];omega];simp only[bne_self_eq_false,beq_self_eq_true,Bool.and_self,Bool.not_true,Bool.or_self];exact⟨.bl false,H,I,rfl,q⟩
end
section
variable {K:W.Frag}{Δ:Evt}{P:D->Evt->Prop}
def flatE:D->Bool
 |.non=>true
 |.bl _=>true
 |.int _=>true
 |.str _=>true
 |_=>false
theorem Zg9 {G:Hp}:∀{ds:List D}{vs us:List V},(∀d∈ds,flatE d=true)->Reps K G vs ds->Reps K G us ds->vs=us/\∀v∈vs,flatV v=true
 |[],_,_,_,h1,h2=>by cases h1;cases h2;exact⟨rfl,λ_ z=>by cases z⟩
 |d::ds,_,_,hf,h1,h2=>by
  cases h1 with
  |cons a1 b1=>
   cases h2 with
   |cons a2 b2=>
    obtain⟨e,f⟩:=Zg9 (λd hd=>hf d (Wau _ hd)) b1 b2;subst e;have h:=hf d Wa8;cases d with
    |non=>cases a1;cases a2;exact⟨rfl,λv hv=>(Wan.mp hv).elim (λz=>by subst z;rfl) (f v)⟩
    |bl b=>cases a1;cases a2;exact⟨rfl,λv hv=>(Wan.mp hv).elim (λz=>by subst z;rfl) (f v)⟩
    |int b=>cases a1;cases a2;exact⟨rfl,λv hv=>(Wan.mp hv).elim (λz=>by subst z;rfl) (f v)⟩
    |str b=>cases a1;cases a2;exact⟨rfl,λv hv=>(Wan.mp hv).elim (λz=>by subst z;rfl) (f v)⟩
    |_=>cases h
theorem Zq2 {ds:List D}(h:∀d∈ds,flatE d=true) (p:P (.bl false) Δ):JR2 K (rNeF K) (.lst ds) (.lst ds) Δ P:=λg G H σ Q x y k rx ry c=>by
 obtain⟨_,_,rfl,ha,ra⟩:=rx.inv
 next=>
  obtain⟨_,_,rfl,hb,rb⟩:=ry.inv
  next=>
   obtain⟨e,f⟩:=Zg9 h ra rb;subst e;exact⟨c _ _ G H Δ k (Same.refl _) (.bl false) p,.inr ⟨_,_,_,rfl,rfl,f,.inl ⟨SqL.of (k.live _ _ ha),SqL.of (k.live _ _ hb)⟩⟩⟩
theorem Zrc (p:P (.bl false) Δ):JR2 K (rNeF K) .non .non Δ P:=λg G H σ Q x y k rx ry c=>by
 cases rx.inv;cases ry.inv;exact⟨c _ _ G H Δ k (Same.refl _) (.bl false) p,.inl ⟨rfl,rfl⟩⟩
end
theorem Zge:bootBuiltins "ValueError" = some (.type "ValueError"):=by decide +kernel
theorem Zot {K:W.Frag}{C:Addr}{n:String}{b:Bool}(hm:PySem.W.kitMeta n=true) (h:PySem.W.subIn K (.ref C) (.type n)=some b):PySem.W.kitOne K (.ref C) (.type n)=some b:=by
 unfold PySem.W.kitOne PySem.W.kitCls;have e:¬ (Value.ref C == Value.type n)=true:=λz=>by cases beq_iff_eq.mp z
 rw[if_neg e];simp only[hm,if_true,h]
theorem Zfp:entryFor table "proto.unchain" = some Builtin.«proto.unchain»:=entryFor_of_tree (by kernel_rfl)
section
variable {prog:Program}{w:World}{A:Around}{E:Value->Shared->Prop}{s:Shared}
theorem raiseH {α:Type}{a e:Addr}{oa oe:Obj}{va ve:Array Value}{Q:α -> Shared->Prop}(hh:A.handled=some (.ref a)) (hne:a≠e) (ha:s.heap.get? a=some oa) (hda:oa.data=.fields va) (h2:va[2]?=some .none)
  (he:s.heap.get? e=some oe) (hde:oe.data=.fields ve) (hsz:2<ve.size) (h:E (.ref e) { s with heap:=s.heap.update e (Obj.mapFields (·.setIfInBounds 2 (.ref a))) }):wpAny (model prog w) A (raiseNew (.ref e):Sem α) Q E s:=by
 unfold raiseNew;refine wpAny_bind (wpAny_handled ?_);rw[hh];dsimp only;have hn:(Value.ref a != Value.ref e)=true:=by
  rw[bne_iff_ne];intro z;exact hne (Value.ref.inj z)
 rw[if_pos hn];refine wpAny_bind (wpAny_holding (wpAny_runValue (codeAny_builtin Zfp ?_)));unfold Builtin.«proto.unchain»;dsimp only;refine wpAny_bind (wpAny_field ha hda h2 ?_);rw[if_pos (show (Value.none == Value.none)=true from rfl)];refine wpAny_pure ?_;show wpAny _ _ (updateField e 2 (.ref a) >>= _) _ _ s;unfold updateField;refine wpAny_bind (wpAny_bind (wpAny_load he ?_));rw[hde];dsimp only;rw[if_pos hsz];exact wpAny_update he (wpAny_throw h)
theorem Zi8 {a it:Addr}{oa:Obj}{va:Array Value}{x left step:Int}{Q:Option Value->Shared->Prop}(hh:A.handled=some (.ref a)) (ha:s.heap.get? a=some oa) (hda:oa.data=.fields va) (h2:va[2]?=some .none) (hit:IsRangeIter s.heap it x left step) (hleft:left<=0)
  (hQ:∀h',Heap.ExtBut it s.heap h' -> Q none { s with heap:=h' }):wpAny (model prog w) A (pyNext (.ref it)) Q E s:=by
 have hT:s.TypeIs (.ref it) "range_iterator":=⟨_,hit,rfl⟩;unfold pyNext;refine wpAny_bind (wpAny_attempt (wpAny_callSpecial?_slot (name:=Str.ofString "__next__") hT F.slot_range_iterator_next (wpAny_call_entry F.slot_range_iterator_next hT F.entry_range_iterator_next ?_ (F.args_range_iterator_next_1 _))));show wpAny _ _ (field (.ref it) 0 >>= _) _ _ s;refine wpAny_bind (wpAny_field hit rfl (x:=rawInt x) rfl ?_);show wpAny _ _ (field (.ref it) 1 >>= _) _ _ s;refine wpAny_bind (wpAny_field hit rfl (x:=rawInt left) rfl ?_);show wpAny _ _ (field (.ref it) 2 >>= _) _ _ s;refine wpAny_bind (wpAny_field hit rfl (x:=rawInt step) rfl ?_);show wpAny _ _ (if left<=0 then _ else _) _ _ s;rw[if_pos hleft];refine wpAny_bind (wpAny_rule (wpAny_bind ?_));show wpAny _ _ (newExc (.type "StopIteration") [] >>= _) _ _ _;refine wpAny_bind ?_;simp only[newExc,newTuple];refine wpAny_bind (wpAny_newObj_type ?_ (by size_fits));refine wpAny_bind (m:=firstArgMember _ _) (wpAny_of_eq (a:=Value.none) (by first|rfl|(simp only[firstArgMember];rfl)) (wpAny_newObj_type ?_ (by size_fits)));have lt:=Wai ha;have nb:∀b o,s.heap.get? b=some o->s.heap.objs.size+1≠b:=λb o e=>Wb9 (Wbx (Wai e));refine raiseH (a:=a) (A:=A.in1) hh (Ne.symm ?_) (Wac _ (Wac _ ha)) hda h2 (Wao _ rfl) rfl (by rw[Array.size_append];exact Wa0 (show 2<6 by decide) (Nat.le_add_right _ _)) ?_
 ·rw[Wcs];exact nb a oa ha
 ·refine wpAny_bind (wpAny_isInstance (T:="StopIteration") (b:=true) ⟨_,Wbb _ (Wao _ rfl) rfl,rfl⟩ isSubtype_stop ?_)
  refine wpAny_pure (hQ _ λb o hb e=>?_);rw[Wav _ _ (by rw[Wcs];exact nb b o e)];exact Wac _ (Wac _ e)
end
def ItrH (xa:Addr) (lo:Int) (n:Nat):It:=⟨λi _=>i<n,λi H x H'=>H'=H/\x=.int (lo+i),λi H=>n<=i/\∃C,H xa=some (.ext (InsC xa C))⟩
def iRngH (xa:Addr) (ta:TA):TI:=λσ H R=>ta σ H λvs H1=>∃j:Int,vs=[.int j] /\ -(2 ^ 62)<=j/\j<2 ^ 62/\R (ItrH xa 0 j.toNat) H1
abbrev TurnH (xa:Addr):=TurnG λX=>X.A.handled=some (.ref xa)
abbrev PIEH (xa:Addr):=PIEG λX=>X.A.handled=some (.ref xa)
abbrev PIH (xa:Addr):=PIG λX=>X.A.handled=some (.ref xa)
theorem Zhq {P:Program}{w:World}{K:W.Frag}{tg:Expr}(xa it:Addr) (lo:Int) (n:Nat):TurnH xa P w K tg (ItrH xa lo n) [it] it (λi h=>IsRangeIter h it (lo+(i:Nat)*1) ((n:Int)-(i:Nat)) 1) where
 mem:=by simp
 obj:=λi h st b hb=>by
  have e:b=it:=by simpa using hb
  subst e;exact⟨_,st,λv z=>by
   have z':Data.fields _=Data.cell v:=z;cases z'⟩
 keep:=λi h h' st k=>k it (by simp) _ st
 item:=by
  intro X hP hw hK hc i pins s σ H E I hf st hg;subst hP hw hK;obtain⟨f0,f1,f2,f3,f4,f5⟩:=hf it (by simp);have hg:i<n:=hg;refine wpAny_pyNext_range_item st (by omega) λh' st' sb=>?_;have I1:Inv X pins σ H { s with heap:=h',toks:=s.toks+1 }:=I.turned (λb o hb e=>(sb.2 b hb).trans e) f0 f1 f3 f4 f5;have e1:lo+((i+1:Nat):Int)*1=lo+(i:Int)*1+1:=by omega
  have e2:(n:Int)-((i+1:Nat):Int)=(n:Int)-(i:Int)-1:=by omega
  refine⟨_,rfl,Zma (s:={ s with heap:=h',toks:=s.toks+1 }) (n:="range_iterator") st' rfl rfl (by decide) ⟨.int (lo+i),H,I1,⟨_,by rw[Int.mul_one]⟩,⟨rfl,rfl⟩,by rw[e1,e2];exact st',λb hb=>(hf b hb).1⟩⟩
 done:=by
  intro X hP hw hK hc i pins s σ H E I hf st hg;subst hP hw hK;obtain⟨f0,f1,f2,f3,f4,f5⟩:=hf it (by simp);obtain⟨hg,C,hC⟩:=hg;obtain⟨⟨ox,vs,q1,q2,q3,q4⟩,_⟩:=I.hok xa _ hC;exact Zi8 hc q1 q3 q4 st (by omega) λh' eb=>⟨rfl,I.turned (t':=s.toks) (λb o hb e=>eb b o hb e) f0 f1 f3 f4 f5⟩
 self:=λ_ _ _ _ _ st h=>wpAny_pyIter_rangeiter st h
section
variable {X:Cx}{xa:Addr}{tg:Expr}
theorem Zjt {pins:List (Addr × Obj)}{σ:St}{H:Hp}{s:Shared}{R:It->Hp->Prop}{E:Value->Shared->Prop}{lo hi:Int}{t u v:Tok}{tk:Nat}(I:Inv X pins σ H s) (h1:-(2 ^ 62)<=lo) (h2:lo<2 ^ 62) (h3:-(2 ^ 62)<=hi) (h4:hi<2 ^ 62)
  (q:R (ItrH xa lo (hi-lo).toNat) H):wpAny (model X.prog X.w) X.A (pyIter (.ref s.heap.objs.size)) (PIEH xa X pins σ tg R) E { s with heap:=s.heap.push { cls:=.type "range",data:=.fields #[.int lo t,.int hi u,.int 1 v] },toks:=tk }:=by
 refine wpAny_pyIter_range (IsRange.new ..) (small_one h1 h2 h3 h4) ?_;have I1:Inv X pins σ H { s with heap:=s.heap.push { cls:=.type "range",data:=.fields #[.int lo t,.int hi u,.int 1 v] },toks:=tk }:=I.kept λb o e=>Wac _ e;refine⟨(s.heap.push { cls:=.type "range",data:=.fields #[.int lo t,.int hi u,.int 1 v] }).objs.size,[(s.heap.push { cls:=.type "range",data:=.fields #[.int lo t,.int hi u,.int 1 v] }).objs.size],_,_,H,rfl,
  I1.kept (t':=tk) λb o e=>Wac _ e,Zhq xa _ lo (hi-lo).toNat,?_,λb hb=>?_,q⟩
 ·have e1:lo+((0:Nat):Int)*1=lo:=by simp
  have e2:(((hi-lo).toNat:Nat):Int)-((0:Nat):Int)=Builtin.Range.rangeSize lo hi 1:=by rw[rangeSize_one];split <;> omega
  show IsRangeIter _ _ (lo+((0:Nat):Int)*1) ((((hi-lo).toNat:Nat):Int)-((0:Nat):Int)) 1;rw[e1,e2];exact Wao _ rfl
 ·have e:b=(s.heap.push { cls:=.type "range",data:=.fields #[.int lo t,.int hi u,.int 1 v] }).objs.size:=by simpa using hb
  subst e;exact I1.fpOk (Waj _) (I1.hok.fresh (Waj _))
theorem Zix {a:Expr}{ta:TA}{p pos:Pos}(hg:Gl X "range") (hm:X.mg "range" = none) (ha:PA X [a] ta) (hs:starEach [a] X.env=[(false,eval a X.env)]:=by rfl):PIH xa X tg (.Call (.Name "range" p) [a] [] pos) (iRngH xa ta):=by
 intro pins s σ H R I h;refine Call_ (Zdg I hg hm boot_range (PyProof.Rows.callWith_type1 (thn (ha pos pins s σ H _ I h) λus s1 ⟨vs,H1,I1,r1,q1⟩=>?_) hs rfl));obtain⟨j,e,q1,q2,q⟩:=q1;subst e;cases r1 with
 |cons r rr=>
  cases rr;obtain⟨t,rfl⟩:=r;exact call_range_1 (Zjt I1 (by omega) (by omega) q1 q2 (by simpa using q))
theorem Zk7 {elt tg iter:Expr}{ifs:List Expr}{scope:Scope}{pos:Pos}{fvs:List Str}{sel:List Nat}{wi:TI}{g:TG}{tc:TT}{te:TE}(tgs:List Str) (S:CompSc X.env.scope X.N scope fvs sel) (hc:X.A.handled=some (.ref xa))
  (hi:PIH xa X tg iter wi) (hg:∀C s H ex pn,PG (compCx X scope (tgs++fvs) C s H ex pn) tg g) (ht:∀C s H ex pn,PTs (compCx X scope (tgs++fvs) C s H ex pn) ifs tc) (he:∀C s H ex pn,PE (compCx X scope (tgs++fvs) C s H ex pn) elt te)
  (hs:∀x,foldedSetIterable iter X.env x=pure x:=by intro _;rfl) :
  PE X (.ListComp elt [⟨tg,iter,ifs,0⟩] scope pos) (tComp tgs.length sel wi g tc te):=by
 intro pins s σ H Q I h;rw[eval_ListComp];refine wpAny_comprehension_free (use:=none) rfl hs (Zbl (Zdd S I.ok)) S.kind S.names (thn (hi pins s σ H _ I h) λv s1 h1=>thn h1 λitv s2 h2=>?_);refine Zeq (Cm:=λX=>X.A.handled=some (.ref xa)) S (λ_ _ _ _ _=>hc) hg ht he (RR:=λacc C=>compPost (model X.prog X.w) X.A X.xe none (EP X pins σ Q) acc C) (Q:=Q) h2 ?_;intro s' C acc H' m hn _ hI q;exact⟨m,hn,λh' sb=>⟨.ref acc,H',hI h' sb,rfl,q⟩⟩
end
section
variable {K:W.Frag}{Δ:Evt}
theorem Zk0 {G:Hp}{xa C:Addr}(hC:G xa=some (.ext (InsC xa C))) (lo:Int) (n:Nat):ItOk K G (ItrH xa lo n) (rngD lo n):=λG1 H1 sg sh=>by
 refine⟨⟨by rw[Za2];exact Waj _,C,sh _ _ (sg _ _ hC)⟩,λi d e=>?_⟩;obtain⟨h1,h2⟩:=Zbd e;subst h2;refine⟨h1,λx H2 ⟨e2,y2⟩=>⟨G1,Same.refl _,by rw[e2];exact Same.refl _,λb o q=>⟨by rw[e2];exact sh b o q,.inl q⟩,?_⟩⟩;subst y2;exact .int _
theorem Zkv {i:Nat}{xa C:Addr}{ta:TA}{P:List D->Evt->Prop}(h:JA K ta Δ λds Δ1=>Δ1[i]?=some (.val (.exc xa C))/\∃n:Int,ds=[.int n] /\ -(2 ^ 62)<=n/\n<2 ^ 62/\P (rngD 0 n.toNat) Δ1):JI K (iRngH xa ta) Δ P:=λg G H σ R k c=>
 h g G H σ _ k λvs ds G1 H1 Δ1 k1 s1 r1 hq=>by
  obtain⟨hx,n,e,h1,h2,p1⟩:=hq;subst e;obtain⟨v,q1,q2⟩:=k1.val i _ hx;cases q2 with
  |exc hC=>
   cases r1 with
   |cons ra rr=>
    cases rr;cases ra;exact⟨n,rfl,h1,h2,c _ _ G1 H1 Δ1 k1 s1 (Zk0 hC 0 _) p1⟩
end
section
variable {X:Cx}
def CDivB (i j:Int):Prop:=0<j/\j<=100000000000000000000000000000000000000000000000000000000000
theorem Zfz:OpR X (binaryOp .FloorDiv) (rI CDivB λi j=>.int (i / j)):=opI λi j _ _ _ _ _ hc q=>by
 have h1:(0:Int)<j:=hc.1;have h2:=hc.2;refine floordiv_int (by omega) (by rw[Int.fdiv_eq_ediv_of_nonneg i (by omega)];exact q) (.inl (PyProof.noPylong_of_log2 ?_));have h3:j.natAbs<=100000000000000000000000000000000000000000000000000000000000:=by omega
 have h4:j.natAbs<2 ^ 200:=Wch h3 (by decide);exact Nat.lt_trans ((Nat.log2_lt (by omega)).2 h4) (by decide)
end
structure CalleeV (P:Program) (w:World) (K:W.Frag) (mg:Str->Option Value) (base:Heap) (k:Nat) (f:Addr) (ps:List Str) (sp:Sp):Prop where
 ex:∃fd:FuncData,FnOk P w K mg base (CXE P w) k f fd ps sp/\Binds K fd ps []/\W.keepIn K (.ref f)=true
theorem CalleeX.val {P:Program}{w:World}{K:W.Frag}{mg:Str->Option Value}{base:Heap}{k:Nat}{x:Str}{ps:List Str}{sp:Sp}(C:CalleeX P w K mg base k x ps sp):∃f,CalleeV P w K mg base k f ps sp/\mg x=some (.ref f):=by
 obtain⟨f,fd,h1,h2,h3,h4⟩:=C.ex;exact⟨f,⟨fd,h1,h2,h3⟩,h4⟩
def tCallV (i:Nat) (f:Addr) (sp:Sp) (E:XK) (t:TA):TE:=λσ H Q=>σ[i]?=some (some (.ref f))/\tCall sp [] E t σ H Q
section
variable {X:Cx}{k i:Nat}{f:Addr}{x:Str}{ps:List Str}{sp:Sp}{e:Expr}{es:List Expr}{t:TA}{p pos:Pos}{E:XK}
theorem Zpz (C:CalleeV X.prog X.w X.K X.mg X.base k f ps sp) (hr:Room k X.A) (hx:Passes (CXE X.prog X.w) X E) (hN:X.N[i]?=some x) (hv:Vis X.env.scope x) (ha:PA X (e::es) t) (hdb:(x == ("__debug__":Str))=false:=by decide) (hcd:(x == ("__classdict__":Str))=false:=by decide)
  (he:starEach (e::es) X.env=(false,eval e X.env)::starEach es X.env:=by rfl) (hpl:(backTo pos (starEach es X.env)).any (·.1)=false:=by rfl):PE X (.Call (.Name x p) (e::es) [] pos) (tCallV i f sp E t):=by
 intro pins s σ H Q I h;obtain⟨h1,h2⟩:=h;obtain⟨fd,F,b,kp⟩:=C.ex;refine wpAny_Call_Name_kw (thn (Znl (i:=i) (pos:=p) hN hv hdb hcd pins s σ H (λv H1=>v=.ref f/\H1=H) I ⟨_,h1,rfl,rfl⟩) λu s1 ⟨v,H1,I1,r1,e1,e2⟩=>?_);subst e1;subst e2;cases (show u=Value.ref f from r1);refine PySem.W.callWith_K (h₀:=X.base) I1.ok.mod.kin kp (thn (ha pos pins s1 σ _ _ I1 h2) λus s2 ⟨vs,H2,I2,r2,q⟩=>⟨I2.kIn,?_⟩) he hpl;exact Znb F hr b .nil hx I2 r2 q
end
section
variable {K:W.Frag}{Δ:Evt}{E:XK}{Xp:Addr->Prop}{P:D->Evt->Prop}
theorem Zle {f:XSp}{i:Nat}{a:Addr}{ta:TA}(hi:Δ[i]?=some (.val (.adr a))) (h:JA K ta Δ λds Δ1=>f ds (λd=>P d Δ1) Xp):JEX K E Xp (tCallV i a (spX K f) E ta) Δ P:=λg G H σ Q w k c=>by
 obtain⟨v,h1,h2⟩:=k.val i _ hi;cases h2;exact⟨h1,Zbq h g G H σ Q w k c⟩
end
theorem Zgl {vs:List Expr}{c} {p:Pos}{es:List Expr}{env:Env}:starEach (Expr.Tuple vs c p::es) env=(false,eval (Expr.Tuple vs c p) env)::starEach es env:=rfl
def keyPd:Key->PyData
 |.inl i=>.int i
 |.inr x=>.str x
mutual
def D.pd:D->PyData
 |.non=>.none
 |.bl b=>.bool b
 |.int i=>.int i
 |.str x=>.str x
 |.tup ds=>.tuple (D.pds ds)
 |.lst ds=>.list (D.pds ds)
 |.dct ks ds=>.dict ((ks.map keyPd).zip (D.pds ds))
 |_=>.none
def D.pds:List D->List PyData
 |[]=>[]
 |d::ds=>D.pd d::D.pds ds
end
section
variable {X:Cx}
end
def PV (K:W.Frag) (te:TE) (Δ:Evt) (d:D):Prop:=∀P:D->Evt->Prop,P d Δ -> JE K te Δ P
def PVs (K:W.Frag) (ta:TA) (Δ:Evt) (ds:List D):Prop:=∀P:List D->Evt->Prop,P ds Δ -> JA K ta Δ P
def PR2 (K:W.Frag) (r:R2) (d e:D) (Δ:Evt) (x:D):Prop:=∀P:D->Evt->Prop,P x Δ -> JR2 K r d e Δ P
section
variable {K:W.Frag}{Δ:Evt}
theorem Zbn {te:TE}{d:D}{P:D->Evt->Prop}(h:PV K te Δ d) (p:P d Δ):JE K te Δ P:=h P p
theorem Zcu {ta:TA}{ds:List D}{P:List D->Evt->Prop}(h:PVs K ta Δ ds) (p:P ds Δ):JA K ta Δ P:=h P p
theorem Zak {i:Nat}{d:D}(h:Δ[i]?=some (.val d)):PV K (tVar i) Δ d:=λP p=>Zad h p
theorem Zay {i:Int}:PV K (tC (.int i)) Δ (.int i):=λP p=>Zar p
theorem Za1:PVs K tNil Δ []:=λP p=>Zag p
theorem Zah {ta:TE}{tr:TA}{d:D}{ds:List D}(h:PV K ta Δ d) (t:PVs K tr Δ ds):PVs K (tCons ta tr) Δ (d::ds):=λP p=>Zab (h _ (t _ p))
theorem Zd9 {ta:TA}{ds:List D}(h:PVs K ta Δ ds) (z:ds.length<=sizeLine):PV K (tTup ta) Δ (.tup ds):=λP p=>Zdo (h _ ⟨z,p⟩)
theorem Zh8 {ta:TA}{ds:List D}(h:PVs K ta Δ ds) (z:ds.length<=sizeLine):PV K (tLst ta) Δ (.lst ds):=λP p=>Zdt (h _ ⟨z,p⟩)
theorem Zbw {r:R2}{ta tb:TE}{d e x:D}(a:PV K ta Δ d) (b:PV K tb Δ e) (h:PR2 K r d e Δ x):PV K (tOp r ta tb) Δ x:=λP p=>Zaw (a _ (b _ (h P p)))
theorem Zq0 {ds:List D}{i:Int}{d:D}(h:atI ds i=some d):PR2 K (rIxU K) (.tup ds) (.int i) Δ d:=λP p=>Zb0 h p
theorem Zpp {ds:List D}{i:Int}{d:D}(h:atI ds i=some d):PR2 K (rIxU K) (.lst ds) (.int i) Δ d:=λP p=>Zbk h p
theorem Zco {i j:Int}:PR2 K (rAddU K) (.int i) (.int j) Δ (.int (i+j)):=λP p=>Zdj p
theorem Zqo {f:Int->Int->Int}{i j:Int}:PR2 K (rI0 λi j=>.int (f i j)) (.int i) (.int j) Δ (.int (f i j)):=λP p=>Zmd p
theorem pr_I {C:Int->Int->Prop}{f:Int->Int->Int}{i j:Int}(hc:C i j):PR2 K (rI C λi j=>.int (f i j)) (.int i) (.int j) Δ (.int (f i j)):=λP p=>jr_I hc p
theorem Zij {ta tb:TE}{ds:List D}{i:Int}{d:D}(a:PV K ta Δ (.tup ds)) (b:PV K tb Δ (.int i)) (h:atI ds i=some d):PV K (tOp (rIxU K) ta tb) Δ d:=Zbw a b (Zq0 h)
theorem Zcy {ta tb:TE}{ds:List D}{i:Int}{d:D}(a:PV K ta Δ (.lst ds)) (b:PV K tb Δ (.int i)) (h:atI ds i=some d):PV K (tOp (rIxU K) ta tb) Δ d:=Zbw a b (Zpp h)
theorem Zbu {n:Nat}{ds:List D}{i:Int}{d:D}(hx:Δ[n]?=some (.val (.tup ds))) (h:atI ds i=some d):PV K (tOp (rIxU K) (tVar n) (tC (.int i))) Δ d:=Zij (Zak hx) Zay h
theorem Zgg {ta:TE}{ds:List D}(a:PV K ta Δ (.tup ds)):PV K (tCB (rLenU K) (tCons ta tNil)) Δ (.int ds.length):=λP p=>Zbx (Zab (a _ (Zag (Zcw (.inr rfl) p))))
theorem Znr {ta:TE}{ds:List D}(a:PV K ta Δ (.lst ds)):PV K (tCB (rLenU K) (tCons ta tNil)) Δ (.int ds.length):=λP p=>Zbx (Zab (a _ (Zag (Zcw (.inl rfl) p))))
end
open PySem PySem.Spec PyProof.Rows PySem.SeqAt
section
variable {K:W.Frag}{Δ:Evt}{P:D->Evt->Prop}
end
open PySem PySem.Spec PyProof.Rows PySem.SeqAt
section
variable {K:W.Frag}{Δ:Evt}
end
section
variable {K:W.Frag}{Δ:Evt}{nx bk ct:Evt->Prop}{rt:D->Evt->Prop}{ro:OD->Evt->Prop}
end
section
variable {K:W.Frag}{Δ:Evt}{P:D->Evt->Prop}
theorem Znz {neg:Bool}{n:Nat}{ta:TE}(h:JE K ta Δ λd Δ1=>∃(x:Slot) (ns:List Int) (i:Int),Δ1[n]?=some x/\x.od=some (.lst (ns.map D.int))/\d=.int i/\P (.bl (if neg then !decide (i∈ns) else decide (i∈ns))) Δ1):JE K (tOp (rInU K neg) ta (tVar n)) Δ P:=λg G H σ Q k c=>
 h g G H σ _ k λv d G1 H1 Δ1 k1 s1 r1 hq_=>by
  obtain⟨x,ns,i,q1,q2,q3,p⟩:=hq_;subst q3;cases r1.inv;obtain⟨a,o,w1,w2,w3,w4,w5⟩:=k1.own n x _ q1 q2;cases o with
  |lst vs=>
   have rs:Reps K G1 vs (ns.map D.int):=w3;have ev:=rs.ints;subst ev;refine⟨.ref a,w1,.inl ⟨_,_,rfl,.inl (SqL.of w2),rfl,Zll ns,?_⟩⟩;rw[Zl1];exact c _ _ G1 H1 Δ1 k1 s1 (.bl _) p
  |_=>exact absurd w3 (λz=>z)
theorem Zpn {f:Int->Int->Int}{i j:Int}(p:P (.int (f i j)) Δ):JR2 K (ipI f) (.int i) (.int j) Δ P:=λg G H σ Q x y k rx ry c=>by
 cases rx.inv;cases ry.inv;exact⟨i,j,rfl,rfl,c _ _ G H Δ k (Same.refl _) (.int _) p⟩
end
end L2
set_option Elab.async false
set_option linter.all false
set_option maxRecDepth 100000
namespace HT
open PySem PyProof.Rows
end HT
namespace L2
open PySem PySem.Spec PyProof.Rows
section
variable {K:W.Frag}{Δ:Evt}{P:D->Evt->Prop}
end
section
variable {prog:Program}{w:World}{A:Around}{R:Result->Shared->Prop}{I:Addr}{fp wr:List Addr}{G:Array GenState->Array GenState->Prop}{n:Nat}{P:Nat->Value->Prop}{St:Nat->Shared->Prop}{K:Type}[DecidableEq K] {knd:KeyKind prog w K}
end
section
variable {X:Cx}
end
end L2
namespace L2
open PySem PySem.Spec PyProof.Rows
section
variable {prog:Program}{w:World}{A:Around}{E:Value->Shared->Prop}{s:Shared}
end
section
variable {K:W.Frag}{Δ:Evt}{P:D->Evt->Prop}
end
end L2
namespace L2
open PySem PySem.Spec PyProof.Rows
def rNeL0 (K:W.Frag):R2:=λx y H Q=>∃(a b:Addr) (xs:List V),x=.ref a/\y=.ref b/\SqL K H a xs/\SqL K H b []/\Q (.bl (!xs.isEmpty)) H
theorem neL0K {X:Cx}(K:W.Frag) (hu:X.A.units+1<cLine) (hK:X.K=K:=by rfl):OpR X (compareOp .NotEq) (rNeL0 K):=by
 subst hK;intro pins s σ H x y v u Q I rx ry h;obtain⟨a,b,xs,rfl,rfl,h1,h2,q⟩:=h;cases rx;cases ry;obtain⟨its,w1,p1,_⟩:=I.list h1;obtain⟨its2,w2,p2,_⟩:=I.list h2;cases w2;cases w1 with
 |nil=>exact PySem.SeqAt.RcNeAt.lists (A:=X.A) (s:=s) (e:=λ_=>true) p1.isList p2.isList rfl (by omega) (λj _ z=>absurd z (by simp)) X.prog X.w _ _ ⟨.bl _,H,I,rfl,q⟩
 |cons r t=>exact PySem.SeqAt.RcNeAt.lists_lengths (A:=X.A) (s:=s) p1.isList p2.isList (by simp) (by omega) X.prog X.w _ _ ⟨.bl _,H,I,rfl,q⟩
section
variable {K:W.Frag}{Δ:Evt}{P:D->Evt->Prop}
theorem Zpg {ds:List D}(p:P (.bl (!ds.isEmpty)) Δ):JR2 K (rNeL0 K) (.lst ds) (.lst []) Δ P:=λg G H σ Q x y k rx ry c=>by
 obtain⟨_,_,rfl,ha,ra⟩:=rx.inv;obtain⟨_,_,rfl,hb,rb⟩:=ry.inv;cases rb.inv;refine⟨_,_,_,rfl,rfl,SqL.of (k.live _ _ ha),SqL.of (k.live _ _ hb),?_⟩;rw[ra.isEmpty];exact c _ _ G H Δ k (Same.refl _) (.bl _) p
end
open PySem PySem.Spec PyProof.Rows PySem.SeqAt
section
variable {prog:Program}{w:World}{A:Around}{E:Value->Shared->Prop}{s:Shared}
end
section
variable {K:W.Frag}{Δ:Evt}
end
open PySem PySem.Spec PyProof.Rows PySem.SeqAt
theorem Zju (a b:List Int):(((Waz (min a.length b.length)).all λj=>decide (a.getD j 0=b.getD j 0)) && a.length == b.length)=decide (a=b):=by
 rw[Wb4,Wbd,Wbu,beq_iff_eq,decide_eq_true_iff];constructor
 ·rintro⟨h1,h2⟩
  apply List.ext_getElem h2;intro i hi hj;have:=of_decide_eq_true (h1 i (Wca.mpr (by omega)));rw[Wad,Wad,Waa hi,Waa hj]at this;exact this
 ·rintro rfl
  exact⟨λj _=>decide_eq_true rfl,rfl⟩
section
variable {A:Around}{s:Shared}
theorem Zlw {x y:Value}{a b:List Int}(hx:RowAt s.heap x a) (hy:RowAt s.heap y b) (hu:A.units<cLine):EqAt A s x y (decide (a=b)):=by
 obtain⟨p,its,rfl,t1,i1⟩:=id hx;obtain⟨q,its2,rfl,t2,i2⟩:=id hy;by_cases e:p=q
 ·subst e
  rw[decide_eq_true (hx.inj hy)];exact EqAt.same _
 ·have l1:=i1.length
  have l2:=i2.length;have:=RcAt.tuples (A:=A) (s:=s) (e:=λj=>decide (a.getD j 0=b.getD j 0)) t1 t2 hu λj h1 h2=>by
   have h1':j<its.length:=by simpa using h1
   have h2':j<its2.length:=by simpa using h2
   obtain⟨t,et⟩:=IntsAre.int_at i1 j _ (Waa h1');obtain⟨t',et'⟩:=IntsAre.int_at i2 j _ (Waa h2');rw[Wco,Wco,et,et'];have z:=EqAt.int_int (A:=A.in1) (s:=s) (a.getD j 0) t (b.getD j 0) t';rw[Wc2]at z;exact z
  rw[Wah,Wah,l1,l2,Zju]at this;exact EqAt.of_refs e this
end
def cLt:List (List Int)->List (List Int)->Bool
 |[],[]=>false
 |[],_::_=>true
 |_::_,[]=>false
 |x::xs,y::ys=>if x=y then cLt xs ys else rlt x y
def CodeAt (h:Heap) (v:Value) (c:List (List Int)):Prop:=∃(a:Addr) (its:List Value),v=.ref a/\IsTup h a its.toArray/\Paired (RowAt h) its c
theorem CodeAt.keep {h h':Heap}{v:Value}{c:List (List Int)}(x:CodeAt h v c) (k:∀b o,h.get? b=some o->h'.get? b=some o):CodeAt h' v c:=by
 obtain⟨a,its,e,⟨o,ho,hc⟩,i⟩:=x;exact⟨a,its,e,⟨o,k a o ho,hc⟩,Paired.mapP i λ_ _ z=>z.keep k⟩
section
open PySem.AutoSeq1 (wpAny_loadPart')
open PySem.MeetsSeq PySem.MeetsSeq2 PySem.MeetsSeq3
theorem Zf6 (l b:Addr) (items items2:Array Value) (n n2:Nat) (dd dd2:Option Addr) (sl sl2:Array (Option Value)) (ns ms:List (List Int)) :
  Meets (Builtin.«tuple.__lt__» ⟨[.ref l,.ref b],[]⟩)
   (λA R s=>A.units+1<cLine/\(Paired (RowAt s.heap) items.toList ns/\Paired (RowAt s.heap) items2.toList ms)/\s.heap.get? l=some { cls:=.type "tuple",dict:=dd,data:=.seq items n,slots:=sl } /\ s.heap.get? b=some { cls:=.type "tuple",dict:=dd2,data:=.seq items2 n2,slots:=sl2 } ∧
    R (.ok (.ret (.bool (cLt ns ms)))) s):=
 .of_wp λprog w A R s h=>by
  obtain⟨hp,g,d,tk,os⟩:=s;obtain⟨hu,⟨hi,hj⟩,hl,hb,h⟩:=h;have f2:=AutoSeq1.sub_tuple_tuple;have z1:items.size=ns.length:=by rw[<- Paired.length hi];simp
  have z2:items2.size=ms.length:=by rw[<- Paired.length hj];simp
  wp_walk using wpAny_loadPart' hl,wpAny_loadPart' hb,wpAny_forIn_list _ (λrest b s'=>b.1=none/\s'=⟨hp,g,d,tk,os⟩ /\ ∃(vs ws:List Value) (ns' ms':List (List Int)),rest=vs.zip ws ∧
   Paired (RowAt hp) vs ns' /\ Paired (RowAt hp) ws ms' /\ ns'.length+items2.size=ms'.length+items.size/\R (.ok (.ret (.bool (cLt ns' ms')))) ⟨hp,g,d,tk,os⟩) _
  case turn=>
   rintro⟨y,x⟩ rest b s' ⟨hb',rfl,vs,ws,ns',ms',hz,hvi,hwi,hlen,hR⟩;cases hvi with
   |nil=>rw[List.zip_nil_left]at hz;cases hz
   |@cons _ a _ _ ra hvi'=>
    cases hwi with
    |nil=>rw[List.zip_nil_right]at hz;cases hz
    |@cons _ c _ _ rc hwi'=>
     rw[Wby]at hz;injection hz with hyx hrest
     injection hyx with hy hx
     subst hy hx;have hR:R (.ok (.ret (.bool (if a=c then cLt _ _ else rlt a c)))) ⟨hp,g,d,tk,os⟩:=hR;simp only[Wam]at hlen;have he:=Zlw (A:=A.in1) (s:=⟨hp,g,d,tk,os⟩) ra rc (by show A.units+1<cLine;exact hu);refine wpAny_bind (he prog w _ _ ?_);by_cases e:a=c
     ·rw[if_pos e]at hR
      rw[decide_eq_true e]
      wp_walk
      exact⟨rfl,rfl,_,_,_,_,hrest,hvi',hwi',by omega,hR⟩
     ·rw[if_neg e]at hR
      rw[decide_eq_false e];have hri:∀(Q:Value->Shared->Prop) (E:Value->Shared->Prop),Q (.bool (rlt a c)) ⟨hp,g,d,tk,os⟩ -> wpAny (model prog w) A.in1 (richCompare .Lt y x) Q E ⟨hp,g,d,tk,os⟩:=λQ E q=>by
       obtain⟨l',its',rfl,⟨⟨c1,d1,dt1,sl1⟩,ho,hc,k1,hd⟩,hi'⟩:=ra;obtain⟨l2,its2',rfl,⟨⟨c2,d2,dt2,sl2'⟩,ho2,hc2,k2,hd2⟩,hi2'⟩:=rc;simp only at hc hd hc2 hd2;subst hc hd hc2 hd2;exact richCompare_meets_room (op:=.Lt) ⟨_,ho,rfl⟩ ⟨_,ho2,rfl⟩ PySem.F.slot_tuple_lt PySem.F.entry_tuple_lt (PySem.F.args_tuple_lt_2 _ _) (HT.tuple_lt_ints l' l2 its'.toArray its2'.toArray k1 k2 d1 d2 sl1 sl2' a c (by simpa using hi') (by simpa using hi2'))
        ⟨ho,ho2,show Value.bool (HT.lexLt a c)≠Value.notImplemented/\_ from ⟨(λx=>nomatch x),q⟩⟩ (by show A.units+1<cLine;exact hu)
      wp_walk using hri
      exact⟨_,rfl,by simpa using hR⟩
  case fin=>
   rintro⟨b1,b2⟩ s' ⟨hb',rfl,vs,ws,ns',ms',hz,hvi,hwi,hlen,hR⟩;simp only at hb';subst hb';have hv:cLt ns' ms'=decide (items.size<items2.size):=by
    cases hvi with
    |nil=>
     cases hwi with
     |nil=>
      simp only[Wb2]at hlen;exact(decide_eq_false (by omega)).symm
     |cons _ hw=>
      simp only[Wb2,Wam]at hlen;exact(decide_eq_true (by omega)).symm
    |cons _ hv=>
     cases hwi with
     |nil=>
      simp only[Wb2,Wam]at hlen;exact(decide_eq_false (by omega)).symm
     |cons _ hw=>
      rw[Wby]at hz;cases hz
   rw[hv]at hR
   wp_walk
   exact⟨_,rfl,by simpa [Builtin.Tuple.tupleCompareSizes] using hR⟩
  ·exact⟨rfl,rfl,_,_,_,_,rfl,hi,hj,by omega,h⟩
end
section
variable {prog:Program}{w:World}{A:Around}{E:Value->Shared->Prop}{s:Shared}
theorem Zoy {x y:Value}{a b:List (List Int)}{Q:Value->Shared->Prop}(hu:A.units+1<cLine) (hx:CodeAt s.heap x a) (hy:CodeAt s.heap y b) (h:Q (.bool (cLt a b)) s):wpAny (model prog w) A (richCompare .Lt x y) Q E s:=by
 obtain⟨l,its,rfl,⟨⟨c1,d1,dt1,sl1⟩,ho,hc,k1,hd⟩,hi⟩:=hx;obtain⟨l2,its2,rfl,⟨⟨c2,d2,dt2,sl2⟩,ho2,hc2,k2,hd2⟩,hi2⟩:=hy;simp only at hc hd hc2 hd2;subst hc hd hc2 hd2;exact richCompare_meets_room (op:=.Lt) ⟨_,ho,rfl⟩ ⟨_,ho2,rfl⟩ PySem.F.slot_tuple_lt PySem.F.entry_tuple_lt (PySem.F.args_tuple_lt_2 _ _) (Zf6 l l2 its.toArray its2.toArray k1 k2 d1 d2 sl1 sl2 a b)
  ⟨hu,⟨by simpa using hi,by simpa using hi2⟩,ho,ho2,show Value.bool (cLt a b)≠Value.notImplemented/\_ from ⟨(λx=>nomatch x),h⟩⟩ (by omega)
end
theorem Paired.getC {α β:Type}{R:α -> β -> Prop}:∀{vs:List α}{rs:List β}{i:Nat}{v:α},Paired R vs rs->vs[i]?=some v->∃r,rs[i]?=some r/\R v r
 |_,_,_,_,.nil,e=>by simp at e
 |_,_,0,_,.cons r _,e=>by simp at e;subst e;exact⟨_,rfl,r⟩
 |_,_,i+1,_,.cons _ t,e=>Paired.getC (i:=i) t (by simpa using e)
def bestC (f:Nat->List (List Int)):Nat->Nat
 |0=>0
 |k+1=>if cLt (f (k+1)) (f (bestC f k))=true then k+1 else bestC f k
section
variable {prog:Program}{w:World}{A:Around}{R:Result->Shared->Prop}{I:Addr}{fp wr:List Addr}{n:Nat}{P:Nat->Value->Prop}{St:Nat->Heap->Prop}
theorem Zqw (W:Walks prog w A.in1 I fp wr n P St) (f:Nat->List (List Int)) (hu:A.units+2<cLine) (S:Addr) (hSf:S ∉ fp) (kw:List (Str × Value)) (OK:Heap->Prop) (hOK:∀h h',OK h->(∀b o,b ∉ wr->b≠S->h.get? b=some o->h'.get? b=some o)->OK h') (hP:∀h i v,OK h->P i v->CodeAt h v (f i)) :
  ∀(k j:Nat) (s:Shared) (vb:Value) (c:Nat),n-(j+1)=k->j+1<=n->St (j+1) s.heap->OK s.heap->P (bestC f j) vb →
  s.heap.get? S=some { cls:=.type "list",dict:=none,data:=.seq #[vb,vb] c,slots:=#[] } →
  (∀v h' tk,P (bestC f (n-1)) v->(∀b o,b ∉ wr->b≠S->s.heap.get? b=some o->h'.get? b=some o)->R (.ok (.ret v)) { s with heap:=h',toks:=tk }) →
  codeAny (model prog w) A (.builtin "min.loop" ⟨[.ref I,.none,.ref S],kw⟩) R s:=by
 have hSw:S ∉ wr:=λh=>hSf (W.sub _ h);have hname:(toString "min" ++ toString ".loop":String) = "min.loop":=by decide
 intro k
 induction k with
 |zero=>
  intro j s vb c hk hj hst hok hPb hS hR;have hin:j+1=n:=by omega
  refine codeAny_builtin F.entry_min_loop ((Around.under_plainId F.plain_min_loop _) ▸ (show wpAny _ A.in1 (seqItems? (.ref S) >>= _) _ _ s from wpAny_bind (wpAny_seqItems hS rfl (show wpAny _ A.in1 (tryCatch (pyNext (.ref I)) _ >>= _) _ _ s from wpAny_bind (wpAny_tryCatch (W.done s _ _ (hin ▸ hst) λh' tk hk'=>?_))))));have hS':=hk' S _ hSw hS;refine(show wpAny _ A.in1 (updateSeq S (λ_=>#[]) >>= _) _ _ _ from wpAny_bind (wpAny_updateSeq hS' rfl (wpAny_bind (wpAny_letGo (wpAny_pure ?_)))));exact hR vb _ tk (by rw[<- hin];exact hPb) λb o hbw hbS e=>(Wav _ _ (Ne.symm hbS)).trans (hk' b o hbw e)
 |succ k ih=>
  intro j s vb c hk hj hst hok hPb hS hR;have hlt:j+1<n:=by omega
  refine codeAny_builtin F.entry_min_loop ((Around.under_plainId F.plain_min_loop _) ▸ (show wpAny _ A.in1 (seqItems? (.ref S) >>= _) _ _ s from wpAny_bind (wpAny_seqItems hS rfl (show wpAny _ A.in1 (tryCatch (pyNext (.ref I)) _ >>= _) _ _ s from wpAny_bind (wpAny_tryCatch (W.item (j+1) s _ _ hlt hst λv h' tk hPv hst' hk'=>?_))))));have hS':=hk' S _ hSw hS;have hok':OK h':=hOK _ _ hok λb o hb _ e=>hk' b o hb e;refine(show wpAny _ A.in1 (tryCatch (holding [v,v] (richCompare .Lt v vb >>= _)) _ >>= _) _ _ _ from wpAny_bind (wpAny_tryCatch (wpAny_holding (wpAny_bind (Zoy (by show A.units+1+1<cLine;omega) (hP _ _ _ hok' hPv) (hP _ _ _ hok' hPb) ?_)))));refine wpAny_bind (wpAny_holding (wpAny_truthy_bool (wpAny_bind (wpAny_letGo (wpAny_pure ?_)))));cases hb:cLt (f (j+1)) (f (bestC f j)) with
  |true=>
   simp only[if_true];refine wpAny_bind (wpAny_updateSeq hS' rfl (wpAny_bind (wpAny_letGo ?_)));rw[hname];have up:∀b o,b≠S->h'.get? b=some o->(h'.update S (Obj.mapSeq λ_=>#[v,v])).get? b=some o:=λb o hbS e=>(Wav _ _ (Ne.symm hbS)).trans e;refine wpAny_pure ⟨plainId_quiet F.plain_min_loop _,ih (j+1) _ v _ (by omega) hlt (W.frame _ _ _ hst' λb hbf o e=>up b o (λh:b=S=>hSf (by rw[<- h];exact hbf)) e) (hOK _ _ hok' λb o _ hbS e=>up b o hbS e) ?_ (Wbb _ hS' rfl) λv' h'' tk'' hP' hk''=>hR v' h'' tk'' hP' λb o hbw hbS e=>hk'' b o hbw hbS (up b o hbS (hk' b o hbw e))⟩;show P (if cLt (f (j+1)) (f (bestC f j))=true then j+1 else bestC f j) v;rw[if_pos hb];exact hPv
  |false=>
   simp only[Wbs,if_false];refine wpAny_bind (wpAny_letGo ?_);rw[hname];refine wpAny_pure ⟨plainId_quiet F.plain_min_loop _,ih (j+1) _ vb c (by omega) hlt hst' hok' ?_ hS' λv' h'' tk'' hP' hk''=>hR v' h'' tk'' hP' λb o hbw hbS e=>hk'' b o hbw hbS (hk' b o hbw e)⟩;show P (if cLt (f (j+1)) (f (bestC f j))=true then j+1 else bestC f j) vb;rw[if_neg (by rw[hb];decide)];exact hPb
end
theorem Zfn (a v:Value):argsOk "min" ⟨[a],[(Str.ofString "default",v)]⟩:=by unfold argsOk;kernel_rfl
section
variable {prog:Program}{w:World}{A:Around}{E:Value->Shared->Prop}{s:Shared}
theorem Ze3 {l:Addr}{vs:List Value}{cs:List (List (List Int))}{d:Value}{Q:Value->Shared->Prop}(hh:A.handled=none) (hu:A.units+2<cLine) (hl:s.heap.IsList l vs.toArray) (hc:Paired (CodeAt s.heap) vs cs)
  (q0:cs=[]->∀(h':Heap) (tk:Nat),(∀b o,s.heap.get? b=some o->h'.get? b=some o)->Q d { s with heap:=h',toks:=tk })
  (q:∀(v:Value) (h':Heap) (tk:Nat),0<cs.length->vs[bestC (λi=>cs.getD i []) (cs.length-1)]?=some v->(∀b o,s.heap.get? b=some o->h'.get? b=some o)->Q v { s with heap:=h',toks:=tk }) :
  wpAny (model prog w) A (call (.builtin "min") [.ref l] [(Str.ofString "default",d)]) Q E s:=by
 have hname:(toString "min" ++ toString ".loop":String) = "min.loop":=by decide
 have hlen:vs.length=cs.length:=Paired.length hc;obtain⟨ol,hol,_⟩:=id hl;have hll:l<s.heap.objs.size:=Wai hol;refine PyProof.Rows.kmk_tree F.kind_min F.plain_min F.entry_min (Zfn _ _) ?_;refine(show wpAny _ A.in1 (Builtin.Builtins.bindParams "min" ["key","default"] 0 ⟨[],[(Str.ofString "default",d)]⟩ >>= _) _ _ s from wpAny_bind (wpAny_of_eq (show Builtin.Builtins.bindParams "min" ["key","default"] 0 ⟨[],[(Str.ofString "default",d)]⟩=pure [none,some d] from rfl) ?_));refine wpAny_bind (wpAny_pure (wpAny_bind (wpAny_pyIter_list hl (wpAny_bind (wpAny_newList ?_ (Wb8 _))))));rw[hname];generalize hI:s.heap.objs.size=I at *;generalize hH:(s.heap.push { cls:=.type "list_iterator",data:=.fields #[.ref l,.int 0 0] })=H1;have hH1:∀b o,s.heap.get? b=some o->H1.get? b=some o:=λb o e=>by rw[<- hH];exact Wac _ e
 have gI:H1.get? I=some { cls:=.type "list_iterator",data:=.fields #[.ref l,.int 0 0] }:=by rw[<- hH,<- hI];exact Wao _ rfl
 have hIs:I<H1.objs.size:=Wai gI;have hlI:l≠I:=War hll;have W:=Walks.list (prog:=prog) (w:=w) (A:=A.in1) hh I l hlI vs.toArray;have hsz:vs.toArray.size=vs.length:=Wah ..;have hSf:H1.objs.size ∉ [I,l]:=by
  simp only[Wan,Wcn,or_false,not_or];exact⟨Wb9 hIs,Wb9 (Nat.lt_trans hll hIs)⟩
 have keepH:∀b o,s.heap.get? b=some o->(H1.push (seqObj "list" #[] 0)).get? b=some o:=λb o e=>Wac _ (hH1 b o e);have gS:(H1.push (seqObj "list" #[] 0)).get? H1.objs.size=some (seqObj "list" #[] 0):=Wao _ rfl;have st0:(H1.push (seqObj "list" #[] 0)).IsListIter I l 0/\(H1.push (seqObj "list" #[] 0)).IsList l vs.toArray:=⟨⟨_,Wac _ gI,rfl,rfl⟩,by obtain⟨o,ho,r⟩:=hl;exact⟨o,keepH _ _ ho,r⟩⟩;refine wpAny_pure ⟨plainId_quiet F.plain_min_loop _,?_⟩;refine codeAny_builtin F.entry_min_loop ((Around.under_plainId F.plain_min_loop _) ▸ (show wpAny _ A.in1 (seqItems? (.ref H1.objs.size) >>= _) _ _ _ from wpAny_bind (wpAny_seqItems gS rfl (show wpAny _ A.in1 (tryCatch (pyNext (.ref I)) _ >>= _) _ _ _ from ?_))));by_cases hn:cs=[]
 ·have hv0:vs.length=0:=by rw[hlen,hn];rfl
  refine wpAny_bind (wpAny_tryCatch (W.done _ _ _ (by rw[hsz,hv0];exact st0) λh' tk hk'=>?_));refine wpAny_bind (wpAny_rule (wpAny_pure ?_));exact q0 hn h' tk λb o e=>hk' b o (by simp only[Was];rw[<- hI];exact War (Wai e)) (keepH b o e)
 ·have hn0:0<cs.length:=List.length_pos_iff.mpr hn
  refine wpAny_bind (wpAny_tryCatch (W.item 0 _ _ _ (by rw[hsz];omega) st0 λv h' tk hPv hst' hk'=>?_));have hS':=hk' H1.objs.size _ (by simp only[Was];exact Wb9 hIs) gS;have old:∀b o,s.heap.get? b=some o->b≠I/\b≠H1.objs.size:=λb o e=>by
   have:=Wai e;rw[hI]at this;exact⟨War this,War (Nat.lt_trans this hIs)⟩
  have k1:∀b o,s.heap.get? b=some o->h'.get? b=some o:=λb o e=>hk' b o (by simp only[Was];exact(old b o e).1) (keepH b o e);refine(show wpAny _ A.in1 (updateSeq H1.objs.size (λ_=>#[v,v]) >>= _) _ _ _ from wpAny_bind (wpAny_updateSeq hS' rfl ?_));rw[hname];have up:∀b o,b≠H1.objs.size->h'.get? b=some o->(h'.update H1.objs.size (Obj.mapSeq λ_=>#[v,v])).get? b=some o:=λb o hbS e=>(Wav _ _ (Ne.symm hbS)).trans e;refine wpAny_pure ⟨plainId_quiet F.plain_min_loop _,Zqw W (λi=>cs.getD i []) hu H1.objs.size hSf _ (λh=>∀b o,s.heap.get? b=some o->h.get? b=some o) (λh h2 ok k b o e=>k b o (by simp only[Was];exact(old b o e).1) (old b o e).2 (ok b o e)) (λh i u ok hP=>?_) _ 0 _ v _ rfl (by rw[hsz];omega) (W.frame _ _ _ hst' λb hbf o e=>up b o (λz=>hSf (by rw[<- z];exact hbf)) e) (λb o e=>up b o (old b o e).2 (k1 b o e)) hPv (Wbb _ hS' rfl) λu h2 tk2 hP2 k2=>?_⟩
  ·have hP:vs[i]?=some u:=by simpa using hP
   obtain⟨c,hc1,hc2⟩:=Paired.getC hc hP;have:cs.getD i []=c:=by rw[Wad,hc1];rfl
   rw[this];exact hc2.keep ok
  ·rw[hsz,hlen]at hP2
   refine q u h2 tk2 hn0 (by simpa using hP2) λb o e=>k2 b o (by simp only[Was];exact(old b o e).1) (old b o e).2 (up b o (old b o e).2 (k1 b o e))
end
end L2
namespace L2
open PySem PySem.Spec PyProof.Rows PySem.SeqAt
def RowV (K:W.Frag) (H:Hp) (y:V) (r:List Int):Prop:=∃b,y=.ref b/\SqT K H b (r.map V.int)
def CodeV (K:W.Frag) (H:Hp) (y:V) (c:List (List Int)):Prop:=∃b zs,y=.ref b/\SqT K H b zs/\Paired (RowV K H) zs c
def tMinD (K:W.Frag) (ta tk:TA):TE:=λσ H Q=>ta σ H λxs H1=>tk σ H1 λds H2=>∃(p:Addr) (ys:List V) (cs:List (List (List Int))) (d:V),xs=[.ref p]/\ds=[d]/\SqL K H2 p ys/\Paired (CodeV K H2) ys cs/\(cs=[]->Q d H2)/\∀y,0<cs.length->ys[bestC (λi=>cs.getD i []) (cs.length-1)]?=some y->Q y H2
section
variable {X:Cx}
theorem Zem {α:Type}{R:V -> α -> Prop}{T:Value -> α -> Prop}(h:∀y u c,RelV y u->R y c->T u c):∀{ys:List V}{us:List Value}{cs:List α},Vals ys us->Paired R ys cs->Paired T us cs
 |_,_,_,.nil,.nil=>.nil
 |_,_,_,.cons a b,.cons c d=>.cons (h _ _ _ a c) (Zem h b d)
theorem Zpl {pins:List (Addr × Obj)}{s:Shared}{σ:St}{H:Hp}(I:Inv X pins σ H s) {y:V}{u:Value}{r:List Int}(ru:RelV y u) (h:RowV X.K H y r):RowAt s.heap u r:=by
 obtain⟨b,rfl,hs⟩:=h;obtain⟨its,w1,p1,_⟩:=I.tuple hs;exact⟨b,its,ru,p1,Zd4 w1⟩
theorem Znv {pins:List (Addr × Obj)}{s:Shared}{σ:St}{H:Hp}(I:Inv X pins σ H s) {y:V}{u:Value}{c:List (List Int)}(ru:RelV y u) (h:CodeV X.K H y c):CodeAt s.heap u c:=by
 obtain⟨b,zs,rfl,hs,hp⟩:=h;obtain⟨its,w1,p1,_⟩:=I.tuple hs;exact⟨b,its,ru,p1,Zem (R:=RowV X.K H) (T:=RowAt s.heap) (λy u c a b=>Zpl I a b) w1 hp⟩
theorem Zos {a e:Expr}{ta tk:TA}{p pos kp:Pos}{K:W.Frag}(hK:X.K=K) (hc:X.calm=true) (hu:X.A.units+8<cLine) (hg:Gl X "min") (hm:X.mg "min" = none) (ha:PA X [a] ta) (hk:PK X [⟨some (Str.ofString "default"),e,kp⟩] tk)
  (he:backTo pos (starEach [a] X.env)=(false,eval a X.env)::backTo pos (starEach [] X.env):=by rfl) (hplain:(backTo pos (starEach [a] X.env)).any (·.1)=false:=by rfl) (hall:(backToKw pos (keywordEach [⟨some (Str.ofString "default"),e,kp⟩] X.env)).all (·.1.isSome)=true:=by rfl) (hkw:(backToKw pos (keywordEach [⟨some (Str.ofString "default"),e,kp⟩] X.env)).any (·.1.isNone)=false:=by rfl) :
  PE X (.Call (.Name "min" p) [a] [⟨some (Str.ofString "default"),e,kp⟩] pos) (tMinD K ta tk):=by
 subst hK;intro pins s σ H Q I h;refine wpAny_Call_Name_kw (Zdg I hg hm Zff ?_);refine callWith_kw (thn (ha pos pins s σ H _ I h) λus s1 ⟨xs,H1,I1,r1,q1⟩=>?_) he hplain hall hkw;refine thn (hk pos pins s1 σ H1 _ I1 q1) λks s2 ⟨ds,H2,I2,r2,q2⟩=>?_;obtain⟨l,ys,cs,d,rfl,rfl,hl,hp,q0,q⟩:=q2;obtain⟨u,rfl,ru⟩:=vals1 r1;cases (show u=Value.ref l from ru);obtain⟨k,rfl,rk⟩:=vals1 r2;obtain⟨its,w1,p1,hz⟩:=I2.list hl;have hcs:Paired (CodeAt s2.heap) its cs:=Zem (R:=CodeV X.K H2) (T:=CodeAt s2.heap) (λy u c a b=>Znv I2 a b) w1 hp;refine(show wpAny _ _ (call (.builtin "min") [.ref l] [(Str.ofString "default",k)]) _ _ _ from Ze3 (I2.ok.hd hc) (by omega) p1.isList hcs (λe0 h' tk kp=>?_) λv h' tk hn hv kp=>?_)
 ·exact⟨d,H2,I2.kept kp,rk,q0 e0⟩
 ·have hi:bestC (λi=>cs.getD i []) (cs.length-1)<ys.length:=by
   have:=(Wag.mp hv).1;rw[w1.length];exact this
  obtain⟨v',e1,rv⟩:=w1.get (Waa hi);rw[hv]at e1;cases e1;exact⟨_,H2,I2.kept kp,rv,q _ hn (Waa hi)⟩
end
section
variable {K:W.Frag}{Δ:Evt}{P:D->Evt->Prop}
theorem Zoj {G:Hp}{H:Hp}(hs:Same G H) {v:V}{r:List Int}(h:Rep K G v (rowD r)):RowV K H v r:=by
 obtain⟨a,vs,rfl,ha,rs⟩:=h.inv;have ev:=rs.ints;subst ev;exact⟨a,rfl,SqT.of (hs _ _ ha)⟩
theorem Zgv {G:Hp}{H:Hp}(hs:Same G H):∀{vs:List V}{c:List (List Int)},Reps K G vs (c.map rowD)->Paired (RowV K H) vs c
 |_,[],.nil=>.nil
 |_,r::c,.cons a b=>.cons (Zoj hs a) (Zgv hs b)
theorem Ze8 {G:Hp}{H:Hp}(hs:Same G H):∀{vs:List V}{cs:List (List (List Int))},Reps K G vs (cs.map λc=>D.tup (c.map rowD))->Paired (CodeV K H) vs cs
 |_,[],.nil=>.nil
 |_,c::cs,.cons a b=>by
  obtain⟨p,ws,rfl,ha,rs⟩:=a.inv;exact .cons ⟨p,ws,rfl,SqT.of (hs _ _ ha),Zgv hs rs⟩ (Ze8 hs b)
theorem Zox {ta tk:TA}(h:JA K ta Δ λxs Δ1=>JA K tk Δ1 λds Δ2=>∃(cs:List (List (List Int))) (d:D),xs=[.lst (cs.map λc=>D.tup (c.map rowD))]/\ds=[d]/\(cs=[]->P d Δ2)/\(0<cs.length->P (.tup ((cs.getD (bestC (λi=>cs.getD i []) (cs.length-1)) []).map rowD)) Δ2)):JE K (tMinD K ta tk) Δ P:=λg G H σ Q k c=>
 h g G H σ _ k λvs xs G1 H1 Δ1 k1 s1 r1 h1=>h1 g G1 H1 σ _ k1 λus ds G2 H2 Δ2 k2 s2 r2 hq_=>by
  obtain⟨cs,d,e1,e2,p0,p1⟩:=hq_;subst e1 e2;obtain⟨_,_,rfl,r,t⟩:=(r1.mono s2).inv;cases t.inv;obtain⟨a,ws,rfl,ha,rs⟩:=r.inv;obtain⟨u,_,rfl,ru,t2⟩:=r2.inv;cases t2.inv;refine⟨a,ws,cs,u,rfl,rfl,SqL.of (k2.live _ _ ha),Ze8 k2.live rs,λe=>c _ _ G2 H2 Δ2 k2 (s1.trans s2) ru (p0 e),λy hn hy=>?_⟩;obtain⟨d',e3,rd⟩:=rs.get' hy;rw[Waf]at e3;cases z:cs[bestC (λi=>cs.getD i []) (cs.length-1)]? with
  |none=>rw[z]at e3;cases e3
  |some c0=>
   rw[z]at e3;have e3:D.tup (c0.map rowD)=d':=by simpa using e3
   have e4:cs.getD (bestC (λi=>cs.getD i []) (cs.length-1)) []=c0:=by rw[Wad,z];rfl
   have p:=p1 hn;rw[e4,e3]at p;exact c _ _ G2 H2 Δ2 k2 (s1.trans s2) rd p
end
open PySem PySem.Spec PyProof.Rows PySem.SeqAt
section
variable {K:W.Frag}{Δ:Evt}{P:D->Evt->Prop}
end
end L2
set_option Elab.async false
set_option linter.all false
set_option maxRecDepth 100000
set_option maxHeartbeats 4000000
namespace Lw
open PySem L2
def top (i:Nat):Stmt:=PySem.Challenge.pw_holefloor_k80_floors_of_several_parts.main.body.getD i (.Pass ⟨0,0,0,0⟩)
abbrev s_place_of:Stmt:=top 18
abbrev s_parts_of:Stmt:=top 19
abbrev s_refuse_parts:Stmt:=top 20
abbrev s_follower:Stmt:=top 22
abbrev s_alike:Stmt:=top 24
abbrev s_turnings:Stmt:=top 25
abbrev s_renamings:Stmt:=top 26
abbrev s_numbered_from:Stmt:=top 27
abbrev s_code_by:Stmt:=top 28
abbrev s_code_from:Stmt:=top 29
abbrev s_code:Stmt:=top 30
abbrev s_law_pen:Stmt:=top 32
abbrev s_law_draw:Stmt:=top 33
abbrev s_law_web:Stmt:=top 34
abbrev s_law_order:Stmt:=top 35
abbrev s_law_parts:Stmt:=top 36
abbrev s_law_refusal:Stmt:=top 37
abbrev s_law_one_part:Stmt:=top 38
abbrev s_law_alike:Stmt:=top 39
abbrev s_law_code:Stmt:=top 40
abbrev s_law_code_from:Stmt:=top 41
abbrev s_law_turnings:Stmt:=top 42
abbrev s_law_due:Stmt:=top 43
abbrev s_law:Stmt:=top 44
theorem sc_place_of:FnScope ["web","end"] ["web","end"] (defScope s_place_of):=⟨rfl,rfl,rfl,by decide +kernel,rfl,by decide +kernel,by decide +kernel⟩
theorem sc_parts_of:FnScope ["web","many","ties","firsts","a","b","low","high"] ["web"] (defScope s_parts_of):=⟨rfl,rfl,rfl,by decide +kernel,rfl,by decide +kernel,by decide +kernel⟩
theorem sc_refuse_parts:FnScope ["web"] ["web"] (defScope s_refuse_parts):=⟨rfl,rfl,rfl,by decide +kernel,rfl,by decide +kernel,by decide +kernel⟩
theorem sc_follower:FnScope ["web","order","end","row"] ["web","order","end"] (defScope s_follower):=⟨rfl,rfl,rfl,by decide +kernel,rfl,by decide +kernel,by decide +kernel⟩
theorem sc_alike:FnScope ["one","order","other","its_order","told"] ["one","order","other","its_order"] (defScope s_alike):=⟨rfl,rfl,rfl,by decide +kernel,rfl,by decide +kernel,by decide +kernel⟩
theorem sc_turnings:FnScope ["web","order"] ["web","order"] (defScope s_turnings):=⟨rfl,rfl,rfl,by decide +kernel,rfl,by decide +kernel,by decide +kernel⟩
theorem sc_renamings:FnScope ["one","order","other","its_order","ends","own","told","end","its_ends"] ["one","order","other","its_order"] (defScope s_renamings):=⟨rfl,rfl,rfl,by decide +kernel,rfl,by decide +kernel,by decide +kernel⟩
theorem sc_numbered_from:FnScope ["web","order","end","ends","at","come"] ["web","order","end"] (defScope s_numbered_from):=⟨rfl,rfl,rfl,by decide +kernel,rfl,by decide +kernel,by decide +kernel⟩
theorem sc_code_by:FnScope ["web","order","ends"] ["web","order","ends"] (defScope s_code_by):=⟨rfl,rfl,rfl,by decide +kernel,rfl,by decide +kernel,by decide +kernel⟩
theorem sc_code_from:FnScope ["web","order","end"] ["web","order","end"] (defScope s_code_from):=⟨rfl,rfl,rfl,by decide +kernel,rfl,by decide +kernel,by decide +kernel⟩
theorem sc_code:FnScope ["web","order"] ["web","order"] (defScope s_code):=⟨rfl,rfl,rfl,by decide +kernel,rfl,by decide +kernel,by decide +kernel⟩
theorem sc_law_pen:FnScope ["_law_script"] ["_law_script"] (defScope s_law_pen):=⟨rfl,rfl,rfl,by decide +kernel,rfl,by decide +kernel,by decide +kernel⟩
theorem sc_law_draw:FnScope ["_law_pen_here","_law_many","_law_digit","_law_at","_law_cell","_law_number"] ["_law_pen_here","_law_many"] (defScope s_law_draw):=⟨rfl,rfl,rfl,by decide +kernel,rfl,by decide +kernel,by decide +kernel⟩
theorem sc_law_web:FnScope ["_law_pen_here","_law_places","_law_ties","_law_many","_law_way","_law_count","_law_found","_law_k","_law_a","_law_b"] ["_law_pen_here","_law_places","_law_ties"] (defScope s_law_web):=⟨rfl,rfl,rfl,by decide +kernel,rfl,by decide +kernel,by decide +kernel⟩
theorem sc_law_order:FnScope ["_law_pen_here","_law_web_here","_law_rows","_law_k","_law_row","!0","!1","!2","!3","!4","!5","!6","!7","!8","!9","!10","!11","!12","!13","!14","!15","!16","!17","!18","!19","!20","!21","!22","!23","!24"] ["_law_pen_here","_law_web_here"] (defScope s_law_order):=⟨rfl,rfl,rfl,by decide +kernel,rfl,by decide +kernel,by decide +kernel⟩
theorem sc_law_parts:FnScope ["_law_web_here","_law_marks","_law_a","_law_b","_law_low","_law_high","_law_place"] ["_law_web_here"] (defScope s_law_parts):=⟨rfl,rfl,rfl,by decide +kernel,rfl,by decide +kernel,by decide +kernel⟩
theorem sc_law_refusal:FnScope ["_law_call","_law_things","e","_law_found"] ["_law_call","_law_things"] (defScope s_law_refusal):=⟨rfl,rfl,rfl,by decide +kernel,rfl,by decide +kernel,by decide +kernel⟩
theorem sc_law_one_part:FnScope ["_law_pen_here","_law_limit","_law_count","_law_way","_law_many","_law_ties","_law_k","_law_a","_law_b"] ["_law_pen_here","_law_limit"] (defScope s_law_one_part):=⟨rfl,rfl,rfl,by decide +kernel,rfl,by decide +kernel,by decide +kernel⟩
theorem sc_law_alike:FnScope ["_law_asked"] ["_law_asked"] (defScope s_law_alike):=⟨rfl,rfl,rfl,by decide +kernel,rfl,by decide +kernel,by decide +kernel⟩
theorem sc_law_code:FnScope ["_law_asked"] ["_law_asked"] (defScope s_law_code):=⟨rfl,rfl,rfl,by decide +kernel,rfl,by decide +kernel,by decide +kernel⟩
theorem sc_law_code_from:FnScope ["_law_asked"] ["_law_asked"] (defScope s_law_code_from):=⟨rfl,rfl,rfl,by decide +kernel,rfl,by decide +kernel,by decide +kernel⟩
theorem sc_law_turnings:FnScope ["_law_asked"] ["_law_asked"] (defScope s_law_turnings):=⟨rfl,rfl,rfl,by decide +kernel,rfl,by decide +kernel,by decide +kernel⟩
theorem sc_law_due:FnScope ["_law_webs"] ["_law_webs"] (defScope s_law_due):=⟨rfl,rfl,rfl,by decide +kernel,rfl,by decide +kernel,by decide +kernel⟩
theorem sc_law:FnScope ["_law_script","_law_pen_here","_law_webs","_law_orders","_law_one","_law_other","_law_asked","_law_k","_law_due_here","_law_j","_law_end"] ["_law_script"] (defScope s_law):=⟨rfl,rfl,rfl,by decide +kernel,rfl,by decide +kernel,by decide +kernel⟩
def Mb (mg:Str->Option Value):Prop:=∀x∈["ValueError","abs","int","isinstance","len","list","max","min","range","set","sorted","tuple"],mg x=none
structure Cl (K:W.Frag) (mg:Str->Option Value) (c_FloorError c_NoWeb c_NoOrder c_NoNumber c_NoEnd c_NoTie c_NoPlace c_NoTable c_NoRing c_NoPaper c_Apart c_TooMany c_TooGreat c_NoText c_NoName c_NoRow:Addr):Prop where
 n_FloorError:mg "FloorError" = some (.ref c_FloorError)
 e_FloorError:ExcC K c_FloorError
 n_NoWeb:mg "NoWeb" = some (.ref c_NoWeb)
 n_NoOrder:mg "NoOrder" = some (.ref c_NoOrder)
 n_NoNumber:mg "NoNumber" = some (.ref c_NoNumber)
 n_NoEnd:mg "NoEnd" = some (.ref c_NoEnd)
 n_NoTie:mg "NoTie" = some (.ref c_NoTie)
 n_NoPlace:mg "NoPlace" = some (.ref c_NoPlace)
 n_NoTable:mg "NoTable" = some (.ref c_NoTable)
 n_NoRing:mg "NoRing" = some (.ref c_NoRing)
 n_NoPaper:mg "NoPaper" = some (.ref c_NoPaper)
 n_Apart:mg "Apart" = some (.ref c_Apart)
 e_Apart:ExcC K c_Apart
 n_TooMany:mg "TooMany" = some (.ref c_TooMany)
 n_TooGreat:mg "TooGreat" = some (.ref c_TooGreat)
 n_NoText:mg "NoText" = some (.ref c_NoText)
 n_NoName:mg "NoName" = some (.ref c_NoName)
 n_NoRow:mg "NoRow" = some (.ref c_NoRow)
 i_Apart:ExcI K c_Apart
 m_Apart:PySem.W.mroIn K c_Apart (.ref c_FloorError)=some true
 t_Apart:PySem.W.kitOne K (.ref c_Apart) (.type "ValueError")=some true
 k_Apart_NoWeb:PySem.W.kitOne K (.ref c_Apart) (.ref c_NoWeb)=some false
 k_Apart_NoOrder:PySem.W.kitOne K (.ref c_Apart) (.ref c_NoOrder)=some false
 k_Apart_NoNumber:PySem.W.kitOne K (.ref c_Apart) (.ref c_NoNumber)=some false
 k_Apart_NoEnd:PySem.W.kitOne K (.ref c_Apart) (.ref c_NoEnd)=some false
 k_Apart_NoTie:PySem.W.kitOne K (.ref c_Apart) (.ref c_NoTie)=some false
 k_Apart_NoPlace:PySem.W.kitOne K (.ref c_Apart) (.ref c_NoPlace)=some false
 k_Apart_NoTable:PySem.W.kitOne K (.ref c_Apart) (.ref c_NoTable)=some false
 k_Apart_NoRing:PySem.W.kitOne K (.ref c_Apart) (.ref c_NoRing)=some false
 k_Apart_NoPaper:PySem.W.kitOne K (.ref c_Apart) (.ref c_NoPaper)=some false
 k_Apart_Apart:PySem.W.kitOne K (.ref c_Apart) (.ref c_Apart)=some true
 k_Apart_TooMany:PySem.W.kitOne K (.ref c_Apart) (.ref c_TooMany)=some false
 k_Apart_TooGreat:PySem.W.kitOne K (.ref c_Apart) (.ref c_TooGreat)=some false
 k_Apart_NoText:PySem.W.kitOne K (.ref c_Apart) (.ref c_NoText)=some false
 k_Apart_NoName:PySem.W.kitOne K (.ref c_Apart) (.ref c_NoName)=some false
 k_Apart_NoRow:PySem.W.kitOne K (.ref c_Apart) (.ref c_NoRow)=some false
local macro_rules | `(tactic| walk_at "js")=>`(tactic| first
 |with_reducible refine Zap (t:=tAsg _ _) ?_
 |with_reducible refine Zap (t:=tPar _ _ _) ?_
 |with_reducible refine Zap (t:=tDrop _) ?_
 |with_reducible refine iteF ?_
 |with_reducible refine iteT ?_
 |with_reducible refine Za3 ?_
 |with_reducible refine Zbo ?_
 |with_reducible refine Zcf ?_
 |with_reducible refine Zc8 ?_
 |with_reducible refine Zax ?_
 |refine Zc4 rfl rfl ?_
 |refine Zf1 rfl rfl ?_
 |with_reducible refine Zaw ?_
 |with_reducible refine Zrv ?_
 |with_reducible refine Zar ?_
 |with_reducible refine Zqu ?_
 |with_reducible refine Zio ?_
 |with_reducible refine Zqz ?_
 |with_reducible refine Zbx ?_
 |with_reducible refine Zbf ?_
 |refine Zc9 rfl rfl ?_
 |refine Zk5 rfl rfl ?_
 |with_reducible refine Zdo ?_
 |with_reducible refine Zo1 ?_
 |with_reducible refine Zq7 ?_
 |with_reducible refine Zov ?_
 |with_reducible refine Zrs ?_
 |with_reducible refine Zra ?_
 |with_reducible refine Zim ?_
 |with_reducible refine Zo0 ?_
 |with_reducible refine Znu ?_
 |with_reducible refine Zag ?_
 |with_reducible refine Zab ?_
 |with_reducible refine Za6 ?_
 |with_reducible refine Znd ?_
 |with_reducible refine Zqj ?_
 |with_reducible refine Zkj ?_
 |with_reducible refine Zey ?_
 |with_reducible refine Zb5 ?_
 |with_reducible refine Zdj ?_
 |with_reducible refine Zmd ?_
 |with_reducible refine Zhh ?_
 |with_reducible refine Zgt ?_
 |with_reducible refine Zrw ?_
 |with_reducible refine Zpv ?_
 |with_reducible refine Zdi ?_
 |with_reducible refine Zbt ?_
 |refine Zad rfl ?_
 |refine Zb0 rfl ?_
 |refine Zbk rfl ?_
 |refine Zcw (Or.inl rfl) ?_
 |refine Zcw (Or.inr rfl) ?_
 |refine Zec (Or.inl rfl) ?_
 |refine Zec (Or.inr rfl) ?_
 |refine Znp (Or.inl rfl) ?_
 |refine Znp (Or.inr rfl) ?_
 |refine Zif ?_
 |refine⟨⟨_,_,rfl,rfl⟩,?_⟩
 |refine⟨_,_,_,_,rfl,rfl,rfl,rfl,?_⟩
 |refine⟨_,rfl,?_⟩
 |refine jr_I (by first|(show (0:Int)<_;omega)|exact⟨by omega,by omega⟩|exact Or.inl ⟨by omega,by omega⟩|exact Or.inr ⟨by omega,by omega⟩|exact⟨by decide,by decide,by decide⟩) ?_)
local macro_rules | `(tactic| walk_at "draw")=>`(tactic| first|refine Zbm rfl rfl (by assumption) (by omega) (by omega) λ_ _ _ _ _=>?_|refine⟨_,_,rfl,rfl,by assumption,_,rfl,by omega,by omega,λ_ _ _ _ _=>?_⟩)
def Pen (ps:List D):Prop:=∃(cs:List Int) (at_ num:Int),ps=[.lst (cs.map .int),.int at_,.int num]/\0<=at_/\0<=num/\cs.length<=63
def fDraw:BSp:=λps ds Post=>Pen ps/\∃m:Int,ds=[.int m]/\1<=m/\m<=100000000000000000000000000000000000000000000000000000000000/\∀r ps',Pen ps' -> 0<=r->r<m->Post (.int r) ps'
abbrev LendQ (f:BSp) (i:Nat) (P:D->Evt->Prop):List D->Evt->Prop:=λds Δ1=>∃y ps,Δ1[i]?=some y/\y.od=some (.lst ps)/\f ps ds λd ps'=>P d (Δ1.set i (y.put (.lst ps')))
theorem Zc9 {K:W.Frag}{Δ:Evt}{P:D->Evt->Prop}{f:BSp}{ta:TA}{E:XK}{i:Nat}{x:Slot}{od:OD}(hx:Δ[i]?=some x) (ho:x.od=some od) (h:JA K ta Δ (LendQ f i P)):JE K (tCall (spB K f) [] E (tCons (tVar i) ta)) Δ P:=Zk5 hx ho h
theorem Zbm {Δ1:Evt}{i:Nat}{y:Slot}{ps:List D}{m:Int}{P:D->Evt->Prop}(hx:Δ1[i]?=some y) (ho:y.od=some (.lst ps)) (hp:Pen ps) (h1:1<=m) (h2:m<=100000000000000000000000000000000000000000000000000000000000) (h:∀r ps',Pen ps' -> 0<=r->r<m->P (.int r) (Δ1.set i (y.put (.lst ps')))) :
  LendQ fDraw i P [.int m] Δ1:=⟨y,ps,hx,ho,hp,m,rfl,h1,h2,h⟩
theorem Zmp {K:W.Frag}{Δ:Evt}{E:XK}{i:Nat}{y:Slot}{ps:List D}{m:Int}{P:D->Evt->Prop}(hx:Δ[i]?=some y) (ho:y.od=some (.lst ps)) (hp:Pen ps) (h1:1<=m) (h2:m<=100000000000000000000000000000000000000000000000000000000000) (h:∀r ps',Pen ps' -> 0<=r->r<m->P (.int r) (Δ.set i (y.put (.lst ps')))) :
  JE K (tCall (spB K fDraw) [] E (tCons (tVar i) (tCons (tC (.int m)) tNil))) Δ P:=Zc9 hx ho (Zab (Zar (Zag (Zbm hx ho hp h1 h2 h))))
section
variable {P:Program}{w:World}{K:W.Frag}{mg:Str->Option Value}{base:Heap}{f:Addr}{fd:FuncData}
theorem Zn6 (mb:Mb mg) (F:Fun K "_law_draw" "_law_draw" s_law_draw f fd):FnOk P w K mg base CX0 1 f fd ["_law_pen_here","_law_many"] (spB K fDraw):=by
 refine F.ok sc_law_draw (Zgj λps ds Post h=>by obtain⟨_,m,rfl,_⟩:=h;rfl) (λcdv A outer s H vs Q E hr h=>?_);have hu:=Zbs hr;refine⟨_,(Zae (Zbz (Zat Ziu (Zam (ixK K hu) (pv 0) Zaf (λ_ _=>rfl)) Zaf (nomark _)) (Zae (Zaq (i:=2) sc_law_draw.nd rfl (Or.inl rfl) (Zav Zcd (Zam (ixK K hu) (pv 0) Zaf (λ_ _=>rfl)) (pv 1))) (Zae (Zgn (Zav Zfz (Zam (ixK K hu) (pv 0) Zaf (λ_ _=>rfl)) (pv 1)) (Zin (pv 0) Zaf (setU hu))) (Zai (Zaz (pv 2))))) Za0) (Zae (Zaq (i:=3) sc_law_draw.nd rfl (Or.inl rfl) (Zam (ixK K hu) (pv 0) Zaf (λ_ _=>rfl))) (Zae (Zgn (Zav (addK K) (pv 3) Zaf) (Zin (pv 0) Zaf (setU hu))) (Zae (Zaq (i:=4) sc_law_draw.nd rfl (Or.inl rfl) Zaf) (Zae (Zbz (Zat Ziu (Zaj (lenK K) rfl (mb "len" (by decide)) Zbr (Zaa (Zam (ixK K hu) (pv 0) Zaf (λ_ _=>rfl)) Zac)) Zaf (nomark _)) (Zai (Zaq (i:=4) sc_law_draw.nd rfl (Or.inl rfl) (Zam (ixK K hu) (Zam (ixK K hu) (pv 0) Zaf (λ_ _=>rfl)) (Zav Zcd (pv 3) (Zaj (lenK K) rfl (mb "len" (by decide)) Zbr (Zaa (Zam (ixK K hu) (pv 0) Zaf (λ_ _=>rfl)) Zac))) (λ_ _=>rfl)))) Za0) (Zae (Zbz (PW.pt (pw_and (Zat Zoi (pv 3) (Zaj (lenK K) rfl (mb "len" (by decide)) Zbr (Zaa (Zam (ixK K hu) (pv 0) Zaf (λ_ _=>rfl)) Zac)) (nomark _)) (pw_and1 (Zat Zr0 (Zaj Zfm rfl (mb "abs" (by decide)) Zjz (Zaa (pv 4) Zac)) (Zav Zrj Zaf Zaf) (nomark _))))) (Zae (Zgn (Zav Zfz (Zaj Zfm rfl (mb "abs" (by decide)) Zjz (Zaa (pv 4) Zac)) (pv 1)) (Zin (pv 0) Zaf (setU hu))) (Zai (Zaz (Zav Zcd (Zaj Zfm rfl (mb "abs" (by decide)) Zjz (Zaa (pv 4) Zac)) (pv 1))))) Za0) (Zae (Zaq (i:=5) sc_law_draw.nd rfl (Or.inl rfl) (Zav Zcd (Zav Zc6 (Zav (addK K) (Zav (addK K) (Zav Zcd (pv 4) Zaf) (Zav Zc6 Zaf (pv 3))) Zaf) Zaf) Zaf)) (Zae (Zaq (i:=5) sc_law_draw.nd rfl (Or.inl rfl) (Zav Zcd (Zav (addK K) (Zav (addK K) (Zav Zc6 (pv 5) (pv 5)) (Zav Zc6 Zaf (pv 5))) (pv 3)) Zaf)) (Zai (Zaz (Zav Zcd (Zav Zfz (Zav Zcd (Zav Zc6 (pv 5) Zaf) Zaf) Zaf) (pv 1)))))))))))),Zmr (λps ds Post hf=>?_) h⟩;obtain⟨⟨cs,at_,num,rfl,h1,h2,h3⟩,m,rfl,h4,h5,q⟩:=hf;refine⟨by simp,?_⟩;dsimp only[cxOf,startD,Wbe,Wbh,Wa3,Wae];refine Za8 (λΔ=>¬ 0<num /\ Δ = [.bor (.lst [.lst (cs.map .int),.int at_,.int num]),.val (.int m),.any,.any,.any,.any]) ?_ ?_
 ·repeat walk_at "js"
  refine ite2 (λc=>?_) (λc=>?_)
  ·have c:=of_decide_eq_true c
   repeat walk_at "js"
   exact q _ _ ⟨cs,at_,num / m,rfl,h1,Int.ediv_nonneg h2 (by omega),h3⟩ (Wcj _ (by omega)) (Wb7 _ (by omega))
  ·repeat walk_at "js"
   exact⟨of_decide_eq_false (Wcv.mpr c),rfl⟩
 rintro Δ1 ⟨hn,rfl⟩
 repeat walk_at "js"
 refine Za8 (λΔ=>∃c:Int,Δ = [.bor (.lst [.lst (cs.map .int),.int (at_+1),.int num]),.val (.int m),.any,.val (.int at_),.val (.int c),.any]) ?_ ?_
 ·repeat walk_at "js"
  refine ite2 (λc=>?_) (λc=>?_)
  ·have c:=of_decide_eq_true c
   rw[Wab]at c
   repeat walk_at "js"
   rw[Wab]
   repeat walk_at "js"
   obtain⟨cell,_,hc⟩:=Zk3 (f:=D.int) (xs:=cs) (i:=at_ % (cs.length:Int)) (Wcj _ (by omega)) (Wb7 _ (by omega));refine Zbk hc ?_;exact⟨cell,rfl⟩
  ·repeat walk_at "js"
   exact⟨11,rfl⟩
 rintro Δ1 ⟨cell,rfl⟩;refine Za8 (λΔ=>Δ = [.bor (.lst [.lst (cs.map .int),.int (at_+1),.int num]),.val (.int m),.any,.val (.int at_),.val (.int cell),.any]) ?_ ?_
 ·repeat walk_at "js"
  refine ite2 (λc=>?_) (λc=>?_)
  ·repeat walk_at "js"
   refine ite2 (λc=>?_) (λc=>?_)
   ·repeat walk_at "js"
    have ha:0<=(if cell<0 then -cell else cell):=by split <;> omega
    exact q _ _ ⟨cs,at_+1,_,rfl,by omega,Int.ediv_nonneg ha (by omega),h3⟩ (Wcj _ (by omega)) (Wb7 _ (by omega))
   ·repeat walk_at "js"
    rfl
  ·repeat walk_at "js"
   rfl
 rintro Δ1 rfl
 repeat walk_at "js"
 exact q _ _ ⟨cs,at_+1,num,rfl,by omega,h2,h3⟩ (Wcj _ (by omega)) (Wb7 _ (by omega))
end
def fPen:NSp:=λds Post=>∃ns:List Int,ds=[.scr (ns.map .int)]/\ns.length<=63/\∀ps,Pen ps->Post ps
section
variable {P:Program}{w:World}{K:W.Frag}{mg:Str->Option Value}{base:Heap}{f:Addr}{fd:FuncData}
theorem Zq8 (mb:Mb mg) (F:Fun K "_law_pen" "_law_pen" s_law_pen f fd):FnOk P w K mg base CX0 1 f fd ["_law_script"] (spN K fPen):=by
 refine F.ok sc_law_pen (Zew λds Post h=>by obtain⟨ns,rfl,_⟩:=h;rfl) (λcdv A outer s H vs Q E hr h=>?_);have hu:=Zbs hr;refine⟨_,(Zai (Zaz (Zbg (Zaa (Zb1 ["_law_cell"] (show CompSc (defScope s_law_pen) ["_law_script"] _ [] [] from ⟨rfl,by decide +kernel,by decide +kernel,by decide +kernel,rfl,by decide +kernel⟩) rfl (seqK K (Zmb (slK K) (pv 0) Zob (Zn5 Zaf))) (λ_ _ _ _ _=>(Zas (i:=0) (show List.Nodup (["_law_cell"]:List Str) from by decide) rfl (Or.inl rfl))) (λ_ _ _ _ _=>Zb8) (λ_ _ _ _ _=>(pv 0))) (Zaa Zaf (Zaa Zaf Zac)))))),Zla (λds Post hf=>?_) h⟩;obtain⟨ns,rfl,h1,q⟩:=hf;refine⟨by simp,?_⟩;dsimp only[cxOf,startD,Wbe,Wbh,Wa3,Wae];refine Zd0 (Zeb (Zab (Zbp (by decide) (Zdw ?_))))
 repeat walk_at "js"
 have e:cutD (ns.map D.int) none (some 63)=ns.map D.int:=by
  unfold cutD;have e1:HT.sIx (ns.map D.int).length 0 none=0:=rfl;have e2:HT.sIx (ns.map D.int).length (ns.map D.int).length (some 63)=ns.length:=by
   rw[Wab];show min (Int.toNat 63) ns.length=_;omega
  rw[e1,e2,List.drop_zero,Nat.sub_zero,Wcx (by simp)]
 rw[e];refine⟨_,Or.inl rfl,by rw[Wab];exact Wch h1 (by decide),λ_=>true,λd=>d,λi d hd=>?_,?_⟩
 ·repeat walk_at "js"
  exact⟨rfl,Zad rfl ⟨rfl,_,rfl⟩⟩
 ·repeat walk_at "js"
  refine⟨by show 3<=sizeLine;decide,_,rfl,q _ ⟨ns,0,0,?_,by decide,by decide,h1⟩⟩;simp
end
def encTie (t:Int × Int):D:=.tup [.int t.1,.int t.2]
def encWeb (n:Int) (ts:List (Int × Int)):D:=.tup [.int n,.tup (ts.map encTie)]
structure WebOk (n:Int) (ts:List (Int × Int)):Prop where
 lo:1<=n
 hi:n<=25
 len:ts.length<=24
 tie:∀t∈ts,0<=t.1/\t.1<n/\0<=t.2/\t.2<n
def fWeb:BSp:=λps ds Post=>Pen ps/\∃a b:Int,ds=[.int a,.int b]/\1<=a/\a<=25/\0<=b/\b<=24/\∀n ts ps',Pen ps' -> WebOk n ts->n<=a->(ts.length:Int)<=b->Post (encWeb n ts) ps'
theorem Zpx {Δ1:Evt}{i:Nat}{y:Slot}{ps:List D}{a b:Int}{P:D->Evt->Prop}(hx:Δ1[i]?=some y) (ho:y.od=some (.lst ps)) (hp:Pen ps) (h1:1<=a) (h2:a<=25) (h3:0<=b) (h4:b<=24) (h:∀n ts ps',Pen ps' -> WebOk n ts->n<=a->(ts.length:Int)<=b->P (encWeb n ts) (Δ1.set i (y.put (.lst ps')))) :
  LendQ fWeb i P [.int a,.int b] Δ1:=⟨y,ps,hx,ho,hp,a,b,rfl,h1,h2,h3,h4,h⟩
theorem Zj4:2<=sizeLine:=by decide
theorem Zdr {K:W.Frag}{Δ:Evt}{i:Nat}{v c:Int}{P:Bool->Evt->Prop}(hx:Δ[i]?=some (.val (.int v))) (h1:v=c->P true Δ) (h2:¬ v=c->P false Δ):JT K (tTest (tOp rEq (tVar i) (tC (.int c)))) Δ P:=
 Za6 (Zaw (Zad hx (Zar (Zgt ⟨_,rfl,by
  by_cases h:v=c
  ·rw[decide_eq_true h];exact h1 h
  ·rw[decide_eq_false h];exact h2 h⟩))))
def wSt (py:List D) (a b n way k:Int) (fs:List D) (i u v:Int):Evt:=[.bor (.lst py),.val (.int a),.val (.int b),.val (.int n),.val (.int way),.val (.int k),.own (.lst fs),.val (.int i),.val (.int u),.val (.int v)]
def wQ (py:List D) (a b n way k:Int) (fs:List D) (i:Int):Evt->Prop:=λΔ=>∃u v:Int,0<=u/\u<n/\0<=v/\v<n /\ Δ = wSt py a b n way k fs i u v
def wR (py:List D) (a b n way k:Int) (fs:List D) (i:Int):Evt->Prop:=λΔ=>∃u v:Int,0<=u/\u<n/\0<=v /\ Δ = wSt py a b n way k fs i u v
def wL (a b n way k:Int) (i:Nat):Evt->Prop:=λΔ=>∃(ps:List D) (ts:List (Int × Int)) (x7 x8 x9:Slot),Pen ps/\ts.length=i/\(∀t∈ts,0<=t.1/\t.1<n/\0<=t.2/\t.2<n) /\ Δ = [.bor (.lst ps),.val (.int a),.val (.int b),.val (.int n),.val (.int way),.val (.int k),.own (.lst (ts.map encTie)),x7,x8,x9]
section
variable {P:Program}{w:World}{K:W.Frag}{mg:Str->Option Value}{base:Heap}{f:Addr}{fd:FuncData}
theorem Zqd (mb:Mb mg) (C29:Callee P w K mg base 1 "_law_draw" ["_law_pen_here","_law_many"] (spB K fDraw)) (F:Fun K "_law_web" "_law_web" s_law_web f fd):FnOk P w K mg base CX0 2 f fd ["_law_pen_here","_law_places","_law_ties"] (spB K fWeb):=by
 refine F.ok sc_law_web (Zgj λps ds Post h=>by obtain⟨_,a,b,rfl,_⟩:=h;rfl) (λcdv A outer s H vs Q E hr h=>?_);have hu:=Zbs hr;refine⟨_,(Zae (Zaq (i:=3) sc_law_web.nd rfl (Or.inl rfl) (Zav (addK K) Zaf (Za4 C29 (hr.mono (by decide)) (Zaa (pv 0) (Zaa (pv 1) Zac))))) (Zae (Zaq (i:=4) sc_law_web.nd rfl (Or.inl rfl) (Za4 C29 (hr.mono (by decide)) (Zaa (pv 0) (Zaa Zaf Zac)))) (Zae (Zaq (i:=5) sc_law_web.nd rfl (Or.inl rfl) (Za4 C29 (hr.mono (by decide)) (Zaa (pv 0) (Zaa (Zav (addK K) (pv 2) Zaf) Zac)))) (Zae (Zbz (Zat Zb3 (pv 4) Zaf (nomark _)) (Zae (Zaq (i:=3) sc_law_web.nd rfl (Or.inl rfl) (pv 1)) (Zai (Zaq (i:=5) sc_law_web.nd rfl (Or.inl rfl) (pv 2)))) Za0) (Zae (Zaq (i:=6) sc_law_web.nd rfl (Or.inl rfl) (Zbg Zac)) (Zae (Zc2 PassesOwn.never rfl (Za7 rfl (mb "range" (by decide)) (Zaa (pv 5) Zac)) (Zas (i:=7) sc_law_web.nd rfl (Or.inl rfl)) (Zae (Zex (i:=8) (j:=9) rfl sc_law_web.nd rfl rfl (by decide) rfl rfl (Zaa (Za4 C29 (hr.mono (by decide)) (Zaa (pv 0) (Zaa (pv 3) Zac))) (Zaa (Za4 C29 (hr.mono (by decide)) (Zaa (pv 0) (Zaa (pv 3) Zac))) Zac)) rfl) (Zae (Zbz (Zat Zb3 (pv 4) Zaf (nomark _)) (Zai (Zex (i:=8) (j:=9) rfl sc_law_web.nd rfl rfl (by decide) rfl rfl (Zaa (Zav Zcd (pv 7) (pv 3)) (Zaa (Zav Zcd (Zav (addK K) (pv 7) Zaf) (pv 3)) Zac)) rfl)) Za0) (Zae (Zbz (Zat Zb3 (pv 4) Zaf (nomark _)) (Zai (Zaq (i:=8) sc_law_web.nd rfl (Or.inl rfl) Zaf)) Za0) (Zae (Zbz (Zat Zb3 (pv 4) Zaf (nomark _)) (Zai (Zaq (i:=9) sc_law_web.nd rfl (Or.inl rfl) (Zav (addK K) (Zav Zcd (pv 8) Zaf) (Zav Zc6 (Zav Zhf (pv 9) Zaf) Zaf)))) Za0) (Zae (Zbz (PW.pt (pw_and (Zat Zb3 (pv 4) Zaf (nomark _)) (pw_and1 (Zat Zb3 (Zav Zcd (pv 9) Zaf) Zaf (nomark _))))) (Zai (Zaq (i:=9) sc_law_web.nd rfl (Or.inl rfl) (pv 8))) Za0) (Zai (Zbv (bmK K PySem.F.plainAttrs_list PySem.F.slot_list_append PySem.F.type_list_append Zc1 (pv 6) (Zaa (Zb6 (Zaa (pv 8) (Zaa (Zaj (Zcx rfl) rfl (mb "min" (by decide)) Zff (Zaa (pv 9) (Zaa (Zav Zno (pv 3) Zaf) Zac))) Zac))) Zac)))))))))) (Zai (Zaz (Zb6 (Zaa (pv 3) (Zaa (Zcb (tupK K) rfl (mb "tuple" (by decide)) Zdc (Zaa (pv 6) Zac)) Zac))))))))))),Zmr (λps ds Post hf=>?_) h⟩;obtain⟨hp,a,b,rfl,h1,h2,h3,h4,q⟩:=hf;refine⟨by simp,?_⟩;dsimp only[cxOf,startD,Wbe,Wbh,Wa3,Wae];refine Zap (Zax (Zaw (Zar (Zc9 rfl rfl (Zab (Zad rfl (Zag (Zbm (m:=a) rfl rfl hp h1 (Int.le_trans h2 (by decide)) λr0 ps0 hp0 hr0 hs0=>Zdj ?_))))))));refine Zap (Zax (Zmp rfl rfl hp0 (by decide) (by decide) λway ps1 hp1 hw0 hw1=>?_));refine Zap (Zax (Zc9 rfl rfl (Zab (Zbn (Zbw (Zak rfl) Zay Zco) (Zag (Zbm (m:=b+1) rfl rfl hp1 (Int.add_le_add h3 (Wc6 1)) (Int.le_trans (Int.add_le_add h4 (Wc6 1)) (by decide)) λcnt ps2 hp2 hc0 hc1=>?_))))));refine Za8 (λΔ=>∃n k:Int,1<=n/\n<=a/\0<=k/\k<=b /\ Δ = [.bor (.lst ps2),.val (.int a),.val (.int b),.val (.int n),.val (.int way),.val (.int k),.any,.any,.any,.any]) ?_ ?_
 ·refine Zcf (Zdr rfl (λc=>iteT ?_) (λc=>iteF (Za3 ⟨1+r0,cnt,Int.le_add_of_nonneg_right hr0,by omega,hc0,Int.le_of_lt_add_one hc1,rfl⟩)))
  exact Zap (Zax (Zad rfl (Zax (Zad rfl ⟨a,b,h1,Wc6 _,h3,Wc6 _,rfl⟩))))
 rintro Δ1 ⟨n,k,hn0,hn1,hk0,hk1,rfl⟩;have hn2:0<n:=Int.lt_of_lt_of_le (by decide) hn0;have hn3:n≠0:=Int.ne_of_gt hn2;refine Zap (Zd8 (Zeb (Zag ⟨by decide,?_⟩)));refine Za8 (wL a b n way k k.toNat) ?_ ?_
 ·refine Zc7 (Za5 (Zab (Zad rfl (Zag ⟨_,rfl,by omega,by omega,?_⟩))))
  refine⟨wL a b n way k,⟨ps2,[],.any,.any,.any,hp2,rfl,λ_ h=>(nomatch h),rfl⟩,?_,λΔ2 h=>by rw[Za2]at h;exact h⟩;rintro i d Δ2 hd ⟨ps,ts,x7,x8,x9,hp',hl,ht,rfl⟩;obtain⟨hi,rfl⟩:=Zbd hd;generalize (0+(i:Int))=I;refine Zbt (Zap (Zc8 (Zab (Zc9 rfl rfl (Zab (Zad rfl (Zag (Zbm (m:=n) rfl rfl hp' hn0 (by omega) λx px hpx hx0 hx1=>?_))))))));refine Zab (Zc9 rfl rfl (Zab (Zad rfl (Zag (Zbm (m:=n) rfl rfl hpx hn0 (by omega) λy py hpy hy0 hy1=>Zag ⟨_,_,rfl,?_⟩)))));refine Za8 (wQ py a b n way k (ts.map encTie) I) ?_ ?_
  ·refine Zcf (Zdr rfl (λc=>iteT ?_) (λc=>iteF (Za3 ⟨x,y,hx0,hx1,hy0,hy1,rfl⟩)))
   exact Zc8 (Zcu (Zah (Zbw (Zak rfl) (Zak rfl) (pr_I hn2)) (Zah (Zbw (Zbw (Zak rfl) Zay Zco) (Zak rfl) (pr_I hn2)) Za1)) ⟨_,_,rfl,_,_,Wcj _ hn3,Wb7 _ hn2,Wcj _ hn3,Wb7 _ hn2,rfl⟩)
  rintro Δ3 ⟨u,v,hu0,hu1,hv0,hv1,rfl⟩;refine Za8 (wQ py a b n way k (ts.map encTie) I) ?_ ?_
  ·exact Zcf (Zdr rfl (λc=>iteT (Zax (Zar ⟨0,v,Wc6 _,hn2,hv0,hv1,rfl⟩))) (λc=>iteF (Za3 ⟨u,v,hu0,hu1,hv0,hv1,rfl⟩)))
  rintro Δ3 ⟨u,v,hu0,hu1,hv0,hv1,rfl⟩;refine Za8 (wR py a b n way k (ts.map encTie) I) ?_ ?_
  ·refine Zcf (Zdr rfl (λc=>iteT ?_) (λc=>iteF (Za3 ⟨u,v,hu0,hu1,hv0,rfl⟩)))
   exact Zax (Zbn (Zbw (Zbw (Zak rfl) Zay (pr_I (show (0:Int)<2 by decide))) (Zbw (Zbw (Zak rfl) Zay (pr_I ⟨by decide,by decide⟩)) Zay (pr_I (Or.inr ⟨by decide,by decide⟩))) Zco) ⟨u,_,hu0,hu1,by omega,rfl⟩)
  rintro Δ3 ⟨u,v,hu0,hu1,hv0,rfl⟩;refine Za8 (wR py a b n way k (ts.map encTie) I) ?_ ?_
  ·refine Zcf (Znd (Zdr rfl (λc=>iteT ?_) (λc=>iteF (iteF (Za3 ⟨u,v,hu0,hu1,hv0,rfl⟩)))))
   refine Za6 (Zaw (Zbn (Zbw (Zak rfl) Zay (pr_I (show (0:Int)<2 by decide))) (Zar (Zgt ⟨_,rfl,ite2 (λc=>?_) (λc=>Za3 ⟨u,v,hu0,hu1,hv0,rfl⟩)⟩))));exact Zax (Zad rfl ⟨u,u,hu0,hu1,hu0,rfl⟩)
  rintro Δ3 ⟨u,v,hu0,hu1,hv0,rfl⟩;refine Zjj rfl rfl (Zdo (Zab (Zad rfl (Zab (Zbx (Zab (Zad rfl (Zab (Zbn (Zbw (Zak rfl) Zay Zqo) (Zag (Zdi (Zag ?_))))))))))));refine⟨Zj4,_,_,rfl,rfl,?_,py,ts++[(u,if n-1<v then n-1 else v)],.val (.int I),.val (.int u),.val (.int v),hpy,by rw[Wap,hl];rfl,λt h=>?_,?_⟩
  ·rw[Wab];exact small1000 (by omega)
  ·rcases Wbj.mp h with h|h
   ·exact ht t h
   ·rw[Was.mp h]
    refine⟨hu0,hu1,?_,?_⟩
    ·show 0<=(if n-1<v then n-1 else v);split <;> omega
    ·show (if n-1<v then n-1 else v)<n;split <;> omega
  ·rw[Wa6];rfl
 rintro Δ1 ⟨ps3,ts,x7,x8,x9,hp3,hl,ht,rfl⟩;refine Zbo (Zdo (Zab (Zad rfl (Zab (Zbx (Zab (Zhr rfl (Zag (Zec (Or.inl rfl) (Zag ⟨Zj4,?_⟩))))))))));exact⟨_,rfl,q n ts _ hp3 ⟨hn0,by omega,by omega,ht⟩ hn1 (by omega)⟩
end
def placeAt (ts:List (Int × Int)) (e:Nat):Int:=match ts[e / 2]? with
 |some t=>if e % 2=0 then t.1 else t.2
 |none=>-1
def encRow (r:List Int):D:=.tup (r.map .int)
def encOrd (o:List (List Int)):D:=.tup (o.map encRow)
def endsBelow (ts:List (Int × Int)) (m:Nat) (p:Int):List Int:=((Waz m).filter λe=>decide (placeAt ts e=p)).map λe:Nat=>(e:Int)
structure RowOk (ts:List (Int × Int)) (m:Nat) (p:Int) (r:List Int):Prop where
 perm:r.Perm (endsBelow ts m p)
 first:r.head?=(endsBelow ts m p).head?
structure OrdOk (n:Int) (ts:List (Int × Int)) (o:List (List Int)):Prop where
 len:(o.length:Int)=n
 row:∀(p:Nat) r,o[p]?=some r->RowOk ts (2*ts.length) (p:Int) r
theorem Zdh (ts:List (Int × Int)) (k:Nat) (p:Int):endsBelow ts (k+1) p=endsBelow ts k p++(if placeAt ts k=p then [(k:Int)] else []):=by
 unfold endsBelow;rw[List.range_succ,Wbr,Wa6];congr 1;by_cases h:placeAt ts k=p
 ·simp[Wbn,h]
 ·simp[Wbn,h]
theorem Zfy (ts:List (Int × Int)) (m:Nat) (p:Int):(endsBelow ts m p).length<=m:=by
 unfold endsBelow;rw[Wab];exact Wbi (Wcz _ _) (by rw[Wbv];exact Waj _)
theorem RowOk.len {ts:List (Int × Int)}{m:Nat}{p:Int}{r:List Int}(h:RowOk ts m p r):r.length<=m:=by rw[h.perm.length_eq];exact Zfy ts m p
theorem RowOk.stay {ts:List (Int × Int)}{k:Nat}{p:Int}{r:List Int}(h:RowOk ts k p r) (hp:placeAt ts k≠p):RowOk ts (k+1) p r:=by
 have e:=Zdh ts k p;rw[if_neg hp,Wbc]at e;exact⟨by rw[e];exact h.perm,by rw[e];exact h.first⟩
theorem RowOk.put {ts:List (Int × Int)}{k j:Nat}{p:Int}{r:List Int}(h:RowOk ts k p r) (hp:placeAt ts k=p) (hj:j<=r.length) (h1:r≠[]->1<=j):RowOk ts (k+1) p (r.take j++(k:Int)::r.drop j):=by
 have e:=Zdh ts k p;rw[if_pos hp]at e;refine⟨?_,?_⟩
 ·rw[e]
  refine List.perm_middle.trans ?_;rw[List.take_append_drop];exact(List.Perm.cons _ h.perm).trans (List.perm_append_singleton _ _).symm
 ·rw[e]
  cases r with
  |nil=>
   have z:endsBelow ts k p=[]:=List.Perm.eq_nil h.perm.symm;rw[z];have:j=0:=by simpa using hj
   subst this;rfl
  |cons x r'=>
   have h2:=h1 (by simp);obtain⟨j',rfl⟩:∃j',j=j'+1:=⟨j-1,by omega⟩;have h3:=h.first;show some x=_;cases q:endsBelow ts k p with
   |nil=>rw[q]at h3;cases h3
   |cons y l=>rw[q]at h3;exact h3
theorem Znj {ts:List (Int × Int)}{k:Nat}(h:k<2*ts.length):∃t,ts[k / 2]?=some t/\atI (ts.map encTie) ((0+(k:Int)) / 2)=some (encTie t)/\atI [D.int t.1,D.int t.2] ((0+(k:Int)) % 2)=some (.int (placeAt ts k)):=by
 have hk:k / 2<ts.length:=by omega
 refine⟨ts[k / 2],Waa hk,?_,?_⟩
 ·have e:(0+(k:Int)) / 2=((k / 2:Nat):Int):=by omega
  rw[e];exact Zby (by rw[Waf,Waa hk];rfl)
 ·have e2:placeAt ts k=if k % 2=0 then ts[k / 2].1 else ts[k / 2].2:=by
   unfold placeAt;rw[Waa hk]
  rw[e2];have e:(0+(k:Int)) % 2=((k % 2:Nat):Int):=by omega
  rw[e];by_cases h0:k % 2=0
  ·rw[if_pos h0,h0];exact Zby rfl
  ·have h1:k % 2=1:=by omega
   rw[if_neg h0,h1];exact Zby rfl
theorem Zdq {n:Int}{ts:List (Int × Int)}(hW:WebOk n ts) {k:Nat}(h:k<2*ts.length):0<=placeAt ts k/\placeAt ts k<n:=by
 have hk:k / 2<ts.length:=by omega
 have:=hW.tie _ (Wba hk);unfold placeAt;rw[Waa hk];dsimp only;split <;> omega
def fOrder:BSp:=λps ds Post=>Pen ps/\∃n ts,ds=[encWeb n ts]/\WebOk n ts/\∀o ps',Pen ps' -> OrdOk n ts o->Post (encOrd o) ps'
theorem Zl4 {Δ1:Evt}{i:Nat}{y:L2.Slot}{ps:List D}{n:Int}{ts:List (Int × Int)}{P:D->Evt->Prop}(hx:Δ1[i]?=some y) (ho:y.od=some (.lst ps)) (hp:Pen ps) (hW:WebOk n ts) (h:∀o ps',Pen ps' -> OrdOk n ts o->P (encOrd o) (Δ1.set i (y.put (.lst ps')))) :
  LendQ fOrder i P [encWeb n ts] Δ1:=⟨y,ps,hx,ho,hp,n,ts,rfl,hW,h⟩
def oSt (ps:List D) (n:Int) (ts:List (Int × Int)) (cs:List (Addr × List Int)) (x3 x4:L2.Slot):Evt:=.bor (.lst ps)::.val (encWeb n ts)::.val (.lst (cs.map λc=>D.adr c.1))::x3::x4::(cs.map (λc=>L2.Slot.ownA c.1 (.lst (c.2.map D.int)))++Wae (25-n.toNat) .any)
def oP (n:Int) (ts:List (Int × Int)) (k:Nat):Evt->Prop:=λΔ=>∃(ps:List D) (cs:List (Addr × List Int)) (x3 x4:L2.Slot),Pen ps/\cs.length=n.toNat/\(∀(p:Nat) c,cs[p]?=some c->RowOk ts k (p:Int) c.2) /\ Δ = oSt ps n ts cs x3 x4
theorem Zlk {n:Int}{ts:List (Int × Int)}{ps:List D}{as:List Addr}(hn2:n<=25) (hal:as.length=(Wbh (λ_=>OD.lst []) ((rngD 0 n.toNat).filter λ_=>true)).length):∃cs:List (Addr × List Int),cs.length=n.toNat/\(∀(p:Nat) c,cs[p]?=some c->c.2=[]) ∧
  L2.putN 5 (as.zip (Wbh (λ_=>OD.lst []) ((rngD 0 n.toNat).filter λ_=>true))) ([.bor (.lst ps),.val (encWeb n ts),.val (.lst (as.map D.adr)),.any,.any]++Wae 25 .any)=oSt ps n ts cs .any .any:=by
 have eR:(rngD 0 n.toNat).filter (λ_=>true)=rngD 0 n.toNat:=by simp
 rw[eR,Wab,Za2]at hal;have eO:(rngD 0 n.toNat).map (λ_=>OD.lst [])=Wae n.toNat (OD.lst []):=by
  rw[List.map_const',Za2]
 rw[eR,eO];generalize hcs:as.map (λa=>((a,[]):Addr × List Int))=cs;have hcl:cs.length=n.toNat:=by rw[<- hcs,Wab,hal]
 have e1:as.map D.adr=cs.map λc=>D.adr c.1:=by rw[<- hcs,Wa1];rfl
 have e2:as.zip (Wae n.toNat (OD.lst []))=cs.map λc=>(c.1,OD.lst (c.2.map D.int)):=by
  rw[<- hcs,Wa1,<- hal];clear e1 hcl hcs hal
  induction as with
  |nil=>rfl
  |cons a r ih=>rw[Wam,Wc3,Wby,ih];rfl
 have e3:=Zln (cs.map λc=>(c.1,OD.lst (c.2.map D.int))) [.bor (.lst ps),.val (encWeb n ts),.val (.lst (cs.map λc=>D.adr c.1)),.any,.any] [] 25 (by rw[Wab];omega);rw[Wbc,Wbc,Wa1,Wab,hcl]at e3;refine⟨cs,hcl,λp c hc=>?_,by rw[e1,e2];exact e3⟩;rw[<- hcs,Waf]at hc;cases q:as[p]? with
 |none=>rw[q]at hc;cases hc
 |some a=>rw[q]at hc;cases hc;rfl
theorem Zp9 {ps:List D}{n:Int}{ts:List (Int × Int)}{cs:List (Addr × List Int)}{x3 x4:L2.Slot}{p:Nat}{c:Addr × List Int}(h:cs[p]?=some c):(oSt ps n ts cs x3 x4)[p+5]?=some (.ownA c.1 (.lst (c.2.map D.int))):=by
 show (cs.map (λc=>L2.Slot.ownA c.1 (.lst (c.2.map D.int)))++Wae (25-n.toNat) .any)[p]?=_;rw[Way (by rw[Wab];exact(Wag.mp h).1),Waf,h];rfl
theorem Zpc {ps ps':List D}{n:Int}{ts:List (Int × Int)}{cs:List (Addr × List Int)}{x3 x4:L2.Slot}{p:Nat}{c:Addr × List Int}{r:List Int}{v:L2.Slot}(h:cs[p]?=some c) (hv:v=.ownA c.1 (.lst (r.map D.int))):(oSt ps n ts cs x3 x4).set (p+5) v=oSt ps n ts (cs.set p (c.1,r)) x3 x4:=by
 have hp:=(Wag.mp h).1;have ea:(cs.set p (c.1,r)).map (λc=>D.adr c.1)=cs.map λc=>D.adr c.1:=by
  rw[List.map_set];apply Wbw;intro i;by_cases hii:i=p
  ·subst hii
   rw[Wak (by rw[Wab];exact hp),Waf,h];rfl
  ·rw[Wal (Ne.symm hii)]
 unfold oSt;rw[ea,List.map_set,hv,<- List.set_append_left _ _ (by rw[Wab];exact hp)];rfl
section
variable {P:Program}{w:World}{K:W.Frag}{mg:Str->Option Value}{base:Heap}{f:Addr}{fd:FuncData}
theorem Zm4 (mb:Mb mg) (C29:Callee P w K mg base 1 "_law_draw" ["_law_pen_here","_law_many"] (spB K fDraw)) (F:Fun K "_law_order" "_law_order" s_law_order f fd):FnOk P w K mg base CX0 2 f fd ["_law_pen_here","_law_web_here"] (spB K fOrder):=by
 refine F.ok sc_law_order (Zgj λps ds Post h=>by obtain⟨_,n,ts,rfl,_⟩:=h;rfl) (λcdv A outer s H vs Q E hr h=>?_);have hu:=Zbs hr;refine⟨_,(Zae (Zlr 5 (show ∀x∈(["_law_pen_here","_law_web_here","_law_rows","_law_k","_law_row","!0","!1","!2","!3","!4","!5","!6","!7","!8","!9","!10","!11","!12","!13","!14","!15","!16","!17","!18","!19","!20","!21","!22","!23","!24"]:List Str).drop 5,(defScope s_law_order).names.lookup x=none from by decide +kernel) (Zgi (i:=2) ["_law_place"] (show CompSc (defScope s_law_order) ["_law_pen_here","_law_web_here","_law_rows","_law_k","_law_row","!0","!1","!2","!3","!4","!5","!6","!7","!8","!9","!10","!11","!12","!13","!14","!15","!16","!17","!18","!19","!20","!21","!22","!23","!24"] _ [] [] from ⟨rfl,by decide +kernel,by decide +kernel,by decide +kernel,rfl,by decide +kernel⟩) rfl sc_law_order.nd rfl (Or.inl rfl) (Za7 rfl (mb "range" (by decide)) (Zaa (Zam (ixK K hu) (pv 1) Zaf (λ_ _=>rfl)) Zac)) (λ_ _ _ _ _=>(Zas (i:=0) (show List.Nodup (["_law_place"]:List Str) from by decide) rfl (Or.inl rfl))) (λ_ _ _ _ _=>Zb8) (λ_ _ _ _ _=>(Zbg Zac)))) (Zae (Zc2 PassesOwn.never rfl (Za7 rfl (mb "range" (by decide)) (Zaa (Zav Zc6 Zaf (Zaj (lenK K) rfl (mb "len" (by decide)) Zbr (Zaa (Zam (ixK K hu) (pv 1) Zaf (λ_ _=>rfl)) Zac))) Zac)) (Zas (i:=3) sc_law_order.nd rfl (Or.inl rfl)) (Zae (Zaq (i:=4) sc_law_order.nd rfl (Or.inl rfl) (Zam (ixK K hu) (pv 2) (Zam (ixK K hu) (Zam (ixK K hu) (Zam (ixK K hu) (pv 1) Zaf (λ_ _=>rfl)) (Zav Zhf (pv 3) Zaf) (λ_ _=>rfl)) (Zav Zcd (pv 3) Zaf) (λ_ _=>rfl)) (λ_ _=>rfl))) (Zai (Zbv (bmK K PySem.F.plainAttrs_list PySem.F.slot_list_insert PySem.F.type_list_insert Zg7 (pv 4) (Zaa (Zaj (Zcx rfl) rfl (mb "min" (by decide)) Zff (Zaa (Zaj (lenK K) rfl (mb "len" (by decide)) Zbr (Zaa (pv 4) Zac)) (Zaa (Zav (addK K) Zaf (Za4 C29 (hr.mono (by decide)) (Zaa (pv 0) (Zaa (Zaj (Zdn rfl) rfl (mb "max" (by decide)) Zic (Zaa Zaf (Zaa (Zaj (lenK K) rfl (mb "len" (by decide)) Zbr (Zaa (pv 4) Zac)) Zac))) Zac)))) Zac))) (Zaa (pv 3) Zac))))))) (Zai (Zaz (Zcb (tupK K) rfl (mb "tuple" (by decide)) Zdc (Zaa (Zb1 ["_law_row"] (show CompSc (defScope s_law_order) ["_law_pen_here","_law_web_here","_law_rows","_law_k","_law_row","!0","!1","!2","!3","!4","!5","!6","!7","!8","!9","!10","!11","!12","!13","!14","!15","!16","!17","!18","!19","!20","!21","!22","!23","!24"] _ [] [] from ⟨rfl,by decide +kernel,by decide +kernel,by decide +kernel,rfl,by decide +kernel⟩) rfl (seqK K (pv 2)) (λ_ _ _ _ _=>(Zas (i:=0) (show List.Nodup (["_law_row"]:List Str) from by decide) rfl (Or.inl rfl))) (λ_ _ _ _ _=>Zb8) (λ_ _ _ _ _=>(Zcb (tupK K) rfl (mb "tuple" (by decide)) Zdc (Zaa (pv 0) Zac)))) Zac)))))),Zmr (λps ds Post hf=>?_) h⟩;obtain⟨hp,n,ts,rfl,hW,q⟩:=hf;refine⟨by simp,?_⟩;dsimp only[cxOf,startD,Wbe,Wbh,Wa3];have hn:=hW.lo;have hn2:=hW.hi;have hts:=hW.len
 -- the rows
 refine Zap (Zpf (Zml (by decide) (Za5 ?_)));refine Zab (Zaw (Zad rfl (Zar (Zb0 (d:=.int n) rfl (Zag ⟨n,rfl,by omega,by omega,?_⟩)))));refine⟨by rw[Za2];exact small1000 (by omega),λ_=>true,λ_=>.lst [],λi d hd=>?_,by decide,?_,λas hal hnd=>?_⟩
 ·exact Zb5 ⟨rfl,Zeb (Zag ⟨by decide,rfl,_,rfl⟩)⟩
 ·rw[Wab]
  have e:((rngD 0 n.toNat).filter λ_=>true).length<=25:=Wbi (Wcz _ _) (by rw[Za2];omega);show 5+_<=30;omega
 obtain⟨cs,hcl,hce,e⟩:=Zlk (ps:=ps) (ts:=ts) hn2 hal;refine Eq.mpr (congrArg (λΔ=>JS K _ Δ _) e) ?_
 -- the loop
 refine Za8 (oP n ts (2*ts.length)) ?_ ?_
 ·refine Zc7 (Za5 (Zab (Zbn (Zbw Zay (Zgg (Zbu (ds:=[.int n,.tup (ts.map encTie)]) rfl rfl)) (pr_I (Or.inl ⟨by decide,by decide⟩))) (Zag ⟨_,rfl,?_,?_,?_⟩))))
  ·rw[Wab];omega
  ·rw[Wab];omega
  have eL:((2:Int)*((ts.map encTie).length:Int)).toNat=2*ts.length:=by rw[Wab];omega
  refine⟨oP n ts,⟨ps,cs,.any,.any,hp,hcl,λp c hc=>by rw[hce p c hc];exact⟨List.Perm.refl _,rfl⟩,rfl⟩,?_,λΔ h=>by rw[Za2,eL]at h;exact h⟩
  ·rintro k d Δ2 hd ⟨ps,cs,x3,x4,hp,hcl,hrow,rfl⟩
   rw[eL]at hd;obtain⟨hk,rfl⟩:=Zbd hd;obtain⟨t,ht1,ht2,ht3⟩:=Znj hk;obtain⟨pl0,pl1⟩:=Zdq hW hk;obtain⟨c,hc1,hc2⟩:=Zk3 (f:=λc:Addr × List Int=>D.adr c.1) (xs:=cs) (i:=placeAt ts k) pl0 (by omega);have hR:=hrow _ c hc1;have hRl:=hR.len;have ep:((placeAt ts k).toNat:Int)=placeAt ts k:=Wb6 pl0;have hsl:∀(ps:List D) (x3 x4:L2.Slot),(oSt ps n ts cs x3 x4)[(placeAt ts k).toNat+5]?=some (.ownA c.1 (.lst (c.2.map D.int))):=λps x3 x4=>Zp9 hc1;have hlen:(c.2.map D.int).length=c.2.length:=Wab _;refine Zbt (Zap (Zax (Zbn (Zcy (d:=.adr c.1) (Zak rfl) (Zij (Zij (Zbu (d:=.tup (ts.map encTie)) rfl rfl) (Zbw (Zak rfl) Zay (pr_I ⟨by decide,by decide⟩)) ht2) (Zbw (Zak rfl) Zay (pr_I (by show (0:Int)<2;decide))) ht3) hc2) ?_)));refine Zo6 (a:=c.1) rfl (hsl ps _ _) ?_;refine Zbx (Zab (Zj6 rfl (hsl ps _ _) (Zab (Zaw (Zar (Zc9 rfl rfl (Zab (Zbx (Zab (Zar (Zab (Zj6 rfl (hsl ps _ _) (Zag (Zdi (Zag ?_)))))))))))))));refine Zbm rfl rfl hp (by split <;> omega) (by split <;> omega) λr ps' hp' hr0 hr1=>?_
   refine Zdj (Zag (Zdi (Zad rfl ⟨_,_,_,rfl,hsl ps' _ _,by rw[hlen];exact small1000 (by omega),by split <;> omega,by split <;> omega,?_⟩)))
   generalize hi:insI (c.2.map D.int).length (if 1+r<((c.2.map D.int).length:Int) then 1+r else ((c.2.map D.int).length:Int))=j;have hj:j<=c.2.length/\(c.2≠[]->1<=j):=by
    rw[<- hi,hlen];unfold insI;refine⟨?_,λh=>?_⟩
    ·split <;> split <;> omega
    ·have:=List.length_pos_iff.mpr h
     split <;> split <;> omega
   refine⟨ps',cs.set (placeAt ts k).toNat (c.1,c.2.take j++(k:Int)::c.2.drop j),.val (.int (0+(k:Int))),.val (.adr c.1),hp',by rw[Wce];exact hcl,λp c' hc'=>?_,Zpc (ps:=ps') (ps':=ps') hc1 ?_⟩
   ·by_cases hpp:p=(placeAt ts k).toNat
    ·subst hpp
     rw[Wak (by omega)]at hc';cases hc';exact hR.put (by omega) hj.1 hj.2
    ·rw[Wal (Ne.symm hpp)]at hc'
     exact(hrow p c' hc').stay (by omega)
   ·rw[Wa6,List.map_take,Wbf,List.map_drop,Wbq]
 -- the end
 rintro Δ1 ⟨ps3,cs3,x3,x4,hp3,hcl3,hrow3,rfl⟩;refine JS.conv (Δ':=.bor (.lst ps3)::.val (encWeb n ts)::.val (.lst (cs3.map λc=>D.lst (c.2.map D.int)))::x3::x4::(Wae cs3.length .any++Wae (25-n.toNat) .any)) (λg G H σ k=>?_) ?_
 ·have:=Ok.thaw (cs:=cs3.map λc=>(c.1,c.2.map D.int)) (R:=[.bor (.lst ps3),.val (encWeb n ts),.val (.lst (cs3.map λc=>D.adr c.1)),x3,x4]) (T:=Wae (25-n.toNat) .any) (i:=2) (g:=g) (G:=G) (H:=H) (σ:=σ) (K:=K) (by rw[Wa1];exact k) (by rw[Wa1];rfl)
  rw[Wa1,Wab]at this;exact this
 refine Zbo (Zbx (Zab (Zbp (by decide) (Zdw (Zad rfl ⟨_,Or.inl rfl,?_,λ_=>true,λd=>match d with|.lst ds=>.tup ds|d=>d,λi d hd=>?_,?_⟩)))))
 ·rw[Wab];exact small1000 (by omega)
 ·rw[Waf]at hd
  cases q:cs3[i]? with
  |none=>rw[q]at hd;cases hd
  |some c=>
   rw[q]at hd;have hd:D.lst (c.2.map D.int)=d:=by simpa using hd
   subst hd;exact Zb5 ⟨rfl,Zbx (Zab (Zad rfl (Zag (Zec (Or.inl rfl) ⟨rfl,_,rfl⟩))))⟩
 ·refine Zag (Zec (Or.inl rfl) ⟨ps3,rfl,?_⟩)
  have e:((cs3.map λc=>D.lst (c.2.map D.int)).filter λ_=>true).map (λd=>match d with|.lst ds=>D.tup ds|d=>d)=(cs3.map (·.2)).map encRow:=by
   rw[Wb5.mpr (by simp),Wa1,Wa1];rfl
  rw[e];exact q _ _ hp3 ⟨by rw[Wab];omega,λp r hr=>by
   rw[Waf]at hr;cases z:cs3[p]? with
   |none=>rw[z]at hr;cases hr
   |some c=>rw[z]at hr;cases hr;exact hrow3 p c z⟩
end
def nextIn (r:List Int) (x:Int):Int:=r.getD ((r.idxOf x+1) % r.length) 0
def rowAt (ts:List (Int × Int)) (o:List (List Int)) (e:Nat):List Int:=o.getD (placeAt ts e).toNat []
def partner (e:Nat):Nat:=if e % 2=0 then e+1 else e-1
theorem Zi1 {e m:Nat}(h:e<2*m):partner e<2*m:=by unfold partner;split <;> omega
theorem Zgc {ts:List (Int × Int)}{m:Nat}{p x:Int}:x∈endsBelow ts m p ↔ ∃e:Nat,e<m/\placeAt ts e=p/\(e:Int)=x:=by
 unfold endsBelow;rw[Wbm];constructor
 ·rintro⟨e,he,rfl⟩
  rw[Wbp,Wca]at he;exact⟨e,he.1,of_decide_eq_true he.2,rfl⟩
 ·rintro⟨e,h1,h2,rfl⟩
  exact⟨e,by rw[Wbp,Wca];exact⟨h1,decide_eq_true h2⟩,rfl⟩
theorem Zen (ts:List (Int × Int)) (m:Nat) (p:Int):(endsBelow ts m p).Nodup:=by
 unfold endsBelow;refine List.Pairwise.map _ (λa b h=>?_) (List.Pairwise.filter _ List.nodup_range);intro e;exact h (by omega)
theorem RowOk.nodup {ts:List (Int × Int)}{m:Nat}{p:Int}{r:List Int}(h:RowOk ts m p r):r.Nodup:=h.perm.nodup_iff.mpr (Zen ts m p)
theorem RowOk.mem {ts:List (Int × Int)}{m:Nat}{p x:Int}{r:List Int}(h:RowOk ts m p r):x∈r ↔ ∃e:Nat,e<m/\placeAt ts e=p/\(e:Int)=x:=h.perm.mem_iff.trans Zgc
theorem Zdz {n:Int}{ts:List (Int × Int)}{o:List (List Int)}(hW:WebOk n ts) (hO:OrdOk n ts o) {e:Nat}(he:e<2*ts.length) :
  o[(placeAt ts e).toNat]?=some (rowAt ts o e)/\RowOk ts (2*ts.length) (placeAt ts e) (rowAt ts o e)/\(e:Int)∈rowAt ts o e:=by
 obtain⟨p0,p1⟩:=Zdq hW he;have hl:=hO.len;have hk:(placeAt ts e).toNat<o.length:=by omega
 have q:o[(placeAt ts e).toNat]?=some (rowAt ts o e):=by
  unfold rowAt;rw[Waa hk,Wad,Waa hk];rfl
 have r:=hO.row _ _ q;rw[show ((placeAt ts e).toNat:Int)=placeAt ts e by omega]at r;exact⟨q,r,r.mem.mpr ⟨e,he,rfl,rfl⟩⟩
theorem Zcq {r:List Int}{x:Int}(h:x∈r):r.idxOf x<r.length/\r[r.idxOf x]?=some x/\∀m,m<r.idxOf x->r[m]?≠some x:=by
 have hl:=List.idxOf_lt_length_of_mem h;refine⟨hl,?_,λm hm e=>?_⟩
 ·rw[Waa hl,List.getElem_idxOf hl]
 ·obtain⟨h1,h2⟩:=Wag.mp e
  have:=List.not_of_lt_findIdx (p:=(· == x)) (xs:=r) hm;rw[h2]at this;simp at this
theorem Zrf (k:Nat):k ||| 1=2*(k / 2)+1:=by
 apply Nat.eq_of_testBit_eq;intro i;rw[Nat.testBit_or];cases i with
 |zero=>rw[Nat.testBit_zero,Nat.testBit_zero,Nat.testBit_zero];simp
 |succ i=>
  rw[Nat.testBit_succ,Nat.testBit_succ,Nat.testBit_succ,show (2*(k / 2)+1) / 2=k / 2 by omega];simp
theorem Zjs (k:Nat):Builtin.bitXor (k:Int) 1=(partner k:Int):=by
 have e1:Builtin.bitAnd (k:Int) 1=((k % 2:Nat):Int):=by
  unfold Builtin.bitAnd;rw[decide_eq_true (show (0:Int)<=(k:Int) by omega),decide_eq_true (show (0:Int)<=1 by decide)];show ((((k:Int).toNat &&& (1:Int).toNat:Nat)):Int)=_;rw[Waw,show (1:Int).toNat=1 from rfl,Nat.and_one_is_mod]
 have e2:Builtin.bitOr (k:Int) 1=((2*(k / 2)+1:Nat):Int):=by
  unfold Builtin.bitOr Builtin.bitAnd;rw[decide_eq_false (show ¬ (0:Int)<=Builtin.bitNot (k:Int) by unfold Builtin.bitNot;omega),decide_eq_false (show ¬ (0:Int)<=Builtin.bitNot 1 by decide)];show Builtin.bitNot (Builtin.bitNot (((Builtin.bitNot (Builtin.bitNot (k:Int))).toNat ||| (Builtin.bitNot (Builtin.bitNot 1)).toNat:Nat):Int))=_;have n1:∀x:Int,Builtin.bitNot (Builtin.bitNot x)=x:=λx=>by unfold Builtin.bitNot;omega
  rw[n1,n1,n1,Waw,show (1:Int).toNat=1 from rfl,Zrf]
 unfold Builtin.bitXor;rw[e1,e2];unfold partner;split <;> omega
theorem Zd1 {α:Type}[DecidableEq α]:∀{l m:List α},l.Nodup->(∀x∈l,x∈m)->l.length<=m.length
 |[],_,_,_=>Wb8 _
 |x::l,m,nd,h=>by
  rw[Wb1]at nd;have hx:=h x Wa8;have:=Zd1 (l:=l) (m:=m.erase x) nd.2 λy hy=>by
   have hne:y≠x:=λe=>nd.1 (e ▸ hy);exact(List.mem_erase_of_ne hne).mpr (h y (Wau _ hy))
  rw[List.length_erase_of_mem hx]at this;have hpos:0<m.length:=Wcy hx;rw[Wam];omega
theorem Zqx {l:List Int}(nd:l.Nodup) {j:Nat}{x:Int}(h:l[j]?=some x):l.idxOf x=j:=by
 obtain⟨h1,h2⟩:=Wag.mp h;obtain⟨i1,i2,_⟩:=Zcq (r:=l) (x:=x) (by rw[<- h2];exact Wba h1);obtain⟨i3,i4⟩:=Wag.mp i2;exact(Wdc nd).mp (i4.trans h2.symm)
section
variable {P:Program}{w:World}{K:W.Frag}{mg:Str->Option Value}{base:Heap}{f:Addr}{fd:FuncData}
def fPlace:DSp:=λds Post=>∃n ts,∃e:Nat,ds=[encWeb n ts,.int e]/\e<2*ts.length/\Post (.int (placeAt ts e))
def folOf (ts:List (Int × Int)) (o:List (List Int)) (e:Nat):Int:=nextIn (rowAt ts o e) e
def fFol:DSp:=λds Post=>∃n ts o,∃e:Nat,ds=[encWeb n ts,encOrd o,.int e]/\WebOk n ts/\OrdOk n ts o/\e<2*ts.length/\Post (.int (folOf ts o e))
theorem Zmx (mb:Mb mg) (F:Fun K "place_of" "place_of" s_place_of f fd):FnOk P w K mg base CX0 1 f fd ["web","end"] (spD K fPlace):=by
 refine F.ok sc_place_of (Zc3 λds Post h=>by obtain⟨_,_,_,rfl,_⟩:=h;rfl) (λcdv A outer s H vs Q E hr h=>?_);have hu:=Zbs hr;refine⟨_,(Zai (Zaz (Zam (ixK K hu) (Zam (ixK K hu) (Zam (ixK K hu) (pv 0) Zaf (λ_ _=>rfl)) (Zav Zhf (pv 1) Zaf) (λ_ _=>rfl)) (Zav Zcd (pv 1) Zaf) (λ_ _=>rfl)))),Zha (λds Post hf=>?_) h⟩;obtain⟨n,ts,e,rfl,he,q⟩:=hf;refine⟨by simp,?_⟩;dsimp only[startD,Wbe,Wbh,Wa3];obtain⟨t,h1,h2,h3⟩:=Znj he;rw[Wbq]at h2 h3;refine Zbo (Zaw (Zaw (Zaw (Zad rfl (Zar (Zb0 (d:=.tup (ts.map encTie)) rfl ?_))))));refine Zaw (Zad rfl (Zar (jr_I ⟨by omega,by omega⟩ (Zb0 h2 ?_))));exact Zaw (Zad rfl (Zar (jr_I (by show (0:Int)<2;omega) (Zb0 h3 q))))
theorem Zhe (mb:Mb mg) (C45:Callee P w K mg base 1 "place_of" ["web","end"] (spD K fPlace)) (F:Fun K "follower" "follower" s_follower f fd):FnOk P w K mg base CX0 2 f fd ["web","order","end"] (spD K fFol):=by
 refine F.ok sc_follower (Zc3 λds Post h=>by obtain⟨_,_,_,_,rfl,_⟩:=h;rfl) (λcdv A outer s H vs Q E hr h=>?_);have hu:=Zbs hr;refine⟨_,(Zae (Zaq (i:=3) sc_follower.nd rfl (Or.inl rfl) (Zam (ixK K hu) (pv 1) (Za4 C45 (hr.mono (by decide)) (Zaa (pv 0) (Zaa (pv 2) Zac))) (λ_ _=>rfl))) (Zai (Zaz (Zam (ixK K hu) (pv 3) (Zav Zcd (Zav (addK K) (bmK K PySem.F.plainAttrs_tuple PySem.F.slot_tuple_index PySem.F.type_tuple_index (idxK K) (pv 3) (Zaa (pv 2) Zac)) Zaf) (Zaj (lenK K) rfl (mb "len" (by decide)) Zbr (Zaa (pv 3) Zac))) (λ_ _=>rfl))))),Zha (λds Post hf=>?_) h⟩;obtain⟨n,ts,o,e,rfl,hW,hO,he,q⟩:=hf;refine⟨by simp,?_⟩;dsimp only[startD,Wbe,Wbh,Wa3];obtain⟨g1,g2,g3⟩:=Zdz hW hO he;obtain⟨p0,p1⟩:=Zdq hW he;obtain⟨i1,i2,i3⟩:=Zcq g3;have hat:atI (o.map encRow) (placeAt ts e)=some (encRow (rowAt ts o e)):=by
  have ep:placeAt ts e=(((placeAt ts e).toNat:Nat):Int):=by omega
  rw[ep];exact Zby (by rw[Waf,g1];rfl)
 refine Zap (Zax (Zaw (Zad rfl (Zbf (Zab (Zad rfl (Zab (Zad rfl (Zag ⟨n,ts,e,rfl,he,Zb0 hat ?_⟩)))))))));refine Zbo (Zaw (Zad rfl (Zaw (Zaw (Zim (Zad rfl ⟨rowAt ts o e,rfl,Zad rfl ⟨e,(rowAt ts o e).idxOf (e:Int),rfl,i2,i3,?_⟩⟩))))));refine Zar (Zdj ?_);refine Zbx (Zab (Zad rfl (Zag (Zcw (Or.inr rfl) ?_))));rw[Wab];refine jr_I (by show (0:Int)<_;omega) ?_;have e1:(((rowAt ts o e).idxOf (e:Int):Int)+1) % ((rowAt ts o e).length:Int)=((((rowAt ts o e).idxOf (e:Int)+1) % (rowAt ts o e).length:Nat):Int):=by push_cast;rfl
 rw[e1];have hm:((rowAt ts o e).idxOf (e:Int)+1) % (rowAt ts o e).length<(rowAt ts o e).length:=Wda _ (by omega);refine Zb0 (d:=.int (folOf ts o e)) (Zby ?_) q;rw[Waf,Waa hm];unfold folOf nextIn;rw[Wad,Waa hm];rfl
theorem Zcz:2<=sizeLine:=by decide
end
def iter (f:Int->Int) (e:Int):Nat->Int
 |0=>e
 |n+1=>f (iter f e n)
def walkL (f:Int->Int) (e:Int) (n:Nat):List Int:=(Waz n).map (iter f e)
structure OneOne (f:Int->Int) (m:Nat):Prop where
 to:∀x,0<=x->x<(m:Int)->0<=f x/\f x<(m:Int)
 inj:∀x y,0<=x->x<(m:Int)->0<=y->y<(m:Int)->f x=f y->x=y
def NdTo (f:Int->Int) (e:Int) (n:Nat):Prop:=∀i j,i<n->j<n->iter f e i=iter f e j->i=j
structure IsOrb (f:Int->Int) (e:Int) (n:Nat):Prop where
 pos:0<n
 back:iter f e n=e
 nd:NdTo f e n
noncomputable def per (f:Int->Int) (e:Int):Nat:=Classical.epsilon (IsOrb f e)
noncomputable def orb (f:Int->Int) (e:Int):List Int:=walkL f e (per f e)
section
variable {f:Int->Int}{m:Nat}(F:OneOne f m) {e:Int}(h0:0<=e) (h1:e<(m:Int))
include F h0 h1
end
section
variable {f:Int->Int}{m:Nat}(F:OneOne f m)
include F
end
theorem Zlx {r:List Int}{x:Int}(h:x∈r):nextIn r x∈r:=by
 obtain⟨h1,_,_⟩:=Zcq h;have hm:(r.idxOf x+1) % r.length<r.length:=Wda _ (by omega);unfold nextIn;rw[Wad,Waa hm];exact Wba hm
theorem Zpe {n:Int}{ts:List (Int × Int)}{o:List (List Int)}(hW:WebOk n ts) (hO:OrdOk n ts o) {e:Nat}(he:e<2*ts.length):∃g:Nat,g<2*ts.length/\placeAt ts g=placeAt ts e/\(g:Int)=folOf ts o e:=by
 obtain⟨g1,g2,g3⟩:=Zdz hW hO he;exact g2.mem.mp (Zlx g3)
section
variable {P:Program}{w:World}{K:W.Frag}{mg:Str->Option Value}{base:Heap}{f:Addr}{fd:FuncData}
def intD:D->Int
 |.int i=>i
 |_=>0
theorem Zgp (n:Int) (ts:List (Int × Int)):atI [D.int n,D.tup (ts.map encTie)] 1=some (.tup (ts.map encTie)):=rfl
end
def addN (l:List Int) (x:Int):List Int:=if x∈l then l else l++[x]
def numT (p q:Int->Int) (j:Nat) (l:List Int):List Int:=addN (addN l (p (l.getD j 0))) (q (l.getD j 0))
def numGo (p q:Int->Int) (e:Int):Nat->List Int
 |0=>[e]
 |j+1=>numT p q j (numGo p q e j)
theorem Zdm {l:List Int}{x y:Int}(h:y∈l):y∈addN l x:=by unfold addN;split;exact h;exact Wb0 _ h
theorem Zku (l:List Int) (x:Int):x∈addN l x:=by unfold addN;split;assumption;simp
theorem Zid {l:List Int}{x y:Int}(h:y∈addN l x):y∈l\/y=x:=by
 unfold addN at h;split at h
 ·exact .inl h
 ·simpa using h
theorem Zk8 {l:List Int}{x:Int}(h:l.Nodup):(addN l x).Nodup:=by
 unfold addN;split
 ·exact h
 ·rename_i z
  rw[Wcu];exact⟨h,by simp,λa ha b hb e=>by rw[Was]at hb;subst hb;subst e;exact z ha⟩
theorem Zib {l:List Int}{x:Int}{i:Nat}(h:i<l.length):(addN l x).getD i 0=l.getD i 0/\i<(addN l x).length:=by
 unfold addN;split
 ·exact⟨rfl,h⟩
 ·rw[Wad,Way h,<- Wad,Wap]
  exact⟨rfl,by omega⟩
theorem Zm8 (l:List Int) (x:Int):(addN l x).length<=l.length+1:=by
 unfold addN;split
 ·omega
 ·rw[Wap,Wbz];exact Waj _
def stg (L:List Int) (a b:Int):Nat->List Int
 |0=>L
 |1=>addN L a
 |_=>addN (addN L a) b
structure NumI (p q:Int->Int) (m:Nat) (e:Int) (j:Nat) (l:List Int):Prop where
 nd:l.Nodup
 rg:∀x∈l,0<=x/\x<(m:Int)
 le:j<=l.length
 he:l.getD 0 0=e/\0<l.length
 cl:∀i,i<j->p (l.getD i 0)∈l/\q (l.getD i 0)∈l
section
variable {p q:Int->Int}{m:Nat}{e:Int}
theorem Zho {l:List Int}{i:Nat}(h:i<l.length):l.getD i 0∈l:=by
 rw[Wad,Waa h];exact Wba h
theorem Zfk {j:Nat}{l:List Int}(h:NumI p q m e j l):l.length<=m:=by
 have:=Zd1 (l:=l) (m:=(Waz m).map λi:Nat=>(i:Int)) h.nd λx hx=>by
  have:=h.rg x hx;exact Wbm.mpr ⟨x.toNat,Wca.mpr (by omega),by omega⟩
 rwa [Wab,Wbv]at this
theorem Zmf (h0:0<=e) (h1:e<(m:Int)):NumI p q m e 0 [e]:=⟨by simp,λx hx=>by rw[Was]at hx;subst hx;exact⟨h0,h1⟩,by simp,⟨rfl,by simp⟩,λi hi=>by omega⟩
theorem Zm1 (hp:∀x,0<=x->x<(m:Int)->0<=p x/\p x<(m:Int)) (hq:∀x,0<=x->x<(m:Int)->0<=q x/\q x<(m:Int)) {j:Nat}{l:List Int}(h:NumI p q m e j l) (hj:j<l.length):NumI p q m e (j+1) (numT p q j l):=by
 have hx:=h.rg _ (Zho hj);have keep:∀{i:Nat},i<l.length->(numT p q j l).getD i 0=l.getD i 0/\i<(numT p q j l).length:=λ{i} hi=>by
  have a1:=Zib (x:=p (l.getD j 0)) hi;have a2:=Zib (x:=q (l.getD j 0)) a1.2;exact⟨a2.1.trans a1.1,a2.2⟩
 refine⟨Zk8 (Zk8 h.nd),λx hx'=>?_,?_,?_,λi hi=>?_⟩
 ·rcases Zid hx' with z|z
  ·rcases Zid z with z|z
   ·exact h.rg x z
   ·rw[z];exact hp _ hx.1 hx.2
  ·rw[z];exact hq _ hx.1 hx.2
 ·have:=(keep hj).2;omega
 ·have:=keep h.he.2;exact⟨this.1.trans h.he.1,this.2⟩
 ·have:=keep (i:=i) (by omega)
  rw[this.1];by_cases c:i=j
  ·subst c;exact⟨Zdm (Zku _ _),Zku _ _⟩
  ·have:=h.cl i (by omega);exact⟨Zdm (Zdm this.1),Zdm (Zdm this.2)⟩
end
def NumAt (p q:Int->Int) (e:Int) (J:Nat):Prop:=(numGo p q e J).length=J/\∀i,i<J->i<(numGo p q e i).length
theorem Zl5 {p q:Int->Int}{e:Int}{J J':Nat}(h:NumAt p q e J) (h':NumAt p q e J'):J=J':=by
 rcases Wdb J J' with z|z|z
 ·have:=h'.2 J z;have:=h.1;omega
 ·exact z
 ·have:=h.2 J' z;have:=h'.1;omega
theorem Zfw {p q:Int->Int}{m:Nat}{e:Int}(hp:∀x,0<=x->x<(m:Int)->0<=p x/\p x<(m:Int)) (hq:∀x,0<=x->x<(m:Int)->0<=q x/\q x<(m:Int)) (h0:0<=e) (h1:e<(m:Int)) {J:Nat}(h:∀i,i<J->i<(numGo p q e i).length):NumI p q m e J (numGo p q e J):=by
 induction J with
 |zero=>exact Zmf h0 h1
 |succ J ih=>exact Zm1 hp hq (ih λi hi=>h i (by omega)) (h J (by omega))
def pI (x:Int):Int:=(partner x.toNat:Int)
noncomputable def fI (ts:List (Int × Int)) (o:List (List Int)) (x:Int):Int:=folOf ts o x.toNat
theorem Zmc {m:Nat}(x:Int) (h0:0<=x) (h1:x<((2*m:Nat):Int)):0<=pI x/\pI x<((2*m:Nat):Int):=by
 have:=Zi1 (show x.toNat<2*m by omega);unfold pI;omega
theorem Zl9 {n:Int}{ts:List (Int × Int)}{o:List (List Int)}(hW:WebOk n ts) (hO:OrdOk n ts o) (x:Int) (h0:0<=x) (h1:x<((2*ts.length:Nat):Int)):0<=fI ts o x/\fI ts o x<((2*ts.length:Nat):Int):=by
 obtain⟨g,hg,_,eg⟩:=Zpe hW hO (show x.toNat<2*ts.length by omega);unfold fI;omega
noncomputable def numF (ts:List (Int × Int)) (o:List (List Int)) (e:Nat) (J:Nat):List Int:=numGo pI (fI ts o) (e:Int) J
def fNum:NSp:=λds Post=>∃n ts o,∃e:Nat,ds=[encWeb n ts,encOrd o,.int e]/\WebOk n ts/\OrdOk n ts o/\e<2*ts.length/\∀J,NumAt pI (fI ts o) (e:Int) J->Post ((numF ts o e J).map .int)
def cdP (ts:List (Int × Int)) (o:List (List Int)) (l:List Int) (x:Int):D:=.tup [.int (l.idxOf (pI x):Nat),.int (l.idxOf (folOf ts o x.toNat):Nat)]
def fCodeBy:DSp:=λds Post=>∃n ts o,∃l:List Int,ds=[encWeb n ts,encOrd o,.lst (l.map .int)]/\WebOk n ts/\OrdOk n ts o/\l.length<=48/\(∀x∈l,0<=x/\x<((2*ts.length:Nat):Int)/\pI x∈l/\fI ts o x∈l)/\Post (.tup (l.map (cdP ts o l)))
section
variable {P:Program}{w:World}{K:W.Frag}{mg:Str->Option Value}{base:Heap}{f:Addr}{fd:FuncData}
theorem Zpm (l:List Int) (x:Int):(if (!decide (x∈l))=true then l.map D.int++[.int x] else l.map D.int)=(addN l x).map D.int:=by
 unfold addN;by_cases h:x∈l
 ·rw[decide_eq_true h,if_pos h];rfl
 ·rw[decide_eq_false h,if_neg h,Wa6];rfl
theorem Zog (mb:Mb mg) (C42:Callee P w K mg base 2 "follower" ["web","order","end"] (spD K fFol)) (F:Fun K "numbered_from" "numbered_from" s_numbered_from f fd):FnOk P w K mg base CX0 3 f fd ["web","order","end"] (spN K fNum):=by
 refine F.ok sc_numbered_from (Zew λds Post h=>by obtain⟨_,_,_,_,rfl,_⟩:=h;rfl) (λcdv A outer s H vs Q E hr h=>?_);have hu:=Zbs hr;refine⟨_,(Zae (Zaq (i:=3) sc_numbered_from.nd rfl (Or.inl rfl) (Zbg (Zaa (pv 2) Zac))) (Zae (Zaq (i:=4) sc_numbered_from.nd rfl (Or.inl rfl) Zaf) (Zae (Zlz PassesOwn.never (Zat Zoi (pv 4) (Zaj (lenK K) rfl (mb "len" (by decide)) Zbr (Zaa (pv 3) Zac)) (nomark _)) (Zae (Zc2 PassesOwn.never rfl (seqK K (Zb6 (Zaa (Zav Znc (Zam (ixK K hu) (pv 3) (pv 4) (λ_ _=>rfl)) Zaf) (Zaa (Za4 C42 (hr.mono (by decide)) (Zaa (pv 0) (Zaa (pv 1) (Zaa (Zam (ixK K hu) (pv 3) (pv 4) (λ_ _=>rfl)) Zac)))) Zac)))) (Zas (i:=5) sc_numbered_from.nd rfl (Or.inl rfl)) (Zai (Zbz (Zat (notinK K hu) (pv 5) (pv 3) rfl) (Zai (Zbv (bmK K PySem.F.plainAttrs_list PySem.F.slot_list_append PySem.F.type_list_append Zc1 (pv 3) (Zaa (pv 5) Zac)))) Za0))) (Zai (Zrp (i:=4) sc_numbered_from.nd rfl (Or.inl rfl) Zaf Zqe)))) (Zai (Zaz (pv 3)))))),Zla (λds Post hf=>?_) h⟩;obtain⟨n,ts,o,e,rfl,hW,hO,he,q⟩:=hf;refine⟨by simp,?_⟩;dsimp only[startD,Wbe,Wbh,Wa3,Wae];have hw:=hW.len;have hp:=λx=>Zmc (m:=ts.length) x;have hq:=Zl9 hW hO;refine Zap (Zd8 (Zeb (Zab (Zad rfl (Zag ⟨by show 1<=sizeLine;decide,?_⟩)))));refine Zap (Zax (Zar ?_));refine Za8 (λΔ=>∃(J:Nat) (x5:L2.Slot),NumAt pI (fI ts o) (e:Int) J /\ Δ = [.val (encWeb n ts),.val (encOrd o),.val (.int e),.own (.lst ((numF ts o e J).map .int)),.val (.int (J:Int)),x5]) ?_ ?_
 ·refine Zmi (fun μ Δ=>∃(j:Nat) (x5:L2.Slot),(∀i,i<j->i<(numF ts o e i).length) /\ μ = 2*ts.length-j /\ Δ = [.val (encWeb n ts),.val (encOrd o),.val (.int e),.own (.lst ((numF ts o e j).map .int)),.val (.int (j:Int)),x5]) ⟨_,0,_,λi hi=>by omega,rfl,rfl⟩ ?_
  rintro μ Δ1 ⟨j,x5,hj,rfl,rfl⟩;have I:NumI pI (fI ts o) (2*ts.length) (e:Int) j (numF ts o e j):=Zfw hp hq (show (0:Int)<=(e:Int) by omega) (show (e:Int)<((2*ts.length:Nat):Int) by omega) hj;have Il:=Zfk I;refine Za6 (Zaw (Zad rfl (Zf1 rfl rfl (Zhh ⟨_,rfl,?_⟩))));rw[Wab];by_cases c:j<(numF ts o e j).length
  ·rw[decide_eq_true (show (j:Int)<((numF ts o e j).length:Int) by omega)]
   have hx:=I.rg _ (Zho c);generalize hL:numF ts o e j=L at *;have at1:atI (L.map D.int) (j:Int)=some (.int (L.getD j 0)):=Zby (by rw[Waf,Wad,Waa c];rfl);obtain⟨x,ex⟩:∃x:Nat,L.getD j 0=(x:Int):=⟨(L.getD j 0).toNat,(Wb6 hx.1).symm⟩;rw[ex]at at1;have hxl:x<2*ts.length:=by omega
   refine iteT (Za8 (λΔ=>∃x5:L2.Slot,Δ = [.val (encWeb n ts),.val (encOrd o),.val (.int e),.own (.lst ((numF ts o e (j+1)).map .int)),.val (.int (j:Int)),x5]) ?_ ?_)
   ·refine Zc7 (Zhm (Zdo (Zab (Zaw (Zc4 rfl rfl (Zad rfl ⟨_,_,_,_,rfl,rfl,rfl,at1,Zar (Zmd ?_)⟩))))))
    rw[Zjs];refine Zab (Zbf (Zab (Zad rfl (Zab (Zad rfl (Zab (Zc4 rfl rfl (Zad rfl ⟨_,_,_,_,rfl,rfl,rfl,at1,Zag ⟨n,ts,o,x,rfl,hW,hO,hxl,Zag ⟨Zcz,?_⟩⟩⟩))))))));have e1:pI (L.getD j 0)=(partner x:Int):=by rw[ex];rfl
    have e2:fI ts o (L.getD j 0)=folOf ts o x:=by rw[ex];rfl
    refine⟨_,rfl,λk Δ=>∃x5:L2.Slot,Δ = [.val (encWeb n ts),.val (encOrd o),.val (.int e),.own (.lst ((stg L (partner x:Int) (folOf ts o x) k).map .int)),.val (.int (j:Int)),x5],⟨_,rfl⟩,?_,?_⟩
    ·rintro k d Δ2 hd ⟨x5,rfl⟩
     obtain⟨M,y,eM,rfl,eN,hM⟩:∃(M:List Int) (y:Int),stg L (partner x:Int) (folOf ts o x) k=M/\d=.int y/\stg L (partner x:Int) (folOf ts o x) (k+1)=addN M y/\M.length<=L.length+1:=by
      rcases k with _|_|k
      ·cases hd;exact⟨L,_,rfl,rfl,rfl,by omega⟩
      ·cases hd;exact⟨_,_,rfl,rfl,rfl,Zm8 _ _⟩
      ·cases hd
     rw[eM];refine Zbt (Zcf (Za6 (Znz (Zad rfl ⟨_,M,y,rfl,rfl,rfl,_,rfl,?_⟩))));show if (!decide (y∈M))=true then _ else _
     have ed:=Zpm M y;by_cases c2:y∈M
     ·rw[decide_eq_true c2]at ed ⊢
      refine iteF (Za3 ⟨.val (.int y),?_⟩);show _=[_,_,_,L2.Slot.own (.lst ((stg L (partner x:Int) (folOf ts o x) (k+1)).map D.int)),_,_];rw[eN,<- ed];rfl
     ·rw[decide_eq_false c2]at ed ⊢
      refine iteT (Zjj rfl rfl (Zad rfl ⟨_,_,rfl,rfl,?_,.val (.int y),?_⟩))
      ·rw[Wab];exact small1000 (by omega)
      ·show _=[_,_,_,L2.Slot.own (.lst ((stg L (partner x:Int) (folOf ts o x) (k+1)).map D.int)),_,_]
       rw[eN,<- ed];rfl
    ·rintro Δ2 ⟨x5,rfl⟩
     refine⟨x5,?_⟩;have:numF ts o e (j+1)=addN (addN L (partner x:Int)) (folOf ts o x):=by
      show numT pI (fI ts o) j (numF ts o e j)=_;rw[hL];unfold numT;rw[e1,e2]
     rw[this];rfl
   rintro Δ2 ⟨x5,rfl⟩;refine Zpy rfl (Zar ⟨rfl,Zpn ⟨2*ts.length-(j+1),by omega,j+1,x5,λi hi=>?_,rfl,rfl⟩⟩);by_cases z:i=j
   ·subst z;rw[hL];exact c
   ·exact hj i (by omega)
  ·rw[decide_eq_false (show ¬ (j:Int)<((numF ts o e j).length:Int) by omega)]
   refine iteF ⟨j,x5,⟨?_,hj⟩,rfl⟩;have:=I.le;show (numF ts o e j).length=j;have:j<=(numF ts o e j).length:=this;omega
 rintro Δ1 ⟨J,x5,hJ,rfl⟩;exact Zd0 (Zng rfl ⟨_,rfl,q J hJ⟩)
theorem Zkr (mb:Mb mg) (C42:Callee P w K mg base 2 "follower" ["web","order","end"] (spD K fFol)) (F:Fun K "code_by" "code_by" s_code_by f fd):FnOk P w K mg base CX0 3 f fd ["web","order","ends"] (spD K fCodeBy):=by
 refine F.ok sc_code_by (Zc3 λds Post h=>by obtain⟨_,_,_,_,rfl,_⟩:=h;rfl) (λcdv A outer s H vs Q E hr h=>?_);have hu:=Zbs hr;refine⟨_,(Zai (Zaz (Zcb (tupK K) rfl (mb "tuple" (by decide)) Zdc (Zaa (Zb1 ["end"] (show CompSc (defScope s_code_by) ["web","order","ends"] _ ["web","order","ends"] [0,1,2] from ⟨rfl,by decide +kernel,by decide +kernel,by decide +kernel,rfl,by decide +kernel⟩) rfl (seqK K (pv 2)) (λ_ _ _ _ _=>(Zas (i:=0) (show List.Nodup (["end","web","order","ends"]:List Str) from by decide) rfl (Or.inl rfl))) (λ_ _ _ _ _=>Zb8) (λ_ _ _ _ _=>(Zb6 (Zaa (bmK K PySem.F.plainAttrs_list PySem.F.slot_list_index PySem.F.type_list_index (idxLK K) (pv 3) (Zaa (Zav Znc (pv 0) Zaf) Zac)) (Zaa (bmK K PySem.F.plainAttrs_list PySem.F.slot_list_index PySem.F.type_list_index (idxLK K) (pv 3) (Zaa (Za4 C42 (hr.mono (by decide)) (Zaa (pv 1) (Zaa (pv 2) (Zaa (pv 0) Zac)))) Zac)) Zac))))) Zac)))),Zha (λds Post hf=>?_) h⟩;obtain⟨n,ts,o,l,rfl,hW,hO,hl,hin,q⟩:=hf;refine⟨by simp,?_⟩;dsimp only[startD,Wbe,Wbh,Wa3,Wae];refine Zbo (Zbx (Zab (Zbp (by decide) (Zdw (Zad rfl ⟨_,Or.inl rfl,by rw[Wab];exact small1000 (by omega),λ_=>true,λd=>cdP ts o l (intD d),λi d hd=>?_,?_⟩)))))
 ·rw[Waf]at hd
  cases z:l[i]? with
  |none=>rw[z]at hd;cases hd
  |some y=>
   rw[z]at hd;have hd:D.int y=d:=by simpa using hd
   subst hd;obtain⟨y0,y1,y2,y3⟩:=hin y (Wa2 z);obtain⟨x,rfl⟩:∃x:Nat,y=(x:Int):=⟨y.toNat,(Wb6 y0).symm⟩;refine Zb5 ⟨rfl,Zdo (Zab (Zet (Zad rfl ⟨l,rfl,by omega,Zaw (Zad rfl (Zar (Zmd ?_)))⟩)))⟩;rw[Zjs];refine⟨_,rfl,y2,?_⟩;refine Zab (Zet (Zad rfl ⟨l,rfl,by omega,Zbf (Zab (Zad rfl (Zab (Zad rfl (Zab (Zad rfl (Zag ⟨n,ts,o,x,rfl,hW,hO,by omega,_,rfl,y3,Zag ⟨Zcz,rfl,_,rfl⟩⟩)))))))⟩))
 have e1:((l.map D.int).filter λ_=>true).map (λd=>cdP ts o l (intD d))=l.map (cdP ts o l):=by
  rw[Wb5.mpr (by simp),Wa1];rfl
 rw[e1];exact Zag (Zec (Or.inl rfl) q)
end
def loI (a b:Int):Int:=if b<a then b else a
def hiI (a b:Int):Int:=if b > a then b else a
def mergeL (l:List Int) (a b:Int):List Int:=l.map λf=>if f=hiI (l.getD a.toNat 0) (l.getD b.toNat 0) then loI (l.getD a.toNat 0) (l.getD b.toNat 0) else f
def marksL (n:Nat) (ts:List (Int × Int)):List Int:=ts.foldl (λl t=>mergeL l t.1 t.2) ((Waz n).map λi:Nat=>(i:Int))
theorem Zi4 (l:List Int) (a b:Int):(mergeL l a b).length=l.length:=by unfold mergeL;rw[Wab]
theorem Zbi (n:Nat) (ts:List (Int × Int)):(marksL n ts).length=n:=by
 unfold marksL;have:∀(ts:List (Int × Int)) (l:List Int),(ts.foldl (λl t=>mergeL l t.1 t.2) l).length=l.length:=by
  intro ts
  induction ts with
  |nil=>intro l;rfl
  |cons t ts ih=>intro l;rw[List.foldl_cons,ih,Zi4]
 rw[this,Wab,Wbv]
theorem Zcr {n:Nat}{ts:List (Int × Int)}{i:Nat}{t:Int × Int}(h:ts[i]?=some t):marksL n (ts.take (i+1))=mergeL (marksL n (ts.take i)) t.1 t.2:=by
 unfold marksL;rw[Wck,h,List.foldl_append];rfl
def Firsts (ms l:List Int):Prop:=ms.Pairwise (· < ·)/\∀x,x∈ms↔x∈l
theorem Zeu:∀{ms ms':List Int},ms.Pairwise (· < ·)->ms'.Pairwise (· < ·)->(∀x,x∈ms↔x∈ms')->ms=ms'
 |[],[],_,_,_=>rfl
 |[],y::l',_,_,h=>by have:=(h y).mpr (by simp);simp at this
 |x::l,[],_,_,h=>by have:=(h x).mp (by simp);simp at this
 |x::l,y::l',h1,h2,h=>by
  rw[Wc7]at h1 h2;have exy:x=y:=by
   have a:=(h x).mp (by simp);have b:=(h y).mpr (by simp);rcases Wan.mp a with z|z
   ·exact z
   ·rcases Wan.mp b with z'|z'
    ·exact z'.symm
    ·have:=h1.1 _ z'
     have:=h2.1 _ z;omega
  subst exy;rw[Zeu h1.2 h2.2 λz=>?_];constructor
  ·intro hz
   have:=h1.1 _ hz;rcases Wan.mp ((h z).mp (Wau _ hz)) with q|q
   ·omega
   ·exact q
  ·intro hz
   have:=h2.1 _ hz;rcases Wan.mp ((h z).mpr (Wau _ hz)) with q|q
   ·omega
   ·exact q
theorem Firsts.uniq {ms ms' l:List Int}(h:Firsts ms l) (h':Firsts ms' l):ms=ms':=Zeu h.1 h'.1 λx=>(h.2 x).trans (h'.2 x).symm
theorem Zfb:∀{ms l:List Int},ms.Nodup->(∀x∈ms,x∈l)->ms.length<=l.length
 |[],_,_,_=>by simp
 |x::ms,l,h1,h2=>by
  rw[Wb1]at h1;have hx:=h2 x (by simp);have:=Zfb (ms:=ms) (l:=l.erase x) h1.2 λy hy=>(List.mem_erase_of_ne (λz:y=x=>h1.1 (z ▸ hy))).mpr (h2 y (by simp[hy]));rw[List.length_erase_of_mem hx]at this;have:=Wcy hx;rw[Wam];omega
theorem Firsts.len {ms l:List Int}(h:Firsts ms l):ms.length<=l.length:=Zfb (h.1.imp λz=>Int.ne_of_lt z) λx hx=>(h.2 x).mp hx
def partI (l:List Int) (n:Nat) (f:Int):List Int:=((Waz n).map λi:Nat=>(i:Int)).filter λp=>decide (l.getD p.toNat 0=f)
def lstI (r:List Int):D:=.lst (r.map .int)
def partsL (n:Nat) (ts:List (Int × Int)) (ms:List Int):List (List Int):=ms.map (partI (marksL n ts) n)
def fParts:NSp:=λds Post=>∃n ts,ds=[encWeb n ts]/\WebOk n ts/\∀ms,Firsts ms (marksL n.toNat ts)->Post ((partsL n.toNat ts ms).map lstI)
theorem Znf (l:List Int) (n:Nat) (f:Int) (p:D->Bool) (hp:∀i:Int,p (.int i)=decide (l.getD i.toNat 0=f)) (g:D->D) (hg:∀d,g d=d):D.lst (((rngD 0 n).filter p).map g)=lstI (partI l n f):=by
 have e1:rngD 0 n=((Waz n).map λi:Nat=>(i:Int)).map D.int:=by
  unfold rngD;rw[Wa1];apply Wcq;intro i _;show D.int (0+(i:Int))=D.int (i:Int);rw[Wbq]
 unfold lstI partI;rw[e1,List.filter_map,show g=id from funext hg,List.map_id];have e2:(p∘D.int)=λq:Int=>decide (l.getD q.toNat 0=f):=funext hp;rw[e2]
theorem Zjw {n:Nat}{l ms:List Int}(q:D->Bool) (hq:∀d,q d=true) (g:D->D) (hg:∀f:Int,g (.int f)=lstI (partI l n f)):((ms.map D.int).filter q).map g=(ms.map (partI l n)).map lstI:=by
 rw[Wb5.mpr (λd _=>hq d),Wa1,Wa1];apply Wcq;intro f _;exact hg f
section
variable {P:Program}{w:World}{K:W.Frag}{mg:Str->Option Value}{base:Heap}{f:Addr}{fd:FuncData}
theorem Zdb {l:List Int}{x:Int}{n:Nat}(hl:l.length=n) (h0:0<=x) (h1:x<(n:Int)):atI (l.map D.int) x=some (.int (l.getD x.toNat 0)):=by
 rw[show x=((x.toNat:Nat):Int) by omega];refine Zby ?_;rw[Waf,Wad,Waw,Waa (by omega:x.toNat<l.length)];rfl
theorem Zhl (mb:Mb mg) (F:Fun K "parts_of" "parts_of" s_parts_of f fd):FnOk P w K mg base CX0 1 f fd ["web"] (spN K fParts):=by
 refine F.ok sc_parts_of (Zew λds Post h=>by obtain⟨_,_,rfl,_⟩:=h;rfl) (λcdv A outer s H vs Q E hr h=>?_);have hu:=Zbs hr;have hv:=Zi9 hr;refine⟨_,(Zae (Zgn (pv 0) (gtupK (n:=2) K rfl (Zch (Zas (i:=1) sc_parts_of.nd rfl (Or.inr rfl)) (Zch (Zas (i:=2) sc_parts_of.nd rfl (Or.inl rfl)) Zfr)))) (Zae (Zaq (i:=3) sc_parts_of.nd rfl (Or.inr rfl) (Zea rfl rfl (mb "list" (by decide)) rfl (mb "range" (by decide)) (Zaa (pv 1) Zac))) (Zae (Zc2 PassesOwn.never rfl (seqK K (pv 2)) (gtupK (n:=2) K rfl (Zch (Zas (i:=4) sc_parts_of.nd rfl (Or.inl rfl)) (Zch (Zas (i:=5) sc_parts_of.nd rfl (Or.inl rfl)) Zfr))) (Zae (Zaq (i:=6) sc_parts_of.nd rfl (Or.inr rfl) (Zaj (Zcx rfl) rfl (mb "min" (by decide)) Zff (Zaa (Zam (ixK K hu) (pv 3) (pv 4) (λ_ _=>rfl)) (Zaa (Zam (ixK K hu) (pv 3) (pv 5) (λ_ _=>rfl)) Zac)))) (Zae (Zaq (i:=7) sc_parts_of.nd rfl (Or.inr rfl) (Zaj (Zdn rfl) rfl (mb "max" (by decide)) Zic (Zaa (Zam (ixK K hu) (pv 3) (pv 4) (λ_ _=>rfl)) (Zaa (Zam (ixK K hu) (pv 3) (pv 5) (λ_ _=>rfl)) Zac)))) (Zai (Zaq (i:=3) sc_parts_of.nd rfl (Or.inr rfl) (Zb1 ["first"] (show CompSc (defScope s_parts_of) ["web","many","ties","firsts","a","b","low","high"] _ ["low","high"] [6,7] from ⟨rfl,by decide +kernel,by decide +kernel,by decide +kernel,rfl,by decide +kernel⟩) rfl (seqK K (pv 3)) (λ_ _ _ _ _=>(Zas (i:=0) (show List.Nodup (["first","low","high"]:List Str) from by decide) rfl (Or.inl rfl))) (λ_ _ _ _ _=>Zb8) (λ_ _ _ _ _=>(Zfv (Zat Zb3 (pv 0) (pv 2) (nomark _)) (pv 1) (pv 0))))))))) (Zai (Zaz (Zgz ["first"] (show CompScK (defScope s_parts_of) ["web","many","ties","firsts","a","b","low","high"] "first" _ ["many","firsts"] [1,3] from ⟨rfl,by decide +kernel,by decide +kernel,by decide +kernel,by decide +kernel,rfl,by decide +kernel⟩) rfl (seqK K (Zfj rfl rfl rfl (mb "sorted" (by decide)) rfl (mb "set" (by decide)) (Zaa (pv 3) Zac))) (λ_ _ _ _ _=>(Zas (i:=0) (show List.Nodup (["first","many","firsts"]:List Str) from by decide) rfl (Or.inr rfl))) (λ_ _ _ _ _=>Zb8) (λ_ _ _ _ _=>(Zb1 ["place"] (show CompSc (relab (defScope s_parts_of) _) ["first","many","firsts"] _ ["first","firsts"] [0,2] from ⟨rfl,by decide +kernel,by decide +kernel,by decide +kernel,rfl,by decide +kernel⟩) rfl (Za7 rfl (mb "range" (by decide)) (Zaa (pv 1) Zac)) (λ_ _ _ _ _=>(Zas (i:=0) (show List.Nodup (["place","first","firsts"]:List Str) from by decide) rfl (Or.inl rfl))) (λ_ _ _ _ _=>(Zga (Zat Zb3 (Zam (ixK K hu) (pv 2) (pv 0) (λ_ _=>rfl)) (pv 1) (nomark _)))) (λ_ _ _ _ _=>(pv 0)))))))))),Zla (λds Post hf=>?_) h⟩;obtain⟨n,ts,rfl,hW,q⟩:=hf;refine⟨by simp,?_⟩;dsimp only[startD,Wbe,Wbh,Wa3,Wae];have hn0:=hW.lo;have hn1:=hW.hi;have hts:=hW.len;obtain⟨N,rfl⟩:∃N:Nat,n=(N:Int):=⟨n.toNat,by omega⟩;rw[Waw]at q;refine Zap (Zri (Zad rfl (Zh5 rfl (Zcg (Zbt (Zcg (Zbt (Zgm ?_))))))));refine Zap (Zax (Zbe (Zqc (Zab (Zad rfl (Zag ⟨N,rfl,by omega,_,rfl,?_⟩))))));have e0:(Waz N).map (λi:Nat=>D.int (i:Int))=(marksL N (ts.take 0)).map D.int:=by
  show _=((Waz N).map λi:Nat=>(i:Int)).map D.int;rw[Wa1];rfl
 rw[e0];refine Za8 (λΔ=>∃(x4 x5 x6 x7:L2.Slot),Δ = [.val (encWeb (N:Int) ts),.val (.int (N:Int)),.val (.tup (ts.map encTie)),.val (.lst ((marksL N ts).map D.int)),x4,x5,x6,x7]) ?_ ?_
 ·refine Zc7 (Zhm (Zad rfl ⟨_,rfl,λi Δ=>∃(x4 x5 x6 x7:L2.Slot),Δ = [.val (encWeb (N:Int) ts),.val (.int (N:Int)),.val (.tup (ts.map encTie)),.val (.lst ((marksL N (ts.take i)).map D.int)),x4,x5,x6,x7],⟨_,_,_,_,rfl⟩,?_,?_⟩))
  ·rintro i d Δ2 hd ⟨x4,x5,x6,x7,rfl⟩
   rw[Waf]at hd;cases z:ts[i]? with
   |none=>rw[z]at hd;cases hd
   |some t=>
    rw[z]at hd;have hd:encTie t=d:=by simpa using hd
    subst hd;have ht:=hW.tie t (Wa2 z);have hl:=Zbi N (ts.take i);have hs:=Zcr (n:=N) z;obtain⟨l,el⟩:∃l,marksL N (ts.take i)=l:=⟨_,rfl⟩;rw[el]at hl hs ⊢;have a1:=Zdb hl ht.1 ht.2.1;have a2:=Zdb hl ht.2.2.1 ht.2.2.2;refine Zh5 rfl (Zcg (Zbt (Zcg (Zbt (Zgm ?_)))));refine Zap (Zax (Zbx (Zab (Zaw (Zad rfl (Zad rfl (Zbk a1 (Zab (Zaw (Zad rfl (Zad rfl (Zbk a2 (Zag (Zdi ?_))))))))))))));refine Zap (Zax (Zbx (Zab (Zaw (Zad rfl (Zad rfl (Zbk a1 (Zab (Zaw (Zad rfl (Zad rfl (Zbk a2 (Zag (Zdi ?_))))))))))))));refine Zax (Zbp (by decide) (Zdw (Zad rfl ⟨_,Or.inl rfl,?_,λ_=>true,λd=>match d with|.int g=>.int (if g=hiI (l.getD t.1.toNat 0) (l.getD t.2.toNat 0) then loI (l.getD t.1.toNat 0) (l.getD t.2.toNat 0) else g)|d=>d,λj d hd=>?_,?_⟩)))
    ·rw[Wab];exact small1000 (by omega)
    ·rw[Waf]at hd
     cases zz:l[j]? with
     |none=>rw[zz]at hd;cases hd
     |some g=>
      rw[zz]at hd;have hd:D.int g=d:=by simpa using hd
      subst hd;refine Zb5 ⟨rfl,Zf9 (Za6 (Zaw (Zad rfl (Zad rfl (Zgt ⟨_,rfl,?_⟩)))))⟩;show if decide (g=hiI (l.getD t.1.toNat 0) (l.getD t.2.toNat 0))=true then _ else _
      by_cases hg:g=hiI (l.getD t.1.toNat 0) (l.getD t.2.toNat 0)
      ·rw[decide_eq_true hg]
       refine iteT (Zad rfl ⟨?_,_,rfl⟩);dsimp only;rw[if_pos hg];rfl
      ·rw[decide_eq_false hg]
       refine iteF (Zad rfl ⟨?_,_,rfl⟩);dsimp only;rw[if_neg hg]
    ·have e1:((l.map D.int).filter λ_=>true).map (λd=>match d with|.int g=>D.int (if g=hiI (l.getD t.1.toNat 0) (l.getD t.2.toNat 0) then loI (l.getD t.1.toNat 0) (l.getD t.2.toNat 0) else g)|d=>d)=(marksL N (ts.take (i+1))).map D.int:=by
      rw[hs,Wb5.mpr (by simp),Wa1];unfold mergeL;rw[Wa1];rfl
     rw[e1];exact⟨_,_,_,_,rfl⟩
  ·rintro Δ2 ⟨x4,x5,x6,x7,rfl⟩
   rw[Wab,Wbt];exact⟨_,_,_,_,rfl⟩
 rintro Δ1 ⟨x4,x5,x6,x7,rfl⟩;have hl:=Zbi N ts;refine Zd0 (Zil (by decide) (Zdw (Zbe (Zp7 (Zab (Zad rfl (Zag ⟨_,rfl,by omega,λms m1 m2=>⟨_,rfl,_,Or.inl rfl,?_,λ_=>true,λd=>match d with|.int g=>lstI (partI (marksL N ts) N g)|d=>d,λi d hd=>?_,?_⟩⟩)))))))
 ·have:=Firsts.len ⟨m1,m2⟩
  rw[Wab];exact small1000 (by omega)
 ·rw[Waf]at hd
  cases zz:ms[i]? with
  |none=>rw[zz]at hd;cases hd
  |some g=>
   rw[zz]at hd;have hd:D.int g=d:=by simpa using hd
   subst hd;refine Zb5 ⟨rfl,Zbp (by decide) (Za5 (Zab (Zad rfl (Zag ⟨_,rfl,by omega,by omega,?_,λd=>match d with|.int p=>decide ((marksL N ts).getD p.toNat 0=g)|_=>false,λd=>d,λj d hd=>?_,?_⟩))))⟩
   ·rw[Za2];exact small1000 (by omega)
   ·obtain⟨hj,rfl⟩:=Zbd hd
    refine Za6 (Zaw (Zaw (Zad rfl (Zad rfl (Zbk (Zdb hl (by omega) (by omega)) (Zad rfl (Zgt ⟨_,rfl,rfl,?_⟩)))))));split
    ·exact Zad rfl ⟨rfl,_,rfl⟩
    ·exact⟨_,rfl⟩
   ·refine⟨?_,_,rfl⟩
    rw[Waw];exact Znf _ _ _ _ (λ_=>rfl) _ λ_=>rfl
 ·refine⟨_,rfl,?_⟩
  rw[Zjw (l:=marksL N ts) (n:=N) _ (λ_=>rfl) _ λ_=>rfl];exact q ms ⟨m1,m2⟩
end
def stepM (l:List Int) (h lo:Int) (k:Nat):List Int:=(l.take k).map (λf=>if f=h then lo else f)++l.drop k
theorem Zep (l:List Int) (h lo:Int) (k:Nat):(stepM l h lo k).length=l.length:=by
 unfold stepM;rw[Wap,Wab,Wa4,Wcc];omega
theorem Zjn {l:List Int}{h lo:Int}{k:Nat}(hk:k<l.length):(stepM l h lo k)[k]?=some l[k]:=by
 unfold stepM;rw[Waq (by rw[Wab,Wa4];omega),Wab,Wa4,Nat.min_eq_left (Wcm hk),Nat.sub_self,Wcf];exact Waa hk
theorem Zis {l:List Int}{h lo:Int}{k:Nat}(hk:k<l.length):stepM l h lo (k+1)=(stepM l h lo k).set k (if l[k]=h then lo else l[k]):=by
 apply Wbw;intro j;rw[Wb3,Zep];unfold stepM;rcases Wdb j k with hj|hj|hj
 ·rw[if_neg (by omega),Way (by rw[Wab,Wa4];omega),Way (by rw[Wab,Wa4];omega),Waf,Waf,Wc8,Wc8,if_pos (by omega),if_pos (by omega)]
 ·subst hj
  rw[if_pos rfl,if_pos hk,Way (by rw[Wab,Wa4];omega),Waf,Wc8,if_pos (by omega),Waa hk];rfl
 ·rw[if_neg (by omega),Waq (by rw[Wab,Wa4];omega),Waq (by rw[Wab,Wa4];omega),Wab,Wab,Wa4,Wa4,Wcf,Wcf]
  congr 1;omega
theorem Zke {l:List Int}{h lo:Int}:stepM l h lo l.length=l.map λf=>if f=h then lo else f:=by
 unfold stepM;rw[Wbt,List.drop_length,Wbc]
section
variable {P:Program}{w:World}{K:W.Frag}{mg:Str->Option Value}{base:Heap}{f:Addr}{fd:FuncData}
theorem Zj1 (mb:Mb mg) (F:Fun K "_law_parts" "_law_parts" s_law_parts f fd):FnOk P w K mg base CX0 1 f fd ["_law_web_here"] (spN K fParts):=by
 refine F.ok sc_law_parts (Zew λds Post h=>by obtain⟨_,_,rfl,_⟩:=h;rfl) (λcdv A outer s H vs Q E hr h=>?_);have hu:=Zbs hr;have hv:=Zi9 hr;refine⟨_,(Zae (Zaq (i:=1) sc_law_parts.nd rfl (Or.inr rfl) (Zea rfl rfl (mb "list" (by decide)) rfl (mb "range" (by decide)) (Zaa (Zam (ixK K hu) (pv 0) Zaf (λ_ _=>rfl)) Zac))) (Zae (Zc2 PassesOwn.never rfl (seqK K (Zam (ixK K hu) (pv 0) Zaf (λ_ _=>rfl))) (gtupK (n:=2) K rfl (Zch (Zas (i:=2) sc_law_parts.nd rfl (Or.inl rfl)) (Zch (Zas (i:=3) sc_law_parts.nd rfl (Or.inl rfl)) Zfr))) (Zae (Zex (i:=4) (j:=5) rfl sc_law_parts.nd rfl rfl (by decide) rfl rfl (Zaa (Zaj (Zcx rfl) rfl (mb "min" (by decide)) Zff (Zaa (Zam (ixK K hu) (pv 1) (pv 2) (λ_ _=>rfl)) (Zaa (Zam (ixK K hu) (pv 1) (pv 3) (λ_ _=>rfl)) Zac))) (Zaa (Zaj (Zdn rfl) rfl (mb "max" (by decide)) Zic (Zaa (Zam (ixK K hu) (pv 1) (pv 2) (λ_ _=>rfl)) (Zaa (Zam (ixK K hu) (pv 1) (pv 3) (λ_ _=>rfl)) Zac))) Zac)) rfl) (Zai (Zc2 PassesOwn.never rfl (Za7 rfl (mb "range" (by decide)) (Zaa (Zam (ixK K hu) (pv 0) Zaf (λ_ _=>rfl)) Zac)) (Zas (i:=6) sc_law_parts.nd rfl (Or.inl rfl)) (Zai (Zbz (Zat Zb3 (Zam (ixK K hu) (pv 1) (pv 6) (λ_ _=>rfl)) (pv 5) (nomark _)) (Zai (Zgn (pv 4) (Zin (pv 1) (pv 6) (setU hu)))) Za0)))))) (Zai (Zaz (Zgz ["_law_first"] (show CompScK (defScope s_law_parts) ["_law_web_here","_law_marks","_law_a","_law_b","_law_low","_law_high","_law_place"] "_law_first" _ ["_law_web_here","_law_marks"] [0,1] from ⟨rfl,by decide +kernel,by decide +kernel,by decide +kernel,by decide +kernel,rfl,by decide +kernel⟩) rfl (seqK K (Zfj rfl rfl rfl (mb "sorted" (by decide)) rfl (mb "set" (by decide)) (Zaa (pv 1) Zac))) (λ_ _ _ _ _=>(Zas (i:=0) (show List.Nodup (["_law_first","_law_web_here","_law_marks"]:List Str) from by decide) rfl (Or.inr rfl))) (λ_ _ _ _ _=>Zb8) (λ_ _ _ _ _=>(Zb1 ["_law_place"] (show CompSc (relab (defScope s_law_parts) _) ["_law_first","_law_web_here","_law_marks"] _ ["_law_first","_law_marks"] [0,2] from ⟨rfl,by decide +kernel,by decide +kernel,by decide +kernel,rfl,by decide +kernel⟩) rfl (Za7 rfl (mb "range" (by decide)) (Zaa (Zam (ixK K hu) (pv 1) Zaf (λ_ _=>rfl)) Zac)) (λ_ _ _ _ _=>(Zas (i:=0) (show List.Nodup (["_law_place","_law_first","_law_marks"]:List Str) from by decide) rfl (Or.inl rfl))) (λ_ _ _ _ _=>(Zga (Zat Zb3 (Zam (ixK K hu) (pv 2) (pv 0) (λ_ _=>rfl)) (pv 1) (nomark _)))) (λ_ _ _ _ _=>(pv 0))))))))),Zla (λds Post hf=>?_) h⟩;obtain⟨n,ts,rfl,hW,q⟩:=hf;refine⟨by simp,?_⟩;dsimp only[startD,Wbe,Wbh,Wa3,Wae];have hn0:=hW.lo;have hn1:=hW.hi;have hts:=hW.len;obtain⟨N,rfl⟩:∃N:Nat,n=(N:Int):=⟨n.toNat,by omega⟩;rw[Waw]at q;refine Zap (Zd8 (Zqc (Zab (Zaw (Zad rfl (Zar (Zb0 (d:=.int (N:Int)) rfl (Zag ⟨N,rfl,by omega,?_⟩))))))));have e0:(Waz N).map (λi:Nat=>D.int (i:Int))=(marksL N (ts.take 0)).map D.int:=by
  show _=((Waz N).map λi:Nat=>(i:Int)).map D.int;rw[Wa1];rfl
 rw[e0];refine Za8 (λΔ=>∃(x4 x5 x6 x7 x8:L2.Slot),Δ = [.val (encWeb (N:Int) ts),.own (.lst ((marksL N ts).map D.int)),x4,x5,x6,x7,x8]) ?_ ?_
 ·refine Zc7 (Zhm (Zaw (Zad rfl (Zar (Zb0 (d:=.tup (ts.map encTie)) rfl ⟨_,rfl,λi Δ=>∃(x4 x5 x6 x7 x8:L2.Slot),Δ = [.val (encWeb (N:Int) ts),.own (.lst ((marksL N (ts.take i)).map D.int)),x4,x5,x6,x7,x8],⟨_,_,_,_,_,rfl⟩,?_,?_⟩)))))
  ·rintro i d Δ2 hd ⟨x4,x5,x6,x7,x8,rfl⟩
   rw[Waf]at hd;cases z:ts[i]? with
   |none=>rw[z]at hd;cases hd
   |some t=>
    rw[z]at hd;have hd:encTie t=d:=by simpa using hd
    subst hd;have ht:=hW.tie t (Wa2 z);have hl:=Zbi N (ts.take i);have hs:=Zcr (n:=N) z;obtain⟨l,el⟩:∃l,marksL N (ts.take i)=l:=⟨_,rfl⟩;rw[el]at hl hs ⊢;have a1:=Zdb hl ht.1 ht.2.1;have a2:=Zdb hl ht.2.2.1 ht.2.2.2;refine Zh5 rfl (Zcg (Zbt (Zcg (Zbt (Zgm ?_)))));refine Zap (Zc8 (Zab (Zbx (Zab (Zc4 rfl rfl (Zad rfl ⟨_,_,_,_,rfl,rfl,rfl,a1,Zab (Zc4 rfl rfl (Zad rfl ⟨_,_,_,_,rfl,rfl,rfl,a2,Zag (Zdi ?_)⟩))⟩))))));refine Zab (Zbx (Zab (Zc4 rfl rfl (Zad rfl ⟨_,_,_,_,rfl,rfl,rfl,a1,Zab (Zc4 rfl rfl (Zad rfl ⟨_,_,_,_,rfl,rfl,rfl,a2,Zag (Zdi (Zag ⟨_,_,rfl,?_⟩))⟩))⟩))));obtain⟨lo,elo⟩:∃lo,loI (l.getD t.1.toNat 0) (l.getD t.2.toNat 0)=lo:=⟨_,rfl⟩;obtain⟨hi,ehi⟩:∃hi,hiI (l.getD t.1.toNat 0) (l.getD t.2.toNat 0)=hi:=⟨_,rfl⟩;refine Zc7 (Za5 (Zab (Zaw (Zad rfl (Zar (Zb0 (d:=.int (N:Int)) rfl (Zag ⟨_,rfl,by omega,by omega,λk Δ=>∃x8:L2.Slot,Δ = [.val (encWeb (N:Int) ts),.own (.lst ((stepM l hi lo k).map D.int)),.val (.int t.1),.val (.int t.2),.val (.int lo),.val (.int hi),x8],⟨x8,?_⟩,?_,?_⟩)))))))
    ·rw[<- elo,<- ehi];rfl
    ·rintro k d Δ3 hd ⟨x8,rfl⟩
     rw[Waw]at hd;obtain⟨hk,rfl⟩:=Zbd hd;rw[Wbq];have hkl:k<l.length:=by omega
     have hg:=Zjn (h:=hi) (lo:=lo) hkl;have hat:atI ((stepM l hi lo k).map D.int) (k:Int)=some (.int l[k]):=Zby (by rw[Waf,hg];rfl);have hsu:=Zis (h:=hi) (lo:=lo) hkl;refine Zbt (Zcf (Za6 (Zaw (Zc4 rfl rfl (Zad rfl ⟨_,_,_,_,rfl,rfl,rfl,hat,Zad rfl (Zgt ⟨_,rfl,?_⟩)⟩)))));by_cases hb:l[k]=hi
     ·rw[decide_eq_true hb]
      rw[if_pos hb]at hsu;refine iteT (Zif (Zad rfl ⟨⟨_,_,rfl,rfl⟩,Zad rfl ⟨_,_,_,k,rfl,rfl,rfl,?_,.val (.int (k:Int)),?_⟩⟩))
      ·unfold ixN
       rw[if_pos (by omega),if_pos (by rw[Wab,Zep];omega),Waw]
      ·rw[hsu,List.map_set];rfl
     ·rw[decide_eq_false hb]
      rw[if_neg hb]at hsu;refine iteF (Za3 ⟨.val (.int (k:Int)),?_⟩);have:stepM l hi lo (k+1)=stepM l hi lo k:=by
       rw[hsu];apply Wbw;intro j;rw[Wb3];split
       ·rename_i hj
        subst hj;rw[if_pos (by rw[Zep];omega),hg]
       ·rfl
      rw[this];rfl
    ·rintro Δ3 ⟨x8,rfl⟩
     have e2:stepM l hi lo (rngD 0 ((N:Int)).toNat).length=marksL N (ts.take (i+1)):=by
      rw[Za2,Waw,hs];unfold mergeL;rw[elo,ehi,<- Zke,hl]
     rw[e2];exact⟨_,_,_,_,_,rfl⟩
  ·rintro Δ2 ⟨x4,x5,x6,x7,x8,rfl⟩
   rw[Wab,Wbt];exact⟨_,_,_,_,_,rfl⟩
 rintro Δ1 ⟨x4,x5,x6,x7,x8,rfl⟩;have hl:=Zbi N ts;refine Zd0 (Zil (by decide) (Zdw (Zbe (Zp7 (Zab (Zhr rfl (Zag ⟨_,rfl,by omega,λms m1 m2=>⟨_,rfl,_,Or.inl rfl,?_,λ_=>true,λd=>match d with|.int g=>lstI (partI (marksL N ts) N g)|d=>d,λi d hd=>?_,?_⟩⟩)))))))
 ·have:=Firsts.len ⟨m1,m2⟩
  rw[Wab];exact small1000 (by omega)
 ·rw[Waf]at hd
  cases zz:ms[i]? with
  |none=>rw[zz]at hd;cases hd
  |some g=>
   rw[zz]at hd;have hd:D.int g=d:=by simpa using hd
   subst hd;refine Zb5 ⟨rfl,Zbp (by decide) (Za5 (Zab (Zaw (Zad rfl (Zar (Zb0 (d:=.int (N:Int)) rfl (Zag ⟨_,rfl,by omega,by omega,?_,λd=>match d with|.int p=>decide ((marksL N ts).getD p.toNat 0=g)|_=>false,λd=>d,λj d hd=>?_,?_⟩)))))))⟩
   ·rw[Za2];exact small1000 (by omega)
   ·obtain⟨hj,rfl⟩:=Zbd hd
    refine Za6 (Zaw (Zaw (Zad rfl (Zad rfl (Zbk (Zdb hl (by omega) (by omega)) (Zad rfl (Zgt ⟨_,rfl,rfl,?_⟩)))))));split
    ·exact Zad rfl ⟨rfl,_,rfl⟩
    ·exact⟨_,rfl⟩
   ·refine⟨?_,_,rfl⟩
    rw[Waw];exact Znf _ _ _ _ (λ_=>rfl) _ λ_=>rfl
 ·refine⟨_,rfl,?_⟩
  rw[Zjw (l:=marksL N ts) (n:=N) _ (λ_=>rfl) _ λ_=>rfl];exact q ms ⟨m1,m2⟩
end
section
variable {f:Int->Int}{m:Nat}(F:OneOne f m)
include F
end
theorem Zc0 (l:List Int) (a b:Int) {p:Nat}(hp:p<l.length):(mergeL l a b).getD p 0=if l.getD p 0=hiI (l.getD a.toNat 0) (l.getD b.toNat 0) then loI (l.getD a.toNat 0) (l.getD b.toNat 0) else l.getD p 0:=by
 unfold mergeL;rw[Wad,Waf,Waa hp,Wad (l:=l) (i:=p),Waa hp];rfl
theorem lohi (a b:Int):(a=loI a b\/a=hiI a b)/\(b=loI a b\/b=hiI a b):=by
 unfold loI hiI;constructor
 ·by_cases h:b<a
  ·right;rw[if_neg (by omega)]
  ·left;rw[if_neg h]
 ·by_cases h:b<a
  ·left;rw[if_pos h]
  ·by_cases h2:b > a
   ·right;rw[if_pos h2]
   ·left;rw[if_neg h];omega
theorem Ziy (l:List Int) {t:Int × Int}(h1:t.1.toNat<l.length) (h2:t.2.toNat<l.length):(mergeL l t.1 t.2).getD t.1.toNat 0=loI (l.getD t.1.toNat 0) (l.getD t.2.toNat 0)/\(mergeL l t.1 t.2).getD t.2.toNat 0=loI (l.getD t.1.toNat 0) (l.getD t.2.toNat 0):=by
 obtain⟨a,b⟩:=lohi (l.getD t.1.toNat 0) (l.getD t.2.toNat 0);rw[Zc0 _ _ _ h1,Zc0 _ _ _ h2];constructor
 ·split
  ·rfl
  ·rename_i h;rcases a with a|a
   ·exact a
   ·exact absurd a h
 ·split
  ·rfl
  ·rename_i h;rcases b with b|b
   ·exact b
   ·exact absurd b h
section
variable {N:Nat}{ts:List (Int × Int)}(hW:WebOk (N:Int) ts)
include hW
theorem Zg3:∀i,i<=ts.length->∀t∈ts.take i,(marksL N (ts.take i)).getD t.1.toNat 0=(marksL N (ts.take i)).getD t.2.toNat 0
 |0,_,t,ht=>by simp at ht
 |i+1,hi,t,ht=>by
  have hlt:i<ts.length:=hi;have z:=Waa hlt;rw[Zcr z];have hl:=Zbi N (ts.take i);have hu:=hW.tie _ (Wba hlt);rw[Wck,z]at ht;rcases Wbj.mp ht with h|h
  ·have ih:=Zg3 i (by omega) t h
   have hr:=hW.tie t (List.mem_of_mem_take h);rw[Zc0 _ _ _ (by omega),Zc0 _ _ _ (by omega),ih]
  ·have e:t=ts[i]:=by simpa using h
   subst e;obtain⟨a,b⟩:=Ziy (marksL N (ts.take i)) (t:=ts[i]) (by omega) (by omega);rw[a,b]
theorem Zmv {t:Int × Int}(ht:t∈ts):(marksL N ts).getD t.1.toNat 0=(marksL N ts).getD t.2.toNat 0:=by
 have:=Zg3 hW ts.length (Waj _) t (by rw[Wbt];exact ht);rw[Wbt]at this;exact this
end
section
variable {N:Nat}{ts:List (Int × Int)}{o:List (List Int)}(hW:WebOk (N:Int) ts) (hO:OrdOk (N:Int) ts o)
include hW
include hO
end
structure Goes (N:Nat) (l l':List Int) (lo hi:Int):Prop where
 len:l.length=N
 len':l'.length=N
 lt:lo<hi
 inL:lo∈l
 inH:hi∈l
 to:∀p:Nat,p<N->l'.getD p 0=if l.getD p 0=hi then lo else l.getD p 0
section
variable {N:Nat}{l l' ms ms':List Int}{lo hi:Int}(G:Goes N l l' lo hi)
theorem Zqh {l:List Int}{p:Nat}(h:p<l.length):l.getD p 0∈l:=by
 rw[Wad,Waa h];exact Wba h
include G
end
section
variable {f:Int->Int}{m:Nat}(F:OneOne f m)
include F
end
section
variable {f:Int->Int}{m:Nat}(F:OneOne f m) {a b:Int}(a0:0<=a) (a1:a<(m:Int)) (b0:0<=b) (b1:b<(m:Int)) (hab:a≠b) (hin:b∈orb f a)
include F a0 a1 b0 b1 hab hin
end
section
variable {P:Program}{w:World}{K:W.Frag}{mg:Str->Option Value}{base:Heap}{f:Addr}{fd:FuncData}
theorem Zg8:∀l:List Int,∃ms,Firsts ms l
 |[]=>⟨[],.nil,λx=>Iff.rfl⟩
 |x::l=>by
  obtain⟨ms,h1,h2⟩:=Zg8 l;by_cases c:x∈ms
  ·refine⟨ms,h1,λy=>?_⟩
   rw[Wan,h2];exact⟨.inr,λz=>z.elim (λq=>q ▸ (h2 x).mp c) id⟩
  ·refine⟨(ms.filter λy=>decide (y<x))++x::(ms.filter λy=>decide (x<y)),?_,λy=>?_⟩
   ·rw[List.pairwise_append,Wc7]
    refine⟨List.Pairwise.filter _ h1,⟨λa ha=>?_,List.Pairwise.filter _ h1⟩,λa ha b hb=>?_⟩
    ·rw[Wbp,decide_eq_true_iff]at ha;exact ha.2
    ·rw[Wbp,decide_eq_true_iff]at ha
     rcases Wan.mp hb with z|z
     ·rw[z];exact ha.2
     ·rw[Wbp,decide_eq_true_iff]at z;omega
   ·rw[Wbj,Wan,Wan,Wbp,Wbp,decide_eq_true_iff,decide_eq_true_iff,h2]
    constructor
    ·rintro(z|z|z)
     ·exact .inr z.1
     ·exact .inl z
     ·exact .inr z.1
    ·rintro(z|z)
     ·exact .inr (.inl z)
     ·rcases Int.lt_trichotomy y x with q|q|q
      ·exact .inl ⟨z,q⟩
      ·exact .inr (.inl q)
      ·exact .inr (.inr ⟨z,q⟩)
end
section
variable {f:Int->Int}{m:Nat}(F:OneOne f m) {a b:Int}(a0:0<=a) (a1:a<(m:Int)) (b0:0<=b) (b1:b<(m:Int)) (hout:b ∉ orb f a)
include F a0 a1 b0 b1 hout
end
section
variable {N:Nat}{ts:List (Int × Int)}{o:List (List Int)}(hW:WebOk (N:Int) ts) (hO:OrdOk (N:Int) ts o)
include hW hO
end
structure Own (N:Nat) (ts:List (Int × Int)) (S:Int->Bool):Prop where
 tie:∀t∈ts,S t.1=S t.2
theorem Zii {N:Nat}{ts:List (Int × Int)}{S:Int->Bool}(hW:WebOk (N:Int) ts) (hS:Own N ts S):∀k,k<=ts.length->∀p:Nat,p<N->S ((marksL N (ts.take k)).getD p 0)=S (p:Int)
 |0,_,p,hp=>by
  rw[List.take_zero];show S (((Waz N).map λi:Nat=>(i:Int)).getD p 0)=_;rw[Wad,Waf,Wc4 hp];rfl
 |k+1,hk,p,hp=>by
  have hlt:k<ts.length:=hk;have hl:=Zbi N (ts.take k);have ht:=hW.tie _ (Wba hlt);have ih:=Zii hW hS k (by omega);rw[Zcr (Waa hlt),Zc0 _ _ _ (by omega)];have s1:=ih ts[k].1.toNat (by omega);have s2:=ih ts[k].2.toNat (by omega);have st:=hS.tie _ (Wba hlt);rw[show ((ts[k].1.toNat:Nat):Int)=ts[k].1 by omega]at s1;rw[show ((ts[k].2.toNat:Nat):Int)=ts[k].2 by omega]at s2;split
  ·rename_i c
   have sp:=ih p hp;rw[c]at sp;rw[<- sp];unfold loI hiI;split <;> split
   all_goals first|rfl|rw[s2,s1,st]|rw[s1,s2,st]
  ·exact ih p hp
section
variable {N:Nat}{ts:List (Int × Int)}{o:List (List Int)}{S:Int->Bool}(hW:WebOk (N:Int) ts) (hO:OrdOk (N:Int) ts o) (hS:Own N ts S)
include hW hO hS
end
def OneP (N:Nat) (ts:List (Int × Int)):Prop:=∀ms,Firsts ms (marksL N ts)->ms.length<=1
def fRef:DSp:=λds Post=>∃n ts,ds=[encWeb n ts]/\WebOk n ts/\OneP n.toNat ts/\Post .non
def fCodeF:DSp:=λds Post=>∃n ts o,∃e:Nat,ds=[encWeb n ts,encOrd o,.int e]/\WebOk n ts/\OrdOk n ts o/\OneP n.toNat ts/\e<2*ts.length/\∀J,NumAt pI (fI ts o) (e:Int) J->Post (.tup ((numF ts o e J).map (cdP ts o (numF ts o e J))))
section
variable {P:Program}{w:World}{K:W.Frag}{mg:Str->Option Value}{base:Heap}{f:Addr}{fd:FuncData}
theorem Zpq (mb:Mb mg) (C44:Callee P w K mg base 1 "parts_of" ["web"] (spN K fParts)) (F:Fun K "refuse_parts" "refuse_parts" s_refuse_parts f fd):FnOk P w K mg base CX0 2 f fd ["web"] (spD K fRef):=by
 refine F.ok sc_refuse_parts (Zc3 λds Post h=>by obtain⟨_,_,rfl,_⟩:=h;rfl) (λcdv A outer s H vs Q E hr h=>?_);have hu:=Zbs hr;refine⟨_,(Zai (Zbz (Zat Ziu (Zaj (lenK K) rfl (mb "len" (by decide)) Zbr (Zaa (Za4 C44 (hr.mono (by decide)) (Zaa (pv 0) Zac)) Zac)) Zaf (nomark _)) Zkk Za0)),Zha (λds Post hf=>?_) h⟩;obtain⟨n,ts,rfl,hW,h1,q⟩:=hf;refine⟨by simp,?_⟩;dsimp only[startD,Wbe,Wbh,Wa3,Wae];refine Zcf (Za6 (Zaw (Zbx (Zab (Zbe (Zci (Zab (Zad rfl (Zag ⟨n,ts,rfl,hW,λms hm=>⟨_,rfl,?_⟩⟩)))))))));refine Zag (Zcw (Or.inl rfl) ?_);have:=h1 ms hm;rw[Wab,show (partsL n.toNat ts ms).length=ms.length from Wab _];refine Zar (Zhh ⟨_,rfl,?_⟩);rw[decide_eq_false (by omega)];exact iteF (Za3 q)
theorem Zlt (mb:Mb mg) (C46:Callee P w K mg base 2 "refuse_parts" ["web"] (spD K fRef)) (C40:Callee P w K mg base 3 "code_by" ["web","order","ends"] (spD K fCodeBy)) (C43:Callee P w K mg base 3 "numbered_from" ["web","order","end"] (spN K fNum)) (F:Fun K "code_from" "code_from" s_code_from f fd):FnOk P w K mg base CX0 4 f fd ["web","order","end"] (spD K fCodeF):=by
 refine F.ok sc_code_from (Zc3 λds Post h=>by obtain⟨_,_,_,_,rfl,_⟩:=h;rfl) (λcdv A outer s H vs Q E hr h=>?_);have hu:=Zbs hr;refine⟨_,(Zae (Zbv (Za4 C46 (hr.mono (by decide)) (Zaa (pv 0) Zac))) (Zai (Zaz (Za4 C40 (hr.mono (by decide)) (Zaa (pv 0) (Zaa (pv 1) (Zaa (Za4 C43 (hr.mono (by decide)) (Zaa (pv 0) (Zaa (pv 1) (Zaa (pv 2) Zac)))) Zac))))))),Zha (λds Post hf=>?_) h⟩;obtain⟨n,ts,o,e,rfl,hW,hO,h1,he,q⟩:=hf;refine⟨by simp,?_⟩;dsimp only[startD,Wbe,Wbh,Wa3,Wae];have hw:=hW.len;refine Zap (Zn8 (Zbf (Zab (Zad rfl (Zag ⟨n,ts,rfl,hW,h1,?_⟩)))));refine Zbo (Zbf (Zab (Zad rfl (Zab (Zad rfl (Zab (Zbe (Zci (Zab (Zad rfl (Zab (Zad rfl (Zab (Zad rfl (Zag ⟨n,ts,o,e,rfl,hW,hO,he,λJ hJ=>⟨_,rfl,?_⟩⟩)))))))))))))));have I:NumI pI (fI ts o) (2*ts.length) (e:Int) J (numF ts o e J):=Zfw (λx=>Zmc (m:=ts.length) x) (Zl9 hW hO) (by omega) (by omega) hJ.2;have Il:=Zfk I;refine Zag ⟨n,ts,o,_,rfl,hW,hO,by omega,λx hx=>?_,q J hJ⟩;have hr:=I.rg x hx;obtain⟨i,hi⟩:=Wbo.mp hx;have hil:=(Wag.mp hi).1;have eJ:(numF ts o e J).length=J:=hJ.1;have c:=I.cl i (by omega);rw[Wad,hi]at c;exact⟨hr.1,hr.2,c.1,c.2⟩
def mk (N:Nat) (ts:List (Int × Int)) (p:Int):Int:=(marksL N ts).getD p.toNat 0
theorem Zj0 {N:Nat}{ts:List (Int × Int)}(hW:WebOk (N:Int) ts) {g:Int->Int}(hg:∀t∈ts,g t.1=g t.2) {p:Int}(p0:0<=p) (p1:p<(N:Int)):g (mk N ts p)=g p:=by
 have:=Zii (S:=λx=>decide (g x=g p)) hW ⟨λt ht=>by rw[hg t ht]⟩ ts.length (Waj _) p.toNat (by omega);rw[Wbt,show ((p.toNat:Nat):Int)=p by omega,decide_eq_true rfl]at this;exact of_decide_eq_true this
theorem Zn9 {N:Nat}{ts:List (Int × Int)}(hW:WebOk (N:Int) ts) {g:Int->Int}(hg:∀t∈ts,g t.1=g t.2) {p q:Int}(p0:0<=p) (p1:p<(N:Int)) (q0:0<=q) (q1:q<(N:Int)) (h:mk N ts p=mk N ts q):g p=g q:=by
 rw[<- Zj0 hW hg p0 p1,<- Zj0 hW hg q0 q1,h]
theorem Zrk {N:Nat}{ts:List (Int × Int)}(hW:WebOk (N:Int) ts) {t:Int × Int}(ht:t∈ts):mk N ts t.1=mk N ts t.2:=Zmv hW ht
theorem Zne {N:Nat}{ts:List (Int × Int)}{p:Int}(p0:0<=p) (p1:p<(N:Int)):mk N ts p∈marksL N ts:=Zqh (by rw[Zbi];omega)
theorem Zlg {n:Int}{ts:List (Int × Int)}{o:List (List Int)}(hW:WebOk n ts) (hO:OrdOk n ts o) {p:Nat}{r:List Int}(hr:o[p]?=some r) {y:Int}(hy:y∈r):0<=y/\y<((2*ts.length:Nat):Int)/\rowAt ts o y.toNat=r/\folOf ts o y.toNat=nextIn r y:=by
 obtain⟨k,hk,hp,rfl⟩:=(hO.row p r hr).mem.mp hy;have er:rowAt ts o k=r:=by unfold rowAt;rw[hp,Waw,Wad,hr];rfl
 rw[Waw];refine⟨by omega,by omega,er,?_⟩;unfold folOf;rw[er]
end
theorem Zi3 {r:List Int}{S:Int->Prop}(hS:∀x∈r,S x->S (nextIn r x)) (nd:r.Nodup) {x:Int}(hx:x∈r) (h:S x):∀y∈r,S y:=by
 have step:∀k:Nat,S (r.getD ((r.idxOf x+k) % r.length) 0):=by
  intro k;have hl:0<r.length:=Wcy hx
  induction k with
  |zero=>
   obtain⟨h1,h2,_⟩:=Zcq hx;rw[Nat.add_zero,Nat.mod_eq_of_lt h1,Wad,h2];exact h
  |succ k ih=>
   have hm:(r.idxOf x+k) % r.length<r.length:=Wda _ hl;have hin:r.getD ((r.idxOf x+k) % r.length) 0∈r:=by rw[Wad,Waa hm];exact Wba hm
   have e:=hS _ hin ih;have ei:r.idxOf (r.getD ((r.idxOf x+k) % r.length) 0)=(r.idxOf x+k) % r.length:=Zqx nd (by rw[Wad,Waa hm];rfl);unfold nextIn at e;rw[ei]at e;have e2:((r.idxOf x+k) % r.length+1) % r.length=(r.idxOf x+(k+1)) % r.length:=by rw[Nat.mod_add_mod,Nat.add_assoc]
   rw[e2]at e;exact e
 intro y hy;obtain⟨h1,h2,_⟩:=Zcq hx;obtain⟨g1,g2,_⟩:=Zcq hy;have:=step (r.idxOf y+r.length-r.idxOf x);rw[show r.idxOf x+(r.idxOf y+r.length-r.idxOf x)=r.idxOf y+r.length by omega,Nat.add_mod_right,Nat.mod_eq_of_lt g1,Wad,g2]at this;exact this
theorem Znx {N:Nat}{ts:List (Int × Int)}(h:OneP N ts) {p q:Int}(p0:0<=p) (p1:p<(N:Int)) (q0:0<=q) (q1:q<(N:Int)):mk N ts p=mk N ts q:=by
 obtain⟨ms,hm⟩:=Zg8 (marksL N ts);have hl:=h ms hm;have a:=(hm.2 _).mpr (Zne (ts:=ts) p0 p1);have b:=(hm.2 _).mpr (Zne (ts:=ts) q0 q1)
 match ms,hl,a,b with
 |[c],_,a,b=>rw[Was]at a b;rw[a,b]
 |[],_,a,_=>cases a
theorem Zjr {N:Nat}{ts:List (Int × Int)}{o:List (List Int)}(hW:WebOk (N:Int) ts) (hO:OrdOk (N:Int) ts o) (h1:OneP N ts) {S:Int->Prop}(hp:∀x:Nat,x<2*ts.length->S (x:Int)->S (partner x:Int)) (hf:∀x:Nat,x<2*ts.length->S (x:Int)->S (folOf ts o x)) {e:Nat}(he:e<2*ts.length) (hS:S (e:Int)):∀x:Nat,x<2*ts.length->S (x:Int):=by
 have place:∀x y:Nat,x<2*ts.length->y<2*ts.length->placeAt ts x=placeAt ts y->S (x:Int)->S (y:Int):=by
  intro x y hx hy exy sx;obtain⟨g1,g2,g3⟩:=Zdz hW hO hx;obtain⟨k1,k2,k3⟩:=Zdz hW hO hy;have er:rowAt ts o y=rowAt ts o x:=by rw[exy]at g1;rw[g1]at k1;exact(Wa5.inj k1).symm
  rw[er]at k3;refine Zi3 (S:=S) (λz hz sz=>?_) g2.nodup g3 sx _ k3;obtain⟨z0,z1,_,zf⟩:=Zlg hW hO g1 hz;have:=hf z.toNat (by omega) (by rw[Wb6 z0];exact sz);rw[zf]at this;exact this
 classical
 have hg:∀t∈ts,(λp:Int=>if ∃y:Nat,y<2*ts.length/\S (y:Int)/\placeAt ts y=p then (1:Int) else 0) t.1=(λp:Int=>if ∃y:Nat,y<2*ts.length/\S (y:Int)/\placeAt ts y=p then (1:Int) else 0) t.2:=λt ht=>by
  obtain⟨i,hi⟩:=Wbo.mp ht;have hil:=(Wag.mp hi).1;have pa:placeAt ts (2*i)=t.1:=by unfold placeAt;rw[show 2*i / 2=i by omega,hi];simp
  have pb:placeAt ts (2*i+1)=t.2:=by unfold placeAt;rw[show (2*i+1) / 2=i by omega,hi];simp
  have q1:partner (2*i)=2*i+1:=by unfold partner;split <;> omega
  have q2:partner (2*i+1)=2*i:=by unfold partner;split <;> omega
  show (if _ then (1:Int) else 0)=if _ then 1 else 0
  have:(∃y:Nat,y<2*ts.length/\S (y:Int)/\placeAt ts y=t.1) ↔ ∃y:Nat,y<2*ts.length/\S (y:Int)/\placeAt ts y=t.2:=by
   constructor
   ·rintro⟨y,h1,h2,h3⟩
    have:=hp (2*i) (by omega) (place y (2*i) h1 (by omega) (h3.trans pa.symm) h2);rw[q1]at this;exact⟨2*i+1,by omega,this,pb⟩
   ·rintro⟨y,h1,h2,h3⟩
    have:=hp (2*i+1) (by omega) (place y (2*i+1) h1 (by omega) (h3.trans pb.symm) h2);rw[q2]at this;exact⟨2*i,by omega,this,pa⟩
  by_cases c:∃y:Nat,y<2*ts.length/\S (y:Int)/\placeAt ts y=t.1
  ·rw[if_pos c,if_pos (this.mp c)]
  ·rw[if_neg c,if_neg λz=>c (this.mpr z)]
 intro x hx;obtain⟨p0,p1⟩:=Zdq hW he;obtain⟨q0,q1⟩:=Zdq hW hx;have:=Zn9 (g:=(λp:Int=>if ∃y:Nat,y<2*ts.length/\S (y:Int)/\placeAt ts y=p then (1:Int) else 0)) hW hg p0 p1 q0 q1 (Znx h1 p0 p1 q0 q1);have this:(if ∃y:Nat,y<2*ts.length/\S (y:Int)/\placeAt ts y=placeAt ts e then (1:Int) else 0)=if ∃y:Nat,y<2*ts.length/\S (y:Int)/\placeAt ts y=placeAt ts x then 1 else 0:=this
 rw[if_pos ⟨e,he,hS,rfl⟩]at this;by_cases c:∃y:Nat,y<2*ts.length/\S (y:Int)/\placeAt ts y=placeAt ts x
 ·obtain⟨y,h1,h2,h3⟩:=c
  exact place y x h1 hx h3 h2
 ·rw[if_neg c]at this;omega
section
variable {P:Program}{w:World}{K:W.Frag}{mg:Str->Option Value}{base:Heap}{f:Addr}{fd:FuncData}
theorem eqL {α:Type}[DecidableEq α] (f:α -> D) (n:Nat) (h:∀x y,eqF n (f x) (f y)=decide (x=y)):∀a b:List α,((a.map f).length == (b.map f).length && ((a.map f).zip (b.map f)).all λp=>eqF n p.1 p.2)=decide (a=b)
 |[],[]=>rfl
 |[],y::b=>by rw[decide_eq_false (by simp)];rfl
 |x::a,[]=>by rw[decide_eq_false (by simp)];rfl
 |x::a,y::b=>by
  have ih:=eqL f n h a b;rw[Wbf,Wbf,Wam,Wam,Wby,Wcw,h];have e:((a.map f).length+1 == (b.map f).length+1)=((a.map f).length == (b.map f).length):=by
   rw[Wb4,beq_iff_eq,beq_iff_eq];omega
  rw[e];by_cases c:x=y
  ·rw[decide_eq_true c,Wc9,ih]
   by_cases c2:a=b
   ·rw[decide_eq_true c2,decide_eq_true (by rw[c,c2])]
   ·rw[decide_eq_false c2,decide_eq_false (λz=>c2 (List.cons.inj z).2)]
  ·rw[decide_eq_false c,Wct,Bool.and_false,decide_eq_false (λz=>c (List.cons.inj z).1)]
end
noncomputable def numS (ts:List (Int × Int)) (o:List (List Int)) (e:Nat):List Int:=by
 classical exact if h:∃J,NumAt pI (fI ts o) (e:Int) J then numF ts o e (Classical.choose h) else []
theorem Zfq {ts:List (Int × Int)}{o:List (List Int)}{e J:Nat}(h:NumAt pI (fI ts o) (e:Int) J):numF ts o e J=numS ts o e:=by
 have hx:∃J,NumAt pI (fI ts o) (e:Int) J:=⟨J,h⟩;unfold numS;rw[dif_pos hx,Zl5 h (Classical.choose_spec hx)]
structure NumOk (ts:List (Int × Int)) (o:List (List Int)) (e:Nat) (l:List Int):Prop where
 nd:l.Nodup
 len:l.length<=2*ts.length
 here:(e:Int)∈l
 cl:∀x∈l,0<=x/\x<((2*ts.length:Nat):Int)/\pI x∈l/\fI ts o x∈l
theorem Zgx {n:Int}{ts:List (Int × Int)}{o:List (List Int)}(hW:WebOk n ts) (hO:OrdOk n ts o) {e J:Nat}(he:e<2*ts.length) (hJ:NumAt pI (fI ts o) (e:Int) J):NumOk ts o e (numS ts o e):=by
 rw[<- Zfq hJ];have I:NumI pI (fI ts o) (2*ts.length) (e:Int) J (numF ts o e J):=Zfw (λx=>Zmc (m:=ts.length) x) (Zl9 hW hO) (by omega) (by omega) hJ.2;refine⟨I.nd,Zfk I,?_,λx hx=>?_⟩
 ·have:=Zho I.he.2;rw[I.he.1]at this;exact this
 have hr:=I.rg x hx;obtain⟨i,hi⟩:=Wbo.mp hx;have hil:=(Wag.mp hi).1;have eJ:(numF ts o e J).length=J:=hJ.1;have c:=I.cl i (by omega);rw[Wad,hi]at c;exact⟨hr.1,hr.2,c.1,c.2⟩
theorem Zmo {N:Nat}{ts:List (Int × Int)}{o:List (List Int)}(hW:WebOk (N:Int) ts) (hO:OrdOk (N:Int) ts o) (h1:OneP N ts) {e:Nat}(he:e<2*ts.length) {l:List Int}(hl:NumOk ts o e l):(∀x:Nat,x<2*ts.length->(x:Int)∈l)/\l.length=2*ts.length:=by
 have all:=Zjr hW hO h1 (S:=λx=>x∈l) (λx _ sx=>(hl.cl x sx).2.2.1) (λx _ sx=>(hl.cl x sx).2.2.2) he hl.here;refine⟨all,?_⟩;have:=Zd1 (l:=(Waz (2*ts.length)).map λi:Nat=>(i:Int)) (m:=l) (by
  rw[List.nodup_iff_pairwise_ne,List.pairwise_map];exact List.pairwise_lt_range.imp λh=>by omega) λx hx=>by
   obtain⟨i,hi,rfl⟩:=Wbm.mp hx;exact all i (Wca.mp hi)
 rw[Wab,Wbv]at this;have:=hl.len;omega
noncomputable def cdL (ts:List (Int × Int)) (o:List (List Int)) (l:List Int):List (Int × Int):=l.map λx=>(((l.idxOf (pI x):Nat):Int),((l.idxOf (folOf ts o x.toNat):Nat):Int))
theorem Zn2 (ts:List (Int × Int)) (o:List (List Int)) (l:List Int):l.map (cdP ts o l)=(cdL ts o l).map encTie:=by unfold cdL;rw[Wa1];rfl
theorem Zkc (ts:List (Int × Int)) (o:List (List Int)) (l:List Int):(cdL ts o l).length=l.length:=Wab _
theorem Zo8 (x y:Int × Int):eqF 2 (encTie x) (encTie y)=decide (x=y):=by
 show (true && ((x.1 == y.1) && ((x.2 == y.2) && true)))=_;rw[Wb4];simp[Prod.ext_iff]
theorem Zm9 (A B:List (Int × Int)):eqF 3 (.tup (A.map encTie)) (.tup (B.map encTie))=decide (A=B):=eqL encTie 2 Zo8 A B
theorem Zkw (A:List (Int × Int)):Dp 3 (.tup (A.map encTie)):=λd hd=>by
 obtain⟨t,_,rfl⟩:=Wbm.mp hd;intro d hd;rcases Wan.mp hd with rfl|hd
 ·trivial
 ·rcases Wan.mp hd with rfl|hd
  ·trivial
  ·cases hd
noncomputable def namesR (ts:List (Int × Int)) (o:List (List Int)) (us:List (Int × Int)) (v:List (List Int)) (e:Nat):List Int:=(Waz (2*ts.length)).map λk:Nat=>(numS us v e).getD ((numS ts o 0).idxOf (k:Int)) 0
noncomputable def renL (ts:List (Int × Int)) (o:List (List Int)) (us:List (Int × Int)) (v:List (List Int)):List (List Int):=
 if ts.length=0 then (if us.length=0 then [[]] else []) else ((Waz (2*us.length)).filter λe=>decide (cdL us v (numS us v e)=cdL ts o (numS ts o 0))).map (namesR ts o us v)
def fRen:NSp:=λds Post=>∃(N:Nat) (ts:List (Int × Int)) (o:List (List Int)) (M:Nat) (us:List (Int × Int)) (v:List (List Int)),ds=[encWeb (N:Int) ts,encOrd o,encWeb (M:Int) us,encOrd v]/\WebOk (N:Int) ts/\OrdOk (N:Int) ts o/\OneP N ts/\WebOk (M:Int) us/\OrdOk (M:Int) us v/\Post ((renL ts o us v).map rowD)
section
variable {P:Program}{w:World}{K:W.Frag}{mg:Str->Option Value}{base:Heap}{f:Addr}{fd:FuncData}
theorem Zms {Δ:Evt}{c:TT}{ta tb:TE}{Po:OD->Evt->Prop}(h:JT K c Δ λb Δ1=>if b=true then JO K ta Δ1 Po else JO K tb Δ1 Po):JO K (tIf c ta tb) Δ Po:=λg G H σ Q k q=>
 h g G H σ _ k λb G1 H1 Δ1 k1 s1 p1=>by
  cases b with
  |true=>exact(show JO K ta Δ1 Po from p1) g G1 H1 σ Q k1 λa od G2 H2 Δ2 k2 s2 pd p=>q a od G2 H2 Δ2 k2 (s1.trans s2) pd p
  |false=>exact(show JO K tb Δ1 Po from p1) g G1 H1 σ Q k1 λa od G2 H2 Δ2 k2 s2 pd p=>q a od G2 H2 Δ2 k2 (s1.trans s2) pd p
theorem Zjp (ds:List (Int × Int)):truD (.tup (ds.map encTie))=some (!decide (ds.length=0)):=by
 cases ds <;> rfl
theorem Zre (mb:Mb mg) (C43:Callee P w K mg base 3 "numbered_from" ["web","order","end"] (spN K fNum)) (C40:Callee P w K mg base 3 "code_by" ["web","order","ends"] (spD K fCodeBy)) (F:Fun K "renamings" "renamings" s_renamings f fd):FnOk P w K mg base CX0 4 f fd ["one","order","other","its_order"] (spN K fRen):=by
 refine F.ok sc_renamings (Zew λds Post h=>by obtain⟨_,_,_,_,_,_,rfl,_⟩:=h;rfl) (λcdv A outer s H vs Q E hr h=>?_);have hu:=Zbs hr;have hv:=Zi9 hr;refine⟨_,(Zae (Zbz (Znn (truK K (Zam (ixK K hu) (pv 0) Zaf (λ_ _=>rfl)) (λ_=>rfl))) (Zai (Zaz (Zfv (truK K (Zam (ixK K hu) (pv 2) Zaf (λ_ _=>rfl)) (λ_=>rfl)) (Zbg Zac) (Zbg (Zaa (Zb6 Zac) Zac))))) Za0) (Zae (Zaq (i:=4) sc_renamings.nd rfl (Or.inr rfl) (Za4 C43 (hr.mono (by decide)) (Zaa (pv 0) (Zaa (pv 1) (Zaa Zaf Zac))))) (Zae (Zaq (i:=5) sc_renamings.nd rfl (Or.inl rfl) (Za4 C40 (hr.mono (by decide)) (Zaa (pv 0) (Zaa (pv 1) (Zaa (pv 4) Zac))))) (Zae (Zaq (i:=6) sc_renamings.nd rfl (Or.inl rfl) (Zbg Zac)) (Zae (Zc2 PassesOwn.never rfl (Za7 rfl (mb "range" (by decide)) (Zaa (Zav Zc6 Zaf (Zaj (lenK K) rfl (mb "len" (by decide)) Zbr (Zaa (Zam (ixK K hu) (pv 2) Zaf (λ_ _=>rfl)) Zac))) Zac)) (Zas (i:=7) sc_renamings.nd rfl (Or.inl rfl)) (Zae (Zaq (i:=8) sc_renamings.nd rfl (Or.inr rfl) (Za4 C43 (hr.mono (by decide)) (Zaa (pv 2) (Zaa (pv 3) (Zaa (pv 7) Zac))))) (Zai (Zbz (Zat (eqDK K hv) (Za4 C40 (hr.mono (by decide)) (Zaa (pv 2) (Zaa (pv 3) (Zaa (pv 8) Zac)))) (pv 5) (nomark _)) (Zai (Zbv (bmK K PySem.F.plainAttrs_list PySem.F.slot_list_append PySem.F.type_list_append Zc1 (pv 6) (Zaa (Zcb (tupK K) rfl (mb "tuple" (by decide)) Zdc (Zaa (Zb1 ["old"] (show CompSc (defScope s_renamings) ["one","order","other","its_order","ends","own","told","end","its_ends"] _ ["ends","its_ends"] [4,8] from ⟨rfl,by decide +kernel,by decide +kernel,by decide +kernel,rfl,by decide +kernel⟩) rfl (Za7 rfl (mb "range" (by decide)) (Zaa (Zaj (lenK K) rfl (mb "len" (by decide)) Zbr (Zaa (pv 4) Zac)) Zac)) (λ_ _ _ _ _=>(Zas (i:=0) (show List.Nodup (["old","ends","its_ends"]:List Str) from by decide) rfl (Or.inl rfl))) (λ_ _ _ _ _=>Zb8) (λ_ _ _ _ _=>(Zam (ixK K hu) (pv 2) (bmK K PySem.F.plainAttrs_list PySem.F.slot_list_index PySem.F.type_list_index (idxLK K) (pv 1) (Zaa (pv 0) Zac)) (λ_ _=>rfl)))) Zac)) Zac)))) Za0)))) (Zai (Zaz (pv 6)))))))),Zla (λds Post hf=>?_) h⟩;obtain⟨N,ts,o,M,us,v,rfl,hW,hO,h1,hV,hU,q⟩:=hf;refine⟨by simp,?_⟩;dsimp only[startD,Wbe,Wbh,Wa3,Wae];have hw:=hW.len;have hw2:=hV.len;refine Za8 (λΔ=>ts.length≠0 /\ Δ = [.val (encWeb (N:Int) ts),.val (encOrd o),.val (encWeb (M:Int) us),.val (encOrd v),.any,.any,.any,.any,.any]) ?_ ?_
 ·refine Zcf (Zkj (Zey (Zbn (Zbu rfl (Zgp (N:Int) ts)) ⟨_,Zjp ts,?_⟩)))
  by_cases z:ts.length=0
  ·rw[decide_eq_true z]
   have er:renL ts o us v=if us.length=0 then [[]] else []:=by unfold renL;rw[if_pos z]
   refine iteT (Zd0 (Zms (Zey (Zbn (Zbu rfl (Zgp (M:Int) us)) ⟨_,Zjp us,?_⟩))));by_cases y:us.length=0
   ·rw[decide_eq_true y]
    rw[if_pos y]at er;rw[er]at q;exact iteF (Zeb (Zab (Zdo (Zag ⟨by decide,Zag ⟨by show 1<=sizeLine;decide,_,rfl,q⟩⟩))))
   ·rw[decide_eq_false y]
    rw[if_neg y]at er;rw[er]at q;exact iteT (Zeb (Zag ⟨by decide,_,rfl,q⟩))
  ·rw[decide_eq_false z]
   exact iteF (Za3 ⟨z,rfl⟩)
 rintro Δ1 ⟨hz,rfl⟩;have he0:0<2*ts.length:=by omega
 refine Zap (Zax (Zbe (Zci (Zab (Zad rfl (Zab (Zad rfl (Zab (Zar (Zag ⟨(N:Int),ts,o,0,rfl,hW,hO,he0,λJ hJ=>⟨_,rfl,?_⟩⟩))))))))));have A0:=Zgx hW hO he0 hJ;rw[Zfq hJ];obtain⟨full,fl⟩:=Zmo hW hO h1 he0 A0;refine Zap (Zax (Zbf (Zcu (Zah (Zak rfl) (Zah (Zak rfl) (Zah (Zak rfl) Za1))) ⟨(N:Int),ts,o,_,rfl,hW,hO,by have:=A0.len;omega,A0.cl,?_⟩)));rw[Zn2];refine Zap (Zd8 (Zeb (Zag ⟨by decide,?_⟩)));refine Za8 (λΔ=>∃x7 x8:L2.Slot,Δ = [.val (encWeb (N:Int) ts),.val (encOrd o),.val (encWeb (M:Int) us),.val (encOrd v),.val (.lst ((numS ts o 0).map .int)),.val (.tup ((cdL ts o (numS ts o 0)).map encTie)),.own (.lst ((renL ts o us v).map rowD)),x7,x8]) ?_ ?_
 ·refine Zc7 (Za5 (Zab (Zbn (Zbw Zay (Zgg (Zbu rfl (Zgp (M:Int) us))) (pr_I (Or.inl ⟨by decide,by decide⟩))) (Zag ⟨_,rfl,?_,?_,?_⟩))))
  ·rw[Wab];omega
  ·rw[Wab];omega
  rw[Wab,show (2*(us.length:Int)).toNat=2*us.length by omega];refine⟨λi Δ=>∃x7 x8:L2.Slot,Δ = [.val (encWeb (N:Int) ts),.val (encOrd o),.val (encWeb (M:Int) us),.val (encOrd v),.val (.lst ((numS ts o 0).map .int)),.val (.tup ((cdL ts o (numS ts o 0)).map encTie)),.own (.lst ((((Waz i).filter λe=>decide (cdL us v (numS us v e)=cdL ts o (numS ts o 0))).map (namesR ts o us v)).map rowD)),x7,x8],⟨_,_,rfl⟩,?_,?_⟩
  ·rintro i d Δ2 hd ⟨x7,x8,rfl⟩
   obtain⟨hi,rfl⟩:=Zbd hd;rw[Wbq];refine Zbt (Zap (Zax (Zbe (Zci (Zab (Zad rfl (Zab (Zad rfl (Zab (Zad rfl (Zag ⟨(M:Int),us,v,i,rfl,hV,hU,hi,λJ' hJ'=>⟨_,rfl,?_⟩⟩)))))))))));have A1:=Zgx hV hU hi hJ';rw[Zfq hJ'];have rs:(Waz (i+1)).filter (λe=>decide (cdL us v (numS us v e)=cdL ts o (numS ts o 0)))=(Waz i).filter (λe=>decide (cdL us v (numS us v e)=cdL ts o (numS ts o 0)))++if cdL us v (numS us v i)=cdL ts o (numS ts o 0) then [i] else []:=by
    rw[List.range_succ,Wbr];congr 1;by_cases c:cdL us v (numS us v i)=cdL ts o (numS ts o 0)
    ·rw[if_pos c];simp[c]
    ·rw[if_neg c];simp[c]
   refine Zcf (Za6 (Zaw (Zbf (Zcu (Zah (Zak rfl) (Zah (Zak rfl) (Zah (Zak rfl) Za1))) ⟨(M:Int),us,v,_,rfl,hV,hU,by have:=A1.len;omega,A1.cl,?_⟩))));rw[Zn2];refine Zad rfl (Zro (n:=3) (by omega) (Zkw _) (Zkw _) rfl rfl ⟨_,rfl,?_⟩);rw[Zm9];by_cases c:cdL us v (numS us v i)=cdL ts o (numS ts o 0)
   ·rw[decide_eq_true c]
    have ll:(numS us v i).length=(numS ts o 0).length:=by have:=congrArg Wa3 c;rw[Zkc,Zkc]at this;exact this
    refine iteT (Zjj rfl rfl (Zbx (Zab (Zbp (by decide) (Za5 (Zab (Zbn (Znr (Zak rfl)) (Zag ⟨_,rfl,by omega,?_,?_⟩))))))))
    ·rw[Wab];omega
    rw[Wab,Waw];refine⟨by rw[Za2];exact small1000 (by omega),λ_=>true,λd=>.int ((numS us v i).getD ((numS ts o 0).idxOf (intD d)) 0),λk d hd=>?_,?_⟩
    ·obtain⟨hk,rfl⟩:=Zbd hd
     rw[Wbq];have mem:=full k (by omega);have ik:=(Zcq mem).1;refine Zb5 ⟨rfl,Zaw (Zad rfl (Zet (Zad rfl ⟨numS ts o 0,rfl,by omega,Zad rfl ⟨_,rfl,mem,Zbk (d:=.int ((numS us v i).getD ((numS ts o 0).idxOf (k:Int)) 0)) (Zby ?_) ⟨rfl,_,rfl⟩⟩⟩)))⟩;rw[Waf,Wad,Waa (by omega)];rfl
    have e6:((rngD 0 (numS ts o 0).length).filter λ_=>true).map (λd=>D.int ((numS us v i).getD ((numS ts o 0).idxOf (intD d)) 0))=(namesR ts o us v i).map D.int:=by
     rw[Wb5.mpr (by simp),fl];unfold namesR rngD;rw[Wa1,Wa1];exact Wcq λk _=>by show D.int ((numS us v i).getD ((numS ts o 0).idxOf (0+(k:Int))) 0)=_;rw[Wbq];rfl
    rw[e6];refine Zag (Zec (Or.inl rfl) ⟨_,_,rfl,rfl,?_,.val (.int (i:Int)),.val (.lst ((numS us v i).map .int)),?_⟩)
    ·rw[Wab,Wab]
     exact small1000 (Wbi (Wcz _ _) (by rw[Wbv];omega))
    ·rw[rs,if_pos c,Wa6,Wa6];rfl
   ·rw[decide_eq_false c]
    refine iteF (Za3 ⟨.val (.int (i:Int)),.val (.lst ((numS us v i).map .int)),?_⟩);rw[rs,if_neg c,Wbc];rfl
  ·rintro Δ2 ⟨x7,x8,rfl⟩
   rw[Za2];refine⟨x7,x8,?_⟩;unfold renL;rw[if_neg hz]
 rintro Δ1 ⟨x7,x8,rfl⟩;exact Zd0 (Zng rfl ⟨_,rfl,q⟩)
end
section
variable {N:Nat}{ts:List (Int × Int)}{o:List (List Int)}(hW:WebOk (N:Int) ts) (hO:OrdOk (N:Int) ts o) (h1:OneP N ts)
include hW hO
include h1
end
section
variable {N:Nat}{ts:List (Int × Int)}{o:List (List Int)}(hW:WebOk (N:Int) ts) (hO:OrdOk (N:Int) ts o)
variable {us:List (Int × Int)}{v:List (List Int)}{σ:Int->Int}
include hW hO
end
section
variable {N:Nat}{ts:List (Int × Int)}{o:List (List Int)}(hW:WebOk (N:Int) ts) (hO:OrdOk (N:Int) ts o) (h1:OneP N ts)
variable {M:Nat}{us:List (Int × Int)}{v:List (List Int)}(hV:WebOk (M:Int) us) (hU:OrdOk (M:Int) us v) (h2:OneP M us)
include hW hO
include h1 hV hU h2
end
theorem one_part {N:Nat}{ts:List (Int × Int)}(hW:WebOk (N:Int) ts) (h:∀k:Nat,k+1<N->∃t∈ts,∃j:Nat,j<=k/\(t=((j:Int),(k:Int)+1)\/t=((k:Int)+1,(j:Int)))):OneP N ts:=by
 have all:∀p:Nat,p<N->mk N ts (p:Int)=mk N ts 0:=by
  intro p
  induction p using Nat.strongRecOn with
  |_ p ih=>
   intro hp;cases p with
   |zero=>rfl
   |succ k=>
    obtain⟨t,ht,j,hj,e⟩:=h k hp;have m:=Zrk hW ht;have ek:((k+1:Nat):Int)=(k:Int)+1:=by omega
    rw[ek];rcases e with rfl|rfl
    ·exact m.symm.trans (ih j (by omega) (by omega))
    ·exact m.trans (ih j (by omega) (by omega))
 intro ms hm
 match ms,hm with
 |[],_=>exact Wb8 _
 |[a],_=>exact Waj _
 |a::b::r,hm=>
  exfalso
  have one:∀x∈a::b::r,x=mk N ts 0:=λx hx=>by
   have:=(hm.2 x).mp hx;obtain⟨i,hi⟩:=Wbo.mp this;have hl:=(Wag.mp hi).1;rw[Zbi]at hl;have:=all i hl;unfold mk at this ⊢;rw[Waw,Wad,hi]at this;exact this
  have hs:=hm.1;rw[Wc7]at hs;have l:=hs.1 b Wa8;have e1:=one a Wa8;have e2:=one b (Wau _ Wa8);omega
def fOneP:BSp:=λps ds Post=>Pen ps/\∃L:Int,ds=[.int L]/\0<=L/\L<=24/\∀(N:Nat) (ts:List (Int × Int)) ps',Pen ps' -> WebOk (N:Int) ts->OneP N ts->Post (encWeb (N:Int) ts) ps'
def Hng (n:Int) (k:Nat) (u v:Int):Prop:=(k:Int)+1<n->∃j:Nat,j<=k/\((u=(j:Int)/\v=(k:Int)+1)\/(u=(k:Int)+1/\v=(j:Int)))
def p1St (ps:List D) (L c way n:Int) (r:List L2.Slot):Evt:=.bor (.lst ps)::.val (.int L)::.val (.int c)::.val (.int way)::.val (.int n)::r
def p1N (ps:List D) (L c way:Int):Evt->Prop:=λΔ=>∃n:Int,1<=n/\n<=25/\n<=c+1 /\ Δ = p1St ps L c way n [.any,.any,.any,.any]
def p1L (L c way n:Int) (i:Nat):Evt->Prop:=λΔ=>∃(ps:List D) (ts:List (Int × Int)) (x6 x7 x8:L2.Slot),Pen ps/\ts.length=i/\(∀t∈ts,0<=t.1/\t.1<n/\0<=t.2/\t.2<n)/\(∀k:Nat,k<i->∃t∈ts,Hng n k t.1 t.2) /\ Δ = p1St ps L c way n [.own (.lst (ts.map encTie)),x6,x7,x8]
def p1Q (L c way n:Int) (i:Nat) (fs:List D):Evt->Prop:=λΔ=>∃(ps:List D) (u v:Int),Pen ps/\0<=u/\u<n/\0<=v/\v<n/\Hng n i u v /\ Δ = p1St ps L c way n [.own (.lst fs),.val (.int (i:Int)),.val (.int u),.val (.int v)]
section
variable {P:Program}{w:World}{K:W.Frag}{mg:Str->Option Value}{base:Heap}{f:Addr}{fd:FuncData}
theorem Zny (mb:Mb mg) (C29:Callee P w K mg base 1 "_law_draw" ["_law_pen_here","_law_many"] (spB K fDraw)) (F:Fun K "_law_one_part" "_law_one_part" s_law_one_part f fd):FnOk P w K mg base CX0 2 f fd ["_law_pen_here","_law_limit"] (spB K fOneP):=by
 refine F.ok sc_law_one_part (Zgj λps ds Post h=>by obtain⟨_,a,rfl,_⟩:=h;rfl) (λcdv A outer s H vs Q E hr h=>?_);have hu:=Zbs hr;refine⟨_,(Zae (Zaq (i:=2) sc_law_one_part.nd rfl (Or.inl rfl) (Za4 C29 (hr.mono (by decide)) (Zaa (pv 0) (Zaa (Zav (addK K) (pv 1) Zaf) Zac)))) (Zae (Zaq (i:=3) sc_law_one_part.nd rfl (Or.inl rfl) (Za4 C29 (hr.mono (by decide)) (Zaa (pv 0) (Zaa Zaf Zac)))) (Zae (Zaq (i:=4) sc_law_one_part.nd rfl (Or.inl rfl) (Zaj (Zcx rfl) rfl (mb "min" (by decide)) Zff (Zaa Zaf (Zaa (Zav (addK K) Zaf (Za4 C29 (hr.mono (by decide)) (Zaa (pv 0) (Zaa (Zav (addK K) (pv 2) Zaf) Zac)))) Zac)))) (Zae (Zbz (PW.pt (pw_or (Zat Zb3 (pv 3) Zaf (nomark _)) (pw_or1 (Zat Zb3 (pv 3) Zaf (nomark _))))) (Zai (Zaq (i:=4) sc_law_one_part.nd rfl (Or.inl rfl) (Zav (addK K) Zaf (pv 2)))) Za0) (Zae (Zbz (Zat Zb3 (pv 3) Zaf (nomark _)) (Zai (Zaq (i:=4) sc_law_one_part.nd rfl (Or.inl rfl) (Zaj (Zdn rfl) rfl (mb "max" (by decide)) Zic (Zaa Zaf (Zaa (pv 2) Zac))))) Za0) (Zae (Zaq (i:=5) sc_law_one_part.nd rfl (Or.inl rfl) (Zbg Zac)) (Zae (Zc2 PassesOwn.never rfl (Za7 rfl (mb "range" (by decide)) (Zaa (pv 2) Zac)) (Zas (i:=6) sc_law_one_part.nd rfl (Or.inl rfl)) (Zae (Zex (i:=7) (j:=8) rfl sc_law_one_part.nd rfl rfl (by decide) rfl rfl (Zaa (Za4 C29 (hr.mono (by decide)) (Zaa (pv 0) (Zaa (pv 4) Zac))) (Zaa (Za4 C29 (hr.mono (by decide)) (Zaa (pv 0) (Zaa (pv 4) Zac))) Zac)) rfl) (Zae (Zbz (Zat Zoi (Zav (addK K) (pv 6) Zaf) (pv 4) (nomark _)) (Zai (Zex (i:=7) (j:=8) rfl sc_law_one_part.nd rfl rfl (by decide) rfl rfl (Zaa (Zam (ixK K hu) (Zbg (Zaa (Za4 C29 (hr.mono (by decide)) (Zaa (pv 0) (Zaa (Zav (addK K) (pv 6) Zaf) Zac))) (Zaa (pv 6) (Zaa Zaf Zac)))) (Zam (ixK K hu) (Zbg (Zaa Zaf (Zaa Zaf (Zaa Zaf (Zaa Zaf (Zaa Zaf Zac)))))) (pv 3) (λ_ _=>rfl)) (λ_ _=>rfl)) (Zaa (Zav (addK K) (pv 6) Zaf) Zac)) rfl)) (Zai (Zbz (Zat Zb3 (pv 3) Zaf (nomark _)) (Zai (Zex (i:=7) (j:=8) rfl sc_law_one_part.nd rfl rfl (by decide) rfl rfl (Zaa (Zav Zno (pv 4) Zaf) (Zaa Zaf Zac)) rfl)) Za0))) (Zae (Zbz (Zat Zb3 (Za4 C29 (hr.mono (by decide)) (Zaa (pv 0) (Zaa Zaf Zac))) Zaf (nomark _)) (Zai (Zex (i:=7) (j:=8) rfl sc_law_one_part.nd rfl rfl (by decide) rfl rfl (Zaa (pv 8) (Zaa (pv 7) Zac)) rfl)) Za0) (Zai (Zbv (bmK K PySem.F.plainAttrs_list PySem.F.slot_list_insert PySem.F.type_list_insert Zg7 (pv 5) (Zaa (Za4 C29 (hr.mono (by decide)) (Zaa (pv 0) (Zaa (Zav (addK K) (Zaj (lenK K) rfl (mb "len" (by decide)) Zbr (Zaa (pv 5) Zac)) Zaf) Zac))) (Zaa (Zb6 (Zaa (pv 7) (Zaa (pv 8) Zac))) Zac))))))))) (Zai (Zaz (Zb6 (Zaa (pv 4) (Zaa (Zcb (tupK K) rfl (mb "tuple" (by decide)) Zdc (Zaa (pv 5) Zac)) Zac)))))))))))),Zmr (λps ds Post hf=>?_) h⟩;obtain⟨hp,L,rfl,L0,L1,q⟩:=hf;refine⟨by simp,?_⟩;dsimp only[cxOf,startD,Wbe,Wbh,Wa3,Wae];refine Zap (Zax (Zc9 rfl rfl (Zab (Zbn (Zbw (Zak rfl) Zay Zco) (Zag (Zbm (m:=L+1) rfl rfl hp (by omega) (by omega) λc ps1 hp1 c0 c1=>?_))))));refine Zap (Zax (Zmp rfl rfl hp1 (by decide) (by decide) λway ps2 hp2 w0 w1=>?_));refine Zap (Zax (Zbx (Zab (Zar (Zab (Zaw (Zar (Zc9 rfl rfl (Zab (Zbn (Zbw (Zak rfl) Zay Zco) (Zag (Zbm (m:=c+1) rfl rfl hp2 (by omega) (by omega) λr ps3 hp3 r0 r1=>Zdj (Zag (Zdi ?_))))))))))))));have hn0:1<=(if 1+r<25 then 1+r else 25)/\(if 1+r<25 then 1+r else 25)<=25/\(if 1+r<25 then 1+r else 25)<=c+1:=by split <;> omega
 generalize (if 1+r<25 then 1+r else 25)=n0 at hn0 ⊢;refine Za8 (p1N ps3 L c way) ?_ ?_
 ·have x:∀{bk ct:Evt->Prop}{rt:D->Evt->Prop}{ro:OD->Evt->Prop},JS K (tAsg (tOp (rAddU K) (tC (.int 1)) (tVar 2)) (gName 4)) (p1St ps3 L c way n0 [.any,.any,.any,.any]) ⟨p1N ps3 L c way,rt,bk,ct,ro⟩:=λ{_ _ _ _}=>Zax (Zbn (Zbw Zay (Zak rfl) Zco) ⟨1+c,by omega,by omega,by omega,rfl⟩)
  exact Zcf (Zqj (Zdr rfl (λ_=>iteT (iteT x)) (λ_=>iteF (Zdr rfl (λ_=>iteT x) (λ_=>iteF (Za3 ⟨n0,hn0.1,hn0.2.1,hn0.2.2,rfl⟩))))))
 rintro Δ1 ⟨n1,h1,h2,h3,rfl⟩;refine Za8 (p1N ps3 L c way) ?_ ?_
 ·refine Zcf (Zdr rfl (λ_=>iteT ?_) (λ_=>iteF (Za3 ⟨n1,h1,h2,h3,rfl⟩)))
  refine Zax (Zbx (Zab (Zar (Zab (Zad rfl (Zag (Zdi ⟨_,?_,?_,?_,rfl⟩)))))))
  all_goals (split <;> omega)
 rintro Δ1 ⟨n,n0',n1',n2',rfl⟩;refine Zap (Zd8 (Zeb (Zag ⟨by decide,?_⟩)));refine Za8 (p1L L c way n c.toNat) ?_ ?_
 ·refine Zc7 (Za5 (Zab (Zad rfl (Zag ⟨_,rfl,by omega,by omega,?_⟩))))
  refine⟨p1L L c way n,⟨ps3,[],.any,.any,.any,hp3,rfl,λ_ h=>(nomatch h),λk hk=>absurd hk (Nat.not_lt_zero k),rfl⟩,?_,λΔ2 h=>by rw[Za2]at h;exact h⟩;rintro i d Δ2 hd ⟨px,ts,x6,x7,x8,hpx,hl,ht,hh,rfl⟩;obtain⟨hi,rfl⟩:=Zbd hd;rw[Wbq];refine Zbt (Zap (Zc8 (Zab (Zc9 rfl rfl (Zab (Zad rfl (Zag (Zbm (m:=n) rfl rfl hpx n0' (by omega) λx pa hpa hx0 hx1=>?_))))))));refine Zab (Zc9 rfl rfl (Zab (Zad rfl (Zag (Zbm (m:=n) rfl rfl hpa n0' (by omega) λy pb hpb hy0 hy1=>Zag ⟨_,_,rfl,?_⟩)))));refine Za8 (p1Q L c way n i (ts.map encTie)) ?_ ?_
  ·refine Zcf (Za6 (Zaw (Zbn (Zbw (Zak rfl) Zay Zco) (Zad rfl (Zhh ⟨_,rfl,ite2 (λz=>?_) (λz=>?_)⟩)))))
   ·have z:(i:Int)+1<n:=of_decide_eq_true z
    obtain⟨wi,a1,a2⟩:∃wi:Int,atI [D.int 0,.int 1,.int 2,.int 0,.int 0] way=some (.int wi)/\(wi=0\/wi=1\/wi=2):=by
     rcases(show way=0\/way=1\/way=2\/way=3\/way=4 by omega) with e|e|e|e|e <;> subst e
     ·exact⟨0,rfl,by omega⟩
     ·exact⟨1,rfl,by omega⟩
     ·exact⟨2,rfl,by omega⟩
     ·exact⟨0,rfl,by omega⟩
     ·exact⟨0,rfl,by omega⟩
    refine Zc8 (Zab (Zaw (Zdt (Zab (Zc9 rfl rfl (Zab (Zbn (Zbw (Zak rfl) Zay Zco) (Zag (Zbm (m:=(i:Int)+1) rfl rfl hpb (by omega) (by omega) λr pc hpc r0 r1=>?_)))))))));obtain⟨g,b1,b2⟩:∃g:Nat,atI [D.int r,.int (i:Int),.int 0] wi=some (.int (g:Int))/\g<=i:=by
     rcases a2 with e|e|e <;> subst e
     ·exact⟨r.toNat,by rw[Wb6 r0];rfl,by omega⟩
     ·exact⟨i,rfl,Waj _⟩
     ·exact⟨0,rfl,by omega⟩
    refine Zab (Zad rfl (Zab (Zar (Zag ⟨(by show 3<=sizeLine;decide),Zbn (Zcy (Zh8 (Zah Zay (Zah Zay (Zah Zay (Zah Zay (Zah Zay Za1))))) (by show 5<=sizeLine;decide)) (Zak rfl) a1) (Zbk b1 ?_)⟩))));exact Zab (Zbn (Zbw (Zak rfl) Zay Zco) (Zag ⟨_,_,rfl,pc,(g:Int),(i:Int)+1,hpc,by omega,by omega,by omega,z,λ_=>⟨g,b2,.inl ⟨rfl,rfl⟩⟩,rfl⟩))
   ·have z:¬ (i:Int)+1<n:=of_decide_eq_false (Wcv.mpr z)
    refine Zcf (Zdr rfl (λ_=>iteT ?_) (λ_=>iteF (Za3 ⟨pb,x,y,hpb,hx0,hx1,hy0,hy1,λa=>absurd a z,rfl⟩)));exact Zc8 (Zcu (Zah (Zbw (Zak rfl) Zay Zqo) (Zah Zay Za1)) ⟨_,_,rfl,pb,n-1,0,hpb,by omega,by omega,by omega,by omega,λa=>absurd a z,rfl⟩)
  rintro Δ3 ⟨pc,u,v,hpc,u0,u1,v0,v1,hg,rfl⟩;refine Za8 (p1Q L c way n i (ts.map encTie)) ?_ ?_
  ·refine Zcf (Za6 (Zaw (Zmp rfl rfl hpc (by decide) (by decide) λs0 pd hpd s00 s01=>Zar (Zgt ⟨_,rfl,ite2 (λz=>?_) (λz=>Za3 ⟨pd,u,v,hpd,u0,u1,v0,v1,hg,rfl⟩)⟩))))
   exact Zc8 (Zcu (Zah (Zak rfl) (Zah (Zak rfl) Za1)) ⟨_,_,rfl,pd,v,u,hpd,v0,v1,u0,u1,λa=>by obtain⟨j,hj,e⟩:=hg a;exact⟨j,hj,e.elim (λe=>.inr ⟨e.2,e.1⟩) (λe=>.inl ⟨e.2,e.1⟩)⟩,rfl⟩)
  rintro Δ3 ⟨pe,u,v,hpe,u0,u1,v0,v1,hg,rfl⟩;refine Zpd rfl rfl (Zc9 rfl rfl (Zab (Zaw (Zf1 rfl rfl (Zar (Zdj (Zag ?_)))))));rw[Wab];refine Zbm (m:=(ts.length:Int)+1) rfl rfl hpe (by omega) (by omega) λs0 pf hpf s00 s01=>?_;refine Zbn (Zd9 (Zah (Zak rfl) (Zah (Zak rfl) Za1)) Zcz) ⟨_,s0,_,rfl,rfl,rfl,?_,by omega,by omega,?_⟩
  ·rw[Wab];exact small1000 (by omega)
  refine⟨pf,ts.take (insI (ts.map encTie).length s0)++(u,v)::ts.drop (insI (ts.map encTie).length s0),.val (.int (i:Int)),.val (.int u),.val (.int v),hpf,?_,?_,?_,?_⟩
  ·rw[Wap,Wam,Wa4,Wcc];omega
  ·intro t h
   rcases Wbj.mp h with h|h
   ·exact ht t (List.mem_of_mem_take h)
   ·rcases Wan.mp h with h|h
    ·rw[h];exact⟨u0,u1,v0,v1⟩
    ·exact ht t (List.mem_of_mem_drop h)
  ·intro k hk
   by_cases e:k=i
   ·subst e;exact⟨(u,v),by simp,hg⟩
   ·obtain⟨t,h1,h2⟩:=hh k (by omega)
    refine⟨t,?_,h2⟩;rw[<- List.take_append_drop (insI (ts.map encTie).length s0) ts]at h1;rcases Wbj.mp h1 with h1|h1
    ·exact Wb0 _ h1
    ·exact Wax _ (Wau _ h1)
  ·rw[Wa6,Wbf,List.map_take,List.map_drop];rfl
 rintro Δ1 ⟨pz,ts,x6,x7,x8,hpz,hl,ht,hh,rfl⟩;obtain⟨N,rfl⟩:∃N:Nat,n=(N:Int):=⟨n.toNat,by omega⟩;have W:WebOk (N:Int) ts:=⟨n0',n1',by omega,ht⟩;refine Zbo (Zdo (Zab (Zad rfl (Zab (Zbx (Zab (Zhr rfl (Zag (Zec (Or.inl rfl) (Zag ⟨Zcz,?_⟩))))))))));refine⟨_,rfl,q N ts _ hpz W (one_part W λk hk=>?_)⟩;obtain⟨t,t1,t2⟩:=hh k (by omega);obtain⟨j,j1,j2⟩:=t2 (by omega);refine⟨t,t1,j,j1,j2.elim (λe=>.inl ?_) (λe=>.inr ?_)⟩
 ·exact Prod.ext e.1 e.2
 ·exact Prod.ext e.1 e.2
end
def toR (c:List (Int × Int)):List (List Int):=c.map λt=>[t.1,t.2]
theorem Zr2 (c:List (Int × Int)):D.tup ((toR c).map rowD)=.tup (c.map encTie):=by unfold toR;rw[Wa1];rfl
noncomputable def codesOf (ts:List (Int × Int)) (o:List (List Int)):List (List (Int × Int)):=(Waz (2*ts.length)).map λe=>cdL ts o (numS ts o e)
section
variable {N:Nat}{ts:List (Int × Int)}{o:List (List Int)}(hW:WebOk (N:Int) ts) (hO:OrdOk (N:Int) ts o)
variable {us:List (Int × Int)}{v:List (List Int)}{σ:Int->Int}
include hW hO
end
theorem Zou (ts:List (Int × Int)) (o:List (List Int)):((rngD 0 (2*ts.length)).filter λ_=>true).map (λd=>D.tup ((cdL ts o (numS ts o (intD d).toNat)).map encTie))=((codesOf ts o).map toR).map λc=>D.tup (c.map rowD):=by
 rw[Wb5.mpr (by simp)];unfold codesOf rngD;rw[Wa1,Wa1,Wa1];refine Wcq λk _=>?_;show D.tup ((cdL ts o (numS ts o (0+(k:Int)).toNat)).map encTie)=D.tup ((toR (cdL ts o (numS ts o k))).map rowD);rw[Zr2,Wbq,Waw]
def isK (k:Nat):D->Bool
 |.int i=>Wa9 i.toNat k
 |_=>false
theorem Zlu (k j:Nat) (hj:j<15):atI [D.bl (Wa9 0 k),D.bl (Wa9 1 k),D.bl (Wa9 2 k),D.bl (Wa9 3 k),D.bl (Wa9 4 k),D.bl (Wa9 5 k),D.bl (Wa9 6 k),D.bl (Wa9 7 k),D.bl (Wa9 8 k),D.bl (Wa9 9 k),D.bl (Wa9 10 k),D.bl (Wa9 11 k),D.bl (Wa9 12 k),D.bl (Wa9 13 k),D.bl (Wa9 14 k)] (j:Int)=some (.bl (Wa9 j k)):=Zby (by
 rw[show [D.bl (Wa9 0 k),D.bl (Wa9 1 k),D.bl (Wa9 2 k),D.bl (Wa9 3 k),D.bl (Wa9 4 k),D.bl (Wa9 5 k),D.bl (Wa9 6 k),D.bl (Wa9 7 k),D.bl (Wa9 8 k),D.bl (Wa9 9 k),D.bl (Wa9 10 k),D.bl (Wa9 11 k),D.bl (Wa9 12 k),D.bl (Wa9 13 k),D.bl (Wa9 14 k)]=(Waz 15).map (λj:Nat=>D.bl (Wa9 j k)) from rfl,Waf,Wc4 hj];rfl)
structure RefK (K:W.Frag) (c0 c1 c2 c3 c4 c5 c6 c7 c8 c9 c10 c11 c12 c13 c14 c15 C:Addr) (k:Nat):Prop where
 e:ExcC K C/\PySem.W.mroIn K C (.ref c0)=some true
 i:ExcI K C
 t:PySem.W.kitOne K (.ref C) (.type "ValueError")=some true
 z:((rngD 0 (Int.toNat 15)).filter (isK k)).map (λd=>d)=[.int k]
 h1:PySem.W.kitOne K (.ref C) (.ref c1)=some (Wa9 0 k)
 h2:PySem.W.kitOne K (.ref C) (.ref c2)=some (Wa9 1 k)
 h3:PySem.W.kitOne K (.ref C) (.ref c3)=some (Wa9 2 k)
 h4:PySem.W.kitOne K (.ref C) (.ref c4)=some (Wa9 3 k)
 h5:PySem.W.kitOne K (.ref C) (.ref c5)=some (Wa9 4 k)
 h6:PySem.W.kitOne K (.ref C) (.ref c6)=some (Wa9 5 k)
 h7:PySem.W.kitOne K (.ref C) (.ref c7)=some (Wa9 6 k)
 h8:PySem.W.kitOne K (.ref C) (.ref c8)=some (Wa9 7 k)
 h9:PySem.W.kitOne K (.ref C) (.ref c9)=some (Wa9 8 k)
 h10:PySem.W.kitOne K (.ref C) (.ref c10)=some (Wa9 9 k)
 h11:PySem.W.kitOne K (.ref C) (.ref c11)=some (Wa9 10 k)
 h12:PySem.W.kitOne K (.ref C) (.ref c12)=some (Wa9 11 k)
 h13:PySem.W.kitOne K (.ref C) (.ref c13)=some (Wa9 12 k)
 h14:PySem.W.kitOne K (.ref C) (.ref c14)=some (Wa9 13 k)
 h15:PySem.W.kitOne K (.ref C) (.ref c15)=some (Wa9 14 k)
def fRefG (P:Program) (w:World) (K:W.Frag) (mg:Str->Option Value) (base:Heap) (dp:Nat) (R:Addr->Nat->Prop):DSp:=λds Post=>∃(a:Addr) (t:D) (g:XSp) (Xp:Addr->Prop),ds=[.adr a,t]/\CalleeV P w K mg base dp a ["_law_asked"] (spX K g)/\(∀Po:D->Prop,(Post .non->∀d,Po d)->g [t] Po Xp)/\∀C,Xp C->∃k,R C k/\Post (.lst [.int k])
section
variable {P:Program}{w:World}{K:W.Frag}{mg:Str->Option Value}{base:Heap}{f:Addr}{fd:FuncData}{c0 c1 c2 c3 c4 c5 c6 c7 c8 c9 c10 c11 c12 c13 c14 c15:Addr}
theorem Zb4 {K:W.Frag}{Δ:Evt}{Pd:List D->Evt->Prop}{i:Nat}{a C c:Addr}{b:Bool}{tr:TA}(hx:Δ[i]?=some (.val (.exc a C))) (Z:ExcI K C) (e:PySem.W.kitOne K (.ref C) (.ref c)=some b) (h:JA K tr Δ λds Δ2=>Pd (.bl b::ds) Δ2) :
  JA K (tCons (tCB (rIsiE K) (tCons (tVar i) (tCons (tC (.ref c)) tNil))) tr) Δ Pd:=Zab (Zbx (Zab (Zad hx (Zab (Zgs (Zag (Zop Z e h)))))))
theorem Zhv {dp:Nat}{R0:Addr->Nat->Prop}(hR0:∀C k,R0 C k->RefK K c0 c1 c2 c3 c4 c5 c6 c7 c8 c9 c10 c11 c12 c13 c14 c15 C k) (mb:Mb mg) (cl:Cl K mg c0 c1 c2 c3 c4 c5 c6 c7 c8 c9 c10 c11 c12 c13 c14 c15) (F:Fun K "_law_refusal" "_law_refusal" s_law_refusal f fd):FnOk P w K mg base CX0 (dp+1) f fd ["_law_call","_law_things"] (spD K (fRefG P w K mg base dp R0)):=by
 refine F.ok sc_law_refusal (Zc3 λds Post h=>by obtain⟨_,_,_,_,rfl,_⟩:=h;rfl) (λcdv A outer s H vs Q E hr h=>?_);have hu:=Zbs hr;obtain⟨F0,ds,Post,l,rs,hf,q⟩:=h;obtain⟨a,t,g,Xp,rfl,CV,hg,hX⟩:=hf;refine⟨_,(Zae (Zqk (i:=2) (n:=4) sc_law_refusal.nd rfl rfl rfl rfl rfl rfl rfl cl.n_FloorError cl.e_FloorError (λE pn xe hx=>(Zai (Zbv (Zpz CV (hr.mono (by first|decide|omega)) hx (i:=0) rfl (by first|exact Or.inl rfl|exact Or.inr (Or.inl rfl)|exact Or.inr (Or.inr rfl)) (Zaa (pv 1) Zac))))) (λa=>(Zae (Zaq (i:=3) sc_law_refusal.nd rfl (Or.inr rfl) (Zbg (Zaa (Zaj (isiEK K) rfl (mb "isinstance" (by decide)) Zal (Zaa (pv 2) (Zaa (Zba rfl cl.n_NoWeb (show RelV (.ref _) _ from rfl)) Zac))) (Zaa (Zaj (isiEK K) rfl (mb "isinstance" (by decide)) Zal (Zaa (pv 2) (Zaa (Zba rfl cl.n_NoOrder (show RelV (.ref _) _ from rfl)) Zac))) (Zaa (Zaj (isiEK K) rfl (mb "isinstance" (by decide)) Zal (Zaa (pv 2) (Zaa (Zba rfl cl.n_NoNumber (show RelV (.ref _) _ from rfl)) Zac))) (Zaa (Zaj (isiEK K) rfl (mb "isinstance" (by decide)) Zal (Zaa (pv 2) (Zaa (Zba rfl cl.n_NoEnd (show RelV (.ref _) _ from rfl)) Zac))) Zac)))))) (Zae (Zaq (i:=3) sc_law_refusal.nd rfl (Or.inr rfl) (Zav (addK K) (pv 3) (Zbg (Zaa (Zaj (isiEK K) rfl (mb "isinstance" (by decide)) Zal (Zaa (pv 2) (Zaa (Zba rfl cl.n_NoTie (show RelV (.ref _) _ from rfl)) Zac))) (Zaa (Zaj (isiEK K) rfl (mb "isinstance" (by decide)) Zal (Zaa (pv 2) (Zaa (Zba rfl cl.n_NoPlace (show RelV (.ref _) _ from rfl)) Zac))) (Zaa (Zaj (isiEK K) rfl (mb "isinstance" (by decide)) Zal (Zaa (pv 2) (Zaa (Zba rfl cl.n_NoTable (show RelV (.ref _) _ from rfl)) Zac))) (Zaa (Zaj (isiEK K) rfl (mb "isinstance" (by decide)) Zal (Zaa (pv 2) (Zaa (Zba rfl cl.n_NoRing (show RelV (.ref _) _ from rfl)) Zac))) Zac))))))) (Zae (Zaq (i:=3) sc_law_refusal.nd rfl (Or.inr rfl) (Zav (addK K) (pv 3) (Zbg (Zaa (Zaj (isiEK K) rfl (mb "isinstance" (by decide)) Zal (Zaa (pv 2) (Zaa (Zba rfl cl.n_NoPaper (show RelV (.ref _) _ from rfl)) Zac))) (Zaa (Zaj (isiEK K) rfl (mb "isinstance" (by decide)) Zal (Zaa (pv 2) (Zaa (Zba rfl cl.n_Apart (show RelV (.ref _) _ from rfl)) Zac))) (Zaa (Zaj (isiEK K) rfl (mb "isinstance" (by decide)) Zal (Zaa (pv 2) (Zaa (Zba rfl cl.n_TooMany (show RelV (.ref _) _ from rfl)) Zac))) (Zaa (Zaj (isiEK K) rfl (mb "isinstance" (by decide)) Zal (Zaa (pv 2) (Zaa (Zba rfl cl.n_TooGreat (show RelV (.ref _) _ from rfl)) Zac))) Zac))))))) (Zae (Zaq (i:=3) sc_law_refusal.nd rfl (Or.inr rfl) (Zav (addK K) (pv 3) (Zbg (Zaa (Zaj (isiEK K) rfl (mb "isinstance" (by decide)) Zal (Zaa (pv 2) (Zaa (Zba rfl cl.n_NoText (show RelV (.ref _) _ from rfl)) Zac))) (Zaa (Zaj (isiEK K) rfl (mb "isinstance" (by decide)) Zal (Zaa (pv 2) (Zaa (Zba rfl cl.n_NoName (show RelV (.ref _) _ from rfl)) Zac))) (Zaa (Zaj (isiEK K) rfl (mb "isinstance" (by decide)) Zal (Zaa (pv 2) (Zaa (Zba rfl cl.n_NoRow (show RelV (.ref _) _ from rfl)) Zac))) Zac)))))) (Zae (Zbz (Znn (truK K (Zaj (isiEK K) rfl (mb "isinstance" (by decide)) Zal (Zaa (pv 2) (Zaa (Zoq rfl (mb "ValueError" (by decide)) Zge (show RelV (.ty "ValueError") _ from rfl)) Zac))) (λ_=>rfl))) (Zai (Zaz (Zbg Zac))) Za0) (Zai (Zaz (Zk7 ["_law_k"] (show CompSc (defScope s_law_refusal) ["_law_call","_law_things","e","_law_found"] _ ["_law_found"] [3] from ⟨rfl,by decide +kernel,by decide +kernel,by decide +kernel,rfl,by decide +kernel⟩) rfl (Zix rfl (mb "range" (by decide)) (Zaa Zaf Zac)) (λ_ _ _ _ _=>(Zas (i:=0) (show List.Nodup (["_law_k","_law_found"]:List Str) from by decide) rfl (Or.inl rfl))) (λ_ _ _ _ _=>(Zga (truK K (Zam (ixK K hu) (pv 1) (pv 0) (λ_ _=>rfl)) (λ_=>rfl)))) (λ_ _ _ _ _=>(pv 0)))))))))))) (Zai (Zaz Zkp))),Zha (E:=E) (f:=λds' Post'=>ds'=[.adr a,t]/\Post'=Post) (λds' Post' hf=>?_) ⟨F0,_,_,l,rs,⟨rfl,rfl⟩,q⟩⟩;obtain⟨rfl,rfl⟩:=hf;refine⟨by simp,?_⟩;dsimp only[startD,Wbe,Wbh,Wa3,Wae];refine Zap (Zpk Xp rfl (by decide) (λE=>?_) (λC hC=>?_))
 ·exact Zd3 (Zle rfl (Zab (Zad rfl (Zag (hg _ λp d=>Zbo (Zio p))))))
 obtain⟨k,R,hp⟩:=hX C hC
 replace R:=hR0 C k R
 refine⟨R.e,λae=>?_⟩;refine Zap (Zax (Zdt ?_));refine Zb4 rfl R.i R.h1 ?_;refine Zb4 rfl R.i R.h2 ?_;refine Zb4 rfl R.i R.h3 ?_;refine Zb4 rfl R.i R.h4 ?_;refine Zag ⟨(by show 4<=sizeLine;decide),?_⟩;refine Zap (Zax (Zaw (Zad rfl (Zdt ?_))));refine Zb4 rfl R.i R.h5 ?_;refine Zb4 rfl R.i R.h6 ?_;refine Zb4 rfl R.i R.h7 ?_;refine Zb4 rfl R.i R.h8 ?_;refine Zag ⟨(by show 4<=sizeLine;decide),Zhj (by show 8<=sizeLine;decide) ?_⟩;refine Zap (Zax (Zaw (Zad rfl (Zdt ?_))));refine Zb4 rfl R.i R.h9 ?_;refine Zb4 rfl R.i R.h10 ?_;refine Zb4 rfl R.i R.h11 ?_;refine Zb4 rfl R.i R.h12 ?_;refine Zag ⟨(by show 4<=sizeLine;decide),Zhj (by show 12<=sizeLine;decide) ?_⟩;refine Zap (Zax (Zaw (Zad rfl (Zdt ?_))));refine Zb4 rfl R.i R.h13 ?_;refine Zb4 rfl R.i R.h14 ?_;refine Zb4 rfl R.i R.h15 ?_;refine Zag ⟨(by show 3<=sizeLine;decide),Zhj (by show 15<=sizeLine;decide) ?_⟩;refine Zap (Zcf (Zkj (Zey (Zbx (Zab (Zad rfl (Zab (Zqz (Zag (Zm7 R.i R.t ⟨true,rfl,iteF (Za3 ?_)⟩))))))))));refine Zbo (Zbp (by decide) (Zkv (i:=2) (Zab (Zar (Zag ⟨rfl,15,rfl,by decide,by decide,?_⟩)))));refine⟨by rw[Za2];exact small1000 (by decide),isK k,λd=>d,λj d hd=>?_,?_⟩
 ·obtain⟨hj,rfl⟩:=Zbd hd
  rw[Wbq];refine Zey (Zaw (Zad rfl (Zad rfl (Zbk (Zlu k j hj) ⟨_,rfl,rfl,ite2 (λz=>Zad rfl ⟨rfl,_,rfl⟩) (λz=>⟨_,rfl⟩)⟩))))
 ·rw[R.z];exact hp
end
section
variable {P:Program}{w:World}{K:W.Frag}{mg:Str->Option Value}{base:Heap}{f:Addr}{fd:FuncData}
theorem Zo2 {Δ1:Evt}{i:Nat}{y:L2.Slot}{ps:List D}{L:Int}{P:D->Evt->Prop}(hx:Δ1[i]?=some y) (ho:y.od=some (.lst ps)) (hp:Pen ps) (h1:0<=L) (h2:L<=24) (h:∀(N:Nat) (ts:List (Int × Int)) ps',Pen ps' -> WebOk (N:Int) ts->OneP N ts->P (encWeb (N:Int) ts) (Δ1.set i (y.put (.lst ps')))) :
  LendQ fOneP i P [.int L] Δ1:=⟨y,ps,hx,ho,hp,L,rfl,h1,h2,h⟩
end
def fRefX (c:Addr):XSp:=λds Post Xp=>∃(N:Nat) (ts:List (Int × Int)),ds=[encWeb (N:Int) ts]/\WebOk (N:Int) ts/\(OneP N ts->Post .non)/\(¬ OneP N ts->Xp c)
def fAlX (c:Addr):XSp:=λds Post Xp=>∃(N:Nat) (ts:List (Int × Int)) (o:List (List Int)) (M:Nat) (us:List (Int × Int)) (v:List (List Int)),ds=[encWeb (N:Int) ts,encOrd o,encWeb (M:Int) us,encOrd v]/\WebOk (N:Int) ts/\OrdOk (N:Int) ts o/\WebOk (M:Int) us/\OrdOk (M:Int) us v/\(OneP N ts/\OneP M us->∀r,Post r)/\(¬ (OneP N ts/\OneP M us)->Xp c)
def fFlX (c:Addr):XSp:=λds Post Xp=>∃(N:Nat) (ts:List (Int × Int)) (o:List (List Int)),ds=[encWeb (N:Int) ts,encOrd o]/\WebOk (N:Int) ts/\OrdOk (N:Int) ts o/\(OneP N ts->∀r,Post r)/\(¬ OneP N ts->Xp c)
def fCfX (c:Addr):XSp:=λds Post Xp=>∃(N:Nat) (ts:List (Int × Int)) (o:List (List Int)) (e:Nat),ds=[encWeb (N:Int) ts,encOrd o,.int e]/\WebOk (N:Int) ts/\OrdOk (N:Int) ts o/\e<2*ts.length/\(OneP N ts->∀r,Post r)/\(¬ OneP N ts->Xp c)
def askX (g:XSp):XSp:=λds Post Xp=>∃ls,ds=[.tup ls]/\g ls Post Xp
theorem Zky {N:Nat}{ts:List (Int × Int)}{ms:List Int}(h:Firsts ms (marksL N ts)):ms.length<=1↔OneP N ts:=⟨λl ms' h'=>by rw[<- Firsts.uniq h h'];exact l,λo=>o ms h⟩
section
variable {P:Program}{w:World}{K:W.Frag}{mg:Str->Option Value}{base:Heap}{f:Addr}{fd:FuncData}{c0 c1 c2 c3 c4 c5 c6 c7 c8 c9 c10 c11 c12 c13 c14 c15:Addr}
theorem Zod (mb:Mb mg) (cl:Cl K mg c0 c1 c2 c3 c4 c5 c6 c7 c8 c9 c10 c11 c12 c13 c14 c15) (C44:Callee P w K mg base 1 "parts_of" ["web"] (spN K fParts)) (F:Fun K "refuse_parts" "refuse_parts" s_refuse_parts f fd):FnOk P w K mg base (CXE P w) 2 f fd ["web"] (spX K (fRefX c10)):=by
 refine F.okX sc_refuse_parts (Zcm λds Post Xp h=>by obtain⟨_,_,rfl,_⟩:=h;rfl) (λcdv A outer s H vs Q E hr h=>?_);have hu:=Zbs hr;refine⟨_,(Zai (Zbz (Zat Ziu (Zaj (lenK K) rfl (mb "len" (by decide)) Zbr (Zaa (Za4 C44 (hr.mono (by decide)) (Zaa (pv 0) Zac)) Zac)) Zaf (nomark _)) (Zai (Zl7 cl.e_Apart rfl cl.n_Apart hr.hd Zl2 (Zaa Zpw Zac))) Za0)),Zf4 (λds Post Xp hf=>?_) h⟩;obtain⟨N,ts,rfl,hW,q,x⟩:=hf;refine⟨by simp,?_⟩;dsimp only[startD,Wbe,Wbh,Wa3,Wae];refine Zr4 (Za6 (Zaw (Zbx (Zab (Zbe (Zci (Zab (Zad rfl (Zag ⟨(N:Int),ts,rfl,hW,λms hm=>⟨_,rfl,?_⟩⟩)))))))));refine Zag (Zcw (Or.inl rfl) ?_);rw[Waw]at hm ⊢;have e:=Zky hm;rw[Wab,show (partsL N ts ms).length=ms.length from Wab _];refine Zar (Zhh ⟨_,rfl,ite2 (λz=>?_) (λz=>?_)⟩)
 ·have z:(1:Int)<(ms.length:Int):=of_decide_eq_true z
  exact Zm0 (Zab (Zp2 (Zag ⟨(by show 1<=sizeLine;decide),x (λh=>by have:=e.mpr h;omega)⟩)))
 ·have z:¬ (1:Int)<(ms.length:Int):=of_decide_eq_false (Wcv.mpr z)
  exact Zpa (q (e.mp (by omega)))
theorem Zq5 (mb:Mb mg) (C46:CalleeX P w K mg base 2 "refuse_parts" ["web"] (spX K (fRefX c10))) (C40:Callee P w K mg base 3 "code_by" ["web","order","ends"] (spD K fCodeBy)) (C43:Callee P w K mg base 3 "numbered_from" ["web","order","end"] (spN K fNum)) (F:Fun K "code_from" "code_from" s_code_from f fd):FnOk P w K mg base (CXE P w) 4 f fd ["web","order","end"] (spX K (fCfX c10)):=by
 refine F.okX sc_code_from (Zcm λds Post Xp h=>by obtain⟨_,_,_,_,rfl,_⟩:=h;rfl) (λcdv A outer s H vs Q E hr h=>?_);have hu:=Zbs hr;refine⟨_,(Zae (Zbv (Zdx C46 (hr.mono (by decide)) Zdy (Zaa (pv 0) Zac))) (Zai (Zaz (Za4 C40 (hr.mono (by decide)) (Zaa (pv 0) (Zaa (pv 1) (Zaa (Za4 C43 (hr.mono (by decide)) (Zaa (pv 0) (Zaa (pv 1) (Zaa (pv 2) Zac)))) Zac))))))),Zf4 (λds Post Xp hf=>?_) h⟩;obtain⟨N,ts,o,e,rfl,hW,hO,he,q,x⟩:=hf;refine⟨by simp,?_⟩;dsimp only[startD,Wbe,Wbh,Wa3,Wae];have hw:=hW.len;refine Zgw (Zd3 (Zbq (Zab (Zad rfl (Zag ⟨N,ts,rfl,hW,λh1=>?_,x⟩)))));refine Zka (Zbo (Zbf (Zab (Zad rfl (Zab (Zad rfl (Zab (Zbe (Zci (Zab (Zad rfl (Zab (Zad rfl (Zab (Zad rfl (Zag ⟨(N:Int),ts,o,e,rfl,hW,hO,he,λJ hJ=>⟨_,rfl,?_⟩⟩))))))))))))))));have I:NumI pI (fI ts o) (2*ts.length) (e:Int) J (numF ts o e J):=Zfw (λx=>Zmc (m:=ts.length) x) (Zl9 hW hO) (by omega) (by omega) hJ.2;have Il:=Zfk I;refine Zag ⟨(N:Int),ts,o,_,rfl,hW,hO,by omega,λx hx=>?_,q h1 _⟩;have hr:=I.rg x hx;obtain⟨i,hi⟩:=Wbo.mp hx;have hil:=(Wag.mp hi).1;have eJ:(numF ts o e J).length=J:=hJ.1;have c:=I.cl i (by omega);rw[Wad,hi]at c;exact⟨hr.1,hr.2,c.1,c.2⟩
theorem Zmg (mb:Mb mg) (C46:CalleeX P w K mg base 2 "refuse_parts" ["web"] (spX K (fRefX c10))) (C41:Callee P w K mg base 4 "code_from" ["web","order","end"] (spD K fCodeF)) (F:Fun K "code" "code" s_code f fd):FnOk P w K mg base (CXE P w) 5 f fd ["web","order"] (spX K (fFlX c10)):=by
 refine F.okX sc_code (Zcm λds Post Xp h=>by obtain⟨_,_,_,rfl,_⟩:=h;rfl) (λcdv A outer s H vs Q E hr h=>?_);have hu:=Zbs hr;have hv:=Zi9 hr;refine⟨_,(Zae (Zbv (Zdx C46 (hr.mono (by decide)) Zdy (Zaa (pv 0) Zac))) (Zai (Zaz (Zos rfl rfl hv rfl (mb "min" (by decide)) (Zaa (Zb1 ["end"] (show CompSc (defScope s_code) ["web","order"] _ ["web","order"] [0,1] from ⟨rfl,by decide +kernel,by decide +kernel,by decide +kernel,rfl,by decide +kernel⟩) rfl (Za7 rfl (mb "range" (by decide)) (Zaa (Zav Zc6 Zaf (Zaj (lenK K) rfl (mb "len" (by decide)) Zbr (Zaa (Zam (ixK K hu) (pv 0) Zaf (λ_ _=>rfl)) Zac))) Zac)) (λ_ _ _ _ _=>(Zas (i:=0) (show List.Nodup (["end","web","order"]:List Str) from by decide) rfl (Or.inl rfl))) (λ_ _ _ _ _=>Zb8) (λ_ _ _ _ _=>(Za4 C41 (hr.mono (by decide)) (Zaa (pv 1) (Zaa (pv 2) (Zaa (pv 0) Zac)))))) Zac) (Zn0 (Zb6 Zac) Zqy))))),Zf4 (λds Post Xp hf=>?_) h⟩;obtain⟨N,ts,o,rfl,hW,hO,q,x⟩:=hf;refine⟨by simp,?_⟩;dsimp only[startD,Wbe,Wbh,Wa3,Wae];have hw:=hW.len;refine Zgw (Zd3 (Zbq (Zab (Zad rfl (Zag ⟨N,ts,rfl,hW,λh1=>?_,x⟩)))));have h1':OneP ((N:Int).toNat) ts:=by rw[Waw];exact h1
 refine Zka (Zbo (Zox (Zab (Zbp (by decide) (Za5 (Zab (Zbn (Zbw Zay (Zgg (Zbu rfl (Zgp (N:Int) ts))) (pr_I (Or.inl ⟨by decide,by decide⟩))) (Zag ⟨_,rfl,?_,?_,?_⟩))))))))
 ·rw[Wab];omega
 ·rw[Wab];omega
 rw[Wab,show (2*(ts.length:Int)).toNat=2*ts.length by omega];refine⟨by rw[Za2];exact small1000 (by omega),λ_=>true,λd=>.tup ((cdL ts o (numS ts o (intD d).toNat)).map encTie),λi d hd=>?_,?_⟩
 ·obtain⟨hi,rfl⟩:=Zbd hd
  rw[Wbq];refine Zb5 ⟨rfl,Zbf (Zcu (Zah (Zak rfl) (Zah (Zak rfl) (Zah (Zak rfl) Za1))) ⟨(N:Int),ts,o,i,rfl,hW,hO,h1',hi,λJ hJ=>⟨?_,_,rfl⟩⟩)⟩;show D.tup ((numF ts o i J).map (cdP ts o (numF ts o i J)))=D.tup ((cdL ts o (numS ts o (i:Int).toNat)).map encTie);rw[Zfq hJ,Zn2,Waw]
 rw[Zou];exact Zag (Zab (Zdo (Zag ⟨by decide,Zag ⟨(codesOf ts o).map toR,_,rfl,rfl,λe=>q h1 _,λhn=>q h1 _⟩⟩)))
theorem Zqi (mb:Mb mg) (C46:CalleeX P w K mg base 2 "refuse_parts" ["web"] (spX K (fRefX c10))) (C47:Callee P w K mg base 4 "renamings" ["one","order","other","its_order"] (spN K fRen)) (F:Fun K "alike" "alike" s_alike f fd):FnOk P w K mg base (CXE P w) 5 f fd ["one","order","other","its_order"] (spX K (fAlX c10)):=by
 refine F.okX sc_alike (Zcm λds Post Xp h=>by obtain⟨_,_,_,_,_,_,rfl,_⟩:=h;rfl) (λcdv A outer s H vs Q E hr h=>?_);have hu:=Zbs hr;refine⟨_,(Zae (Zbv (Zdx C46 (hr.mono (by decide)) Zdy (Zaa (pv 0) Zac))) (Zae (Zbv (Zdx C46 (hr.mono (by decide)) Zdy (Zaa (pv 2) Zac))) (Zae (Zaq (i:=4) sc_alike.nd rfl (Or.inl rfl) (Za4 C47 (hr.mono (by decide)) (Zaa (pv 0) (Zaa (pv 1) (Zaa (pv 2) (Zaa (pv 3) Zac)))))) (Zai (Zaz (Zfv (truK K (pv 4) (λ_=>rfl)) (Zam (ixK K hu) (pv 4) Zaf (λ_ _=>rfl)) Zkp)))))),Zf4 (λds Post Xp hf=>?_) h⟩;obtain⟨N,ts,o,M,us,v,rfl,hW,hO,hV,hU,q,x⟩:=hf;refine⟨by simp,?_⟩;dsimp only[startD,Wbe,Wbh,Wa3,Wae];refine Zgw (Zd3 (Zbq (Zab (Zad rfl (Zag ⟨N,ts,rfl,hW,λh1=>?_,λz=>x λh=>z h.1⟩)))));refine Zgw (Zd3 (Zbq (Zab (Zad rfl (Zag ⟨M,us,rfl,hV,λh2=>?_,λz=>x λh=>z h.2⟩)))));have q:=q ⟨h1,h2⟩;refine Zka (Zap (Zax (Zbe (Zci (Zcu (Zah (Zak rfl) (Zah (Zak rfl) (Zah (Zak rfl) (Zah (Zak rfl) Za1)))) ⟨N,ts,o,M,us,v,rfl,hW,hO,h1,hV,hU,_,rfl,?_⟩)))));generalize renL ts o us v=R at *;cases R with
 |nil=>exact Zbo (Zf9 (Zey (Zad rfl ⟨_,rfl,iteF (Zio (q _))⟩)))
 |cons r R=>exact Zbo (Zf9 (Zey (Zad rfl ⟨_,rfl,iteT (Zaw (Zad rfl (Zar (Zbk (d:=rowD r) (Zby (j:=0) rfl) (q _)))))⟩)))
theorem Zpj (mb:Mb mg) (C46:CalleeX P w K mg base 2 "refuse_parts" ["web"] (spX K (fRefX c10))) (C47:Callee P w K mg base 4 "renamings" ["one","order","other","its_order"] (spN K fRen)) (F:Fun K "turnings" "turnings" s_turnings f fd):FnOk P w K mg base (CXE P w) 5 f fd ["web","order"] (spX K (fFlX c10)):=by
 refine F.okX sc_turnings (Zcm λds Post Xp h=>by obtain⟨_,_,_,rfl,_⟩:=h;rfl) (λcdv A outer s H vs Q E hr h=>?_);have hu:=Zbs hr;refine⟨_,(Zae (Zbv (Zdx C46 (hr.mono (by decide)) Zdy (Zaa (pv 0) Zac))) (Zai (Zaz (Za4 C47 (hr.mono (by decide)) (Zaa (pv 0) (Zaa (pv 1) (Zaa (pv 0) (Zaa (pv 1) Zac)))))))),Zf4 (λds Post Xp hf=>?_) h⟩;obtain⟨N,ts,o,rfl,hW,hO,q,x⟩:=hf;refine⟨by simp,?_⟩;dsimp only[startD,Wbe,Wbh,Wa3,Wae];refine Zgw (Zd3 (Zbq (Zab (Zad rfl (Zag ⟨N,ts,rfl,hW,λh1=>?_,x⟩)))));exact Zka (Zbo (Zbe (Zci (Zcu (Zah (Zak rfl) (Zah (Zak rfl) (Zah (Zak rfl) (Zah (Zak rfl) Za1)))) ⟨N,ts,o,N,ts,o,rfl,hW,hO,h1,hW,hO,_,rfl,q h1 _⟩))))
theorem Zps (mb:Mb mg) (C38:CalleeX P w K mg base 5 "alike" ["one","order","other","its_order"] (spX K (fAlX c10))) (F:Fun K "_law_alike" "_law_alike" s_law_alike f fd):FnOk P w K mg base (CXE P w) 6 f fd ["_law_asked"] (spX K (askX (fAlX c10))):=by
 refine F.okX sc_law_alike (Zcm λds Post Xp h=>by obtain⟨_,rfl,_⟩:=h;rfl) (λcdv A outer s H vs Q E hr h=>?_);have hu:=Zbs hr;refine⟨_,(Zai (Zaz (Zdx C38 (hr.mono (by decide)) Zdy (Zaa (Zam (ixK K hu) (pv 0) Zaf (λ_ _=>rfl)) (Zaa (Zam (ixK K hu) (pv 0) Zaf (λ_ _=>rfl)) (Zaa (Zam (ixK K hu) (pv 0) Zaf (λ_ _=>rfl)) (Zaa (Zam (ixK K hu) (pv 0) Zaf (λ_ _=>rfl)) Zac))))))),Zf4 (λds Post Xp hf=>?_) h⟩;obtain⟨_,rfl,N,ts,o,M,us,v,rfl,hf⟩:=hf;refine⟨by simp,?_⟩;dsimp only[startD,Wbe,Wbh,Wa3,Wae];exact Zie (Zbq (Zcu (Zah (Zbu (d:=encWeb (N:Int) ts) rfl rfl) (Zah (Zbu (d:=encOrd o) rfl rfl) (Zah (Zbu (d:=encWeb (M:Int) us) rfl rfl) (Zah (Zbu (d:=encOrd v) rfl rfl) Za1)))) ⟨N,ts,o,M,us,v,rfl,hf⟩))
theorem Zrm (mb:Mb mg) (C39:CalleeX P w K mg base 5 "code" ["web","order"] (spX K (fFlX c10))) (F:Fun K "_law_code" "_law_code" s_law_code f fd):FnOk P w K mg base (CXE P w) 6 f fd ["_law_asked"] (spX K (askX (fFlX c10))):=by
 refine F.okX sc_law_code (Zcm λds Post Xp h=>by obtain⟨_,rfl,_⟩:=h;rfl) (λcdv A outer s H vs Q E hr h=>?_);have hu:=Zbs hr;refine⟨_,(Zai (Zaz (Zdx C39 (hr.mono (by decide)) Zdy (Zaa (Zam (ixK K hu) (pv 0) Zaf (λ_ _=>rfl)) (Zaa (Zam (ixK K hu) (pv 0) Zaf (λ_ _=>rfl)) Zac))))),Zf4 (λds Post Xp hf=>?_) h⟩;obtain⟨_,rfl,N,ts,o,rfl,hf⟩:=hf;refine⟨by simp,?_⟩;dsimp only[startD,Wbe,Wbh,Wa3,Wae];exact Zie (Zbq (Zcu (Zah (Zbu (d:=encWeb (N:Int) ts) rfl rfl) (Zah (Zbu (d:=encOrd o) rfl rfl) Za1)) ⟨N,ts,o,rfl,hf⟩))
theorem Zqa (mb:Mb mg) (C48:CalleeX P w K mg base 5 "turnings" ["web","order"] (spX K (fFlX c10))) (F:Fun K "_law_turnings" "_law_turnings" s_law_turnings f fd):FnOk P w K mg base (CXE P w) 6 f fd ["_law_asked"] (spX K (askX (fFlX c10))):=by
 refine F.okX sc_law_turnings (Zcm λds Post Xp h=>by obtain⟨_,rfl,_⟩:=h;rfl) (λcdv A outer s H vs Q E hr h=>?_);have hu:=Zbs hr;refine⟨_,(Zai (Zaz (Zdx C48 (hr.mono (by decide)) Zdy (Zaa (Zam (ixK K hu) (pv 0) Zaf (λ_ _=>rfl)) (Zaa (Zam (ixK K hu) (pv 0) Zaf (λ_ _=>rfl)) Zac))))),Zf4 (λds Post Xp hf=>?_) h⟩;obtain⟨_,rfl,N,ts,o,rfl,hf⟩:=hf;refine⟨by simp,?_⟩;dsimp only[startD,Wbe,Wbh,Wa3,Wae];exact Zie (Zbq (Zcu (Zah (Zbu (d:=encWeb (N:Int) ts) rfl rfl) (Zah (Zbu (d:=encOrd o) rfl rfl) Za1)) ⟨N,ts,o,rfl,hf⟩))
theorem Zph (mb:Mb mg) (C41:CalleeX P w K mg base 4 "code_from" ["web","order","end"] (spX K (fCfX c10))) (F:Fun K "_law_code_from" "_law_code_from" s_law_code_from f fd):FnOk P w K mg base (CXE P w) 6 f fd ["_law_asked"] (spX K (askX (fCfX c10))):=by
 refine F.okX sc_law_code_from (Zcm λds Post Xp h=>by obtain⟨_,rfl,_⟩:=h;rfl) (λcdv A outer s H vs Q E hr h=>?_);have hu:=Zbs hr;refine⟨_,(Zai (Zaz (Zdx C41 (hr.mono (by decide)) Zdy (Zaa (Zam (ixK K hu) (pv 0) Zaf (λ_ _=>rfl)) (Zaa (Zam (ixK K hu) (pv 0) Zaf (λ_ _=>rfl)) (Zaa (Zam (ixK K hu) (pv 0) Zaf (λ_ _=>rfl)) Zac)))))),Zf4 (λds Post Xp hf=>?_) h⟩;obtain⟨_,rfl,N,ts,o,e,rfl,hf⟩:=hf;refine⟨by simp,?_⟩;dsimp only[startD,Wbe,Wbh,Wa3,Wae];exact Zie (Zbq (Zcu (Zah (Zbu (d:=encWeb (N:Int) ts) rfl rfl) (Zah (Zbu (d:=encOrd o) rfl rfl) (Zah (Zbu (d:=.int e) rfl rfl) Za1))) ⟨N,ts,o,e,rfl,hf⟩))
def oneC (c:Addr) (k:Nat):Addr->Nat->Prop:=λC j=>C=c/\j=k
theorem Zoh (mb:Mb mg) (cl:Cl K mg c0 c1 c2 c3 c4 c5 c6 c7 c8 c9 c10 c11 c12 c13 c14 c15) (F:Fun K "_law_refusal" "_law_refusal" s_law_refusal f fd):FnOk P w K mg base CX0 7 f fd ["_law_call","_law_things"] (spD K (fRefG P w K mg base 6 (oneC c10 9))):=
 Zhv (λC k h=>by
  rcases h with ⟨rfl,rfl⟩
  exact⟨⟨cl.e_Apart,cl.m_Apart⟩,cl.i_Apart,cl.t_Apart,rfl,cl.k_Apart_NoWeb,cl.k_Apart_NoOrder,cl.k_Apart_NoNumber,cl.k_Apart_NoEnd,cl.k_Apart_NoTie,cl.k_Apart_NoPlace,cl.k_Apart_NoTable,cl.k_Apart_NoRing,cl.k_Apart_NoPaper,cl.k_Apart_Apart,cl.k_Apart_TooMany,cl.k_Apart_TooGreat,cl.k_Apart_NoText,cl.k_Apart_NoName,cl.k_Apart_NoRow⟩) mb cl F
end
def wD (x:Nat × List (Int × Int)):D:=encWeb (x.1:Int) x.2
theorem Zrl {x y:Nat × List (Int × Int)}(h:wD x=wD y):x=y:=by
 obtain⟨n,ts⟩:=x;obtain⟨m,us⟩:=y;have h1:D.tup [.int n,.tup (ts.map encTie)]=D.tup [.int m,.tup (us.map encTie)]:=h;injection h1 with h1
 injection h1 with h3 h4
 injection h3 with h3
 injection h4 with h4 _
 injection h4 with h4
 have e1:n=m:=Int.ofNat.inj h3;have e2:ts=us:=(List.map_inj_right λa b e=>by
  have e:D.tup [.int a.1,.int a.2]=D.tup [.int b.1,.int b.2]:=e;injection e with e
  injection e with x1 x2
  injection x2 with x2 _
  injection x1 with x1
  injection x2 with x2
  exact Prod.ext x1 x2).mp h4
 rw[e1,e2]
noncomputable def sevB (d:D):Bool:=by
 classical exact decide (∃x,wD x=d/\¬ OneP x.1 x.2)
theorem Zh2 {x:Nat × List (Int × Int)}:sevB (wD x)=true ↔ ¬ OneP x.1 x.2:=by
 unfold sevB;refine(@decide_eq_true_iff _ (Classical.propDecidable _)).trans ?_;exact⟨λ⟨y,e,h⟩=>by rw[<- Zrl e];exact h,λh=>⟨x,rfl,h⟩⟩
noncomputable def duO (p:Prop):D:=by
 classical exact if p then .non else .lst [.int 9]
theorem Zkt {p:Prop}(h:p):duO p=.non:=by unfold duO;rw[if_pos h]
theorem Zk2 {p:Prop}(h:¬ p):duO p=.lst [.int 9]:=by unfold duO;rw[if_neg h]
def fDue80:DSp:=λds Post=>∃ws:List (Nat × List (Int × Int)),ds=[.lst (ws.map wD)]/\ws.length<=2/\(∀x∈ws,WebOk (x.1:Int) x.2)/\Post (duO (∀x∈ws,OneP x.1 x.2))
section
variable {P:Program}{w:World}{K:W.Frag}{mg:Str->Option Value}{base:Heap}{f:Addr}{fd:FuncData}
theorem Zl3 (mb:Mb mg) (C33:Callee P w K mg base 1 "_law_parts" ["_law_web_here"] (spN K fParts)) (F:Fun K "_law_due" "_law_due" s_law_due f fd):FnOk P w K mg base CX0 2 f fd ["_law_webs"] (spD K fDue80):=by
 refine F.ok sc_law_due (Zc3 λds Post h=>by obtain⟨_,rfl,_⟩:=h;rfl) (λcdv A outer s H vs Q E hr h=>?_);have hu:=Zbs hr;have hv:=Zi9 hr;refine⟨_,(Zae (Zbz (Zat (neL0K K hu) (Zb1 ["_law_web_here"] (show CompSc (defScope s_law_due) ["_law_webs"] _ [] [] from ⟨rfl,by decide +kernel,by decide +kernel,by decide +kernel,rfl,by decide +kernel⟩) rfl (seqK K (pv 0)) (λ_ _ _ _ _=>(Zas (i:=0) (show List.Nodup (["_law_web_here"]:List Str) from by decide) rfl (Or.inl rfl))) (λ_ _ _ _ _=>(Zga (Zat Ziu (Zaj (lenK K) rfl (mb "len" (by decide)) Zbr (Zaa (Za4 C33 (hr.mono (by decide)) (Zaa (pv 0) Zac)) Zac)) Zaf (nomark _)))) (λ_ _ _ _ _=>(pv 0))) (Zbg Zac) (nomark _)) (Zai (Zaz (Zbg (Zaa Zaf Zac)))) Za0) (Zai (Zaz Zkp))),Zha (λds Post hf=>?_) h⟩;obtain⟨ws,rfl,hl,hw,q⟩:=hf;refine⟨by simp,?_⟩;dsimp only[startD,Wbe,Wbh,Wa3,Wae];refine Zap (Zcf (Za6 (Zaw (Zbp (by decide) (Zdw (Zad rfl ⟨_,Or.inl rfl,by rw[Wab];exact small1000 (by omega),sevB,λd=>d,λi d hd=>?_,?_⟩))))))
 ·rw[Waf]at hd
  cases z:ws[i]? with
  |none=>rw[z]at hd;cases hd
  |some x=>
   rw[z]at hd;have hd:wD x=d:=by simpa using hd
   subst hd;have W:=hw x (Wa2 z);refine Za6 (Zaw (Zbx (Zab (Zbe (Zci (Zab (Zad rfl (Zag ⟨(x.1:Int),x.2,rfl,W,λms hm=>⟨_,rfl,?_⟩⟩))))))));refine Zag (Zcw (Or.inl rfl) ?_);rw[Waw]at hm ⊢;have e:=Zky hm;rw[Wab,show (partsL x.1 x.2 ms).length=ms.length from Wab _];refine Zar (Zhh ⟨_,rfl,?_,ite2 (λz=>Zad rfl ⟨rfl,_,rfl⟩) (λz=>⟨_,rfl⟩)⟩);rw[Wb4,decide_eq_true_iff,Zh2,<- e];omega
 refine Zdt (Zag ⟨by decide,Zpg ⟨_,rfl,?_⟩⟩);by_cases a:∀x∈ws,OneP x.1 x.2
 ·have e:(ws.map wD).filter sevB=[]:=List.filter_eq_nil_iff.mpr λd hd z=>by
   obtain⟨x,hx,rfl⟩:=Wbm.mp hd;exact Zh2.mp z (a x hx)
  rw[e];rw[Zkt a]at q;exact iteF (Za3 (Zbo (Zio q)))
 ·have e:(ws.map wD).filter sevB≠[]:=λz=>a λx hx=>Classical.byContradiction λn=>by
   have:=List.filter_eq_nil_iff.mp z (wD x) (List.mem_map_of_mem hx);exact this (Zh2.mpr n)
  rw[Zk2 a]at q;obtain⟨b,bs,eb⟩:=List.exists_cons_of_ne_nil e;rw[eb];exact iteT (Zbo (Zdt (Zab (Zar (Zag ⟨by decide,q⟩)))))
end
theorem Zjl {p q:Prop}(h:p↔q):duO p=duO q:=by rw[propext h]
theorem Zgh {K:W.Frag}{Δ:Evt}{P:D->Evt->Prop}{p:Prop}(x:P (.bl false) Δ):JR2 K (rNeF K) (duO p) (duO p) Δ P:=by
 by_cases h:p
 ·rw[Zkt h];exact Zrc x
 ·rw[Zk2 h];exact Zq2 (by decide) x
section
variable {P:Program}{w:World}{K:W.Frag}{mg:Str->Option Value}{base:Heap}{fr c:Addr}{N:Nat}{ts:List (Int × Int)}{o:List (List Int)}{M:Nat}{us:List (Int × Int)}{v:List (List Int)}{Post:D->Prop}
theorem Zrd (V:CalleeV P w K mg base 6 fr ["_law_asked"] (spX K (askX (fAlX c)))) (hW:WebOk (N:Int) ts) (hO:OrdOk (N:Int) ts o) (hV:WebOk (M:Int) us) (hU:OrdOk (M:Int) us v) (q:Post (duO (OneP N ts/\OneP M us))):fRefG P w K mg base 6 (oneC c 9) [.adr fr,.tup [encWeb (N:Int) ts,encOrd o,encWeb (M:Int) us,encOrd v]] Post:=by
 by_cases h:OneP N ts/\OneP M us
 ·rw[Zkt h]at q
  exact⟨fr,_,_,λ_=>False,rfl,V,λPo p=>⟨_,rfl,N,ts,o,M,us,v,rfl,hW,hO,hV,hU,λ_=>p q,λz=>absurd h z⟩,λC z=>z.elim⟩
 ·rw[Zk2 h]at q
  exact⟨fr,_,_,λC=>C=c,rfl,V,λPo _=>⟨_,rfl,N,ts,o,M,us,v,rfl,hW,hO,hV,hU,λz=>absurd z h,λ_=>rfl⟩,λC z=>⟨9,⟨z,rfl⟩,q⟩⟩
theorem Zni (V:CalleeV P w K mg base 6 fr ["_law_asked"] (spX K (askX (fFlX c)))) (hW:WebOk (N:Int) ts) (hO:OrdOk (N:Int) ts o) (q:Post (duO (OneP N ts))):fRefG P w K mg base 6 (oneC c 9) [.adr fr,.tup [encWeb (N:Int) ts,encOrd o]] Post:=by
 by_cases h:OneP N ts
 ·rw[Zkt h]at q
  exact⟨fr,_,_,λ_=>False,rfl,V,λPo p=>⟨_,rfl,N,ts,o,rfl,hW,hO,λ_=>p q,λz=>absurd h z⟩,λC z=>z.elim⟩
 ·rw[Zk2 h]at q
  exact⟨fr,_,_,λC=>C=c,rfl,V,λPo _=>⟨_,rfl,N,ts,o,rfl,hW,hO,λz=>absurd z h,λ_=>rfl⟩,λC z=>⟨9,⟨z,rfl⟩,q⟩⟩
theorem Zqf {e:Nat}(V:CalleeV P w K mg base 6 fr ["_law_asked"] (spX K (askX (fCfX c)))) (hW:WebOk (N:Int) ts) (hO:OrdOk (N:Int) ts o) (he:e<2*ts.length) (q:Post (duO (OneP N ts))):fRefG P w K mg base 6 (oneC c 9) [.adr fr,.tup [encWeb (N:Int) ts,encOrd o,.int e]] Post:=by
 by_cases h:OneP N ts
 ·rw[Zkt h]at q
  exact⟨fr,_,_,λ_=>False,rfl,V,λPo p=>⟨_,rfl,N,ts,o,e,rfl,hW,hO,he,λ_=>p q,λz=>absurd h z⟩,λC z=>z.elim⟩
 ·rw[Zk2 h]at q
  exact⟨fr,_,_,λC=>C=c,rfl,V,λPo _=>⟨_,rfl,N,ts,o,e,rfl,hW,hO,he,λz=>absurd z h,λ_=>rfl⟩,λC z=>⟨9,⟨z,rfl⟩,q⟩⟩
end
section
variable {P:Program}{w:World}{K:W.Frag}{mg:Str->Option Value}{base:Heap}{f:Addr}{fd:FuncData}{c0 c1 c2 c3 c4 c5 c6 c7 c8 c9 c10 c11 c12 c13 c14 c15:Addr}
theorem ok_law (mb:Mb mg) (C34:Callee P w K mg base 1 "_law_pen" ["_law_script"] (spN K fPen)) (C29:Callee P w K mg base 1 "_law_draw" ["_law_pen_here","_law_many"] (spB K fDraw)) (C37:Callee P w K mg base 2 "_law_web" ["_law_pen_here","_law_places","_law_ties"] (spB K fWeb)) (C31:Callee P w K mg base 2 "_law_one_part" ["_law_pen_here","_law_limit"] (spB K fOneP)) (C32:Callee P w K mg base 2 "_law_order" ["_law_pen_here","_law_web_here"] (spB K fOrder)) (C30:Callee P w K mg base 2 "_law_due" ["_law_webs"] (spD K fDue80)) (C35:Callee P w K mg base 7 "_law_refusal" ["_law_call","_law_things"] (spD K (fRefG P w K mg base 6 (oneC c10 9)))) (C26:CalleeX P w K mg base 6 "_law_alike" ["_law_asked"] (spX K (askX (fAlX c10)))) (C27:CalleeX P w K mg base 6 "_law_code" ["_law_asked"] (spX K (askX (fFlX c10)))) (C36:CalleeX P w K mg base 6 "_law_turnings" ["_law_asked"] (spX K (askX (fFlX c10)))) (C28:CalleeX P w K mg base 6 "_law_code_from" ["_law_asked"] (spX K (askX (fCfX c10))))
  (F:Fun K "law" "law" s_law f fd):FnOk P w K mg base CX0 8 f fd ["_law_script"] (spD K fLaw):=by
 refine F.ok sc_law (Zc3 λds Post h=>by obtain⟨_,rfl,_⟩:=h;rfl) (λcdv A outer s H vs Q E hr h=>?_);have hu:=Zbs hr;have hv:=Zi9 hr;obtain⟨fa,V1,m__law_alike⟩:=C26.val;obtain⟨fc,V2,m__law_code⟩:=C27.val;obtain⟨ft,V3,m__law_turnings⟩:=C36.val;obtain⟨ff,V4,m__law_code_from⟩:=C28.val;refine⟨_,(Zae (Zaq (i:=1) sc_law.nd rfl (Or.inr rfl) (Za4 C34 (hr.mono (by decide)) (Zaa (pv 0) Zac))) (Zae (Zgi (i:=2) ["_law_k"] (show CompSc (defScope s_law) ["_law_script","_law_pen_here","_law_webs","_law_orders","_law_one","_law_other","_law_asked","_law_k","_law_due_here","_law_j","_law_end"] _ ["_law_pen_here"] [1] from ⟨rfl,by decide +kernel,by decide +kernel,by decide +kernel,rfl,by decide +kernel⟩) rfl sc_law.nd rfl (Or.inl rfl) (Za7 rfl (mb "range" (by decide)) (Zaa Zaf Zac)) (λ_ _ _ _ _=>(Zas (i:=0) (show List.Nodup (["_law_k","_law_pen_here"]:List Str) from by decide) rfl (Or.inl rfl))) (λ_ _ _ _ _=>Zb8) (λ_ _ _ _ _=>(Zam (ixK K hu) (Zbg (Zaa (Za4 C37 (hr.mono (by decide)) (Zaa (pv 1) (Zaa Zaf (Zaa Zaf Zac)))) (Zaa (Za4 C31 (hr.mono (by decide)) (Zaa (pv 1) (Zaa Zaf Zac))) Zac))) (Za4 C29 (hr.mono (by decide)) (Zaa (pv 1) (Zaa Zaf Zac))) (λ_ _=>rfl)))) (Zae (Zgi (i:=3) ["_law_web_here"] (show CompSc (defScope s_law) ["_law_script","_law_pen_here","_law_webs","_law_orders","_law_one","_law_other","_law_asked","_law_k","_law_due_here","_law_j","_law_end"] _ ["_law_pen_here"] [1] from ⟨rfl,by decide +kernel,by decide +kernel,by decide +kernel,rfl,by decide +kernel⟩) rfl sc_law.nd rfl (Or.inl rfl) (seqK K (pv 2)) (λ_ _ _ _ _=>(Zas (i:=0) (show List.Nodup (["_law_web_here","_law_pen_here"]:List Str) from by decide) rfl (Or.inl rfl))) (λ_ _ _ _ _=>Zb8) (λ_ _ _ _ _=>(Za4 C32 (hr.mono (by decide)) (Zaa (pv 1) (Zaa (pv 0) Zac))))) (Zae (Zc2 PassesOwn.never rfl (seqK K (@Zbg _ _ _ _ (@Zaa _ _ _ _ _ (Zb6 (Zaa Zaf (Zaa Zaf Zac))) (@Zaa _ _ _ _ _ (Zb6 (Zaa Zaf (Zaa Zaf Zac))) (@Zaa _ _ _ _ _ (Zb6 (Zaa Zaf (Zaa Zaf Zac))) Zac (@Zgl _ _ _ _ _)) (@Zgl _ _ _ _ _)) (@Zgl _ _ _ _ _)))) (gtupK (n:=2) K rfl (Zch (Zas (i:=4) sc_law.nd rfl (Or.inl rfl)) (Zch (Zas (i:=5) sc_law.nd rfl (Or.inl rfl)) Zfr))) (Zae (Zaq (i:=6) sc_law.nd rfl (Or.inl rfl) (Zb6 (Zaa (Zam (ixK K hu) (pv 2) (pv 4) (λ_ _=>rfl)) (Zaa (Zam (ixK K hu) (pv 3) (pv 4) (λ_ _=>rfl)) (Zaa (Zam (ixK K hu) (pv 2) (pv 5) (λ_ _=>rfl)) (Zaa (Zam (ixK K hu) (pv 3) (pv 5) (λ_ _=>rfl)) Zac)))))) (Zai (Zbz (Zat (neFK K hv) (Za4 C35 (hr.mono (by decide)) (Zaa (Zba rfl m__law_alike (show RelV (.ref _) _ from rfl)) (Zaa (pv 6) Zac))) (Za4 C30 (hr.mono (by decide)) (Zaa (Zbg (Zaa (Zam (ixK K hu) (pv 2) (pv 4) (λ_ _=>rfl)) (Zaa (Zam (ixK K hu) (pv 2) (pv 5) (λ_ _=>rfl)) Zac))) Zac)) (nomark _)) (Zai (Zaz Zjm)) Za0)))) (Zae (Zc2 PassesOwn.never rfl (Za7 rfl (mb "range" (by decide)) (Zaa Zaf Zac)) (Zas (i:=7) sc_law.nd rfl (Or.inl rfl)) (Zae (Zaq (i:=8) sc_law.nd rfl (Or.inl rfl) (Za4 C30 (hr.mono (by decide)) (Zaa (Zbg (Zaa (Zam (ixK K hu) (pv 2) (pv 7) (λ_ _=>rfl)) Zac)) Zac))) (Zae (Zbz (Zat (neFK K hv) (Za4 C35 (hr.mono (by decide)) (Zaa (Zba rfl m__law_code (show RelV (.ref _) _ from rfl)) (Zaa (Zb6 (Zaa (Zam (ixK K hu) (pv 2) (pv 7) (λ_ _=>rfl)) (Zaa (Zam (ixK K hu) (pv 3) (pv 7) (λ_ _=>rfl)) Zac))) Zac))) (pv 8) (nomark _)) (Zai (Zaz Zjm)) Za0) (Zae (Zbz (Zat (neFK K hv) (Za4 C35 (hr.mono (by decide)) (Zaa (Zba rfl m__law_turnings (show RelV (.ref _) _ from rfl)) (Zaa (Zb6 (Zaa (Zam (ixK K hu) (pv 2) (pv 7) (λ_ _=>rfl)) (Zaa (Zam (ixK K hu) (pv 3) (pv 7) (λ_ _=>rfl)) Zac))) Zac))) (pv 8) (nomark _)) (Zai (Zaz Zjm)) Za0) (Zai (Zc2 PassesOwn.never rfl (Za7 rfl (mb "range" (by decide)) (Zaa (Zav Zc6 Zaf (Zcb Zkh rfl (mb "int" (by decide)) Zq3 (Zaa (Zor Ziu (Zaj (lenK K) rfl (mb "len" (by decide)) Zbr (Zaa (Zam (ixK K hu) (Zam (ixK K hu) (pv 2) (pv 7) (λ_ _=>rfl)) Zaf (λ_ _=>rfl)) Zac)) Zaf (nomark _)) Zac))) Zac)) (Zas (i:=9) sc_law.nd rfl (Or.inl rfl)) (Zae (Zaq (i:=10) sc_law.nd rfl (Or.inl rfl) (Za4 C29 (hr.mono (by decide)) (Zaa (pv 1) (Zaa (Zav Zc6 Zaf (Zaj (lenK K) rfl (mb "len" (by decide)) Zbr (Zaa (Zam (ixK K hu) (Zam (ixK K hu) (pv 2) (pv 7) (λ_ _=>rfl)) Zaf (λ_ _=>rfl)) Zac))) Zac)))) (Zai (Zbz (Zat (neFK K hv) (Za4 C35 (hr.mono (by decide)) (Zaa (Zba rfl m__law_code_from (show RelV (.ref _) _ from rfl)) (Zaa (Zb6 (Zaa (Zam (ixK K hu) (pv 2) (pv 7) (λ_ _=>rfl)) (Zaa (Zam (ixK K hu) (pv 3) (pv 7) (λ_ _=>rfl)) (Zaa (pv 10) Zac)))) Zac))) (pv 8) (nomark _)) (Zai (Zaz Zjm)) Za0))))))))) (Zai (Zaz Zjm))))))),Zha (λds Post hf=>?_) h⟩
 obtain⟨ns,rfl,hl,q⟩:=hf;refine⟨by simp,?_⟩;dsimp only[startD,Wbe,Wbh,Wa3,Wae];refine Zap (Zd8 (Zci (Zab (Zad rfl (Zag ⟨ns,rfl,hl,λps hp=>?_⟩)))));refine Za8 (λΔ=>∃(ps1:List D) (a b:Nat × List (Int × Int)),Pen ps1/\WebOk (a.1:Int) a.2/\WebOk (b.1:Int) b.2 /\ Δ = [.val (.scr (ns.map .int)),.own (.lst ps1),.val (.lst [wD a,wD b]),.any,.any,.any,.any,.any,.any,.any,.any]) ?_ ?_
 ·refine Zax (Zhx (n:=1) (by decide) (Za5 (Zab (Zar (Zag ⟨_,rfl,by decide,by decide,?_⟩)))))
  refine⟨by rw[Za2];exact small1000 (by decide),λi ys Δ2=>∃(psx:List D) (ws:List (Nat × List (Int × Int))) (x:L2.Slot),Pen psx/\ws.length=i/\(∀y∈ws,WebOk (y.1:Int) y.2)/\ys=ws.map wD /\ Δ2=[x,.own (.lst psx)],⟨ps,[],.any,hp,rfl,λ_ h=>(nomatch h),rfl,rfl⟩,?_,?_⟩
  ·rintro i d ys Δ2 hd ⟨psx,ws,x,hpx,hlw,hws,rfl,rfl⟩
   refine Zig (by decide) (Nat.succ_pos _) (Zb5 (iteT ?_));refine Zaw (Zdt (Zab (Zc9 rfl rfl (Zab (Zar (Zab (Zar (Zag (Zpx rfl rfl hpx (by decide) (by decide) (by decide) (by decide) λn ts ps1 hp1 hW _ _=>?_)))))))));refine Zab (Zc9 rfl rfl (Zab (Zar (Zag (Zo2 rfl rfl hp1 (by decide) (by decide) λM us ps2 hp2 hV _=>Zag ⟨Zcz,?_⟩)))));refine Zmp rfl rfl hp2 (by decide) (by decide) λr ps3 hp3 r0 r1=>?_;obtain⟨N,rfl⟩:∃N:Nat,n=(N:Int):=⟨n.toNat,by have:=hW.lo;omega⟩;obtain⟨y,hy,ey⟩:∃y:Nat × List (Int × Int),WebOk (y.1:Int) y.2/\atI [encWeb (N:Int) ts,encWeb (M:Int) us] r=some (wD y):=by
    rcases(show r=0\/r=1 by omega) with rfl|rfl
    ·exact⟨(N,ts),hW,rfl⟩
    ·exact⟨(M,us),hV,rfl⟩
   refine Zbk ey ⟨ps3,ws++[y],_,hp3,by rw[Wap,hlw];rfl,λz hz=>?_,by rw[Wa6];rfl,rfl⟩;rcases Wbj.mp hz with h|h
   ·exact hws z h
   ·rw[Was.mp h];exact hy
  ·rintro ys Δ2 ⟨psx,ws,x,hpx,hlw,hws,rfl,rfl⟩
   rw[Za2]at hlw;have hlw:ws.length=2:=hlw
   match ws,hlw with
   |[a,b],_=>exact⟨psx,a,b,hpx,hws a (by simp),hws b (by simp),rfl⟩
 rintro Δ1 ⟨ps1,a,b,hp1,hA,hB,rfl⟩;refine Za8 (λΔ=>∃(ps2:List D) (oa ob:List (List Int)),Pen ps2/\OrdOk (a.1:Int) a.2 oa/\OrdOk (b.1:Int) b.2 ob /\ Δ = [.val (.scr (ns.map .int)),.own (.lst ps2),.val (.lst [wD a,wD b]),.val (.lst [encOrd oa,encOrd ob]),.any,.any,.any,.any,.any,.any,.any]) ?_ ?_
 ·refine Zax (Zhx (n:=1) (by decide) (Zdw (Zad rfl ⟨_,Or.inl rfl,small1000 (by show 2<=1000;omega),λi ys Δ2=>∃(psx:List D) (os:List (List (List Int))) (x:L2.Slot),Pen psx/\os.length=i/\(∀(j:Nat) u y,os[j]?=some u -> [a,b][j]?=some y->OrdOk (y.1:Int) y.2 u)/\ys=os.map encOrd /\ Δ2=[x,.own (.lst psx)],⟨ps1,[],.any,hp1,rfl,λj u y h=>(by simp at h),rfl,rfl⟩,?_,?_⟩)))
  ·rintro i d ys Δ2 hd ⟨psx,os,x,hpx,hlo,hos,rfl,rfl⟩
   obtain⟨y,hy,hY,rfl⟩:∃y,[a,b][i]?=some y/\WebOk (y.1:Int) y.2/\d=wD y:=by
    rcases i with _|_|i
    ·cases hd;exact⟨a,rfl,hA,rfl⟩
    ·cases hd;exact⟨b,rfl,hB,rfl⟩
    ·cases hd
   refine Zig (by decide) (Nat.succ_pos _) (Zb5 (iteT ?_));refine Zc9 rfl rfl (Zab (Zad rfl (Zag (Zl4 rfl rfl hpx hY λu ps3 hp3 hU=>?_))));refine⟨ps3,os++[u],_,hp3,by rw[Wap,hlo];rfl,λj u' y' h1 h2=>?_,by rw[Wa6];rfl,rfl⟩;by_cases c:j<os.length
   ·rw[Way c]at h1
    exact hos j u' y' h1 h2
   ·rw[Waq (by omega)]at h1
    have e0:j-os.length=0:=by
     have:=(Wag.mp h1).1;simp at this;omega
    rw[e0]at h1;have e1:u=u':=by simpa using h1
    have e2:j=i:=by omega
    rw[e2,hy]at h2;cases h2;rw[<- e1];exact hU
  ·rintro ys Δ2 ⟨psx,os,x,hpx,hlo,hos,rfl,rfl⟩
   have hlo:os.length=2:=hlo
   match os,hlo with
   |[oa,ob],_=>exact⟨psx,oa,ob,hpx,hos 0 oa a rfl rfl,hos 1 ob b rfl rfl,rfl⟩
 rintro Δ1 ⟨ps2,oa,ob,hp2,hOA,hOB,rfl⟩;have at2:∀i:Int,(i=0\/i=1)->∃(y:Nat × List (Int × Int)) (u:List (List Int)),atI [wD a,wD b] i=some (encWeb (y.1:Int) y.2)/\atI [encOrd oa,encOrd ob] i=some (encOrd u)/\WebOk (y.1:Int) y.2/\OrdOk (y.1:Int) y.2 u:=λi hi=>by
  rcases hi with rfl|rfl
  ·exact⟨a,oa,rfl,rfl,hA,hOA⟩
  ·exact⟨b,ob,rfl,rfl,hB,hOB⟩
 refine Za8 (λΔ=>∃x4 x5 x6:L2.Slot,Δ = [.val (.scr (ns.map .int)),.own (.lst ps2),.val (.lst [wD a,wD b]),.val (.lst [encOrd oa,encOrd ob]),x4,x5,x6,.any,.any,.any,.any]) ?_ ?_
 ·refine Zc7 (Zdw (Zbn (Zh8 (Zah (Zd9 (Zah Zay (Zah Zay Za1)) Zcz) (Zah (Zd9 (Zah Zay (Zah Zay Za1)) Zcz) (Zah (Zd9 (Zah Zay (Zah Zay Za1)) Zcz) Za1))) (by show 3<=sizeLine;decide)) ⟨_,Or.inl rfl,λ_ Δ=>∃x4 x5 x6:L2.Slot,Δ = [.val (.scr (ns.map .int)),.own (.lst ps2),.val (.lst [wD a,wD b]),.val (.lst [encOrd oa,encOrd ob]),x4,x5,x6,.any,.any,.any,.any],⟨_,_,_,rfl⟩,?_,λΔ h=>h⟩))
  rintro i d Δ2 hd ⟨x4,x5,x6,rfl⟩;obtain⟨p,p',rfl,h0,h1⟩:∃p p':Int,d=.tup [.int p,.int p']/\(p=0\/p=1)/\(p'=0\/p'=1):=by
   rcases i with _|_|_|i
   ·cases hd;exact⟨0,1,rfl,Or.inl rfl,Or.inr rfl⟩
   ·cases hd;exact⟨1,0,rfl,Or.inr rfl,Or.inl rfl⟩
   ·cases hd;exact⟨0,0,rfl,Or.inl rfl,Or.inl rfl⟩
   ·cases hd
  obtain⟨y,u,e1,e2,hY,hU⟩:=at2 p h0;obtain⟨y',u',e1',e2',hY',hU'⟩:=at2 p' h1;refine Zh5 rfl (Zcg (Zbt (Zcg (Zbt (Zgm ?_)))));refine Zap (Zax (Zbn (Zd9 (Zah (Zcy (Zak rfl) (Zak rfl) e1) (Zah (Zcy (Zak rfl) (Zak rfl) e2) (Zah (Zcy (Zak rfl) (Zak rfl) e1') (Zah (Zcy (Zak rfl) (Zak rfl) e2') Za1)))) (by show 4<=sizeLine;decide)) ?_));refine Zcf (Za6 (Zaw (Zbf (Zab (Zgs (Zab (Zad rfl (Zag (Zrd V1 hY hU hY' hU' ?_)))))))));refine Zbf (Zab (Zbn (Zh8 (Zah (Zcy (Zak rfl) (Zak rfl) e1) (Zah (Zcy (Zak rfl) (Zak rfl) e1') Za1)) Zcz) (Zag ⟨[y,y'],rfl,Waj _,λz hz=>?_,?_⟩)))
  ·rcases Wan.mp hz with rfl|hz
   ·exact hY
   ·rw[Was.mp hz];exact hY'
  rw[Zjl (p:=∀x∈[y,y'],OneP x.1 x.2) (q:=OneP y.1 y.2/\OneP y'.1 y'.2) ⟨λh=>⟨h y (by simp),h y' (by simp)⟩,λh x hx=>by
   rcases Wan.mp hx with rfl|hx
   ·exact h.1
   ·rw[Was.mp hx];exact h.2⟩]
  exact Zgh ⟨false,rfl,iteF (Za3 ⟨_,_,_,rfl⟩)⟩
 rintro Δ1 ⟨x4,x5,x6,rfl⟩;refine Za8 (λ_=>True) ?_ (λΔ1 _=>Zbo (Zqu q));refine Zc7 (Za5 (Zab (Zar (Zag ⟨_,rfl,by decide,by decide,?_⟩))));refine⟨λ_ Δ=>∃(psx:List D) (x7 x8 x9 x10:L2.Slot),Pen psx /\ Δ = [.val (.scr (ns.map .int)),.own (.lst psx),.val (.lst [wD a,wD b]),.val (.lst [encOrd oa,encOrd ob]),x4,x5,x6,x7,x8,x9,x10],⟨ps2,_,_,_,_,hp2,rfl⟩,?_,λ_ _=>trivial⟩;rintro i d Δ2 hd ⟨psx,x7,x8,x9,x10,hpx,rfl⟩;obtain⟨hi,rfl⟩:=Zbd hd;have hi:i<2:=hi;rw[Wbq];obtain⟨y,u,e1,e2,hY,hU⟩:=at2 (i:Int) (by omega);have hyl:=hY.len;refine Zbt (Za8 (λΔ=>Δ = [.val (.scr (ns.map .int)),.own (.lst psx),.val (.lst [wD a,wD b]),.val (.lst [encOrd oa,encOrd ob]),x4,x5,x6,.val (.int (i:Int)),.val (duO (OneP y.1 y.2)),x9,x10]) ?_ ?_)
 ·refine Zax (Zbf (Zab (Zbn (Zh8 (Zah (Zcy (Zak rfl) (Zak rfl) e1) Za1) (by show 1<=sizeLine;decide)) (Zag ⟨[y],rfl,(by show 1<=2;omega),λz hz=>by rw[Was.mp hz];exact hY,?_⟩))))
  rw[Zjl (p:=∀x∈[y],OneP x.1 x.2) (q:=OneP y.1 y.2) ⟨λh=>h y (by simp),λh x hx=>by rw[Was.mp hx];exact h⟩];rfl
 rintro Δ1 rfl;have tw:∀{Δ:Evt},Δ[2]?=some (.val (.lst [wD a,wD b])) -> Δ[7]?=some (.val (.int (i:Int)))->PV K (tOp (rIxU K) (tVar 2) (tVar 7)) Δ (encWeb (y.1:Int) y.2):=λh2 h7=>Zcy (Zak h2) (Zak h7) e1;have tl:∀{Δ:Evt},Δ[2]?=some (.val (.lst [wD a,wD b])) -> Δ[7]?=some (.val (.int (i:Int)))->PV K (tCB (rLenU K) (tCons (tOp (rIxU K) (tOp (rIxU K) (tVar 2) (tVar 7)) (tC (.int 1))) tNil)) Δ (.int ((y.2.map encTie).length:Int)):=λh2 h7=>Zgg (Zij (tw h2 h7) Zay (Zgp (y.1:Int) y.2));have to:∀{Δ:Evt},Δ[3]?=some (.val (.lst [encOrd oa,encOrd ob])) -> Δ[7]?=some (.val (.int (i:Int)))->PV K (tOp (rIxU K) (tVar 3) (tVar 7)) Δ (encOrd u):=λh3 h7=>Zcy (Zak h3) (Zak h7) e2;refine Zap (Zcf (Za6 (Zaw (Zbf (Zab (Zgs (Zab (Zbn (Zd9 (Zah (tw rfl rfl) (Zah (to rfl rfl) Za1)) Zcz) (Zag (Zni V2 hY hU (Zad rfl (Zgh ⟨false,rfl,iteF (Za3 ?_)⟩))))))))))));refine Zap (Zcf (Za6 (Zaw (Zbf (Zab (Zgs (Zab (Zbn (Zd9 (Zah (tw rfl rfl) (Zah (to rfl rfl) Za1)) Zcz) (Zag (Zni V3 hY hU (Zad rfl (Zgh ⟨false,rfl,iteF (Za3 ?_)⟩))))))))))));refine Zc7 (Za5 (Zab (Zaw (Zar (Zbx (Zab (Zaw (Zbn (tl rfl rfl) (Zar (Zhh (Zag (Zof (jr_I (Or.inl ⟨by decide,by decide⟩) ?_)))))))))))));rw[Wab];obtain⟨g,hg,hg1⟩:∃g:Int,(if decide (0<(y.2.length:Int))=true then (1:Int) else 0)=g/\(0<(y.2.length:Int)/\g=1\/g=0):=by
  by_cases z:0<(y.2.length:Int)
  ·exact⟨1,by rw[decide_eq_true z];rfl,.inl ⟨z,rfl⟩⟩
  ·exact⟨0,by rw[decide_eq_false z];rfl,.inr rfl⟩
 rw[hg];refine Zag ⟨_,rfl,by omega,by omega,λ_ Δ=>∃(psx:List D) (x9 x10:L2.Slot),Pen psx /\ Δ = [.val (.scr (ns.map .int)),.own (.lst psx),.val (.lst [wD a,wD b]),.val (.lst [encOrd oa,encOrd ob]),x4,x5,x6,.val (.int (i:Int)),.val (duO (OneP y.1 y.2)),x9,x10],⟨psx,_,_,hpx,rfl⟩,?_,λ_ ⟨pz,z9,z10,hz,e⟩=>⟨pz,_,_,z9,z10,hz,e⟩⟩;rintro j d Δ2 hd ⟨psy,y9,y10,hpy,rfl⟩;obtain⟨hj,rfl⟩:=Zbd hd;have hpos:0<(y.2.length:Int):=by
  rcases hg1 with z|z
  ·exact z.1
  ·rw[z]at hj;exact absurd hj (Nat.not_lt_zero _)
 refine Zbt (Zap (Zax (Zc9 rfl rfl (Zab (Zbn (Zbw Zay (tl rfl rfl) (pr_I (Or.inl ⟨by decide,by decide⟩))) (Zag (Zbm rfl rfl hpy (by rw[Wab];omega) (by rw[Wab];omega) λe ps3 hp3 g0 g1=>?_)))))));rw[Wab]at g1;obtain⟨e',rfl⟩:∃e':Nat,e=(e':Int):=⟨e.toNat,(Wb6 g0).symm⟩;exact Zcf (Za6 (Zaw (Zbf (Zab (Zgs (Zab (Zbn (Zd9 (Zah (tw rfl rfl) (Zah (to rfl rfl) (Zah (Zak rfl) Za1))) (by show 3<=sizeLine;decide)) (Zag (Zqf V4 hY hU (by omega) (Zad rfl (Zgh ⟨false,rfl,iteF (Za3 ⟨_,_,_,hp3,rfl⟩)⟩)))))))))))
end
theorem lenS {us:List Value}{n:Nat}(h:us.length=n+1):∃a t,us=a::t/\t.length=n:=by
 cases us with
 |nil=>exact absurd h.symm (Nat.succ_ne_zero n)
 |cons a t=>exact⟨a,t,rfl,Nat.succ.inj h⟩
theorem bK1 {α:Type _}{g r:List Value -> α}(h:∀a0,g [a0]=r [a0]) (us:List Value) (l:us.length=1):g us=r us:=by
 obtain⟨a0,u0,rfl,h0⟩:=lenS l;obtain rfl:=Wbl h0;exact h a0
theorem bK2 {α:Type _}{g r:List Value -> α}(h:∀a0 a1,g [a0,a1]=r [a0,a1]) (us:List Value) (l:us.length=2):g us=r us:=by
 obtain⟨a0,u0,rfl,h0⟩:=lenS l;obtain⟨a1,u1,rfl,h1⟩:=lenS h0;obtain rfl:=Wbl h1;exact h a0 a1
theorem bK3 {α:Type _}{g r:List Value -> α}(h:∀a0 a1 a2,g [a0,a1,a2]=r [a0,a1,a2]) (us:List Value) (l:us.length=3):g us=r us:=by
 obtain⟨a0,u0,rfl,h0⟩:=lenS l;obtain⟨a1,u1,rfl,h1⟩:=lenS h0;obtain⟨a2,u2,rfl,h2⟩:=lenS h1;obtain rfl:=Wbl h2;exact h a0 a1 a2
theorem bK4 {α:Type _}{g r:List Value -> α}(h:∀a0 a1 a2 a3,g [a0,a1,a2,a3]=r [a0,a1,a2,a3]) (us:List Value) (l:us.length=4):g us=r us:=by
 obtain⟨a0,u0,rfl,h0⟩:=lenS l;obtain⟨a1,u1,rfl,h1⟩:=lenS h0;obtain⟨a2,u2,rfl,h2⟩:=lenS h1;obtain⟨a3,u3,rfl,h3⟩:=lenS h2;obtain rfl:=Wbl h3;exact h a0 a1 a2 a3
def FnE (K:W.Frag) (x:Str) (st:Stmt):Prop:=∃(f:Addr) (fd:FuncData),W.nsIn K mainGlobals x=some (some (.ref f))/\Fun K x x st f fd
theorem fnE {K:W.Frag}{x:Str}{st:Stmt}{f:Addr}{oc kV doc pm cdv ct:Value}{od an:Option Addr}{sl:Array (Option Value)}(a:W.nsIn K mainGlobals x=some (some (.ref f))) (l:K.lookup f=some ⟨oc,od,.func (W.fnOf x x (defArgs st) (defBody st) (defScope st) .none kV doc pm an cdv ct),sl⟩) (c:W.codeIn K cdv x=true) (k:W.keepIn K (.ref f)=true):FnE K x st:=⟨f,_,a,Zq9 l c k⟩
theorem Zn1 {P:Program}{w:World}{K:W.Frag}{mg:Str->Option Value}{base h:Heap}(X:K.In h) (G:h.Ns mainGlobals mg) {x:Str}{st:Stmt}{ps:List Str}{lv:Nat}{sp:Sp}(e:FnE K x st) (ok:∀{f:Addr}{fd:FuncData},Fun K x x st f fd->FnOk P w K mg base CX0 lv f fd ps sp) (hb:∀(kV doc pm:Value) (an:Option Addr) (cdv ct:Value) (us:List Value),us.length=ps.length->bindArgs (W.fnOf x x (defArgs st) (defBody st) (defScope st) .none kV doc pm an cdv ct) ⟨us,[]⟩=pure (ps.zip us)):Callee P w K mg base lv x ps sp:=by
 obtain⟨f,fd,a,F⟩:=e;exact⟨⟨f,fd,ok F,F.binds hb,F.kp,W.mg_of X G a⟩⟩
theorem Zna {P:Program}{w:World}{K:W.Frag}{mg:Str->Option Value}{base h:Heap}(X:K.In h) (G:h.Ns mainGlobals mg) {x:Str}{st:Stmt}{ps:List Str}{lv:Nat}{sp:Sp}(e:FnE K x st) (ok:∀{f:Addr}{fd:FuncData},Fun K x x st f fd->FnOk P w K mg base (CXE P w) lv f fd ps sp) (hb:∀(kV doc pm:Value) (an:Option Addr) (cdv ct:Value) (us:List Value),us.length=ps.length->bindArgs (W.fnOf x x (defArgs st) (defBody st) (defScope st) .none kV doc pm an cdv ct) ⟨us,[]⟩=pure (ps.zip us)):CalleeX P w K mg base lv x ps sp:=by
 obtain⟨f,fd,a,F⟩:=e;exact⟨⟨f,fd,ok F,F.binds hb,F.kp,W.mg_of X G a⟩⟩
theorem all_mk {l:PySem.W.OpenLaw}{w:World}{K:W.Frag}{h:Heap}{mg:Str->Option Value}{fa:Addr}(X:K.In h) (G:h.Ns mainGlobals mg) (hfa:mg "law" = some (.ref fa))
  (e1:FnE K "_law_draw" s_law_draw)
  (e2:FnE K "_law_pen" s_law_pen)
  (e3:FnE K "_law_web" s_law_web)
  (e4:FnE K "_law_order" s_law_order)
  (e5:FnE K "_law_one_part" s_law_one_part)
  (e6:FnE K "_law_parts" s_law_parts)
  (e7:FnE K "_law_due" s_law_due)
  (e8:FnE K "place_of" s_place_of)
  (e9:FnE K "parts_of" s_parts_of)
  (e10:FnE K "refuse_parts" s_refuse_parts)
  (e11:FnE K "follower" s_follower)
  (e12:FnE K "numbered_from" s_numbered_from)
  (e13:FnE K "code_by" s_code_by)
  (e14:FnE K "code_from" s_code_from)
  (e15:FnE K "code" s_code)
  (e16:FnE K "renamings" s_renamings)
  (e17:FnE K "alike" s_alike)
  (e18:FnE K "turnings" s_turnings)
  (e19:FnE K "_law_alike" s_law_alike)
  (e20:FnE K "_law_code" s_law_code)
  (e21:FnE K "_law_turnings" s_law_turnings)
  (e22:FnE K "_law_code_from" s_law_code_from)
  (e23:FnE K "_law_refusal" s_law_refusal)
  (e24:FnE K "law" s_law)
  (z0:W.nsIn K mainGlobals "ValueError" = some none)
  (z1:W.nsIn K mainGlobals "abs" = some none)
  (z2:W.nsIn K mainGlobals "int" = some none)
  (z3:W.nsIn K mainGlobals "isinstance" = some none)
  (z4:W.nsIn K mainGlobals "len" = some none)
  (z5:W.nsIn K mainGlobals "list" = some none)
  (z6:W.nsIn K mainGlobals "max" = some none)
  (z7:W.nsIn K mainGlobals "min" = some none)
  (z8:W.nsIn K mainGlobals "range" = some none)
  (z9:W.nsIn K mainGlobals "set" = some none)
  (z10:W.nsIn K mainGlobals "sorted" = some none)
  (z11:W.nsIn K mainGlobals "tuple" = some none)
  {c_FloorError c_NoWeb c_NoOrder c_NoNumber c_NoEnd c_NoTie c_NoPlace c_NoTable c_NoRing c_NoPaper c_Apart c_TooMany c_TooGreat c_NoText c_NoName c_NoRow:Addr}
  (n_FloorError:W.nsIn K mainGlobals "FloorError" = some (some (.ref c_FloorError)))
  (e_FloorError:PySem.W.excIn K c_FloorError [.type "ValueError",.type "Exception",.type "BaseException",.type "object"] "ValueError.__new__" = true)
  (n_NoWeb:W.nsIn K mainGlobals "NoWeb" = some (some (.ref c_NoWeb)))
  (n_NoOrder:W.nsIn K mainGlobals "NoOrder" = some (some (.ref c_NoOrder)))
  (n_NoNumber:W.nsIn K mainGlobals "NoNumber" = some (some (.ref c_NoNumber)))
  (n_NoEnd:W.nsIn K mainGlobals "NoEnd" = some (some (.ref c_NoEnd)))
  (n_NoTie:W.nsIn K mainGlobals "NoTie" = some (some (.ref c_NoTie)))
  (n_NoPlace:W.nsIn K mainGlobals "NoPlace" = some (some (.ref c_NoPlace)))
  (n_NoTable:W.nsIn K mainGlobals "NoTable" = some (some (.ref c_NoTable)))
  (n_NoRing:W.nsIn K mainGlobals "NoRing" = some (some (.ref c_NoRing)))
  (n_NoPaper:W.nsIn K mainGlobals "NoPaper" = some (some (.ref c_NoPaper)))
  (n_Apart:W.nsIn K mainGlobals "Apart" = some (some (.ref c_Apart)))
  (e_Apart:PySem.W.excIn K c_Apart [.type "ValueError",.type "Exception",.type "BaseException",.type "object"] "ValueError.__new__" = true)
  (n_TooMany:W.nsIn K mainGlobals "TooMany" = some (some (.ref c_TooMany)))
  (n_TooGreat:W.nsIn K mainGlobals "TooGreat" = some (some (.ref c_TooGreat)))
  (n_NoText:W.nsIn K mainGlobals "NoText" = some (some (.ref c_NoText)))
  (n_NoName:W.nsIn K mainGlobals "NoName" = some (some (.ref c_NoName)))
  (n_NoRow:W.nsIn K mainGlobals "NoRow" = some (some (.ref c_NoRow)))
  (gsx:PySem.W.specialIn K (.builtin "object.__class__") "__get__" = some (some (.builtin "getset_descriptor.__get__")))
  (tkx:PySem.W.takesIn K (.builtin "object.__class__")=some true)
  (ic_NoWeb:PySem.W.isClsIn K c_NoWeb=true)
  (ty_NoWeb:PySem.W.typeIn K (.ref c_NoWeb)=some (.type "type"))
  (ic_NoOrder:PySem.W.isClsIn K c_NoOrder=true)
  (ty_NoOrder:PySem.W.typeIn K (.ref c_NoOrder)=some (.type "type"))
  (ic_NoNumber:PySem.W.isClsIn K c_NoNumber=true)
  (ty_NoNumber:PySem.W.typeIn K (.ref c_NoNumber)=some (.type "type"))
  (ic_NoEnd:PySem.W.isClsIn K c_NoEnd=true)
  (ty_NoEnd:PySem.W.typeIn K (.ref c_NoEnd)=some (.type "type"))
  (ic_NoTie:PySem.W.isClsIn K c_NoTie=true)
  (ty_NoTie:PySem.W.typeIn K (.ref c_NoTie)=some (.type "type"))
  (ic_NoPlace:PySem.W.isClsIn K c_NoPlace=true)
  (ty_NoPlace:PySem.W.typeIn K (.ref c_NoPlace)=some (.type "type"))
  (ic_NoTable:PySem.W.isClsIn K c_NoTable=true)
  (ty_NoTable:PySem.W.typeIn K (.ref c_NoTable)=some (.type "type"))
  (ic_NoRing:PySem.W.isClsIn K c_NoRing=true)
  (ty_NoRing:PySem.W.typeIn K (.ref c_NoRing)=some (.type "type"))
  (ic_NoPaper:PySem.W.isClsIn K c_NoPaper=true)
  (ty_NoPaper:PySem.W.typeIn K (.ref c_NoPaper)=some (.type "type"))
  (ic_Apart:PySem.W.isClsIn K c_Apart=true)
  (ty_Apart:PySem.W.typeIn K (.ref c_Apart)=some (.type "type"))
  (ic_TooMany:PySem.W.isClsIn K c_TooMany=true)
  (ty_TooMany:PySem.W.typeIn K (.ref c_TooMany)=some (.type "type"))
  (ic_TooGreat:PySem.W.isClsIn K c_TooGreat=true)
  (ty_TooGreat:PySem.W.typeIn K (.ref c_TooGreat)=some (.type "type"))
  (ic_NoText:PySem.W.isClsIn K c_NoText=true)
  (ty_NoText:PySem.W.typeIn K (.ref c_NoText)=some (.type "type"))
  (ic_NoName:PySem.W.isClsIn K c_NoName=true)
  (ty_NoName:PySem.W.typeIn K (.ref c_NoName)=some (.type "type"))
  (ic_NoRow:PySem.W.isClsIn K c_NoRow=true)
  (ty_NoRow:PySem.W.typeIn K (.ref c_NoRow)=some (.type "type"))
  (ga_Apart:PySem.W.findIn K (.ref c_Apart) "__getattribute__" = some (some (.builtin "BaseException.__getattribute__")))
  (gt_Apart:PySem.W.findIn K (.ref c_Apart) "__getattr__" = some none)
  (ca_Apart:PySem.W.findIn K (.ref c_Apart) "__class__" = some (some (.builtin "object.__class__")))
  (ob_Apart:PySem.W.mroIn K c_Apart (.type "object")=some true)
  (be_Apart:PySem.W.mroIn K c_Apart (.type "BaseException")=some true)
  (ve_Apart:PySem.W.subIn K (.ref c_Apart) (.type "ValueError")=some true)
  (m_Apart:PySem.W.mroIn K c_Apart (.ref c_FloorError)=some true)
  (s_Apart_NoWeb:PySem.W.subIn K (.ref c_Apart) (.ref c_NoWeb)=some false)
  (d_Apart_NoWeb:(c_Apart == c_NoWeb)=false)
  (s_Apart_NoOrder:PySem.W.subIn K (.ref c_Apart) (.ref c_NoOrder)=some false)
  (d_Apart_NoOrder:(c_Apart == c_NoOrder)=false)
  (s_Apart_NoNumber:PySem.W.subIn K (.ref c_Apart) (.ref c_NoNumber)=some false)
  (d_Apart_NoNumber:(c_Apart == c_NoNumber)=false)
  (s_Apart_NoEnd:PySem.W.subIn K (.ref c_Apart) (.ref c_NoEnd)=some false)
  (d_Apart_NoEnd:(c_Apart == c_NoEnd)=false)
  (s_Apart_NoTie:PySem.W.subIn K (.ref c_Apart) (.ref c_NoTie)=some false)
  (d_Apart_NoTie:(c_Apart == c_NoTie)=false)
  (s_Apart_NoPlace:PySem.W.subIn K (.ref c_Apart) (.ref c_NoPlace)=some false)
  (d_Apart_NoPlace:(c_Apart == c_NoPlace)=false)
  (s_Apart_NoTable:PySem.W.subIn K (.ref c_Apart) (.ref c_NoTable)=some false)
  (d_Apart_NoTable:(c_Apart == c_NoTable)=false)
  (s_Apart_NoRing:PySem.W.subIn K (.ref c_Apart) (.ref c_NoRing)=some false)
  (d_Apart_NoRing:(c_Apart == c_NoRing)=false)
  (s_Apart_NoPaper:PySem.W.subIn K (.ref c_Apart) (.ref c_NoPaper)=some false)
  (d_Apart_NoPaper:(c_Apart == c_NoPaper)=false)
  (s_Apart_Apart:PySem.W.subIn K (.ref c_Apart) (.ref c_Apart)=some true)
  (s_Apart_TooMany:PySem.W.subIn K (.ref c_Apart) (.ref c_TooMany)=some false)
  (d_Apart_TooMany:(c_Apart == c_TooMany)=false)
  (s_Apart_TooGreat:PySem.W.subIn K (.ref c_Apart) (.ref c_TooGreat)=some false)
  (d_Apart_TooGreat:(c_Apart == c_TooGreat)=false)
  (s_Apart_NoText:PySem.W.subIn K (.ref c_Apart) (.ref c_NoText)=some false)
  (d_Apart_NoText:(c_Apart == c_NoText)=false)
  (s_Apart_NoName:PySem.W.subIn K (.ref c_Apart) (.ref c_NoName)=some false)
  (d_Apart_NoName:(c_Apart == c_NoName)=false)
  (s_Apart_NoRow:PySem.W.subIn K (.ref c_Apart) (.ref c_NoRow)=some false)
  (d_Apart_NoRow:(c_Apart == c_NoRow)=false) :
  ∃fd:FuncData,(∀(s:Shared) (v:Value),BindsTo s fd ⟨[v],[]⟩ [("_law_script",v)])/\∀base:Heap,K.In base->base.Ns mainGlobals mg->FnOk l.prog w K mg base CX0 8 fa fd ["_law_script"] (spD K fLaw):=by
 obtain⟨f,fd,a,F⟩:=e24;have e:=hfa.symm.trans (W.mg_of X G a);cases e;have mb:Mb mg:=by
  intro x hx;simp only[Wan,Wcn,or_false]at hx;rcases hx with rfl|rfl|rfl|rfl|rfl|rfl|rfl|rfl|rfl|rfl|rfl|rfl
  ·exact W.mg_none_of X G z0
  ·exact W.mg_none_of X G z1
  ·exact W.mg_none_of X G z2
  ·exact W.mg_none_of X G z3
  ·exact W.mg_none_of X G z4
  ·exact W.mg_none_of X G z5
  ·exact W.mg_none_of X G z6
  ·exact W.mg_none_of X G z7
  ·exact W.mg_none_of X G z8
  ·exact W.mg_none_of X G z9
  ·exact W.mg_none_of X G z10
  ·exact W.mg_none_of X G z11
 obtain⟨oc,od,kV,doc,pm,an,cdv,ct,osl,rfl,lk,hcd⟩:=F.ex;refine⟨W.fnOf "law" "law" (defArgs s_law) (defBody s_law) (defScope s_law) .none kV doc pm an cdv ct,λs v=>.of_eq rfl,λbase _ _=>?_⟩;have M:=@Zn1 l.prog w K mg base h X G;have MX:=@Zna l.prog w K mg base h X G;have cl:Cl K mg c_FloorError c_NoWeb c_NoOrder c_NoNumber c_NoEnd c_NoTie c_NoPlace c_NoTable c_NoRing c_NoPaper c_Apart c_TooMany c_TooGreat c_NoText c_NoName c_NoRow:=⟨W.mg_of X G n_FloorError,e_FloorError,W.mg_of X G n_NoWeb,W.mg_of X G n_NoOrder,W.mg_of X G n_NoNumber,W.mg_of X G n_NoEnd,W.mg_of X G n_NoTie,W.mg_of X G n_NoPlace,W.mg_of X G n_NoTable,W.mg_of X G n_NoRing,W.mg_of X G n_NoPaper,W.mg_of X G n_Apart,e_Apart,W.mg_of X G n_TooMany,W.mg_of X G n_TooGreat,W.mg_of X G n_NoText,W.mg_of X G n_NoName,W.mg_of X G n_NoRow,⟨e_Apart,ga_Apart,gt_Apart,ca_Apart,gsx,tkx,ob_Apart,be_Apart⟩,m_Apart,Zot (by decide +kernel) ve_Apart,Zb9 ic_NoWeb ty_NoWeb s_Apart_NoWeb λz=>(by rw[d_Apart_NoWeb]at z;exact z),Zb9 ic_NoOrder ty_NoOrder s_Apart_NoOrder λz=>(by rw[d_Apart_NoOrder]at z;exact z),Zb9 ic_NoNumber ty_NoNumber s_Apart_NoNumber λz=>(by rw[d_Apart_NoNumber]at z;exact z),Zb9 ic_NoEnd ty_NoEnd s_Apart_NoEnd λz=>(by rw[d_Apart_NoEnd]at z;exact z),Zb9 ic_NoTie ty_NoTie s_Apart_NoTie λz=>(by rw[d_Apart_NoTie]at z;exact z),Zb9 ic_NoPlace ty_NoPlace s_Apart_NoPlace λz=>(by rw[d_Apart_NoPlace]at z;exact z),Zb9 ic_NoTable ty_NoTable s_Apart_NoTable λz=>(by rw[d_Apart_NoTable]at z;exact z),Zb9 ic_NoRing ty_NoRing s_Apart_NoRing λz=>(by rw[d_Apart_NoRing]at z;exact z),Zb9 ic_NoPaper ty_NoPaper s_Apart_NoPaper λz=>(by rw[d_Apart_NoPaper]at z;exact z),Zb9 ic_Apart ty_Apart s_Apart_Apart λ_=>rfl,Zb9 ic_TooMany ty_TooMany s_Apart_TooMany λz=>(by rw[d_Apart_TooMany]at z;exact z),Zb9 ic_TooGreat ty_TooGreat s_Apart_TooGreat λz=>(by rw[d_Apart_TooGreat]at z;exact z),Zb9 ic_NoText ty_NoText s_Apart_NoText λz=>(by rw[d_Apart_NoText]at z;exact z),Zb9 ic_NoName ty_NoName s_Apart_NoName λz=>(by rw[d_Apart_NoName]at z;exact z),Zb9 ic_NoRow ty_NoRow s_Apart_NoRow λz=>(by rw[d_Apart_NoRow]at z;exact z)⟩;have C1:=M e1 (Zn6 mb) λ_ _ _ _ _ _=>bK2 λ_ _=>rfl;have C2:=M e2 (Zq8 mb) λ_ _ _ _ _ _=>bK1 λ_=>rfl;have C3:=M e3 (Zqd mb C1) λ_ _ _ _ _ _=>bK3 λ_ _ _=>rfl;have C4:=M e4 (Zm4 mb C1) λ_ _ _ _ _ _=>bK2 λ_ _=>rfl;have C5:=M e5 (Zny mb C1) λ_ _ _ _ _ _=>bK2 λ_ _=>rfl;have C6:=M e6 (Zj1 mb) λ_ _ _ _ _ _=>bK1 λ_=>rfl;have C7:=M e7 (Zl3 mb C6) λ_ _ _ _ _ _=>bK1 λ_=>rfl;have C8:=M e8 (Zmx mb) λ_ _ _ _ _ _=>bK2 λ_ _=>rfl;have C9:=M e9 (Zhl mb) λ_ _ _ _ _ _=>bK1 λ_=>rfl;have C10:=M e10 (Zpq mb C9) λ_ _ _ _ _ _=>bK1 λ_=>rfl;have C11:=MX e10 (Zod mb cl C9) λ_ _ _ _ _ _=>bK1 λ_=>rfl;have C12:=M e11 (Zhe mb C8) λ_ _ _ _ _ _=>bK3 λ_ _ _=>rfl;have C13:=M e12 (Zog mb C12) λ_ _ _ _ _ _=>bK3 λ_ _ _=>rfl;have C14:=M e13 (Zkr mb C12) λ_ _ _ _ _ _=>bK3 λ_ _ _=>rfl;have C15:=M e14 (Zlt mb C10 C14 C13) λ_ _ _ _ _ _=>bK3 λ_ _ _=>rfl;have C16:=MX e14 (Zq5 mb C11 C14 C13) λ_ _ _ _ _ _=>bK3 λ_ _ _=>rfl;have C17:=MX e15 (Zmg mb C11 C15) λ_ _ _ _ _ _=>bK2 λ_ _=>rfl;have C18:=M e16 (Zre mb C13 C14) λ_ _ _ _ _ _=>bK4 λ_ _ _ _=>rfl;have C19:=MX e17 (Zqi mb C11 C18) λ_ _ _ _ _ _=>bK4 λ_ _ _ _=>rfl;have C20:=MX e18 (Zpj mb C11 C18) λ_ _ _ _ _ _=>bK2 λ_ _=>rfl;have C21:=MX e19 (Zps mb C19) λ_ _ _ _ _ _=>bK1 λ_=>rfl;have C22:=MX e20 (Zrm mb C17) λ_ _ _ _ _ _=>bK1 λ_=>rfl;have C23:=MX e21 (Zqa mb C20) λ_ _ _ _ _ _=>bK1 λ_=>rfl;have C24:=MX e22 (Zph mb C16) λ_ _ _ _ _ _=>bK1 λ_=>rfl;have C25:=M e23 (Zoh mb cl) λ_ _ _ _ _ _=>bK2 λ_ _=>rfl;exact ok_law mb C2 C1 C3 C5 C4 C7 C25 C21 C22 C23 C24 F
end Lw
open PySem PySem.W PyProof.Rows
theorem PySem.W.Fast.te6822162940446847872:True:=trivial
def PySem.W.Fast.tw8049914258509003486:PySem.Program:=PySem.Challenge.pw_holefloor_k80_floors_of_several_parts
theorem PySem.W.Fast.te8049914258509003486:PySem.Challenge.pw_holefloor_k80_floors_of_several_parts=PySem.W.Fast.tw8049914258509003486:=rfl
def PySem.W.Fast.tw11747421909044587285:Unit:=()
def PySem.W.Fast.tw18409445098926285417:Unit:=()
def PySem.W.Fast.tw10030670453521172837:Unit:=()
def PySem.W.Fast.tw11212594562776092999:Unit:=()
def PySem.W.Fast.tw5441786110734021219:Unit:=()
def PySem.W.Fast.tw7115970965860833579:Unit:=()
def PySem.W.Fast.tw1945526170515353829:Unit:=()
def PySem.W.Fast.tw4021373625343296927:Unit:=()
def PySem.W.Fast.tw14634049977364618514:Unit:=()
def PySem.W.Fast.tw6838451544822680720:Unit:=()
def PySem.W.Fast.tw9756619885998416122:Unit:=()
def PySem.W.Fast.tw7490400966095316571:Unit:=()
def PySem.W.Fast.tw5026616528185952554:Unit:=()
def PySem.W.Fast.tw12500787794209432286:Unit:=()
def PySem.W.Fast.tw14025863606706085678:Unit:=()
def PySem.W.Fast.tw13694593436841863757:Unit:=()
def PySem.W.Fast.tw4472759765092152648:Unit:=()
def PySem.W.Fast.tw3714430399933303387:Unit:=()
def PySem.W.Fast.tw4206994171034115298:Unit:=()
def PySem.W.Fast.tw2364733833690432804:Unit:=()
def PySem.W.Fast.tw15368004707641758956:Unit:=()
def PySem.W.Fast.tw4364841586652773238:Unit:=()
def PySem.W.Fast.tw14835568207012336320:Unit:=()
def PySem.W.Fast.tw15925241165982579985:Unit:=()
def PySem.W.Fast.tw14246666359193929976:Unit:=()
def PySem.W.Fast.tw4001006661414910615:Unit:=()
def PySem.W.Fast.tw13478797100016338789:Unit:=()
def PySem.W.Fast.tw10300782947240904544:Unit:=()
def PySem.W.Fast.tw18395815785788074707:Unit:=()
def PySem.W.Fast.tw8190735221094731344:Unit:=()
def PySem.W.Fast.tw6021742327185861100:Unit:=()
def PySem.W.Fast.tw11058522642545906152:Unit:=()
def PySem.W.Fast.tw14146484482689914629:Unit:=()
def PySem.W.Fast.tw14067150516988982286:Unit:=()
def PySem.W.Fast.tw8660483543702647593:Unit:=()
def PySem.W.Fast.tw12058740240329319770:Unit:=()
def PySem.W.Fast.tw7991471251435803763:Unit:=()
def PySem.W.Fast.tw10953760446335421443:Unit:=()
def PySem.W.Fast.tw12408304806030071459:Unit:=()
def PySem.W.Fast.tw10486249278408915347:Unit:=()
def PySem.W.Fast.tw1237430709381755366:Unit:=()
def PySem.W.Fast.tw468613480817265140:Unit:=()
def PySem.W.Fast.tw14123925405740175376:Unit:=()
def PySem.W.Fast.tw4615433742530339080:Unit:=()
def PySem.W.Fast.tw9347662509681161897:Unit:=()
def PySem.W.Fast.tw5391002458065795354:Unit:=()
def PySem.W.Fast.tw1055173063904975593:Unit:=()
def PySem.W.Fast.tw3532949162098241289:Unit:=()
def PySem.W.Fast.tw8488025257326100919:Unit:=()
def PySem.W.Fast.tw14264455960470131347:Unit:=()
def PySem.W.Fast.tw6319832965842773476:Unit:=()
def PySem.W.Fast.tw11100180297163385234:Unit:=()
set_option maxRecDepth 100000 in
set_option maxHeartbeats 0 in
theorem PySem.Challenge.cw_holefloor_k80_floors_of_several_parts_holds : PySem.Challenge.rw_holefloor_k80_floors_of_several_parts.Holds := by
 w_on;o_law;k_head; (case hw=>w_witness2)
 k_fill
 refine L2.walk_law (k:=8) (x:="_law_script") (l:=PySem.Challenge.rw_holefloor_k80_floors_of_several_parts) ⟨rfl,by decide,by decide,rfl⟩ rfl rfl (λw h Y=>PySem.W.kIn_of Y) ?F
 case F=>
  intro w mg fa h KX G hmg;refine' Lw.all_mk KX G hmg ?e1 ?e2 ?e3 ?e4 ?e5 ?e6 ?e7 ?e8 ?e9 ?e10 ?e11 ?e12 ?e13 ?e14 ?e15 ?e16 ?e17 ?e18 ?e19 ?e20 ?e21 ?e22 ?e23 ?e24 ?z0 ?z1 ?z2 ?z3 ?z4 ?z5 ?z6 ?z7 ?z8 ?z9 ?z10 ?z11 ?n_FloorError ?e_FloorError ?n_NoWeb ?n_NoOrder ?n_NoNumber ?n_NoEnd ?n_NoTie ?n_NoPlace ?n_NoTable ?n_NoRing ?n_NoPaper ?n_Apart ?e_Apart ?n_TooMany ?n_TooGreat ?n_NoText ?n_NoName ?n_NoRow ?gsx ?tkx ?ic_NoWeb ?ty_NoWeb ?ic_NoOrder ?ty_NoOrder ?ic_NoNumber ?ty_NoNumber ?ic_NoEnd ?ty_NoEnd ?ic_NoTie ?ty_NoTie ?ic_NoPlace ?ty_NoPlace ?ic_NoTable ?ty_NoTable ?ic_NoRing ?ty_NoRing ?ic_NoPaper ?ty_NoPaper ?ic_Apart ?ty_Apart ?ic_TooMany ?ty_TooMany ?ic_TooGreat ?ty_TooGreat ?ic_NoText ?ty_NoText ?ic_NoName ?ty_NoName ?ic_NoRow ?ty_NoRow ?ga_Apart ?gt_Apart ?ca_Apart ?ob_Apart ?be_Apart ?ve_Apart ?m_Apart ?s_Apart_NoWeb ?d_Apart_NoWeb ?s_Apart_NoOrder ?d_Apart_NoOrder ?s_Apart_NoNumber ?d_Apart_NoNumber ?s_Apart_NoEnd ?d_Apart_NoEnd ?s_Apart_NoTie ?d_Apart_NoTie ?s_Apart_NoPlace ?d_Apart_NoPlace ?s_Apart_NoTable ?d_Apart_NoTable ?s_Apart_NoRing ?d_Apart_NoRing ?s_Apart_NoPaper ?d_Apart_NoPaper ?s_Apart_Apart ?s_Apart_TooMany ?d_Apart_TooMany ?s_Apart_TooGreat ?d_Apart_TooGreat ?s_Apart_NoText ?d_Apart_NoText ?s_Apart_NoName ?d_Apart_NoName ?s_Apart_NoRow ?d_Apart_NoRow
  (case n_FloorError=>k_is)
  (case e_FloorError=>k_exc)
  (case n_NoWeb=>k_is)
  (case n_NoOrder=>k_is)
  (case n_NoNumber=>k_is)
  (case n_NoEnd=>k_is)
  (case n_NoTie=>k_is)
  (case n_NoPlace=>k_is)
  (case n_NoTable=>k_is)
  (case n_NoRing=>k_is)
  (case n_NoPaper=>k_is)
  (case n_Apart=>k_is)
  (case e_Apart=>k_exc)
  (case n_TooMany=>k_is)
  (case n_TooGreat=>k_is)
  (case n_NoText=>k_is)
  (case n_NoName=>k_is)
  (case n_NoRow=>k_is)
  (case gsx=>k_is)
  (case tkx=>k_is)
  (case ic_NoWeb=>k_is)
  (case ty_NoWeb=>k_is)
  (case ic_NoOrder=>k_is)
  (case ty_NoOrder=>k_is)
  (case ic_NoNumber=>k_is)
  (case ty_NoNumber=>k_is)
  (case ic_NoEnd=>k_is)
  (case ty_NoEnd=>k_is)
  (case ic_NoTie=>k_is)
  (case ty_NoTie=>k_is)
  (case ic_NoPlace=>k_is)
  (case ty_NoPlace=>k_is)
  (case ic_NoTable=>k_is)
  (case ty_NoTable=>k_is)
  (case ic_NoRing=>k_is)
  (case ty_NoRing=>k_is)
  (case ic_NoPaper=>k_is)
  (case ty_NoPaper=>k_is)
  (case ic_Apart=>k_is)
  (case ty_Apart=>k_is)
  (case ic_TooMany=>k_is)
  (case ty_TooMany=>k_is)
  (case ic_TooGreat=>k_is)
  (case ty_TooGreat=>k_is)
  (case ic_NoText=>k_is)
  (case ty_NoText=>k_is)
  (case ic_NoName=>k_is)
  (case ty_NoName=>k_is)
  (case ic_NoRow=>k_is)
  (case ty_NoRow=>k_is)
  (case ga_Apart=>k_is)
  (case gt_Apart=>k_is)
  (case ca_Apart=>k_is)
  (case ob_Apart=>k_is)
  (case be_Apart=>k_is)
  (case ve_Apart=>k_is)
  (case m_Apart=>k_is)
  (case s_Apart_NoWeb=>k_is)
  (case d_Apart_NoWeb=>rfl)
  (case s_Apart_NoOrder=>k_is)
  (case d_Apart_NoOrder=>rfl)
  (case s_Apart_NoNumber=>k_is)
  (case d_Apart_NoNumber=>rfl)
  (case s_Apart_NoEnd=>k_is)
  (case d_Apart_NoEnd=>rfl)
  (case s_Apart_NoTie=>k_is)
  (case d_Apart_NoTie=>rfl)
  (case s_Apart_NoPlace=>k_is)
  (case d_Apart_NoPlace=>rfl)
  (case s_Apart_NoTable=>k_is)
  (case d_Apart_NoTable=>rfl)
  (case s_Apart_NoRing=>k_is)
  (case d_Apart_NoRing=>rfl)
  (case s_Apart_NoPaper=>k_is)
  (case d_Apart_NoPaper=>rfl)
  (case s_Apart_Apart=>k_is)
  (case s_Apart_TooMany=>k_is)
  (case d_Apart_TooMany=>rfl)
  (case s_Apart_TooGreat=>k_is)
  (case d_Apart_TooGreat=>rfl)
  (case s_Apart_NoText=>k_is)
  (case d_Apart_NoText=>rfl)
  (case s_Apart_NoName=>k_is)
  (case d_Apart_NoName=>rfl)
  (case s_Apart_NoRow=>k_is)
  (case d_Apart_NoRow=>rfl)
  all_goals first|(refine' Lw.fnE ?a ?l ?c ?k; (case a=>k_is); (case l=>k_is); (case c=>k_is); (case k=>k_is))|k_is

