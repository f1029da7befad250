import PyProof.Rows.All
import Wide.All
import OpenK.AllK
import Wide.FinOn
import Lean
import PyProof.EqAt
import PyProof.EqKinds
import PyProof.TupleCall
import KE.KSortTup
import PyProof.NeKinds
import PyProof.ExcBaseAll.ValueError
import PyProof.ExcArgsOwn
import PyProof.NsDelKeeps
import PyProof.RulesAs
import PyProof.FString
import PyProof.AttrMissSeq
import PyProof.WalksS
import KE.KDictList
import KE.KDictSum
import PyProof.MinMaxWalk
import KE.KMinKey
import PyProof.Rows.CallKwBuiltin
import PyProof.Rows.RuleDivmod
import PyProof.ListMulAny
import PyProof.FactsAll.tuple
import KE.KRevIter
import PyProof.EnumMake
import KE.KMulAny
import PyProof.FactsAll.range
import PyProof.Rows.StrNews
import KE.KIntText
import PyProof.StrWalks
import KE.KLam
import KE.KNestM
import PyProof.ExcInit
import PyProof.InstStoreFacts
import PySem.Challenge.RW_holefloor_k85_no_texts
open PySem.Heap renaming get?_push_of_some→Waa, get?_push_size→Wag, lt_size→Wan, get?_update_other→Wbc, get?_update_self→Wbi, size_push→Wbj, get?_none_of_le→Wb3
open List renaming getElem?_eq_getElem→Wab, length_map→Wac, replicate→Wad, size_toArray→Wae, mem_cons→Wah, getElem?_map→Waj, length_cons→Wak, mem_cons_of_mem→Wal, getElem?_set_self→Wam, getElem?_set_ne→Wao, getElem?_eq_some_iff→Wap, mem_cons_self→Waq, length_append→War, map_cons→Wav, all_eq_true→Waw, mem_map→Wax, not_mem_nil→Way, mem_of_getElem?→Waz, getElem?_append_right→Wa1, length_replicate→Wa2, mem_append_right→Wa3, getElem_toArray→Wa5, length→Wa6, mem_append→Wa7, map_append→Wa8, map_map→Wa9, append_nil→Wba, getElem?_append_left→Wbb, length_take→Wbd, mem_singleton→Wbe, getElem_mem→Wbf, tail→Wbg, map→Wbh, getD_eq_getElem?_getD→Wbk, replicate_succ→Wbl, take_of_length_le→Wbp, lookup_cons→Wbq, filter_cons→Wbr, length_singleton→Wbs, filter_append→Wbt, getElem?_zip_eq_some→Wbu, mem_append_left→Wbv, getElem?_replicate→Wbw, filter_eq_self→Wbx, eq_nil_of_length_eq_zero→Wby, cons_append→Wbz, range→Wb0, append_assoc→Wb2, length_drop→Wb4, set_eq_of_length_le→Wb5, nodup_cons→Wb8, length_set→Wb9, find?_cons→Wca, take_add_one→Wcd, getElem?_set→Wce, ext_getElem?→Wcf, mem_range→Wch, take_append_drop→Wcj, mem_iff_getElem→Wck, any_cons→Wcl, mem_filter→Wcm, mem_replicate→Wcq, map_replicate→Wcr, sum_cons→Wcu, all_cons→Wcv, take_length→Wcx, of_mem_zip→Wcz, map_nil→Wc0, length_nil→Wc1, map_congr_left→Wc7, filterMap_cons→Wc8, zip_cons_cons→Wda, cons_ne_nil→Wdd
open Nat renaming le_refl→Waf, le_trans→Was, lt_of_lt_of_le→Wa0, ne_of_lt→Wa4, lt_of_le_of_lt→Wbm, zero_le→Wbn, le_of_lt→Wbo, ne_of_gt→Wb6, lt_irrefl→Wcb, min_eq_left→Wco, add_le_add_left→Wcp, add_sub_cancel_left→Wcw, le_max_right→Wcy, zero_add→Wc2, max→Wc3, lt_trans→Wc4, le_max_left→Wc5, add_le_add_right→Wc6, lt_succ_of_lt→Wdc
open Bool renaming false_ne_true→Wai, and_eq_true→Wau, eq_false_iff→Wcg, eq_iff_iff→Wcn, and_self→Wdb
open Option renaming some→Wat, bind_some→Wcs, map_eq_some_iff→Wct
open Int renaming emod_lt_of_pos→Wb1, zero_add→Wb7, emod_nonneg→Wcc, toNat_natCast→Wci, le_refl→Wc9
set_option Elab.async false
set_option linter.all false
set_option maxRecDepth 100000
namespace L2
open PySem PySem.Spec PyProof.Rows
abbrev Key:=Sum Int Str
def keyIs:Key->Value->Bool
 |.inl k,v=>Value.isInt k v
 |.inr x,v=>Value.isStrOf x v
def keyH (w:World):Key->Int
 |.inl k=>hashInt k
 |.inr x=>hashStr w x
theorem Za5:∀{k:Key}{v:Value},keyIs k v=true->(∃i t,k=Sum.inl i/\v=Value.int i t)\/(∃x t,k=Sum.inr x/\v=Value.str x t)
 |.inl i,v,h=>by
  obtain⟨t,e⟩:=Value.isInt_shape (k:=i) (v:=v) h;exact .inl ⟨i,t,rfl,e⟩
 |.inr x,v,h=>by
  obtain⟨t,e⟩:=Value.isStrOf_shape (x:=x) (v:=v) h;exact .inr ⟨x,t,rfl,e⟩
theorem Zlo (i:Int) (t:Tok):keyIs (.inl i) (.int i t)=true:=by simp[keyIs,Value.isInt]
theorem Zma (x:Str) (t:Tok):keyIs (.inr x) (.str x t)=true:=by simp[keyIs,Value.isStrOf]
theorem Zsq (a b:Int):decide ((Sum.inl a:Key)=Sum.inl b)=(a == b):=by
 by_cases e:a=b
 ·subst e;simp
 ·have h:¬ (Sum.inl a:Key)=Sum.inl b:=λq=>e (Sum.inl.inj q)
  rw[decide_eq_false h];exact(beq_eq_false_iff_ne.mpr e).symm
theorem Zso (a b:Str):decide ((Sum.inr a:Key)=Sum.inr b)=decide (a=b):=by
 by_cases e:a=b
 ·subst e;simp
 ·have h:¬ (Sum.inr a:Key)=Sum.inr b:=λq=>e (Sum.inr.inj q)
  rw[decide_eq_false h,decide_eq_false e]
theorem Zr9 (a:Int) (b:Str):decide ((Sum.inl a:Key)=Sum.inr b)=false:=decide_eq_false λq=>nomatch q
theorem Zsj (a:Str) (b:Int):decide ((Sum.inr a:Key)=Sum.inl b)=false:=decide_eq_false λq=>nomatch q
def mixKind (prog:Program) (w:World):PySem.KeyKind prog w Key where
 is:=keyIs
 hash:=keyH w
 inj:=λv a b ha hb=>by
  rcases Za5 ha with ⟨i,t,rfl,rfl⟩|⟨x,t,rfl,rfl⟩
  ·rcases Za5 hb with ⟨j,u,rfl,e⟩|⟨y,u,rfl,e⟩
   ·injection e with e1 _;rw[e1]
   ·exact nomatch e
  ·rcases Za5 hb with ⟨j,u,rfl,e⟩|⟨y,u,rfl,e⟩
   ·exact nomatch e
   ·injection e with e1 _;rw[e1]
 byValue:=λk v h=>by
  rcases Za5 h with ⟨i,t,rfl,rfl⟩|⟨x,t,rfl,rfl⟩ <;> rfl
 pyHash:=λhv h=>by
  rcases Za5 hv with ⟨i,t,rfl,rfl⟩|⟨x,t,rfl,rfl⟩
  ·exact wpAny_pyHash_int h
  ·exact wpAny_pyHash_str h
 eqBool:=λhu hv h=>by
  rcases Za5 hu with ⟨i,t,rfl,rfl⟩|⟨x,t,rfl,rfl⟩
  ·rcases Za5 hv with ⟨j,u,rfl,rfl⟩|⟨y,u,rfl,rfl⟩
   ·rw[Zsq]at h;exact wpAny_eqBool_int h
   ·rw[Zr9]at h;exact SeqAt.EqAt.int_str i t y u _ _ _ _ h
  ·rcases Za5 hv with ⟨j,u,rfl,rfl⟩|⟨y,u,rfl,rfl⟩
   ·rw[Zsj]at h;exact SeqAt.EqAt.str_int x t j u _ _ _ _ h
   ·rw[Zso]at h;exact wpAny_eqBool_str h
 «strs»:=λk x t v h=>by
  rcases Za5 h with ⟨i,u,rfl,e⟩|⟨y,u,rfl,e⟩
  ·exact nomatch e
  ·injection e with e1 _
   subst e1;cases v <;> rfl
theorem Zhp (prog:Program) (w:World) (i:Int) (t:Tok):(mixKind prog w).is (.inl i) (.int i t)=true:=Zlo i t
theorem Zij (prog:Program) (w:World) (x:Str) (t:Tok):(mixKind prog w).is (.inr x) (.str x t)=true:=Zma x t
end L2
namespace L2
open PySem PySem.Spec PyProof.Rows
inductive V where
 |non|bl (b:Bool)|int (i:Int)|str (x:Str)|byt (b:Array UInt8)|flt (b:UInt64)|ref (a:Addr)|ty (n:String)
 deriving DecidableEq
def RelV:V->Value->Prop
 |.non,u=>u=Value.none
 |.bl b,u=>u=Value.bool b
 |.int i,u=>∃t,u=Value.int i t
 |.str x,u=>∃t,u=Value.str x t
 |.byt b,u=>∃t,u=Value.bytes b t
 |.flt b,u=>∃t,u=Value.float b t
 |.ref a,u=>u=Value.ref a
 |.ty n,u=>u=Value.type n
abbrev Vals:List V->List Value->Prop:=Paired RelV
theorem Vals.length {xs:List V}{us:List Value}(r:Vals xs us):xs.length=us.length:=Paired.length r
theorem Vals.get:∀{xs:List V}{us:List Value}{i:Nat}{x:V},Vals xs us->xs[i]?=some x->∃u,us[i]?=some u/\RelV x u
 |_,_,_,_,.nil,e=>by simp at e
 |_,_,0,_,.cons r _,e=>by simp at e;subst e;exact⟨_,rfl,r⟩
 |_,_,i+1,x,.cons _ t,e=>by
  obtain⟨u,h1,h2⟩:=Vals.get (i:=i) (x:=x) t (by simpa using e);exact⟨u,by simpa using h1,h2⟩
theorem Vals.set {x:V}{u:Value}(r:RelV x u):∀{xs:List V}{us:List Value}(i:Nat),Vals xs us->Vals (xs.set i x) (us.set i u)
 |_,_,_,.nil=>.nil
 |_,_,0,.cons _ t=>.cons r t
 |_,_,i+1,.cons q t=>.cons q (Vals.set r i t)
theorem Vals.append:∀{xs ys:List V}{us ws:List Value},Vals xs us->Vals ys ws->Vals (xs++ys) (us++ws)
 |_,_,_,_,.nil,s=>s
 |_,_,_,_,.cons r t,s=>.cons r (Vals.append t s)
theorem Vals.take:∀{xs:List V}{us:List Value}(n:Nat),Vals xs us->Vals (xs.take n) (us.take n)
 |_,_,0,_=>.nil
 |_,_,_+1,.nil=>.nil
 |_,_,n+1,.cons r t=>.cons r (Vals.take n t)
theorem Vals.drop:∀{xs:List V}{us:List Value}(n:Nat),Vals xs us->Vals (xs.drop n) (us.drop n)
 |_,_,0,r=>r
 |_,_,_+1,.nil=>.nil
 |_,_,n+1,.cons _ t=>Vals.drop n t
def RelO:Option V->Option Value->Prop
 |some v,some u=>RelV v u
 |none,none=>True
 |_,_=>False
def KV {κ:Type}:List (κ × V)->List (κ × Value)->Prop:=Paired λ(p:κ × V) (q:κ × Value)=>p.1=q.1/\RelV p.2 q.2
def kV:Key->V
 |.inl i=>.int i
 |.inr x=>.str x
inductive HO where
 /-- a list -/
 |lst (xs:List V)
 /-- a tuple (never changes) -/
 |tup (xs:List V)
 /-- a dict whose keys are ints and texts;one whose keys are tuples of ints and texts (the empty one is both) -/
 |dK (kvs:List (Key × V))|dT (kvs:List (List Key × V))
 /-- a set of ints: its members,its size -/
 |set (S:Int->Bool) (n:Nat)
 /-- an instance of the class at C,its dict at dx,its attributes -/
 |ins (C dx:Addr) (fs:List (Str × V))
 /-- the dict of the instance at x -/
 |own (x:Addr)
 /-- the dict of an exception -/
 |xd (fs:List (Str × V))
 /-- a bound method,f of x -/
 |met (f x:Addr)
 /-- a range object lo,lo+1,.. below hi -/
 |rng (lo hi:Int)
 /-- a thing that is known to the object (the script;a dict while a loop walks it): read,never written while it is so -/
 |frz (o:Obj) (u:HO)
 /-- a code object's table -/
 |tbl (ps:Array Value)
 /-- any other thing,by what is true of its one object (a def of one's own: SetO a S n:=HO.ext λh=>..) -/
 |ext (φ:Heap->Prop)
abbrev Hp:=Addr->Option HO
def upd (H:Hp) (a:Addr) (o:HO):Hp:=λb=>if b=a then some o else H b
theorem Zal {H:Hp}{a:Addr}{o:HO}:upd H a o a=some o:=by unfold upd;rw[if_pos rfl]
theorem Zaj {H:Hp}{a b:Addr}{o:HO}(h:b≠a):upd H a o b=H b:=by unfold upd;rw[if_neg h]
theorem Zlf {H:Hp}{a:Addr}{o u:HO}:upd (upd H a o) a u=upd H a u:=by
 funext b;unfold upd;split <;> rfl
theorem Ztz {H:Hp}{a b:Addr}{o u:HO}(h:H a=some o) (h':H b=some u) (d:o≠u):a≠b:=by
 intro e;subst e;rw[h]at h';exact d<|Wat.inj h'
theorem Zak {H:Hp}{a b:Addr}{o:HO}(h:H a=some o) (h':H b=none):a≠b:=by
 intro e;subst e;rw[h]at h';cases h'
def IsTupN (h:Heap) (a:Addr) (its:Array Value):Prop:=∃o,h.get? a=some o/\(o.cls=.type "tuple" /\ ∃n,o.data=.seq its n)/\o.dict=none
theorem IsTupN.tup {h:Heap}{a:Addr}{its:Array Value}(x:IsTupN h a its):IsTup h a its:=let ⟨o,e,c,_⟩:=x; ⟨o,e,c⟩
theorem IsTupN.new (h:Heap) (items:Array Value):IsTupN (h.push { cls:=.type "tuple",data:=.seq items }) h.objs.size items:=⟨_,Wag _ rfl,⟨rfl,_,rfl⟩,rfl⟩
section
variable (P:Program) (w:World)
def ObjOk (H:Hp) (h:Heap) (a:Addr):HO->Prop
 |.lst xs=>xs.length<=sizeLine/\∃(its:List Value) (n:Nat),Vals xs its/\h.get? a=some { cls:=.type "list",data:=.seq its.toArray n }
 |.tup xs=>xs.length<=sizeLine/\∃its:List Value,Vals xs its/\IsTupN h a its.toArray
 |.dK kvs=>kvs.length<=sizeLine/\(a == sysModules)=false/\∃vs,KV kvs vs/\h.DictOf (mixKind P w) a vs
 |.dT kvs=>kvs.length<=sizeLine/\(a == sysModules)=false/\∃xs:List (List Key × Addr × Value),
   Paired (λ(p:List Key × V) (q:List Key × Addr × Value)=>p.1=q.1/\H q.2.1=some (.tup<|p.1.map kV)/\RelV p.2 q.2.2) kvs xs ∧
   ∃o es ep,h.get? a=some o/\o.ExactDict/\o.data=.dict es ep/\es.toList=xs.map (entryOfKey<|tupleKind<|mixKind P w)/\(xs.map (·.1)).Nodup
 |.set S n=>h.SetOf (intKind P w) a S n
 |.ins C dx fs=>H dx=some (.own a)/\fs.length<=1000/\dx≠a/\h.get? a=some (PySem.W.instObj C dx) ∧
   ∃mA,h.Ns1 dx mA/\(∀f,RelO (fs.lookup f) (mA f))/\PySem.Within mA (fs.map (·.1))
 |.own _=>∃o,h.get? a=some o
 |.xd fs=>∃mA,h.Ns1 a mA/\∀f,RelO (fs.lookup f) (mA f)
 |.rng lo hi=>∃t u v,h.get? a=some { cls:=.type "range",data:=.fields #[.int lo t,.int hi u,.int 1 v] }
 |.frz o u=>h.get? a=some o/\ObjOk H h a u
 |.tbl ps=>h.get? a=some { cls:=.none,data:=.fields ps }
 |.met f x=>h.get? a=some (PySem.W.methodObj (.ref f) (.ref x))
 |.ext φ=>φ h/\(∃o,h.get? a=some o)/\∀h1 h2:Heap,φ h1->(∀o,h1.get? a=some o->h2.get? a=some o) -> φ h2
def HOk (H:Hp) (h:Heap):Prop:=∀a o,H a=some o->ObjOk P w H h a o
end
section
variable {P:Program}{w:World}{H H':Hp}{h h':Heap}{a:Addr}{o:HO}
theorem ObjOk.lt (x:ObjOk P w H h a o):a<h.objs.size:=by
 cases o with
 |lst xs=>obtain⟨_,_,_,_,e⟩:=x;exact Wan e
 |tup xs=>obtain⟨_,_,_,p⟩:=x;exact p.tup.lt
 |dK kvs=>obtain⟨_,_,_,_,o,_,_,e,_⟩:=x;exact Wan e
 |dT kvs=>obtain⟨_,_,_,_,o,_,_,e,_⟩:=x;exact Wan e
 |set S n=>obtain⟨o,_,_,_,e,_⟩:=x;exact Wan e
 |ins C dx fs=>obtain⟨_,_,_,e,_⟩:=x;exact Wan e
 |own y=>obtain⟨_,e⟩:=x;exact Wan e
 |xd fs=>obtain⟨_,⟨_,_,_,e,_⟩,_⟩:=x;exact Wan e
 |rng lo hi=>obtain⟨_,_,_,e⟩:=x;exact Wan e
 |frz ob u=>obtain⟨e,_⟩:=x;exact Wan e
 |tbl ps=>exact Wan (show h.get? a=some _ from x)
 |met f y=>exact Wan (show h.get? a=some _ from x)
 |ext φ=>obtain⟨_,⟨_,e⟩,_⟩:=x;exact Wan e
theorem Paired.mapP {α β:Type}{F G:α -> β -> Prop}:∀{l₁:List α}{l₂:List β},Paired F l₁ l₂ -> (∀a b,F a b->G a b)->Paired G l₁ l₂
 |_,_,.nil,_=>.nil
 |_,_,.cons r t,f=>.cons (f _ _ r) (Paired.mapP t f)
theorem ObjOk.stay (x:ObjOk P w H h a o) (k:∀b u,(b=a\/H b=some (.own a))->h.get? b=some u->h'.get? b=some u)
  (ho:∀b,H b=some (.own a)->H' b=some (.own a)) (ht:∀b xs,H b=some (.tup xs)->H' b=some (.tup xs)):ObjOk P w H' h' a o:=by
 induction o with
 |lst xs=>obtain⟨z,its,n,r,e⟩:=x;exact⟨z,its,n,r,k _ _ (.inl rfl) e⟩
 |tup xs=>obtain⟨z,its,r,ob,e,c⟩:=x;exact⟨z,its,r,ob,k _ _ (.inl rfl) e,c⟩
 |dK kvs=>obtain⟨z,y,vs,r,ob,es,ep,e,c⟩:=x;exact⟨z,y,vs,r,ob,es,ep,k _ _ (.inl rfl) e,c⟩
 |dT kvs=>
  obtain⟨z,y,xs,r,ob,es,ep,e,c⟩:=x;exact⟨z,y,xs,Paired.mapP r λp q z=>⟨z.1,ht _ _ z.2.1,z.2.2⟩,ob,es,ep,k _ _ (.inl rfl) e,c⟩
 |set S n=>obtain⟨ob,es,ep,t,e,c⟩:=x;exact⟨ob,es,ep,t,k _ _ (.inl rfl) e,c⟩
 |ins C dx fs=>
  obtain⟨d,z,ne,e,mA,⟨od,es,ep,e2,c⟩,r⟩:=x;exact⟨ho _ d,z,ne,k _ _ (.inl rfl) e,mA,⟨od,es,ep,k _ _ (.inr d) e2,c⟩,r⟩
 |own y=>obtain⟨ob,e⟩:=x;exact⟨ob,k _ _ (.inl rfl) e⟩
 |xd fs=>obtain⟨mA,⟨od,es,ep,e,c⟩,r⟩:=x;exact⟨mA,⟨od,es,ep,k _ _ (.inl rfl) e,c⟩,r⟩
 |rng lo hi=>obtain⟨t,u,v,e⟩:=x;exact⟨t,u,v,k _ _ (.inl rfl) e⟩
 |frz ob u ih=>obtain⟨e,q⟩:=x;exact⟨k _ _ (.inl rfl) e,ih q⟩
 |tbl ps=>
  have e:h.get? a=some { cls:=.none,data:=.fields ps }:=x;show h'.get? a=some { cls:=.none,data:=.fields ps };exact k a _ (.inl rfl) e
 |met f y=>
  have e:h.get? a=some (PySem.W.methodObj (.ref f) (.ref y)):=x;show h'.get? a=some (PySem.W.methodObj (.ref f) (.ref y));exact k a _ (.inl rfl) e
 |ext φ=>obtain⟨p,⟨o,e⟩,st⟩:=x;exact⟨st _ _ p λo q=>k _ _ (.inl rfl) q,⟨o,k _ _ (.inl rfl) e⟩,st⟩
theorem HOk.lt (x:HOk P w H h) (e:H a=some o):a<h.objs.size:=(x a o e).lt
theorem HOk.fresh (x:HOk P w H h) (e:h.objs.size<=a):H a=none:=by
 cases q:H a with
 |none=>rfl
 |some u=>exact absurd (Wa0 (x.lt q) e) (Wcb _)
theorem HOk.kept (x:HOk P w H h) (k:∀b u,h.get? b=some u->h'.get? b=some u):HOk P w H h':=λa o e=>
 (x a o e).stay (λb u _ q=>k b u q) (λ_ q=>q) λ_ _ q=>q
theorem HOk.laid (x:HOk P w H h) (k:∀b u,h.get? b=some u->h'.get? b=some u) (hp:h.objs.size<=a) (new:ObjOk P w (upd H a o) h' a o):HOk P w (upd H a o) h':=λb u e=>by
 have hn:=x.fresh hp;by_cases hb:b=a
 ·subst hb;rw[Zal]at e;cases e;exact new
 ·rw[Zaj hb]at e
  exact(x b u e).stay (λc v _ q=>k c v q) (λc q=>by rw[Zaj (Zak q hn)];exact q) λc xs q=>by rw[Zaj (Zak q hn)];exact q
end
def Rd (H:Hp) (a:Addr) (u:HO):Prop:=H a=some u\/∃o,H a=some (.frz o u)
theorem Rd.ok {P:Program}{w:World}{H:Hp}{h:Heap}{a:Addr}{u:HO}(r:Rd H a u) (x:HOk P w H h):ObjOk P w H h a u:=by
 rcases r with r|⟨o,r⟩
 ·exact x a u r
 ·obtain⟨_,q⟩:=x a _ r
  exact q
def Mut:Option HO->Prop
 |some (.lst _)=>True
 |some (.dK _)=>True
 |some (.dT _)=>True
 |some (.set _ _)=>True
 |some (.ins _ _ _)=>True
 |some (.ext _)=>True
 |_=>False
section
variable {P:Program}{w:World}{H:Hp}{h h':Heap}{x e:Addr}{o':HO}
theorem HOk.write (ok:HOk P w H h) (mu:Mut (H x)) (he:e=x\/H e=some (.own x)) (k:∀b u,b≠e->h.get? b=some u->h'.get? b=some u) (heo:∃u,h'.get? e=some u)
  (new:ObjOk P w (upd H x o') h' x o'):HOk P w (upd H x o') h':=λb u q=>by
 have nown:∀c y,H c=some (.own y)->c≠x:=λc y r z=>by subst z;rw[r]at mu;exact mu
 have ntup:∀c xs,H c=some (.tup xs)->c≠x:=λc xs r z=>by subst z;rw[r]at mu;exact mu
 by_cases hb:b=x
 ·subst hb;rw[Zal]at q;cases q;exact new
 ·rw[Zaj hb]at q
  by_cases hbe:b=e
  ·have q':H b=some (.own x):=by
    rcases he with z|z
    ·exact absurd (hbe.trans z) hb
    ·rw[hbe];exact z
   rw[q]at q';cases q';obtain⟨v,hv⟩:=heo;exact⟨v,by rw[hbe];exact hv⟩
  ·refine(ok b u q).stay (λc v hc r=>k c v ?_ r) (λc r=>by rw[Zaj (nown c b r)];exact r) λc xs r=>by rw[Zaj (ntup c xs r)];exact r
   rcases hc with rfl|hc
   ·exact hbe
   ·rintro rfl
    rcases he with z|z
    ·exact nown c b hc z
    ·rw[hc]at z;cases z;exact hb rfl
end
structure Un (fs ex:List Addr) (H H':Hp) (h h':Heap):Prop where
 keep:∀b o,h.get? b=some o->H b=none->b ∉ fs->b ∉ ex->h'.get? b=some o
 slot:∀b o,h.get? b=some o->H b=none->b∈fs->b ∉ ex->∃sl,h'.get? b=some { o with slots:=sl }
 free:∀b o,h.get? b=some o->H b=none->b ∉ ex->H' b=none
 there:∀b o,h.get? b=some o->b ∉ ex->∃o',h'.get? b=some o'
 tups:∀b xs,H b=some (.tup xs)->H' b=some (.tup xs)
 frzs:∀b o u,H b=some (.frz o u)->H' b=some (.frz o u)
 tbls:∀b ps,H b=some (.tbl ps)->∃more,H' b=some (.tbl<|ps++more)
section
variable {fs fs' ex ex':List Addr}{H H1 H2:Hp}{h h1 h2 h':Heap}{a x e:Addr}{o:HO}
theorem Un.any (u:Un fs ex H H1 h h1) {b:Addr}{ob:Obj}(q:h.get? b=some ob) (n:H b=none) (hx:b ∉ ex):∃sl,h1.get? b=some { ob with slots:=sl }:=by
 by_cases hb:b∈fs
 ·exact u.slot b ob q n hb hx
 ·exact⟨ob.slots,u.keep b ob q n hb hx⟩
theorem Un.kept (k:∀b u,h.get? b=some u->h'.get? b=some u):Un fs ex H H h h':=
 ⟨λb ob q _ _ _=>k b ob q,λb ob q _ _ _=>⟨ob.slots,k b ob q⟩,λ_ _ _ n _=>n,λb ob q _=>⟨ob,k b ob q⟩,λ_ _ q=>q,λ_ _ _ q=>q,λ_ ps q=>⟨#[],by rw[q];simp⟩⟩
theorem Un.refl:Un fs ex H H h h:=Un.kept λ_ _ q=>q
theorem Un.laid (k:∀b u,h.get? b=some u->h'.get? b=some u) (hp:h.objs.size<=a) (hn:H a=none):Un fs ex H (upd H a o) h h' where
 keep:=λb u q _ _ _=>k b u q
 slot:=λb u q _ _ _=>⟨u.slots,k b u q⟩
 free:=λb u q n _=>by rw[Zaj (Wa4<|Wa0 (Wan q) hp)];exact n
 there:=λb u q _=>⟨u,k b u q⟩
 tups:=λb xs q=>by rw[Zaj (Zak q hn)];exact q
 frzs:=λb u xs q=>by rw[Zaj (Zak q hn)];exact q
 tbls:=λb ps q=>⟨#[],by rw[Zaj (Zak q hn),q];simp⟩
theorem Un.write (mu:Mut (H x)) (he:e=x\/H e=some (.own x)) (k:∀b u,b≠e->h.get? b=some u->h'.get? b=some u) (heo:∃u,h'.get? e=some u):Un fs ex H (upd H x o) h h':=by
 have hx:∀b,H b=none->b≠x:=λb n z=>by subst z;rw[n]at mu;exact mu
 have hb:∀b,H b=none->b≠e:=λb n z=>by
  subst z;rcases he with r|r
  ·exact hx b n r
  ·rw[n]at r;cases r
 have hm:∀b u,H b=some u->¬ Mut (some u)->b≠x:=λb u q nm z=>by subst z;rw[q]at mu;exact nm mu
 refine⟨λb u q n _ _=>k b u (hb b n) q,λb u q n _ _=>⟨u.slots,k b u (hb b n) q⟩,λb u q n _=>by rw[Zaj (hx b n)];exact n,λb u q _=>?_,
  λb xs q=>by rw[Zaj (hm b _ q λz=>z)];exact q,λb u xs q=>by rw[Zaj (hm b _ q λz=>z)];exact q,λb ps q=>⟨#[],by rw[Zaj (hm b _ q λz=>z),q];simp⟩⟩
 by_cases hbe:b=e
 ·subst hbe;exact heo
 ·exact⟨u,k b u hbe q⟩
end
def trk (h:Heap) (H:Hp):List Addr:=(Wb0 h.objs.size).filter λa=>(H a).isSome
def hidT (h:Heap) (H:Hp):Heap:=PySem.W.hideAll h<|trk h H
theorem Zkq (h:Heap) (H:Hp):(hidT h H).objs.size=h.objs.size:=PySem.W.hideAll_size _ _
theorem Zoo {h:Heap}{H:Hp}{b:Addr}{o:Obj}(e:h.get? b=some o) (n:H b=none):(hidT h H).get? b=some o:=
 PySem.W.hideAll_get _ e λhm=>by
  have q:(H b).isSome=true:=(Wcm.mp hm).2;rw[n]at q;simp at q
theorem Zq4 {h:Heap}{H:Hp}{b:Addr}{o:Obj}(e:(hidT h H).get? b=some o):h.get? b=some o/\H b=none:=by
 have e':h.get? b=some o:=PySem.W.of_hideAll (trk h H) e;refine⟨e',?_⟩;cases q:H b with
 |none=>rfl
 |some x=>
  have hm:b∈trk h H:=Wcm.mpr ⟨Wch.mpr<|Wan e',by simp[q]⟩;have z:(hidT h H).get? b=none:=PySem.W.hideAll_none (trk h H) hm;rw[z]at e;cases e
def allNews (g h:Heap) (L:Addr):List (Addr × Obj):=(Wb0 h.objs.size).filterMap λa=>if a=L\/(g.get? a).isSome=true then none else (h.get? a).map λo=>(a,o)
def rest (g h:Heap) (L d:Addr):List (Addr × Obj):=(allNews g h L).filter λp=>decide<|p.1≠d
end L2
namespace L2
open PySem PySem.Spec PyProof.Rows
structure Mod (K:W.Frag) (mg:Str->Option Value) (base:Heap):Prop where
 kin:K.In base
 glob:base.Ns mainGlobals mg
 blt:∃mb,base.Ns builtinsNs mb/\∀x:Str,x ≠ "__name__" -> mb x=bootBuiltins x
 nolimit:base.NoLimit
structure Cx where
 prog:Program
 w:World
 K:W.Frag
 mg:Str->Option Value
 base:Heap
 A:Around
 N:List Str
 s₀:Shared
 H₀:Hp
 env:Env
 outer:List Env
 stack:List Env
 ex:List Addr
 fn:Str->Bool
 calm:Bool
 pn:List (Addr × Obj)
 xe:Value->Shared->Prop
def frs (l:List Env):List Addr:=l.filterMap (·.frame)
abbrev Cx.fs (X:Cx):List Addr:=frs X.outer
def Vis (sc:Scope) (x:Str):Prop:=sc.names.lookup x=some .local\/sc.names.lookup x=some .cell\/sc.names.lookup x=some .free
def Loc (sc:Scope) (x:Str):Prop:=sc.names.lookup x=some .local\/sc.names.lookup x=some .cell
def Look (env:Env) (h:Heap) (m:Str->Option Value) (x:Str) (u:Value):Prop:=
 (env.kindOf x=some .local/\m x=some u)\/((env.kindOf x=some .cell\/env.kindOf x=some .free)/\∃c,env.cells.lookup x=some c/\h.IsCell c (some u))
structure Cx.Ok (X:Cx):Prop where
 mod:Mod X.K X.mg X.base
 kind:X.env.scope.kind=.function
 glob:X.env.globals=mainGlobals
 blt:X.env.builtins=builtinsNs
 above:X.s₀.heap.objs.size<=X.env.locals
 inj:∀x y c,X.env.cells.lookup x=some c->X.env.cells.lookup y=some c->x=y
 has:∀x,(X.env.kindOf x=some .cell\/X.env.kindOf x=some .free)->∃c,X.env.cells.lookup x=some c
 cab:∀x c,X.fn x=true->X.env.cells.lookup x=some c->X.s₀.heap.objs.size<=c
 hd:X.calm=true->X.A.handled=none
 frames:X.A.frames=some X.stack
 stk:X.stack=X.outer\/(X.stack=X.env::X.outer/\X.env.frame=some X.env.locals)
 exf:∀b∈X.ex,b≠X.env.locals/\∀x c,X.env.cells.lookup x=some c->c≠b
 bs:∀b o,X.base.get? b=some o->X.s₀.heap.get? b=some o/\X.H₀ b=none
 bsz:X.base.objs.size<=X.s₀.heap.objs.size
 noex:∀b o,X.base.get? b=some o->b ∉ X.ex
 exfs:∀b∈X.ex,b ∉ X.fs
 funs:X.s₀.heap.FunFrames X.base X.outer
 frf:∀b∈X.fs,X.H₀ b=none
structure Inv (X:Cx) (pins:List (Addr × Obj)) (σ:List (Option V)) (H:Hp) (s:Shared):Prop where
 ok:X.Ok
 os:s.os=X.s₀.os
 bare:AllBare s.gens
 base:Un X.fs X.ex X.H₀ H X.s₀.heap s.heap
 loc:∃m,s.heap.Ns X.env.locals m/\∀(i:Nat) (x:Str) (v:V),X.N[i]?=some x -> σ[i]?=some (some v)->Vis X.env.scope x->∃u,RelV v u/\Look X.env s.heap m x u
 cell:∀x c,X.env.cells.lookup x=some c->∃v,s.heap.IsCell c v
 free:H X.env.locals=none
 freeC:∀x c,X.env.cells.lookup x=some c->H c=none
 pin:∀p∈X.pn++pins,s.heap.get? p.1=some p.2/\H p.1=none/\p.1≠X.env.locals/\p.1 ∉ X.fs/\∀v,p.2.data≠.cell v
 hok:HOk X.prog X.w H s.heap
 len:σ.length=X.N.length
section
variable {X:Cx}{pins:List (Addr × Obj)}{σ:List (Option V)}{H H':Hp}{s:Shared}{h':Heap}
theorem Cx.Ok.nofr (ok:X.Ok) {b:Addr}{o:Obj}(e:X.base.get? b=some o):b ∉ X.fs:=λhb=>by
 have:=(ok.funs.mem hb).1;rw[e]at this;cases this
theorem Inv.bs (I:Inv X pins σ H s):∀b o,X.base.get? b=some o->s.heap.get? b=some o/\H b=none:=λb o e=>
 ⟨I.base.keep b o (I.ok.bs b o e).1 (I.ok.bs b o e).2 (I.ok.nofr e) (I.ok.noex b o e),I.base.free b o (I.ok.bs b o e).1 (I.ok.bs b o e).2 (I.ok.noex b o e)⟩
theorem Inv.bk (I:Inv X pins σ H s):∀b o,X.base.get? b=some o->s.heap.get? b=some o:=λb o e=>(I.bs b o e).1
theorem Inv.mod (I:Inv X pins σ H s):Mod X.K X.mg X.base:=I.ok.mod
theorem Inv.kIn (I:Inv X pins σ H s):X.K.In s.heap:=I.ok.mod.kin.keeps I.bk
theorem Inv.lt (I:Inv X pins σ H s):X.env.locals<s.heap.objs.size:=let ⟨_,hn,_⟩:=I.loc;hn.lt
theorem Inv.sz (I:Inv X pins σ H s):X.s₀.heap.objs.size<=s.heap.objs.size:=Was I.ok.above<|Wbo I.lt
theorem Inv.nofs (I:Inv X pins σ H s) {a:Addr}(h:s.heap.objs.size<=a):a ∉ X.fs:=λhb=>by
 obtain⟨_,o,ho,_⟩:=I.ok.funs.mem hb;exact absurd (Wa0 (Wan ho)<|Was I.sz h)<|Wcb _
theorem Inv.cne (I:Inv X pins σ H s):∀x c,X.env.cells.lookup x=some c->c≠X.env.locals:=λx c e z=>by
 obtain⟨v,o,ho,hd⟩:=I.cell x c e;obtain⟨m,⟨o',es,ep,ho',hd',_⟩,_⟩:=I.loc;rw[z,ho']at ho;cases ho;rw[hd']at hd;cases hd
theorem Inv.funs (I:Inv X pins σ H s):s.heap.FunFrames X.base X.outer:=by
 have all:∀(l:List Env),(∀b∈frs l,b∈X.fs)->X.s₀.heap.FunFrames X.base l->s.heap.FunFrames X.base l:=by
  intro l
  induction l with
  |nil=>intro _ _;trivial
  |cons env r ih=>
   intro hs hl;obtain⟨hk,⟨L,o,hf,hn,ho,hd⟩,hr⟩:=hl;have hL:L∈X.fs:=hs L (by unfold frs;rw[Wc8,hf];exact Waq);obtain⟨sl,e⟩:=I.base.slot L o ho (I.ok.frf L hL) hL λz=>I.ok.exfs L z hL;exact⟨hk,⟨L,_,hf,hn,e,hd⟩,ih (λb hb=>hs b (by unfold frs;rw[Wc8,hf];exact Wal _ hb)) hr⟩
 exact all X.outer (λ_ hb=>hb) I.ok.funs
theorem Inv.stack (I:Inv X pins σ H s):s.heap.FunFrames X.base X.stack:=by
 rcases I.ok.stk with e|⟨e,hf⟩
 ·rw[e];exact I.funs
 ·rw[e]
  obtain⟨m,hn,_⟩:=I.loc;refine .cons (by rw[I.ok.kind];decide) hf hn ?_ I.funs;exact Wb3<|Was I.ok.bsz I.ok.above
theorem Inv.stkSub (I:Inv X pins σ H s):∀b∈frs X.stack,b∈X.env.locals::X.fs:=λb hb=>by
 rcases I.ok.stk with e|⟨e,hf⟩
 ·rw[e]at hb;exact Wal _ hb
 ·rw[e]at hb
  unfold frs at hb;rw[Wc8,hf]at hb;exact hb
theorem Inv.stkFree (I:Inv X pins σ H s):∀b∈frs X.stack,H b=none:=λb hb=>by
 rcases Wah.mp (I.stkSub b hb) with e|hb
 ·rw[e];exact I.free
 ·obtain⟨_,o,ho,_⟩:=I.ok.funs.mem hb
  exact I.base.free b o ho (I.ok.frf b hb) λz=>I.ok.exfs b z hb
theorem Inv.step {g':Array GenState}{t':Nat}{d':Drawn}{ch:List Addr}(I:Inv X pins σ H s)
  (hch:∀b∈ch,(b∈X.ex\/X.s₀.heap.objs.size<=b)/\b≠X.env.locals/\(∀x c,X.env.cells.lookup x=some c->c≠b)/\∀p∈X.pn++pins,p.1≠b)
  (keep:∀b o,b≠X.env.locals->b ∉ X.fs->b ∉ ch->s.heap.get? b=some o->H b=none->h'.get? b=some o)
  (slot:∀b o,b≠X.env.locals->b∈X.fs->b ∉ ch->s.heap.get? b=some o->H b=none->∃sl,h'.get? b=some { o with slots:=sl }) (free:∀b o,b ∉ ch->s.heap.get? b=some o->H b=none->H' b=none)
  (there:∀b o,b ∉ ch->s.heap.get? b=some o->∃o',h'.get? b=some o')
  (tups:∀b xs,H b=some (.tup xs)->H' b=some (.tup xs)) (frzs:∀b o u,H b=some (.frz o u)->H' b=some (.frz o u)) (tbls:∀b ps,H b=some (.tbl ps)->∃more,H' b=some (.tbl<|ps++more))
  (ns:∀m,s.heap.Ns X.env.locals m->h'.Ns X.env.locals m) (hok:HOk X.prog X.w H' h') (hg:AllBare g') :
  Inv X pins σ H' { s with heap:=h',gens:=g',drawn:=d',toks:=t' }:=by
 have neL:∀b o,X.s₀.heap.get? b=some o->b≠X.env.locals:=λb o e=>Wa4<|Wa0 (Wan e) I.ok.above;have neC:∀b o,X.s₀.heap.get? b=some o->b ∉ X.ex->b ∉ ch:=λb o e hx hb=>by
  rcases(hch b hb).1 with z|z
  ·exact hx z
  ·exact absurd (Wa0 (Wan e) z)<|Wcb _
 have cellK:∀x c,X.env.cells.lookup x=some c->∀v,s.heap.IsCell c v->h'.IsCell c v:=λx c e v hq_=>by
  obtain⟨o,ho,hd⟩:=hq_;have nch:c ∉ ch:=λz=>(hch c z).2.2.1 x c e rfl;by_cases hc:c∈X.fs
  ·obtain⟨sl,q⟩:=slot c o (I.cne x c e) hc nch ho (I.freeC x c e)
   exact⟨_,q,hd⟩
  ·exact⟨o,keep c o (I.cne x c e) hc nch ho<|I.freeC x c e,hd⟩
 refine⟨I.ok,I.os,hg,⟨λb o e n hb hx=>?_,λb o e n hb hx=>?_,λb o e n hx=>?_,λb o e hx=>?_,λb xs e=>tups b xs<|I.base.tups b xs e,λb o xs e=>frzs b o xs<|I.base.frzs b o xs e,λb ps e=>?_⟩,?_,λx c e=>?_,?_,λx c e=>?_,λp hp=>?_,hok,I.len⟩
 ·exact keep b o (neL b o e) hb (neC b o e hx) (I.base.keep b o e n hb hx)<|I.base.free b o e n hx
 ·obtain⟨sl,e1⟩:=I.base.slot b o e n hb hx
  obtain⟨sl',e2⟩:=slot b _ (neL b o e) hb (neC b o e hx) e1<|I.base.free b o e n hx;exact⟨sl',e2⟩
 ·obtain⟨o',e1⟩:=I.base.there b o e hx
  exact free b o' (neC b o e hx) e1<|I.base.free b o e n hx
 ·obtain⟨o',e1⟩:=I.base.there b o e hx
  exact there b o' (neC b o e hx) e1
 ·obtain⟨m1,e1⟩:=I.base.tbls b ps e
  obtain⟨m2,e2⟩:=tbls b _ e1;exact⟨m1++m2,by rw[e2,Array.append_assoc]⟩
 ·obtain⟨m,hn,hl⟩:=I.loc
  refine⟨m,ns m hn,λi x v e1 e2 e3=>?_⟩;obtain⟨u,r,l⟩:=hl i x v e1 e2 e3;refine⟨u,r,?_⟩;rcases l with l|⟨k,c,e,z⟩
  ·exact .inl l
  ·exact .inr ⟨k,c,e,cellK x c e _ z⟩
 ·obtain⟨v,z⟩:=I.cell x c e
  exact⟨v,cellK x c e v z⟩
 ·obtain⟨m,⟨o,_,_,ho,_⟩,_⟩:=I.loc
  exact free _ o (λz=>(hch _ z).2.1 rfl) ho I.free
 ·obtain⟨v,o,ho,hd⟩:=I.cell x c e
  exact free c o (λz=>(hch c z).2.2.1 x c e rfl) ho<|I.freeC x c e
 ·obtain⟨e,n,ne,nf,d⟩:=I.pin p hp
  have nch:p.1 ∉ ch:=λz=>(hch p.1 z).2.2.2 p hp rfl;exact⟨keep p.1 p.2 ne nf nch e n,free p.1 p.2 nch e n,ne,nf,d⟩
theorem Inv.un {t':Nat}(I:Inv X pins σ H s) (u:Un X.fs [] H H' s.heap h') (hok:HOk X.prog X.w H' h'):Inv X pins σ H' { s with heap:=h',toks:=t' }:=by
 obtain⟨m,⟨o,es,ep,ho,r⟩,_⟩:=id I.loc;obtain⟨sl,hL⟩:=u.any ho I.free (by simp);exact I.step (g':=s.gens) (d':=s.drawn) (ch:=[]) (λ_ z=>nomatch z) (λb o _ hb _ e n=>u.keep b o e n hb (by simp)) (λb o _ hb _ e n=>u.slot b o e n hb (by simp)) (λb o _ e n=>u.free b o e n (by simp)) (λb o _ e=>u.there b o e (by simp)) u.tups u.frzs u.tbls (λm' hm=>by
  obtain⟨o',es',ep',ho',r'⟩:=hm;rw[ho]at ho';cases ho';exact⟨_,es',ep',hL,r'⟩) hok I.bare
theorem Inv.call {g':Array GenState}{t':Nat}{d':Drawn}{ch:List Addr}(I:Inv X pins σ H s) (u:Un (frs X.stack) ch H H' s.heap h') (hok:HOk X.prog X.w H' h') (hg:AllBare g')
  (hch:∀b∈ch,(b∈X.ex\/X.s₀.heap.objs.size<=b)/\b≠X.env.locals/\(∀x c,X.env.cells.lookup x=some c->c≠b)/\∀p∈X.pn++pins,p.1≠b) :
  Inv X pins σ H' { s with heap:=h',gens:=g',drawn:=d',toks:=t' }:=by
 obtain⟨m,⟨o,es,ep,ho,r⟩,_⟩:=id I.loc;obtain⟨sl,hL⟩:=u.any ho I.free λz=>(hch _ z).2.1 rfl;exact I.step (ch:=ch) hch (λb o hL hb hc e n=>u.keep b o e n (λz=>(Wah.mp (I.stkSub b z)).elim hL hb) hc) (λb o _ _ hc e n=>u.any e n hc) (λb o hc e n=>u.free b o e n hc) (λb o hc e=>u.there b o e hc) u.tups u.frzs u.tbls (λm' hm=>by
  obtain⟨o',es',ep',ho',r'⟩:=hm;rw[ho]at ho';cases ho';exact⟨_,es',ep',hL,r'⟩) hok hg
theorem Inv.turned {t':Nat}{it:Addr}(I:Inv X pins σ H s) (k:∀b o,b≠it->s.heap.get? b=some o->h'.get? b=some o) (hn:H it=none) (hL:it≠X.env.locals)
  (h1:it∈X.ex\/X.s₀.heap.objs.size<=it) (h2:∀x c,X.env.cells.lookup x=some c->c≠it) (h3:∀p∈X.pn++pins,p.1≠it):Inv X pins σ H { s with heap:=h',toks:=t' }:=by
 have nit:∀b u,H b=some u->b≠it:=λb u e z=>by rw[z,hn]at e;cases e
 refine I.step (g':=s.gens) (d':=s.drawn) (ch:=[it]) (λb hb=>?_) (λb o _ _ hc e _=>k b o (λz=>hc (by simp[z])) e) (λb o _ _ hc e _=>⟨o.slots,k b o (λz=>hc (by simp[z])) e⟩) (λ_ _ _ _ n=>n)
  (λb o hc e=>⟨o,k b o (λz=>hc (by simp[z])) e⟩) (λ_ _ e=>e) (λ_ _ _ e=>e) (λb ps e=>⟨#[],by rw[e];simp⟩) (λm hm=>?_) (λb u e=>?_) I.bare
 ·have e:b=it:=by simpa using hb
  subst e;exact⟨h1,hL,h2,h3⟩
 ·obtain⟨o,es,ep,ho,r⟩:=hm
  exact⟨o,es,ep,k _ o (Ne.symm hL) ho,r⟩
 ·refine(I.hok b u e).stay (λc v hc q=>k c v ?_ q) (λ_ q=>q) λ_ _ q=>q
  rcases hc with z|z
  ·rw[z];exact nit b u e
  ·exact nit c _ z
theorem Inv.tok (I:Inv X pins σ H s) (t:Nat):Inv X pins σ H { s with toks:=t }:=I.un (h':=s.heap) (t':=t) Un.refl I.hok
theorem Inv.kept {t':Nat}(I:Inv X pins σ H s) (k:∀b u,s.heap.get? b=some u->h'.get? b=some u):Inv X pins σ H { s with heap:=h',toks:=t' }:=I.un (Un.kept k)<|I.hok.kept k
theorem Inv.laid {a:Addr}{o:HO}{t':Nat}(I:Inv X pins σ H s) (k:∀b u,s.heap.get? b=some u->h'.get? b=some u) (hp:s.heap.objs.size<=a) (new:ObjOk X.prog X.w (upd H a o) h' a o) :
  Inv X pins σ (upd H a o) { s with heap:=h',toks:=t' }:=I.un (Un.laid k hp<|I.hok.fresh hp)<|I.hok.laid k hp new
theorem Inv.write {x e:Addr}{o:HO}{t':Nat}(I:Inv X pins σ H s) (mu:Mut (H x)) (he:e=x\/H e=some (.own x)) (k:∀b u,b≠e->s.heap.get? b=some u->h'.get? b=some u) (heo:∃u,h'.get? e=some u)
  (new:ObjOk X.prog X.w (upd H x o) h' x o):Inv X pins σ (upd H x o) { s with heap:=h',toks:=t' }:=I.un (Un.write mu he k heo)<|I.hok.write mu he k heo new
theorem Inv.pins_of {pins':List (Addr × Obj)}(I:Inv X pins σ H s) (h:∀p∈pins',s.heap.get? p.1=some p.2/\H p.1=none/\p.1≠X.env.locals/\p.1 ∉ X.fs/\∀v,p.2.data≠.cell v):Inv X pins' σ H s:=
 ⟨I.ok,I.os,I.bare,I.base,I.loc,I.cell,I.free,I.freeC,λp hp=>(Wa7.mp hp).elim (λz=>I.pin p<|Wbv _ z) (h p),I.hok,I.len⟩
theorem Zfw {N:List Str}(hN:N.Nodup) {i j:Nat}{x:Str}(a:N[i]?=some x) (b:N[j]?=some x):i=j:=by
 obtain⟨h1,e1⟩:=Wap.mp a;obtain⟨h2,e2⟩:=Wap.mp b;exact(List.getElem_inj hN).mp (e1.trans e2.symm)
theorem Zgy {M:Model}{A:Around}{E:Value->Shared->Prop}{i:Nat}{x:Str}{v:V}{u:Value}{Q:Unit->Shared->Prop}(I:Inv X pins σ H s) (hN:X.N.Nodup) (hi:X.N[i]?=some x) (hx:Loc X.env.scope x) (r:RelV v u)
  (h:∀s',Inv X pins (σ.set i<|some v) H s' -> (∃a,Heap.SameBut a s.heap s'.heap/\(a=X.env.locals\/X.env.cells.lookup x=some a))->Q () s') (hf:X.fn x=true\/X.env.scope.names.lookup x=some .local:=by first|exact .inl rfl|exact .inr rfl|assumption):wpAny M A (storeName X.env x u) Q E s:=by
 obtain⟨m,hn,hl⟩:=id I.loc;have hcls:(X.env.scope.kind == .class || (X.env.scope.kind == .module && X.env.locals != X.env.globals))=false:=by rw[I.ok.kind];rfl
 have hiσ:i < σ.length:=by rw[I.len];exact(Wap.mp hi).1
 have cne:=I.cne;have tracked:∀{a:Addr}{h':Heap},(∃o,s.heap.get? a=some o/\H a=none)->Heap.SameBut a s.heap h' -> HOk X.prog X.w H h':=λ{a h'} ha hs b ob e=>by
  obtain⟨_,_,hfree⟩:=ha;refine(I.hok b ob e).stay (λc w' hc q=>(hs.2 c ?_).trans q) (λ_ q=>q) λ_ _ q=>q;rintro rfl;rcases hc with rfl|hc
  ·rw[hfree]at e;cases e
  ·rw[hfree]at hc;cases hc
 rcases hx with hk|hk
 ·refine wpAny_storeName_local hk hn (λh' hn' hs=>?_) hcls
  obtain⟨oL,_,_,hoL,_⟩:=id hn;refine h _ ⟨I.ok,I.os,I.bare,⟨λb o e n hb hx=>?_,λb o e n hb hx=>?_,I.base.free,λb o e hx=>?_,I.base.tups,I.base.frzs,I.base.tbls⟩,⟨_,hn',λj y v' e1 e2 e3=>?_⟩,λy c e=>?_,I.free,I.freeC,λp hp=>?_,tracked ⟨oL,hoL,I.free⟩ hs,by simpa using I.len⟩ ⟨_,hs,.inl rfl⟩
  ·exact(hs.2 b<|Wa4<|Wa0 (Wan e) I.ok.above).trans (I.base.keep b o e n hb hx)
  ·obtain⟨sl,e1⟩:=I.base.slot b o e n hb hx
   exact⟨sl,(hs.2 b<|Wa4<|Wa0 (Wan e) I.ok.above).trans e1⟩
  ·obtain⟨o',e1⟩:=I.base.there b o e hx
   exact⟨o',(hs.2 b<|Wa4<|Wa0 (Wan e) I.ok.above).trans e1⟩
  ·by_cases hj:j=i
   ·subst hj
    rw[hi]at e1;cases e1;rw[Wam hiσ]at e2;cases e2;exact⟨u,r,.inl ⟨hk,by simp⟩⟩
   ·rw[Wao (Ne.symm hj)]at e2
    obtain⟨u',r',q⟩:=hl j y v' e1 e2 e3;refine⟨u',r',?_⟩;rcases q with ⟨k,e⟩|⟨k,c,e,z⟩
    ·refine .inl ⟨k,?_⟩
     have:y≠x:=λe=>hj<|Zfw hN e1 (e ▸ hi);simp[this,e]
    ·exact .inr ⟨k,c,e,z.sameBut hs<|cne y c e⟩
  ·obtain⟨w',z⟩:=I.cell y c e
   exact⟨w',z.sameBut hs<|cne y c e⟩
  ·obtain⟨e,n,ne,nf,d⟩:=I.pin p hp
   exact⟨(hs.2 p.1 ne).trans e,n,ne,nf,d⟩
 ·have hfn:X.fn x=true:=by
   rcases hf with z|z
   ·exact z
   ·rw[z]at hk;cases hk
  obtain⟨c,hc⟩:=I.ok.has x (.inl hk);obtain⟨w',z⟩:=I.cell x c hc;refine wpAny_storeName_cell I.ok.kind hk hc z λh' hc' hs=>?_;obtain⟨oc,hoc,hocd⟩:=id z;refine h { s with heap:=h' } ⟨I.ok,I.os,I.bare,⟨λb o e n hb hx=>?_,λb o e n hb hx=>?_,I.base.free,λb o e hx=>?_,I.base.tups,I.base.frzs,I.base.tbls⟩,⟨m,hn.sameBut hs<|Ne.symm<|cne x c hc,λj y v' e1 e2 e3=>?_⟩,λy c' e=>?_,I.free,I.freeC,λp hp=>?_,tracked ⟨oc,hoc,I.freeC x c hc⟩ hs,by simpa using I.len⟩ ⟨c,hs,.inr hc⟩
  ·exact(hs.2 b<|Wa4<|Wa0 (Wan e)<|I.ok.cab x c hfn hc).trans (I.base.keep b o e n hb hx)
  ·obtain⟨sl,e1⟩:=I.base.slot b o e n hb hx
   exact⟨sl,(hs.2 b<|Wa4<|Wa0 (Wan e)<|I.ok.cab x c hfn hc).trans e1⟩
  ·obtain⟨o',e1⟩:=I.base.there b o e hx
   exact⟨o',(hs.2 b<|Wa4<|Wa0 (Wan e)<|I.ok.cab x c hfn hc).trans e1⟩
  ·by_cases hj:j=i
   ·subst hj
    rw[hi]at e1;cases e1;rw[Wam hiσ]at e2;cases e2;exact⟨u,r,.inr ⟨.inl hk,c,hc,hc'⟩⟩
   ·rw[Wao (Ne.symm hj)]at e2
    obtain⟨u',r',q⟩:=hl j y v' e1 e2 e3;refine⟨u',r',?_⟩;rcases q with q|⟨k,c',e,z'⟩
    ·exact .inl q
    ·refine .inr ⟨k,c',e,z'.sameBut hs ?_⟩
     rintro rfl;exact hj<|Zfw hN e1 (I.ok.inj _ _ _ e hc ▸ hi)
  ·by_cases hcc:c'=c
   ·subst hcc;exact⟨_,hc'⟩
   ·obtain⟨w2,z2⟩:=I.cell y c' e
    exact⟨w2,z2.sameBut hs hcc⟩
  ·obtain⟨e,n,ne,nf,d⟩:=I.pin p hp
   refine⟨(hs.2 p.1 ?_).trans e,n,ne,nf,d⟩;intro q;rw[q,hoc]at e;have q':oc=p.2:=Wat.inj e;exact d w' (by rw[<- q'];exact hocd)
theorem Zdi {M:Model}{A:Around}{E:Value->Shared->Prop}{i:Nat}{x:Str}{v:V}{u:Value}{Q:Unit->Shared->Prop}(I:Inv X pins σ H s) (hN:X.N.Nodup) (hi:X.N[i]?=some x) (hx:Loc X.env.scope x) (r:RelV v u)
  (h:∀s',Inv X pins (σ.set i<|some v) H s' -> Q () s') (hf:X.fn x=true\/X.env.scope.names.lookup x=some .local:=by first|exact .inl rfl|exact .inr rfl|assumption):wpAny M A (storeName X.env x u) Q E s:=
 Zgy I hN hi hx r (λs' I' _=>h s' I') hf
theorem Inv.call' {s':Shared}{ch:List Addr}(I:Inv X pins σ H s) (ho:s'.os=s.os) (u:Un (frs X.stack) ch H H' s.heap s'.heap) (hok:HOk X.prog X.w H' s'.heap) (hg:AllBare s'.gens)
  (hch:∀b∈ch,(b∈X.ex\/X.s₀.heap.objs.size<=b)/\b≠X.env.locals/\(∀x c,X.env.cells.lookup x=some c->c≠b)/\∀p∈X.pn++pins,p.1≠b):Inv X pins σ H' s':=by
 obtain⟨h',g',d',t',o'⟩:=s';have e:o'=s.os:=ho;subst e;exact I.call (g':=g') (t':=t') (d':=d') u hok hg hch
end
abbrev XK:=Value->Option Addr->Hp->Prop
abbrev St:=List<|Option V
abbrev VK:=V->Hp->Prop
abbrev TE:=St->Hp->VK->Prop
abbrev TT:=St->Hp->(Bool->Hp->Prop)->Prop
abbrev TA:=St->Hp->(List V->Hp->Prop)->Prop
structure Ends where
 nx:St->Hp->Prop
 rt:VK
 bk:St->Hp->Prop:=λ_ _=>False
 ct:St->Hp->Prop:=λ_ _=>False
abbrev TS:=Ends->St->Hp->Prop
def EP (X:Cx) (pins:List (Addr × Obj)) (σ:St) (Q:VK) (u:Value) (s':Shared):Prop:=∃v H',Inv X pins σ H' s' /\ RelV v u/\Q v H'
def TP (X:Cx) (pins:List (Addr × Obj)) (σ:St) (Q:Bool->Hp->Prop) (b:Bool) (s':Shared):Prop:=∃H',Inv X pins σ H' s' /\ Q b H'
def AP (X:Cx) (pins:List (Addr × Obj)) (σ:St) (Q:List V->Hp->Prop) (us:List Value) (s':Shared):Prop:=∃vs H',Inv X pins σ H' s' /\ Vals vs us/\Q vs H'
def SP (X:Cx) (pins:List (Addr × Obj)) (D:Ends) (f:Flow) (s':Shared):Prop:=
 match f with
 |.next=>∃σ' H',Inv X pins σ' H' s' /\ D.nx σ' H'
 |.brk=>∃σ' H',Inv X pins σ' H' s' /\ D.bk σ' H'
 |.cont=>∃σ' H',Inv X pins σ' H' s' /\ D.ct σ' H'
 |.ret u=>∃v σ' H',Inv X pins σ' H' s' /\ RelV v u/\D.rt v H'
def PE (X:Cx) (e:Expr) (t:TE):Prop:=
 ∀(pins:List (Addr × Obj)) (s:Shared) (σ:St) (H:Hp) (Q:VK),Inv X pins σ H s->t σ H Q->wpAny (model X.prog X.w) X.A (eval e X.env) (EP X pins σ Q) X.xe s
def PT (X:Cx) (e:Expr) (t:TT):Prop:=
 ∀(pins:List (Addr × Obj)) (s:Shared) (σ:St) (H:Hp) (Q:Bool->Hp->Prop),Inv X pins σ H s->t σ H Q->wpAny (model X.prog X.w) X.A (isTrue e X.env<|eval e X.env) (TP X pins σ Q) X.xe s
def PW (X:Cx) (e:Expr) (t:TT):Prop:=
 ∀(whole:Sem Value) (pins:List (Addr × Obj)) (s:Shared) (σ:St) (H:Hp) (Q:Bool->Hp->Prop),Inv X pins σ H s->t σ H Q->wpAny (model X.prog X.w) X.A (isTrue e X.env whole) (TP X pins σ Q) X.xe s
theorem PW.pt {X:Cx}{e:Expr}{t:TT}(h:PW X e t):PT X e t:=h _
def PA (X:Cx) (es:List Expr) (t:TA):Prop:=
 ∀(pos:Pos) (pins:List (Addr × Obj)) (s:Shared) (σ:St) (H:Hp) (Q:List V->Hp->Prop),Inv X pins σ H s->t σ H Q->wpAny (model X.prog X.w) X.A (spliced<|backTo pos<|starEach es X.env) (AP X pins σ Q) X.xe s
def PS (X:Cx) (st:Stmt) (t:TS):Prop:=
 ∀(pins:List (Addr × Obj)) (s:Shared) (σ:St) (H:Hp) (D:Ends),Inv X pins σ H s->t D σ H->wpAny (model X.prog X.w) X.A (exec st X.env) (SP X pins D) X.xe s
def PSs (X:Cx) (st:List Stmt) (t:TS):Prop:=
 ∀(pins:List (Addr × Obj)) (s:Shared) (σ:St) (H:Hp) (D:Ends),Inv X pins σ H s->t D σ H->wpAny (model X.prog X.w) X.A (execs st X.env) (SP X pins D) X.xe s
theorem thn {α:Type}{t:Sem α}{Q Q':α -> Shared->Prop}{M:Model}{A:Around}{E:Value->Shared->Prop}{s:Shared}(h:wpAny M A t Q E s) (hQ:∀a s,Q a s->Q' a s):wpAny M A t Q' E s:=wpAny_mono h hQ λ_ _ x=>x
end L2
namespace L2
open PySem PySem.Spec PyProof.Rows
section
variable {X:Cx}
def tVar (i:Nat):TE:=λσ H Q=>∃v,σ[i]?=some (some v)/\Q v H
def tC (v:V):TE:=λ_ H Q=>Q v H
theorem Zrr {i:Nat}{x:Str}{pos:Pos}(hN:X.N[i]?=some x) (hv:Vis X.env.scope x) (hd:(x == ("__debug__":Str))=false:=by decide) (hcd:(x == ("__classdict__":Str))=false:=by decide):PE X (.Name x pos) (tVar i):=by
 intro pins s σ H Q I h;obtain⟨v,e,h⟩:=h;obtain⟨m,hn,hl⟩:=I.loc;obtain⟨u,r,l⟩:=hl i x v hN e hv;have fin:EP X pins σ Q u s:=⟨v,H,I,r,h⟩;rcases l with ⟨hk,hm⟩|⟨hk,c,hc,hcell⟩
 ·exact wpAny_Name (wpAny_loadName_local I.ok.kind hk hn hm fin) hd
 ·rcases hk with hk|hk
  ·exact wpAny_Name (wpAny_loadName_cell I.ok.kind hk hc hcell fin) hd
  ·exact wpAny_Name (wpAny_loadName_free I.ok.kind hk hc hcell fin hcd) hd
theorem Zai {i j pos}:PE X (.Constant (.int i) j pos) (tC (.int i)):=λ_ _ _ H _ I h=>wpAny_Constant_int ⟨.int i,H,I.tok _,⟨_,rfl⟩,h⟩
theorem Zm4 {b j pos}:PE X (.Constant (.bool b) j pos) (tC (.bl b)):=λ_ _ _ H _ I h=>Constant_bool ⟨.bl b,H,I,rfl,h⟩
theorem Zb7 {j pos}:PE X (.Constant .none j pos) (tC .non):=λ_ _ _ H _ I h=>Constant_none ⟨.non,H,I,rfl,h⟩
theorem Zbx {x j pos}:PE X (.Constant (.str x) j pos) (tC (.str x)):=λ_ _ _ H _ I h=>Calls.Constant_str ⟨.str x,H,I.tok _,⟨_,rfl⟩,h⟩
def Gl (X:Cx) (x:Str):Prop:=X.env.kindOf x=some .globalImplicit
theorem Zde {E:Value->Shared->Prop}{pins:List (Addr × Obj)}{s:Shared}{σ:St}{H:Hp}{x:Str}{u:Value}{pos:Pos}{Q:Value->Shared->Prop}(I:Inv X pins σ H s) (hg:Gl X x) (hm:X.mg x=some u) (h:Q u s)
  (hd:(x == ("__debug__":Str))=false:=by decide):wpAny (model X.prog X.w) X.A (eval (.Name x pos) X.env) Q E s:=
 Calls.Name_function_global I.ok.kind hg (Calls.loadGlobal_global (by rw[I.ok.glob];exact I.mod.glob.keeps I.bk) hm h) hd
theorem Zd2 {E:Value->Shared->Prop}{pins:List (Addr × Obj)}{s:Shared}{σ:St}{H:Hp}{x:Str}{u:Value}{pos:Pos}{Q:Value->Shared->Prop}(I:Inv X pins σ H s) (hg:Gl X x) (hm:X.mg x=none) (hv:bootBuiltins x=some u) (h:Q u s)
  (hn:x ≠ "__name__":=by decide) (hd:(x == ("__debug__":Str))=false:=by decide):wpAny (model X.prog X.w) X.A (eval (.Name x pos) X.env) Q E s:=by
 obtain⟨mb,h1,h2⟩:=I.mod.blt;exact Calls.Name_function_global I.ok.kind hg (Calls.loadGlobal_builtin (by rw[I.ok.glob];exact I.mod.glob.keeps I.bk) hm (by rw[I.ok.blt];exact h1.keeps I.bk) ((h2 x hn).trans hv) h) hd
theorem Zaq {x:Str}{v:V}{u:Value}{pos:Pos}(hg:Gl X x) (hm:X.mg x=some u) (r:RelV v u) (hd:(x == ("__debug__":Str))=false:=by decide):PE X (.Name x pos) (tC v):=
 λ_ _ _ H _ I h=>Zde I hg hm ⟨v,H,I,r,h⟩ hd
theorem Zbu {x:Str}{v:V}{u:Value}{pos:Pos}(hg:Gl X x) (hm:X.mg x=none) (hv:bootBuiltins x=some u) (r:RelV v u) (hn:x ≠ "__name__":=by decide) (hd:(x == ("__debug__":Str))=false:=by decide):PE X (.Name x pos) (tC v):=
 λ_ _ _ H _ I h=>Zd2 I hg hm hv ⟨v,H,I,r,h⟩ hn hd
variable {a b:Expr}{ta tb:TE}{pos:Pos}
variable {tA tB':TT}{rest:List Expr}
def tAnd (t u:TT):TT:=λσ H Q=>t σ H λc H1=>if c=true then u σ H1 Q else Q false H1
def tOr (t u:TT):TT:=λσ H Q=>t σ H λc H1=>if c=true then Q true H1 else u σ H1 Q
def tNot (t:TT):TT:=λσ H Q=>t σ H λc H1=>Q (!c) H1
theorem pw_and1 (ha:PT X a tA):PW X (.BoolOp .And [a] pos) tA:=by
 intro wh pins s σ H Q I h;refine isTrue_and (thn (ha pins s σ H Q I h) λc s1 e=>?_);cases c with
 |true=>exact isTrue_and_nil e
 |false=>exact e
theorem pw_or1 (ha:PT X a tA):PW X (.BoolOp .Or [a] pos) tA:=by
 intro wh pins s σ H Q I h;refine isTrue_or (thn (ha pins s σ H Q I h) λc s1 e=>?_);cases c with
 |false=>exact isTrue_or_nil e
 |true=>exact e
theorem pw_and (ha:PT X a tA) (hb:PW X (.BoolOp .And (b::rest) pos) tB'):PW X (.BoolOp .And (a::b::rest) pos) (tAnd tA tB'):=by
 intro wh pins s σ H Q I h;refine isTrue_and (thn (ha pins s σ H _ I h) λc s1 ⟨H1,I1,q1⟩=>?_);cases c with
 |true=>exact hb wh pins s1 σ H1 Q I1 q1
 |false=>exact⟨H1,I1,q1⟩
theorem pw_or (ha:PT X a tA) (hb:PW X (.BoolOp .Or (b::rest) pos) tB'):PW X (.BoolOp .Or (a::b::rest) pos) (tOr tA tB'):=by
 intro wh pins s σ H Q I h;refine isTrue_or (thn (ha pins s σ H _ I h) λc s1 ⟨H1,I1,q1⟩=>?_);cases c with
 |true=>exact⟨H1,I1,q1⟩
 |false=>exact hb wh pins s1 σ H1 Q I1 q1
theorem Zbv (ha:PT X a tA):PT X (.UnaryOp .Not a pos) (tNot tA):=by
 intro pins s σ H Q I h;exact isTrue_not<|ha pins s σ H (λc H1=>Q (!c) H1) I h
def tAndV (ta tb:TE):TE:=λσ H Q=>ta σ H λx H1=>∃c,x=.bl c/\if c=true then tb σ H1 Q else Q (.bl false) H1
def tOrV (ta tb:TE):TE:=λσ H Q=>ta σ H λx H1=>∃c,x=.bl c/\if c=true then Q (.bl true) H1 else tb σ H1 Q
def tNotV (ta:TE):TE:=λσ H Q=>ta σ H λx H1=>∃c,x=.bl c/\Q (.bl (!c)) H1
theorem Zi6 {op} {t:TE}(h:PE X a t):PE X (.BoolOp op [a] pos) t:=λpins s σ H Q I hw=>BoolOp_one<|h pins s σ H Q I hw
theorem Zg0 (ha:PE X a ta) (hb:PE X (.BoolOp .And (b::rest) pos) tb):PE X (.BoolOp .And (a::b::rest) pos) (tAndV ta tb):=by
 intro pins s σ H Q I h;refine BoolOp_and (thn (ha pins s σ H _ I h) λv s1 ⟨x,H1,I1,r1,q1⟩=>?_);obtain⟨c,rfl,q1⟩:=q1;cases r1;refine wpAny_truthy_bool ?_;cases c with
 |true=>exact hb pins s1 σ H1 Q I1 q1
 |false=>exact⟨.bl false,H1,I1,rfl,q1⟩
theorem Zpb (ha:PE X a ta):PE X (.UnaryOp .Not a pos) (tNotV ta):=by
 intro pins s σ H Q I h;refine UnaryOp_ (thn (ha pins s σ H _ I h) λv s1 ⟨x,H1,I1,r1,q1⟩=>?_);obtain⟨c,rfl,q1⟩:=q1;cases r1;exact not_of<|wpAny_truthy_bool ⟨.bl (!c),H1,I1,rfl,q1⟩
def tIf (t:TT) (ta tb:TE):TE:=λσ H Q=>t σ H λc H1=>if c=true then ta σ H1 Q else tb σ H1 Q
theorem Zei {c:Expr}(hc:PT X c tA) (ha:PE X a ta) (hb:PE X b tb):PE X (.IfExp c a b pos) (tIf tA ta tb):=by
 intro pins s σ H Q I h;refine wpAny_IfExp (thn (hc pins s σ H _ I h) λd s1 ⟨H1,I1,q1⟩=>?_);cases d with
 |true=>exact ha pins s1 σ H1 Q I1 q1
 |false=>exact hb pins s1 σ H1 Q I1 q1
end
end L2
namespace L2
open PySem PySem.Spec PyProof.Rows
def SqL (K:W.Frag) (H:Hp) (a:Addr) (xs:List V):Prop:=
 Rd H a (.lst xs) ∨
  ∃(o:Obj) (its:Array Value) (n:Nat),K.lookup a=some o/\o.cls=.type "list" /\ o.dict=none/\o.data=.seq its n/\its.size<=sizeLine/\Vals xs its.toList
def SqT (K:W.Frag) (H:Hp) (a:Addr) (xs:List V):Prop:=
 Rd H a (.tup xs) ∨
  ∃(o:Obj) (its:Array Value) (n:Nat),K.lookup a=some o/\o.cls=.type "tuple" /\ o.data=.seq its n/\its.size<=sizeLine/\Vals xs its.toList
def absV:Value->Option V
 |.none=>some .non
 |.bool b=>some (.bl b)
 |.int i _=>some (.int i)
 |.str x _=>some (.str x)
 |.bytes b _=>some (.byt b)
 |.float b _=>some (.flt b)
 |.ref a=>some (.ref a)
 |.type n=>some (.ty n)
 |_=>none
theorem RelV.abs {x:V}{u:Value}(r:RelV x u):absV u=some x:=by
 cases x with
 |non=>cases r;rfl
 |bl _=>cases r;rfl
 |int _=>obtain⟨t,rfl⟩:=r;rfl
 |str _=>obtain⟨t,rfl⟩:=r;rfl
 |byt _=>obtain⟨t,rfl⟩:=r;rfl
 |flt _=>obtain⟨t,rfl⟩:=r;rfl
 |ref _=>cases r;rfl
 |ty _=>cases r;rfl
theorem RelV.inj {x y:V}{u:Value}(r:RelV x u) (q:RelV y u):x=y:=Wat.inj<|r.abs.symm.trans q.abs
theorem Vals.inj:∀{xs ys:List V}{us:List Value},Vals xs us->Vals ys us->xs=ys
 |_,_,_,.nil,.nil=>rfl
 |_,_,_,.cons r t,.cons r' t'=>by rw[r.inj r',Vals.inj t t']
section
variable {X:Cx}{pins:List (Addr × Obj)}{σ:St}{H:Hp}{s:Shared}{a:Addr}{xs ys:List V}
theorem SqL.of {K:W.Frag}(h:H a=some (.lst xs)):SqL K H a xs:=.inl (.inl h)
theorem SqT.of {K:W.Frag}(h:H a=some (.tup xs)):SqT K H a xs:=.inl (.inl h)
theorem Inv.list (I:Inv X pins σ H s) (h:SqL X.K H a xs):∃its:List Value,Vals xs its/\PlainL s.heap a its.toArray/\xs.length<=sizeLine:=by
 rcases h with h|⟨o,its,n,hk,hc,hd,hs,hz,r⟩
 ·obtain⟨z,its,n,r,e⟩:=h.ok I.hok
  exact⟨its,r,⟨_,n,e,rfl,rfl,rfl⟩,z⟩
 ·refine⟨its.toList,r,⟨o,n,I.kIn a o hk,hc,hd,by simpa using hs⟩,?_⟩
  have e:=r.length;simp only[Array.length_toList]at e;omega
theorem Inv.tuple (I:Inv X pins σ H s) (h:SqT X.K H a xs):∃its:List Value,Vals xs its/\IsTup s.heap a its.toArray/\xs.length<=sizeLine:=by
 rcases h with h|⟨o,its,n,hk,hc,hs,hz,r⟩
 ·obtain⟨z,its,r,p⟩:=h.ok I.hok
  exact⟨its,r,p.tup,z⟩
 ·refine⟨its.toList,r,⟨o,I.kIn a o hk,hc,n,by simpa using hs⟩,?_⟩
  have e:=r.length;simp only[Array.length_toList]at e;omega
theorem Inv.list_inj (I:Inv X pins σ H s) (h:SqL X.K H a xs) (h':SqL X.K H a ys):xs=ys:=by
 obtain⟨its,r,⟨o,n,e,_,_,d⟩,_⟩:=I.list h;obtain⟨its',r',⟨o',n',e',_,_,d'⟩,_⟩:=I.list h';rw[e]at e';cases e';rw[d]at d';injection d' with d1 _
 have:its=its':=by simpa using congrArg Array.toList d1
 subst this;exact r.inj r'
theorem Inv.tuple_inj (I:Inv X pins σ H s) (h:SqT X.K H a xs) (h':SqT X.K H a ys):xs=ys:=by
 obtain⟨its,r,⟨o,e,_,n,d⟩,_⟩:=I.tuple h;obtain⟨its',r',⟨o',e',_,n',d'⟩,_⟩:=I.tuple h';rw[e]at e';cases e';rw[d]at d';injection d' with d1 _
 have:its=its':=by simpa using congrArg Array.toList d1
 subst this;exact r.inj r'
end
abbrev Cx.wish (X:Cx) (E:Value->Shared->Prop):Cx:={ X with xe:=E }
abbrev Cx.nox (X:Cx):Cx:=X.wish λ_ _=>False
theorem Cx.Ok.wish {X:Cx}(ok:X.Ok) (E:Value->Shared->Prop):(X.wish E).Ok:=
 ⟨ok.mod,ok.kind,ok.glob,ok.blt,ok.above,ok.inj,ok.has,ok.cab,ok.hd,ok.frames,ok.stk,ok.exf,ok.bs,ok.bsz,ok.noex,ok.exfs,ok.funs,ok.frf⟩
theorem Cx.Ok.unwish {X:Cx}{E:Value->Shared->Prop}(ok:(X.wish E).Ok):X.Ok:=
 ⟨ok.mod,ok.kind,ok.glob,ok.blt,ok.above,ok.inj,ok.has,ok.cab,ok.hd,ok.frames,ok.stk,ok.exf,ok.bs,ok.bsz,ok.noex,ok.exfs,ok.funs,ok.frf⟩
section
variable {X:Cx}{pins:List (Addr × Obj)}{σ:St}{H:Hp}{s:Shared}{E:Value->Shared->Prop}
theorem Inv.wish (I:Inv X pins σ H s) (E:Value->Shared->Prop):Inv (X.wish E) pins σ H s:=⟨I.ok.wish E,I.os,I.bare,I.base,I.loc,I.cell,I.free,I.freeC,I.pin,I.hok,I.len⟩
theorem Inv.unwish (I:Inv (X.wish E) pins σ H s):Inv X pins σ H s:=⟨I.ok.unwish,I.os,I.bare,I.base,I.loc,I.cell,I.free,I.freeC,I.pin,I.hok,I.len⟩
theorem SP.unwish {D:Ends}{f:Flow}{s':Shared}(h:SP (X.wish E) pins D f s'):SP X pins D f s':=by
 cases f with
 |next=>obtain⟨σ',H',I,q⟩:=h;exact⟨σ',H',I.unwish,q⟩
 |brk=>obtain⟨σ',H',I,q⟩:=h;exact⟨σ',H',I.unwish,q⟩
 |cont=>obtain⟨σ',H',I,q⟩:=h;exact⟨σ',H',I.unwish,q⟩
 |ret u=>obtain⟨v,σ',H',I,r,q⟩:=h;exact⟨v,σ',H',I.unwish,r,q⟩
theorem PSs.nox {st:List Stmt}{t:TS}(h:PSs X.nox st t):PSs X st t:=λpins s σ H D I hw=>
 wpAny_mono (h pins s σ H D (I.wish _) hw) (λ_ _ q=>q.unwish) λ_ _ z=>False.elim z
end
section
variable {X:Cx}{st:Stmt}{rest:List Stmt}{t u:TS}{e:Expr}{te:TE}{pos:Pos}
def tNext:TS:=λD σ H=>D.nx σ H
def tSeq (t u:TS):TS:=λD σ H=>t { D with nx:=u D } σ H
theorem Zaw:PSs X [] tNext:=λ_ _ σ H _ I h=>wpAny_execs_nil ⟨σ,H,I,h⟩
theorem Zag (h1:PS X st t) (h2:PSs X rest u):PSs X (st::rest) (tSeq t u):=by
 intro pins s σ H D I h;refine wpAny_execs_cons (thn (h1 pins s σ H { D with nx:=u D } I h) λf s1 q=>?_);cases f with
 |next=>
  obtain⟨σ',H',I',q⟩:=q;exact h2 pins s1 σ' H' D I' q
 |ret v=>exact q
 |brk=>exact q
 |cont=>exact q
theorem Zam (h1:PS X st t):PSs X [st] t:=by
 intro pins s σ H D I h;refine wpAny_execs_cons (thn (h1 pins s σ H D I h) λf s1 q=>?_);cases f with
 |next=>exact wpAny_execs_nil q
 |ret v=>exact q
 |brk=>exact q
 |cont=>exact q
theorem Inv.quiet {pins:List (Addr × Obj)}{σ:St}{H:Hp}{s:Shared}(I:Inv X pins σ H s):interactive X.env=false:=by simp[interactive,I.ok.kind]
def tDrop (te:TE):TS:=λD σ H=>te σ H λ_ H1=>D.nx σ H1
theorem Zfv (he:PE X e te) (hs:swapsWith e none pos.line X.env=pure false:=by rfl):PS X (.Expr e pos) (tDrop te):=by
 intro pins s σ H D I h;exact wpAny_Expr_any (thn (he pins s σ H _ I h) λv s1 ⟨x,H1,I1,r1,q1⟩=>⟨σ,H1,I1,q1⟩) I.quiet hs
def tRet (te:TE):TS:=λD σ H=>te σ H D.rt
theorem Zax (he:PE X e te):PS X (.Return (some e) pos) (tRet te):=by
 intro pins s σ H D I h;exact wpAny_Return_some (thn (he pins s σ H _ I h) λv s1 ⟨x,H1,I1,r1,q1⟩=>⟨x,σ,H1,I1,r1,q1⟩)
def tIfS (c:TT) (t u:TS):TS:=λD σ H=>c σ H λb H1=>if b=true then t D σ H1 else u D σ H1
theorem Zbm {c:Expr}{a b:List Stmt}{tc:TT}(hc:PT X c tc) (ha:PSs X a t) (hb:PSs X b u):PS X (.If c a b pos) (tIfS tc t u):=by
 intro pins s σ H D I h;refine wpAny_If (thn (hc pins s σ H _ I h) λd s1 ⟨H1,I1,q1⟩=>?_);cases d with
 |true=>exact ha pins s1 σ H1 D I1 q1
 |false=>exact hb pins s1 σ H1 D I1 q1
def tNever:TS:=λ_ _ _=>False
theorem Zcd {sts:List Stmt}:PSs X sts tNever:=λ_ _ _ _ _ _ h=>h.elim
end
abbrev TG:=V->St->Hp->(St->Hp->Prop)->Prop
abbrev TGs:=List V->St->Hp->(St->Hp->Prop)->Prop
def PG (X:Cx) (target:Expr) (t:TG):Prop:=
 ∀(pins:List (Addr × Obj)) (s:Shared) (σ:St) (H:Hp) (v:V) (u:Value) (Q:St->Hp->Prop),Inv X pins σ H s->RelV v u->t v σ H Q →
  wpAny (model X.prog X.w) X.A (assign target X.env u) (λ_ s'=>∃σ' H',Inv X pins σ' H' s' /\ Q σ' H') X.xe s
def PGs (X:Cx) (ts:List Expr) (t:TGs):Prop:=
 ∀(pins:List (Addr × Obj)) (s:Shared) (σ:St) (H:Hp) (vs:List V) (us:List Value) (Q:St->Hp->Prop),Inv X pins σ H s->Vals vs us->t vs σ H Q →
  wpAny (model X.prog X.w) X.A (assignInOrder ((assignEach ts X.env).map (·.2)) us) (λ_ s'=>∃σ' H',Inv X pins σ' H' s' /\ Q σ' H') X.xe s
abbrev TSet:=V->V->V->Hp->(Hp->Prop)->Prop
def PSet (X:Cx) (t:TSet):Prop:=
 ∀(pins:List (Addr × Obj)) (s:Shared) (σ:St) (H:Hp) (o i v:V) (ov iv u:Value) (Q:Hp->Prop),Inv X pins σ H s->RelV o ov->RelV i iv->RelV v u->t o i v H Q →
  wpAny (model X.prog X.w) X.A (setItem ov iv u) (λ_ s'=>∃H',Inv X pins σ H' s' /\ Q H') X.xe s
section
variable {X:Cx}{pos:Pos}
def gName (i:Nat):TG:=λv σ H Q=>Q (σ.set i<|some v) H
theorem Zat {i:Nat}{x:Str}(hN:X.N.Nodup) (hi:X.N[i]?=some x) (hx:Loc X.env.scope x) (hf:X.fn x=true\/X.env.scope.names.lookup x=some .local:=by first|exact .inl rfl|exact .inr rfl|assumption):PG X (.Name x pos) (gName i):=by
 intro pins s σ H v u Q I r h;exact wpAny_assign_Name<|Zdi I hN hi hx r (λs' I'=>⟨_,H,I',h⟩) hf
def gNil:TGs:=λvs σ H Q=>vs=[]/\Q σ H
def gCons (t:TG) (u:TGs):TGs:=λvs σ H Q=>∃v r,vs=v::r/\t v σ H λσ' H'=>u r σ' H' Q
theorem Zct:PGs X [] gNil:=by
 intro pins s σ H vs us Q I r h;obtain⟨e,h⟩:=h;subst e;cases r;exact assignInOrder_nil ⟨σ,H,I,h⟩
theorem Za3 {e:Expr}{es:List Expr}{t:TG}{u:TGs}(h1:PG X e t) (h2:PGs X es u)
  (hs:(assignEach (e::es) X.env).map (·.2)=assign e X.env::(assignEach es X.env).map (·.2):=by rfl):PGs X (e::es) (gCons t u):=by
 intro pins s σ H vs us Q I r h;obtain⟨v,vr,e1,h⟩:=h;subst e1;cases r with
 |cons r rr=>
  rw[hs];refine assignInOrder_cons (thn (h1 pins s σ H _ _ _ I r h) λ_ s1 ⟨σ1,H1,I1,q1⟩=>?_);exact h2 pins s1 σ1 H1 _ _ Q I1 rr q1
def gTup (K:W.Frag) (n:Nat) (t:TGs):TG:=λv σ H Q=>∃a xs,v=.ref a/\SqT K H a xs/\xs.length=n/\t xs σ H Q
theorem Zs0 {es:List Expr}{k:Nat}{t:TGs}{n:Nat}(hc:X.calm=true) (h:PGs X es t)
  (hn:(assignEach es X.env).length=n:=by rfl) (hst:(assignEach es X.env).findIdx? (·.1)=none:=by rfl):PG X (.Tuple es k pos) (gTup X.K n t):=by
 intro pins s σ H v u Q I r hw;obtain⟨a,xs,e1,hq,hl,hw⟩:=hw;subst e1;cases r;obtain⟨its,rv,ht,hz⟩:=I.tuple hq;refine assign_Tuple_tuple (I.ok.hd hc) ht (by simp[hn,<- hl,rv.length]) hst λh' hx=>?_;have I1:Inv X pins σ H { s with heap:=h' }:=I.kept (t':=s.toks) λb o e=>hx b o (Wa4<|Wan e) e;exact h pins _ σ H xs _ Q I1 (by simpa using rv) hw
def gSub (to ti:TE) (t:TSet):TG:=λv σ H Q=>to σ H λo H1=>ti σ H1 λi H2=>t o i v H2 λH3=>Q σ H3
theorem Zkl {o i:Expr}{to ti:TE}{t:TSet}(ho:PE X o to) (hi:PE X i ti) (hs:PSet X t)
  (ha:∀v,assign (.Subscript o i pos) X.env v=(do
   let ov ← holding [v] (eval o X.env)
   let iv ← holding [v,ov] (eval i X.env)
   standAt pos
   holding [v,ov,iv] (setItem ov iv v)
   release [v,ov,iv] []):=by intro _;rfl):PG X (.Subscript o i pos) (gSub to ti t):=by
 intro pins s σ H v u Q I r h;rw[ha];refine wpAny_bind<|wpAny_holding (thn (ho pins s σ H _ I h) λov s1 ⟨x,H1,I1,r1,q1⟩=>?_);refine wpAny_bind<|wpAny_holding (thn (hi pins s1 σ H1 _ I1 q1) λiv s2 ⟨y,H2,I2,r2,q2⟩=>?_);refine wpAny_bind<|wpAny_standAt<|wpAny_bind<|wpAny_holding (thn (hs pins s2 σ H2 x y v ov iv u _ I2 r1 r2 r q2) λ_ s3 ⟨H3,I3,q3⟩=>?_);exact wpAny_release ⟨σ,H3,I3,q3⟩
def tAsg (te:TE) (g:TG):TS:=λD σ H=>te σ H λx H1=>g x σ H1 D.nx
theorem Zfo {tg e:Expr}{te:TE}{g:TG}(he:PE X e te) (hg:PG X tg g) (hs:swapsWithSole [tg] e pos.line X.env=pure false:=by rfl) (hw:swappedStores [tg] e X.env=pure none:=by rfl)
  (h1:(assignEach [tg] X.env).map (·.2)=[assign tg X.env]:=by rfl):PS X (.Assign [tg] e pos) (tAsg te g):=by
 intro pins s σ H D I h;refine wpAny_Assign_stores (thn (he pins s σ H _ I h) λv s1 ⟨x,H1,I1,r1,q1⟩=>?_) hs hw;rw[h1];exact thn (hg pins s1 σ H1 x v _ I1 r1 q1) λ_ s2 q=>q
theorem Zar {i:Nat}{x:Str}{e:Expr}{te:TE}{pos':Pos}(hN:X.N.Nodup) (hi:X.N[i]?=some x) (hx:Loc X.env.scope x) (he:PE X e te) (hs:swapsWith e (some (.Name x pos')) pos.line X.env=pure false:=by rfl) (hf:X.fn x=true\/X.env.scope.names.lookup x=some .local:=by first|exact .inl rfl|exact .inr rfl|assumption) :
  PS X (.Assign [.Name x pos'] e pos) (tAsg te<|gName i):=by
 intro pins s σ H D I h;refine wpAny_Assign_Name (thn (he pins s σ H _ I h) λv s1 ⟨y,H1,I1,r1,q1⟩=>?_) hs;exact Zdi I1 hN hi hx r1 (λs2 I2=>⟨_,H1,I2,q1⟩) hf
def tPar (i j:Nat) (ta:TA):TS:=λD σ H=>ta σ H λvs H1=>∃v w,vs=[v,w]/\D.nx ((σ.set i<|some v).set j (some w)) H1
theorem Zot {i j:Nat}{x y:Str}{a b:Expr}{ta:TA}{px py pt:Pos}{kt k2 pt2} (hc:X.calm=true) (hN:X.N.Nodup) (hi:X.N[i]?=some x) (hj:X.N[j]?=some y) (hij:i≠j)
  (hx:X.env.scope.names.lookup x=some .local) (hy:X.env.scope.names.lookup y=some .local) (ha:PA X [a,b] ta)
  (hw:swappedStores [.Tuple [.Name x px,.Name y py] kt pt] (.Tuple [a,b] k2 pt2) X.env=pure (some [x,y]))
  (hs:swapsWithSole [.Tuple [.Name x px,.Name y py] kt pt] (.Tuple [a,b] k2 pt2) pos.line X.env=pure false:=by rfl) :
  PS X (.Assign [.Tuple [.Name x px,.Name y py] kt pt] (.Tuple [a,b] k2 pt2) pos) (tPar i j ta):=by
 intro pins s σ H D I h;rw[exec_Assign_arm];refine wpAny_bind<|wpAny_standAt ?_;rw[hs];refine wpAny_bind<|wpAny_pure ?_;rw[if_neg (by decide)];refine wpAny_bind<|Tuple_ (thn (ha _ pins s σ H _ I h) λus s1 ⟨vs,H1,I1,r1,q1⟩=>?_);obtain⟨v,w,e1,q1⟩:=q1;subst e1;obtain⟨u1,u2,rfl,rv,rw'⟩:∃u1 u2,us=[u1,u2]/\RelV v u1/\RelV w u2:=by
  cases r1 with
  |cons p q=>
   cases q with
   |cons p' q'=>
    cases q';exact⟨_,_,rfl,p,p'⟩
 refine wpAny_newObj_type ?_ (by show 2<=sizeLine;decide);have I2:Inv X pins σ H1 { s1 with heap:=s1.heap.push { cls:=.type "tuple",data:=.seq [u1,u2].toArray } }:=I1.kept (t':=s1.toks) λb o e=>Waa _ e;rw[hw];refine wpAny_bind<|wpAny_pure ?_;show wpAny (model X.prog X.w) X.A (do rule "assign.swapped-stores";let items ← unpackItems (.ref s1.heap.objs.size) 2 none;assignInOrder [λv=>bindName X.env y v,λv=>bindName X.env x v] items.reverse;pure Flow.next) _ _ _;refine wpAny_bind<|wpAny_rule<|wpAny_bind (unpackItems_tuple (items:=#[u1,u2]) (I.ok.hd hc) (IsTup.new s1.heap _) λh' hx'=>?_);have I3:=I2.kept (h':=h') (t':=s1.toks) λb o e=>hx' b o (Wa4<|Wan e) e;show wpAny _ _ (assignInOrder [λv=>bindName X.env y v,λv=>bindName X.env x v] [u2,u1] >>= λ_=>pure Flow.next) _ _ _;refine wpAny_bind<|assignInOrder_cons<|wpAny_bindName<|Zdi I3 hN hj (.inl hy) rw' (λs2 I4=>?_) (.inr hy);refine assignInOrder_cons<|wpAny_bindName<|Zdi I4 hN hi (.inl hx) rv (λs3 I5=>assignInOrder_nil<|wpAny_pure ?_) (.inr hx);rw[List.set_comm _ _ (Ne.symm hij)]at I5;exact⟨_,H1,I5,q1⟩
end
structure It where
 go:Nat->Hp->Prop
 yld:Nat->Hp->V->Hp->Prop
 stop:Nat->Hp->Prop
def FpOk (X:Cx) (pins:List (Addr × Obj)) (H:Hp) (b:Addr):Prop:=
 H b=none/\b≠X.env.locals/\b ∉ X.fs/\(b∈X.ex\/X.s₀.heap.objs.size<=b)/\(∀x c,X.env.cells.lookup x=some c->c≠b)/\∀p∈X.pn++pins,p.1≠b
theorem Inv.fpOk {X:Cx}{pins:List (Addr × Obj)}{σ:St}{H H':Hp}{s:Shared}{b:Addr}(I:Inv X pins σ H s) (hb:s.heap.objs.size<=b) (hn:H' b=none):FpOk X pins H' b:=by
 refine⟨hn,Wb6<|Wa0 I.lt hb,I.nofs hb,.inr<|Was I.sz hb,λx c e z=>?_,λp hp z=>?_⟩
 ·obtain⟨v,q⟩:=I.cell x c e
  exact absurd (Wa0 q.lt (by rw[z];exact hb))<|Wcb _
 ·exact absurd (Wa0 (Wan (I.pin p hp).1) (by rw[z];exact hb))<|Wcb _
structure TurnG (Cm:Cx->Prop) (P:Program) (w:World) (K:W.Frag) (tg:Expr) (J:It) (fp:List Addr) (it:Addr) (tn:Nat->Heap->Prop):Prop where
 mem:it∈fp
 obj:∀i h,tn i h->∀b∈fp,∃o,h.get? b=some o/\∀v,o.data≠.cell v
 keep:∀i h h',tn i h->(∀b∈fp,∀o,h.get? b=some o->h'.get? b=some o)->tn i h'
 item:∀(X:Cx),X.prog=P->X.w=w->X.K=K->Cm X->∀(i:Nat) (pins:List (Addr × Obj)) (s:Shared) (σ:St) (H:Hp) (E:Value->Shared->Prop),Inv X pins σ H s->(∀b∈fp,FpOk X pins H b)->tn i s.heap->J.go i H →
  wpAny (model P w) X.A (pyNext (.ref it)) (λr s1=>∃u,r=some u ∧
   wpAny (model P w) X.A (letOwnedTupleGo tg (.ref it) u) (λ_ s2=>∃x H',Inv X pins σ H' s2/\RelV x u/\J.yld i H x H' /\ tn (i+1) s2.heap/\∀b∈fp,H' b=none) E s1) E s
 done:∀(X:Cx),X.prog=P->X.w=w->X.K=K->Cm X->∀(i:Nat) (pins:List (Addr × Obj)) (s:Shared) (σ:St) (H:Hp) (E:Value->Shared->Prop),Inv X pins σ H s->(∀b∈fp,FpOk X pins H b)->tn i s.heap->J.stop i H →
  wpAny (model P w) X.A (pyNext (.ref it)) (λr s1=>r=none/\Inv X pins σ H s1) E s
 self:∀(A:Around) (i:Nat) (s:Shared) (Q:Value->Shared->Prop) (E:Value->Shared->Prop),tn i s.heap->Q (.ref it) s->wpAny (model P w) A (pyIter (.ref it)) Q E s
abbrev Turn:=TurnG λX=>X.calm=true
abbrev TI:=St->Hp->(It->Hp->Prop)->Prop
def PIEG (Cm:Cx->Prop) (X:Cx) (pins:List (Addr × Obj)) (σ:St) (tg:Expr) (R:It->Hp->Prop) (itv:Value) (s2:Shared):Prop:=
 ∃(it:Addr) (fp:List Addr) (tn:Nat->Heap->Prop) (J:It) (H':Hp),itv=.ref it/\Inv X pins σ H' s2/\TurnG Cm X.prog X.w X.K tg J fp it tn/\tn 0 s2.heap/\(∀b∈fp,FpOk X pins H' b)/\R J H'
def PIG (Cm:Cx->Prop) (X:Cx) (tg iter:Expr) (wi:TI):Prop:=
 ∀(pins:List (Addr × Obj)) (s:Shared) (σ:St) (H:Hp) (R:It->Hp->Prop),Inv X pins σ H s->wi σ H R →
  wpAny (model X.prog X.w) X.A (eval iter X.env) (λv s1=>wpAny (model X.prog X.w) X.A (pyIter v) (PIEG Cm X pins σ tg R) X.xe s1) X.xe s
abbrev PIE:=PIEG λX=>X.calm=true
abbrev PI:=PIG λX=>X.calm=true
theorem Zkd {M:Model}{A:Around}{E:Value->Shared->Prop}{s:Shared}{tg:Expr}{it:Addr}{u:Value}{o:Obj}{n:String}{vs:Array Value}{Q:Unit->Shared->Prop}(ho:s.heap.get? it=some o) (hc:o.cls=.type n) (hd:o.data=.fields vs)
  (hn:["enumerate","zip","dict_itemiterator","dict_reverseitemiterator","odict_iterator","itertools.zip_longest","itertools.pairwise"].contains n=false) (hQ:Q () s):wpAny M A (letOwnedTupleGo tg (.ref it) u) Q E s:=by
 unfold letOwnedTupleGo;cases tg <;> first
  |exact wpAny_pure hQ
  | (cases u <;> first
      |exact wpAny_pure hQ
      | (refine wpAny_bind (wpAny_load ho ?_)
         rw[hc,hd];show wpAny M A (if (["enumerate","zip","dict_itemiterator","dict_reverseitemiterator","odict_iterator","itertools.zip_longest","itertools.pairwise"].contains n && vs[0]? == some (rawInt _))=true then _ else _) Q E s;rw[if_neg (by intro h;rw[hn,Bool.false_and]at h;cases h)];exact wpAny_pure hQ))
def Itl (K:W.Frag) (a:Addr):It:=
 ⟨λi H=>∃xs x,SqL K H a xs/\xs[i]?=some x,λi H x H'=>H'=H/\∀xs,SqL K H a xs->xs[i]?=some x,λi H=>∃xs,SqL K H a xs/\xs.length<=i⟩
def Itt (K:W.Frag) (a:Addr):It:=
 ⟨λi H=>∃xs x,SqT K H a xs/\xs[i]?=some x,λi H x H'=>H'=H/\∀xs,SqT K H a xs->xs[i]?=some x,λi H=>∃xs,SqT K H a xs/\xs.length<=i⟩
def Itr (lo:Int) (n:Nat):It:=⟨λi _=>i<n,λi H x H'=>H'=H/\x=.int (lo+i),λi _=>n<=i⟩
theorem Zj9 {P:Program}{w:World}{K:W.Frag}{tg:Expr}(a it:Addr):Turn P w K tg (Itl K a) [it] it (λi h=>h.IsListIter it a i) where
 mem:=by simp
 obj:=λi h st b hb=>by
  have e:b=it:=by simpa using hb
  subst e;obtain⟨o,e,c,d⟩:=st;exact⟨o,e,λv z=>by rw[d]at z;cases z⟩
 keep:=λi h h' st k=>st.at λo e=>k it (by simp) o e
 item:=by
  intro X hP hw hK hc i pins s σ H E I hf st hg;subst hP hw hK;obtain⟨xs,x,hq,hx⟩:=hg;obtain⟨its,rv,p,hz⟩:=I.list hq;obtain⟨u,hu,ru⟩:=rv.get hx;obtain⟨f0,f1,f2,f3,f4,f5⟩:=hf it (by simp);refine wpAny_pyNext_list_item st p.isList (x:=u) (by simpa using hu) λh' st' sb=>?_;have I1:Inv X pins σ H { s with heap:=h' }:=I.turned (t':=s.toks) (λb o hb e=>(sb.2 b hb).trans e) f0 f1 f3 f4 f5;obtain⟨o,e,c,d⟩:=id st';exact⟨u,rfl,Zkd (s:={ s with heap:=h' }) e c d (by decide) ⟨x,H,I1,ru,⟨rfl,λys hy=>by rw[I.list_inj hy hq];exact hx⟩,st',λb hb=>(hf b hb).1⟩⟩
 done:=by
  intro X hP hw hK hc i pins s σ H E I hf st hg;subst hP hw hK;obtain⟨xs,hq,hx⟩:=hg;obtain⟨its,rv,p,hz⟩:=I.list hq;obtain⟨f0,f1,f2,f3,f4,f5⟩:=hf it (by simp);have hl:=rv.length;exact wpAny_pyNext_list_end (I.ok.hd hc) st p.isList (by simp;omega) λh' eb=>⟨rfl,I.turned (t':=s.toks) (λb o hb e=>eb b o hb e) f0 f1 f3 f4 f5⟩
 self:=λ_ _ _ _ _ st h=>wpAny_pyIter_listiter st h
theorem Zjp {P:Program}{w:World}{K:W.Frag}{tg:Expr}(a it:Addr):Turn P w K tg (Itt K a) [it] it (λi h=>h.IsTupleIter it a i) where
 mem:=by simp
 obj:=λi h st b hb=>by
  have e:b=it:=by simpa using hb
  subst e;obtain⟨o,e,c,d⟩:=st;exact⟨o,e,λv z=>by rw[d]at z;cases z⟩
 keep:=λi h h' st k=>st.at λo e=>k it (by simp) o e
 item:=by
  intro X hP hw hK hc i pins s σ H E I hf st hg;subst hP hw hK;obtain⟨xs,x,hq,hx⟩:=hg;obtain⟨its,rv,p,hz⟩:=I.tuple hq;obtain⟨u,hu,ru⟩:=rv.get hx;obtain⟨f0,f1,f2,f3,f4,f5⟩:=hf it (by simp);refine wpAny_pyNext_tuple_item st (show s.heap.IsTuple a its.toArray from p) (x:=u) (by simpa using hu) λh' st' sb=>?_;have I1:Inv X pins σ H { s with heap:=h' }:=I.turned (t':=s.toks) (λb o hb e=>(sb.2 b hb).trans e) f0 f1 f3 f4 f5;obtain⟨o,e,c,d⟩:=id st';exact⟨u,rfl,Zkd (s:={ s with heap:=h' }) e c d (by decide) ⟨x,H,I1,ru,⟨rfl,λys hy=>by rw[I.tuple_inj hy hq];exact hx⟩,st',λb hb=>(hf b hb).1⟩⟩
 done:=by
  intro X hP hw hK hc i pins s σ H E I hf st hg;subst hP hw hK;obtain⟨xs,hq,hx⟩:=hg;obtain⟨its,rv,p,hz⟩:=I.tuple hq;obtain⟨f0,f1,f2,f3,f4,f5⟩:=hf it (by simp);have hl:=rv.length;exact wpAny_pyNext_tuple_end (I.ok.hd hc) st (show s.heap.IsTuple a its.toArray from p) (by simp;omega) λh' eb=>⟨rfl,I.turned (t':=s.toks) (λb o hb e=>eb b o hb e) f0 f1 f3 f4 f5⟩
 self:=λ_ _ _ _ _ st h=>wpAny_pyIter_tupleiter st h
theorem Zjt {P:Program}{w:World}{K:W.Frag}{tg:Expr}(it:Addr) (lo:Int) (n:Nat):Turn P w K tg (Itr lo n) [it] it (λi h=>IsRangeIter h it (lo+(i:Nat)*1) ((n:Int)-(i:Nat)) 1) where
 mem:=by simp
 obj:=λi h st b hb=>by
  have e:b=it:=by simpa using hb
  subst e;exact⟨_,st,λv z=>by
   have z':Data.fields _=Data.cell v:=z;cases z'⟩
 keep:=λi h h' st k=>k it (by simp) _ st
 item:=by
  intro X hP hw hK hc i pins s σ H E I hf st hg;subst hP hw hK;obtain⟨f0,f1,f2,f3,f4,f5⟩:=hf it (by simp);have W:=Walks.range (prog:=X.prog) (w:=X.w) (I.ok.hd hc) it lo 1 n;refine W.item i s _ _ hg st λv h' tk hv st' kk=>?_;obtain⟨t,rfl⟩:=hv;have I1:Inv X pins σ H { s with heap:=h',toks:=tk }:=I.turned (λb o hb e=>kk b o (by simpa using hb) e) f0 f1 f3 f4 f5;refine⟨_,rfl,Zkd (s:={ s with heap:=h',toks:=tk }) (n:="range_iterator") st' rfl rfl (by decide) ⟨.int<|lo+i,H,I1,⟨t,?_⟩,⟨rfl,rfl⟩,st',λb hb=>(hf b hb).1⟩⟩;rw[Int.mul_one]
 done:=by
  intro X hP hw hK hc i pins s σ H E I hf st hg;subst hP hw hK;obtain⟨f0,f1,f2,f3,f4,f5⟩:=hf it (by simp);exact wpAny_pyNext_range_end (I.ok.hd hc) st (by have:n<=i:=hg;omega) λh' eb=>⟨rfl,I.turned (t':=s.toks) (λb o hb e=>eb b o hb e) f0 f1 f3 f4 f5⟩
 self:=λ_ _ _ _ _ st h=>wpAny_pyIter_rangeiter st h
end L2
namespace L2
open PySem PySem.Spec PyProof.Rows
section
variable {X:Cx}{tg:Expr}
def iList (K:W.Frag) (tl:TE):TI:=λσ H R=>tl σ H λx H1=>∃a,x=.ref a/\(∃xs,SqL K H1 a xs)/\R (Itl K a) H1
def iTup (K:W.Frag) (tl:TE):TI:=λσ H R=>tl σ H λx H1=>∃a,x=.ref a/\(∃xs,SqT K H1 a xs)/\R (Itt K a) H1
theorem Zq9 {l:Expr}{tl:TE}(hl:PE X l tl):PI X tg l (iList X.K tl):=by
 intro pins s σ H R I h;refine thn (hl pins s σ H _ I h) λv s1 ⟨x,H1,I1,r1,q1⟩=>?_;obtain⟨a,e,⟨xs,hq⟩,q⟩:=q1;subst e;cases r1;obtain⟨its,rv,p,hz⟩:=I1.list hq;refine wpAny_pyIter_list p.isList ?_;refine⟨s1.heap.objs.size,[s1.heap.objs.size],_,_,H1,rfl,I1.kept (t':=s1.toks) λb o e=>Waa _ e,Zj9 a _,⟨_,Wag _ rfl,rfl,rfl⟩,λb hb=>?_,q⟩;have e:b=s1.heap.objs.size:=by simpa using hb
 subst e;exact I1.fpOk (Waf _)<|I1.hok.fresh<|Waf _
theorem Zs7 {l:Expr}{tl:TE}(hl:PE X l tl):PI X tg l (iTup X.K tl):=by
 intro pins s σ H R I h;refine thn (hl pins s σ H _ I h) λv s1 ⟨x,H1,I1,r1,q1⟩=>?_;obtain⟨a,e,⟨xs,hq⟩,q⟩:=q1;subst e;cases r1;obtain⟨its,rv,p,hz⟩:=I1.tuple hq;refine wpAny_pyIter_tuple (show s1.heap.IsTuple a its.toArray from p) ?_;refine⟨s1.heap.objs.size,[s1.heap.objs.size],_,_,H1,rfl,I1.kept (t':=s1.toks) λb o e=>Waa _ e,Zjp a _,⟨_,Wag _ rfl,rfl,rfl⟩,λb hb=>?_,q⟩;have e:b=s1.heap.objs.size:=by simpa using hb
 subst e;exact I1.fpOk (Waf _)<|I1.hok.fresh<|Waf _
theorem range_it {pins:List (Addr × Obj)}{σ:St}{H:Hp}{s:Shared}{R:It->Hp->Prop}{E:Value->Shared->Prop}{lo hi:Int}{t u v:Tok}{tk:Nat}(I:Inv X pins σ H s) (h1:-(2 ^ 62)<=lo) (h2:lo<2 ^ 62) (h3:-(2 ^ 62)<=hi) (h4:hi<2 ^ 62)
  (q:R (Itr lo (hi-lo).toNat) H):wpAny (model X.prog X.w) X.A (pyIter (.ref s.heap.objs.size)) (PIE X pins σ tg R) E { s with heap:=s.heap.push { cls:=.type "range",data:=.fields #[.int lo t,.int hi u,.int 1 v] },toks:=tk }:=by
 refine wpAny_pyIter_range (IsRange.new ..) (small_one h1 h2 h3 h4) ?_;have I1:Inv X pins σ H { s with heap:=s.heap.push { cls:=.type "range",data:=.fields #[.int lo t,.int hi u,.int 1 v] },toks:=tk }:=I.kept λb o e=>Waa _ e;refine⟨(s.heap.push { cls:=.type "range",data:=.fields #[.int lo t,.int hi u,.int 1 v] }).objs.size,[(s.heap.push { cls:=.type "range",data:=.fields #[.int lo t,.int hi u,.int 1 v] }).objs.size],_,_,H,rfl,
  I1.kept (t':=tk) λb o e=>Waa _ e,Zjt _ lo (hi-lo).toNat,?_,λb hb=>?_,q⟩
 ·have e1:lo+((0:Nat):Int)*1=lo:=by simp
  have e2:(((hi-lo).toNat:Nat):Int)-((0:Nat):Int)=Builtin.Range.rangeSize lo hi 1:=by rw[rangeSize_one];split <;> omega
  show IsRangeIter _ _ (lo+((0:Nat):Int)*1) ((((hi-lo).toNat:Nat):Int)-((0:Nat):Int)) 1;rw[e1,e2];exact Wag _ rfl
 ·have e:b=(s.heap.push { cls:=.type "range",data:=.fields #[.int lo t,.int hi u,.int 1 v] }).objs.size:=by simpa using hb
  subst e;exact I1.fpOk (Waf _)<|I1.hok.fresh<|Waf _
def iRng1 (ta:TA):TI:=λσ H R=>ta σ H λvs H1=>∃j:Int,vs=[.int j] /\ -(2 ^ 62)<=j/\j<2 ^ 62/\R (Itr 0 j.toNat) H1
theorem Zb4 {a:Expr}{ta:TA}{p pos:Pos}(hg:Gl X "range") (hm:X.mg "range" = none) (ha:PA X [a] ta) (hs:starEach [a] X.env=[(false,eval a X.env)]:=by rfl):PI X tg (.Call (.Name "range" p) [a] [] pos) (iRng1 ta):=by
 intro pins s σ H R I h;refine Call_<|Zd2 I hg hm boot_range<|PyProof.Rows.callWith_type1 (thn (ha pos pins s σ H _ I h) λus s1 ⟨vs,H1,I1,r1,q1⟩=>?_) hs rfl;obtain⟨j,e,q1,q2,q⟩:=q1;subst e;cases r1 with
 |cons r rr=>
  cases rr;obtain⟨t,rfl⟩:=r;exact call_range_1<|range_it I1 (by omega) (by omega) q1 q2 (by simpa using q)
def tFor (wi:TI) (g:TG) (tb:TS):TS:=λD σ H=>wi σ H λJ H1=>∃W:Nat->Nat->St->Hp->Prop,(∃m,W 0 m σ H1)/\∀i m σ H,W i m σ H →
 (J.stop i H/\D.nx σ H)\/(J.go i H/\∃N:St->Hp->Prop,(∀σ' H',N σ' H' -> ∃m',m'<m/\W (i+1) m' σ' H')/\∀x H',J.yld i H x H' -> g x σ H' λσ2 H2=>tb { D with nx:=N,ct:=N,bk:=D.nx } σ2 H2)
def pinsAt (fp:List Addr) (h:Heap):List (Addr × Obj):=fp.filterMap λb=>(h.get? b).map λo=>(b,o)
theorem Zc3 {fp:List Addr}{h:Heap}{b:Addr}{o:Obj}(hb:b∈fp) (e:h.get? b=some o):(b,o)∈pinsAt fp h:=List.mem_filterMap.mpr ⟨b,hb,by rw[e];rfl⟩
theorem Zkg {fp:List Addr}{h:Heap}{p:Addr × Obj}(hp:p∈pinsAt fp h):p.1∈fp/\h.get? p.1=some p.2:=by
 obtain⟨b,hb,e⟩:=List.mem_filterMap.mp hp;cases q:h.get? b with
 |none=>rw[q]at e;cases e
 |some o=>
  rw[q]at e;have e':(b,o)=p:=Wat.inj e;subst e';exact⟨hb,q⟩
theorem Inv.pinned {pins:List (Addr × Obj)}{σ:St}{H:Hp}{s:Shared}{fp:List Addr}(I:Inv X pins σ H s) (hf:∀b∈fp,FpOk X pins H b) (ho:∀b∈fp,∃o,s.heap.get? b=some o/\∀v,o.data≠.cell v):Inv X (pins++pinsAt fp s.heap) σ H s:=
 I.pins_of λp hp=>(Wa7.mp hp).elim (λz=>I.pin p<|Wa3 _ z) λz=>by
  obtain⟨hb,e⟩:=Zkg z;obtain⟨f0,f1,f2,_⟩:=hf p.1 hb;obtain⟨o,e',d⟩:=ho p.1 hb;rw[e]at e';cases e';exact⟨e,f0,f1,f2,d⟩
theorem Inv.unpinned {pins pl:List (Addr × Obj)}{σ:St}{H:Hp}{s:Shared}(I:Inv X (pins++pl) σ H s):Inv X pins σ H s:=I.pins_of λp hp=>I.pin p<|Wa3 _<|Wbv _ hp
theorem Zd7 {iter:Expr}{body:List Stmt}{wi:TI}{g:TG}{tb:TS}{pos:Pos}(hp:PassesOwn (model X.prog X.w) X.A X.env X.xe) (hc:X.calm=true) (hi:PI X tg iter wi) (hg:PG X tg g) (hb:PSs X body tb)
  (hs:∀x,foldedSetIterable iter X.env x=pure x:=by intro _;rfl):PS X (.For tg iter body [] pos) (tFor wi g tb):=by
 intro pins s σ H D I h;refine wpAny_For (thn (hi pins s σ H _ I h) λv s1 h1=>thn h1 λitv s2 h2=>?_) hs;obtain⟨it,fp,tn,J,H2,e,I2,T,st2,f2,W,⟨m0,w0⟩,turn⟩:=h2;subst e
 -- what stays true of the iterator's objects through the loop
 have stat:∀{H':Hp},(∀b∈fp,H' b=none)->∀b∈fp,FpOk X pins H' b:=λhn b hb=>⟨hn b hb,(f2 b hb).2⟩;refine codeAny_forLoop_any (λn s'=>∃i σ' H',Inv X pins σ' H' s' /\ tn i s'.heap/\(∀b∈fp,H' b=none)/\W i n σ' H') ?_ m0 ⟨0,σ,H2,I2,st2,λb hb=>(f2 b hb).1,w0⟩;rintro n s3 ⟨i,σ3,H3,I3,st3,fr3,w3⟩;rcases turn i n σ3 H3 w3 with ⟨stop,qn⟩|⟨go,N,hN,step⟩
 ·refine wpAny_passesOwn hp (thn (T.done X rfl rfl rfl hc i pins s3 σ3 H3 X.xe I3 (stat fr3) st3 stop) λr s4 ⟨hr,I4⟩=>?_)
  subst hr;exact wpAny_execs_nil ⟨σ3,H3,I4,qn⟩
 ·refine wpAny_passesOwn hp (thn (T.item X rfl rfl rfl hc i pins s3 σ3 H3 X.xe I3 (stat fr3) st3 go) λr s4 ⟨u,hr,h4⟩=>?_)
  subst hr;refine wpAny_passesOwn hp (thn h4 λ_ s5 ⟨x,H5,I5,r5,y5,st5,fr5⟩=>?_);have I5':=I5.pinned (stat fr5)<|T.obj _ _ st5;refine wpAny_passesOwn hp (thn (hg _ s5 σ3 H5 x u _ I5' r5<|step x H5 y5) λ_ s6 ⟨σ6,H6,I6,q6⟩=>?_);refine wpAny_passesOwn hp (thn (hb _ s6 σ6 H6 _ I6 q6) λf s7 q7=>?_);have again:∀{σ7:St}{H7:Hp},Inv X (pins++pinsAt fp s5.heap) σ7 H7 s7->N σ7 H7->∃m,m<n/\∃i σ' H',Inv X pins σ' H' s7/\tn i s7.heap/\(∀b∈fp,H' b=none)/\W i m σ' H':=λ{σ7 H7} I7 n7=>by
   obtain⟨m',hm,w7⟩:=hN σ7 H7 n7;refine⟨m',hm,i+1,σ7,H7,I7.unpinned,T.keep _ _ _ st5 λb hb o e=>(I7.pin (b,o)<|Wa3 _<|Wa3 _<|Zc3 hb e).1,λb hb=>?_,w7⟩;obtain⟨o,e,d⟩:=T.obj _ _ st5 b hb;exact(I7.pin (b,o)<|Wa3 _<|Wa3 _<|Zc3 hb e).2.1
  cases f with
  |next=>obtain⟨σ7,H7,I7,n7⟩:=q7;exact again I7 n7
  |cont=>obtain⟨σ7,H7,I7,n7⟩:=q7;exact again I7 n7
  |brk=>obtain⟨σ7,H7,I7,q7⟩:=q7;exact⟨σ7,H7,I7.unpinned,q7⟩
  |ret v=>obtain⟨x7,σ7,H7,I7,r7,q7⟩:=q7;exact⟨x7,σ7,H7,I7.unpinned,r7,q7⟩
end
end L2
namespace L2
open PySem PySem.Spec PyProof.Rows
abbrev R2:=V->V->Hp->VK->Prop
def OpR (X:Cx) (f:Value->Value->Sem Value) (r:R2):Prop:=
 ∀(pins:List (Addr × Obj)) (s:Shared) (σ:St) (H:Hp) (x y:V) (v u:Value) (Q:VK),Inv X pins σ H s->RelV x v->RelV y u->r x y H Q →
  wpAny (model X.prog X.w) X.A (f v u) (EP X pins σ Q) X.xe s
def UnR (X:Cx) (f:Value->Sem Value) (r:V->Hp->VK->Prop):Prop:=
 ∀(pins:List (Addr × Obj)) (s:Shared) (σ:St) (H:Hp) (x:V) (v:Value) (Q:VK),Inv X pins σ H s->RelV x v->r x H Q →
  wpAny (model X.prog X.w) X.A (f v) (EP X pins σ Q) X.xe s
def CallR (X:Cx) (f:Value) (r:List V->Hp->VK->Prop):Prop:=
 ∀(pins:List (Addr × Obj)) (s:Shared) (σ:St) (H:Hp) (xs:List V) (us:List Value) (Q:VK),Inv X pins σ H s->Vals xs us->r xs H Q →
  wpAny (model X.prog X.w) X.A (call f us) (EP X pins σ Q) X.xe s
def TruR (X:Cx) (r:V->Hp->(Bool->Hp->Prop)->Prop):Prop:=
 ∀(pins:List (Addr × Obj)) (s:Shared) (σ:St) (H:Hp) (x:V) (v:Value) (Q:Bool->Hp->Prop),Inv X pins σ H s->RelV x v->r x H Q →
  wpAny (model X.prog X.w) X.A (truthy v) (TP X pins σ Q) X.xe s
def tOp (r:R2) (ta tb:TE):TE:=λσ H Q=>ta σ H λx H1=>tb σ H1 λy H2=>r x y H2 Q
def tUn (r:V->Hp->VK->Prop) (ta:TE):TE:=λσ H Q=>ta σ H λx H1=>r x H1 Q
def rI (C:Int->Int->Prop) (g:Int->Int->V):R2:=λx y H Q=>∃i j,x=.int i/\y=.int j/\C i j/\Q (g i j) H
def rI0 (g:Int->Int->V):R2:=λx y H Q=>∃i j,x=.int i/\y=.int j/\Q (g i j) H
def rU (g:Int->V):V->Hp->VK->Prop:=λx H Q=>∃i,x=.int i/\Q (g i) H
section
variable {X:Cx}{a b c:Expr}{ta tb tc:TE}{pos:Pos}
theorem binT (ha:PE X a ta) (hb:PE X b tb) {pins:List (Addr × Obj)}{s:Shared}{σ:St}{H:Hp}{R:V->V->Hp->Prop}(I:Inv X pins σ H s)
  (h:ta σ H λx H1=>tb σ H1 λy H2=>R x y H2) {Q:Value->Shared->Prop}{f:Value->Value->Sem Value}
  (hf:∀v u s2 x y H2,Inv X pins σ H2 s2->RelV x v->RelV y u->R x y H2->wpAny (model X.prog X.w) X.A (f v u) Q X.xe s2) :
  wpAny (model X.prog X.w) X.A (eval a X.env) (λv s₁=>wpAny (model X.prog X.w) X.A (eval b X.env) (λu s₂=>wpAny (model X.prog X.w) X.A (f v u) Q X.xe s₂) X.xe s₁) X.xe s:=by
 refine thn (ha pins s σ H _ I h) λv s1 ⟨x,H1,I1,r1,q1⟩=>?_;refine thn (hb pins s1 σ H1 _ I1 q1) λu s2 ⟨y,H2,I2,r2,q2⟩=>?_;exact hf v u s2 x y H2 I2 r1 r2 q2
theorem Zas {op:Operator}{r:R2}(ho:OpR X (binaryOp op) r) (ha:PE X a ta) (hb:PE X b tb):PE X (.BinOp a op b pos) (tOp r ta tb):=by
 intro pins s σ H Q I h;exact wpAny_BinOp (binT ha hb I h λv u s2 x y H2 I2 rx ry q=>ho pins s2 σ H2 x y v u Q I2 rx ry q)
theorem Ztn {op:UnaryOp}{r:V->Hp->VK->Prop}(ho:UnR X (unaryOp op) r) (ha:PE X a ta):PE X (.UnaryOp op a pos) (tUn r ta):=by
 intro pins s σ H Q I h;exact UnaryOp_ (thn (ha pins s σ H _ I h) λv s1 ⟨x,H1,I1,r1,q1⟩=>ho pins s1 σ H1 x v Q I1 r1 q1)
theorem opI {f:Value->Value->Sem Value}{C:Int->Int->Prop}{g:Int->Int->Int}
  (rule:∀(i j:Int) (t u:Tok) (s:Shared) (Q:Value->Shared->Prop) (E:Value->Shared->Prop),C i j->Q (.int (g i j) s.toks) { s with toks:=s.toks+1 } -> wpAny (model X.prog X.w) X.A (f (.int i t) (.int j u)) Q E s) :
  OpR X f (rI C λi j=>.int<|g i j):=by
 intro pins s σ H x y v u Q I rx ry h;obtain⟨i,j,rfl,rfl,hc,q⟩:=h;obtain⟨t,rfl⟩:=rx;obtain⟨t',rfl⟩:=ry;exact rule i j t t' s _ _ hc ⟨.int<|g i j,H,I.tok _,⟨_,rfl⟩,q⟩
theorem opI0 {f:Value->Value->Sem Value}{g:Int->Int->Int}
  (rule:∀(i j:Int) (t u:Tok) (s:Shared) (Q:Value->Shared->Prop) (E:Value->Shared->Prop),Q (.int (g i j) s.toks) { s with toks:=s.toks+1 } -> wpAny (model X.prog X.w) X.A (f (.int i t) (.int j u)) Q E s) :
  OpR X f (rI0 λi j=>.int<|g i j):=by
 intro pins s σ H x y v u Q I rx ry h;obtain⟨i,j,rfl,rfl,q⟩:=h;obtain⟨t,rfl⟩:=rx;obtain⟨t',rfl⟩:=ry;exact rule i j t t' s _ _ ⟨.int<|g i j,H,I.tok _,⟨_,rfl⟩,q⟩
theorem opB0 {f:Value->Value->Sem Value}{g:Int->Int->Bool}
  (rule:∀(i j:Int) (t u:Tok) (s:Shared) (Q:Value->Shared->Prop) (E:Value->Shared->Prop),Q (.bool<|g i j) s->wpAny (model X.prog X.w) X.A (f (.int i t) (.int j u)) Q E s) :
  OpR X f (rI0 λi j=>.bl<|g i j):=by
 intro pins s σ H x y v u Q I rx ry h;obtain⟨i,j,rfl,rfl,q⟩:=h;obtain⟨t,rfl⟩:=rx;obtain⟨t',rfl⟩:=ry;exact rule i j t t' s _ _ ⟨.bl<|g i j,H,I,rfl,q⟩
def CDiv (i j:Int):Prop:=0<j/\j<1073741824
def CPow (i j:Int):Prop:=0<=j/\j<=1000000/\i.natAbs<2 ^ 64
def CMul (i j:Int):Prop:=(-(2 ^ 64)<i/\i<2 ^ 64)\/(-(2 ^ 64)<j/\j<2 ^ 64)
theorem CMul.ok {i j:Int}(h:CMul i j):IntMulOk i j:=by
 rcases h with ⟨h1,h2⟩|⟨h1,h2⟩
 ·exact .of_left<|intBits_le_64 h1 h2
 ·exact .of_right<|intBits_le_64 h1 h2
theorem Zrs:OpR X (binaryOp .Add) (rI0 λi j=>.int<|i+j):=opI0 λ_ _ _ _ _ _ _ q=>add_int q
theorem Zit:OpR X (binaryOp .Sub) (rI0 λi j=>.int<|i-j):=opI0 λ_ _ _ _ _ _ _ q=>sub_int q
theorem Zd6:OpR X (binaryOp .Mult) (rI CMul λi j=>.int<|i*j):=opI λ_ _ _ _ _ _ _ hc q=>mul_int q hc.ok
theorem Zin:OpR X (binaryOp .FloorDiv) (rI CDiv λi j=>.int<|i / j):=opI λi j _ _ _ _ _ hc q=>by
 have h1:(0:Int)<j:=hc.1;have h2:j<1073741824:=hc.2;exact floordiv_int (by omega) (by rw[Int.fdiv_eq_ediv_of_nonneg i (by omega)];exact q) (.inl<|PyProof.noPylong_small (by omega))
theorem Zch:OpR X (binaryOp .Mod) (rI (λ_ j=>0<j) λi j=>.int<|i % j):=opI λi j _ _ _ _ _ hc q=>by
 have h1:(0:Int)<j:=hc;exact mod_int' (by omega) (by rw[Int.fmod_eq_emod_of_nonneg i (by omega)];exact q)
theorem Zo8:OpR X (binaryOp .Pow) (rI CPow λi j=>.int<|i ^ j.toNat):=opI λ_ _ _ _ _ _ _ hc q=>pow_int_small hc.1 hc.2.1 hc.2.2 q
theorem unI {f:Value->Sem Value}{g:Int->Int}
  (rule:∀(i:Int) (t:Tok) (s:Shared) (Q:Value->Shared->Prop) (E:Value->Shared->Prop),Q (.int (g i) s.toks) { s with toks:=s.toks+1 } -> wpAny (model X.prog X.w) X.A (f (.int i t)) Q E s) :
  UnR X f (rU λi=>.int<|g i):=by
 intro pins s σ H x v Q I rx h;obtain⟨i,rfl,q⟩:=h;obtain⟨t,rfl⟩:=rx;exact rule i t s _ _ ⟨.int<|g i,H,I.tok _,⟨_,rfl⟩,q⟩
theorem Zth:UnR X (unaryOp .USub) (rU λi=>.int (-i)):=unI λ_ _ _ _ _ q=>neg_int q
end
def scal:V->V->Bool
 |.non,.non=>true|.non,.int _=>true|.int _,.non=>true|.non,.bl _=>true|.bl _,.non=>true|.non,.str _=>true|.str _,.non=>true
 |.int _,.int _=>true|.bl _,.bl _=>true|.str _,.str _=>true|.byt _,.byt _=>true
 |.int _,.str _=>true|.str _,.int _=>true|.bl _,.str _=>true|.str _,.bl _=>true
 |_,_=>false
def rEq:R2:=λx y H Q=>scal x y=true/\Q (.bl<|decide (x=y)) H
def rNe:R2:=λx y H Q=>scal x y=true/\Q (.bl (!decide (x=y))) H
theorem Zga {i j:Int}:decide (V.int i=V.int j)=(i == j):=by
 rw[Wcn];simp
theorem Zpa {i j:Bool}:decide (V.bl i=V.bl j)=(i == j):=by
 rw[Wcn];simp
theorem Zl2 {i j:Str}:decide (V.str i=V.str j)=(i == j):=by
 rw[Wcn];simp
theorem Zk2 {i j:Array UInt8}:decide (V.byt i=V.byt j)=(i.toList == j.toList):=by
 rw[Wcn];cases i;cases j;simp
section
variable {X:Cx}{a b c:Expr}{ta tb tc:TE}{pos:Pos}
theorem Za2 {pins:List (Addr × Obj)}{σ:St}{H:Hp}{s:Shared}{Q:VK}{k k':Bool}(I:Inv X pins σ H s) (q:Q (.bl k) H) (e:k=k'):EP X pins σ Q (.bool k') s:=by
 subst e;exact⟨.bl k,H,I,rfl,q⟩
theorem Zt0:OpR X (compareOp .Eq) rEq:=by
 intro pins s σ H x y v u Q I rx ry h;obtain⟨hs,q⟩:=h;cases x with
 |non=>
  cases rx;cases y with
  |non=>cases ry;exact PySem.EqNone.eq_none_none (Za2 I q (by simp))
  |bl j=>cases ry;exact PySem.EqNone.eq_none_bool (Za2 I q (by simp))
  |int j=>obtain⟨t',rfl⟩:=ry;exact PySem.EqNone.eq_none_int (Za2 I q (by simp))
  |str j=>obtain⟨t',rfl⟩:=ry;exact PySem.EqNone.eq_none_str (Za2 I q (by simp))
  |_=>exact absurd (show false=true from hs) Wai
 |bl i=>
  cases rx;cases y with
  |non=>cases ry;exact PySem.EqNone.eq_bool_none (Za2 I q (by simp))
  |bl j=>cases ry;exact eq_bool (Za2 I q Zpa)
  |str j=>obtain⟨t',rfl⟩:=ry;exact PySem.EqMixed.eq_bool_str (Za2 I q (by simp))
  |_=>exact absurd (show false=true from hs) Wai
 |int i=>
  obtain⟨t,rfl⟩:=rx;cases y with
  |non=>cases ry;exact PySem.EqNone.eq_int_none (Za2 I q (by simp))
  |int j=>obtain⟨t',rfl⟩:=ry;exact eq_int (Za2 I q Zga)
  |str j=>obtain⟨t',rfl⟩:=ry;exact PySem.EqMixed.eq_int_str (Za2 I q (by simp))
  |_=>exact absurd (show false=true from hs) Wai
 |str i=>
  obtain⟨t,rfl⟩:=rx;cases y with
  |non=>cases ry;exact PySem.EqNone.eq_str_none (Za2 I q (by simp))
  |bl j=>cases ry;exact PySem.EqMixed.eq_str_bool (Za2 I q (by simp))
  |int j=>obtain⟨t',rfl⟩:=ry;exact PySem.EqMixed.eq_str_int (Za2 I q (by simp))
  |str j=>obtain⟨t',rfl⟩:=ry;exact eq_str (Za2 I q Zl2)
  |_=>exact absurd (show false=true from hs) Wai
 |byt i=>
  obtain⟨t,rfl⟩:=rx;cases y with
  |byt j=>obtain⟨t',rfl⟩:=ry;exact PySem.W.eq_bytes (Za2 I q Zk2)
  |_=>exact absurd (show false=true from hs) Wai
 |_=>cases y <;> exact absurd (show false=true from hs) Wai
theorem Ztw:OpR X (compareOp .NotEq) rNe:=by
 intro pins s σ H x y v u Q I rx ry h;obtain⟨hs,q⟩:=h;cases x with
 |non=>
  cases rx;cases y with
  |non=>cases ry;exact PySem.EqNone.ne_none_none (Za2 I q (by simp))
  |bl j=>cases ry;exact PySem.EqNone.ne_none_bool (Za2 I q (by simp))
  |int j=>obtain⟨t',rfl⟩:=ry;exact PySem.EqNone.ne_none_int (Za2 I q (by simp))
  |str j=>obtain⟨t',rfl⟩:=ry;exact PySem.EqNone.ne_none_str (Za2 I q (by simp))
  |_=>exact absurd (show false=true from hs) Wai
 |bl i=>
  cases rx;cases y with
  |non=>cases ry;exact PySem.EqNone.ne_bool_none (Za2 I q (by simp))
  |bl j=>cases ry;exact ne_bool (Za2 I q (congrArg not Zpa))
  |str j=>obtain⟨t',rfl⟩:=ry;exact PySem.EqMixed.ne_bool_str (Za2 I q (by simp))
  |_=>exact absurd (show false=true from hs) Wai
 |int i=>
  obtain⟨t,rfl⟩:=rx;cases y with
  |non=>cases ry;exact PySem.EqNone.ne_int_none (Za2 I q (by simp))
  |int j=>obtain⟨t',rfl⟩:=ry;exact ne_int (Za2 I q (congrArg not Zga))
  |str j=>obtain⟨t',rfl⟩:=ry;exact PySem.EqMixed.ne_int_str (Za2 I q (by simp))
  |_=>exact absurd (show false=true from hs) Wai
 |str i=>
  obtain⟨t,rfl⟩:=rx;cases y with
  |non=>cases ry;exact PySem.EqNone.ne_str_none (Za2 I q (by simp))
  |bl j=>cases ry;exact PySem.EqMixed.ne_str_bool (Za2 I q (by simp))
  |int j=>obtain⟨t',rfl⟩:=ry;exact PySem.EqMixed.ne_str_int (Za2 I q (by simp))
  |str j=>obtain⟨t',rfl⟩:=ry;exact ne_str (Za2 I q (congrArg not Zl2))
  |_=>exact absurd (show false=true from hs) Wai
 |byt i=>
  obtain⟨t,rfl⟩:=rx;cases y with
  |byt j=>obtain⟨t',rfl⟩:=ry;exact PySem.W.ne_bytes (Za2 I q (congrArg not Zk2))
  |_=>exact absurd (show false=true from hs) Wai
 |_=>cases y <;> exact absurd (show false=true from hs) Wai
theorem Zm9:OpR X (compareOp .Lt) (rI0 λi j=>.bl<|decide (i<j)):=opB0 λ_ _ _ _ _ _ _ q=>lt_int q
theorem Zli:OpR X (compareOp .LtE) (rI0 λi j=>.bl<|decide (i<=j)):=opB0 λ_ _ _ _ _ _ _ q=>le_int q
theorem Zm3:OpR X (compareOp .Gt) (rI0 λi j=>.bl<|decide (j<i)):=opB0 λ_ _ _ _ _ _ _ q=>gt_int q
theorem Ztq:OpR X (compareOp .GtE) (rI0 λi j=>.bl<|decide (j<=i)):=opB0 λ_ _ _ _ _ _ _ q=>ge_int q
theorem Zl8:OpR X (compareOp .In) (λx y H Q=>∃i j,x=.str i/\y=.str j/\Q (.bl (!(Builtin.Str.occurrences j i 0 j.length 1).isEmpty)) H):=by
 intro pins s σ H x y v u Q I rx ry h;obtain⟨i,j,rfl,rfl,q⟩:=h;obtain⟨t,rfl⟩:=rx;obtain⟨t',rfl⟩:=ry;exact in_str<|Za2 I q rfl
theorem Zlp:OpR X (compareOp .Is) (λx y H Q=>y=.non/\Q (.bl<|decide (x=.non)) H):=by
 intro pins s σ H x y v u Q I rx ry h;obtain⟨rfl,q⟩:=h;cases ry;refine is_none_gen<|Za2 I q ?_;cases x <;> first
  | (cases rx;rfl)
  | (obtain⟨t,rfl⟩:=rx;rfl)
theorem OpR.or {f:Value->Value->Sem Value}{r r':R2}(h:OpR X f r) (h':OpR X f r'):OpR X f (λx y H Q=>r x y H Q\/r' x y H Q):=by
 intro pins s σ H x y v u Q I rx ry q;rcases q with q|q
 ·exact h pins s σ H x y v u Q I rx ry q
 ·exact h' pins s σ H x y v u Q I rx ry q
theorem nomark (b:Expr) {op:CmpOp}(h:op≠.In:=by decide) (h2:op≠.NotIn:=by decide):behindInMarks op b=false:=by
 have e1:(op == CmpOp.In)=false:=by cases op <;> first|rfl|exact absurd rfl h
 have e2:(op == CmpOp.NotIn)=false:=by cases op <;> first|rfl|exact absurd rfl h2
 cases b <;> simp[behindInMarks,e1,e2]
theorem Zdx {op:CmpOp}{r:R2}(ho:OpR X (compareOp op) r) (ha:PE X a ta) (hb:PE X b tb) (hm:behindInMarks op b=false):PE X (.Compare a [op] [b] pos) (tOp r ta tb):=by
 intro pins s σ H Q I h;exact wpAny_Compare1 (binT ha hb I h λv u s2 x y H2 I2 rx ry q=>ho pins s2 σ H2 x y v u Q I2 rx ry q) hm
def tTest (t:TE):TT:=λσ H Q=>t σ H λx H'=>∃k,x=.bl k/\Q k H'
theorem Zau {op:CmpOp}{r:R2}(ho:OpR X (compareOp op) r) (ha:PE X a ta) (hb:PE X b tb) (hm:behindInMarks op b=false):PT X (.Compare a [op] [b] pos) (tTest<|tOp r ta tb):=by
 intro pins s σ H Q I h;refine wpAny_isTrue_Compare1 (thn (ha pins s σ H _ I h) λv s1 ⟨x,H1,I1,r1,q1⟩=>thn (hb pins s1 σ H1 _ I1 q1) λu s2 ⟨y,H2,I2,r2,q2⟩=>
  thn (ho pins s2 σ H2 x y v u _ I2 r1 r2 q2) λc s3 ⟨z,H3,I3,r3,k,e,q3⟩=>?_) hm
 subst e;cases r3;exact wpAny_truthy_bool ⟨H3,I3,q3⟩
def tChain (r r':R2) (ta tb tc:TE):TE:=λσ H Q=>ta σ H λx H1=>tb σ H1 λy H2=>r x y H2 λz H3=>∃k,z=.bl k ∧
 (if k=true then tc σ H3 λw' H4=>r' y w' H4 Q else Q (.bl false) H3)
theorem Zf7 {op op':CmpOp}{r r':R2}(ho:OpR X (compareOp op) r) (ho':OpR X (compareOp op') r') (ha:PE X a ta) (hb:PE X b tb) (hc:PE X c tc)
  (hm:lastMarks [op,op'] [b,c]=false:=by with_unfolding_all rfl):PT X (.Compare a [op,op'] [b,c] pos) (tTest<|tChain r r' ta tb tc):=by
 intro pins s σ H Q I h;refine isTrue_chain (thn (ha pins s σ H _ I h) λv s1 ⟨x,H1,I1,r1,q1⟩=>test_link (thn (hb pins s1 σ H1 _ I1 q1) λu s2 ⟨y,H2,I2,r2,q2⟩=>
  thn (ho pins s2 σ H2 x y v u _ I2 r1 r2 q2) λd s3 ⟨z,H3,I3,r3,k,e,q3⟩=>?_)) hm
 subst e;cases r3;refine wpAny_truthy_bool ?_;cases k with
 |false=>
  obtain⟨k',e',q'⟩:=q3;cases e';exact ite_ff ⟨H3,I3,q'⟩
 |true=>
  refine ite_tt<|test_last (thn (hc pins s3 σ H3 _ I3 q3) λw' s4 ⟨z',H4,I4,r4,q4⟩=>thn (ho' pins s4 σ H4 y z' u w' _ I4 r2 r4 q4) λd' s5 ⟨z2,H5,I5,r5,k2,e2,q5⟩=>?_);subst e2;cases r5;exact wpAny_truthy_bool ⟨H5,I5,q5⟩
def TruV (K:W.Frag) (x:V) (H:Hp) (k:Bool):Prop:=
 match x with
 |.non=>k=false
 |.bl b=>k=b
 |.int i=>k=(i != 0)
 |.str y=>y.length<=sizeLine/\k=((y.length:Int) != 0)
 |.byt y=>y.size<=sizeLine/\k=((y.size:Int) != 0)
 |.ref p=>(∃xs,SqL K H p xs/\k = !xs.isEmpty)\/(∃xs,SqT K H p xs/\k = !xs.isEmpty)\/∃kvs,H p=some (.dK kvs)/\k = !kvs.isEmpty
 |_=>False
theorem Zjq {κ:Type}{kvs:List (κ × V)}{vs:List (κ × Value)}(r:KV kvs vs):(!vs.isEmpty) = !kvs.isEmpty:=by
 cases r <;> rfl
theorem Zfj {xs:List V}{its:List Value}(r:Vals xs its):(!its.toArray.isEmpty) = !xs.isEmpty:=by
 cases r <;> simp
theorem line63:(sizeLine:Nat)<2 ^ 63:=by rw[sizeLine_eq];decide
theorem Zr6:TruR X (λx H Q=>∃k,TruV X.K x H k/\Q k H):=by
 intro pins s σ H x v Q I rx h;obtain⟨k,e,q⟩:=h;have hl:=line63;have hs:sizeLine=16777216:=sizeLine_eq;cases x with
 |non=>
  cases rx;have e':k=false:=e;subst e';exact truthy_none ⟨H,I,q⟩
 |bl b=>
  cases rx;have e':k=b:=e;subst e';exact wpAny_truthy_bool ⟨H,I,q⟩
 |int i=>
  obtain⟨t,rfl⟩:=rx;have e':k=(i != 0):=e;subst e';exact PySem.P.truthy_int ⟨H,I,q⟩
 |str y=>
  obtain⟨t,rfl⟩:=rx;obtain⟨hy,e'⟩:y.length<=sizeLine/\k=((y.length:Int) != 0):=e;subst e';exact PySem.P.truthy_str (by omega) ⟨H,I.tok _,q⟩
 |byt y=>
  obtain⟨t,rfl⟩:=rx;obtain⟨hy,e'⟩:y.size<=sizeLine/\k=((y.size:Int) != 0):=e;subst e';exact PySem.W.truthy_bytes (by omega) ⟨H,I.tok _,q⟩
 |ref p=>
  cases rx;have e':(∃xs,SqL X.K H p xs/\k = !xs.isEmpty)\/(∃xs,SqT X.K H p xs/\k = !xs.isEmpty)\/∃kvs,H p=some (.dK kvs)/\k = !kvs.isEmpty:=e;rcases e' with ⟨xs,hx,e'⟩|⟨xs,hx,e'⟩|⟨kvs,hx,e'⟩
  ·subst e'
   obtain⟨its,r,pl,hz⟩:=I.list hx;have hlen:=r.length;exact wpAny_truthy_list pl.isList (by simp only[Wae];omega) ⟨H,I.tok _,by rw[Zfj r];exact q⟩
  ·subst e'
   obtain⟨its,r,pl,hz⟩:=I.tuple hx;have hlen:=r.length;exact truthy_tuple pl (by simp only[Wae];omega) ⟨H,I.tok _,by rw[Zfj r];exact q⟩
  ·subst e'
   obtain⟨hz,hS,vs,r,m⟩:kvs.length<=sizeLine/\(p == sysModules)=false/\∃vs,KV kvs vs/\s.heap.DictOf (mixKind X.prog X.w) p vs:=I.hok p _ hx;have hlen:kvs.length=vs.length:=Paired.length r;exact wpAny_truthy_dict hS m (by omega) ⟨H,I.tok _,by rw[Zjq r];exact q⟩
 |_=>exact(show False from e).elim
theorem Zn5 (ha:PE X a ta) (he:∀whole,isTrue a X.env whole=(do let v ← whole;standAt a.pos;holding [v] (truthy v))) :
  PT X a (λσ H Q=>ta σ H λx H'=>∃k,TruV X.K x H' k/\Q k H'):=by
 intro pins s σ H Q I h;exact isTrue_plain (thn (ha pins s σ H _ I h) λv s1 ⟨x,H1,I1,r1,q1⟩=>Zr6 pins s1 σ H1 x v Q I1 r1 q1)<|he _
theorem Zbo:OpR X (binaryOp .Add) (λx y H Q=>∃i j,x=.str i/\y=.str j/\i.length+j.length<=sizeLine/\Q (.str<|i++j) H):=by
 intro pins s σ H x y v u Q I rx ry h;obtain⟨i,j,rfl,rfl,hz,q⟩:=h;obtain⟨t,rfl⟩:=rx;obtain⟨t',rfl⟩:=ry;exact add_str (λt' tk=>⟨.str<|i++j,H,I.tok _,⟨_,rfl⟩,q⟩) hz
theorem vals1 {x:V}{us:List Value}(r:Vals [x] us):∃u,us=[u]/\RelV x u:=by
 cases r with
 |cons r1 r2=>cases r2;exact⟨_,rfl,r1⟩
theorem vals2 {x y:V}{us:List Value}(r:Vals [x,y] us):∃u w',us=[u,w']/\RelV x u/\RelV y w':=by
 cases r with
 |cons r1 r2=>
  cases r2 with
  |cons r3 r4=>cases r4;exact⟨_,_,rfl,r1,r3⟩
theorem Zfz:CallR X (.builtin "abs") (λxs H Q=>∃i,xs=[.int i]/\Q (.int (if i<0 then -i else i)) H):=by
 intro pins s σ H xs us Q I r h;obtain⟨i,rfl,q⟩:=h;obtain⟨u,rfl,t,rfl⟩:=vals1 r;exact call_abs_int λu tk=>⟨.int (if i<0 then -i else i),H,I.tok _,⟨_,rfl⟩,q⟩
theorem Zj6 (hc:X.calm=true):CallR X (.builtin "max") (λxs H Q=>∃i j,xs=[.int i,.int j]/\Q (.int (if j > i then j else i)) H):=by
 intro pins s σ H xs us Q I r h;obtain⟨i,j,rfl,q⟩:=h;obtain⟨u,w',rfl,⟨t,rfl⟩,⟨t',rfl⟩⟩:=vals2 r;refine max_two_ints (I.ok.hd hc) λh' tk k=>⟨_,H,I.kept k,?_,q⟩;by_cases hj:j > i
 ·rw[if_pos hj,if_pos hj];exact⟨_,rfl⟩
 ·rw[if_neg hj,if_neg hj];exact⟨_,rfl⟩
theorem Zhc (hc:X.calm=true):CallR X (.builtin "min") (λxs H Q=>∃i j,xs=[.int i,.int j]/\Q (.int (if j<i then j else i)) H):=by
 intro pins s σ H xs us Q I r h;obtain⟨i,j,rfl,q⟩:=h;obtain⟨u,w',rfl,⟨t,rfl⟩,⟨t',rfl⟩⟩:=vals2 r;refine min_two_ints (I.ok.hd hc) λh' tk k=>⟨_,H,I.kept k,?_,q⟩;by_cases hj:j<i
 ·rw[if_pos hj,if_pos hj];exact⟨_,rfl⟩
 ·rw[if_neg hj,if_neg hj];exact⟨_,rfl⟩
end
end L2
namespace L2
open PySem PySem.Spec PyProof.Rows
structure ObjM (h:Heap) (x dx C:Addr) (mA:Str->Option Value):Prop where
 obj:h.get? x=some (PySem.W.instObj C dx)
 ns:h.Ns1 dx mA
 ne:dx≠x
theorem Zgs {h:Heap}{dx:Addr}{mA:Str->Option Value}(n:h.Ns1 dx mA):∃od,h.get? dx=some od/\∀name,PySem.W.lookIn name od=some (mA name):=by
 obtain⟨o,es,ep,ho,hd,hk,_,hm⟩:=n;refine⟨o,ho,λname=>?_⟩;have e:=hm name;unfold nsFind findBy at e;rw[<- Array.find?_toList]at e;unfold PySem.W.lookIn;rw[hd];dsimp only;split
 ·rename_i y q
  rw[q]at e;exact congrArg some e
 ·rename_i q
  rw[q]at e;have a:es.toList.any (·.refKey)=false:=by
   rw[List.any_eq_false];intro y hy;obtain⟨z,t,hkey⟩:=hk y<|Array.mem_toList_iff.mp hy;simp[DictEntry.refKey,hkey]
  have a':¬ es.toList.any (·.refKey)=true:=by rw[a];exact Wai
  rw[if_neg a'];exact congrArg some e
theorem ObjM.look {h:Heap}{x dx C:Addr}{mA:Str->Option Value}(I:ObjM h x dx C mA):∃od,PySem.W.InstAt h x (PySem.W.instObj C dx) C (some od)/\∀name,PySem.W.lookIn name od=some (mA name):=
 let ⟨od,ho,hl⟩:=Zgs I.ns
 ⟨od,⟨I.obj,rfl,rfl,ho⟩,hl⟩
theorem RelO.some_of {v:V}{o:Option Value}(r:RelO (some v) o):∃u,o=some u/\RelV v u:=by
 cases o with
 |none=>exact(show False from r).elim
 |some u=>exact⟨u,rfl,r⟩
section
variable {P:Program}{w:World}{H H':Hp}{h h':Heap}{a C dx:Addr}{fs fs':List (Str × V)}
theorem Zpc (hok:HOk P w H h) (e:H a=some (.ins C dx fs)):∃mA,ObjM h a dx C mA/\(∀f,RelO (fs.lookup f) (mA f))/\PySem.Within mA (fs.map (·.1))/\fs.length<=1000/\H dx=some (.own a):=by
 obtain⟨d,z,ne,ob,mA,n,r,q⟩:=(show ObjOk P w H h a (.ins C dx fs) from hok a _ e);exact⟨mA,⟨ob,n,ne⟩,r,q,z,d⟩
end
structure Cls (K:W.Frag) (C:Addr):Prop where
 pg:PySem.W.plainGet K C Str.empty=true
 hd:PySem.W.hasDictIn K C=true
 po:PySem.W.plainOver K C=true
 sa:PySem.W.findIn K (.ref C) "__setattr__" = some (some (.builtin "object.__setattr__"))
theorem Cls.get {K:W.Frag}{C:Addr}(c:Cls K C) (f:Str):PySem.W.plainGet K C f=true:=c.pg
section
variable {X:Cx}{pins:List (Addr × Obj)}{σ:St}{H:Hp}{s:Shared}{a C dx:Addr}{fs:List (Str × V)}{f:Str}{v:V}{A:Around}{E:Value->Shared->Prop}
theorem Zpz {prog:Program}{w:World}{env:Env}{e:Expr}{f:Str}{pos:Pos}{s:Shared}{Q:Value->Shared->Prop}(hb:attributeBase e f env (eval e env)=eval e env)
  (h:wpAny (model prog w) A (eval e env) (λo s₁=>wpAny (model prog w) A (getAttr o f true) Q E s₁) E s):wpAny (model prog w) A (eval (.Attribute e f pos) env) Q E s:=
 Attribute_any_ h (by rw[arm_eval_Attribute,hb])
end
section
variable {X:Cx}{pins:List (Addr × Obj)}{σ:St}{H:Hp}{s:Shared}{A:Around}{E:Value->Shared->Prop}{Q:Value->Shared->Prop}{c:Value}{b:Bool}
inductive TyOf (K:W.Frag) (H:Hp):V->Value->Prop where
 |non:TyOf K H .non (.type "NoneType")
 |bl (x:Bool):TyOf K H (.bl x) (.type "bool")
 |int (i:Int):TyOf K H (.int i) (.type "int")
 |str (x:Str):TyOf K H (.str x) (.type "str")
 |flt (x:UInt64):TyOf K H (.flt x) (.type "float")
 |lst {a:Addr}{xs:List V}(e:H a=some (.lst xs)):TyOf K H (.ref a) (.type "list")
 |frz {a:Addr}{o:Obj}{xs:List V}(e:H a=some (.frz o (.lst xs))):TyOf K H (.ref a) (.type "list")
 |tup {a:Addr}{xs:List V}(e:H a=some (.tup xs)):TyOf K H (.ref a) (.type "tuple")
 |dK {a:Addr}{kvs:List (Key × V)}(e:H a=some (.dK kvs)):TyOf K H (.ref a) (.type "dict")
 |dT {a:Addr}{kvs:List (List Key × V)}(e:H a=some (.dT kvs)):TyOf K H (.ref a) (.type "dict")
 |ins {a C dx:Addr}{fs:List (Str × V)}(e:H a=some (.ins C dx fs)) (cl:Cls K C) (ha:PySem.W.findIn K (.ref C) "__class__" = some (some (.builtin "object.__class__")))
   (hn:PySem.W.specialIn K (.builtin "object.__class__") "__get__" = some (some (.builtin "getset_descriptor.__get__"))) (htk:PySem.W.takesIn K (.builtin "object.__class__")=some true)
   (hm:PySem.W.mroIn K C (.type "object")=some true):TyOf K H (.ref a) (.ref C)
theorem Zla {x:V}{u t:Value}(I:Inv X pins σ H s) (rx:RelV x u) (ty:TyOf X.K H x t) (e:PySem.W.kitOne X.K t c=some b) (h:∀tk,Q (.bool b) { s with toks:=tk }) :
  wpAny (model X.prog X.w) A (call (.builtin "isinstance") [u,c]) Q E s:=by
 cases ty with
 |non=>cases (show u=Value.none from rx);exact PySem.W.kia_one PySem.W.kitx_none I.kIn True.intro e (λz=>nomatch z) h
 |bl y=>cases (show u=Value.bool y from rx);exact PySem.W.kia_one PySem.W.kitx_bool I.kIn True.intro e (λz=>nomatch z) h
 |int i=>obtain⟨t,q⟩:=(show ∃t,u=Value.int i t from rx);cases q;exact PySem.W.kia_one PySem.W.kitx_int I.kIn True.intro e (λz=>nomatch z) h
 |str y=>obtain⟨t,q⟩:=(show ∃t,u=Value.str y t from rx);cases q;exact PySem.W.kia_one PySem.W.kitx_str I.kIn True.intro e (λz=>nomatch z) h
 |flt y=>obtain⟨t,q⟩:=(show ∃t,u=Value.float y t from rx);cases q;exact PySem.W.kia_one PySem.W.kitx_float I.kIn True.intro e (λz=>nomatch z) h
 |@lst a xs ea=>
  cases (show u=Value.ref a from rx);obtain⟨_,_,n,_,h1⟩:=(show ObjOk X.prog X.w H s.heap a (.lst xs) from I.hok a _ ea);exact PySem.W.kia_one PySem.W.kitx_list I.kIn ⟨_,h1,rfl⟩ e (λz=>nomatch z) h
 |@frz a ob xs ea=>
  cases (show u=Value.ref a from rx);obtain⟨_,_,_,n,_,h1⟩:=(show ObjOk X.prog X.w H s.heap a (.frz ob (.lst xs)) from I.hok a _ ea);exact PySem.W.kia_one PySem.W.kitx_list I.kIn ⟨_,h1,rfl⟩ e (λz=>nomatch z) h
 |@tup a xs ea=>
  cases (show u=Value.ref a from rx);obtain⟨_,_,_,p⟩:=(show ObjOk X.prog X.w H s.heap a (.tup xs) from I.hok a _ ea);obtain⟨o,h1,⟨h2,_⟩,_⟩:=p;exact PySem.W.kia_one PySem.W.kitx_tuple I.kIn ⟨o,h1,h2⟩ e (λz=>nomatch z) h
 |@dK a kvs ea=>
  cases (show u=Value.ref a from rx);obtain⟨_,_,vs,_,p⟩:=(show ObjOk X.prog X.w H s.heap a (.dK kvs) from I.hok a _ ea);obtain⟨o,es,ep,h1,h2,_⟩:=p;exact PySem.W.kia_one PySem.W.kitx_dict I.kIn ⟨o,h1,h2.1⟩ e (λz=>nomatch z) h
 |@dT a kvs ea=>
  cases (show u=Value.ref a from rx);obtain⟨_,_,xs,_,o,es,ep,h1,h2,_⟩:=(show ObjOk X.prog X.w H s.heap a (.dT kvs) from I.hok a _ ea);exact PySem.W.kia_one PySem.W.kitx_dict I.kIn ⟨o,h1,h2.1⟩ e (λz=>nomatch z) h
 |@ins a C dx fs ea cl ha hn htk hm=>
  cases (show u=Value.ref a from rx);obtain⟨mA,O,_⟩:=Zpc I.hok ea;obtain⟨od,J,_⟩:=O.look;exact PySem.W.kia_one (PySem.W.kitx_own (cl.get _) cl.hd ha hn htk hm) I.kIn J e (λz=>nomatch z) h
end
end L2
namespace L2
open PySem PySem.Spec PyProof.Rows
structure Room (k:Nat) (A:Around):Prop where
 hd:A.handled=none
 dp:A.depth+3*k+5<recursionLimit
 un:A.units+16*k+200<cLine
 gd:A.guards=some []
theorem Room.mono {j k:Nat}{A:Around}(r:Room k A) (h:j<=k):Room j A:=⟨r.hd,by have:=r.dp;omega,by have:=r.un;omega,r.gd⟩
theorem Room.deeper {k:Nat}{A:Around}(r:Room (k+1) A) (env:Env):Room k (A.deeper env):=
 ⟨r.hd,by have:=r.dp;show A.depth+1+3*k+5<_;omega,by have:=r.un;show A.units+3+16*k+200<_;omega,r.gd⟩
theorem Zjj {A:Around}{C:Addr}{us:List Value}{kw:List (Str × Value)}:(A.under (.builtin "type.__call__" ⟨.ref C::us,kw⟩)).depth=A.depth+1:=by
 first|rfl|simp[Around.under,Code.weight,Code.isCreation,Code.isGuard,Code.isCaller,Code.frames,Code.isFrame,guardIds]
theorem Zj1 {A:Around}{C:Addr}{us:List Value}{kw:List (Str × Value)}:(A.under (.builtin "type.__call__" ⟨.ref C::us,kw⟩)).units=A.units+1:=by
 first|rfl|simp[Around.under,Code.cUnits,Code.frames,Code.isFrame]
theorem Room.make {k:Nat}{A:Around}(r:Room (k+1) A) (C:Addr) (us:List Value) (kw:List (Str × Value)):Room k (A.under (.builtin "type.__call__" ⟨.ref C::us,kw⟩)):=
 ⟨r.hd,by have:=r.dp;rw[Zjj];omega,by have:=r.un;rw[Zj1];omega,by first|exact r.gd|(simpa [Around.under,Code.guards,Code.isGuard,pushGuards,guardIds] using r.gd)⟩
theorem Room.depth {k:Nat}{A:Around}(r:Room k A):A.depth<recursionLimit:=by have:=r.dp;omega
theorem Room.units {k:Nat}{A:Around}(r:Room k A):A.units+64<cLine:=by have:=r.un;omega
def tNil:TA:=λ_ H Q=>Q [] H
def tCons (ta:TE) (tr:TA):TA:=λσ H Q=>ta σ H λx H1=>tr σ H1 λxs H2=>Q (x::xs) H2
section
variable {X:Cx}{e:Expr}{es:List Expr}{te:TE}{t:TA}{pos:Pos}
theorem Zac:PA X [] tNil:=λ_ _ _ _ H Q I h=>Calls.spliced_nil ⟨[],H,I,.nil,h⟩
theorem Zaa (ha:PE X e te) (hr:PA X es t) (hs:starEach (e::es) X.env=(false,eval e X.env)::starEach es X.env:=by rfl):PA X (e::es) (tCons te t):=by
 intro pos pins s σ H Q I h;rw[hs];show wpAny _ _ (spliced ((false,eval e X.env)::backTo pos (starEach es X.env))) _ _ s;refine Calls.spliced_cons (thn (ha pins s σ H _ I h) λu s1 ⟨x,H1,I1,r1,q1⟩=>?_);exact thn (hr pos pins s1 σ H1 _ I1 q1) λus s2 ⟨xs,H2,I2,r2,q2⟩=>⟨x::xs,H2,I2,.cons r1 r2,q2⟩
def tTup (t:TA):TE:=λσ H Q=>t σ H λxs H1=>xs.length<=sizeLine/\∀p,H1 p=none->Q (.ref p) (upd H1 p (.tup xs))
def tLst (t:TA):TE:=λσ H Q=>t σ H λxs H1=>xs.length<=sizeLine/\∀p,H1 p=none->Q (.ref p) (upd H1 p (.lst xs))
theorem Zbd {x1} (h:PA X es t):PE X (.Tuple es x1 pos) (tTup t):=by
 intro pins s σ H Q I hq;refine wpAny_Tuple_spliced (thn (h pos pins s σ H _ I hq) λus s1 ⟨xs,H1,I1,r,z,q⟩=>⟨by rw[<- r.length];exact z,?_⟩);have hf:H1 s1.heap.objs.size=none:=I1.hok.fresh<|Waf _;refine⟨.ref s1.heap.objs.size,upd H1 s1.heap.objs.size (.tup xs),I1.laid (t':=s1.toks) (λb u e=>Waa _ e) (Waf _) ?_,rfl,q _ hf⟩;exact⟨z,us,r,⟨_,Wag _ rfl,⟨rfl,_,rfl⟩,rfl⟩⟩
theorem Zbc (h:PA X es t):PE X (.List es pos) (tLst t):=by
 intro pins s σ H Q I hq;refine wpAny_List_spliced (thn (h pos pins s σ H _ I hq) λus s1 ⟨xs,H1,I1,r,z,q⟩=>⟨by rw[<- r.length];exact z,?_⟩);have hf:H1 s1.heap.objs.size=none:=I1.hok.fresh<|Waf _;refine⟨.ref s1.heap.objs.size,upd H1 s1.heap.objs.size (.lst xs),I1.laid (t':=s1.toks) (λb u e=>Waa _ e) (Waf _) ?_,rfl,q _ hf⟩;exact⟨z,us,0,r,Wag _ rfl⟩
end
abbrev Sp:=List V->Hp->VK->XK->Prop
abbrev CXT:=List Env->Hp->Shared->XK->Value->Shared->Prop
structure Env0 (P:Program) (w:World) (K:W.Frag) (mg:Str->Option Value) (base:Heap) (A:Around) (outer:List Env) (s:Shared) (H:Hp):Prop where
 frames:A.frames=some outer
 mod:Mod K mg base
 bs:∀b o,base.get? b=some o->s.heap.get? b=some o/\H b=none
 bsz:base.objs.size<=s.heap.objs.size
 funs:s.heap.FunFrames base outer
 frf:∀b∈frs outer,H b=none
 hok:HOk P w H s.heap
 bare:AllBare s.gens
def CE (outer:List Env) (P:Program) (w:World) (H:Hp) (s:Shared) (Q:VK) (u:Value) (s':Shared):Prop:=
 ∃v H',s'.os=s.os/\AllBare s'.gens/\Un (frs outer) [] H H' s.heap s'.heap/\HOk P w H' s'.heap/\RelV v u/\Q v H'
def CR (CX:CXT) (outer:List Env) (P:Program) (w:World) (H:Hp) (s:Shared) (Q:VK) (E:XK) (r:Result) (s':Shared):Prop:=
 match r with
 |.ok (.ret u)=>CE outer P w H s Q u s'
 |.ok _=>False
 |.error e=>CX outer H s E e s'
structure FnOk (P:Program) (w:World) (K:W.Frag) (mg:Str->Option Value) (base:Heap) (CX:CXT) (k:Nat) (f:Addr) (fd:FuncData) (ps:List Str) (sp:Sp):Prop where
 len:∀vs H Q E,sp vs H Q E->vs.length=ps.length
 run:∀(A:Around) (outer:List Env) (s:Shared) (H:Hp) (args:Args) (us:List Value) (vs:List V) (Q:VK) (E:XK),Room k A->Env0 P w K mg base A outer s H->BindsTo s fd args (ps.zip us)->Vals vs us->sp vs H Q E →
  codeAny (model P w) A (.call (.ref f) args) (CR CX outer P w H s Q E) s
theorem FnOk.imp {P:Program}{w:World}{K:W.Frag}{mg:Str->Option Value}{base:Heap}{CX:CXT}{k:Nat}{f:Addr}{fd:FuncData}{ps:List Str}{sp sp':Sp}(F:FnOk P w K mg base CX k f fd ps sp)
  (h:∀vs H Q E,sp' vs H Q E->sp vs H Q E):FnOk P w K mg base CX k f fd ps sp':=
 ⟨λvs H Q E q=>F.len vs H Q E<|h _ _ _ _ q,λA outer s H args us vs Q E hr he hb hv hs=>F.run A outer s H args us vs Q E hr he hb hv<|h _ _ _ _ hs⟩
theorem Env0.make {P:Program}{w:World}{K:W.Frag}{mg:Str->Option Value}{base:Heap}{A:Around}{outer:List Env}{s:Shared}{H:Hp}(e:Env0 P w K mg base A outer s H) (C:Addr) (us:List Value) (kw:List (Str × Value)) :
  Env0 P w K mg base (A.under (.builtin "type.__call__" ⟨.ref C::us,kw⟩)) outer s H:=⟨by first|exact e.frames|(simpa [Around.under,Code.envs,Code.isFrame,pushEnvs] using e.frames),e.mod,e.bs,e.bsz,e.funs,e.frf,e.hok,e.bare⟩
section
variable {X:Cx}{pins:List (Addr × Obj)}{σ:St}{H:Hp}{s s':Shared}
theorem Inv.env0 (I:Inv X pins σ H s):Env0 X.prog X.w X.K X.mg X.base X.A X.stack s H:=
 ⟨I.ok.frames,I.ok.mod,I.bs,Was I.ok.bsz I.sz,I.stack,I.stkFree,I.hok,I.bare⟩
theorem Inv.after {Q:VK}{u:Value}(I:Inv X pins σ H s) (h:CE X.stack X.prog X.w H s Q u s'):EP X pins σ Q u s':=by
 obtain⟨v,H',os,bare,un,hok,r,q⟩:=h;obtain⟨hh,g,d,t,os'⟩:=s';obtain rfl:os'=s.os:=os;exact⟨v,H',I.call (h':=hh) (g':=g) (d':=d) (t':=t) (ch:=[]) un hok bare (λb z=>absurd z<|by simp),r,q⟩
end
def tCall (sp:Sp) (dvs:List V) (E:XK) (t:TA):TE:=λσ H Q=>t σ H λvs H1=>sp (vs++dvs) H1 Q E
def Binds (K:W.Frag) (fd:FuncData) (ps:List Str) (ds:List Value):Prop:=
 ∀(s:Shared) (us:List Value),K.In s.heap->(us++ds).length=ps.length->BindsTo s fd ⟨us,[]⟩ (ps.zip<|us++ds)
theorem Binds.all {K:W.Frag}{fd:FuncData}{ps:List Str}(h:∀us:List Value,us.length=ps.length->bindArgs fd ⟨us,[]⟩=pure (ps.zip us)):Binds K fd ps []:=λs us _ hl=>by
 rw[Wba]at hl ⊢;exact .of_eq<|h us hl
def Passes (CX:CXT) (X:Cx) (E:XK):Prop:=∀(pins:List (Addr × Obj)) (σ:St) (H:Hp) (s:Shared) (e:Value) (s':Shared),Inv X pins σ H s->CX X.stack H s E e s' -> X.xe e s'
section
variable {X:Cx}{CX:CXT}{k:Nat}{f C:Addr}{fd:FuncData}{ps:List Str}{sp:Sp}{dvs:List V}{ds:List Value}{E:XK}{x m:Str}{p pos apos:Pos}{e o:Expr}{es:List Expr}{ta:TE}{t:TA}
theorem Zrm {pins:List (Addr × Obj)}{σ:St}{H:Hp}{s:Shared}{Q:VK}{us:List Value}{vs:List V}(F:FnOk X.prog X.w X.K X.mg X.base CX k f fd ps sp) (hr:Room k X.A) (hb:Binds X.K fd ps ds) (hd:Vals dvs ds) (hx:Passes CX X E)
  (I:Inv X pins σ H s) (r:Vals vs us) (h:sp (vs++dvs) H Q E):wpAny (model X.prog X.w) X.A (call (.ref f) us) (EP X pins σ Q) X.xe s:=by
 have r2:Vals (vs++dvs) (us++ds):=r.append hd;have hl:(us++ds).length=ps.length:=by rw[<- r2.length];exact F.len _ _ _ _ h
 refine wpAny_call (codeAny_mono (F.run X.A X.stack s H ⟨us,[]⟩ (us++ds) (vs++dvs) Q E hr I.env0 (hb s us I.kIn hl) r2 h) λr s' hq=>?_);cases r with
 |error e=>exact hx pins σ H s e s' I hq
 |ok fl=>
  cases fl with
  |ret u=>exact I.after hq
  |next=>exact False.elim hq
  |brk=>exact False.elim hq
  |cont=>exact False.elim hq
theorem Zpd (F:FnOk X.prog X.w X.K X.mg X.base CX k f fd ps sp) (hr:Room k X.A) (hg:Gl X x) (hm:X.mg x=some (.ref f)) (hk:W.keepIn X.K (.ref f)=true) (hb:Binds X.K fd ps ds) (hd:Vals dvs ds) (hx:Passes CX X E)
  (ha:PA X (e::es) t) (hdb:(x == ("__debug__":Str))=false:=by decide) (he:starEach (e::es) X.env=(false,eval e X.env)::starEach es X.env:=by rfl) (hpl:(backTo pos<|starEach es X.env).any (·.1)=false:=by rfl) :
  PE X (.Call (.Name x p) (e::es) [] pos) (tCall sp dvs E t):=by
 intro pins s σ H Q I h;refine wpAny_Call_Name_kw<|Zde I hg hm ?_ hdb;refine PySem.W.callWith_K (h₀:=X.base) I.ok.mod.kin hk (thn (ha pos pins s σ H _ I h) λus s1 ⟨vs,H1,I1,r,q⟩=>⟨I1.kIn,?_⟩) he hpl;exact Zrm F hr hb hd hx I1 r q
end
def PK (X:Cx) (kws:List Keyword) (t:TA):Prop:=
 ∀(pos:Pos) (pins:List (Addr × Obj)) (s:Shared) (σ:St) (H:Hp) (Q:List V->Hp->Prop),Inv X pins σ H s->t σ H Q->wpAny (model X.prog X.w) X.A (evalAll ((backToKw pos<|keywordEach kws X.env).map (·.2))) (AP X pins σ Q) X.xe s
section
variable {X:Cx}{CX:CXT}{k:Nat}{f C:Addr}{fd:FuncData}{ps ks:List Str}{sp:Sp}{E:XK}{x m:Str}{p pos apos kpos:Pos}{e o:Expr}{es:List Expr}{kws:List Keyword}{te ta:TE}{t tk:TA}{nm:Option Str}
theorem Zr2:PK X [] tNil:=λ_ _ _ _ H Q I h=>wpAny_evalAll_nil ⟨[],H,I,.nil,h⟩
theorem Zpl (ha:PE X e te) (hr:PK X kws t):PK X (⟨nm,e,kpos⟩::kws) (tCons te t):=by
 intro pos pins s σ H Q I h;show wpAny _ _ (evalAll ((do let v ← eval e X.env;standAt pos;pure v)::(backToKw pos<|keywordEach kws X.env).map (·.2))) _ _ s;refine wpAny_evalAll_cons<|wpAny_bind (thn (ha pins s σ H _ I h) λu s1 ⟨x,H1,I1,r1,q1⟩=>wpAny_bind<|wpAny_standAt<|wpAny_pure ?_);exact thn (hr pos pins s1 σ H1 _ I1 q1) λus s2 ⟨xs,H2,I2,r2,q2⟩=>⟨x::xs,H2,I2,.cons r1 r2,q2⟩
variable {g:List Value->List Value->List Value}{gV:List V->List V->List V}
end
structure FnScope (N P:List Str) (sc:Scope):Prop where
 kind:sc.kind=.function
 co:sc.isCoroutine=false
 gen:sc.isGenerator=false
 nd:N.Nodup
 pre:N.take P.length=P
 par:∀x∈P,sc.names.lookup x=some .local\/sc.names.lookup x=some .cell
 nofree:∀y∈sc.names,y.2≠.free
theorem Zgz {kindOf:Str->Option NameKind}{x:Str}:∀{binds:List (Str × Value)}{m:Str->Option Value},(∀v,(x,v) ∉ binds)->bindL kindOf binds m x=m x
 |[],_,_=>rfl
 | (n,v)::r,m,h=>by
  unfold bindL;rw[Zgz λw hw=>h w (Wal _ hw)];split
  ·have:x≠n:=by rintro rfl;exact h v Waq
   simp[this]
  ·rfl
theorem Zhk {kindOf:Str->Option NameKind}{x:Str}:∀{binds:List (Str × Value)}{m:Str->Option Value},(∀v,(x,v) ∉ binds)->bindC kindOf binds m x=m x
 |[],_,_=>rfl
 | (n,v)::r,m,h=>by
  unfold bindC;rw[Zhk λw hw=>h w (Wal _ hw)];split
  ·rfl
  ·have:x≠n:=by rintro rfl;exact h v Waq
   simp[this]
theorem Ze2 {kindOf:Str->Option NameKind}{x:Str}{v:Value}:∀{P:List Str}{vs:List Value}{i:Nat}{m:Str->Option Value},P.Nodup->P[i]?=some x->vs[i]?=some v->kindOf x=some .local →
  bindL kindOf (P.zip vs) m x=some v
 |[],_,_,_,_,h,_,_=>by simp at h
 |_::_,[],_,_,_,_,h,_=>by simp at h
 |p::P,w::vs,0,m,nd,h1,h2,hk=>by
  simp at h1 h2;subst h1;subst h2;show bindL kindOf ((p,w)::P.zip vs) m p=_;unfold bindL;rw[Zgz λv hv=>(Wb8.mp nd).1 (Wcz hv).1,if_pos hk];simp
 |p::P,w::vs,i+1,m,nd,h1,h2,hk=>by
  show bindL kindOf ((p,w)::P.zip vs) m x=_;unfold bindL;exact Ze2 (i:=i) (Wb8.mp nd).2 (by simpa using h1) (by simpa using h2) hk
theorem Zeu {kindOf:Str->Option NameKind}{x:Str}{v:Value}:∀{P:List Str}{vs:List Value}{i:Nat}{m:Str->Option Value},P.Nodup->P[i]?=some x->vs[i]?=some v->kindOf x≠some .local →
  bindC kindOf (P.zip vs) m x=some v
 |[],_,_,_,_,h,_,_=>by simp at h
 |_::_,[],_,_,_,_,h,_=>by simp at h
 |p::P,w::vs,0,m,nd,h1,h2,hk=>by
  simp at h1 h2;subst h1;subst h2;show bindC kindOf ((p,w)::P.zip vs) m p=_;unfold bindC;rw[Zhk λv hv=>(Wb8.mp nd).1 (Wcz hv).1,if_neg hk];simp
 |p::P,w::vs,i+1,m,nd,h1,h2,hk=>by
  show bindC kindOf ((p,w)::P.zip vs) m x=_;unfold bindC;exact Zeu (i:=i) (Wb8.mp nd).2 (by simpa using h1) (by simpa using h2) hk
def start (N:List Str) (vs:List V):St:=vs.map some++Wad (N.length-vs.length) none
def cxOf (CX:CXT) (P:Program) (w:World) (K:W.Frag) (mg:Str->Option Value) (base:Heap) (N:List Str) (qual:Str) (scope:Scope) (f:Addr) (cd:Value) (A:Around) (outer:List Env) (s:Shared) (H:Hp) (E:XK):Cx where
 prog:=P
 w:=w
 K:=K
 mg:=mg
 base:=base
 A:=A.deeper<|envOfC qual scope s.heap.objs.size f cd
 N:=N
 s₀:=s
 H₀:=H
 env:=envOfC qual scope s.heap.objs.size f cd
 outer:=outer
 stack:=envOfC qual scope s.heap.objs.size f cd::outer
 ex:=[]
 calm:=true
 fn:=λ_=>true
 pn:=[]
 xe:=λe s'=>wpAny (model P w) (A.deeper<|envOfC qual scope s.heap.objs.size f cd) (leaving (envOfC qual scope s.heap.objs.size f cd) e) (λ_ s''=>CX outer H s E e s'') (λe' s''=>CX outer H s E e' s'') s'
theorem Zek {sc:Scope}{n:Nat}{x:Str}(h:sc.names.lookup x=some .cell):∃c,(cellsFrom n sc.names []).lookup x=some c:=by
 have q:=PySem.W.cellsFrom_some sc.names n [] (.inl h);exact Option.isSome_iff_exists.mp q
theorem Zku {CX:CXT}{P:Program}{w:World}{K:W.Frag}{mg:Str->Option Value}{base:Heap}{N ps:List Str}{qual:Str}{scope:Scope}{f:Addr}{cd:Value}{A:Around}{outer:List Env}{s s1:Shared}{H:Hp}{E:XK}{us:List Value}{vs:List V}
  (S:FnScope N ps scope) (hd:A.handled=none) (e0:Env0 P w K mg base A outer s H) (hl:vs.length=ps.length) (r:Vals vs us)
  (x:InCallC s s.heap.objs.size (bindL (envOfC qual scope s.heap.objs.size f cd).kindOf (ps.zip us) λ_=>none) (cellsFrom (s.heap.objs.size+1) scope.names []) (bindC (envOfC qual scope s.heap.objs.size f cd).kindOf (ps.zip us) λ_=>none) s1) :
  Inv (cxOf CX P w K mg base N qual scope f cd A outer s H E) [] (start N vs) H s1:=by
 have hpl:ps.length<=N.length:=by have:=congrArg Wa6 S.pre;rw[Wbd]at this;omega
 obtain⟨h1,tk,rfl,hk⟩:=x.done;have noA:∀b:Addr,b ∉ (cxOf CX P w K mg base N qual scope f cd A outer s H E).ex:=λb z=>absurd (show b∈([]:List Addr) from z) (by simp);refine⟨⟨e0.mod,S.kind,rfl,rfl,Waf _,λy z c h1 h2=>?_,λy hy=>?_,λy c _ h=>?_,λ_=>hd,Around.frames_deeper e0.frames,.inr ⟨rfl,rfl⟩,λb z=>absurd z (noA b),e0.bs,e0.bsz,λb _ _=>noA b,λb z=>absurd z (noA b),e0.funs,e0.frf⟩,
  rfl,e0.bare,Un.kept hk,⟨_,x.toInCall.ns,λi y v h1 h2 h3=>?_⟩,λy c h=>⟨_,x.cell y c h⟩,e0.hok.fresh (Waf _),λy c h=>?_,λp hp=>absurd (show p∈([]:List (Addr × Obj)) from hp) (by simp),e0.hok.kept hk,?_⟩
 ·exact name_of_addr x.apart (PySem.mem_of_lookup h1)<|PySem.mem_of_lookup h2
 ·have hy:scope.names.lookup y=some .cell\/scope.names.lookup y=some .free:=hy
  rcases hy with hy|hy
  ·exact Zek hy
  ·exact absurd rfl<|S.nofree _<|PySem.mem_of_lookup hy
 ·exact Wbo<|x.above y c<|PySem.mem_of_lookup h
 ·have hi:i<vs.length:=by
   unfold start at h2;by_cases hi:i<vs.length
   ·exact hi
   ·rw[Wa1 (by simpa using hi)]at h2
    rw[Wbw]at h2;split at h2 <;> cases h2
  have ha:vs[i]?=some v:=by
   unfold start at h2;rw[Wbb (by simpa using hi),Waj]at h2;cases e:vs[i]? with
   |none=>rw[e]at h2;cases h2
   |some a=>rw[e]at h2;cases h2;rfl
  obtain⟨u,hu,rv⟩:=r.get ha;have hp:ps[i]?=some y:=by
   rw[<- S.pre,List.getElem?_take_of_lt (by omega)];exact h1
  have ndP:ps.Nodup:=by rw[<- S.pre];exact S.nd.sublist<|List.take_sublist _ _
  refine⟨u,rv,?_⟩;rcases S.par y (Waz hp) with k|k
  ·exact .inl ⟨k,Ze2 ndP hp hu k⟩
  ·obtain⟨c,e⟩:=Zek (n:=s.heap.objs.size+1) k
   refine .inr ⟨.inl k,c,e,?_⟩;have q:=x.cell y c e;rw[Zeu ndP hp hu (by show scope.names.lookup y≠_;rw[k];decide)]at q;exact q
 ·exact e0.hok.fresh<|Wbo<|x.above y c<|PySem.mem_of_lookup h
 ·unfold start
  show _=N.length;rw[War,Wac,Wa2];omega
theorem Zst {CX:CXT}{P:Program}{w:World}{K:W.Frag}{mg:Str->Option Value}{base:Heap}{k:Nat}{f:Addr}{name qual:Str}{params:Arguments}{body:List Stmt}{scope:Scope}{dV kV doc pm cdv ct oc:Value}{an od:Option Addr}
  {osl:Array (Option Value)}{N ps:List Str}{sp:Sp}(lk:K.lookup f=some ⟨oc,od,.func<|W.fnOf name qual params body scope dV kV doc pm an cdv ct,osl⟩) (hcd:W.codeIn K cdv qual=true) (S:FnScope N ps scope)
  (len:∀vs H Q E,sp vs H Q E->vs.length=ps.length)
  (hbody:∀(A:Around) (outer:List Env) (s:Shared) (H:Hp) (vs:List V) (Q:VK) (E:XK),Room k (A.deeper (envOfC qual scope s.heap.objs.size f cdv))->sp vs H Q E →
   ∃t,PSs (cxOf CX P w K mg base N qual scope f cdv A outer s H E) body t/\t { nx:=λ_ H'=>Q .non H',rt:=Q } (start N vs) H) :
  FnOk P w K mg base CX (k+1) f (W.fnOf name qual params body scope dV kV doc pm an cdv ct) ps sp:=by
 refine⟨len,λA outer s H args us vs Q E hr e0 hb r hsp=>?_⟩;have hl:=len _ _ _ _ hsp;have KX:K.In s.heap:=e0.mod.kin.keeps λb o e=>(e0.bs b o e).1;have lim:s.heap.NoLimit:=e0.mod.nolimit.keeps λb o e=>(e0.bs b o e).1;have hkind:∀y∈ps.zip us,scope.names.lookup y.1=some .local\/(scope.names.lookup y.1=some .cell/\((cellsFrom (s.heap.objs.size+1) scope.names []).lookup y.1).isSome=true):=λ⟨n,v⟩ hy=>by
  rcases S.par n (Wcz hy).1 with q|q
  ·exact .inl q
  ·exact .inr ⟨q,PySem.W.cellsFrom_some _ _ _ (.inl q)⟩
 refine codeAny_call_function hr.depth (KX _ _ lk) rfl S.co S.gen rfl (PySem.W.codeRec_of KX hcd)<|hb _ _ _ _ ?_;refine wpAny_newFunctionEnv_cells S.kind hkind λenv he s1 x=>?_;subst he;refine⟨lim.keeps x.toInCall.keep,codeAny_func ?_⟩;obtain⟨t,ht,hq⟩:=hbody A outer s H vs Q E (hr.deeper _) hsp;have I:Inv (cxOf CX P w K mg base N qual scope f cdv A outer s H E) [] (start N vs) H s1:=Zku S hr.hd e0 hl r x;refine wpAny_mono (ht [] s1 (start N vs) H _ I hq) (λfl s' hs=>?_) λe s' hs=>hs;have fin:∀{σ':St}{H':Hp}{v:V}{u:Value},Inv (cxOf CX P w K mg base N qual scope f cdv A outer s H E) [] σ' H' s' -> RelV v u->Q v H' -> CE outer P w H s Q u s':=
  λ{σ' H' v u} J rv q=>⟨v,H',J.os,J.bare,J.base,J.hok,rv,q⟩
 cases fl with
 |ret u=>
  obtain⟨v,σ',H',J,rv,q⟩:=hs;exact fin J rv q
 |next=>
  obtain⟨σ',H',J,q⟩:=hs;exact fin (v:=V.non) (u:=Value.none) J rfl q
 |brk=>
  obtain⟨_,_,_,q⟩:=hs;exact False.elim q
 |cont=>
  obtain⟨_,_,_,q⟩:=hs;exact False.elim q
end L2
namespace L2
open PySem PySem.Spec PyProof.Rows
section
variable {X:Cx}{x:Str}{p pos:Pos}{e:Expr}{es:List Expr}{t:TA}{id T:String}{r:List V->Hp->VK->Prop}
def tCB (r:List V->Hp->VK->Prop) (t:TA):TE:=λσ H Q=>t σ H λvs H1=>r vs H1 Q
theorem Zah (hc:CallR X (.builtin id) r) (hg:Gl X x) (hm:X.mg x=none) (hv:bootBuiltins x=some (.builtin id)) (ha:PA X (e::es) t) (hn:x ≠ "__name__":=by decide) (hdb:(x == ("__debug__":Str))=false:=by decide)
  (he:starEach (e::es) X.env=(false,eval e X.env)::starEach es X.env:=by rfl) (hpl:(backTo pos<|starEach es X.env).any (·.1)=false:=by rfl):PE X (.Call (.Name x p) (e::es) [] pos) (tCB r t):=by
 intro pins s σ H Q I h;refine wpAny_Call_Name_kw<|Zd2 I hg hm hv ?_ hn hdb;exact PyProof.Rows.callWith_builtin1 (thn (ha pos pins s σ H _ I h) λus s1 ⟨vs,H1,I1,r1,q1⟩=>hc pins s1 σ H1 vs us Q I1 r1 q1) he hpl
theorem Za7 (hc:CallR X (.type T) r) (hg:Gl X x) (hm:X.mg x=none) (hv:bootBuiltins x=some (.type T)) (ha:PA X (e::es) t) (hn:x ≠ "__name__":=by decide) (hdb:(x == ("__debug__":Str))=false:=by decide)
  (he:starEach (e::es) X.env=(false,eval e X.env)::starEach es X.env:=by rfl) (hpl:(backTo pos<|starEach es X.env).any (·.1)=false:=by rfl):PE X (.Call (.Name x p) (e::es) [] pos) (tCB r t):=by
 intro pins s σ H Q I h;refine wpAny_Call_Name_kw<|Zd2 I hg hm hv ?_ hn hdb;exact PyProof.Rows.callWith_type1 (thn (ha pos pins s σ H _ I h) λus s1 ⟨vs,H1,I1,r1,q1⟩=>hc pins s1 σ H1 vs us Q I1 r1 q1) he hpl
end
end L2
namespace HT
open PySem PyProof.Rows
section
open PySem.SeqAt
open PySem.AutoSeq1 (wpAny_loadPart')
open PySem.MeetsSeq PySem.MeetsSeq2 PySem.MeetsSeq3
end
section
variable {prog:Program}{w:World}{A:Around}{E:Value->Shared->Prop}{s:Shared}
theorem cat_tup {t b:Addr}{vs ws:List Value}{Q:Value->Shared->Prop}(ht:IsTup s.heap t vs.toArray) (hb:IsTup s.heap b ws.toArray) (hv:vs≠[])
  (h1:ws=[]->Q (.ref t) s) (h2:ws≠[]->Q (.ref s.heap.objs.size) { s with heap:=s.heap.push { cls:=.type "tuple",data:=.seq (vs++ws).toArray } })
  (hsz:vs.length+ws.length<=sizeLine):wpAny (model prog w) A (binaryOp .Add (.ref t) (.ref b)) Q E s:=by
 obtain⟨⟨cls,dd,data,sl⟩,ho,hc,n,hd⟩:=id ht;obtain⟨⟨cls2,dd2,data2,sl2⟩,ho2,hc2,n2,hd2⟩:=id hb;simp only at hc hd hc2 hd2;subst hc hd hc2 hd2;have e:vs.toArray++ws.toArray=(vs++ws).toArray:=by simp
 by_cases hw:ws=[]
 ·exact concat_meets ⟨_,ho,rfl⟩ ⟨_,ho2,rfl⟩ noFill_tuple_add seq_tuple_add PySem.F.slot_tuple_add PySem.F.entry_tuple_add (PySem.F.args_tuple_add_2 _ _)
   (tuple_addW1 t b vs.toArray ws.toArray n n2 dd dd2 sl sl2 (by simpa using hv) (by simp[hw])) ⟨ho,ho2,h1 hw⟩
 ·refine concat_meets ⟨_,ho,rfl⟩ ⟨_,ho2,rfl⟩ noFill_tuple_add seq_tuple_add PySem.F.slot_tuple_add PySem.F.entry_tuple_add (PySem.F.args_tuple_add_2 _ _)
   (tuple_addW2 t b vs.toArray ws.toArray n n2 dd dd2 sl sl2 (by simpa using hv) (by simpa using hw) (by rw[Wae,Wae];exact hsz)) ⟨ho,ho2,?_⟩
  rw[e];exact h2 hw
def sIx (n d:Nat):Option Int->Nat
 |none=>d
 |some v=>if v<0 then (v+(n:Int)).toNat else min v.toNat n
theorem sIx_none (n d:Nat):sIx n d none=d:=rfl
theorem sIx_nat (n d k:Nat):sIx n d (some (k:Int))=min k n:=by
 show (if (k:Int)<0 then ((k:Int)+(n:Int)).toNat else min (k:Int).toNat n)=min k n;rw[if_neg (by omega),Wci]
theorem Zs6 (n d:Nat) (hd:d<=n) (o:Option Int):sIx n d o<=n:=by
 cases o with
 |none=>exact hd
 |some v=>
  show (if v<0 then (v+(n:Int)).toNat else min v.toNat n)<=n;by_cases hv:v<0
  ·rw[if_pos hv];omega
  ·rw[if_neg hv];exact Nat.min_le_right _ _
theorem Zlv (v:Int) (n d:Nat):(if v<0 then max (v+(n:Int)) 0 else min v (n:Int))=((sIx n d (some v):Nat):Int):=by
 show (if v<0 then max (v+(n:Int)) 0 else min v (n:Int))=(((if v<0 then (v+(n:Int)).toNat else min v.toNat n):Nat):Int);by_cases hv:v<0
 ·simp only[if_pos hv];omega
 ·simp only[if_neg hv];omega
theorem Zjm (lo hi:Option Int) (n:Nat):Builtin.Slice.sliceAdjust lo hi 1 (n:Int)=(((sIx n 0 lo:Nat):Int),((sIx n n hi:Nat):Int)):=by
 have h1:¬ ((1:Int)<0):=by omega
 unfold Builtin.Slice.sliceAdjust;simp only[h1,if_false];refine Prod.ext ?_ ?_
 ·cases lo with
  |none=>rfl
  |some v=>exact Zlv v n 0
 ·cases hi with
  |none=>rfl
  |some v=>exact Zlv v n n
theorem Zjn (i j:Nat):Builtin.Slice.slicePlaces (i:Int) (j:Int) 1=j-i:=by
 unfold Builtin.Slice.slicePlaces;have h1:(1:Int) > 0:=by omega
 simp only[h1,if_true,Int.ediv_one];split <;> omega
theorem Zfq {v:Value}{o:Option Int}{Q:Option Int->Shared->Prop}(p:IsPart v o) (h:Q o s):wpAny (model prog w) A (Builtin.Slice.slicePartIndex v) Q E s:=by
 cases p with
 |none=>exact slicePart_none h
 |int i t=>exact slicePart_int h
theorem Zcy {sl:Addr}{vl vu:Value}{lo hi:Option Int}{n:Nat}{Q:Int × Int × Nat->Shared->Prop}(hs:s.heap.IsSliceOf sl vl vu .none) (pl:IsPart vl lo) (pu:IsPart vu hi)
  (h:Q (((sIx n 0 lo:Nat):Int),1,sIx n n hi-sIx n 0 lo) s):wpAny (model prog w) A (Builtin.Slice.sliceApplied (.ref sl)<|pure (n:Int)) Q E s:=by
 obtain⟨os,hos,hcs,hds⟩:=id hs;unfold Builtin.Slice.sliceApplied Builtin.Slice.sliceFields;refine wpAny_bind<|wpAny_bind<|wpAny_field hos hds (x:=vl) rfl<|wpAny_bind<|wpAny_field hos hds (x:=vu) rfl<|wpAny_bind<|wpAny_field hos hds (x:=.none) rfl<|wpAny_pure ?_;refine wpAny_bind<|slicePart_none ?_;show wpAny _ _ (if ((1:Int) == 0)=true then _ else _) _ _ s;rw[if_neg (by decide)];refine wpAny_bind<|Zfq pl<|wpAny_bind<|Zfq pu<|wpAny_bind<|wpAny_pure ?_;show wpAny _ _ (match Builtin.Slice.sliceAdjust lo hi 1 (n:Int) with|(lo,hi)=>pure (lo,(1:Int),Builtin.Slice.slicePlaces lo hi 1)) _ _ s;rw[Zjm lo hi n];show wpAny _ _ (pure (((sIx n 0 lo:Nat):Int),(1:Int),Builtin.Slice.slicePlaces ((sIx n 0 lo:Nat):Int) ((sIx n n hi:Nat):Int) 1)) _ _ s;rw[Zjn];exact wpAny_pure h
theorem Znn (xs:Array Value) (i k:Nat):((Wb0 k).filterMap λ(m:Nat)=>xs[((i:Int)+(m:Int)*1).toNat]?).toArray=((xs.toList.drop i).take k).toArray:=by
 have e:(λ(m:Nat)=>xs[((i:Int)+(m:Int)*1).toNat]?)=λm=>xs[i+m]?:=by
  funext m
  have:((i:Int)+(m:Int)*1).toNat=i+m:=by omega
  rw[this]
 rw[e];have:=pick_run xs i k;rw[List.filterMap_map]at this;have e2:((λx=>xs[x]?)∘λx=>i+x)=λm=>xs[i+m]?:=rfl;rw[e2]at this;rw[this]
theorem getItem_tuple_cut {t sl:Addr}{items:Array Value}{vl vu:Value}{lo hi:Option Int}{Q:Value->Shared->Prop}(ht:IsTup s.heap t items) (hs:s.heap.IsSliceOf sl vl vu .none) (pl:IsPart vl lo) (pu:IsPart vu hi)
  (hw:¬ (sIx items.size 0 lo=0/\sIx items.size items.size hi=items.size))
  (h:Q (.ref s.heap.objs.size) { s with heap:=s.heap.push { cls:=.type "tuple",data:=.seq ((items.toList.drop<|sIx items.size 0 lo).take (sIx items.size items.size hi-sIx items.size 0 lo)).toArray } })
  (hsz:items.size<=sizeLine):wpAny (model prog w) A (getItem (.ref t) (.ref sl)) Q E s:=by
 have htake:sizeOk (.seq ((items.toList.drop<|sIx items.size 0 lo).take (sIx items.size items.size hi-sIx items.size 0 lo)).toArray):=by
  show ((items.toList.drop<|sIx items.size 0 lo).take (sIx items.size items.size hi-sIx items.size 0 lo)).toArray.size<=sizeLine;rw[Wae,Wbd,Wb4,Array.length_toList];omega
 have hj:sIx items.size items.size hi<=items.size:=Zs6 _ _ (Waf _) hi;obtain⟨os,hos,hcs,hds⟩:=id hs;have hTs:s.TypeIs (.ref sl) "slice":=⟨os,hos,hcs⟩;unfold getItem
 try with_reducible refine wpAny_holding ?_
 first|refine wpAny_bind (wpAny_pure ?_)|skip
 refine wpAny_bind (wpAny_sequenceKey ht.typeIs (by decide) ?_);refine wpAny_bind (wpAny_callSpecial?_slot (name:=Str.ofString "__getitem__") ht.typeIs PyProof.Rows.slot_tuple_getitem
  (wpAny_call_entry PyProof.Rows.slot_tuple_getitem ht.typeIs entry_tuple_getitem ?_ (args_tuple_getitem _ _)))
 show wpAny _ _ (Builtin.Tuple.tupleItemsOf (.ref t) >>= _) _ _ s;refine wpAny_bind<|tupleItemsOf_ ht ?_;refine wpAny_bind<|wpAny_typeOf hTs ?_;rw[if_pos (by decide)];refine wpAny_bind<|Zcy hs pl pu ?_;have hno:¬ ((((sIx items.size 0 lo:Nat):Int) == 0 && (1:Int) == 1 && (sIx items.size items.size hi-sIx items.size 0 lo) == items.size)=true):=by
  intro q;rw[Wau,Wau]at q;have q1:((sIx items.size 0 lo:Nat):Int)=0:=eq_of_beq q.1.1;have q2:sIx items.size items.size hi-sIx items.size 0 lo=items.size:=eq_of_beq q.2;exact hw ⟨by omega,by omega⟩
 show wpAny _ _ (if (((sIx items.size 0 lo:Nat):Int) == 0 && (1:Int) == 1 && (sIx items.size items.size hi-sIx items.size 0 lo) == items.size)=true then _ else _) _ _ s;rw[if_neg hno,Znn]
 first
  |exact wpAny_bind (m:=Builtin.Tuple.tupleExact _) (wpAny_newObj_type (wpAny_pure ⟨_,rfl,wpAny_pure h⟩) htake)
  |exact wpAny_bind (m:=Builtin.Tuple.tupleExact _) (wpAny_newObj_type (wpAny_bind (wpAny_pure (wpAny_pure ⟨_,rfl,wpAny_pure h⟩))) htake)
  |exact wpAny_bind (wpAny_bind (m:=Builtin.Tuple.tupleExact _) (wpAny_newObj_type (wpAny_pure (wpAny_pure ⟨_,rfl,wpAny_pure h⟩)) htake))
  |exact wpAny_bind (wpAny_bind (m:=Builtin.Tuple.tupleExact _) (wpAny_newObj_type (wpAny_pure ⟨_,rfl,wpAny_pure h⟩) htake))
end
end HT
namespace L2
open PySem PySem.Spec PyProof.Rows
abbrev TO:=St->Hp->(Option Int->Hp->Prop)->Prop
def PO (X:Cx) (e:Option Expr) (t:TO):Prop:=
 ∀(pins:List (Addr × Obj)) (s:Shared) (σ:St) (H:Hp) (Q:Option Int->Hp->Prop),Inv X pins σ H s->t σ H Q →
  wpAny (model X.prog X.w) X.A (evalPart e X.env) (λu s'=>∃o H',Inv X pins σ H' s' /\ IsPart u o/\Q o H') X.xe s
def tNoPart:TO:=λ_ H Q=>Q none H
def tPart (t:TE):TO:=λσ H Q=>t σ H λx H1=>∃i,x=.int i/\Q (some i) H1
theorem Zdz {ns:List Int}:∀{us:List Value},Vals (ns.map V.int) us->IntsAre us ns:=by
 induction ns with
 |nil=>intro us r;rw[Wc0]at r;cases r;exact .nil
 |cons n ns ih=>
  intro us r;rw[Wav]at r;cases r with
  |cons r1 r2=>
   obtain⟨t,e⟩:=r1;subst e;exact .cons n t<|ih r2
section
variable {X:Cx}{e:Expr}{te:TE}{lo hi:Option Expr}{tl th:TO}{pos p2:Pos}
theorem Zig:PO X none tNoPart:=by
 intro pins s σ H Q I h;rw[evalPart_none];exact wpAny_pure ⟨none,H,I,.none,h⟩
theorem Zho (h:PE X e te):PO X (some e) (tPart te):=by
 intro pins s σ H Q I hw;rw[evalPart_some];refine thn (h pins s σ H _ I hw) λu s1 ⟨x,H1,I1,r1,q1⟩=>?_;obtain⟨i,rfl,q⟩:=q1;obtain⟨t,rfl⟩:=r1;exact⟨some i,H1,I1,.int i t,q⟩
def SlR (X:Cx) (r:V->Option Int->Option Int->Hp->VK->Prop):Prop:=
 ∀(pins:List (Addr × Obj)) (s:Shared) (σ:St) (H:Hp) (x:V) (v vl vu:Value) (lo hi:Option Int) (sl:Addr) (Q:VK),Inv X pins σ H s->RelV x v->s.heap.IsSliceOf sl vl vu .none->IsPart vl lo->IsPart vu hi->r x lo hi H Q →
  ∃T id,typeLookup (.type T) "__getitem__" = pure (some (.builtin id))/\s.TypeIs v T/\wpAny (model X.prog X.w) X.A (getItem v (.ref sl)) (EP X pins σ Q) X.xe s
theorem SlR.or {r r':V->Option Int->Option Int->Hp->VK->Prop}(h:SlR X r) (h':SlR X r'):SlR X (λx lo hi H Q=>r x lo hi H Q\/r' x lo hi H Q):=by
 intro pins s σ H x v vl vu lo hi sl Q I rx hs pl pu q;rcases q with q|q
 ·exact h pins s σ H x v vl vu lo hi sl Q I rx hs pl pu q
 ·exact h' pins s σ H x v vl vu lo hi sl Q I rx hs pl pu q
def tSl (r:V->Option Int->Option Int->Hp->VK->Prop) (te:TE) (tl th:TO):TE:=λσ H Q=>te σ H λx H1=>tl σ H1 λl H2=>th σ H2 λu H3=>r x l u H3 Q
theorem Zge {r:V->Option Int->Option Int->Hp->VK->Prop}(hr:SlR X r) (he:PE X e te) (hl:PO X lo tl) (hu:PO X hi th):PE X (.Subscript e (.Slice lo hi none p2) pos) (tSl r te tl th):=by
 intro pins s σ H Q I h;refine Subscript_ (thn (he pins s σ H _ I h) λv s1 ⟨x,H1,I1,r1,q1⟩=>?_);refine wpAny_Slice (thn (hl pins s1 σ H1 _ I1 q1) λvl s2 ⟨l,H2,I2,pl,q2⟩=>thn (hu pins s2 σ H2 _ I2 q2) λvu s3 ⟨u,H3,I3,pu,q3⟩=>?_);rw[evalPart_none];refine wpAny_pure ?_;have I4:Inv X pins σ H3 { s3 with heap:=s3.heap.push { cls:=.type "slice",data:=.fields #[vl,vu,.none] } }:=I3.kept (t':=s3.toks) λb ob q=>Waa _ q;obtain⟨T,id,hT,ht,hg⟩:=hr pins { s3 with heap:=s3.heap.push { cls:=.type "slice",data:=.fields #[vl,vu,.none] } } σ H3 x v vl vu l u s3.heap.objs.size Q I4 r1 (Heap.IsSliceOf.new ..) pl pu q3;show wpAny (model X.prog X.w) X.A (subscriptTail e (.Slice lo hi none p2) v (.ref s3.heap.objs.size)) (EP X pins σ Q) X.xe { s3 with heap:=s3.heap.push { cls:=.type "slice",data:=.fields #[vl,vu,.none] } };exact tail_any (ops:=[.ref s3.heap.objs.size,v]) ht hT hg (by with_unfolding_all rfl)
def cutV (xs:List V) (lo hi:Option Int):List V:=(xs.drop<|HT.sIx xs.length 0 lo).take (HT.sIx xs.length xs.length hi-HT.sIx xs.length 0 lo)
theorem Ze3 (xs:List V) (lo hi:Option Int):(cutV xs lo hi).length<=xs.length:=by
 unfold cutV;rw[Wbd,Wb4];omega
def rSlT (K:W.Frag):V->Option Int->Option Int->Hp->VK->Prop:=λx lo hi H Q=>∃a xs,x=.ref a/\SqT K H a xs ∧
 ¬ (HT.sIx xs.length 0 lo=0/\HT.sIx xs.length xs.length hi=xs.length)/\∀p,H p=none->Q (.ref p) (upd H p (.tup<|cutV xs lo hi))
theorem Zrx:SlR X (rSlT X.K):=by
 intro pins s σ H x v vl vu lo hi sl Q I rx hs pl pu h;obtain⟨a,xs,rfl,hx,hw,q⟩:=h;cases rx;obtain⟨its,r,ht,hz⟩:=I.tuple hx;have hlen:its.toArray.size=xs.length:=by rw[Wae];exact r.length.symm
 refine⟨"tuple",_,PyProof.Rows.slot_tuple_getitem.lookup,ht.typeIs,?_⟩;refine HT.getItem_tuple_cut ht hs pl pu (by rw[hlen];exact hw) ?_ (by rw[hlen];exact hz);rw[hlen];refine⟨.ref s.heap.objs.size,_,I.laid (t':=s.toks) (o:=.tup<|cutV xs lo hi) (λb ob q=>Waa _ q) (Waf _) ?_,rfl,q _<|I.hok.fresh<|Waf _⟩;exact⟨Was (Ze3 xs lo hi) hz,_,(r.drop<|HT.sIx xs.length 0 lo).take (HT.sIx xs.length xs.length hi-HT.sIx xs.length 0 lo),IsTupN.new _ _⟩
def rCatT (K:W.Frag):R2:=λx y H Q=>∃a b xs ys,x=.ref a/\y=.ref b/\SqT K H a xs/\SqT K H b ys/\xs≠[]/\xs.length+ys.length<=sizeLine ∧
 (ys=[]->Q (.ref a) H)/\(ys≠[]->∀p,H p=none->Q (.ref p) (upd H p (.tup<|xs++ys)))
theorem Vals.nil_iff {xs:List V}{us:List Value}(r:Vals xs us):us=[]↔xs=[]:=by
 cases r with
 |nil=>simp
 |cons _ _=>simp
theorem Zrd:OpR X (binaryOp .Add) (rCatT X.K):=by
 intro pins s σ H x y v u Q I rx ry h;obtain⟨a,b,xs,ys,rfl,rfl,ha,hb,hx,hz,q1,q2⟩:=h;cases rx;cases ry;obtain⟨its,r1,p1,_⟩:=I.tuple ha;obtain⟨its2,r2,p2,_⟩:=I.tuple hb;refine HT.cat_tup p1 p2 (λz=>hx<|r1.nil_iff.mp z) (λz=>⟨.ref a,H,I,rfl,q1<|r2.nil_iff.mp z⟩) (λz=>?_) (by rw[<- r1.length,<- r2.length];exact hz);refine⟨.ref s.heap.objs.size,_,I.laid (t':=s.toks) (o:=.tup<|xs++ys) (λb ob q=>Waa _ q) (Waf _) ?_,rfl,q2 (λw=>z<|r2.nil_iff.mpr w) _<|I.hok.fresh<|Waf _⟩;exact⟨by rw[War];exact hz,_,r1.append r2,IsTupN.new _ _⟩
end
end L2
namespace L2
open PySem PySem.Spec PyProof.Rows
def ixN (n:Nat) (i:Int):Option Nat:=if 0<=i then (if i<n then some i.toNat else none) else if -(n:Int)<=i then some (i+n).toNat else none
def atI {α:Type}(xs:List α) (i:Int):Option α:=(ixN xs.length i).bind λj=>xs[j]?
theorem Zmo {n:Nat}{i:Int}{j:Nat}(h:ixN n i=some j):seqIndex? i n=some j/\j<n /\ -(n:Int)<=i/\i<n:=by
 unfold ixN at h;by_cases h0:0<=i
 ·rw[if_pos h0]at h
  by_cases h1:i<n
  ·rw[if_pos h1]at h
   have e:i.toNat=j:=Wat.inj h;exact⟨by rw[seqIndex_of h0 h1,e],by omega,by omega,h1⟩
  ·rw[if_neg h1]at h;cases h
 ·rw[if_neg h0]at h
  by_cases h1:-(n:Int)<=i
  ·rw[if_pos h1]at h
   have e:(i+n).toNat=j:=Wat.inj h;exact⟨by rw[seqIndex_neg (by omega) h1,e],by omega,h1,by omega⟩
  ·rw[if_neg h1]at h;cases h
theorem Zhz {α:Type}{xs:List α}{i:Int}{v:α}(h:atI xs i=some v):∃j,seqIndex? i xs.length=some j/\xs[j]?=some v/\j<xs.length /\ -(xs.length:Int)<=i/\i<xs.length:=by
 unfold atI at h;cases e:ixN xs.length i with
 |none=>rw[e]at h;cases h
 |some j=>
  rw[e]at h;obtain⟨h1,h2,h3,h4⟩:=Zmo e;exact⟨j,h1,h,h2,h3,h4⟩
theorem Zbj {α:Type}{xs:List α}{j:Nat}{v:α}(h:xs[j]?=some v):atI xs (j:Int)=some v:=by
 have hj:j<xs.length:=(Wap.mp h).1;have e:ixN xs.length (j:Int)=some j:=by
  unfold ixN;rw[if_pos (by omega),if_pos (by omega)];simp
 unfold atI;rw[e];exact h
def PlainIx (b:Expr):Prop:=∀o i,subscripted b false o i=operate [o,i] (getItem o i)
def IxR (X:Cx) (r:R2):Prop:=
 ∀(value slice:Expr) (pins:List (Addr × Obj)) (s:Shared) (σ:St) (H:Hp) (x y:V) (v u:Value) (Q:VK),Inv X pins σ H s->RelV x v->RelV y u->r x y H Q →
  subscripted slice false v u=operate [v,u] (getItem v u)->wpAny (model X.prog X.w) X.A (subscriptTail value slice v u) (EP X pins σ Q) X.xe s
def MtR (X:Cx) (id:String) (r:V->List V->Hp->VK->Prop):Prop:=
 ∀(pins:List (Addr × Obj)) (s:Shared) (σ:St) (H:Hp) (x:V) (xs:List V) (v:Value) (us:List Value) (Q:VK),Inv X pins σ H s->RelV x v->Vals xs us->r x xs H Q →
  wpAny (model X.prog X.w) X.A (call (.builtin id) (v::us)) (EP X pins σ Q) X.xe s
section
variable {X:Cx}{a b:Expr}{ta tb:TE}{pos:Pos}
theorem IxR.or {r r':R2}(h:IxR X r) (h':IxR X r'):IxR X (λx y H Q=>r x y H Q\/r' x y H Q):=by
 intro value slice pins s σ H x y v u Q I rx ry q hs;rcases q with q|q
 ·exact h value slice pins s σ H x y v u Q I rx ry q hs
 ·exact h' value slice pins s σ H x y v u Q I rx ry q hs
theorem Za6 {r:R2}(hr:IxR X r) (ha:PE X a ta) (hb:PE X b tb) (hs:PlainIx b):PE X (.Subscript a b pos) (tOp r ta tb):=by
 intro pins s σ H Q I h;exact Subscript_ (binT ha hb I h λv u s2 x y H2 I2 rx ry q=>hr a b pins s2 σ H2 x y v u Q I2 rx ry q<|hs _ _)
def rIxL (K:W.Frag):R2:=λx y H Q=>∃p xs i v,x=.ref p/\y=.int i/\SqL K H p xs/\atI xs i=some v/\Q v H
def rIxT (K:W.Frag):R2:=λx y H Q=>∃p xs i v,x=.ref p/\y=.int i/\SqT K H p xs/\atI xs i=some v/\Q v H
def rIxS:R2:=λx y H Q=>∃z i c,x=.str z/\y=.int i/\z.length<=sizeLine/\atI z.cps.toList i=some c/\Q (.str ⟨#[c]⟩) H
theorem Zp5:IxR X (rIxL X.K):=by
 intro value slice pins s σ H x y v u Q I rx ry h hs;obtain⟨p,xs,i,z,rfl,rfl,hq,he,q⟩:=h;cases rx;obtain⟨t,rfl⟩:=ry;obtain⟨its,r,pl,hz⟩:=I.list hq;obtain⟨j,h1,h2,h3,h4,h5⟩:=Zhz he;obtain⟨w,ew,rw'⟩:=r.get h2;have hl:=r.length;have hn:=line63;have fin:EP X pins σ Q w s:=⟨z,H,I,rw',q⟩;by_cases h0:0<=i
 ·have hj:i.toNat=j:=by
   rw[seqIndex_of h0 h5]at h1;exact Wat.inj h1
  exact item_listR pl.isList h0 (by omega) (by rw[hj];simpa using ew) fin hs
 ·have hj:(i+(its.toArray.size:Int)).toNat=j:=by
   rw[seqIndex_neg (by omega) h4]at h1;rw[Wae,<- hl];exact Wat.inj h1
  exact subscriptTail_builtinR (x:=w) pl.isList.typeIs slot_list_getitem.lookup
   (wpAny_getItem_list_neg (Q:=λr s'=>r=w/\EP X pins σ Q r s') pl.isList (by omega) (by rw[Wae] <;> omega) (by omega) (by rw[hj];simpa using ew) ⟨rfl,fin⟩) hs
theorem Zry:IxR X (rIxT X.K):=by
 intro value slice pins s σ H x y v u Q I rx ry h hs;obtain⟨p,xs,i,z,rfl,rfl,hq,he,q⟩:=h;cases rx;obtain⟨t,rfl⟩:=ry;obtain⟨its,r,pl,hz⟩:=I.tuple hq;obtain⟨j,h1,h2,h3,h4,h5⟩:=Zhz he;obtain⟨w,ew,rw'⟩:=r.get h2;have hl:=r.length;have hn:=line63;have fin:EP X pins σ Q w s:=⟨z,H,I,rw',q⟩;exact subscriptTail_builtinR (x:=w) pl.typeIs slot_tuple_getitem.lookup
  (getItem_tuple (j:=j) (Q:=λr s'=>r=w/\EP X pins σ Q r s') pl (by omega) (by omega) (by rw[Wae,<- hl];exact h1) (by simpa using ew) ⟨rfl,fin⟩) hs
theorem Zsw:IxR X rIxS:=by
 intro value slice pins s σ H x y v u Q I rx ry h hs;obtain⟨z,i,c,rfl,rfl,hz,he,q⟩:=h;obtain⟨t,rfl⟩:=rx;obtain⟨t',rfl⟩:=ry;obtain⟨j,h1,h2,h3,h4,h5⟩:=Zhz he;have hl:z.cps.toList.length=z.length:=by simp[Str.length]
 rw[hl]at h1 h4 h5;have hn:=line63;exact tail_any (typeIs_str s z t) slot_str_getitem.lookup (getItem_str (c:=c) (by
  have e1:decide (i < -(2 ^ 63:Int))=false:=decide_eq_false (by omega);have e2:decide (i ≥ 2 ^ 63)=false:=decide_eq_false (by omega);rw[e1,e2,Bool.or_false]) (by rw[h1];simpa using h2) ⟨.str ⟨#[c]⟩,H,I.tok _,⟨_,rfl⟩,q⟩) hs
def rIx (K:W.Frag):R2:=λx y H Q=>rIxL K x y H Q\/rIxT K x y H Q\/rIxS x y H Q
theorem Zse:IxR X (rIx X.K):=Zp5.or<|Zry.or Zsw
theorem Zjv (its:List Value) (n j:Nat) (u:Value):Obj.mapSeq (·.setIfInBounds j u) { cls:=.type "list",data:=.seq its.toArray n } = { cls:=.type "list",data:=.seq (its.set j u).toArray n }:=by
 simp[Obj.mapSeq]
theorem Inv.lst {pins:List (Addr × Obj)}{σ:St}{H:Hp}{s:Shared}{p:Addr}{xs:List V}(I:Inv X pins σ H s) (h:H p=some (.lst xs)) :
  ∃(its:List Value) (n:Nat),Vals xs its/\s.heap.get? p=some { cls:=.type "list",data:=.seq its.toArray n } /\ xs.length<=sizeLine:=by
 obtain⟨z,its,n,r,e⟩:=I.hok p _ h;exact⟨its,n,r,e,z⟩
theorem Inv.lstUpd {pins:List (Addr × Obj)}{σ:St}{H:Hp}{s:Shared}{p:Addr}{xs ys:List V}{its its':List Value}{n n':Nat}{f:Obj->Obj}(I:Inv X pins σ H s) (h:H p=some (.lst xs))
  (ho:s.heap.get? p=some { cls:=.type "list",data:=.seq its.toArray n }) (hf:f { cls:=.type "list",data:=.seq its.toArray n } = { cls:=.type "list",data:=.seq its'.toArray n' }) (r:Vals ys its') (hz:ys.length<=sizeLine) (t:Nat) :
  Inv X pins σ (upd H p (.lst ys)) { s with heap:=s.heap.update p f,toks:=t }:=by
 have e:(s.heap.update p f).get? p=some { cls:=.type "list",data:=.seq its'.toArray n' }:=by
  rw[Wbi f ho (by rw[hf] <;> rfl),hf]
 refine I.write (x:=p) (e:=p) (by rw[h];trivial) (.inl rfl) (λb u hb q=>(Wbc _ _<|Ne.symm hb).trans q) ⟨_,e⟩ ?_;exact⟨hz,its',n',r,e⟩
def rSetL:V->V->V->Hp->(Hp->Prop)->Prop:=λo i v H Q=>∃p xs k j,o=.ref p/\i=.int k/\H p=some (.lst xs)/\ixN xs.length k=some j/\Q (upd H p (.lst<|xs.set j v))
theorem Zoq:PSet X rSetL:=by
 intro pins s σ H o i v ov iv u Q I ro ri rv h;obtain⟨p,xs,k,j,rfl,rfl,hp,hj,q⟩:=h;cases ro;obtain⟨t,rfl⟩:=ri;obtain⟨its,n,r,ho,hz⟩:=I.lst hp;obtain⟨h1,h2,h3,h4⟩:=Zmo hj;have hl:=r.length;have hn:=line63;have I':Inv X pins σ (upd H p (.lst<|xs.set j v)) { s with heap:=s.heap.update p (Obj.mapSeq (·.setIfInBounds j u)) }:=
  I.lstUpd hp ho (Zjv its n j u) (r.set rv j) (by rw[Wb9];exact hz) s.toks
 by_cases h0:0<=k
 ·have hk:k.toNat=j:=by
   rw[seqIndex_of h0 h4]at h1;exact Wat.inj h1
  exact PySem.W.ki_setAt ho h0 (by omega) (by rw[Wae,<- hl];exact h4) (by rw[hk];exact⟨_,I',q⟩)
 ·have hk:(k+(its.toArray.size:Int)).toNat=j:=by
   rw[seqIndex_neg (by omega) h3]at h1;rw[Wae,<- hl];exact Wat.inj h1
  exact PySem.W.ki_setBack ho (by omega) (by rw[Wae,<- hl];exact h3) (by omega) (by rw[hk];exact⟨_,I',q⟩)
theorem Zg9 (lo hi:Option Int) (n:Nat):(sliceBounds lo hi none n).1=((HT.sIx n 0 lo:Nat):Int)/\(sliceBounds lo hi none n).2.1=((HT.sIx n n hi:Nat):Int)/\(sliceBounds lo hi none n).2.2=1:=by
 refine⟨?_,?_,rfl⟩
 ·cases lo with
  |none=>simp[sliceBounds,HT.sIx]
  |some i=>
   simp only[sliceBounds,HT.sIx,Option.getD_none,show (1:Int) > 0 by decide,if_true];by_cases h:i<0
   ·simp only[h,if_true] <;> omega
   ·simp only[h,if_false] <;> omega
 ·cases hi with
  |none=>simp[sliceBounds,HT.sIx]
  |some i=>
   simp only[sliceBounds,HT.sIx,Option.getD_none,show (1:Int) > 0 by decide,if_true];by_cases h:i<0
   ·simp only[h,if_true] <;> omega
   ·simp only[h,if_false] <;> omega
theorem Zf5 (its:List Value) (lo hi:Option Int):slicePick its.toArray lo hi none=((its.drop<|HT.sIx its.length 0 lo).take (HT.sIx its.length its.length hi-HT.sIx its.length 0 lo)).toArray:=by
 obtain⟨h1,h2,h3⟩:=Zg9 lo hi its.toArray.size;unfold slicePick;rw[h1,h2,h3];simp only[sliceRange_one,pick_run,Wae] <;> rfl
def rSlL (K:W.Frag):V->Option Int->Option Int->Hp->VK->Prop:=λx lo hi H Q=>∃a xs,x=.ref a/\SqL K H a xs/\∀p,H p=none->Q (.ref p) (upd H p (.lst<|cutV xs lo hi))
theorem Zqc:SlR X (rSlL X.K):=by
 intro pins s σ H x v vl vu lo hi sl Q I rx hs pl pu h;obtain⟨a,xs,rfl,hx,q⟩:=h;cases rx;obtain⟨its,r,ht,hz⟩:=I.list hx;have hlen:=r.length;refine⟨"list",_,slot_list_getitem.lookup,ht.isList.typeIs,?_⟩;refine wpAny_getItem_list_slice ht.isList hs pl pu .none (by simp) ?_ (by rw[Wae] <;> omega)
 rw[Zf5,<- hlen];refine⟨.ref s.heap.objs.size,_,I.laid (t':=s.toks) (o:=.lst<|cutV xs lo hi) (λb ob q=>Waa _ q) (Waf _) ?_,rfl,q _<|I.hok.fresh<|Waf _⟩;exact⟨Was (Ze3 xs lo hi) hz,_,0,(r.drop<|HT.sIx xs.length 0 lo).take (HT.sIx xs.length xs.length hi-HT.sIx xs.length 0 lo),Wag _ rfl⟩
def flatV:V->Bool
 |.non=>true
 |.bl _=>true
 |.int _=>true
 |.str _=>true
 |_=>false
def eqV:V->V->Bool
 |.non,.non=>true
 |.bl a,.bl b=>a == b
 |.bl a,.int b=>(if a then 1 else 0) == b
 |.int a,.bl b=>a == (if b then 1 else 0)
 |.int a,.int b=>a == b
 |.str a,.str b=>a == b
 |_,_=>false
theorem Zrp {A:Around}{s:Shared}{y x:V}{u v:Value}(ry:RelV y u) (rx:RelV x v) (fy:flatV y=true) (fx:flatV x=true):SeqAt.EqAt A s u v (eqV y x):=by
 cases y with
 |non=>
  cases ry;cases x with
  |non=>cases rx;exact SeqAt.EqAt.same _
  |bl b=>cases rx;exact SeqAt.EqAt.none_bool b
  |int b=>obtain⟨t,rfl⟩:=rx;exact SeqAt.EqAt.none_int b t
  |str b=>obtain⟨t,rfl⟩:=rx;exact SeqAt.EqAt.none_str b t
  |_=>exact absurd (show false=true from fx) Wai
 |bl a=>
  cases ry;cases x with
  |non=>cases rx;exact SeqAt.EqAt.bool_none a
  |bl b=>cases rx;exact SeqAt.EqAt.bool_bool a b
  |int b=>obtain⟨t,rfl⟩:=rx;exact SeqAt.EqAt.bool_int a b t
  |str b=>obtain⟨t,rfl⟩:=rx;exact SeqAt.EqAt.bool_str a b t
  |_=>exact absurd (show false=true from fx) Wai
 |int a=>
  obtain⟨t',rfl⟩:=ry;cases x with
  |non=>cases rx;exact SeqAt.EqAt.int_none a t'
  |bl b=>cases rx;exact SeqAt.EqAt.int_bool a t' b
  |int b=>obtain⟨t,rfl⟩:=rx;exact SeqAt.EqAt.int_int a t' b t
  |str b=>obtain⟨t,rfl⟩:=rx;exact SeqAt.EqAt.int_str a t' b t
  |_=>exact absurd (show false=true from fx) Wai
 |str a=>
  obtain⟨t',rfl⟩:=ry;cases x with
  |non=>cases rx;exact SeqAt.EqAt.str_none a t'
  |bl b=>cases rx;exact SeqAt.EqAt.str_bool a t' b
  |int b=>obtain⟨t,rfl⟩:=rx;exact SeqAt.EqAt.str_int a t' b t
  |str b=>obtain⟨t,rfl⟩:=rx;exact SeqAt.EqAt.str_str a t' b t
  |_=>exact absurd (show false=true from fx) Wai
 |_=>exact absurd (show false=true from fy) Wai
def eqU (x:V) (u:Value):Bool:=match u with
 |.none=>eqV .non x
 |.bool b=>eqV (.bl b) x
 |.int i _=>eqV (.int i) x
 |.str z _=>eqV (.str z) x
 |_=>false
theorem Zo0 {x y:V}{u:Value}(r:RelV y u) (f:flatV y=true):eqU x u=eqV y x:=by
 cases y with
 |non=>cases r;rfl
 |bl b=>cases r;rfl
 |int i=>obtain⟨t,rfl⟩:=r;rfl
 |str z=>obtain⟨t,rfl⟩:=r;rfl
 |_=>exact absurd (show false=true from f) Wai
theorem Zib {x:V}:∀{xs:List V}{us:List Value},Vals xs us->xs.all flatV=true->us.any (eqU x)=xs.any λy=>eqV y x
 |_,_,.nil,_=>rfl
 |y::xs,u::us,.cons r t,f=>by
  rw[Wcv,Wau]at f;rw[Wcl,Wcl,Zo0 r f.1,Zib t f.2]
theorem Zgl {A:Around}{s:Shared}{x:V}{v:Value}(rx:RelV x v) (fx:flatV x=true):∀{xs:List V}{us:List Value},Vals xs us->xs.all flatV=true->∀u∈us,SeqAt.EqAt A s u v (eqU x u)
 |_,_,.nil,_=>λu hu=>by cases hu
 |y::xs,u::us,.cons r t,f=>λu' hu=>by
  rw[Wcv,Wau]at f;rcases Wah.mp hu with rfl|hu
  ·rw[Zo0 r f.1];exact Zrp r rx f.1 fx
  ·exact Zgl rx fx t f.2 u' hu
def inV (x:V) (xs:List V):Bool:=xs.any λy=>eqV y x
def rIn (K:W.Frag) (neg:Bool):R2:=λx y H Q=>∃p xs,y=.ref p/\(SqL K H p xs\/SqT K H p xs)/\flatV x=true/\xs.all flatV=true/\Q (.bl (if neg then !inV x xs else inV x xs)) H
theorem Zl9:OpR X (compareOp .In) (rIn X.K false):=by
 intro pins s σ H x y v u Q I rx ry h;obtain⟨p,xs,rfl,hq,fx,fs,q⟩:=h;cases ry;rcases hq with hq|hq
 ·obtain⟨its,r,pl,hz⟩:=I.list hq
  refine SeqAt.in_listAt (eqU x) pl.isList (λw hw=>Zgl rx fx r fs w (by simpa using hw)) ⟨.bl _,H,I,rfl,?_⟩;rw[show its.toArray.any (eqU x)=its.any (eqU x) by simp,Zib r fs];exact q
 ·obtain⟨its,r,pl,hz⟩:=I.tuple hq
  refine SeqAt.in_tupleAt (eqU x) pl (λw hw=>Zgl rx fx r fs w (by simpa using hw)) ⟨.bl _,H,I,rfl,?_⟩;rw[show its.toArray.any (eqU x)=its.any (eqU x) by simp,Zib r fs];exact q
theorem Zgx:CallR X (.builtin "len") (λxs H Q=>∃p ys,xs=[.ref p]/\(SqL X.K H p ys\/SqT X.K H p ys)/\Q (.int ys.length) H):=by
 intro pins s σ H xs us Q I r h;obtain⟨p,ys,rfl,hq,q⟩:=h;obtain⟨u,rfl,rx⟩:=vals1 r;cases rx;have hn:=line63;rcases hq with hq|hq
 ·obtain⟨its,r',pl,hz⟩:=I.list hq
  have hlen:=r'.length;exact Calls.call_len_list pl.isList (by simp only[Wae] <;> omega) ⟨.int ys.length,H,I.tok _,⟨s.toks+1,by rw[Wae,hlen]⟩,q⟩
 ·obtain⟨its,r',pl,hz⟩:=I.tuple hq
  have hlen:=r'.length;exact len_tuple pl (by simp only[Wae] <;> omega) ⟨.int ys.length,H,I.tok _,⟨s.toks+1,by rw[Wae,hlen]⟩,q⟩
theorem Zg5:CallR X (.builtin "len") (λxs H Q=>∃z,xs=[.str z]/\z.length<=sizeLine/\Q (.int z.length) H):=by
 intro pins s σ H xs us Q I r h;obtain⟨z,rfl,hz,q⟩:=h;obtain⟨u,rfl,t,rfl⟩:=vals1 r;have hn:=line63;exact len_str (by omega) ⟨.int z.length,H,I.tok _,⟨_,rfl⟩,q⟩
theorem CallR.or {f:Value}{r r':List V->Hp->VK->Prop}(h:CallR X f r) (h':CallR X f r'):CallR X f (λxs H Q=>r xs H Q\/r' xs H Q):=by
 intro pins s σ H xs us Q I rs q;rcases q with q|q
 ·exact h pins s σ H xs us Q I rs q
 ·exact h' pins s σ H xs us Q I rs q
theorem Zf2:CallR X (.type "tuple") (λxs H Q=>∃p ys,xs=[.ref p]/\((SqL X.K H p ys/\∀l,H l=none->Q (.ref l) (upd H l (.tup ys)))\/(SqT X.K H p ys/\Q (.ref p) H))):=by
 intro pins s σ H xs us Q I r h;obtain⟨p,ys,rfl,h⟩:=h;obtain⟨u,rfl,rx⟩:=vals1 r;cases rx;rcases h with ⟨hq,q⟩|⟨hq,q⟩
 ·obtain⟨its,r',pl,hz⟩:=I.list hq
  have hlen:=r'.length;refine call_tuple_list pl.isList (λh' kp=>?_) (by simp only[Wae] <;> omega)
  have I1:Inv X pins σ H { s with heap:=h' }:=I.kept (t':=s.toks) kp;have I2:Inv X pins σ (upd H h'.objs.size (.tup ys)) { s with heap:=h'.push { cls:=.type "tuple",data:=.seq its.toArray } }:=
   I1.laid (t':=s.toks) (λb o e=>Waa _ e) (Waf _) (show ObjOk X.prog X.w _ _ _ (.tup ys) from ⟨hz,its,r',IsTupN.new _ _⟩)
  exact⟨.ref h'.objs.size,_,I2,rfl,q _<|I1.hok.fresh<|Waf _⟩
 ·obtain⟨its,r',pl,hz⟩:=I.tuple hq
  exact call_tuple_same pl ⟨.ref p,H,I,rfl,q⟩
def tyV (K:W.Frag) (T:String) (x:V) (H:Hp):Prop:=match x with
 |.str _=>T = "str"
 |.int _=>T = "int"
 |.ref p=>(T = "list" /\ ∃xs,SqL K H p xs)\/(T = "tuple" /\ ((∃o,K.lookup p=some o/\o.cls=.type "tuple" /\ o.dict=none)\/∃xs,H p=some (.tup xs))) ∨
   (T = "dict" /\ ((∃kvs,H p=some (.dK kvs))\/∃kvs,H p=some (.dT kvs)))\/(T = "set" /\ ∃S n,H p=some (.set S n))
 |_=>False
theorem Zsz {pins:List (Addr × Obj)}{σ:St}{H:Hp}{s:Shared}{T:String}{x:V}{v:Value}(I:Inv X pins σ H s) (r:RelV x v) (ty:tyV X.K T x H) :
  s.TypeIs v T/\∀a,v=.ref a->∃ob,s.heap.get? a=some ob/\ob.dict=none:=by
 cases x with
 |str z=>
  obtain⟨t,rfl⟩:=r;cases (show T = "str" from ty);exact⟨typeIs_str s z t,λ_ e=>nomatch e⟩
 |int i=>
  obtain⟨t,rfl⟩:=r;cases (show T = "int" from ty);exact⟨typeIs_int s i t,λ_ e=>nomatch e⟩
 |ref p=>
  cases r;rcases ty with ⟨rfl,xs,hq⟩|⟨rfl,(⟨o,hk,hc,hd⟩|⟨xs,hk⟩)⟩|⟨rfl,hk⟩|⟨rfl,S,n,hk⟩
  ·obtain⟨its,_,pl,_⟩:=I.list hq
   refine⟨pl.isList.typeIs,λa e=>?_⟩;cases e;obtain⟨o,n,e,c,hd,_⟩:=pl;exact⟨o,e,hd⟩
  ·refine⟨⟨o,I.kIn p o hk,hc⟩,λa e=>?_⟩
   cases e;exact⟨o,I.kIn _ o hk,hd⟩
  ·obtain⟨_,_,_,o,e,⟨hc,_⟩,hd⟩:=I.hok p _ hk
   refine⟨⟨o,e,hc⟩,λa e2=>?_⟩;cases e2;exact⟨o,e,hd⟩
  ·have z:∃o,s.heap.get? p=some o/\o.ExactDict:=by
    rcases hk with ⟨kvs,hk⟩|⟨kvs,hk⟩
    ·obtain⟨_,_,_,_,o,_,_,e,ex,_⟩:=I.hok p _ hk
     exact⟨o,e,ex⟩
    ·obtain⟨_,_,_,_,o,_,_,e,ex,_⟩:=I.hok p _ hk
     exact⟨o,e,ex⟩
   obtain⟨o,e,ex⟩:=z;refine⟨⟨o,e,ex.1⟩,λa e2=>?_⟩;cases e2;exact⟨o,e,ex.2.1⟩
  ·obtain⟨o,_,_,_,e,ex,_⟩:=I.hok p _ hk
   refine⟨⟨o,e,ex.1⟩,λa e2=>?_⟩;cases e2;exact⟨o,e,ex.2.1⟩
 |_=>exact False.elim ty
def tBM (K:W.Frag) (T:String) (r:V->List V->Hp->VK->Prop) (to:TE) (t:TA):TE:=λσ H Q=>to σ H λx H1=>tyV K T x H1/\t σ H1 λxs H2=>r x xs H2 Q
variable {o e:Expr}{es:List Expr}{to:TE}{t:TA}{name:Str}{apos cpos:Pos}{T id:String}{r:V->List V->Hp->VK->Prop}
theorem Ztv (pa:PlainAttrs T) (slot:Slot T name id) (hty:typeOf (.builtin id)=pure (.type "method_descriptor")) (hm:MtR X id r) (ho:PE X o to) (ha:PA X (e::es) t)
  (hbase:attributeBase o name X.env (eval o X.env)=eval o X.env:=by rfl)
  (hfew:((backTo cpos (starEach (e::es) X.env)).all (λx=>!x.1) && (backToKw cpos (keywordEach [] X.env)).all (λx=>x.1.isSome)
   && decide ((e::es).length+([]:List Keyword).length+(if ([]:List Keyword).isEmpty then 0 else 1)<30))=true:=by rfl)
  (hline:(apos.endLine == cpos.line)=true:=by rfl) (hs:starEach (e::es) X.env=(false,eval e X.env)::starEach es X.env:=by rfl) (hplain:(backTo cpos<|starEach es X.env).any (·.1)=false:=by rfl) :
  PE X (.Call (.Attribute o name apos) (e::es) [] cpos) (tBM X.K T r to t):=by
 intro pins s σ H Q I h;refine wpAny_Call_method_late hbase hfew hline rfl (thn (ho pins s σ H _ I h) λv s1 ⟨x,H1,I1,r1,ty,q1⟩=>?_);obtain⟨h1,h2⟩:=Zsz I1 r1 ty;refine⟨T,id,pa,slot,hty,h1,h2,?_⟩;have hA:=ha cpos pins s1 σ H1 _ I1 q1;rw[hs]at hA ⊢;refine Calls.callWith_builtin (by show (false || (backTo cpos<|starEach es X.env).any (·.1))=false;rw[hplain] <;> rfl)<|Calls.evalArgs_plain ?_
 exact thn hA λus s2 ⟨vs,H2,I2,r2,q2⟩=>hm pins s2 σ H2 x vs v us Q I2 r1 r2 q2
end
end L2
namespace L2
open PySem PySem.Spec PyProof.Rows
def MtM (X:Cx) (id:String) (r:V->List V->Hp->VK->Prop):Prop:=
 ∀(pins:List (Addr × Obj)) (s:Shared) (σ:St) (H:Hp) (x:V) (xs:List V) (v:Value) (us:List Value) (Q:VK),Inv X pins σ H s->RelV x v->Vals xs us->r x xs H Q →
  wpAny (model X.prog X.w) X.A (call (.builtin id) (v::us)) (EP X pins σ Q) X.xe s
theorem Vals.one:∀{x:V}{us:List Value},Vals [x] us->∃u,us=[u]/\RelV x u:=by
 intro x us h;cases h with|cons r t=>cases t;exact⟨_,rfl,r⟩
theorem Vals.two:∀{x y:V}{us:List Value},Vals [x,y] us->∃u v,us=[u,v]/\RelV x u/\RelV y v:=by
 intro x y us h;cases h with|cons r t=>cases t with|cons q t=>cases t;exact⟨_,_,rfl,r,q⟩
section
variable {X:Cx}{pins:List (Addr × Obj)}{σ:St}{H:Hp}{s:Shared}{l b:Addr}{xs ys zs:List V}
theorem Inv.lset {its its':List Value}{n:Nat}{f:Array Value->Array Value}{t':Nat}(I:Inv X pins σ H s) (hH:H l=some (.lst xs))
  (e:s.heap.get? l=some { cls:=.type "list",data:=.seq its.toArray n }) (hf:f its.toArray=its'.toArray) (hv:Vals ys its') (hz:ys.length<=sizeLine) :
  Inv X pins σ (upd H l (.lst ys)) { s with heap:=s.heap.update l<|Obj.mapSeq f,toks:=t' }:=by
 have q:=PySem.IsL.update e f;rw[hf]at q;refine I.write (x:=l) (e:=l) (by rw[hH];exact trivial) (.inl rfl) (λb' u hb hu=>(Wbc s.heap (Obj.mapSeq f)<|Ne.symm hb).trans hu) ⟨_,q⟩ ?_;exact⟨hz,its',_,hv,q⟩
theorem Inv.lnew {its:List Value}{t':Nat}(I:Inv X pins σ H s) (hv:Vals ys its) (hz:ys.length<=sizeLine) :
  Inv X pins σ (upd H s.heap.objs.size (.lst ys)) { s with heap:=s.heap.push { cls:=.type "list",data:=.seq its.toArray },toks:=t' }:=
 I.laid (λ_ _ q=>Waa _ q) (Waf _) ⟨hz,its,0,hv,Wag _ rfl⟩
theorem Inv.fresh (I:Inv X pins σ H s):H s.heap.objs.size=none:=I.hok.fresh<|Waf _
theorem Inv.lstM (I:Inv X pins σ H s) (hH:H l=some (.lst xs)):xs.length<=sizeLine/\∃(its:List Value) (n:Nat),Vals xs its/\xs.length=its.length/\s.heap.get? l=some { cls:=.type "list",data:=.seq its.toArray n }:=by
 obtain⟨z,its,n,r,e⟩:=I.hok l _ hH;exact⟨z,its,n,r,r.length,e⟩
end
section
variable {X:Cx}
def rAppend:V->List V->Hp->VK->Prop:=λx vs H Q=>∃l xs y,x=.ref l/\vs=[y]/\H l=some (.lst xs)/\xs.length<sizeLine/\Q .non (upd H l (.lst<|xs++[y]))
theorem Zdr:MtM X "list.append" rAppend:=by
 intro pins s σ H x vs v us Q I rx rv h;obtain⟨l,xs,y,rfl,rfl,hH,hz,q⟩:=h;cases rx;obtain⟨u,rfl,ru⟩:=rv.one;obtain⟨z,its,n,r,hl,e⟩:=I.lstM hH;refine call_meets F.slot_list_append ⟨_,e,rfl⟩ F.entry_list_append (F.args_list_append_2 _ _) (PySem.list_append l its.toArray n u (by rw[Wae];omega)) ⟨e,?_⟩;refine⟨.non,_,I.lset (its':=its++[u]) hH e (by simp) (r.append (.cons ru .nil)) ?_,rfl,q⟩;rw[War,Wbs];omega
def rCat:R2:=λx y H Q=>∃l b xs zs,x=.ref l/\y=.ref b/\H l=some (.lst xs)/\H b=some (.lst zs)/\xs.length+zs.length<=sizeLine/\∀p,H p=none->Q (.ref p) (upd H p (.lst<|xs++zs))
theorem Zri:OpR X (binaryOp .Add) rCat:=by
 intro pins s σ H x y v u Q I rx ry h;obtain⟨l,b,xs,zs,rfl,rfl,hH,hB,hz,q⟩:=h;cases rx;cases ry;obtain⟨z,its,n,r,hl,e⟩:=I.lstM hH;obtain⟨z2,its2,n2,r2,hl2,e2⟩:=I.lstM hB;refine PySem.P.add_list e e2 ?_ (by rw[Wae,Wae];omega);have ea:its.toArray++its2.toArray=(its++its2).toArray:=by simp
 rw[ea];exact⟨.ref _,_,I.lnew (t':=s.toks) (r.append r2) (by rw[War];omega),rfl,q _ I.fresh⟩
end
end L2
namespace Att
open PySem PySem.W PySem.Calls PyProof.Rows
theorem Zew {P:Params}{h:Heap}:∀(ns:List Int) (vs:List Value),WellAll P h vs (ns.map WData.int)->IntsAre vs ns:=by
 intro ns
 induction ns with
 |nil=>
  intro vs w;rw[Wc0]at w;cases w;exact .nil
 |cons n ns ih=>
  intro vs w;rw[Wav]at w;cases w with
  |cons a b=>
   cases a;exact .cons _ _<|ih _ b
theorem Zlq {l:OpenLaw}{n:Nat}(hn:l.most=some n) {P:Params}{h:Heap}{args:List WData}{vals:List Value}
  (hpre:l.row.toRowW.claim.pre args=true) (hwl:WellAll P h vals args) :
  ∃a vs ns,vals=[Value.ref a]/\args=[WData.list (ns.map WData.int)]/\h.get? a=some { cls:=.type "list",data:=.seq vs.toArray } /\ IntsAre vs ns/\ns.length<=n:=by
 have hsh:WShape.hasAll [] args [.list .int]=true:=(pre_splitW hpre).1;have hc:l.pre.holds [] { args:=args } = true:=(pre_splitW hpre).2;obtain⟨d,r,rfl,h1,h2⟩:=hasAllW_cons hsh;obtain rfl:=hasAllW_nil h2;obtain⟨xs,rfl,h3⟩:=hasW_list h1;obtain⟨ns,rfl⟩:=items_int h3;have hlen:ns.length<=n:=by
  unfold OpenLaw.pre at hc;have h4:(WTm.not (.lt (.lit (.int (n:Int))) (.len (.arg 0)))).holds [] { args:=[.list (ns.map .int)] } = true:=by
   have h4:=(holds_andW hc).1;rw[hn]at h4;exact h4
  have h5:=condW_of h4<|w_not<|w_lt w_lit<|w_len_list<|w_arg rfl;rw[Wac]at h5;refine Nat.le_of_not_lt λq=>?_;have q':(n:Int)<((ns.length:Nat):Int):=by omega
  first
   | (rw[decide_eq_true q']at h5;exact absurd h5 (by decide))
   | (simp at h5;omega)
 cases hwl with
 |cons w1 w2=>
  cases w2;cases w1 with
  |list ho hall=>exact⟨_,_,ns,rfl,rfl,ho,Zew ns _ hall,hlen⟩
theorem Zl4 (l:OpenLaw) (args:List WData):l.row.toRowW.claim.post args (.bool true) args=true:=
 postW_of (r:=l.row.toRowW) (X:=(true == true))
  (show WShape.has [] (.bool true) .bool=true by first|rfl|decide|simp[WShape.has,WShape.arms,WShape.armsAll])
  (show (WTm.eq .res (.lit (.bool true))).value [] { args:=args,res:=some (.bool true),after:=args } = some (.bool (true == true)) from w_eq_bool (w_res rfl) w_lit) rfl
theorem attach_call {l:OpenLaw}{n:Nat}{q:Program}{loose:List Str}{XP:(Str->Option Value)->Heap->Prop}{YP:World->Heap->Prop}{d:DefRec}
  (hn:l.most=some n) (hdf:d.params.defaults=[])
  (call:∀(w:World) (s₀ s₁:Shared) (mg mb:Str->Option Value) (fa:Addr) (o:Obj) (pm cd doc:Value) (a:Addr) (vs:List Value) (ns:List Int),
   Ground q loose [] XP w s₀ mg mb s₁.heap->YP w s₁.heap →
   s₁.heap.get? fa=some o->o.data=.func (docDef d.name d.params d.body d.scope pm cd doc)->s₁.heap.CodeRec cd d.name->mg d.name=some (.ref fa) →
   s₁.heap.get? a=some { cls:=.type "list",data:=.seq vs.toArray } -> IntsAre vs ns->ns.length<=n->s₁.gens = #[] →
   codeAny (model l.prog w) callerA (.call (.ref fa) ⟨[.ref a],[]⟩) (λr s'=>r=.ok (.ret (.bool true))/\OldK s₁.heap s'.heap/\s'.os=s₁.os/\AllBare s'.gens) s₁) :
  WalkO q loose XP YP l.row.toRowW d [] (λf vs=>PySem.call f vs):=by
 intro w s₀ s₁ mg mb G Y fa o pm cd doc dV kV ho hd hcd hD hmg hg args vals as hpre hlay hrd hwl hlo;obtain rfl:dV=.none:=Dflts.none hD hdf;obtain rfl:kV=.none:=Dflts.noKw hD;obtain⟨a,vs,ns,rfl,rfl,hobj,hints,hlen⟩:=Zlq hn hpre hwl;refine enter_call (codeAny_mono (call w s₀ s₁ mg mb fa o pm cd doc a vs ns G Y ho (fd_plain hd) hcd hmg hobj hints hlen hg) λr s' hq=>?_);obtain⟨rfl,h2,h3,h4⟩:=hq;exact⟨.inl ⟨.bool true,.bool true,[],rfl,λ_=>rfl,.bool true,Zl4 l _,λ_=>⟨List.Pairwise.nil,λ_ hm=>(nomatch hm)⟩⟩,h2,h3,h4⟩
section
variable {prog:Program}{w:World}{A:Around}{E:Value->Shared->Prop}{s:Shared}{K:Frag}
def noObjs (h:Heap):Heap:={ h with objs:=#[] }
end
end Att
namespace L2
open PySem PySem.Spec PyProof.Rows
theorem Zes:∀{vs:List Value}{ns:List Int},IntsAre vs ns->Vals (ns.map V.int) vs
 |_,_,.nil=>.nil
 |_,_,.cons n t h=>.cons ⟨t,rfl⟩ (Zes h)
def Only (H:Hp):Prop:=∀b,H b=none\/∃o xs,H b=some (.frz o (.lst xs))
theorem Zn9 {P:Program}{w:World}{K:W.Frag}{mg mb:Str->Option Value}{CX:CXT}{k:Nat}{fa a:Addr}{fd:FuncData}{x:Str}{sp:Sp}{s₁:Shared}{vs:List Value}{ns:List Int}
  (KX:K.In s₁.heap) (hns:s₁.heap.Ns mainGlobals mg) (hb:s₁.heap.Ns builtinsNs mb) (hbb:∀x:Str,x ≠ "__name__" -> mb x=bootBuiltins x) (hlim:s₁.heap.NoLimit) (hg:s₁.gens = #[])
  (ha:s₁.heap.get? a=some { cls:=.type "list",data:=.seq vs.toArray }) (hi:IntsAre vs ns) (hl:ns.length<=sizeLine) (hr:Room k callerA)
  (F:∀base:Heap,K.In base->base.Ns mainGlobals mg->FnOk P w K mg base CX k fa fd [x] sp) (hbind:∀(s:Shared) (u:Value),BindsTo s fd ⟨[u],[]⟩ [(x,u)])
  (hsp:∀H:Hp,Only H->SqL K H a (ns.map V.int)->sp [.ref a] H (λv _=>v=.bl true) λ_ _ _=>False)
  (hCX:∀H e s',CX [] H s₁ (λ_ _ _=>False) e s' -> False) :
  codeAny (model P w) callerA (.call (.ref fa) ⟨[.ref a],[]⟩) (λr s'=>r=.ok (.ret (.bool true))/\OldK s₁.heap s'.heap/\s'.os=s₁.os/\AllBare s'.gens) s₁:=by
 have rv:=Zes hi;have lenV:=hi.length
 -- from an abstract heap in which nothing but the script may be tracked
 have core:∀H:Hp,Only H->SqL K H a (ns.map V.int)->HOk P w H s₁.heap->(∀b,H b≠none->b=a)->(H a≠none->K.lookup a=none) →
   codeAny (model P w) callerA (.call (.ref fa) ⟨[.ref a],[]⟩) (λr s'=>r=.ok (.ret (.bool true))/\OldK s₁.heap s'.heap/\s'.os=s₁.os/\AllBare s'.gens) s₁:=by
  intro H hO hS hok hA hK;have base_of:∀{b:Addr}{o:Obj},s₁.heap.get? b=some o->H b=none->(hidT s₁.heap H).get? b=some o:=λe n=>Zoo e n;have noA:∀{b:Addr}{o:Obj}{es:Array DictEntry}{ep:Nat},s₁.heap.get? b=some o->o.data=.dict es ep->H b=none:=λ{b o es ep} e d=>by
   cases q:H b with
   |none=>rfl
   |some u=>
    have e':b=a:=hA b (by rw[q];simp);subst e';rw[ha]at e;cases e;have d':Data.seq vs.toArray _=Data.dict es ep:=d;cases d'
  have nsK:∀{b:Addr}{m:Str->Option Value},s₁.heap.Ns b m->(hidT s₁.heap H).Ns b m:=λ{b m} ⟨o,es,ep,e,d,r⟩=>⟨o,es,ep,base_of e (noA e d),d,r⟩;have hKb:K.In (hidT s₁.heap H):=λb o e=>base_of (KX b o e) (by
   cases q:H b with
   |none=>rfl
   |some u=>
    have e':b=a:=hA b (by rw[q];simp);subst e';rw[hK (by rw[q];simp)]at e;cases e)
  have hM:Mod K mg (hidT s₁.heap H):=⟨hKb,nsK hns,⟨mb,nsK hb,hbb⟩,let ⟨mc,h1,h2⟩:=hlim; ⟨mc,nsK h1,h2⟩⟩;have e0:Env0 P w K mg (hidT s₁.heap H) callerA [] s₁ H:=⟨rfl,hM,λb o e=>Zq4 e,Nat.le_of_eq<|Zkq _ _,trivial,λb hb=>absurd (show b∈([]:List Addr) from hb) (by simp),hok,.of_eq hg⟩;refine codeAny_mono ((F _ hKb<|nsK hns).run callerA [] s₁ H ⟨[.ref a],[]⟩ [.ref a] [.ref a] _ _ hr e0 (hbind s₁ (.ref a)) (.cons rfl .nil) (hsp H hO hS)) λr s' h=>?_;cases r with
  |error e=>exact(hCX H e s' h).elim
  |ok fl=>
   cases fl with
   |next=>exact False.elim h
   |brk=>exact False.elim h
   |cont=>exact False.elim h
   |ret u=>
    obtain⟨v,H',os,bare,un,hok',r',q⟩:=h;have q':v=.bl true:=q;subst q';obtain rfl:u=Value.bool true:=r';refine⟨rfl,OldK.of_keep λb o e=>?_,os,bare⟩;cases q:H b with
    |none=>exact un.keep b o e q (by intro z;exact absurd (show b∈([]:List Addr) from z) (by simp)) (by simp)
    |some u=>
     rcases hO b with z|⟨ob,xs,z⟩
     ·rw[q]at z;cases z
     ·have z2:=un.frzs b ob _ z
      obtain⟨e1,_⟩:=hok b _ z;obtain⟨e2,_⟩:=hok' b _ z2;rw[e]at e1;cases e1;exact e2
 cases hk:K.lookup a with
 |some o=>
  -- the script is one of the module's own objects
  have e:=KX a o hk;rw[ha]at e;cases e;refine core (λ_=>none) (λ_=>.inl rfl) (.inr ⟨_,vs.toArray,_,hk,rfl,rfl,rfl,by rw[Wae,lenV];exact hl,by simpa using rv⟩) (λb u z=>by have z':(none:Option HO)=some u:=z;cases z') (λb z=>absurd rfl z) λz=>absurd rfl z
 |none=>
  refine core (λb=>if b=a then some (.frz { cls:=.type "list",data:=.seq vs.toArray } (.lst<|ns.map V.int)) else none) (λb=>?_) (.inl (.inr ⟨{ cls:=.type "list",data:=.seq vs.toArray },if_pos rfl⟩)) (λb u z=>?_) (λb z=>?_) λ_=>hk
  ·by_cases hb:b=a
   ·exact .inr ⟨_,_,if_pos hb⟩
   ·exact .inl<|if_neg hb
  ·by_cases hb:b=a
   ·have z':=(if_pos hb).symm.trans z
    cases z';subst hb;exact⟨ha,by rw[Wac];exact hl,vs,_,rv,ha⟩
   ·have z':=(if_neg hb).symm.trans z
    cases z'
  ·by_cases hb:b=a
   ·exact hb
   ·exact absurd (if_neg hb) z
end L2
namespace L2
open PySem PySem.Spec PyProof.Rows
theorem walk_of {l:PySem.W.OpenLaw}{n k:Nat}{q:Program}{loose:List Str}{XP:(Str->Option Value)->Heap->Prop}{YP:World->Heap->Prop}{d:DefRec}{K:Params->W.Frag}{CX:World->CXT}{sp:World->Sp}{x:Str}
  (hn:l.most=some n) (hn2:n<=sizeLine) (hdf:d.params.defaults=[]) (hr:Room k callerA)
  (hY:∀(w:World) (h:Heap),YP w h->(K w.params).In h)
  (F:∀(w:World) (mg:Str->Option Value) (fa:Addr) (h:Heap),(K w.params).In h->h.Ns mainGlobals mg->mg d.name=some (.ref fa) →
   ∃fd:FuncData,(∀(s:Shared) (u:Value),BindsTo s fd ⟨[u],[]⟩ [(x,u)]) ∧
    ∀base:Heap,(K w.params).In base->base.Ns mainGlobals mg->FnOk l.prog w (K w.params) mg base (CX w) k fa fd [x] (sp w))
  (hsp:∀(w:World) (H:Hp) (a:Addr) (ns:List Int),ns.length<=n->Only H->SqL (K w.params) H a (ns.map V.int)->sp w [.ref a] H (λv _=>v=.bl true) λ_ _ _=>False)
  (hCX:∀(w:World) (H:Hp) (s:Shared) (e:Value) (s':Shared),CX w [] H s (λ_ _ _=>False) e s' -> False) :
  PySem.W.WalkO q loose XP YP l.row.toRowW d [] (λf vs=>PySem.call f vs):=by
 refine Att.attach_call hn hdf λw s₀ s₁ mg mb fa o pm cd doc a vs ns G Y ho hd hcd hmg hobj hints hlen hg=>?_;have KX:=hY w _ Y;obtain⟨fd,hb,hF⟩:=F w mg fa _ KX G.T.g hmg;exact Zn9 KX G.T.g G.T.b G.T.builtins G.T.nolimit hg hobj hints (Was hlen hn2) hr hF hb (λH hO hS=>hsp w H a ns hlen hO hS) λH e s'=>hCX w H s₁ e s'
end L2
namespace L2
open PySem PySem.Spec PyProof.Rows
def defArgs (s:Stmt):Arguments:=match s with
 |.FunctionDef _ a _ _ _ _ _ _ _ _=>a
 |_=>{ posonlyargs:=[],args:=[],vararg:=none,kwonlyargs:=[],kw_defaults:=[],kwarg:=none,defaults:=[] }
def defBody (s:Stmt):List Stmt:=match s with
 |.FunctionDef _ _ b _ _ _ _ _ _ _=>b
 |_=>[]
def defScope (s:Stmt):Scope:=match s with
 |.FunctionDef _ _ _ _ _ _ sc _ _ _=>sc
 |_=>{ kind:=.function,names:=[],isGenerator:=false,isCoroutine:=false }
abbrev CX0:CXT:=λ_ _ _ _ _ _=>False
abbrev E0:XK:=λ_ _ _=>False
theorem pass0 {X:Cx}:Passes CX0 X E0:=λ_ _ _ _ _ _ _ h=>h.elim
structure Fun (K:W.Frag) (x qual:Str) (st:Stmt) (f:Addr) (fd:FuncData):Prop where
 ex:∃(oc:Value) (od:Option Addr) (kV doc pm:Value) (an:Option Addr) (cdv ct:Value) (osl:Array (Option Value)),
  fd=W.fnOf x qual (defArgs st) (defBody st) (defScope st) .none kV doc pm an cdv ct/\K.lookup f=some ⟨oc,od,.func fd,osl⟩ /\ W.codeIn K cdv qual=true
 kp:W.keepIn K (.ref f)=true
section
variable {P:Program}{w:World}{K:W.Frag}{mg:Str->Option Value}{base:Heap}
theorem Fun.ok {x qual:Str}{st:Stmt}{f:Addr}{fd:FuncData}{N ps:List Str}{k:Nat}{sp:Sp}(F:Fun K x qual st f fd) (S:FnScope N ps (defScope st)) (len:∀vs H Q E,sp vs H Q E->vs.length=ps.length)
  (hbody:∀(cdv:Value) (A:Around) (outer:List Env) (s:Shared) (H:Hp) (vs:List V) (Q:VK) (E:XK),Room k (A.deeper (envOfC qual (defScope st) s.heap.objs.size f cdv))->sp vs H Q E →
   ∃t,PSs (cxOf CX0 P w K mg base N qual (defScope st) f cdv A outer s H E).nox (defBody st) t/\t { nx:=λ_ H'=>Q .non H',rt:=Q } (start N vs) H):FnOk P w K mg base CX0 (k+1) f fd ps sp:=by
 obtain⟨oc,od,kV,doc,pm,an,cdv,ct,osl,rfl,lk,hcd⟩:=F.ex;refine Zst lk hcd S len λA outer s H vs Q E hr hsp=>?_;obtain⟨t,h,q⟩:=hbody cdv A outer s H vs Q E hr hsp;exact⟨t,h.nox,q⟩
theorem Fun.binds {x qual:Str}{st:Stmt}{f:Addr}{fd:FuncData}{ps:List Str}(F:Fun K x qual st f fd)
  (h:∀(kV doc pm:Value) (an:Option Addr) (cdv ct:Value) (us:List Value),us.length=ps.length->bindArgs (W.fnOf x qual (defArgs st) (defBody st) (defScope st) .none kV doc pm an cdv ct) ⟨us,[]⟩=pure (ps.zip us)):Binds K fd ps []:=by
 obtain⟨oc,od,kV,doc,pm,an,cdv,ct,osl,rfl,lk,hcd⟩:=F.ex;exact .all<|h kV doc pm an cdv ct
theorem Zo6 {x qual:Str}{st:Stmt}{f:Addr}{oc:Value}{od an:Option Addr}{osl:Array (Option Value)}{kV doc pm cdv ct:Value}(l:K.lookup f=some ⟨oc,od,.func<|W.fnOf x qual (defArgs st) (defBody st) (defScope st) .none kV doc pm an cdv ct,osl⟩)
  (c:W.codeIn K cdv qual=true) (k:W.keepIn K (.ref f)=true):Fun K x qual st f (W.fnOf x qual (defArgs st) (defBody st) (defScope st) .none kV doc pm an cdv ct):=⟨⟨oc,od,kV,doc,pm,an,cdv,ct,osl,rfl,l,c⟩,k⟩
end
theorem Zb1 {A:Around}{k:Nat}(hr:Room k A):A.units+1<cLine:=Wbm (Wcp (by decide:1<=64) _) hr.units
theorem small1000 {n:Nat}(h:n<=1000):n<sizeLine:=Wbm h (by decide)
section
variable {X:Cx}
theorem pv (i:Nat) {x:Str}{pos:Pos}(hN:X.N[i]?=some x:=by rfl) (hv:Vis X.env.scope x:=by first|exact Or.inl rfl|exact Or.inr (Or.inl rfl)|exact Or.inr<|Or.inr rfl) (hd:(x == ("__debug__":Str))=false:=by decide)
  (hcd:(x == ("__classdict__":Str))=false:=by decide):PE X (.Name x pos) (tVar i):=Zrr hN hv hd hcd
end
theorem iteF {A B:Prop}(h:B):if false=true then A else B:=by
 rw[if_neg Wai];exact h
theorem iteT {A B:Prop}(h:A):if true=true then A else B:=by
 rw[if_pos rfl];exact h
theorem ite2 {c A B:Prop}[Decidable c] (h1:c->A) (h2:¬ c->B):if c then A else B:=by
 by_cases h:c
 ·rw[if_pos h]
  exact h1 h
 ·rw[if_neg h]
  exact h2 h
def Same (H H':Hp):Prop:=∀b o,H b=some o->H' b=some o
theorem Same.refl (H:Hp):Same H H:=λ_ _ h=>h
theorem Same.trans {H H1 H2:Hp}(a:Same H H1) (b:Same H1 H2):Same H H2:=λc o h=>b c o<|a c o h
theorem Same.seq {K:W.Frag}{H H':Hp}{a:Addr}{xs:List V}(e:Same H H') (h:SqL K H a xs):SqL K H' a xs:=by
 rcases h with (h|⟨o,h⟩)|h
 ·exact .inl (.inl<|e _ _ h)
 ·exact .inl (.inr ⟨o,e _ _ h⟩)
 ·exact .inr h
end L2
namespace L2
open PySem PySem.Spec PyProof.Rows
section
variable {κ:Type}[DecidableEq κ]
def valV (kvs:List (κ × V)) (k:κ):Option V:=(kvs.find? λkv=>decide (kv.1=k)).map (·.2)
def putK (kvs:List (κ × V)) (k:κ) (v:V):List (κ × V):=
 if (kvs.any λkv=>decide (kv.1=k))=true then kvs.map (λkv=>if kv.1=k then (kv.1,v) else kv) else kvs++[(k,v)]
theorem Zgj {p:κ × V}{r:List (κ × V)}{k:κ}(e:p.1=k):valV (p::r) k=some p.2:=by simp[valV,Wca,e]
theorem Zf1 {p:κ × V}{r:List (κ × V)}{k:κ}(e:¬ p.1=k):valV (p::r) k=valV r k:=by simp[valV,Wca,e]
theorem Zi2 (k:κ):∀kvs:List (κ × V),(kvs.any λkv=>decide (kv.1=k))=(valV kvs k).isSome
 |[]=>rfl
 |p::r=>by
  rw[Wcl];by_cases e:p.1=k
  ·simp only[Zgj e,decide_eq_true e,Bool.true_or,Option.isSome_some]
  ·rw[Zf1 e,decide_eq_false e,Bool.false_or];exact Zi2 k r
theorem Zdd (kvs:List (κ × V)) (k:κ) (v:V):(putK kvs k v).length<=kvs.length+1:=by
 unfold putK;split
 ·rw[Wac];omega
 ·rw[War,Wak,Wc1];omega
theorem RelO.isSome_eq {o:Option V}{u:Option Value}(r:RelO o u):o.isSome=u.isSome:=by
 cases o with
 |none=>cases u with
  |none=>rfl
  |some _=>exact(show False from r).elim
 |some _=>cases u with
  |none=>exact(show False from r).elim
  |some _=>rfl
theorem KV.val {kvs:List (κ × V)}{vs:List (κ × Value)}(r:KV kvs vs) (k:κ):RelO (valV kvs k) (valueAt vs k):=by
 unfold KV at r
 induction r with
 |nil=>exact True.intro
 |@cons p q ps qs h t ih=>
  obtain⟨h1,h2⟩:=h;by_cases e:p.1=k
  ·have e':q.1=k:=h1.symm.trans e
   have b:valueAt (q::qs) k=some q.2:=by simp[valueAt,Wca,e']
   rw[Zgj e,b];exact h2
  ·have e':¬ q.1=k:=λz=>e (h1.trans z)
   have b:valueAt (q::qs) k=valueAt qs k:=by simp[valueAt,Wca,e']
   rw[Zf1 e,b];exact ih
theorem KV.any {kvs:List (κ × V)}{vs:List (κ × Value)}(r:KV kvs vs) (k:κ):(kvs.any λkv=>decide (kv.1=k))=vs.any λkv=>decide (kv.1=k):=by
 unfold KV at r
 induction r with
 |nil=>rfl
 |cons h t ih=>rw[Wcl,Wcl,ih,h.1]
theorem KV.repl {kvs:List (κ × V)}{vs:List (κ × Value)}(r:KV kvs vs) (k:κ) {y:V}{u:Value}(ry:RelV y u) :
  KV (kvs.map λkv=>if kv.1=k then (kv.1,y) else kv) (vs.map λkv=>if kv.1=k then (kv.1,u) else kv):=by
 unfold KV at r ⊢
 induction r with
 |nil=>exact .nil
 |@cons p q ps qs h t ih=>
  rw[Wav,Wav];refine .cons ?_ ih;obtain⟨h1,h2⟩:=h;by_cases e:p.1=k
  ·rw[if_pos e,if_pos (h1.symm.trans e)];exact⟨h1,ry⟩
  ·rw[if_neg e,if_neg (λz=>e<|h1.trans z)];exact⟨h1,h2⟩
theorem KV.put {kvs:List (κ × V)}{vs:List (κ × Value)}(r:KV kvs vs) (k:κ) {y:V}{u:Value}(ry:RelV y u):KV (putK kvs k y) (stored vs k u):=by
 unfold putK stored;rw[r.any k];by_cases e:(vs.any λkv=>decide (kv.1=k))=true
 ·rw[if_pos e,if_pos e];exact r.repl k ry
 ·rw[if_neg e,if_neg e];exact Paired.snoc r ⟨rfl,ry⟩
theorem KV.length {kvs:List (κ × V)}{vs:List (κ × Value)}(r:KV kvs vs):kvs.length=vs.length:=Paired.length r
end
theorem Zle {P:Program}{w:World}{k:Key}{u:Value}(r:RelV (kV k) u):(mixKind P w).is k u=true:=by
 cases k with
 |inl i=>obtain⟨t,e⟩:=(show ∃t,u=Value.int i t from r);subst e;exact Zhp P w i t
 |inr x=>obtain⟨t,e⟩:=(show ∃t,u=Value.str x t from r);subst e;exact Zij P w x t
theorem Zhf {P:Program}{w:World}:∀{ks:List Key}{us:List Value},Vals (ks.map kV) us->ItemsAre (mixKind P w) ks us
 |[],_,r=>by rw[Wc0]at r;cases r;exact .nil
 |k::ks,_,r=>by
  rw[Wav]at r;cases r with
  |cons h t=>exact .cons (Zle h) (Zhf t)
abbrev KT (H:Hp):List (List Key × V)->List (List Key × Addr × Value)->Prop:=Paired λp q=>p.1=q.1/\H q.2.1=some (.tup<|p.1.map kV)/\RelV p.2 q.2.2
theorem KT.val {H:Hp}{kvs:List (List Key × V)}{xs:List (List Key × Addr × Value)}(r:KT H kvs xs) (k:List Key):RelO (valV kvs k) ((atKey xs k).map (·.2)):=by
 induction r with
 |nil=>exact True.intro
 |@cons p q ps qs h t ih=>
  obtain⟨h1,_,h2⟩:=h;by_cases e:p.1=k
  ·have e':q.1=k:=h1.symm.trans e
   have b:atKey (q::qs) k=some q.2:=by simp[atKey,Wca,e']
   rw[Zgj e,b];exact h2
  ·have e':¬ q.1=k:=λz=>e (h1.trans z)
   have b:atKey (q::qs) k=atKey qs k:=by simp[atKey,Wca,e']
   rw[Zf1 e,b];exact ih
theorem KT.repl {H:Hp}{kvs:List (List Key × V)}{xs:List (List Key × Addr × Value)}(r:KT H kvs xs) (k:List Key) {y:V}{u:Value}(ry:RelV y u) :
  KT H (kvs.map λkv=>if kv.1=k then (kv.1,y) else kv) (xs.map<|putAt k u):=by
 induction r with
 |nil=>exact .nil
 |@cons p q ps qs h t ih=>
  rw[Wav,Wav];refine .cons ?_ ih;obtain⟨h1,h2,h3⟩:=h;unfold putAt;by_cases e:p.1=k
  ·rw[if_pos e,if_pos (h1.symm.trans e)];exact⟨h1,h2,ry⟩
  ·rw[if_neg e,if_neg (λz=>e<|h1.trans z)];exact⟨h1,h2,h3⟩
theorem KT.put {H:Hp}{kvs:List (List Key × V)}{xs:List (List Key × Addr × Value)}(r:KT H kvs xs) (k:List Key) {b:Addr}{y:V}{u:Value}(hb:H b=some (.tup<|k.map kV)) (ry:RelV y u) :
  KT H (putK kvs k y) (storedH xs k b u):=by
 have e:(kvs.any λkv=>decide (kv.1=k))=(atKey xs k).isSome:=by
  rw[Zi2,(r.val k).isSome_eq,Option.isSome_map]
 unfold putK storedH;rw[e];by_cases q:(atKey xs k).isSome=true
 ·rw[if_pos q,if_pos q];exact r.repl k ry
 ·rw[if_neg q,if_neg q];exact Paired.snoc r ⟨rfl,hb,ry⟩
theorem KT.keeps {H H':Hp}{kvs:List (List Key × V)}{xs:List (List Key × Addr × Value)}(r:KT H kvs xs) (ht:∀b ys,H b=some (.tup ys)->H' b=some (.tup ys)):KT H' kvs xs:=
 Paired.mapP r λ_ _ z=>⟨z.1,ht _ _ z.2.1,z.2.2⟩
section
variable {P:Program}{w:World}{H:Hp}{h:Heap}{a:Addr}
theorem Zsm {u:HO}(ok:HOk P w H h) (e:Rd H a u):ObjOk P w H h a u:=e.ok ok
theorem Zly {kvs:List (Key × V)}(ok:HOk P w H h) (e:Rd H a (.dK kvs)):kvs.length<=sizeLine/\(a == sysModules)=false/\∃vs,KV kvs vs/\h.DictOf (mixKind P w) a vs:=
 show ObjOk P w H h a (.dK kvs) from Zsm ok e
theorem Zjr {kvs:List (Key × V)}(ok:HOk P w H h) (e:H a=some (.dK kvs)):kvs.length<=sizeLine/\(a == sysModules)=false/\∃vs,KV kvs vs/\h.DictOf (mixKind P w) a vs:=Zly ok (.inl e)
theorem Zja {ks:List Key}(ok:HOk P w H h) (e:H a=some (.tup<|ks.map kV)):(tupleKind<|mixKind P w).is h ks a:=by
 obtain⟨_,its,r,o,h1,⟨h2,n,h3⟩,_⟩:=(show ObjOk P w H h a (.tup<|ks.map kV) from ok a _ e);exact⟨o,its.toArray,n,h1,h2,h3,by simpa using Zhf r⟩
theorem Zm2 {kvs:List (List Key × V)}(ok:HOk P w H h) (e:Rd H a (.dT kvs)):kvs.length<=sizeLine/\(a == sysModules)=false ∧
  ∃xs,KT H kvs xs/\h.DictOfH (tupleKind<|mixKind P w) a xs:=by
 obtain⟨z,y,xs,r,o,es,ep,h1,h2,h3,h4,h5⟩:=(show ObjOk P w H h a (.dT kvs) from Zsm ok e);refine⟨z,y,xs,r,o,es,ep,h1,h2,h3,h4,λx hx=>?_,h5⟩;have all:∀{l:List (List Key × V)}{m:List (List Key × Addr × Value)},KT H l m->∀x∈m,(tupleKind<|mixKind P w).is h x.1 x.2.1:=by
  intro l m q
  induction q with
  |nil=>intro x hx;exact nomatch hx
  |@cons p q ps qs hq t ih=>
   intro x hx;rcases Wah.mp hx with e|hx
   ·subst e
    exact Zja ok (by rw[<- hq.1];exact hq.2.1)
   ·exact ih x hx
 exact all r x hx
theorem Ztp {kvs:List (List Key × V)}(ok:HOk P w H h) (e:H a=some (.dT kvs)):kvs.length<=sizeLine/\(a == sysModules)=false ∧
  ∃xs,KT H kvs xs/\h.DictOfH (tupleKind<|mixKind P w) a xs:=Zm2 ok (.inl e)
end
def DGet (H:Hp) (a:Addr) (y:V) (r:Option V):Prop:=
 (∃kvs k,Rd H a (.dK kvs)/\y=kV k/\r=valV kvs k)\/∃kvs k b,Rd H a (.dT kvs)/\y=.ref b/\H b=some (.tup<|k.map kV)/\r=valV kvs k
def DPut (H:Hp) (a:Addr) (y v:V) (H':Hp):Prop:=
 (∃kvs k,H a=some (.dK kvs)/\y=kV k/\kvs.length<sizeLine/\H'=upd H a (.dK<|putK kvs k v)) ∨
 ∃kvs k b,H a=some (.dT kvs)/\y=.ref b/\H b=some (.tup<|k.map kV)/\kvs.length<sizeLine/\H'=upd H a (.dT<|putK kvs k v)
section
variable {X:Cx}{pins:List (Addr × Obj)}{σ:St}{H:Hp}{s:Shared}{a:Addr}{y v:V}{u r:Value}{o:Option V}{A:Around}{E:Value->Shared->Prop}
theorem Inv.big (I:Inv X pins σ H s):sysModules<s.heap.objs.size:=by
 have h:mainGlobals<s.heap.objs.size:=(I.mod.glob.keeps I.bk).lt;exact Wc4 (by decide) h
theorem Zls {Q:Value->Shared->Prop}(hu:A.units+1<cLine) (I:Inv X pins σ H s) (g:DGet H a y (some v)) (ry:RelV y u) (h:∀w' s',Inv X pins σ H s' -> RelV v w' -> Q w' s') :
  wpAny (model X.prog X.w) A (getItem (.ref a) u) Q E s:=by
 rcases g with ⟨kvs,k,e,ey,l⟩|⟨kvs,k,b,e,ey,eb,l⟩
 ·subst ey
  obtain⟨z,hd,vs,rel,dd⟩:=Zly I.hok e;obtain⟨w',hw,rw'⟩:=RelO.some_of (v:=v) (o:=valueAt vs k) (by rw[l];exact rel.val k);exact wpAny_getItem_of (Zle ry) dd.mapOf hw<|h w' _ (I.tok _) rw'
 ·subst ey
  cases (show u=Value.ref b from ry);obtain⟨z,hd,xs,rel,dd⟩:=Zm2 I.hok e;obtain⟨w',hw,rw'⟩:=RelO.some_of (v:=v) (o:=(atKey xs k).map (·.2)) (by rw[l];exact rel.val k);obtain⟨p,hp,hp2⟩:=Wct.mp hw;refine wpAny_getItem_heap (tupleKind_room_in1 hu) (Zja I.hok eb) dd hp ?_;rw[hp2];exact h w' _ (I.tok _) rw'
theorem d_in {Q:Value->Shared->Prop}(hu:A.units+1<cLine) (I:Inv X pins σ H s) (g:DGet H a y o) (ry:RelV y u) (h:∀s',Inv X pins σ H s' -> Q (.bool o.isSome) s') :
  wpAny (model X.prog X.w) A (compareOp .In u (.ref a)) Q E s:=by
 rcases g with ⟨kvs,k,e,ey,l⟩|⟨kvs,k,b,e,ey,eb,l⟩
 ·subst ey
  obtain⟨z,hd,vs,rel,dd⟩:=Zly I.hok e;refine wpAny_in_of (Zle ry) hd dd.mapOf ?_;rw[<- (rel.val k).isSome_eq,<- l];exact h _<|I.tok _
 ·subst ey
  cases (show u=Value.ref b from ry);obtain⟨z,hd,xs,rel,dd⟩:=Zm2 I.hok e;refine wpAny_in_heap (tupleKind_room_in1 hu) (Zja I.hok eb) hd dd ?_;have q:=(rel.val k).isSome_eq;rw[Option.isSome_map]at q;rw[<- q,<- l];exact h _<|I.tok _
theorem Zif {h':Heap}{t':Nat}{ob:HO}(I:Inv X pins σ H s) (mu:Mut (H a)) (hs:Heap.SameBut a s.heap h') (he:∃q,h'.get? a=some q) (new:ObjOk X.prog X.w (upd H a ob) h' a ob) :
  Inv X pins σ (upd H a ob) { s with heap:=h',toks:=t' }:=
 I.write (x:=a) (e:=a) mu (.inl rfl) (λb q hb z=>(hs.2 b hb).trans z) he new
theorem Zo4 {P:Program}{w:World}{H':Hp}{h':Heap}{kvs:List (Key × V)}{vs:List (Key × Value)}(z:kvs.length<=sizeLine) (hd:(a == sysModules)=false) (rel:KV kvs vs) (dd:h'.DictOf (mixKind P w) a vs) :
  ObjOk P w H' h' a (.dK kvs):=⟨z,hd,vs,rel,dd⟩
theorem Zln {H':Hp}{Q:Unit->Shared->Prop}(hu:A.units+1<cLine) (I:Inv X pins σ H s) (g:DPut H a y v H') (ry:RelV y u) (rv:RelV v r) (h:∀s',Inv X pins σ H' s' -> Q () s') :
  wpAny (model X.prog X.w) A (setItem (.ref a) u r) Q E s:=by
 rcases g with ⟨kvs,k,e,ey,l,eH⟩|⟨kvs,k,b,e,ey,eb,l,eH⟩
 ·subst ey eH
  obtain⟨z,hd,vs,rel,dd⟩:=Zjr I.hok e;have hz:vs.length<=sizeLine:=by rw[<- rel.length];exact z
  have hl:(putK kvs k v).length<=sizeLine:=by have:=Zdd kvs k v;omega
  refine wpAny_setItem_pairs (hsz:=hz) (Zle ry) dd λh' dd' hs=>h _ ?_;have he:∃q,h'.get? a=some q:=let ⟨q,_,_,hq,_⟩:=dd'; ⟨q,hq⟩
  exact Zif I (by rw[e];exact True.intro) hs he<|Zo4 hl hd (rel.put k rv) dd'
 ·subst ey eH
  cases (show u=Value.ref b from ry);obtain⟨z,hd,xs,rel,dd⟩:=Ztp I.hok e;have hz:xs.length<=sizeLine:=by rw[<- Paired.length rel];exact z
  have hl:(putK kvs k v).length<=sizeLine:=by have:=Zdd kvs k v;omega
  refine wpAny_setItem_heap (hsz:=hz) (tupleKind_room_in1 hu) (Zja I.hok eb) dd λh' dd' hs=>h _ ?_;obtain⟨q,es,ep,hq,h2,h3,h4,_,h5⟩:=dd';refine Zif I (by rw[e];exact True.intro) hs ⟨q,hq⟩ ⟨hl,hd,_,(rel.put k eb rv).keeps λc ys ec=>?_,q,es,ep,hq,h2,h3,h4,h5⟩;rw[Zaj (Ztz ec e λz=>nomatch z)];exact ec
end
section
variable {X:Cx}{pins:List (Addr × Obj)}{σ:St}{H:Hp}{s:Shared}{a:Addr}{kvs:List (Key × V)}{k:Key}{u:Value}{A:Around}{E:Value->Shared->Prop}
theorem Zt1 {Q:Value->Shared->Prop}(I:Inv X pins σ H s) (e:Rd H a (.dK kvs)) (h:∀t s',Inv X pins σ H s' -> Q (.int kvs.length t) s'):wpAny (model X.prog X.w) A (call (.builtin "len") [.ref a]) Q E s:=by
 obtain⟨z,hd,vs,rel,dd⟩:=Zly I.hok e;refine call_len_dict hd dd (by rw[<- rel.length];rw[sizeLine_eq]at z;omega) ?_;rw[<- rel.length];exact h _ _<|I.tok _
end
theorem Zh5 {X:Cx}{pins:List (Addr × Obj)}{σ:St}{H:Hp}{s:Shared}{a:Addr}{y:V}{o:Option V}(I:Inv X pins σ H s) (g:DGet H a y o):s.TypeIs (.ref a) "dict":=by
 rcases g with ⟨kvs,k,e,_,_⟩|⟨kvs,k,b,e,_,_,_⟩
 ·obtain⟨_,_,vs,_,dd⟩:=Zly I.hok e
  exact dd.typeIs
 ·obtain⟨_,_,xs,_,dd⟩:=Zm2 I.hok e
  exact dd.typeIs
theorem Zi0 {P:Program}{w:World}{H:Hp}(h:Heap) (hb:sysModules<h.objs.size):ObjOk P w H (h.push { cls:=.type "dict",data:=.dict #[] }) h.objs.size (.dK []):=
 ⟨Wbn _,beq_eq_false_iff_ne.mpr<|Ne.symm<|Wa4 hb,[],.nil,Heap.DictOf.new h⟩
def tDNewK:TE:=λ_ H Q=>∀p,H p=none->Q (.ref p) (upd H p (.dK []))
section
variable {X:Cx}{pos:Pos}
theorem Zn1:PE X (.Dict [] [] pos) tDNewK:=λpins s σ H Q I h=>
 wpAny_Dict_empty ⟨.ref s.heap.objs.size,_,I.laid (a:=s.heap.objs.size) (o:=.dK []) (t':=s.toks) (λ_ _ q=>Waa _ q) (Waf _)<|Zi0 s.heap I.big,rfl,h _<|I.hok.fresh<|Waf _⟩
end
def tPairs:List (TE × TE)->St->Hp->(List (V × V)->Hp->Prop)->Prop
 |[],_,H,Q=>Q [] H
 | (tk,tv)::r,σ,H,Q=>tk σ H λx H1=>tv σ H1 λy H2=>tPairs r σ H2 λps H3=>Q ((x,y)::ps) H3
abbrev VV:List (V × V)->List (Value × Value)->Prop:=Paired λp q=>RelV p.1 q.1/\RelV p.2 q.2
def PPs (X:Cx) (pos:Pos) (keys:List (Option Expr)) (values:List Expr) (trs:List (TE × TE)):Prop:=
 ∀(pins:List (Addr × Obj)) (s:Shared) (σ:St) (H:Hp) (Q:List (V × V)->Hp->Prop),Inv X pins σ H s->tPairs trs σ H Q →
  wpAny (model X.prog X.w) X.A (evalPairs<|pairTrees keys values X.env pos) (λvs s'=>∃ps H',Inv X pins σ H' s' /\ VV ps vs/\Q ps H') X.xe s
theorem Zpn {X:Cx}{pos:Pos}:PPs X pos [] [] []:=λpins s σ H Q I h=>pairTrees_nil_walk ⟨[],H,I,.nil,h⟩
theorem Zm7 {X:Cx}{pos:Pos}{k v:Expr}{ks:List (Option Expr)}{vs:List Expr}{tk tv:TE}{trs:List (TE × TE)}(hk:PE X k tk) (hv:PE X v tv) (hr:PPs X pos ks vs trs) :
  PPs X pos (some k::ks) (v::vs) ((tk,tv)::trs):=λpins s σ H Q I h=>
 pairTrees_cons_walk (thn (hk pins s σ H _ I h) λu s1 ⟨x,H1,I1,rx,q1⟩=>thn (hv pins s1 σ H1 _ I1 q1) λw2 s2 ⟨y,H2,I2,ry,q2⟩=>
  thn (hr pins s2 σ H2 _ I2 q2) λws s3 ⟨ps,H3,I3,rel,q3⟩=>⟨(x,y)::ps,H3,I3,.cons ⟨rx,ry⟩ rel,q3⟩)
def mergeK (kvs more:List (Key × V)):List (Key × V):=more.foldl (λacc kv=>putK acc kv.1 kv.2) kvs
theorem KV.merge:∀{more:List (Key × V)}{rs:List (Key × Value)}{kvs:List (Key × V)}{vs:List (Key × Value)},KV more rs->KV kvs vs->KV (mergeK kvs more) (merged vs rs):=by
 intro more rs kvs vs r;unfold KV at r
 induction r generalizing kvs vs with
 |nil=>intro q;exact q
 |@cons p q ps qs h t ih=>
  intro r0;have e:KV (putK kvs p.1 p.2) (stored vs q.1 q.2):=by
   have:=r0.put p.1 h.2;rw[<- h.1];exact this
  exact ih e
theorem Zdq:∀(more kvs:List (Key × V)),(mergeK kvs more).length<=kvs.length+more.length
 |[],kvs=>by show kvs.length<=kvs.length+0;omega
 |p::r,kvs=>by
  have h1:=Zdq r<|putK kvs p.1 p.2;have h2:=Zdd kvs p.1 p.2;show (mergeK (putK kvs p.1 p.2) r).length<=_;rw[Wak];omega
theorem Zfn {P:Program}{w:World}:∀{kvs:List (Key × V)}{ws:List (Value × Value)},VV (kvs.map λkv=>(kV kv.1,kv.2)) ws->∃rs,Carries (mixKind P w) ws rs/\KV kvs rs
 |[],_,r=>by rw[Wc0]at r;cases r;exact⟨[],True.intro,.nil⟩
 |p::kvs,_,r=>by
  rw[Wav]at r;cases r with
  |@cons a b as bs h t=>
   obtain⟨rs,c,q⟩:=Zfn (P:=P) (w:=w) t;obtain⟨b1,b2⟩:=b;exact⟨(p.1,b2)::rs,⟨Zle h.1,rfl,c⟩,.cons ⟨rfl,h.2⟩ q⟩
def tDisp (trs:List (TE × TE)):TE:=λσ H Q=>∀p,H p=none->tPairs trs σ (upd H p (.dK [])) λps H2=>H2 p=some (.dK [])/\∃kvs:List (Key × V),ps=kvs.map (λkv=>(kV kv.1,kv.2))/\kvs.length<=15/\Q (.ref p) (upd H2 p (.dK<|mergeK [] kvs))
theorem Zq2 {X:Cx}{pos:Pos}{keys:List (Option Expr)}{values:List Expr}{trs:List (TE × TE)}(h:PPs X pos keys values trs) (hall:keys.all (·.isSome)=true) (hl:keys.length=values.length) (h0:keys≠[])
  (h15:keys.length<=15):PE X (.Dict keys values pos) (tDisp trs):=by
 intro pins s σ H Q I q;have hn:=I.hok.fresh<|Waf s.heap.objs.size;have I1:=I.laid (a:=s.heap.objs.size) (o:=.dK []) (h':=s.heap.push { cls:=.type "dict",data:=.dict #[] }) (t':=s.toks) (λ_ _ q=>Waa _ q) (Waf _)<|Zi0 s.heap I.big;refine wpAny_Dict_walk (knd:=mixKind X.prog X.w) hall hl h0 h15 (thn (h pins _ σ _ _ I1<|q _ hn) λws s2 ⟨ps,H2,I2,rel,e,kvs,ep,lk,q2⟩=>?_);subst ep;obtain⟨rs,c,rk⟩:=Zfn (P:=X.prog) (w:=X.w) rel;obtain⟨z,hd,vs0,r0,dd⟩:=Zjr I2.hok e;cases r0;refine⟨rs,c,dd,λh' dd' hs=>⟨.ref s.heap.objs.size,_,?_,rfl,q2⟩⟩;have hz:(mergeK [] kvs).length<=sizeLine:=by
  have h1:=Zdq kvs [];rw[Wc1]at h1;rw[sizeLine_eq];omega
 have he:∃q,h'.get? s.heap.objs.size=some q:=let ⟨q,_,_,hq,_⟩:=dd'; ⟨q,hq⟩
 exact Zif I2 (by rw[e];exact True.intro) hs he<|Zo4 hz hd (rk.merge .nil) dd'
section
variable {X:Cx}{o e f:Expr}{apos cpos:Pos}{td ty tx:TE}
end
section
variable {X:Cx}{pins:List (Addr × Obj)}{σ:St}{H:Hp}{s:Shared}{a:Addr}{y:V}{u:Value}{A:Around}{E:Value->Shared->Prop}
end
end L2
namespace L2
open PySem PySem.Spec PyProof.Rows
section
variable {X:Cx}
theorem Zlz:CallR X (.builtin "len") (λxs H Q=>∃a kvs,xs=[V.ref a]/\H a=some (.dK kvs)/\Q (.int kvs.length) H):=by
 intro pins s σ H xs us Q I r h;obtain⟨a,kvs,rfl,ha,q⟩:=h;obtain⟨u,rfl,ru⟩:=vals1 r;cases ru;exact Zt1 I (.inl ha) λt s' I'=>⟨.int kvs.length,H,I',⟨t,rfl⟩,q⟩
end
def clOf (env:Env):List (Str × NameKind)->List (Str × Addr)->List (Str × Addr)
 |[],cs=>cs
 | (n,k)::r,cs=>if k == .free then (match env.cells.lookup n with
     |some a=>clOf env r ((n,a)::cs)
     |none=>clOf env r cs) else clOf env r cs
theorem Zfa {env:Env}:∀(names:List (Str × NameKind)) (cs:List (Str × Addr)),(∀n,(n,NameKind.free)∈names->∃a,env.cells.lookup n=some a) →
  (forIn names cs λ(x:Str × NameKind) (cs:List (Str × Addr))=>if (x.2 == .free)=true then (do let a ← cellOf env x.1;pure (ForInStep.yield ((x.1,a)::cs))) else pure (ForInStep.yield cs):Sem (List<|Str × Addr))=pure (clOf env names cs)
 |[],cs,_=>rfl
 | (n,k)::r,cs,h=>by
  rw[List.forIn_cons];have hr:∀m,(m,NameKind.free)∈r->∃a,env.cells.lookup m=some a:=λm hm=>h m<|Wal _ hm;cases hk:k == NameKind.free with
  |false=>
   have e:clOf env ((n,k)::r) cs=clOf env r cs:=by simp[clOf,hk]
   rw[e,<- Zfa r cs hr];simp only[hk,Bool.false_eq_true,if_false];rfl
  |true=>
   have hk':k=.free:=by simpa using hk
   subst hk';obtain⟨a,ha⟩:=h n Waq;have e:clOf env ((n,.free)::r) cs=clOf env r ((n,a)::cs):=by simp[clOf,ha]
   have ec:cellOf env n=pure a:=by simp[cellOf,ha]
   rw[e,<- Zfa r ((n,a)::cs) hr];simp only[hk,if_true,ec];rfl
theorem Zb9 {env:Env}{scope:Scope}(h:∀n,(n,NameKind.free)∈scope.names->∃a,env.cells.lookup n=some a):closureFor scope env=pure (clOf env scope.names []):=by
 rw[<- Zfa scope.names [] h];simp only[closureFor];exact Eq.trans (bind_pure _) rfl
theorem Zbe {env:Env}:∀(names:List (Str × NameKind)) (cs:List (Str × Addr)) {x:Str}{c:Addr},(∀y d,cs.lookup y=some d->env.cells.lookup y=some d)->(clOf env names cs).lookup x=some c->env.cells.lookup x=some c
 |[],cs,x,c,h,e=>h x c e
 | (n,k)::r,cs,x,c,h,e=>by
  unfold clOf at e;split at e
  ·split at e
   ·rename_i a ha
    refine Zbe r ((n,a)::cs) (λy d q=>?_) e;rw[Wbq]at q;split at q
    ·rename_i hy
     have hy':y=n:=by simpa using hy
     cases q;rw[hy'];exact ha
    ·exact h y d q
   ·exact Zbe r cs h e
  ·exact Zbe r cs h e
theorem Zdo {env:Env}:∀(names:List (Str × NameKind)) (cs:List (Str × Addr)) {x:Str},(∃c,cs.lookup x=some c)->∃c,(clOf env names cs).lookup x=some c
 |[],cs,x,h=>h
 | (n,k)::r,cs,x,h=>by
  have h2:∀a,∃c,((n,a)::cs).lookup x=some c:=λa=>by
   rw[Wbq];split
   ·exact⟨_,rfl⟩
   ·exact h
  unfold clOf;split
  ·split
   ·exact Zdo r _<|h2 _
   ·exact Zdo r cs h
  ·exact Zdo r cs h
theorem Zdu {env:Env}:∀(names:List (Str × NameKind)) (cs:List (Str × Addr)) {x:Str},(x,NameKind.free)∈names->(∃a,env.cells.lookup x=some a)->∃c,(clOf env names cs).lookup x=some c
 |[],_,_,h,_=>by simp at h
 | (n,k)::r,cs,x,h,⟨a,ha⟩=>by
  rcases Wah.mp h with e|hm
  ·have e1:n=x:=(congrArg Prod.fst e).symm
   have e2:k=.free:=(congrArg Prod.snd e).symm;subst e1;subst e2;have e:clOf env ((n,.free)::r) cs=clOf env r ((n,a)::cs):=by simp[clOf,ha]
   rw[e];exact Zdo r _ ⟨a,by simp⟩
  ·unfold clOf
   split
   ·split
    ·exact Zdu r _ hm ⟨a,ha⟩
    ·exact Zdu r _ hm ⟨a,ha⟩
   ·exact Zdu r _ hm ⟨a,ha⟩
def relab (osc scope:Scope):Scope:=
 { scope with names:=scope.names.map λ(n,k)=>if (k == .free && osc.kind == .function && osc.names.lookup n == some .cell) then (n,.cell) else (n,k) }
theorem Zhh {osc scope:Scope}{x:Str}{k:NameKind}(hk:k=.cell\/k=.free) (hc:∀y∈scope.names,y.2≠.cell) (h:(relab osc scope).names.lookup x=some k):(x,NameKind.free)∈scope.names:=by
 have hm:=PySem.mem_of_lookup h;obtain⟨⟨n,j⟩,hy,e⟩:=Wax.mp hm;dsimp only at e;split at e
 ·rename_i hj
  have e1:n=x:=congrArg Prod.fst e;have hj':j=.free:=by
   simp only[Wau,beq_iff_eq]at hj;exact hj.1.1
  rw[<- e1,<- hj'];exact hy
 ·have e1:n=x:=congrArg Prod.fst e
  have e2:j=k:=congrArg Prod.snd e;rcases hk with z|z
  ·exact absurd (show ((n,j):Str × NameKind).2=.cell from e2.trans z)<|hc _ hy
  ·rw[<- e1,<- z,<- e2];exact hy
theorem Zff {osc:Scope}{x:Str}:∀{names:List (Str × NameKind)},names.lookup x=some .free →
  (names.map λ(n,k)=>if (k == NameKind.free && osc.kind == .function && osc.names.lookup n == some .cell) then (n,NameKind.cell) else (n,k)).lookup x=some .cell ∨
  (names.map λ(n,k)=>if (k == NameKind.free && osc.kind == .function && osc.names.lookup n == some .cell) then (n,NameKind.cell) else (n,k)).lookup x=some .free
 |[],h=>by simp at h
 | (n,k)::r,h=>by
  have ih:=@Zff osc x r;rw[Wav];cases hx:x == n with
  |true=>
   simp only[Wbq,hx]at h;cases h;dsimp only;split
   ·left;simp[Wbq,hx]
   ·right;simp[Wbq,hx]
  |false=>
   simp only[Wbq,hx]at h;dsimp only;split
   ·simpa only[Wbq,hx] using ih h
   ·simpa only[Wbq,hx] using ih h
structure CompSc (osc:Scope) (oN:List Str) (scope:Scope) (fvs:List Str) (sel:List Nat):Prop where
 kind:scope.kind=.function
 nocell:∀y∈scope.names,y.2≠.cell
 names:∀y∈scope.names,y.2=.local->scope.names.lookup y.1=some .local
 free:∀y∈scope.names,y.2=.free->osc.names.lookup y.1=some .cell\/osc.names.lookup y.1=some .free
 len:fvs.length=sel.length
 fv:∀p∈fvs.zip sel,oN[p.2]?=some p.1/\scope.names.lookup p.1=some .free
def compCx (X:Cx) (scope:Scope) (N:List Str) (C:Addr) (s:Shared) (H:Hp) (ex:List Addr) (pn:List (Addr × Obj)):Cx where
 prog:=X.prog
 w:=X.w
 K:=X.K
 mg:=X.mg
 base:=X.base
 A:=X.A
 N:=N
 s₀:=s
 H₀:=H
 env:=compEnvC scope (clOf X.env scope.names []) C X.env
 outer:=X.stack
 stack:=X.stack
 ex:=ex
 fn:=λ_=>false
 calm:=X.calm
 pn:=pn
 xe:=λ_ _=>False
def compSt (n:Nat) (sel:List Nat) (σ:St):St:=Wad n none++sel.map λi=>(σ[i]?).getD none
section
variable {X:Cx}{pins:List (Addr × Obj)}{σ:St}{H:Hp}{s:Shared}{fp:List Addr}{scope:Scope}{tgs fvs:List Str}{sel:List Nat}
theorem Zc4 (S:CompSc X.env.scope X.N scope fvs sel) (ok:X.Ok):∀n,(n,NameKind.free)∈scope.names->∃a,X.env.cells.lookup n=some a:=λn hn=>
 ok.has n (S.free _ hn rfl)
theorem Zpf (S:CompSc X.env.scope X.N scope fvs sel) (N:List Str) (I:Inv X pins σ H s) (hf:∀b∈fp,FpOk X pins H b) (hlt:∀b∈fp,b<s.heap.objs.size):(compCx X scope N s.heap.objs.size s H fp<|X.pn++pins).Ok where
 mod:=I.ok.mod
 kind:=S.kind
 glob:=I.ok.glob
 blt:=I.ok.blt
 above:=Waf _
 inj:=λx y c h1 h2=>I.ok.inj x y c (Zbe _ _ (λ_ _ z=>by simp at z) h1)<|Zbe _ _ (λ_ _ z=>by simp at z) h2
 has:=λx hx=>by
  have hm:(x,NameKind.free)∈scope.names:=by
   rcases hx with z|z
   ·exact Zhh (osc:=X.env.scope) (.inl rfl) S.nocell z
   ·exact Zhh (osc:=X.env.scope) (.inr rfl) S.nocell z
  exact Zdu scope.names [] hm<|Zc4 S I.ok x hm
 cab:=λx c h _=>by cases h
 hd:=I.ok.hd
 frames:=I.ok.frames
 stk:=.inl rfl
 exf:=λb hb=>⟨Wa4<|hlt b hb,λx c e=>(hf b hb).2.2.2.2.1 x c (Zbe _ _ (λ_ _ z=>by simp at z) e)⟩
 bs:=I.bs
 bsz:=Was I.ok.bsz I.sz
 noex:=λb o e hb=>by
  rcases(hf b hb).2.2.2.1 with z|z
  ·exact I.ok.noex b o e z
  ·exact absurd (Wa0 (Wan e)<|Was I.ok.bsz z)<|Wcb _
 exfs:=λb hb z=>by
  rcases Wah.mp (I.stkSub b z) with e|z
  ·exact(hf b hb).2.1 e
  ·exact(hf b hb).2.2.1 z
 funs:=I.stack
 frf:=I.stkFree
theorem Zni (S:CompSc X.env.scope X.N scope fvs sel) (I:Inv X pins σ H s) (hf:∀b∈fp,FpOk X pins H b) (hlt:∀b∈fp,b<s.heap.objs.size) {h':Heap}{tk:Nat}{m:Str->Option Value}
  (hns:h'.Ns s.heap.objs.size m) (old:∀b o,s.heap.get? b=some o->h'.get? b=some o) :
  Inv (compCx X scope (tgs++fvs) s.heap.objs.size s H fp<|X.pn++pins) [] (compSt tgs.length sel σ) H { s with heap:=h',toks:=tk } where
 ok:=Zpf S _ I hf hlt
 os:=rfl
 bare:=I.bare
 base:=Un.kept old
 loc:=by
  refine⟨m,hns,λi x v h1 h2 h3=>?_⟩;have h1:(tgs++fvs)[i]?=some x:=h1;unfold compSt at h2;by_cases hi:i<tgs.length
  ·rw[Wbb (by simpa using hi),Wbw,if_pos hi]at h2
   cases h2
  ·have hi':tgs.length<=i:=Nat.le_of_not_lt hi
   rw[Wa1 (by simpa using hi'),Waj,Wa2]at h2;rw[Wa1 hi']at h1;cases hj:sel[i-tgs.length]? with
   |none=>rw[hj]at h2;cases h2
   |some j=>
    rw[hj]at h2;have h2:(σ[j]?).getD none=some v:=by simpa using h2
    have hz:(x,j)∈fvs.zip sel:=by
     refine Waz (i:=i-tgs.length) ?_;rw[Wbu];exact⟨h1,hj⟩
    obtain⟨hN,hfr⟩:=S.fv _ hz;have hσ:σ[j]?=some (some v):=by
     cases q:σ[j]? with
     |none=>rw[q]at h2;cases h2
     |some o=>rw[q]at h2;exact congrArg some h2
    have hko:X.env.scope.names.lookup x=some .cell\/X.env.scope.names.lookup x=some .free:=S.free (x,.free) (PySem.mem_of_lookup hfr) rfl;obtain⟨m0,hn0,hl0⟩:=I.loc;obtain⟨u,r,l⟩:=hl0 j x v hN hσ (.inr hko);refine⟨u,r,.inr ⟨Zff hfr,?_⟩⟩;rcases l with ⟨hk,_⟩|⟨_,c,hc,hcell⟩
    ·have hk:X.env.scope.names.lookup x=some .local:=hk
     rcases hko with z|z <;> (rw[hk]at z;cases z)
    ·obtain⟨c',hc'⟩:=Zdu scope.names [] (PySem.mem_of_lookup hfr) ⟨c,hc⟩
     have e:=Zbe scope.names [] (λ_ _ z=>by simp at z) hc';rw[hc]at e;cases e;obtain⟨o,ho,hd⟩:=hcell;exact⟨c,hc',o,old _ _ ho,hd⟩
 cell:=λx c e=>by
  obtain⟨v,o,ho,hd⟩:=I.cell x c<|Zbe _ _ (λ_ _ z=>by simp at z) e;exact⟨v,o,old _ _ ho,hd⟩
 free:=I.hok.fresh<|Waf _
 freeC:=λx c e=>I.freeC x c<|Zbe _ _ (λ_ _ z=>by simp at z) e
 pin:=λp hp=>by
  have hp:p∈(X.pn++pins)++[]:=hp;rw[Wba]at hp;obtain⟨e,n,ne,nf,d⟩:=I.pin p hp;refine⟨old _ _ e,n,Wa4<|Wan e,λz=>?_,d⟩;rcases Wah.mp (I.stkSub p.1 z) with q|q
  ·exact ne q
  ·exact nf q
 hok:=I.hok.kept old
 len:=by
  unfold compSt;show _=(tgs++fvs).length;rw[War,War,Wa2,Wac,S.len]
theorem Zkx {N:List Str}{σ':St}{H':Hp}{s':Shared}{h':Heap}(I:Inv X pins σ H s) (hf:∀b∈fp,FpOk X pins H b)
  (J:Inv (compCx X scope N s.heap.objs.size s H fp<|X.pn++pins) [] σ' H' s') (sb:Heap.SameBut s.heap.objs.size s'.heap h'):Inv X pins σ H' { s' with heap:=h' }:=by
 have B:Un (frs X.stack) fp H H' s.heap s'.heap:=J.base;have ne:∀b o,s.heap.get? b=some o->b≠s.heap.objs.size:=λb o e=>Wa4<|Wan e;have fr:H' s.heap.objs.size=none:=J.free;refine I.call' (s':={ s' with heap:=h' }) (ch:=fp) J.os ⟨λb o e n h1 h2=>?_,λb o e n h1 h2=>?_,B.free,λb o e h2=>?_,B.tups,B.frzs,B.tbls⟩ (λb ob e=>?_) J.bare λb hb=>?_
 ·exact(sb.2 b<|ne b o e).trans (B.keep b o e n h1 h2)
 ·obtain⟨sl,q⟩:=B.slot b o e n h1 h2
  exact⟨sl,(sb.2 b<|ne b o e).trans q⟩
 ·obtain⟨o',q⟩:=B.there b o e h2
  exact⟨o',(sb.2 b<|ne b o e).trans q⟩
 ·refine(J.hok b ob e).stay (λc w' hc q=>(sb.2 c ?_).trans q) (λ_ q=>q) λ_ _ q=>q
  intro z;rcases hc with hc|hc
  ·rw[<- hc,z,fr]at e;cases e
  ·rw[z,fr]at hc;cases hc
 ·exact⟨(hf b hb).2.2.2.1,(hf b hb).2.1,(hf b hb).2.2.2.2.1,(hf b hb).2.2.2.2.2⟩
end
def PTs (X:Cx) (ifs:List Expr) (t:TT):Prop:=
 ∀(pins:List (Addr × Obj)) (s:Shared) (σ:St) (H:Hp) (Q:Bool->Hp->Prop),Inv X pins σ H s->t σ H Q →
  wpAny (model X.prog X.w) X.A (forIn ifs true λc r=>if r=true then do let ok ← isTrue c X.env (eval c X.env);pure (ForInStep.yield ok) else pure (ForInStep.yield r)) (TP X pins σ Q) X.xe s
def tTrue:TT:=λ_ H Q=>Q true H
theorem Zck {X:Cx}:PTs X [] tTrue:=λpins s σ H Q I h=>wpAny_tests_nil ⟨H,I,h⟩
theorem Zh0 {X:Cx}{c:Expr}{t:TT}(h:PT X c t):PTs X [c] t:=λpins s σ H Q I hq=>wpAny_tests_one<|h pins s σ H Q I hq
def tComp (n:Nat) (sel:List Nat) (wi:TI) (g:TG) (tc:TT) (te:TE):TE:=λσ H Q=>wi σ H λJ H1=>∀acc,H1 acc=none->∃W:Nat->Nat->St->Hp->Prop,
 (∃m,W 0 m (compSt n sel σ) (upd H1 acc (.lst [])))/\∀i m σ' H',W i m σ' H' →
  (J.stop i H' /\ Q (.ref acc) H')\/(J.go i H' /\ ∃N:St->Hp->Prop,(∀σ2 H2,N σ2 H2->∃m',m'<m/\W (i+1) m' σ2 H2) ∧
   ∀x H2,J.yld i H' x H2->g x σ' H2 λσ2 H3=>tc σ2 H3 λb H4=>if b=true then te σ2 H4 λy H5=>∃ys,H5 acc=some (.lst ys)/\ys.length<sizeLine/\N σ2 (upd H5 acc (.lst (ys++[y]))) else N σ2 H4)
section
variable {X:Cx}
theorem Ze8 {elt tg iter:Expr}{ifs:List Expr}{scope:Scope}{pos:Pos}{tgs fvs:List Str}{sel:List Nat}{g:TG}{tc:TT}{te:TE}(S:CompSc X.env.scope X.N scope fvs sel) {Cm:Cx->Prop}(hc:∀C s H ex pn,Cm (compCx X scope (tgs++fvs) C s H ex pn))
  (hg:∀C s H ex pn,PG (compCx X scope (tgs++fvs) C s H ex pn) tg g) (ht:∀C s H ex pn,PTs (compCx X scope (tgs++fvs) C s H ex pn) ifs tc) (he:∀C s H ex pn,PE (compCx X scope (tgs++fvs) C s H ex pn) elt te)
  {pins:List (Addr × Obj)}{σ:St}{s:Shared}{itv:Value}{Q:VK}{E:Value->Shared->Prop}{RR:Value->Addr->Result->Shared->Prop}
  (h2:PIEG Cm X pins σ tg (λJ H1=>∀acc,H1 acc=none->∃W:Nat->Nat->St->Hp->Prop,
   (∃m,W 0 m (compSt tgs.length sel σ) (upd H1 acc (.lst [])))/\∀i m σ' H',W i m σ' H' →
   (J.stop i H' /\ Q (.ref acc) H')\/(J.go i H' /\ ∃N:St->Hp->Prop,(∀σ2 H2,N σ2 H2->∃m',m'<m/\W (i+1) m' σ2 H2) ∧
   ∀x H2,J.yld i H' x H2->g x σ' H2 λσ2 H3=>tc σ2 H3 λb H4=>if b=true then te σ2 H4 λy H5=>∃ys,H5 acc=some (.lst ys)/\ys.length<sizeLine/\N σ2 (upd H5 acc (.lst (ys++[y]))) else N σ2 H4)) itv s)
  (fin:∀(s':Shared) (C acc:Addr) (H':Hp) (m:Str->Option Value),s'.heap.Ns C m->FpOk X pins H' C->(∀h',Heap.SameBut C s'.heap h' -> Inv X pins σ H' { s' with heap:=h' })->Q (.ref acc) H' -> RR (.ref acc) C (.ok .next) s') :
  wpAny (model X.prog X.w) X.A (newList []) (λacc s3=>wpAny (model X.prog X.w) X.A (newFunctionEnv scope X.env.globals (clOf X.env scope.names []) [] X.env.qual none .none (some X.env)) (λcenv s4=>
   codeAny (model X.prog X.w) X.A (.compStart (.ListComp elt [⟨tg,iter,ifs,0⟩] scope pos) 0 itv acc { cenv with scope:=relabel scope X.env }) (RR acc cenv.locals) s4) E s3) E s:=by
 obtain⟨it,fp,tn,J,H1,e,I,T,st,f2,h2⟩:=h2;subst e;have hlt:∀b∈fp,b<s.heap.objs.size:=λb hb=>let ⟨o,ho,_⟩:=T.obj 0 _ st b hb; Wan ho
 refine wpAny_newObj_type<|wpAny_newFunctionEnv S.nocell (by intro y hy;simp at hy) (λh1 hns hsb=>?_) S.kind;dsimp only at hns hsb ⊢;have I3:Inv X pins σ (upd H1 s.heap.objs.size (.lst [])) { s with heap:=s.heap.push { cls:=.type "list",data:=.seq ([]:List Value).toArray },toks:=s.toks }:=I.lnew (its:=[]) .nil (by decide);have hacc:H1 s.heap.objs.size=none:=I.hok.fresh<|Waf _;obtain⟨W,⟨m0,w0⟩,turn⟩:=h2 s.heap.objs.size hacc;generalize hs3:({ s with heap:=s.heap.push { cls:=.type "list",data:=.seq ([]:List Value).toArray },toks:=s.toks }:Shared)=s3 at I3;have hh3:s3.heap=s.heap.push { cls:=.type "list",data:=.seq ([]:List Value).toArray }:=by rw[<- hs3]
 have old3:∀b o,s.heap.get? b=some o->s3.heap.get? b=some o:=λb o q=>by rw[hh3];exact Waa _ q
 have hf3:∀b∈fp,FpOk X pins (upd H1 s.heap.objs.size (.lst [])) b:=λb hb=>⟨by rw[Zaj (Wa4<|hlt b hb)];exact(f2 b hb).1,(f2 b hb).2⟩;have hlt3:∀b∈fp,b<s3.heap.objs.size:=λb hb=>by rw[hh3,Wbj];exact Wdc<|hlt b hb
 have tn3:tn 0 s3.heap:=T.keep 0 _ _ st λb hb o q=>old3 b o q;have old4:∀b o,s3.heap.get? b=some o->h1.get? b=some o:=λb o q=>by
  have hb:b≠s3.heap.objs.size:=Wa4<|Wan q;rw[hh3]at hb q;exact(hsb.2 b hb).trans (Waa _ q)
 have tn4:tn 0 h1:=T.keep 0 _ _ tn3 λb hb o q=>old4 b o q;have hC:(s.heap.push { cls:=.type "list",data:=.seq ([]:List Value).toArray }).objs.size=s3.heap.objs.size:=by rw[hh3]
 rw[hC]at hns;have J0:=Zni (tgs:=tgs) (tk:=s.toks+([]:List (Str × Value)).length) S I3 hf3 hlt3 hns old4;have es:({ s3 with heap:=h1,toks:=s.toks+([]:List (Str × Value)).length }:Shared) = { s with heap:=h1,toks:=s.toks+([]:List (Str × Value)).length }:=by rw[<- hs3]
 rw[es]at J0;generalize hY:compCx X scope (tgs++fvs) s3.heap.objs.size s3 (upd H1 s.heap.objs.size (.lst [])) fp (X.pn++pins)=Y at J0;have hYp:Y.prog=X.prog:=by rw[<- hY];rfl
 have hYw:Y.w=X.w:=by rw[<- hY];rfl
 have hYK:Y.K=X.K:=by rw[<- hY];rfl
 have hYA:Y.A=X.A:=by rw[<- hY];rfl
 have hYc:Cm Y:=by rw[<- hY];exact hc _ _ _ _ _
 have hYx:Y.xe=λ_ _=>False:=by rw[<- hY];rfl
 have hYe:Y.env=compEnvC scope (clOf X.env scope.names []) s3.heap.objs.size X.env:=by rw[<- hY];rfl
 have stat:∀{H':Hp},(∀b∈fp,H' b=none)->∀b∈fp,FpOk Y [] H' b:=λhn b hb=>by
  rw[<- hY];refine⟨hn b hb,Wa4<|hlt3 b hb,λz=>?_,.inl hb,λx c e=>?_,λp hp z=>?_⟩
  ·rcases Wah.mp (I3.stkSub b z) with q|q
   ·exact(hf3 b hb).2.1 q
   ·exact(hf3 b hb).2.2.1 q
  ·exact(hf3 b hb).2.2.2.2.1 x c (Zbe _ _ (λ_ _ z=>by simp at z) e)
  ·have hp:p∈(X.pn++pins)++[]:=hp
   rw[Wba]at hp;exact(hf3 b hb).2.2.2.2.2 p hp z
 have loop:codeAny (model X.prog X.w) X.A (.compLoop (.ListComp elt [⟨tg,iter,ifs,0⟩] scope pos) 0 (.ref it) (.ref s.heap.objs.size) Y.env) (RR (.ref s.heap.objs.size) s3.heap.objs.size)
   { s with heap:=h1,toks:=s.toks+([]:List (Str × Value)).length }:=by
  refine codeAny_loop rfl (λn s'=>∃i σ' H',Inv Y [] σ' H' s' /\ tn i s'.heap/\(∀b∈fp,H' b=none)/\W i n σ' H') ?_ m0 ⟨0,_,_,J0,tn4,λb hb=>(hf3 b hb).1,w0⟩;rintro n s5 ⟨i,σ5,H5,I5,st5,fr5,w5⟩;show wpAny _ X.A ((compTurn (.ListComp elt [⟨tg,iter,ifs,0⟩] scope pos) 0 (.ref it) (.ref s.heap.objs.size) Y.env).onRaise (λx=>do noteFrame x Y.env;theTreesLotGoes x)) _ _ s5;refine wpAny_noted (wpAny_mono (E:=λ_ _=>False) ?_ (λ_ _ q=>q) λ_ _ z=>z.elim);rw[compTurn_list];refine wpAny_bind<|wpAny_standAt<|wpAny_bind ?_;rcases turn i n σ5 H5 w5 with ⟨stop,qn⟩|⟨go,N,hN,step⟩
  ·have D:=T.done Y hYp hYw hYK hYc i [] s5 σ5 H5 (λ_ _=>False) I5 (stat fr5) st5 stop
   rw[hYA]at D;refine thn D λr s6 ⟨hr,I6⟩=>?_;subst hr;refine wpAny_pure ?_;obtain⟨m6,hn6,_⟩:=I6.loc;rw[hYe]at hn6;refine fin s6 _ _ H5 m6 hn6 (I3.fpOk (Waf _) (by have z:=I6.free;rw[hYe]at z;exact z)) (λh' sb=>?_) qn;have I6':Inv (compCx X scope (tgs++fvs) s3.heap.objs.size s3 (upd H1 s.heap.objs.size (.lst [])) fp<|X.pn++pins) [] σ5 H5 s6:=by rw[hY];exact I6
   exact Zkx I3 hf3 I6' sb
  ·have D:=T.item Y hYp hYw hYK hYc i [] s5 σ5 H5 (λ_ _=>False) I5 (stat fr5) st5 go
   rw[hYA]at D;refine thn D λr s6 ⟨u,hr,h6⟩=>?_;subst hr;refine wpAny_bind (thn h6 λ_ s7 ⟨x,H7,I7,r7,y7,st7,fr7⟩=>?_);have I7':=I7.pinned (stat fr7)<|T.obj _ _ st7;have G:=hg s3.heap.objs.size s3 (upd H1 s.heap.objs.size (.lst [])) fp<|X.pn++pins;have TT:=ht s3.heap.objs.size s3 (upd H1 s.heap.objs.size (.lst [])) fp<|X.pn++pins;have EE:=he s3.heap.objs.size s3 (upd H1 s.heap.objs.size (.lst [])) fp<|X.pn++pins;rw[hY]at G TT EE;have G1:=G _ s7 σ5 H7 x u _ I7' r7<|step x H7 y7;rw[hYp,hYw,hYA,hYx]at G1;refine wpAny_bind (thn G1 λ_ s8 ⟨σ8,H8,I8,q8⟩=>?_);have T1:=TT _ s8 σ8 H8 _ I8 q8;rw[hYp,hYw,hYA,hYx]at T1;refine wpAny_bind (thn T1 λok s9 ⟨H9,I9,q9⟩=>?_);have again:∀{s':Shared}{σ':St}{H':Hp},Inv Y ([]++pinsAt fp s7.heap) σ' H' s' -> N σ' H' -> ∃m,m<n/\∃i σ' H',Inv Y [] σ' H' s' /\ tn i s'.heap/\(∀b∈fp,H' b=none)/\W i m σ' H':=λ{s' σ' H'} K7 n7=>by
    obtain⟨m',hm,w7⟩:=hN σ' H' n7;refine⟨m',hm,i+1,σ',H',K7.unpinned,T.keep _ _ _ st7 λb hb o e=>(K7.pin (b,o)<|Wa3 _<|Wa3 _<|Zc3 hb e).1,λb hb=>?_,w7⟩;obtain⟨o,e,d⟩:=T.obj _ _ st7 b hb;exact(K7.pin (b,o)<|Wa3 _<|Wa3 _<|Zc3 hb e).2.1
   cases ok with
   |false=>
    have q9:N σ8 H9:=q9;exact wpAny_pure ⟨by rw[hYe],again I9 q9⟩
   |true=>
    have q9:te σ8 H9 λy H5=>∃ys,H5 s.heap.objs.size=some (.lst ys)/\ys.length<sizeLine/\N σ8 (upd H5 s.heap.objs.size (.lst<|ys++[y])):=q9;have E1:=EE _ s9 σ8 H9 _ I9 q9;rw[hYp,hYw,hYA,hYx]at E1;refine wpAny_bind<|wpAny_bind (thn E1 λv sa ⟨y,Ha,Ia,ra,ys,ea,za,na⟩=>?_);have M:=Zdr (X:=Y) _ sa σ8 Ha (.ref s.heap.objs.size) [y] (.ref s.heap.objs.size) [v] (λ_ H=>N σ8 H) Ia rfl (.cons ra .nil) ⟨_,ys,y,rfl,rfl,ea,za,na⟩;rw[hYp,hYw,hYA,hYx]at M;refine wpAny_bind (thn M λ_ sb ⟨_,Hb,Ib,_,nb⟩=>wpAny_pure<|wpAny_pure ⟨by rw[hYe],again Ib nb⟩)
 have hcs:(relabel scope X.env)=(relabel scope X.env):=rfl;have loop':=loop;rw[hYe]at loop';show codeAny (model X.prog X.w) X.A (.compStart (.ListComp elt [⟨tg,iter,ifs,0⟩] scope pos) 0 (.ref it) (.ref s.heap.objs.size)<|compEnvC scope (clOf X.env scope.names []) (s.heap.push { cls:=.type "list",data:=.seq ([]:List Value).toArray }).objs.size X.env) (RR (.ref s.heap.objs.size) (s.heap.push { cls:=.type "list",data:=.seq ([]:List Value).toArray }).objs.size) _;rw[hC];exact codeAny_compStart_list loop'<|T.self _ 0 _ _ _ tn4 loop'
theorem Zbq {elt tg iter:Expr}{ifs:List Expr}{scope:Scope}{pos:Pos}{fvs:List Str}{sel:List Nat}{wi:TI}{g:TG}{tc:TT}{te:TE}(tgs:List Str) (S:CompSc X.env.scope X.N scope fvs sel) (hc:X.calm=true)
  (hi:PI X tg iter wi) (hg:∀C s H ex pn,PG (compCx X scope (tgs++fvs) C s H ex pn) tg g) (ht:∀C s H ex pn,PTs (compCx X scope (tgs++fvs) C s H ex pn) ifs tc) (he:∀C s H ex pn,PE (compCx X scope (tgs++fvs) C s H ex pn) elt te)
  (hs:∀x,foldedSetIterable iter X.env x=pure x:=by intro _;rfl) :
  PE X (.ListComp elt [⟨tg,iter,ifs,0⟩] scope pos) (tComp tgs.length sel wi g tc te):=by
 intro pins s σ H Q I h;rw[eval_ListComp];refine wpAny_comprehension_free (use:=none) rfl hs (Zb9<|Zc4 S I.ok) S.kind S.names (thn (hi pins s σ H _ I h) λv s1 h1=>thn h1 λitv s2 h2=>?_);refine Ze8 (Cm:=λX=>X.calm=true) S (λ_ _ _ _ _=>hc) hg ht he (RR:=λacc C=>compPost (model X.prog X.w) X.A X.xe none (EP X pins σ Q) acc C) (Q:=Q) h2 ?_;intro s' C acc H' m hn _ hI q;exact⟨m,hn,λh' sb=>⟨.ref acc,H',hI h' sb,rfl,q⟩⟩
theorem Zi4 {elt tg iter:Expr}{ifs:List Expr}{scope:Scope}{pos spos py:Pos}{fvs:List Str}{sel:List Nat}{wi:TI}{g:TG}{tc:TT}{te:TE}{i:Nat}{y:Str}(tgs:List Str) (S:CompSc X.env.scope X.N scope fvs sel) (hc:X.calm=true)
  (hN:X.N.Nodup) (hiy:X.N[i]?=some y) (hx:Loc X.env.scope y)
  (hi:PI X tg iter wi) (hg:∀C s H ex pn,PG (compCx X scope (tgs++fvs) C s H ex pn) tg g) (ht:∀C s H ex pn,PTs (compCx X scope (tgs++fvs) C s H ex pn) ifs tc) (he:∀C s H ex pn,PE (compCx X scope (tgs++fvs) C s H ex pn) elt te)
  (hs:∀x,foldedSetIterable iter X.env x=pure x:=by intro _;rfl) (hsw:swapsWith (.ListComp elt [⟨tg,iter,ifs,0⟩] scope pos) (some (.Name y py)) spos.line X.env=pure true:=by rfl)
  (hf:X.fn y=true\/X.env.scope.names.lookup y=some .local:=by first|exact .inl rfl|exact .inr rfl|assumption) :
  PS X (.Assign [.Name y py] (.ListComp elt [⟨tg,iter,ifs,0⟩] scope pos) spos) (tAsg (tComp tgs.length sel wi g tc te)<|gName i):=by
 intro pins s σ H D I h;rw[exec_Assign_Name_used _ _ _ _ hsw];refine wpAny_bind (wpAny_standAt (wpAny_bind ?_));show wpAny _ X.A (do let _ ← comprehension (.ListComp elt [⟨tg,iter,ifs,0⟩] scope pos) scope X.env _ (newList []) false (eval iter X.env) (some (assign (.Name y py) X.env))) _ _ s;refine wpAny_bind (wpAny_mono (wpAny_comprehension_free (use:=some (assign (.Name y py) X.env)) (Q:=λ_ s'=>SP X pins D .next s') rfl hs (Zb9 (Zc4 S I.ok)) S.kind S.names
  (thn (hi pins s σ H _ I h) λv s1 h1=>thn h1 λitv s2 h2=>?_)) (λ_ s' hq=>wpAny_pure (wpAny_pure hq)) λ_ _ e=>e)
 refine Ze8 (Cm:=λX=>X.calm=true) S (λ_ _ _ _ _=>hc) hg ht he (RR:=λacc C=>compPost (model X.prog X.w) X.A X.xe (some<|assign (.Name y py) X.env) (λ_ s'=>SP X pins D .next s') acc C) (Q:=λv H'=>D.nx (σ.set i<|some v) H') h2 ?_;intro s' C acc H' m hn fp hI q;have I0:Inv X pins σ H' s':=hI s'.heap (.refl ..);show wpAny _ X.A (assign (.Name y py) X.env (.ref acc)) _ _ _;refine wpAny_assign_Name<|Zgy (v:=.ref acc) I0 hN hiy hx rfl (λs2 I2 hsb=>?_) hf;obtain⟨a,sb,ha⟩:=hsb;have hCa:C≠a:=by
  rcases ha with z|z
  ·rw[z];exact fp.2.1
  ·exact Ne.symm<|fp.2.2.2.2.1 y a z
 refine⟨m,hn.sameBut sb hCa,λh' sb'=>?_⟩;obtain⟨f0,f1,f2,f3,f4,f5⟩:=fp;exact⟨_,H',I2.turned (t':=s2.toks) (it:=C) (λb o hb e=>(sb'.2 b hb).trans e) f0 f1 f3 f4 f5,q⟩
end
def InsC (a C:Addr) (h:Heap):Prop:=∃ox vs,h.get? a=some ox/\ox.cls=.ref C/\ox.data=.fields vs/\vs[2]?=some .none
def InsR (a C dx:Addr) (h:Heap):Prop:=∃ox vs,h.get? a=some ox/\ox.cls=.ref C/\ox.data=.fields vs/\vs[2]?=some .none/\ox.dict=some dx
inductive D where
 |non|bl (b:Bool)|int (i:Int)|str (x:Str)|ty (n:String)|tup (ds:List D)|lst (ds:List D)|scr (ds:List D)|adr (a:Addr)|dct (ks:List Key) (ds:List D)|exc (a C:Addr)|excR (a C:Addr) (i:Int)
mutual
inductive Rep (K:W.Frag) (G:Hp):V->D->Prop
 |non:Rep K G .non .non
 |bl (b:Bool):Rep K G (.bl b) (.bl b)
 |int (i:Int):Rep K G (.int i) (.int i)
 |str (x:Str):Rep K G (.str x) (.str x)
 |ty (n:String):Rep K G (.ty n) (.ty n)
 |tup {a:Addr}{vs:List V}{ds:List D}:G a=some (.tup vs)->Reps K G vs ds->Rep K G (.ref a) (.tup ds)
 |lst {a:Addr}{vs:List V}{ds:List D}:G a=some (.lst vs)->Reps K G vs ds->Rep K G (.ref a) (.lst ds)
 |scr {a:Addr}{vs:List V}{ds:List D}:SqL K G a vs->Reps K G vs ds->Rep K G (.ref a) (.scr ds)
 |adr (a:Addr):Rep K G (.ref a) (.adr a)
 |dct {a:Addr}{ks:List Key}{vs:List V}{ds:List D}:G a=some (.dK (ks.zip vs))->ks.length=vs.length->Reps K G vs ds->Rep K G (.ref a) (.dct ks ds)
 |exc {a C:Addr}:G a=some (.ext (InsC a C))->Rep K G (.ref a) (.exc a C)
 |excR {a C dx:Addr}{i:Int}:G a=some (.ext (InsR a C dx))->G dx=some (.xd [("row",.int i)])->Rep K G (.ref a) (.excR a C i)
inductive Reps (K:W.Frag) (G:Hp):List V->List D->Prop
 |nil:Reps K G [] []
 |cons {v:V}{d:D}{vs:List V}{ds:List D}:Rep K G v d->Reps K G vs ds->Reps K G (v::vs) (d::ds)
end
def RepI (K:W.Frag) (G:Hp) (v:V):D->Prop
 |.non=>v=.non
 |.bl b=>v=.bl b
 |.int i=>v=.int i
 |.str x=>v=.str x
 |.ty n=>v=.ty n
 |.tup ds=>∃a vs,v=.ref a/\G a=some (.tup vs)/\Reps K G vs ds
 |.lst ds=>∃a vs,v=.ref a/\G a=some (.lst vs)/\Reps K G vs ds
 |.scr ds=>∃a vs,v=.ref a/\SqL K G a vs/\Reps K G vs ds
 |.adr a=>v=.ref a
 |.dct ks ds=>∃a vs,v=.ref a/\G a=some (.dK (ks.zip vs))/\ks.length=vs.length/\Reps K G vs ds
 |.exc a C=>v=.ref a/\G a=some (.ext (InsC a C))
 |.excR a C i=>v=.ref a/\∃dx,G a=some (.ext (InsR a C dx))/\G dx=some (.xd [("row",.int i)])
theorem Rep.inv {K:W.Frag}{G:Hp}{v:V}{d:D}(r:Rep K G v d):RepI K G v d:=by
 cases r with
 |tup h r=>exact⟨_,_,rfl,h,r⟩
 |lst h r=>exact⟨_,_,rfl,h,r⟩
 |scr h r=>exact⟨_,_,rfl,h,r⟩
 |dct h l r=>exact⟨_,_,rfl,h,l,r⟩
 |exc h=>exact⟨rfl,h⟩
 |excR h h2=>exact⟨rfl,_,h,h2⟩
 |_=>rfl
def RepsI (K:W.Frag) (G:Hp) (vs:List V):List D->Prop
 |[]=>vs=[]
 |d::ds=>∃v ws,vs=v::ws/\Rep K G v d/\Reps K G ws ds
theorem Reps.inv {K:W.Frag}{G:Hp}{vs:List V}{ds:List D}(r:Reps K G vs ds):RepsI K G vs ds:=by
 cases r with
 |nil=>rfl
 |cons a b=>exact⟨_,_,rfl,a,b⟩
section
variable {K:W.Frag}{G G' H H':Hp}
mutual
theorem Rep.mono (s:Same G G'):∀{v:V}{d:D},Rep K G v d->Rep K G' v d
 |_,_,.non=>.non
 |_,_,.bl b=>.bl b
 |_,_,.int i=>.int i
 |_,_,.str x=>.str x
 |_,_,.ty n=>.ty n
 |_,_,.tup h r=>.tup (s _ _ h) (Reps.mono s r)
 |_,_,.lst h r=>.lst (s _ _ h) (Reps.mono s r)
 |_,_,.scr h r=>.scr (s.seq h) (Reps.mono s r)
 |_,_,.adr a=>.adr a
 |_,_,.dct h l r=>.dct (s _ _ h) l (Reps.mono s r)
 |_,_,.exc h=>.exc (s _ _ h)
 |_,_,.excR h h2=>.excR (s _ _ h) (s _ _ h2)
theorem Reps.mono (s:Same G G'):∀{vs:List V}{ds:List D},Reps K G vs ds->Reps K G' vs ds
 |_,_,.nil=>.nil
 |_,_,.cons h r=>.cons (Rep.mono s h) (Reps.mono s r)
end
theorem Reps.length:∀{vs:List V}{ds:List D},Reps K G vs ds->vs.length=ds.length
 |_,_,.nil=>rfl
 |_,_,.cons _ r=>by rw[Wak,Wak,r.length]
theorem Reps.get:∀{vs:List V}{ds:List D}{i:Nat}{d:D},Reps K G vs ds->ds[i]?=some d->∃v,vs[i]?=some v/\Rep K G v d
 |_,_,_,_,.nil,e=>by simp at e
 |_,_,0,_,.cons r _,e=>by simp at e;subst e;exact⟨_,rfl,r⟩
 |_,_,i+1,d,.cons _ t,e=>by
  obtain⟨u,h1,h2⟩:=Reps.get (i:=i) (d:=d) t (by simpa using e);exact⟨u,by simpa using h1,h2⟩
theorem Reps.append:∀{vs ws:List V}{ds es:List D},Reps K G vs ds->Reps K G ws es->Reps K G (vs++ws) (ds++es)
 |_,_,_,_,.nil,s=>s
 |_,_,_,_,.cons r t,s=>.cons r (Reps.append t s)
theorem Reps.take:∀{vs:List V}{ds:List D}(n:Nat),Reps K G vs ds->Reps K G (vs.take n) (ds.take n)
 |_,_,0,_=>.nil
 |_,_,_+1,.nil=>.nil
 |_,_,n+1,.cons r t=>.cons r (Reps.take n t)
theorem Reps.drop:∀{vs:List V}{ds:List D}(n:Nat),Reps K G vs ds->Reps K G (vs.drop n) (ds.drop n)
 |_,_,0,r=>r
 |_,_,_+1,.nil=>.nil
 |_,_,n+1,.cons _ t=>Reps.drop n t
theorem Reps.reverse {vs:List V}{ds:List D}(h:Reps K G vs ds):Reps K G vs.reverse ds.reverse:=by
 induction vs generalizing ds with
 |nil=>cases h;exact .nil
 |cons v vs ih=>
  cases h with
  |cons r t=>rw[List.reverse_cons,List.reverse_cons];exact(ih t).append (.cons r .nil)
theorem Reps.set:∀{vs:List V}{ds:List D}{v:V}{d:D}(i:Nat),Reps K G vs ds->Rep K G v d->Reps K G (vs.set i v) (ds.set i d)
 |_,_,_,_,_,.nil,_=>.nil
 |_,_,_,_,0,.cons _ t,q=>.cons q t
 |_,_,_,_,i+1,.cons r t,q=>.cons r (Reps.set i t q)
theorem Reps.ints {vs:List V}:∀{ns:List Int},Reps K G vs (ns.map D.int)->vs=ns.map V.int:=by
 induction vs with
 |nil=>intro ns h;cases ns with
  |nil=>rfl
  |cons n ns=>cases h
 |cons v vs ih=>intro ns h;cases ns with
  |nil=>cases h
  |cons n ns=>
   cases h with
   |cons r t=>cases r.inv;rw[ih t];rfl
theorem Reps.ofInts:∀(ns:List Int),Reps K G (ns.map V.int) (ns.map D.int)
 |[]=>.nil
 |n::ns=>.cons (.int n) (Reps.ofInts ns)
theorem Zf9 {vs:List V}{ds:List D}{i:Int}{d:D}(r:Reps K G vs ds) (h:atI ds i=some d):∃v,atI vs i=some v/\Rep K G v d:=by
 unfold atI at h ⊢;rw[<- r.length]at h;cases e:ixN vs.length i with
 |none=>rw[e]at h;cases h
 |some j=>rw[e]at h;exact r.get h
end
inductive OD where
 |lst (ds:List D)|dct (kvs:List (Key × D))|set (S:Int->Bool) (n:Nat)|dtt (kvs:List (List Key × D))|ext (R:Hp->(Heap->Prop)->Prop)
def OwnRep (K:W.Frag) (G:Hp):HO->OD->Prop
 |.lst vs,.lst ds=>Reps K G vs ds
 |.dK kvs,.dct kds=>Paired (λ(p:Key × V) (q:Key × D)=>p.1=q.1/\Rep K G p.2 q.2) kvs kds
 |.set S n,.set S' n'=>S=S' /\ n=n'
 |.dT kvs,.dtt kds=>Paired (λ(p:List Key × V) (q:List Key × D)=>p.1=q.1/\Rep K G p.2 q.2) kvs kds
 |.ext φ,.ext R=>∃G0,Same G0 G/\R G0 φ
 |_,_=>False
theorem OwnRep.mono {K:W.Frag}{G G':Hp}(s:Same G G') {o:HO}{od:OD}(h:OwnRep K G o od):OwnRep K G' o od:=by
 cases o <;> cases od <;> first
  |exact h.elim
  |exact Reps.mono s h
  |exact Paired.mapP h λ_ _ z=>⟨z.1,z.2.mono s⟩
  |exact(let ⟨g0,s0,r⟩:=h; ⟨g0,s0.trans s,r⟩)
  |exact h
inductive Slot where
 |any|val (d:D)|own (o:OD)|bor (o:OD)|ownA (a:Addr) (o:OD)
abbrev Evt:=List Slot
def Slot.od:Slot->Option OD
 |.own o=>some o
 |.bor o=>some o
 |.ownA _ o=>some o
 |_=>none
structure Gm where
 B:Addr->Prop
 F:Hp
 Hz:Hp
 Xo:Hp
def SlotAt (g:Gm) (x:Slot) (a:Addr):Prop:=match x with
 |.own _=>g.Hz a=none
 |.bor _=>g.B a
 |.ownA b _=>b=a/\g.Hz a=none
 |_=>True
structure Ok (K:W.Frag) (g:Gm) (G H:Hp) (σ:St) (Δ:Evt):Prop where
 same:∀b o,¬ g.B b->g.Hz b=some o->H b=some o
 lent:∀b,g.B b->H b≠none
 sub:Same g.F G
 frz:∀b o,G b=some o->H b=some o/\(g.Hz b=none\/g.F b=some o)
 ext:∀b o,g.Xo b=some o->H b=some o/\G b=none/\∀(i:Nat) x od,Δ[i]?=some x->x.od=some od -> σ[i]?≠some (some (.ref b))
 len:Δ.length = σ.length
 val:∀(i:Nat) d,Δ[i]?=some (.val d)->∃v,σ[i]?=some (some v)/\Rep K G v d
 own:∀(i:Nat) x od,Δ[i]?=some x->x.od=some od->∃a o,σ[i]?=some (some (.ref a))/\H a=some o/\OwnRep K G o od/\G a=none/\SlotAt g x a
 dis:∀(i j:Nat) x y od od' a,Δ[i]?=some x->x.od=some od -> Δ[j]?=some y->y.od=some od' -> σ[i]?=some (some (.ref a)) -> σ[j]?=some (some (.ref a))->i=j
section
variable {K:W.Frag}{g:Gm}{G H G' H':Hp}{σ:St}{Δ:Evt}
theorem Ok.live (k:Ok K g G H σ Δ):Same G H:=λb o e=>(k.frz b o e).1
theorem Ok.there (k:Ok K g G H σ Δ) {b:Addr}(h:H b=none):g.Hz b=none:=by
 cases e:g.Hz b with
 |none=>rfl
 |some o=>
  by_cases hb:g.B b
  ·exact absurd h<|k.lent b hb
  ·have:=k.same b o hb e
   rw[h]at this;cases this
theorem Ok.grow (k:Ok K g G H σ Δ) (sg:Same G G') (sh:Same H H') (hg:∀b o,G' b=some o->H' b=some o/\(G b=some o\/H b=none)):Ok K g G' H' σ Δ where
 same:=λb o hb e=>sh b o<|k.same b o hb e
 lent:=λb hb z=>by
  cases e:H b with
  |none=>exact k.lent b hb e
  |some o=>rw[sh b o e]at z;cases z
 sub:=k.sub.trans sg
 frz:=λb o e=>by
  obtain⟨h1,h2⟩:=hg b o e;refine⟨h1,?_⟩;rcases h2 with z|z
  ·exact(k.frz b o z).2
  ·exact .inl<|k.there z
 ext:=λb o e=>by
  obtain⟨h1,h2,h3⟩:=k.ext b o e;refine⟨sh b o h1,?_,h3⟩;cases q:G' b with
  |none=>rfl
  |some o'=>
   rcases(hg b o' q).2 with z|z
   ·rw[h2]at z;cases z
   ·rw[h1]at z;cases z
 len:=k.len
 val:=λi d e=>by
  obtain⟨v,h1,h2⟩:=k.val i d e;exact⟨v,h1,h2.mono sg⟩
 own:=λi x od e1 e2=>by
  obtain⟨a,o,h1,h2,h3,h4,h5⟩:=k.own i x od e1 e2;refine⟨a,o,h1,sh a o h2,h3.mono sg,?_,h5⟩;cases q:G' a with
  |none=>rfl
  |some o'=>
   rcases(hg a o' q).2 with z|z
   ·rw[h4]at z;cases z
   ·rw[h2]at z;cases z
 dis:=k.dis
theorem Ok.laid (k:Ok K g G H σ Δ) {p:Addr}(hp:H p=none) (o:HO):Ok K g (upd G p o) (upd H p o) σ Δ /\ Same G (upd G p o):=by
 have hG:G p=none:=by
  cases e:G p with
  |none=>rfl
  |some u=>rw[k.live p u e]at hp;cases hp
 have sg:Same G (upd G p o):=λb u e=>by rw[Zaj (Zak e hG)];exact e
 refine⟨k.grow sg (λb u e=>by rw[Zaj (Zak e hp)];exact e) λb u e=>?_,sg⟩;by_cases hb:b=p
 ·subst hb;rw[Zal]at e ⊢;exact⟨e,.inr hp⟩
 ·rw[Zaj hb]at e ⊢;exact⟨k.live b u e,.inl e⟩
theorem Ok.lt (k:Ok K g G H σ Δ) {i:Nat}{x:Slot}(h:Δ[i]?=some x):i < σ.length:=by
 rw[<- k.len];exact(Wap.mp h).1
def Pend (K:W.Frag) (g:Gm) (G H:Hp) (σ:St) (Δ:Evt) (a:Addr) (od:OD):Prop:=
 ∃o,H a=some o/\OwnRep K G o od/\G a=none/\g.Hz a=none/\g.Xo a=none/\∀(i:Nat) x od',Δ[i]?=some x->x.od=some od' -> σ[i]?≠some (some (.ref a))
theorem Ok.setVal (k:Ok K g G H σ Δ) {v:V}{d:D}{i:Nat}(hi:i < Δ.length) (r:Rep K G v d):Ok K g G H (σ.set i<|some v) (Δ.set i (.val d)):=by
 have hs:i < σ.length:=by rw[<- k.len];exact hi
 have old:∀(j:Nat) x od,(Δ.set i (.val d))[j]?=some x->x.od=some od->j≠i /\ Δ[j]?=some x/\(σ.set i<|some v)[j]? = σ[j]?:=λj x od e1 e2=>by
  by_cases hj:j=i
  ·subst hj
   rw[Wam hi]at e1;cases e1;cases e2
  ·rw[Wao (Ne.symm hj)]at e1
   exact⟨hj,e1,Wao<|Ne.symm hj⟩
 refine⟨k.same,k.lent,k.sub,k.frz,λb o e=>?_,by simp[k.len],λj e h=>?_,λj x od e1 e2=>?_,λj l x y od od' a e1 e2 e3 e4 e5 e6=>?_⟩
 ·obtain⟨h1,h2,h3⟩:=k.ext b o e
  refine⟨h1,h2,λj x od e1 e2=>?_⟩;obtain⟨_,q1,q2⟩:=old j x od e1 e2;rw[q2];exact h3 j x od q1 e2
 ·by_cases hj:j=i
  ·subst hj
   rw[Wam hi]at h;cases h;exact⟨v,Wam hs,r⟩
  ·rw[Wao (Ne.symm hj)]at h ⊢
   exact k.val j e h
 ·obtain⟨_,q1,q2⟩:=old j x od e1 e2
  rw[q2];exact k.own j x od q1 e2
 ·obtain⟨_,q1,q2⟩:=old j x od e1 e2
  obtain⟨_,q3,q4⟩:=old l y od' e3 e4;rw[q2]at e5;rw[q4]at e6;exact k.dis j l x y od od' a q1 e2 q3 e4 e5 e6
theorem Ok.setOwn (k:Ok K g G H σ Δ) {a:Addr}{od:OD}{i:Nat}(hi:i < Δ.length) (p:Pend K g G H σ Δ a od):Ok K g G H (σ.set i<|some (.ref a)) (Δ.set i (.own od)):=by
 obtain⟨o,p1,p2,p3,p4,p5,p6⟩:=p;have hs:i < σ.length:=by rw[<- k.len];exact hi
 have old:∀(j:Nat) x,j≠i->(Δ.set i (.own od))[j]?=some x -> Δ[j]?=some x/\(σ.set i<|some (.ref a))[j]? = σ[j]?:=λj x hj e1=>by
  rw[Wao (Ne.symm hj)]at e1;exact⟨e1,Wao<|Ne.symm hj⟩
 refine⟨k.same,k.lent,k.sub,k.frz,λb ob e=>?_,by simp[k.len],λj e h=>?_,λj x od' e1 e2=>?_,λj l x y od1 od2 c e1 e2 e3 e4 e5 e6=>?_⟩
 ·obtain⟨h1,h2,h3⟩:=k.ext b ob e
  refine⟨h1,h2,λj x od' e1 e2=>?_⟩;by_cases hj:j=i
  ·subst hj
   rw[Wam hs];intro z;cases z;rw[p5]at e;cases e
  ·obtain⟨q1,q2⟩:=old j x hj e1
   rw[q2];exact h3 j x od' q1 e2
 ·by_cases hj:j=i
  ·subst hj
   rw[Wam hi]at h;cases h
  ·rw[Wao (Ne.symm hj)]at h ⊢
   exact k.val j e h
 ·by_cases hj:j=i
  ·subst hj
   rw[Wam hi]at e1;cases e1;cases e2;exact⟨a,o,Wam hs,p1,p2,p3,p4⟩
  ·obtain⟨q1,q2⟩:=old j x hj e1
   rw[q2];exact k.own j x od' q1 e2
 ·by_cases hj:j=i
  ·by_cases hl:l=i
   ·rw[hj,hl]
   ·obtain⟨q3,q4⟩:=old l y hl e3
    rw[q4]at e6;rw[hj,Wam hs]at e5;cases e5;exact absurd e6<|p6 l y od2 q3 e4
  ·obtain⟨q1,q2⟩:=old j x hj e1
   rw[q2]at e5;by_cases hl:l=i
   ·rw[hl,Wam hs]at e6
    cases e6;exact absurd e5<|p6 j x od1 q1 e2
   ·obtain⟨q3,q4⟩:=old l y hl e3
    rw[q4]at e6;exact k.dis j l x y od1 od2 c q1 e2 q3 e4 e5 e6
def Slot.put:Slot->OD->Slot
 |.own _,o=>.own o
 |.bor _,o=>.bor o
 |.ownA a _,o=>.ownA a o
 |x,_=>x
theorem SlotAt.put {g:Gm}{x:Slot}{a:Addr}{o:OD}(h:SlotAt g x a):SlotAt g (x.put o) a:=by cases x <;> exact h
theorem SlotAt.free {g:Gm}{x:Slot}{a:Addr}{od:OD}(h:SlotAt g x a) (ho:x.od=some od):g.Hz a=none\/g.B a:=by
 cases x with
 |any=>cases ho
 |val d=>cases ho
 |own o=>exact .inl h
 |bor o=>exact .inr h
 |ownA b o=>exact .inl h.2
theorem Slot.put_od {x:Slot}{od o:OD}(h:x.od=some od):(x.put o).od=some o:=by cases x <;> cases h <;> rfl
theorem Ok.write (k:Ok K g G H σ Δ) {a:Addr}{od od':OD}{x:Slot}{i:Nat}{o':HO}(hx:Δ[i]?=some x) (hod:x.od=some od) (ha:σ[i]?=some (some (.ref a))) (r:OwnRep K G o' od'):Ok K g G (upd H a o') σ (Δ.set i<|x.put od'):=by
 obtain⟨a',o,q1,q2,q3,q4,q5⟩:=k.own i x od hx hod;rw[ha]at q1;cases q1;have hi:i < Δ.length:=(Wap.mp hx).1;have other:∀(j:Nat) y od2,(Δ.set i<|x.put od')[j]?=some y->y.od=some od2->j≠i -> Δ[j]?=some y:=λj y od2 e1 e2 hj=>by
  rw[Wao (Ne.symm hj)]at e1;exact e1
 have anyOd:∀(j:Nat) y od2,(Δ.set i<|x.put od')[j]?=some y->y.od=some od2->∃y' od3,Δ[j]?=some y' /\ y'.od=some od3:=λj y od2 e1 e2=>by
  by_cases hj:j=i
  ·subst hj;exact⟨x,od,hx,hod⟩
  ·exact⟨y,od2,other j y od2 e1 e2 hj,e2⟩
 refine⟨λb u hb e=>?_,λb hb=>?_,k.sub,λb u e=>?_,λb u e=>?_,by simp[k.len],λj e h=>?_,λj y od2 e1 e2=>?_,λj l y z od1 od2 c e1 e2 e3 e4 e5 e6=>?_⟩
 ·have hba:b≠a:=by
   intro z;subst z;rcases q5.free hod with z|z
   ·rw[z]at e;cases e
   ·exact hb z
  rw[Zaj hba];exact k.same b u hb e
 ·by_cases hba:b=a
  ·subst hba;rw[Zal];intro z;cases z
  ·rw[Zaj hba];exact k.lent b hb
 ·have hba:b≠a:=by intro z;subst z;rw[q4]at e;cases e
  rw[Zaj hba];exact k.frz b u e
 ·obtain⟨h1,h2,h3⟩:=k.ext b u e
  have hba:b≠a:=by intro z;subst z;exact h3 i x od hx hod ha
  rw[Zaj hba];refine⟨h1,h2,λj y od2 e1 e2=>?_⟩;obtain⟨y',od3,z1,z2⟩:=anyOd j y od2 e1 e2;exact h3 j y' od3 z1 z2
 ·by_cases hj:j=i
  ·subst hj
   rw[Wam hi]at h;cases x <;> cases hod <;> cases h
  ·rw[Wao (Ne.symm hj)]at h
   exact k.val j e h
 ·by_cases hj:j=i
  ·subst hj
   rw[Wam hi]at e1;cases e1;rw[Slot.put_od hod]at e2;cases e2;exact⟨a,o',ha,Zal,r,q4,q5.put⟩
  ·have e1':=other j y od2 e1 e2 hj
   obtain⟨c,oc,w1,w2,w3,w4,w5⟩:=k.own j y od2 e1' e2;have hca:c≠a:=by
    intro z;subst z;exact hj<|k.dis j i y x od2 od c e1' e2 hx hod w1 ha
   exact⟨c,oc,w1,by rw[Zaj hca];exact w2,w3,w4,w5⟩
 ·obtain⟨y',od3,z1,z2⟩:=anyOd j y od1 e1 e2
  obtain⟨y'',od4,z3,z4⟩:=anyOd l z od2 e3 e4;exact k.dis j l y' y'' od3 od4 c z1 z2 z3 z4 e5 e6
theorem Ok.freeze (k:Ok K g G H σ Δ) {a:Addr}{ds:List D}{vs:List V}(p:Pend K g G H σ Δ a (.lst ds)) (hv:H a=some (.lst vs)):Ok K g (upd G a (.lst vs)) H σ Δ /\ Same G (upd G a (.lst vs))/\Rep K (upd G a (.lst vs)) (.ref a) (.lst ds):=by
 obtain⟨o,p1,p2,p3,p4,p5,p6⟩:=p;rw[hv]at p1;cases p1;have p2:Reps K G vs ds:=p2;have sg:Same G (upd G a (.lst vs)):=λb u e=>by rw[Zaj (Zak e p3)];exact e
 refine⟨⟨k.same,k.lent,k.sub.trans sg,λb u e=>?_,λb u e=>?_,k.len,λj d h=>?_,λj x od e1 e2=>?_,k.dis⟩,sg,.lst Zal<|p2.mono sg⟩
 ·by_cases hb:b=a
  ·subst hb;rw[Zal]at e;cases e;exact⟨hv,.inl p4⟩
  ·rw[Zaj hb]at e;exact k.frz b u e
 ·obtain⟨h1,h2,h3⟩:=k.ext b u e
  have hb:b≠a:=by intro z;subst z;rw[p5]at e;cases e
  exact⟨h1,by rw[Zaj hb];exact h2,h3⟩
 ·obtain⟨v,h1,h2⟩:=k.val j d h
  exact⟨v,h1,h2.mono sg⟩
 ·obtain⟨c,o,w1,w2,w3,w4,w5⟩:=k.own j x od e1 e2
  have hc:c≠a:=by intro z;subst z;exact p6 j x od e1 e2 w1
  exact⟨c,o,w1,w2,w3.mono sg,by rw[Zaj hc];exact w4,w5⟩
theorem Ok.drop (k:Ok K g G H σ Δ) (i:Nat):Ok K g G H σ (Δ.set i .any):=by
 have old:∀(j:Nat) x,(Δ.set i .any)[j]?=some x->x=.any\/(Δ[j]?=some x/\j≠i):=λj x e1=>by
  by_cases hj:j=i
  ·subst hj
   rw[Wce]at e1;simp at e1;exact .inl e1.2.symm
  ·rw[Wao (Ne.symm hj)]at e1
   exact .inr ⟨e1,hj⟩
 have oldO:∀(j:Nat) x od,(Δ.set i .any)[j]?=some x->x.od=some od -> Δ[j]?=some x:=λj x od e1 e2=>by
  rcases old j x e1 with z|z
  ·subst z;cases e2
  ·exact z.1
 refine⟨k.same,k.lent,k.sub,k.frz,λb o e=>?_,by simp[k.len],λj e h=>?_,λj x od e1 e2=>k.own j x od (oldO j x od e1 e2) e2,λj l x y od od' a e1 e2 e3 e4=>k.dis j l x y od od' a (oldO j x od e1 e2) e2 (oldO l y od' e3 e4) e4⟩
 ·obtain⟨h1,h2,h3⟩:=k.ext b o e
  exact⟨h1,h2,λj x od e1 e2=>h3 j x od (oldO j x od e1 e2) e2⟩
 ·rcases old j _ h with z|z
  ·cases z
  ·exact k.val j e z.1
theorem Ok.take (k:Ok K g G H σ Δ) {i:Nat}{od:OD}(h:Δ[i]?=some (.own od)):∃a,σ[i]?=some (some (.ref a))/\Pend K g G H σ (Δ.set i .any) a od:=by
 obtain⟨a,o,h1,h2,h3,h4,h5⟩:=k.own i _ od h rfl;have h5:g.Hz a=none:=h5;refine⟨a,h1,o,h2,h3,h4,h5,?_,λj x od' e1 e2 e3=>?_⟩
 ·cases q:g.Xo a with
  |none=>rfl
  |some u=>exact absurd h1 ((k.ext a u q).2.2 i _ od h rfl)
 ·by_cases hj:j=i
  ·subst hj
   rw[Wce]at e1;simp at e1;obtain⟨_,e1⟩:=e1;subst e1;cases e2
  ·rw[Wao (Ne.symm hj)]at e1
   exact hj<|k.dis j i x _ od' od a e1 e2 h rfl e3 h1
end
def Cont (K:W.Frag) (g:Gm) (G:Hp) (σ:St) (P:D->Evt->Prop) (Q:VK):Prop:=
 ∀v d G' H' Δ',Ok K g G' H' σ Δ' -> Same G G' -> Rep K G' v d->P d Δ' -> Q v H'
def JE (K:W.Frag) (t:TE) (Δ:Evt) (P:D->Evt->Prop):Prop:=
 ∀g G H σ Q,Ok K g G H σ Δ -> Cont K g G σ P Q->t σ H Q
def JT (K:W.Frag) (t:TT) (Δ:Evt) (P:Bool->Evt->Prop):Prop:=
 ∀g G H σ Q,Ok K g G H σ Δ -> (∀b G' H' Δ',Ok K g G' H' σ Δ' -> Same G G' -> P b Δ' -> Q b H')->t σ H Q
def JA (K:W.Frag) (t:TA) (Δ:Evt) (P:List D->Evt->Prop):Prop:=
 ∀g G H σ Q,Ok K g G H σ Δ -> (∀vs ds G' H' Δ',Ok K g G' H' σ Δ' -> Same G G' -> Reps K G' vs ds->P ds Δ' -> Q vs H')->t σ H Q
def JO (K:W.Frag) (t:TE) (Δ:Evt) (P:OD->Evt->Prop):Prop:=
 ∀g G H σ Q,Ok K g G H σ Δ -> (∀a od G' H' Δ',Ok K g G' H' σ Δ' -> Same G G' -> Pend K g G' H' σ Δ' a od->P od Δ' -> Q (.ref a) H')->t σ H Q
def JR2 (K:W.Frag) (r:R2) (d e:D) (Δ:Evt) (P:D->Evt->Prop):Prop:=
 ∀g G H σ Q x y,Ok K g G H σ Δ -> Rep K G x d->Rep K G y e->Cont K g G σ P Q->r x y H Q
def JR1 (K:W.Frag) (r:V->Hp->VK->Prop) (d:D) (Δ:Evt) (P:D->Evt->Prop):Prop:=
 ∀g G H σ Q x,Ok K g G H σ Δ -> Rep K G x d->Cont K g G σ P Q->r x H Q
def JC (K:W.Frag) (r:List V->Hp->VK->Prop) (ds:List D) (Δ:Evt) (P:D->Evt->Prop):Prop:=
 ∀g G H σ Q vs,Ok K g G H σ Δ -> Reps K G vs ds->Cont K g G σ P Q->r vs H Q
structure Pst where
 nx:Evt->Prop
 rt:D->Evt->Prop
 bk:Evt->Prop:=λ_=>False
 ct:Evt->Prop:=λ_=>False
 ro:OD->Evt->Prop:=λ_ _=>False
structure SCont (K:W.Frag) (g:Gm) (P:Pst) (E:Ends):Prop where
 nx:∀σ G H Δ,Ok K g G H σ Δ -> P.nx Δ -> E.nx σ H
 rt:∀v d σ G H Δ,Ok K g G H σ Δ -> Rep K G v d->P.rt d Δ -> E.rt v H
 bk:∀σ G H Δ,Ok K g G H σ Δ -> P.bk Δ -> E.bk σ H
 ct:∀σ G H Δ,Ok K g G H σ Δ -> P.ct Δ -> E.ct σ H
 ro:∀a od σ G H Δ,Ok K g G H σ Δ -> Pend K g G H σ Δ a od->P.ro od Δ -> E.rt (.ref a) H
def JS (K:W.Frag) (t:TS) (Δ:Evt) (P:Pst):Prop:=
 ∀g G H σ E,Ok K g G H σ Δ -> SCont K g P E->t E σ H
def JG (K:W.Frag) (t:TG) (d:D) (Δ:Evt) (P:Evt->Prop):Prop:=
 ∀g G H σ v (R:St->Hp->Prop),Ok K g G H σ Δ -> Rep K G v d->(∀σ' G' H' Δ',Ok K g G' H' σ' Δ' -> Same G G' -> P Δ' -> R σ' H')->t v σ H R
def JGs (K:W.Frag) (t:TGs) (ds:List D) (Δ:Evt) (P:Evt->Prop):Prop:=
 ∀g G H σ vs (R:St->Hp->Prop),Ok K g G H σ Δ -> Reps K G vs ds->(∀σ' G' H' Δ',Ok K g G' H' σ' Δ' -> Same G G' -> P Δ' -> R σ' H')->t vs σ H R
section
variable {K:W.Frag}{Δ:Evt}
theorem Cont.up {g:Gm}{G G1:Hp}{σ:St}{P:D->Evt->Prop}{Q:VK}(c:Cont K g G σ P Q) (s:Same G G1):Cont K g G1 σ P Q:=
 λv d G' H' Δ' k s' r p=>c v d G' H' Δ' k (s.trans s') r p
theorem JE.mono {t:TE}{P P':D->Evt->Prop}(h:JE K t Δ P) (hp:∀d Δ,P d Δ -> P' d Δ):JE K t Δ P':=
 λg G H σ Q k c=>h g G H σ Q k λv d G' H' Δ' k' s r p=>c v d G' H' Δ' k' s r<|hp d Δ' p
theorem JS.mono {t:TS}{P P':Pst}(h:JS K t Δ P) (hn:∀Δ,P.nx Δ -> P'.nx Δ) (hr:∀d Δ,P.rt d Δ -> P'.rt d Δ) (hb:∀Δ,P.bk Δ -> P'.bk Δ) (hc:∀Δ,P.ct Δ -> P'.ct Δ) (ho:∀od Δ,P.ro od Δ -> P'.ro od Δ):JS K t Δ P':=
 λg G H σ E k c=>h g G H σ E k ⟨λσ' G' H' Δ' k' p=>c.nx σ' G' H' Δ' k'<|hn _ p,λv d σ' G' H' Δ' k' r p=>c.rt v d σ' G' H' Δ' k' r<|hr _ _ p,λσ' G' H' Δ' k' p=>c.bk σ' G' H' Δ' k'<|hb _ p,λσ' G' H' Δ' k' p=>c.ct σ' G' H' Δ' k'<|hc _ p,λa od σ' G' H' Δ' k' r p=>c.ro a od σ' G' H' Δ' k' r<|ho _ _ p⟩
theorem Zad {i:Nat}{d:D}{P:D->Evt->Prop}(h:Δ[i]?=some (.val d)) (p:P d Δ):JE K (tVar i) Δ P:=λg G H σ Q k c=>by
 obtain⟨v,h1,h2⟩:=k.val i d h;exact⟨v,h1,c v d G H Δ k (Same.refl _) h2 p⟩
theorem Zl5 {i:Nat}{ds:List D}{P:D->Evt->Prop}(h:Δ[i]?=some (.own (.lst ds))) (p:P (.lst ds) (Δ.set i (.val (.lst ds)))):JE K (tVar i) Δ P:=λg G H σ Q k c=>by
 obtain⟨a,h1,pd⟩:=k.take h;obtain⟨o,q1,q2,_⟩:=id pd;cases o with
 |lst vs=>
  obtain⟨k2,sg,r⟩:=(k.drop i).freeze pd q1;have k3:=k2.setVal (i:=i) (by simpa using (Wap.mp h).1) r;have e1:σ.set i (some (.ref a)) = σ:=by
   apply Wcf;intro j;by_cases hj:j=i
   ·subst hj;rw[Wam (k.lt h),h1]
   ·rw[Wao (Ne.symm hj)]
  rw[e1,List.set_set]at k3;exact⟨.ref a,h1,c _ _ _ H _ k3 sg r p⟩
 |_=>exact absurd q2 (λz=>z)
theorem Zan {i:Int}{P:D->Evt->Prop}(p:P (.int i) Δ):JE K (tC (.int i)) Δ P:=λg G H σ Q k c=>c _ _ G H Δ k (Same.refl _) (.int i) p
theorem Zqu {b:Bool}{P:D->Evt->Prop}(p:P (.bl b) Δ):JE K (tC (.bl b)) Δ P:=λg G H σ Q k c=>c _ _ G H Δ k (Same.refl _) (.bl b) p
theorem Zd5 {P:D->Evt->Prop}(p:P .non Δ):JE K (tC .non) Δ P:=λg G H σ Q k c=>c _ _ G H Δ k (Same.refl _) .non p
theorem Zbs {x:Str}{P:D->Evt->Prop}(p:P (.str x) Δ):JE K (tC (.str x)) Δ P:=λg G H σ Q k c=>c _ _ G H Δ k (Same.refl _) (.str x) p
theorem Zdm {x:String}{P:D->Evt->Prop}(p:P (.ty x) Δ):JE K (tC (.ty x)) Δ P:=λg G H σ Q k c=>c _ _ G H Δ k (Same.refl _) (.ty x) p
theorem Zao {r:R2}{ta tb:TE}{P:D->Evt->Prop}(h:JE K ta Δ λd Δ1=>JE K tb Δ1 λe Δ2=>JR2 K r d e Δ2 P):JE K (tOp r ta tb) Δ P:=λg G H σ Q k c=>
 h g G H σ _ k λx d G1 H1 Δ1 k1 s1 r1 p1=>p1 g G1 H1 σ _ k1 λy e G2 H2 Δ2 k2 s2 r2 p2=>p2 g G2 H2 σ Q x y k2 (r1.mono s2) r2<|c.up<|s1.trans s2
theorem Zsk {r:V->Hp->VK->Prop}{ta:TE}{P:D->Evt->Prop}(h:JE K ta Δ λd Δ1=>JR1 K r d Δ1 P):JE K (tUn r ta) Δ P:=λg G H σ Q k c=>
 h g G H σ _ k λx d G1 H1 Δ1 k1 s1 r1 p1=>p1 g G1 H1 σ Q x k1 r1<|c.up s1
theorem Zaf {P:List D->Evt->Prop}(p:P [] Δ):JA K tNil Δ P:=λg G H σ Q k c=>c [] [] G H Δ k (Same.refl _) .nil p
theorem Zab {ta:TE}{tr:TA}{P:List D->Evt->Prop}(h:JE K ta Δ λd Δ1=>JA K tr Δ1 λds Δ2=>P (d::ds) Δ2):JA K (tCons ta tr) Δ P:=λg G H σ Q k c=>
 h g G H σ _ k λx d G1 H1 Δ1 k1 s1 r1 p1=>p1 g G1 H1 σ _ k1 λvs ds G2 H2 Δ2 k2 s2 r2 p2=>c _ _ G2 H2 Δ2 k2 (s1.trans s2) (.cons (r1.mono s2) r2) p2
theorem Za0 {r:List V->Hp->VK->Prop}{ta:TA}{P:D->Evt->Prop}(h:JA K ta Δ λds Δ1=>JC K r ds Δ1 P):JE K (tCB r ta) Δ P:=λg G H σ Q k c=>
 h g G H σ _ k λvs ds G1 H1 Δ1 k1 s1 r1 p1=>p1 g G1 H1 σ Q vs k1 r1<|c.up s1
theorem Zbh {ta:TA}{P:D->Evt->Prop}(h:JA K ta Δ λds Δ1=>ds.length<=sizeLine/\P (.tup ds) Δ1):JE K (tTup ta) Δ P:=λg G H σ Q k c=>
 h g G H σ _ k λvs ds G1 H1 Δ1 k1 s1 r1 ⟨z,p1⟩=>⟨by rw[r1.length];exact z,λp hp=>by
  obtain⟨k2,sg⟩:=k1.laid hp (.tup vs);exact c _ _ _ _ Δ1 k2 (s1.trans sg) (.tup Zal (r1.mono sg)) p1⟩
theorem Zb5 {ta:TA}{P:D->Evt->Prop}(h:JA K ta Δ λds Δ1=>ds.length<=sizeLine/\P (.lst ds) Δ1):JE K (tLst ta) Δ P:=λg G H σ Q k c=>
 h g G H σ _ k λvs ds G1 H1 Δ1 k1 s1 r1 ⟨z,p1⟩=>⟨by rw[r1.length];exact z,λp hp=>by
  obtain⟨k2,sg⟩:=k1.laid hp (.lst vs);exact c _ _ _ _ Δ1 k2 (s1.trans sg) (.lst Zal (r1.mono sg)) p1⟩
theorem Ok.fresh {g:Gm}{G H:Hp}{σ:St}(k:Ok K g G H σ Δ) {p:Addr}{o:HO}{od:OD}(hp:H p=none) (r:OwnRep K G o od):Ok K g G (upd H p o) σ Δ /\ Pend K g G (upd H p o) σ Δ p od:=by
 have hG:G p=none:=by
  cases e:G p with
  |none=>rfl
  |some u=>rw[k.live p u e]at hp;cases hp
 refine⟨k.grow (Same.refl _) (λb u e=>by rw[Zaj (Zak e hp)];exact e) λb u e=>⟨?_,.inl e⟩,o,Zal,r,hG,k.there hp,?_,λj x od' e1 e2 e3=>?_⟩
 ·have hb:b≠p:=by intro z;subst z;rw[hG]at e;cases e
  rw[Zaj hb];exact k.live b u e
 ·cases q:g.Xo p with
  |none=>rfl
  |some u=>have z:=(k.ext p u q).1;rw[hp]at z;cases z
 ·obtain⟨a,oo,w1,w2,_⟩:=k.own j x od' e1 e2
  rw[e3]at w1;cases w1;rw[hp]at w2;cases w2
theorem Zi1 {ta:TA}{P:OD->Evt->Prop}(h:JA K ta Δ λds Δ1=>ds.length<=sizeLine/\P (.lst ds) Δ1):JO K (tLst ta) Δ P:=λg G H σ Q k c=>
 h g G H σ _ k λvs ds G1 H1 Δ1 k1 s1 r1 ⟨z,p1⟩=>⟨by rw[r1.length];exact z,λp hp=>by
  obtain⟨k2,pd⟩:=k1.fresh (od:=.lst ds) hp (show OwnRep K G1 (.lst vs) (.lst ds) from r1);exact c p _ G1 _ Δ1 k2 s1 pd p1⟩
theorem Zcj {t:TE}{P:D->Evt->Prop}(h:JO K t Δ λod Δ1=>∃ds,od=.lst ds/\P (.lst ds) Δ1):JE K t Δ P:=λg G H σ Q k c=>
 h g G H σ Q k λa od G1 H1 Δ1 k1 s1 pd hq_=>by
  obtain⟨ds,e,p1⟩:=hq_;subst e;obtain⟨o,q1,q2,_⟩:=id pd;cases o with
  |lst vs=>
   obtain⟨k2,sg,r⟩:=k1.freeze pd q1;exact c _ _ _ H1 Δ1 k2 (s1.trans sg) r p1
  |_=>exact absurd q2 (λz=>z)
theorem Zef {c:TT}{ta tb:TE}{P:D->Evt->Prop}(h:JT K c Δ λb Δ1=>if b=true then JE K ta Δ1 P else JE K tb Δ1 P):JE K (tIf c ta tb) Δ P:=λg G H σ Q k q=>
 h g G H σ _ k λb G1 H1 Δ1 k1 s1 p1=>by
  cases b with
  |true=>exact(show JE K ta Δ1 P from p1) g G1 H1 σ Q k1 (q.up s1)
  |false=>exact(show JE K tb Δ1 P from p1) g G1 H1 σ Q k1 (q.up s1)
theorem Zav {t:TE}{P:Bool->Evt->Prop}(h:JE K t Δ λd Δ1=>∃b,d=.bl b/\P b Δ1):JT K (tTest t) Δ P:=λg G H σ Q k c=>
 h g G H σ _ k λv d G1 H1 Δ1 k1 s1 r1 hq_=>by obtain⟨b,e,p1⟩:=hq_;subst e;cases r1.inv;exact⟨b,rfl,c b G1 H1 Δ1 k1 s1 p1⟩
theorem Ze9 {a b:TT}{P:Bool->Evt->Prop}(h:JT K a Δ λx Δ1=>if x=true then JT K b Δ1 P else P false Δ1):JT K (tAnd a b) Δ P:=λg G H σ Q k c=>
 h g G H σ _ k λx G1 H1 Δ1 k1 s1 p1=>by
  cases x with
  |true=>exact(show JT K b Δ1 P from p1) g G1 H1 σ _ k1 λy G2 H2 Δ2 k2 s2 p2=>c y G2 H2 Δ2 k2 (s1.trans s2) p2
  |false=>exact c false G1 H1 Δ1 k1 s1 p1
theorem Zeb {a b:TT}{P:Bool->Evt->Prop}(h:JT K a Δ λx Δ1=>if x=true then P true Δ1 else JT K b Δ1 P):JT K (tOr a b) Δ P:=λg G H σ Q k c=>
 h g G H σ _ k λx G1 H1 Δ1 k1 s1 p1=>by
  cases x with
  |true=>exact c true G1 H1 Δ1 k1 s1 p1
  |false=>exact(show JT K b Δ1 P from p1) g G1 H1 σ _ k1 λy G2 H2 Δ2 k2 s2 p2=>c y G2 H2 Δ2 k2 (s1.trans s2) p2
theorem Zb0 {a:TT}{P:Bool->Evt->Prop}(h:JT K a Δ λx Δ1=>P (!x) Δ1):JT K (tNot a) Δ P:=λg G H σ Q k c=>
 h g G H σ _ k λx G1 H1 Δ1 k1 s1 p1=>c (!x) G1 H1 Δ1 k1 s1 p1
theorem Zcu {P:Bool->Evt->Prop}(p:P true Δ):JT K tTrue Δ P:=λg G H σ Q k c=>c true G H Δ k (Same.refl _) p
theorem Zpr {P:Pst}(p:P.nx Δ):JS K tNext Δ P:=λg G H σ E k c=>c.nx σ G H Δ k p
theorem Zos {t u:TS}{P:Pst}(h:JS K t Δ { P with nx:=λΔ1=>JS K u Δ1 P }):JS K (tSeq t u) Δ P:=λg G H σ E k c=>
 h g G H σ _ k ⟨λσ1 G1 H1 Δ1 k1 p1=>p1 g G1 H1 σ1 E k1 c,c.rt,c.bk,c.ct,c.ro⟩
theorem Zs4 {te:TE}{P:Pst}(h:JE K te Δ P.rt):JS K (tRet te) Δ P:=λg G H σ E k c=>
 h g G H σ _ k λv d G1 H1 Δ1 k1 s1 r1 p1=>c.rt v d σ G1 H1 Δ1 k1 r1 p1
theorem Zpx {te:TE}{P:Pst}(h:JO K te Δ P.ro):JS K (tRet te) Δ P:=λg G H σ E k c=>
 h g G H σ _ k λa od G1 H1 Δ1 k1 s1 pd p1=>c.ro a od σ G1 H1 Δ1 k1 pd p1
theorem Ztr {c:TT}{t u:TS}{P:Pst}(h:JT K c Δ λb Δ1=>if b=true then JS K t Δ1 P else JS K u Δ1 P):JS K (tIfS c t u) Δ P:=λg G H σ E k q=>
 h g G H σ _ k λb G1 H1 Δ1 k1 s1 p1=>by
  cases b with
  |true=>exact(show JS K t Δ1 P from p1) g G1 H1 σ E k1 q
  |false=>exact(show JS K u Δ1 P from p1) g G1 H1 σ E k1 q
theorem Zsi {te:TE}{t:TG}{P:Pst}(h:JE K te Δ λd Δ1=>JG K t d Δ1 P.nx):JS K (tAsg te t) Δ P:=λg G H σ E k c=>
 h g G H σ _ k λv d G1 H1 Δ1 k1 s1 r1 p1=>p1 g G1 H1 σ v _ k1 r1 λσ2 G2 H2 Δ2 k2 s2 p2=>c.nx σ2 G2 H2 Δ2 k2 p2
theorem Zqd {i:Nat}{d:D}{P:Evt->Prop}(hi:i < Δ.length) (p:P (Δ.set i (.val d))):JG K (gName i) d Δ P:=λg G H σ v R k r c=>c _ G H _ (k.setVal hi r) (Same.refl _) p
theorem Zem {P:Evt->Prop}(p:P Δ):JGs K gNil [] Δ P:=λg G H σ vs R k r c=>by cases r;exact⟨rfl,c σ G H Δ k (Same.refl _) p⟩
theorem Zbp {t:TG}{u:TGs}{d:D}{ds:List D}{P:Evt->Prop}(h:JG K t d Δ λΔ1=>JGs K u ds Δ1 P):JGs K (gCons t u) (d::ds) Δ P:=λg G H σ vs R k r c=>by
 obtain⟨_,_,rfl,r1,rr⟩:=r.inv
 next=>exact⟨_,_,rfl,h g G H σ _ _ k r1 λσ1 G1 H1 Δ1 k1 s1 p1=>p1 g G1 H1 σ1 _ R k1 (rr.mono s1) λσ2 G2 H2 Δ2 k2 s2 p2=>c σ2 G2 H2 Δ2 k2 (s1.trans s2) p2⟩
theorem Zhb {n:Nat}{t:TGs}{ds:List D}{P:Evt->Prop}(hl:ds.length=n) (h:JGs K t ds Δ P):JG K (gTup K n t) (.tup ds) Δ P:=λg G H σ v R k r c=>by
 obtain⟨_,_,rfl,ha,rs⟩:=r.inv
 next=>exact⟨_,_,rfl,SqT.of<|k.live _ _ ha,by rw[rs.length];exact hl,h g G H σ _ R k rs c⟩
def ItOk (K:W.Frag) (G:Hp) (J:It) (ds:List D):Prop:=
 ∀G1 H1,Same G G1->Same G1 H1->J.stop ds.length H1/\∀(i:Nat) d,ds[i]?=some d->J.go i H1/\∀x H2,J.yld i H1 x H2->∃G2,Same G1 G2/\Same H1 H2/\(∀b o,G2 b=some o->H2 b=some o/\(G1 b=some o\/H1 b=none))/\Rep K G2 x d
def JI (K:W.Frag) (wi:TI) (Δ:Evt) (P:List D->Evt->Prop):Prop:=
 ∀g G H σ (R:It->Hp->Prop),Ok K g G H σ Δ -> (∀J ds G' H' Δ',Ok K g G' H' σ Δ' -> Same G G' -> ItOk K G' J ds->P ds Δ' -> R J H')->wi σ H R
theorem Ztj {tl:TE}{P:List D->Evt->Prop}(h:JE K tl Δ λd Δ1=>∃ds,d=.tup ds/\P ds Δ1):JI K (iTup K tl) Δ P:=λg G H σ R k c=>
 h g G H σ _ k λv d G1 H1 Δ1 k1 s1 r1 hq_=>by
  obtain⟨ds,e,p1⟩:=hq_;subst e;obtain⟨a,vs,rfl,ha,rs⟩:=r1.inv
  next=>
   refine⟨a,rfl,⟨vs,SqT.of<|k1.live _ _ ha⟩,c _ ds G1 H1 Δ1 k1 s1 (λG2 H2 sg sh=>⟨⟨vs,SqT.of<|sh _ _<|sg _ _ ha,by rw[rs.length];exact Waf _⟩,λi d e=>?_⟩) p1⟩;obtain⟨v,hv,rv⟩:=rs.get e;refine⟨⟨vs,v,SqT.of<|sh _ _<|sg _ _ ha,hv⟩,λx H3 ⟨e3,y3⟩=>⟨G2,Same.refl _,by rw[e3];exact Same.refl _,λb o q=>⟨by rw[e3];exact sh b o q,.inl q⟩,?_⟩⟩;have:=y3 vs<|SqT.of<|sh _ _<|sg _ _ ha;rw[hv]at this;cases this;exact rv.mono sg
theorem Zp0 {tl:TE}{P:List D->Evt->Prop}(h:JE K tl Δ λd Δ1=>∃ds,(d=.lst ds\/d=.scr ds)/\P ds Δ1):JI K (iList K tl) Δ P:=λg G H σ R k c=>
 h g G H σ _ k λv d G1 H1 Δ1 k1 s1 r1 hq_=>by
  obtain⟨ds,e,p1⟩:=hq_;obtain⟨a,vs,ea,hs,rs⟩:∃a vs,v=.ref a/\SqL K G1 a vs/\Reps K G1 vs ds:=by
   rcases e with e|e
   ·subst e;cases r1 with|lst ha rs=>exact⟨_,_,rfl,SqL.of ha,rs⟩
   ·subst e;cases r1 with|scr ha rs=>exact⟨_,_,rfl,ha,rs⟩
  subst ea;refine⟨a,rfl,⟨vs,k1.live.seq hs⟩,c _ ds G1 H1 Δ1 k1 s1 (λG2 H2 sg sh=>⟨⟨vs,sh.seq<|sg.seq hs,by rw[rs.length];exact Waf _⟩,λi d e=>?_⟩) p1⟩;obtain⟨v,hv,rv⟩:=rs.get e;refine⟨⟨vs,v,sh.seq<|sg.seq hs,hv⟩,λx H3 ⟨e3,y3⟩=>⟨G2,Same.refl _,by rw[e3];exact Same.refl _,λb o q=>⟨by rw[e3];exact sh b o q,.inl q⟩,?_⟩⟩;have:=y3 vs<|sh.seq<|sg.seq hs;rw[hv]at this;cases this;exact rv.mono sg
def rngD (lo:Int) (n:Nat):List D:=(Wb0 n).map λi:Nat=>D.int<|lo+(i:Int)
theorem Zbf (lo:Int) (n:Nat):(rngD lo n).length=n:=by simp[rngD]
theorem Zcf {lo:Int}{n i:Nat}{d:D}(h:(rngD lo n)[i]?=some d):i<n/\d=.int (lo+(i:Int)):=by
 unfold rngD at h;rw[Waj]at h;cases e:(Wb0 n)[i]? with
 |none=>rw[e]at h;cases h
 |some j=>
  rw[e]at h;obtain⟨h1,h2⟩:=Wap.mp e;rw[List.getElem_range]at h2;subst h2;exact⟨by simpa using h1,(Wat.inj h).symm⟩
theorem Zop {G:Hp}(lo:Int) (n:Nat):ItOk K G (Itr lo n) (rngD lo n):=λG1 H1 sg sh=>by
 refine⟨by show n<=(rngD lo n).length;rw[Zbf];exact Waf _,λi d e=>?_⟩;obtain⟨h1,h2⟩:=Zcf e;subst h2;refine⟨h1,λx H2 ⟨e2,y2⟩=>⟨G1,Same.refl _,by rw[e2];exact Same.refl _,λb o q=>⟨by rw[e2];exact sh b o q,.inl q⟩,?_⟩⟩;subst y2;exact .int _
theorem Zb8 {ta:TA}{P:List D->Evt->Prop}(h:JA K ta Δ λds Δ1=>∃n:Int,ds=[.int n] /\ -(2 ^ 62)<=n/\n<2 ^ 62/\P (rngD 0 n.toNat) Δ1):JI K (iRng1 ta) Δ P:=λg G H σ R k c=>
 h g G H σ _ k λvs ds G1 H1 Δ1 k1 s1 r1 hq_=>by
  obtain⟨n,e,h1,h2,p1⟩:=hq_;subst e;obtain⟨_,_,rfl,ra,rr⟩:=r1.inv
  next=>
   cases rr.inv;cases ra.inv;exact⟨n,rfl,h1,h2,c _ _ G1 H1 Δ1 k1 s1 (Zop 0 _) p1⟩
theorem Ztc {wi:TI}{t:TG}{tb:TS}{P:Pst}(h:JI K wi Δ λds Δ1=>∃I:Nat->Evt->Prop,I 0 Δ1/\(∀i d Δ2,ds[i]?=some d->I i Δ2->JG K t d Δ2 λΔ3=>JS K tb Δ3 ⟨I<|i+1,P.rt,P.nx,I<|i+1,P.ro⟩)/\∀Δ2,I ds.length Δ2->P.nx Δ2) :
  JS K (tFor wi t tb) Δ P:=λg G H σ E k c=>
 h g G H σ _ k λJ ds G1 H1 Δ1 k1 s1 it hq_=>by
  obtain⟨I,h0,ht,he⟩:=hq_;refine⟨λi m σ H=>m=ds.length-i/\i<=ds.length/\∃G Δ,Ok K g G H σ Δ /\ Same G1 G/\I i Δ,⟨ds.length,by simp,Wbn _,G1,Δ1,k1,Same.refl _,h0⟩,?_⟩;rintro i m σ2 H2 ⟨rfl,hi,G2,Δ2,k2,s2,h2⟩;obtain⟨stop,go⟩:=it G2 H2 s2 k2.live;by_cases hlt:i<ds.length
  ·obtain⟨g1,g2⟩:=go i _ (Wab hlt)
   refine .inr ⟨g1,λσ' H'=>i+1<=ds.length/\∃G Δ,Ok K g G H' σ' Δ /\ Same G1 G/\I (i+1) Δ,λσ' H' p'=>⟨ds.length-(i+1),by omega,rfl,p'.1,p'.2⟩,λx H3 y=>?_⟩;obtain⟨G3,a1,a2,a3,a4⟩:=g2 x H3 y;have k3:=k2.grow a1 a2 a3;refine ht i _ Δ2 (Wab hlt) h2 { g with F:=G3,Xo:=g.Xo } G3 H3 σ2 x _ ?_ a4 λσ4 G4 H4 Δ4 k4 s4 p4=>?_
   ·exact⟨k3.same,k3.lent,Same.refl _,λb o q=>⟨(k3.frz b o q).1,.inr q⟩,k3.ext,k3.len,k3.val,k3.own,k3.dis⟩
   ·have cv:∀{G5 H5:Hp}{σ5:St}{Δ5:Evt},Ok K { g with F:=G3,Xo:=g.Xo } G5 H5 σ5 Δ5->Ok K g G5 H5 σ5 Δ5/\Same G1 G5:=λ{G5 H5 σ5 Δ5} k5=>
     ⟨⟨k5.same,k5.lent,k3.sub.trans k5.sub,λb o q=>by
      obtain⟨q1,q2⟩:=k5.frz b o q;refine⟨q1,?_⟩;rcases q2 with z|z
      ·exact .inl z
      ·exact(k3.frz b o z).2,k5.ext,k5.len,k5.val,k5.own,k5.dis⟩,s2.trans (a1.trans k5.sub)⟩
    refine p4 _ G4 H4 σ4 _ k4 ⟨λσ5 G5 H5 Δ5 k5 p5=>?_,λv d σ5 G5 H5 Δ5 k5 r5 p5=>?_,λσ5 G5 H5 Δ5 k5 p5=>?_,λσ5 G5 H5 Δ5 k5 p5=>?_,λa od σ5 G5 H5 Δ5 k5 pd5 p5=>?_⟩
    ·exact⟨hlt,G5,Δ5,(cv k5).1,(cv k5).2,p5⟩
    ·exact c.rt v d σ5 G5 H5 Δ5 (cv k5).1 r5 p5
    ·exact c.nx σ5 G5 H5 Δ5 (cv k5).1 p5
    ·exact⟨hlt,G5,Δ5,(cv k5).1,(cv k5).2,p5⟩
    ·exact c.ro a od σ5 G5 H5 Δ5 (cv k5).1 pd5 p5
  ·have e:i=ds.length:=by omega
   subst e;exact .inl ⟨stop,c.nx σ2 G2 H2 Δ2 k2<|he Δ2 h2⟩
end
section
variable {K:W.Frag}{Δ:Evt}{P:D->Evt->Prop}
theorem jr_I {C:Int->Int->Prop}{f:Int->Int->Int}{i j:Int}(hc:C i j) (p:P (.int<|f i j) Δ):JR2 K (rI C λi j=>.int<|f i j) (.int i) (.int j) Δ P:=λg G H σ Q x y k rx ry c=>by
 cases rx.inv;cases ry.inv;exact⟨i,j,rfl,rfl,hc,c _ _ G H Δ k (Same.refl _) (.int _) p⟩
theorem Zmy {f:Int->Int->Int}{i j:Int}(p:P (.int<|f i j) Δ):JR2 K (rI0 λi j=>.int<|f i j) (.int i) (.int j) Δ P:=λg G H σ Q x y k rx ry c=>by
 cases rx.inv;cases ry.inv;exact⟨i,j,rfl,rfl,c _ _ G H Δ k (Same.refl _) (.int _) p⟩
theorem Zfb {f:Int->Int->Bool}{i j:Int}(p:P (.bl<|f i j) Δ):JR2 K (rI0 λi j=>.bl<|f i j) (.int i) (.int j) Δ P:=λg G H σ Q x y k rx ry c=>by
 cases rx.inv;cases ry.inv;exact⟨i,j,rfl,rfl,c _ _ G H Δ k (Same.refl _) (.bl _) p⟩
theorem Zia {i j:Int}(p:P (.bl<|decide (i=j)) Δ):JR2 K rEq (.int i) (.int j) Δ P:=λg G H σ Q x y k rx ry c=>by
 cases rx.inv;cases ry.inv;refine⟨rfl,?_⟩;have e:decide (V.int i=V.int j)=decide (i=j):=by rw[Zga];exact(Bool.beq_eq_decide_eq i j)
 rw[e];exact c _ _ G H Δ k (Same.refl _) (.bl _) p
theorem Zmz {i j:Int}(p:P (.bl (!decide (i=j))) Δ):JR2 K rNe (.int i) (.int j) Δ P:=λg G H σ Q x y k rx ry c=>by
 cases rx.inv;cases ry.inv;refine⟨rfl,?_⟩;have e:decide (V.int i=V.int j)=decide (i=j):=by rw[Zga];exact(Bool.beq_eq_decide_eq i j)
 rw[e];exact c _ _ G H Δ k (Same.refl _) (.bl _) p
theorem Zs1 {ds:List D}{i:Int}{d:D}(h:atI ds i=some d) (p:P d Δ):JR2 K (rIxT K) (.tup ds) (.int i) Δ P:=λg G H σ Q x y k rx ry c=>by
 obtain⟨_,_,rfl,ha,rs⟩:=rx.inv
 next=>
  cases ry.inv;obtain⟨v,h1,h2⟩:=Zf9 rs h;exact⟨_,_,i,v,rfl,rfl,SqT.of<|k.live _ _ ha,h1,c v d G H Δ k (Same.refl _) h2 p⟩
theorem Ztf {ds:List D}{i:Int}{d:D}(h:atI ds i=some d) (p:P d Δ):JR2 K (rIxL K) (.lst ds) (.int i) Δ P:=λg G H σ Q x y k rx ry c=>by
 obtain⟨_,_,rfl,ha,rs⟩:=rx.inv
 next=>
  cases ry.inv;obtain⟨v,h1,h2⟩:=Zf9 rs h;exact⟨_,_,i,v,rfl,rfl,SqL.of<|k.live _ _ ha,h1,c v d G H Δ k (Same.refl _) h2 p⟩
theorem Zms {n:Nat}{te:TE}{Pp:Pst}{x:Slot}{od:OD}(hx:Δ[n]?=some x) (ho:x.od=some od) (hod:∃ds,od=.lst ds)
  (h:JE K te Δ λd Δ1=>∃y ds,Δ1[n]?=some y/\y.od=some (.lst ds)/\ds.length<sizeLine/\Pp.nx (Δ1.set n<|y.put (.lst<|ds++[d]))) :
  JS K (tDrop<|tBM K "list" rAppend (tVar n)<|tCons te tNil) Δ Pp:=λg G H σ E k c=>by
 obtain⟨a,o,h1,h2,h3,h4,h5⟩:=k.own n x _ hx ho;obtain⟨ds0,hod⟩:=hod;subst hod;cases o with
 |lst vs0=>
  refine⟨.ref a,h1,.inl ⟨rfl,_,SqL.of h2⟩,h g G H σ _ k λv d G1 H1 Δ1 k1 s1 r1 ⟨y,ds,q1,q2,q3,p⟩=>?_⟩;obtain⟨a',o',w1,w2,w3,w4,w5⟩:=k1.own n y _ q1 q2;rw[h1]at w1;cases w1;cases o' with
  |lst vs=>
   have w3:Reps K G1 vs ds:=w3;exact⟨a,vs,v,rfl,rfl,w2,by rw[w3.length];exact q3,c.nx σ G1 _ _ (k1.write q1 q2 h1 (show OwnRep K G1 (.lst<|vs++[v]) (.lst<|ds++[d]) from w3.append (.cons r1 .nil))) p⟩
  |_=>exact absurd w3 (λz=>z)
 |_=>exact absurd h3 (λz=>z)
theorem Zs9 {ds es:List D}(he:ds=[.lst es]\/ds=[.tup es]) (p:P (.int es.length) Δ) :
  JC K (λxs H Q=>∃p ys,xs=[.ref p]/\(SqL K H p ys\/SqT K H p ys)/\Q (.int ys.length) H) ds Δ P:=λg G H σ Q vs k rs c=>by
 rcases he with he|he <;> subst he
 ·obtain⟨_,_,rfl,r,t⟩:=rs.inv
  next=>
   cases t.inv;obtain⟨_,_,rfl,ha,rs⟩:=r.inv
   next=>
    refine⟨_,_,rfl,.inl<|SqL.of<|k.live _ _ ha,?_⟩;rw[rs.length];exact c _ _ G H Δ k (Same.refl _) (.int _) p
 ·obtain⟨_,_,rfl,r,t⟩:=rs.inv
  next=>
   cases t.inv;obtain⟨_,_,rfl,ha,rs⟩:=r.inv
   next=>
    refine⟨_,_,rfl,.inr<|SqT.of<|k.live _ _ ha,?_⟩;rw[rs.length];exact c _ _ G H Δ k (Same.refl _) (.int _) p
theorem Zpv {n:Nat}{x:Slot}{ds:List D}(hx:Δ[n]?=some x) (ho:x.od=some (.lst ds)) (p:P (.int ds.length) Δ) :
  JE K (tCB (λxs H Q=>∃p ys,xs=[.ref p]/\(SqL K H p ys\/SqT K H p ys)/\Q (.int ys.length) H)<|tCons (tVar n) tNil) Δ P:=λg G H σ Q k c=>by
 obtain⟨a,o,h1,h2,h3,h4,h5⟩:=k.own n x _ hx ho;cases o with
 |lst vs=>
  have h3:Reps K G vs ds:=h3;refine⟨.ref a,h1,a,vs,rfl,.inl<|SqL.of h2,?_⟩;rw[h3.length];exact c _ _ G H Δ k (Same.refl _) (.int _) p
 |_=>exact absurd h3 (λz=>z)
theorem Zs3 {i:Int}(p:P (.int (if i<0 then -i else i)) Δ):JC K (λxs H Q=>∃i,xs=[.int i]/\Q (.int (if i<0 then -i else i)) H) [.int i] Δ P:=λg G H σ Q vs k rs c=>by
 obtain⟨_,_,rfl,r,t⟩:=rs.inv
 next=>cases t.inv;cases r.inv;exact⟨i,rfl,c _ _ G H Δ k (Same.refl _) (.int _) p⟩
theorem Zjb {f:Int->Int->Int}{i j:Int}(p:P (.int<|f i j) Δ):JC K (λxs H Q=>∃i j,xs=[.int i,.int j]/\Q (.int<|f i j) H) [.int i,.int j] Δ P:=λg G H σ Q vs k rs c=>by
 obtain⟨_,_,rfl,r,t⟩:=rs.inv
 next=>
  obtain⟨_,_,rfl,r',t⟩:=t.inv
  next=>cases t.inv;cases r.inv;cases r'.inv;exact⟨i,j,rfl,c _ _ G H Δ k (Same.refl _) (.int _) p⟩
theorem Znx {ds es:List D}(he:ds=[.lst es]\/ds=[.tup es]) (p:P (.tup es) Δ) :
  JC K (λxs H Q=>∃p ys,xs=[.ref p]/\((SqL K H p ys/\∀l,H l=none->Q (.ref l) (upd H l (.tup ys)))\/(SqT K H p ys/\Q (.ref p) H))) ds Δ P:=λg G H σ Q vs k rs c=>by
 rcases he with he|he <;> subst he
 ·obtain⟨_,_,rfl,r,t⟩:=rs.inv
  next=>
   cases t.inv;obtain⟨_,_,rfl,ha,rs⟩:=r.inv
   next=>
    refine⟨_,_,rfl,.inl ⟨SqL.of<|k.live _ _ ha,λl hl=>?_⟩⟩;obtain⟨k2,sg⟩:=k.laid hl (.tup _);exact c _ _ _ _ Δ k2 sg (.tup Zal<|rs.mono sg) p
 ·obtain⟨_,_,rfl,r,t⟩:=rs.inv
  next=>
   cases t.inv;obtain⟨_,_,rfl,ha,rs⟩:=r.inv
   next=>exact⟨_,_,rfl,.inr ⟨SqT.of<|k.live _ _ ha,c _ _ G H Δ k (Same.refl _) (.tup ha rs) p⟩⟩
def glue (F H H':Hp):Hp:=λb=>match H b with
 |none=>H' b
 |some _=>F b
theorem Zc8 {F H H':Hp}{b:Addr}(h:H b=none):glue F H H' b=H' b:=by unfold glue;rw[h]
theorem Zcs {F H H':Hp}{b:Addr}{o:HO}(h:H b=some o):glue F H H' b=F b:=by unfold glue;rw[h]
theorem Zdj {G H H':Hp}(l:Same G H):Same G (glue G H H'):=λb o e=>by rw[Zcs (l b o e)];exact e
theorem Zer {G H H':Hp}(l:Same G H) (sh:∀b o,G b=some o->H b=some o->H' b=some o):∀b o,glue G H H' b=some o->H' b=some o/\(G b=some o\/H b=none):=λb o e=>by
 cases q:H b with
 |none=>rw[Zc8 q]at e;exact⟨e,.inr rfl⟩
 |some u=>rw[Zcs q]at e;exact⟨sh b o e (l b o e),.inl e⟩
abbrev DSp:=List D->(D->Prop)->Prop
def spD (K:W.Frag) (f:DSp):Sp:=λvs H Q _=>∃F ds Post,Same F H/\Reps K F vs ds/\f ds Post/\∀r H' d,Same H H' -> Rep K (glue F H H') r d->Post d->Q r H'
theorem Za1 {f:DSp}{ta:TA}{E:XK}(h:JA K ta Δ λds Δ1=>f ds λd=>P d Δ1):JE K (tCall (spD K f) [] E ta) Δ P:=λg G H σ Q k c=>
 h g G H σ _ k λvs ds G1 H1 Δ1 k1 s1 r1 p1=>by
  show spD K f (vs++[]) H1 Q E;rw[Wba];refine⟨G1,ds,_,k1.live,r1,p1,λr H' d sh rr pd=>?_⟩;have sg:=Zdj (H':=H') k1.live;exact c r d _ H' Δ1 (k1.grow sg sh (Zer k1.live λb o _ e=>sh b o e)) (s1.trans sg) rr pd
abbrev BSp:=List D->List D->(D->List D->Prop)->Prop
def spB (K:W.Frag) (f:BSp):Sp:=λvs H Q _=>∃F a us ws ps ds Post,vs=.ref a::ws/\Same F H/\F a=none/\H a=some (.lst us)/\Reps K F us ps/\Reps K F ws ds/\f ps ds Post ∧
 ∀r H' us' ps' d,(∀b o,b≠a->H b=some o->H' b=some o)->H' a=some (.lst us')->Reps K (glue F H H') us' ps' -> Rep K (glue F H H') r d->Post d ps' -> Q r H'
theorem Ok.lend {g:Gm}{G H H':Hp}{σ:St}(k:Ok K g G H σ Δ) {i:Nat}{x:Slot}{ps ps':List D}{us':List V}{a:Addr}(hx:Δ[i]?=some x) (ho:x.od=some (.lst ps)) (ha:σ[i]?=some (some (.ref a)))
  (sh:∀b o,b≠a->H b=some o->H' b=some o) (hn:H' a=some (.lst us')) (r:Reps K (glue G H H') us' ps'):Ok K g (glue G H H') H' σ (Δ.set i<|x.put (.lst ps'))/\Same G (glue G H H'):=by
 obtain⟨a',o,h1,h2,h3,h4,h5⟩:=k.own i x _ hx ho;rw[ha]at h1;cases h1;have sg:=Zdj (H':=H') k.live;have k2:Ok K g (glue G H H') (upd H' a o) σ Δ:=by
  refine k.grow sg (λb u e=>?_) λb u e=>?_
  ·by_cases hb:b=a
   ·subst hb;rw[Zal,<- h2];exact e
   ·rw[Zaj hb];exact sh b u hb e
  ·have hb:b≠a:=by intro z;subst z;rw[Zcs h2,h4]at e;cases e
   rw[Zaj hb];exact Zer k.live (λc w e1 e2=>sh c w (λz=>by subst z;rw[h4]at e1;cases e1) e2) b u e
 have k3:=k2.write hx ho ha (show OwnRep K (glue G H H') (.lst us') (.lst ps') from r);rw[Zlf]at k3;have e:upd H' a (.lst us')=H':=by
  funext b
  by_cases hb:b=a
  ·subst hb;rw[Zal,hn]
  ·rw[Zaj hb]
 rw[e]at k3;exact⟨k3,sg⟩
theorem Zlc {f:BSp}{ta:TA}{E:XK}{i:Nat}{x:Slot}{od:OD}(hx:Δ[i]?=some x) (ho:x.od=some od) (h:JA K ta Δ λds Δ1=>∃y ps,Δ1[i]?=some y/\y.od=some (.lst ps)/\f ps ds λd ps'=>P d (Δ1.set i<|y.put (.lst ps'))) :
  JE K (tCall (spB K f) [] E<|tCons (tVar i) ta) Δ P:=λg G H σ Q k c=>by
 obtain⟨a,o,h1,h2,h3,h4,h5⟩:=k.own i x _ hx ho;refine⟨.ref a,h1,h g G H σ _ k λvs ds G1 H1 Δ1 k1 s1 r1 ⟨y,ps,q1,q2,p1⟩=>?_⟩;show spB K f ((.ref a::vs)++[]) H1 Q E;rw[Wba];obtain⟨a',o',w1,w2,w3,w4,w5⟩:=k1.own i y _ q1 q2;rw[h1]at w1;cases w1;cases o' with
 |lst us=>
  refine⟨G1,a,us,vs,ps,ds,_,rfl,k1.live,w4,w2,w3,r1,p1,λr H' us' ps' d sh hn rr rd pd=>?_⟩;obtain⟨k2,sg⟩:=k1.lend q1 q2 h1 sh hn rr;exact c r d _ H' _ k2 (s1.trans sg) rd pd
 |_=>exact absurd w3 (λz=>z)
abbrev NSp:=List D->(List D->Prop)->Prop
def spN (K:W.Frag) (f:NSp):Sp:=λvs H Q _=>∃F ds Post,Same F H/\Reps K F vs ds/\f ds Post ∧
 ∀a H' us ps,Same H H' -> H a=none->H' a=some (.lst us)->Reps K (λb=>if b=a then none else glue F H H' b) us ps->Post ps->Q (.ref a) H'
theorem Zhs {f:NSp}{ta:TA}{E:XK}{Po:OD->Evt->Prop}(h:JA K ta Δ λds Δ1=>f ds λps=>Po (.lst ps) Δ1):JO K (tCall (spN K f) [] E ta) Δ Po:=λg G H σ Q k c=>
 h g G H σ _ k λvs ds G1 H1 Δ1 k1 s1 r1 p1=>by
  show spN K f (vs++[]) H1 Q E;rw[Wba];refine⟨G1,ds,_,k1.live,r1,p1,λa H' us ps sh ha hn rr pd=>?_⟩;have sg:Same G1 (λb=>if b=a then none else glue G1 H1 H' b):=λb o e=>by
   have hb:b≠a:=by intro z;subst z;rw[k1.live _ _ e]at ha;cases ha
   try dsimp only
   rw[if_neg hb];exact Zdj k1.live b o e
  have k2:Ok K g (λb=>if b=a then none else glue G1 H1 H' b) H' σ Δ1:=k1.grow sg sh λb o e=>by
   try dsimp only at e
   by_cases hb:b=a
   ·rw[if_pos hb]at e;cases e
   ·rw[if_neg hb]at e;exact Zer k1.live (λb o _ e=>sh b o e) b o e
  refine c a _ _ H' Δ1 k2 (s1.trans sg) ⟨.lst us,hn,(show OwnRep K _ (.lst us) (.lst ps) from rr),by simp,k1.there ha,?_,λj x od' e1 e2 e3=>?_⟩ pd
  ·cases q:g.Xo a with
   |none=>rfl
   |some u=>have z:=(k1.ext a u q).1;rw[ha]at z;cases z
  ·obtain⟨b,oo,w1,w2,_⟩:=k1.own j x od' e1 e2
   rw[e3]at w1;cases w1;rw[ha]at w2;cases w2
end
def startD (N:List Str) (ds:List D):Evt:=ds.map .val++Wad (N.length-ds.length) .any
section
variable {K:W.Frag}
theorem Zej {g:Gm}{G H:Hp}{N:List Str}{vs:List V}{ds:List D}(rs:Reps K G vs ds) (hl:ds.length<=N.length) (same:∀b o,¬ g.B b->g.Hz b=some o->H b=some o) (lent:∀b,g.B b->H b≠none) (sub:Same g.F G)
  (frz:∀b o,G b=some o->H b=some o/\(g.Hz b=none\/g.F b=some o)) (ext:∀b,g.Xo b=none):Ok K g G H (start N vs) (startD N ds):=by
 have noOd:∀(i:Nat) x od,(startD N ds)[i]?=some x->x.od=some od->False:=λi x od e1 e2=>by
  have hm:=Waz e1;rcases Wa7.mp hm with z|z
  ·obtain⟨d,_,rfl⟩:=Wax.mp z;cases e2
  ·rw[Wcq]at z;rw[z.2]at e2;cases e2
 refine⟨same,lent,sub,frz,λb o e=>(by rw[ext b]at e;cases e),?_,λi d e=>?_,λi x od e1 e2=>(noOd i x od e1 e2).elim,λi j x y od od' a e1 e2=>(noOd i x od e1 e2).elim⟩
 ·unfold start startD
  rw[War,War,Wac,Wac,Wa2,Wa2,rs.length]
 ·unfold startD at e
  unfold start;by_cases hi:i<ds.length
  ·rw[Wbb (by simpa using hi),Waj]at e
   cases q:ds[i]? with
   |none=>rw[q]at e;cases e
   |some d'=>
    rw[q]at e;have e:Slot.val d'=Slot.val d:=by simpa using e
    cases e;obtain⟨v,h1,h2⟩:=rs.get q;refine⟨v,?_,h2⟩;rw[Wbb (by rw[Wac,rs.length];exact hi),Waj,h1];rfl
  ·rw[Wa1 (by simpa using hi),Wbw]at e
   split at e <;> cases e
theorem Zcx {f:DSp}{t:TS}{N:List Str}{vs:List V}{H:Hp}{Q:VK}{E:XK}(ht:∀ds Post,f ds Post->ds.length<=N.length/\JS K t (startD N ds) ⟨λ_=>Post .non,λd _=>Post d,λ_=>False,λ_=>False,λ_ _=>False⟩) (h:spD K f vs H Q E) :
  t { nx:=λ_ H'=>Q .non H',rt:=Q } (start N vs) H:=by
 obtain⟨F,ds,Post,l,rs,hf,q⟩:=h;obtain⟨hl,hj⟩:=ht ds Post hf;have fin:∀{v:V}{d:D}{σ:St}{G H':Hp}{Δ:Evt},Ok K ⟨λ_=>False,F,H,λ_=>none⟩ G H' σ Δ -> Rep K G v d->Post d->Q v H':=λ{v d σ G H' Δ} k r p=>by
  refine q v H' d (λb o e=>k.same b o (λz=>z) e) (r.mono λb o e=>?_) p;obtain⟨e1,e2⟩:=k.frz b o e;rcases e2 with z|z
  ·rw[Zc8 z];exact e1
  ·rw[Zcs (l b o z)];exact z
 refine hj ⟨λ_=>False,F,H,λ_=>none⟩ F H (start N vs) _ (Zej rs hl (λ_ _ _ e=>e) (λ_ z=>z.elim) (Same.refl _) (λb o e=>⟨l b o e,.inr e⟩) λ_=>rfl) ⟨λσ G H' Δ k p=>fin k .non p,λv d σ G H' Δ k r p=>fin k r p,λ_ _ _ _ _ z=>z.elim,λ_ _ _ _ _ z=>z.elim,λ_ _ _ _ _ _ _ _ z=>z.elim⟩
theorem Ztl {f:NSp}{t:TS}{N:List Str}{vs:List V}{H:Hp}{Q:VK}{E:XK}(ht:∀ds Post,f ds Post->ds.length<=N.length/\JS K t (startD N ds) ⟨λ_=>False,λ_ _=>False,λ_=>False,λ_=>False,λod _=>∃ps,od=.lst ps/\Post ps⟩) (h:spN K f vs H Q E) :
  t { nx:=λ_ H'=>Q .non H',rt:=Q } (start N vs) H:=by
 obtain⟨F,ds,Post,l,rs,hf,q⟩:=h;obtain⟨hl,hj⟩:=ht ds Post hf;refine hj ⟨λ_=>False,F,H,λ_=>none⟩ F H (start N vs) _ (Zej rs hl (λ_ _ _ e=>e) (λ_ z=>z.elim) (Same.refl _) (λb o e=>⟨l b o e,.inr e⟩) λ_=>rfl) ⟨λ_ _ _ _ _ z=>z.elim,λ_ _ _ _ _ _ _ _ z=>z.elim,λ_ _ _ _ _ z=>z.elim,λ_ _ _ _ _ z=>z.elim,λa od σ G H' Δ k pd ⟨ps,e,p⟩=>?_⟩;subst e;obtain⟨o,h1,h2,h3,h4,h5,h6⟩:=pd;cases o with
 |lst us=>
  refine q a H' us ps (λb o e=>k.same b o (λz=>z) e) h4 h1 (Reps.mono (λb o e=>?_) (show Reps K G us ps from h2)) p;have hb:b≠a:=by intro z;subst z;rw[h3]at e;cases e
  try dsimp only
  rw[if_neg hb];obtain⟨e1,e2⟩:=k.frz b o e;rcases e2 with z|z
  ·rw[Zc8 z];exact e1
  ·rw[Zcs (l b o z)];exact z
 |_=>exact absurd h2 (λz=>z)
theorem Zp6 {f:BSp}{t:TS}{N:List Str}{vs:List V}{H:Hp}{Q:VK}{E:XK}(ht:∀ps ds Post,f ps ds Post->ds.length+1<=N.length/\JS K t (.bor (.lst ps)::startD N.tail ds) ⟨λΔ=>∃ps',Δ[0]?=some (.bor (.lst ps'))/\Post .non ps',λd Δ=>∃ps',Δ[0]?=some (.bor (.lst ps'))/\Post d ps',λ_=>False,λ_=>False,λ_ _=>False⟩) (h:spB K f vs H Q E) :
  t { nx:=λ_ H'=>Q .non H',rt:=Q } (start N vs) H:=by
 obtain⟨F,a,us,ws,ps,ds,Post,rfl,l,fa,ha,ru,rs,hf,q⟩:=h;obtain⟨hl,hj⟩:=ht ps ds Post hf;have fin:∀{v:V}{d:D}{σ:St}{G H':Hp}{Δ:Evt}{ps':List D},Ok K ⟨λb=>b=a,F,H,λ_=>none⟩ G H' σ Δ -> Δ[0]?=some (.bor (.lst ps'))->Rep K G v d->Post d ps' -> Q v H':=λ{v d σ G H' Δ ps'} k e0 r p=>by
  obtain⟨a',o,h1,h2,h3,h4,h5⟩:=k.own 0 _ _ e0 rfl;have ea:a'=a:=h5;subst ea;cases o with
  |lst us'=>
   have up:Same G (glue F H H'):=λb o e=>by
    obtain⟨e1,e2⟩:=k.frz b o e;rcases e2 with z|z
    ·rw[Zc8 z];exact e1
    ·rw[Zcs (l b o z)];exact z
   exact q v H' us' ps' d (λb o hb e=>k.same b o hb e) h2 (Reps.mono up (show Reps K G us' ps' from h3)) (r.mono up) p
  |_=>exact absurd h3 (λz=>z)
 cases N with
 |nil=>simp at hl
 |cons n0 N=>
  have hl':ds.length<=N.length:=by simpa using hl
  have k0:=Zej (K:=K) (H:=H) (g:=⟨λb=>b=a,F,H,λ_=>none⟩) (N:=N) rs hl' (λ_ _ _ e=>e) (λb z=>by subst z;rw[ha];intro w;cases w) (Same.refl _) (λb o e=>⟨l b o e,.inr e⟩) λ_=>rfl;have e1:start (n0::N) (.ref a::ws)=some (.ref a)::start N ws:=by
   unfold start;rw[Wav,Wak,Wak,Nat.add_sub_add_right];rfl
  rw[e1];have noOd:∀(i:Nat) x od,(startD N ds)[i]?=some x->x.od=some od->False:=λi x od e1 e2=>by
   have hm:=Waz e1;rcases Wa7.mp hm with z|z
   ·obtain⟨d,_,rfl⟩:=Wax.mp z;cases e2
   ·rw[Wcq]at z;rw[z.2]at e2;cases e2
  have k1:Ok K ⟨λb=>b=a,F,H,λ_=>none⟩ F H (some (.ref a)::start N ws) (.bor (.lst ps)::startD N ds):=by
   refine⟨k0.same,k0.lent,k0.sub,k0.frz,λb o e=>(by cases e),(by rw[Wak,Wak,k0.len]),λi d e=>?_,λi x od e1 e2=>?_,λi j x y od od' c e1 e2 e3 e4 _ _=>?_⟩
   ·cases i with
    |zero=>cases e
    |succ i=>exact k0.val i d e
   ·cases i with
    |zero=>cases e1;cases e2;exact⟨a,.lst us,rfl,ha,ru,fa,rfl⟩
    |succ i=>exact(noOd i x od e1 e2).elim
   ·cases i with
    |zero=>cases j with
     |zero=>rfl
     |succ j=>exact(noOd j y od' e3 e4).elim
    |succ i=>exact(noOd i x od e1 e2).elim
  exact hj _ F H _ _ k1 ⟨λσ G H' Δ k ⟨ps',e,p⟩=>fin k e .non p,λv d σ G H' Δ k r ⟨ps',e,p⟩=>fin k e r p,λ_ _ _ _ _ z=>z.elim,λ_ _ _ _ _ z=>z.elim,λ_ _ _ _ _ _ _ _ z=>z.elim⟩
theorem Za9 {f:DSp}{n:Nat}(h:∀ds Post,f ds Post->ds.length=n):∀vs H Q E,spD K f vs H Q E->vs.length=n:=λvs H Q E hq_=>by obtain⟨F,ds,Post,l,rs,hf,q⟩:=hq_;rw[rs.length];exact h ds Post hf
theorem Zki {f:NSp}{n:Nat}(h:∀ds Post,f ds Post->ds.length=n):∀vs H Q E,spN K f vs H Q E->vs.length=n:=λvs H Q E hq_=>by obtain⟨F,ds,Post,l,rs,hf,q⟩:=hq_;rw[rs.length];exact h ds Post hf
theorem Zih {f:BSp}{n:Nat}(h:∀ps ds Post,f ps ds Post->ds.length+1=n):∀vs H Q E,spB K f vs H Q E->vs.length=n:=λvs H Q E hq_=>by obtain⟨F,a,us,ws,ps,ds,Post,e,l,fa,ha,ru,rs,hf,q⟩:=hq_;rw[e,Wak,rs.length];exact h ps ds Post hf
end
def JGn (K:W.Frag) (n:Nat) (t:TG) (d:D) (Δ:Evt) (P:Evt->Prop):Prop:=
 ∀g G H σ v (R:St->Hp->Prop),Ok K g G H σ Δ -> Rep K G v d->(∀σ' G' H' Δ',Ok K g G' H' σ' Δ' -> Same G G' -> (∀j,n<=j -> σ'[j]? = σ[j]?)->P Δ' -> R σ' H')->t v σ H R
def JGsn (K:W.Frag) (n:Nat) (t:TGs) (ds:List D) (Δ:Evt) (P:Evt->Prop):Prop:=
 ∀g G H σ vs (R:St->Hp->Prop),Ok K g G H σ Δ -> Reps K G vs ds->(∀σ' G' H' Δ',Ok K g G' H' σ' Δ' -> Same G G' -> (∀j,n<=j -> σ'[j]? = σ[j]?)->P Δ' -> R σ' H')->t vs σ H R
section
variable {K:W.Frag}{Δ:Evt}
theorem Znz {n:Nat}{P:Evt->Prop}(p:P Δ):JGsn K n gNil [] Δ P:=λg G H σ vs R k r c=>by cases r;exact⟨rfl,c σ G H Δ k (Same.refl _) (λ_ _=>rfl) p⟩
theorem Zgm {n:Nat}{t:TG}{u:TGs}{d:D}{ds:List D}{P:Evt->Prop}(h:JGn K n t d Δ λΔ1=>JGsn K n u ds Δ1 P):JGsn K n (gCons t u) (d::ds) Δ P:=λg G H σ vs R k r c=>by
 obtain⟨_,_,rfl,r1,rr⟩:=r.inv
 next=>exact⟨_,_,rfl,h g G H σ _ _ k r1 λσ1 G1 H1 Δ1 k1 s1 e1 p1=>p1 g G1 H1 σ1 _ R k1 (rr.mono s1) λσ2 G2 H2 Δ2 k2 s2 e2 p2=>c σ2 G2 H2 Δ2 k2 (s1.trans s2) (λj hj=>(e2 j hj).trans (e1 j hj)) p2⟩
theorem Zpp {n m:Nat}{t:TGs}{ds:List D}{P:Evt->Prop}(hl:ds.length=m) (h:JGsn K n t ds Δ P):JGn K n (gTup K m t) (.tup ds) Δ P:=λg G H σ v R k r c=>by
 obtain⟨_,_,rfl,ha,rs⟩:=r.inv
 next=>exact⟨_,_,rfl,SqT.of<|k.live _ _ ha,by rw[rs.length];exact hl,h g G H σ _ R k rs c⟩
end
def compD (n:Nat) (sel:List Nat) (Δ:Evt):Evt:=Wad n .any++sel.map λi=>(Δ[i]?).getD .any
def backAt (n:Nat) (sel:List Nat) (Δi:Evt) (i:Nat) (x:Slot):Slot:=match x with
 |.val d=>.val d
 |.any=>.any
 |x=>match sel.idxOf? i with
  |none=>x
  |some j=>match Δi[n+j]? with
   |some (.own o)=>.own o
   |some (.bor o)=>.bor o
   |some (.ownA a o)=>.ownA a o
   |_=>.any
def backD (n:Nat) (sel:List Nat) (Δi:Evt):Nat->Evt->Evt
 |_,[]=>[]
 |i,x::r=>backAt n sel Δi i x::backD n sel Δi (i+1) r
theorem Zcp (n:Nat) (sel:List Nat) (Δi:Evt):∀(Δ:Evt) (k i:Nat),(backD n sel Δi k Δ)[i]?=(Δ[i]?).map (backAt n sel Δi<|k+i)
 |[],k,i=>by simp[backD]
 |x::r,k,0=>by simp[backD]
 |x::r,k,i+1=>by
  have:=Zcp n sel Δi r (k+1) i;simp only[backD,List.getElem?_cons_succ];rw[this,show k+1+i=k+(i+1) by omega]
theorem Zgq (n:Nat) (sel:List Nat) (Δi:Evt):∀(Δ:Evt) (k:Nat),(backD n sel Δi k Δ).length = Δ.length
 |[],k=>rfl
 |x::r,k=>by simp[backD,Zgq n sel Δi r (k+1)]
theorem Zdk {sel:List Nat}{i j:Nat}(h:sel.idxOf? i=some j):sel[j]?=some i:=by
 have h2:=List.idxOf?_eq_some_iff.mp h;obtain⟨hj,e,_⟩:=h2;rw[Wab hj,e]
theorem Zlb {n:Nat}{sel:List Nat}{Δi:Evt}{i:Nat}{x y:Slot}{od:OD}(h:backAt n sel Δi i x=y) (ho:y.od=some od) :
  (x=y/\sel.idxOf? i=none)\/∃j,sel[j]?=some i /\ Δi[n+j]?=some y/\∃od',x.od=some od':=by
 unfold backAt at h;cases x with
 |any=>subst h;cases ho
 |val d=>subst h;cases ho
 |own o=>
  dsimp only at h;cases q:sel.idxOf? i with
  |none=>rw[q]at h;exact .inl ⟨h,rfl⟩
  |some j=>
   rw[q]at h;dsimp only at h;refine .inr ⟨j,Zdk q,?_,o,rfl⟩;cases e:Δi[n+j]? with
   |none=>rw[e]at h;subst h;cases ho
   |some z=>rw[e]at h;cases z <;> (subst h;first|rfl|cases ho)
 |ownA a o=>
  dsimp only at h;cases q:sel.idxOf? i with
  |none=>rw[q]at h;exact .inl ⟨h,rfl⟩
  |some j=>
   rw[q]at h;dsimp only at h;refine .inr ⟨j,Zdk q,?_,o,rfl⟩;cases e:Δi[n+j]? with
   |none=>rw[e]at h;subst h;cases ho
   |some z=>rw[e]at h;cases z <;> (subst h;first|rfl|cases ho)
 |bor o=>
  dsimp only at h;cases q:sel.idxOf? i with
  |none=>rw[q]at h;exact .inl ⟨h,rfl⟩
  |some j=>
   rw[q]at h;dsimp only at h;refine .inr ⟨j,Zdk q,?_,o,rfl⟩;cases e:Δi[n+j]? with
   |none=>rw[e]at h;subst h;cases ho
   |some z=>rw[e]at h;cases z <;> (subst h;first|rfl|cases ho)
section
variable {K:W.Frag}{Δ:Evt}
open Classical in
noncomputable def aside (g:Gm) (sel:List Nat) (σ:St) (Δ:Evt) (H:Hp) (acc:Addr) (ys:List V):Hp:=λb=>
 if b=acc then some (.lst ys) else if ∃(i:Nat) (x:Slot) (od:OD),Δ[i]?=some x/\x.od=some od/\i ∉ sel /\ σ[i]?=some (some (.ref b)) then H b else g.Xo b
theorem Zc6 {n:Nat}{sel:List Nat}{σ:St}{j i:Nat}(h:sel[j]?=some i):(compSt n sel σ)[n+j]?=some ((σ[i]?).getD none):=by
 unfold compSt;rw[Wa1 (by rw[Wa2];omega),Wa2,Wcw,Waj,h];rfl
theorem Zcc {n:Nat}{sel:List Nat}{Δ:Evt}{k:Nat}{x:Slot}(h:(compD n sel Δ)[k]?=some x):x=.any\/∃j i,k=n+j/\sel[j]?=some i /\ Δ[i]?=some x:=by
 unfold compD at h;by_cases hk:k<n
 ·rw[Wbb (by simpa using hk),Wbw,if_pos hk]at h
  exact .inl (Wat.inj h).symm
 ·rw[Wa1 (by simpa using hk),Wa2,Waj]at h
  cases e:sel[k-n]? with
  |none=>rw[e]at h;cases h
  |some i=>
   rw[e]at h;have h:(Δ[i]?).getD .any=x:=by simpa using h
   cases q:Δ[i]? with
   |none=>rw[q]at h;exact .inl h.symm
   |some y=>rw[q]at h;cases h;exact .inr ⟨k-n,i,by omega,e,q⟩
theorem Zfl {g:Gm}{G1 H1:Hp}{σ:St}{Δ1:Evt}{n:Nat}{sel:List Nat}{acc:Addr}{X0:Hp}(hsel:sel.Nodup) (k1:Ok K g G1 H1 σ Δ1) (hacc:H1 acc=none)
  (hX:∀b o,X0 b=some o->(b=acc/\o=.lst [])\/(b≠acc/\(((∃(i:Nat) (x:Slot) (od:OD),Δ1[i]?=some x/\x.od=some od/\i ∉ sel /\ σ[i]?=some (some (.ref b)))/\H1 b=some o)\/g.Xo b=some o))):Ok K ⟨g.B,G1,g.Hz,X0⟩ G1 (upd H1 acc (.lst [])) (compSt n sel σ) (compD n sel Δ1):=by
 have hsl:∀{j j' i:Nat},sel[j]?=some i->sel[j']?=some i->j=j':=λ{j j' i} a b=>by
  obtain⟨h1,e1⟩:=Wap.mp a;obtain⟨h2,e2⟩:=Wap.mp b;exact(List.getElem_inj hsel).mp (e1.trans e2.symm)
 have hGa:G1 acc=none:=by
  cases e:G1 acc with
  |none=>rfl
  |some u=>rw[k1.live _ _ e]at hacc;cases hacc
 have cs:∀{j i:Nat}{a:Addr},sel[j]?=some i->(compSt n sel σ)[n+j]?=some (some (.ref a)) -> σ[i]?=some (some (.ref a)):=λ{j i a} ej e3=>by
  rw[Zc6 ej]at e3;cases q:σ[i]? with
  |none=>rw[q]at e3;cases e3
  |some w=>rw[q]at e3;cases e3;rfl
 have oldH:∀b o,H1 b=some o->(upd H1 acc (.lst [])) b=some o:=λb o e=>by rw[Zaj (Zak e hacc)];exact e
 refine⟨λb o hb e=>oldH b o<|k1.same b o hb e,λb hb z=>?_,Same.refl _,λb o e=>⟨oldH b o<|k1.live b o e,.inr e⟩,λb o e=>?_,?_,λi d e=>?_,λi x od e1 e2=>?_,λi j x y od od' a e1 e2 e3 e4 e5 e6=>?_⟩
 ·cases q:H1 b with
  |none=>exact k1.lent b hb q
  |some u=>rw[oldH b u q]at z;cases z
 ·rcases hX b o e with ⟨rfl,rfl⟩|⟨hb,⟨⟨i0,x0,od0,f1,f2,f3,f4⟩,e⟩|e⟩
  ·refine⟨Zal,hGa,λi x od e1 e2 e3=>?_⟩
   rcases Zcc e1 with z|⟨j,i',ei,ej,z⟩
   ·subst z;cases e2
   ·subst ei
    obtain⟨a,o,w1,w2,_⟩:=k1.own i' x od z e2;rw[cs ej e3]at w1;cases w1;rw[hacc]at w2;cases w2
  ·obtain⟨a,oo,w1,w2,w3,w4,w5⟩:=k1.own i0 x0 od0 f1 f2
   rw[f4]at w1;cases w1;refine⟨oldH b o e,w4,λi x od e1 e2 e3=>?_⟩;rcases Zcc e1 with z|⟨j,i',ei,ej,z⟩
   ·subst z;cases e2
   ·subst ei
    have:=k1.dis i0 i' x0 x od0 od b f1 f2 z e2 f4<|cs ej e3;subst this;exact f3<|Waz ej
  ·obtain⟨w1,w2,w3⟩:=k1.ext b o e
   refine⟨oldH b o w1,w2,λi x od e1 e2 e3=>?_⟩;rcases Zcc e1 with z|⟨j,i',ei,ej,z⟩
   ·subst z;cases e2
   ·subst ei;exact w3 i' x od z e2<|cs ej e3
 ·unfold compD compSt
  simp
 ·rcases Zcc e with z|⟨j,i',ei,ej,z⟩
  ·cases z
  ·subst ei
   obtain⟨v,w1,w2⟩:=k1.val i' d z;exact⟨v,by rw[Zc6 ej,w1];rfl,w2⟩
 ·rcases Zcc e1 with z|⟨j,i',ei,ej,z⟩
  ·subst z;cases e2
  ·subst ei
   obtain⟨a,o,w1,w2,w3,w4,w5⟩:=k1.own i' x od z e2;exact⟨a,o,by rw[Zc6 ej,w1];rfl,oldH a o w2,w3,w4,w5⟩
 ·rcases Zcc e1 with z|⟨j1,i1,ei,ej,z⟩
  ·subst z;cases e2
  ·rcases Zcc e3 with z'|⟨j2,i2,ei',ej',z'⟩
   ·subst z';cases e4
   ·subst ei;subst ei'
    have:=k1.dis i1 i2 x y od od' a z e2 z' e4 (cs ej e5)<|cs ej' e6;subst this;rw[hsl ej ej']
theorem Zfy {σ σ2:St}{Δ1 Δ2:Evt}{n:Nat}{sel:List Nat}(hσ:∀j,n<=j -> σ2[j]?=(compSt n sel σ)[j]?) (i:Nat) (y:Slot) (od:OD) (e1:(backD n sel Δ2 0 Δ1)[i]?=some y) (e2:y.od=some od) :
  ∃x od',Δ1[i]?=some x/\x.od=some od' /\ ((x=y/\i ∉ sel)\/∃j,sel[j]?=some i /\ Δ2[n+j]?=some y /\ σ2[n+j]?=some ((σ[i]?).getD none)):=by
 rw[Zcp]at e1;cases q:Δ1[i]? with
 |none=>rw[q]at e1;cases e1
 |some x=>
  rw[q]at e1;have e1:backAt n sel Δ2 i x=y:=by simpa using e1
  rcases Zlb e1 e2 with ⟨z1,z2⟩|⟨j,z1,z2,od',z3⟩
  ·refine⟨x,od,rfl,by rw[z1];exact e2,.inl ⟨z1,λhm=>?_⟩⟩
   rw[List.idxOf?_eq_none_iff]at z2;exact z2 hm
  ·exact⟨x,od',rfl,z3,.inr ⟨j,z1,z2,by rw[hσ (n+j) (by omega)];exact Zc6 z1⟩⟩
theorem Zfd {g:Gm}{G1 H1 G2 H2 Xv:Hp}{σ σ2:St}{Δ1 Δ2:Evt}{n:Nat}{sel:List Nat}{acc:Addr}(k1:Ok K g G1 H1 σ Δ1) (hacc:H1 acc=none) (k2:Ok K ⟨g.B,G1,g.Hz,Xv⟩ G2 H2 σ2 Δ2) (hσ:∀j,n<=j -> σ2[j]?=(compSt n sel σ)[j]?)
  (hX:∀b o,b≠acc->(∃(i:Nat) (x:Slot) (od:OD),Δ1[i]?=some x/\x.od=some od/\i ∉ sel /\ σ[i]?=some (some (.ref b)))->H1 b=some o->Xv b=some o) (hY:∀b o,b≠acc->¬ (∃(i:Nat) (x:Slot) (od:OD),Δ1[i]?=some x/\x.od=some od/\i ∉ sel /\ σ[i]?=some (some (.ref b)))->g.Xo b=some o->Xv b=some o):Ok K g G2 H2 σ (backD n sel Δ2 0 Δ1):=by
 have s2:Same G1 G2:=k2.sub;have src:=Zfy (Δ1:=Δ1) (Δ2:=Δ2) hσ;refine⟨k2.same,k2.lent,k1.sub.trans s2,λb o e=>?_,λb o e=>?_,by rw[Zgq,k1.len],λi d e=>?_,λi y od e1 e2=>?_,λi j x y od od' a e1 e2 e3 e4 e5 e6=>?_⟩
 ·obtain⟨q1,q2⟩:=k2.frz b o e
  refine⟨q1,?_⟩;rcases q2 with z|z
  ·exact .inl z
  ·exact(k1.frz b o z).2
 ·obtain⟨w1,w2,w3⟩:=k1.ext b o e
  have hne:b≠acc:=by intro z;subst z;rw[hacc]at w1;cases w1
  obtain⟨u1,u2,u3⟩:=k2.ext b o<|hY b o hne (λ⟨i,x,od,f1,f2,f3,f4⟩=>w3 i x od f1 f2 f4) e;refine⟨u1,u2,λi y od e1 e2 e3=>?_⟩;obtain⟨x,od',f1,f2,_⟩:=src i y od e1 e2;exact w3 i x od' f1 f2 e3
 ·rw[Zcp]at e
  cases q:Δ1[i]? with
  |none=>rw[q]at e;cases e
  |some x=>
   rw[q]at e;have e:backAt n sel Δ2 (0+i) x=.val d:=by simpa using e
   have ex:x=.val d:=by
    unfold backAt at e;cases x with
    |any=>cases e
    |val d'=>exact e
    |own o=>dsimp only at e;split at e <;> first|cases e|(split at e <;> cases e)
    |bor o=>dsimp only at e;split at e <;> first|cases e|(split at e <;> cases e)
    |ownA a o=>dsimp only at e;split at e <;> first|cases e|(split at e <;> cases e)
   subst ex;obtain⟨v,w1,w2⟩:=k1.val i d q;exact⟨v,w1,w2.mono s2⟩
 ·obtain⟨x,od',f1,f2,f3⟩:=src i y od e1 e2
  rcases f3 with ⟨f3,f4⟩|⟨j,f3,f4,f5⟩
  ·subst f3
   obtain⟨a,o,w1,w2,w3,w4,w5⟩:=k1.own i x od f1 e2;have hne:a≠acc:=by intro z;subst z;rw[hacc]at w2;cases w2
   obtain⟨u1,u2,u3⟩:=k2.ext a o<|hX a o hne ⟨i,x,od,f1,e2,f4,w1⟩ w2;exact⟨a,o,w1,u1,w3.mono s2,u2,w5⟩
  ·obtain⟨a,o,w1,w2,w3,w4,w5⟩:=k2.own (n+j) y od f4 e2
   obtain⟨a0,o0,v1,_⟩:=k1.own i x od' f1 f2;rw[f5,v1]at w1;have ea:a0=a:=by cases w1;rfl
   subst ea;exact⟨a0,o,v1,w2,w3,w4,w5⟩
 ·obtain⟨x',od1,f1,f2,_⟩:=src i x od e1 e2
  obtain⟨y',od2,f3,f4,_⟩:=src j y od' e3 e4;exact k1.dis i j x' y' od1 od2 a f1 f2 f3 f4 e5 e6
theorem Ok.base {g:Gm}{G1 F X G5 H5:Hp}{σ5:St}{Δ5:Evt}(sF:Same G1 F) (hF:∀b o,F b=some o->(g.Hz b=none\/G1 b=some o)) (k5:Ok K ⟨g.B,F,g.Hz,X⟩ G5 H5 σ5 Δ5):Ok K ⟨g.B,G1,g.Hz,X⟩ G5 H5 σ5 Δ5:=
 ⟨k5.same,k5.lent,sF.trans k5.sub,λb o q=>by
  obtain⟨q1,q2⟩:=k5.frz b o q;refine⟨q1,?_⟩;rcases q2 with z|z
  ·exact .inl z
  ·exact hF b o z,k5.ext,k5.len,k5.val,k5.own,k5.dis⟩
theorem Zkb {n:Nat}{sel:List Nat}{wi:TI}{t:TG}{tc:TT}{te:TE}{P:OD->Evt->Prop}(hsel:sel.Nodup)
  (h:JI K wi Δ λds Δ1=>ds.length<sizeLine/\∃I:Nat->List D->Evt->Prop,I 0 [] (compD n sel Δ1) ∧
   (∀i d ys Δ2,ds[i]?=some d->I i ys Δ2->JGn K n t d Δ2 λΔ3=>JT K tc Δ3 λb Δ4=>if b=true then JE K te Δ4 λe Δ5=>I (i+1) (ys++[e]) Δ5 else I (i+1) ys Δ4) ∧
   ∀ys Δ2,I ds.length ys Δ2->P (.lst ys) (backD n sel Δ2 0 Δ1)):JO K (tComp n sel wi t tc te) Δ P:=λg G H σ Q k c=>
 h g G H σ _ k λJ ds G1 H1 Δ1 k1 s1 it ⟨hz,I,h0,ht,he⟩ acc hacc=>by
  have nacc:∀(i:Nat) x od,Δ1[i]?=some x->x.od=some od -> σ[i]?≠some (some (.ref acc)):=λi x od e1 e2 e3=>by
   obtain⟨a,o,w1,w2,_⟩:=k1.own i x od e1 e2;rw[e3]at w1;cases w1;rw[hacc]at w2;cases w2
  -- the word at each turn
  let Wd:Nat->St->Hp->Prop:=λi σ' H'=>i<=ds.length/\(∀j,n<=j -> σ'[j]?=(compSt n sel σ)[j]?)/\∃G ys vs Δi,ys.length<=i/\Reps K G vs ys/\Ok K ⟨g.B,G1,g.Hz,aside g sel σ Δ1 H1 acc vs⟩ G H' σ' Δi/\I i ys Δi
  refine⟨λi m σ' H'=>m=ds.length-i/\Wd i σ' H',⟨ds.length,by simp,Wbn _,λ_ _=>rfl,G1,[],[],compD n sel Δ1,Waf _,.nil,?_,h0⟩,?_⟩
  ·refine Zfl hsel k1 hacc λb o e=>?_
   have e:aside g sel σ Δ1 H1 acc [] b=some o:=e;unfold aside at e;by_cases hb:b=acc
   ·rw[if_pos hb]at e;cases e;exact .inl ⟨hb,rfl⟩
   ·rw[if_neg hb]at e
    split at e
    case isTrue hx=>exact .inr ⟨hb,.inl ⟨hx,e⟩⟩
    case isFalse hx=>exact .inr ⟨hb,.inr e⟩
  ·rintro i m σ2 H2 ⟨rfl,hi,hσ,G2,ys,vs,Δ2,hy,ry,k2,h2⟩
   have s2:Same G1 G2:=k2.sub;obtain⟨stop,go⟩:=it G2 H2 s2 k2.live;have hacc2:∀{G' H':Hp}{σ':St}{Δ':Evt}{vs:List V}{F:Hp},Ok K ⟨g.B,F,g.Hz,aside g sel σ Δ1 H1 acc vs⟩ G' H' σ' Δ' -> H' acc=some (.lst vs)/\G' acc=none/\∀(i:Nat) x od,Δ'[i]?=some x->x.od=some od -> σ'[i]?≠some (some (.ref acc)):=λ{G' H' σ' Δ' vs F} kk=>
    kk.ext acc (.lst vs) (by show aside g sel σ Δ1 H1 acc vs acc=_;unfold aside;rw[if_pos rfl])
   by_cases hlt:i<ds.length
   ·obtain⟨g1,g2⟩:=go i _ (Wab hlt)
    refine .inr ⟨g1,λσ' H'=>Wd (i+1) σ' H',λσ' H' p'=>⟨ds.length-(i+1),by omega,rfl,p'⟩,λx H3 y=>?_⟩;obtain⟨G3,a1,a2,a3,a4⟩:=g2 x H3 y;have k3:=k2.grow a1 a2 a3;have hG3:∀b o,G3 b=some o->(g.Hz b=none\/G1 b=some o):=λb o q=>(k3.frz b o q).2;have k3':Ok K ⟨g.B,G3,g.Hz,aside g sel σ Δ1 H1 acc vs⟩ G3 H3 σ2 Δ2:=⟨k3.same,k3.lent,Same.refl _,λb o q=>⟨(k3.frz b o q).1,.inr q⟩,k3.ext,k3.len,k3.val,k3.own,k3.dis⟩;have ry3:Reps K G3 vs ys:=ry.mono a1;have s13:Same G1 G3:=s2.trans a1;refine ht i _ ys Δ2 (Wab hlt) h2 ⟨g.B,G3,g.Hz,aside g sel σ Δ1 H1 acc vs⟩ G3 H3 σ2 x _ k3' a4 λσ4 G4 H4 Δ4 k4 s4 e4 p4=>?_;have hσ4:∀j,n<=j -> σ4[j]?=(compSt n sel σ)[j]?:=λj hj=>(e4 j hj).trans (hσ j hj);refine p4 _ G4 H4 σ4 _ k4 λb G5 H5 Δ5 k5 s5 p5=>?_;cases b with
    |false=>exact⟨hlt,hσ4,G5,ys,vs,Δ5,by omega,ry3.mono (s4.trans s5),k5.base s13 hG3,p5⟩
    |true=>
     refine(show JE K te Δ5 _ from p5) _ G5 H5 σ4 _ k5 λv d G6 H6 Δ6 k6 s6 r6 p6=>?_;have ry6:Reps K G6 vs ys:=ry3.mono<|s4.trans<|s5.trans s6;obtain⟨b1,b2,b3⟩:=hacc2 k6;refine⟨vs,b1,by rw[ry6.length];omega,hlt,hσ4,G6,ys++[d],vs++[v],Δ6,by rw[War,Wbs];omega,ry6.append (.cons r6 .nil),?_,p6⟩;have k7:=k6.base s13 hG3;have oldH:∀b o,b≠acc->H6 b=some o->(upd H6 acc (.lst<|vs++[v])) b=some o:=λb o hb e=>by rw[Zaj hb];exact e
     have aNe:∀b o,b≠acc->aside g sel σ Δ1 H1 acc (vs++[v]) b=some o->aside g sel σ Δ1 H1 acc vs b=some o:=λb o hb e=>by
      unfold aside at e ⊢;rw[if_neg hb]at e ⊢;exact e
     refine⟨λb o hb e=>?_,λb hb=>?_,k7.sub,λb o e=>?_,λb o e=>?_,k7.len,k7.val,λi x od e1 e2=>?_,k7.dis⟩
     ·have hne:b≠acc:=by
       intro z;subst z;have e:g.Hz b=some o:=e;rw[k1.there hacc]at e;cases e
      exact oldH b o hne<|k7.same b o hb e
     ·by_cases hne:b=acc
      ·subst hne;rw[Zal];intro z;cases z
      ·rw[Zaj hne];exact k7.lent b hb
     ·have hne:b≠acc:=by intro z;subst z;rw[b2]at e;cases e
      exact⟨oldH b o hne (k7.frz b o e).1,(k7.frz b o e).2⟩
     ·by_cases hne:b=acc
      ·subst hne
       have e:aside g sel σ Δ1 H1 b (vs++[v]) b=some o:=e;unfold aside at e;rw[if_pos rfl]at e;cases e;exact⟨Zal,b2,b3⟩
      ·obtain⟨w1,w2,w3⟩:=k7.ext b o (aNe b o hne e)
       exact⟨oldH b o hne w1,w2,w3⟩
     ·obtain⟨a,o,w1,w2,w3,w4,w5⟩:=k7.own i x od e1 e2
      have hne:a≠acc:=by intro z;subst z;exact b3 i x od e1 e2 w1
      exact⟨a,o,w1,oldH a o hne w2,w3,w4,w5⟩
   ·have e:i=ds.length:=by omega
    subst e;refine .inl ⟨stop,?_⟩;obtain⟨b1,b2,b3⟩:=hacc2 k2;have src:=Zfy (Δ1:=Δ1) (Δ2:=Δ2) hσ;have k9:Ok K g G2 H2 σ (backD n sel Δ2 0 Δ1):=Zfd k1 hacc k2 hσ (λb o hb hx e=>by show aside g sel σ Δ1 H1 acc vs b=_;unfold aside;rw[if_neg hb,if_pos hx];exact e) (λb o hb hx e=>by show aside g sel σ Δ1 H1 acc vs b=_;unfold aside;rw[if_neg hb,if_neg hx];exact e);refine c acc _ G2 H2 _ k9 (s1.trans s2) ⟨.lst vs,b1,(show OwnRep K G2 (.lst vs) (.lst ys) from ry),b2,k1.there hacc,?_,λi y od e1 e2 e3=>?_⟩<|he ys Δ2 h2
    ·cases q:g.Xo acc with
     |none=>rfl
     |some u=>have z:=(k1.ext acc u q).1;rw[hacc]at z;cases z
    ·obtain⟨x',od1,f1,f2,_⟩:=src i y od e1 e2
     exact nacc i x' od1 f1 f2 e3
theorem Zqo {n:Nat}{sel:List Nat}{wi:TI}{t:TG}{tc:TT}{te:TE}{P:D->Evt->Prop}(hsel:sel.Nodup)
  (h:JI K wi Δ λds Δ1=>ds.length<sizeLine/\∃I:Nat->List D->Evt->Prop,I 0 [] (compD n sel Δ1) ∧
   (∀i d ys Δ2,ds[i]?=some d->I i ys Δ2->JGn K n t d Δ2 λΔ3=>JT K tc Δ3 λb Δ4=>if b=true then JE K te Δ4 λe Δ5=>I (i+1) (ys++[e]) Δ5 else I (i+1) ys Δ4) ∧
   ∀ys Δ2,I ds.length ys Δ2->P (.lst ys) (backD n sel Δ2 0 Δ1)):JE K (tComp n sel wi t tc te) Δ P:=
 Zcj (Zkb hsel λg G H σ R k c=>h g G H σ R k λJ ds G' H' Δ' k' s' it ⟨z,I,h0,ht,he⟩=>c J ds G' H' Δ' k' s' it ⟨z,I,h0,ht,λys Δ2 q=>⟨ys,rfl,he ys Δ2 q⟩⟩)
theorem Ziu {n:Nat}{sel:List Nat}{wi:TI}{t:TG}{tc:TT}{te:TE}{P:D->Evt->Prop}(hsel:sel.Nodup)
  (h:JI K wi Δ λds Δ1=>ds.length<sizeLine/\∃(fix:Evt) (p:D->Bool) (f:D->D),compD n sel Δ1=Wad n .any++fix ∧
   (∀(i:Nat) d (ts:Evt),ds[i]?=some d->ts.length=n->JGn K n t d (ts++fix) λΔ3=>JT K tc Δ3 λb Δ4=>b=p d/\if b=true then JE K te Δ4 λe Δ5=>e=f d/\∃ts',ts'.length=n /\ Δ5=ts'++fix else ∃ts',ts'.length=n /\ Δ4=ts'++fix) ∧
   P (.lst ((ds.filter p).map f)) (backD n sel (Wad n .any++fix) 0 Δ1)):JE K (tComp n sel wi t tc te) Δ P:=by
 refine Zqo hsel λg G H σ R k c=>h g G H σ R k λJ ds G' H' Δ' k' s' it ⟨z,fix,p,f,e0,ht,he⟩=>c J ds G' H' Δ' k' s' it ⟨z,λi ys Δ=>ys=((ds.take i).filter p).map f/\∃ts:Evt,ts.length=n /\ Δ = ts++fix,?_,?_,?_⟩
 ·exact⟨by simp,_,by simp,e0⟩
 ·rintro i d ys Δ2 hd ⟨rfl,ts,hts,rfl⟩
  have tk:ds.take (i+1)=ds.take i++[d]:=by
   rw[Wcd,hd];rfl
  intro g G H σ v R k r c;refine ht i d ts hd hts g G H σ v R k r λσ' G' H' Δ' k' s' e' q=>c σ' G' H' Δ' k' s' e' λg G H σ Q k c=>q g G H σ Q k λb G' H' Δ' k' s' ⟨eb,q⟩=>c b G' H' Δ' k' s' ?_;cases b with
  |true=>
   rw[if_pos rfl]at q ⊢;refine q.mono λe Δ5 ⟨e1,ts',h1,h2⟩=>⟨?_,ts',h1,h2⟩;rw[tk,Wbt,Wa8,Wbr,<- eb,e1];rfl
  |false=>
   rw[if_neg Wai]at q ⊢;obtain⟨ts',h1,h2⟩:=q;refine⟨?_,ts',h1,h2⟩;rw[tk,Wbt,Wa8,Wbr,<- eb];simp
 ·rintro ys Δ2 ⟨rfl,ts,hts,rfl⟩
  rw[Wcx];have e:backD n sel (ts++fix) 0 Δ'=backD n sel (Wad n .any++fix) 0 Δ':=by
   apply Wcf;intro i;rw[Zcp,Zcp];congr 1
   funext x
   unfold backAt;have e2:∀j,(ts++fix)[n+j]?=(Wad n Slot.any++fix)[n+j]?:=λj=>by
    rw[Wa1 (by omega),Wa1 (by simp),hts,Wa2]
   simp only[e2]
  rw[e];exact he
end
end L2
set_option Elab.async false
set_option linter.all false
set_option maxRecDepth 100000
namespace HT
open PySem PyProof.Rows
section
variable {prog:Program}{w:World}{A:Around}{E:Value->Shared->Prop}{s:Shared}
theorem getItem_tuple_whole {t sl:Addr}{items:Array Value}{vl vu:Value}{lo hi:Option Int}{Q:Value->Shared->Prop}(ht:IsTup s.heap t items) (hs:s.heap.IsSliceOf sl vl vu .none) (pl:IsPart vl lo) (pu:IsPart vu hi)
  (hw:sIx items.size 0 lo=0/\sIx items.size items.size hi=items.size) (h:Q (.ref t) s):wpAny (model prog w) A (getItem (.ref t) (.ref sl)) Q E s:=by
 obtain⟨os,hos,hcs,hds⟩:=id hs;have hTs:s.TypeIs (.ref sl) "slice":=⟨os,hos,hcs⟩;unfold getItem
 try with_reducible refine wpAny_holding ?_
 first|refine wpAny_bind (wpAny_pure ?_)|skip
 refine wpAny_bind (wpAny_sequenceKey ht.typeIs (by decide) ?_);refine wpAny_bind (wpAny_callSpecial?_slot (name:=Str.ofString "__getitem__") ht.typeIs PyProof.Rows.slot_tuple_getitem
  (wpAny_call_entry PyProof.Rows.slot_tuple_getitem ht.typeIs entry_tuple_getitem ?_ (args_tuple_getitem _ _)))
 show wpAny _ _ (Builtin.Tuple.tupleItemsOf (.ref t) >>= _) _ _ s;refine wpAny_bind<|tupleItemsOf_ ht ?_;refine wpAny_bind<|wpAny_typeOf hTs ?_;rw[if_pos (by decide)];refine wpAny_bind<|Zcy hs pl pu ?_;have hyes:(((sIx items.size 0 lo:Nat):Int) == 0 && (1:Int) == 1 && (sIx items.size items.size hi-sIx items.size 0 lo) == items.size)=true:=by
  rw[hw.1,hw.2];simp
 show wpAny _ _ (if (((sIx items.size 0 lo:Nat):Int) == 0 && (1:Int) == 1 && (sIx items.size items.size hi-sIx items.size 0 lo) == items.size)=true then _ else _) _ _ s;rw[if_pos hyes]
 first
  |exact wpAny_pure ⟨_,rfl,wpAny_pure h⟩
  |exact wpAny_pure ⟨_,rfl,h⟩
  |exact wpAny_bind (wpAny_pure (wpAny_pure ⟨_,rfl,wpAny_pure h⟩))
  | (refine wpAny_bind (wpAny_bind (wpAny_typeOf ht.typeIs (wpAny_pure ?_)))
     rw[if_pos (by decide)];exact wpAny_bind (wpAny_rule (wpAny_pure ⟨_,rfl,wpAny_pure h⟩)))
end
end HT
namespace L2
open PySem PySem.Spec PyProof.Rows
section
variable {X:Cx}
def rSlT' (K:W.Frag):V->Option Int->Option Int->Hp->VK->Prop:=λx lo hi H Q=>∃a xs,x=.ref a/\SqT K H a xs ∧
 ((HT.sIx xs.length 0 lo=0/\HT.sIx xs.length xs.length hi=xs.length)->Q (.ref a) H) ∧
 (¬ (HT.sIx xs.length 0 lo=0/\HT.sIx xs.length xs.length hi=xs.length)->∀p,H p=none->Q (.ref p) (upd H p (.tup<|cutV xs lo hi)))
theorem Zpu:SlR X (rSlT' X.K):=by
 intro pins s σ H x v vl vu lo hi sl Q I rx hs pl pu h;obtain⟨a,xs,rfl,hx,q1,q2⟩:=h;by_cases hw:HT.sIx xs.length 0 lo=0/\HT.sIx xs.length xs.length hi=xs.length
 ·cases rx
  obtain⟨its,r,ht,hz⟩:=I.tuple hx;have hlen:its.toArray.size=xs.length:=by rw[Wae];exact r.length.symm
  exact⟨"tuple",_,PyProof.Rows.slot_tuple_getitem.lookup,ht.typeIs,HT.getItem_tuple_whole ht hs pl pu (by rw[hlen];exact hw) ⟨.ref a,H,I,rfl,q1 hw⟩⟩
 ·exact Zrx pins s σ H (.ref a) v vl vu lo hi sl Q I rx hs pl pu ⟨a,xs,rfl,hx,hw,q2 hw⟩
def rSlU (K:W.Frag):V->Option Int->Option Int->Hp->VK->Prop:=λx lo hi H Q=>rSlL K x lo hi H Q\/rSlT' K x lo hi H Q
theorem slU:SlR X (rSlU X.K):=Zqc.or Zpu
def tSlR (K:W.Frag) (te:TE):TE:=λσ H Q=>te σ H λx H1=>∃a xs,x=.ref a/\SqT K H1 a xs/\∀p,H1 p=none->Q (.ref p) (upd H1 p (.tup xs.reverse))
def rCatT' (K:W.Frag):R2:=λx y H Q=>∃a b xs ys,x=.ref a/\y=.ref b/\SqT K H a xs/\SqT K H b ys/\xs.length+ys.length<=sizeLine ∧
 (xs=[]->Q (.ref b) H)/\(xs≠[]->ys=[]->Q (.ref a) H)/\(xs≠[]->ys≠[]->∀p,H p=none->Q (.ref p) (upd H p (.tup<|xs++ys)))
theorem Znw:OpR X (binaryOp .Add) (rCatT' X.K):=by
 intro pins s σ H x y v u Q I rx ry h;obtain⟨a,b,xs,ys,rfl,rfl,ha,hb,hz,q0,q1,q2⟩:=h;by_cases hx:xs=[]
 ·cases rx
  cases ry;obtain⟨its,r1,p1,_⟩:=I.tuple ha;obtain⟨its2,r2,p2,_⟩:=I.tuple hb;obtain⟨⟨cls,dd,data,sl⟩,ho,hc,n,hd⟩:=id p1;obtain⟨⟨cls2,dd2,data2,sl2⟩,ho2,hc2,n2,hd2⟩:=id p2;simp only at hc hd hc2 hd2;subst hc hd hc2 hd2;exact concat_meets ⟨_,ho,rfl⟩ ⟨_,ho2,rfl⟩ noFill_tuple_add seq_tuple_add PySem.F.slot_tuple_add PySem.F.entry_tuple_add (PySem.F.args_tuple_add_2 _ _)
   (tuple_addW0 a b its.toArray its2.toArray n n2 dd dd2 sl sl2 (by simp[r1.nil_iff.mpr hx])) ⟨ho,ho2,⟨.ref b,H,I,rfl,q0 hx⟩⟩
 ·exact Zrd pins s σ H (.ref a) (.ref b) v u Q I rx ry ⟨a,b,xs,ys,rfl,rfl,ha,hb,hx,hz,q1 hx,q2 hx⟩
def rAddU (K:W.Frag):R2:=λx y H Q=>rI0 (λi j=>.int<|i+j) x y H Q\/(rCatT' K x y H Q\/rCat x y H Q)
theorem Zqz:OpR X (binaryOp .Add) (rAddU X.K):=Zrs.or<|Znw.or Zri
theorem Zci:OpR X (compareOp .Eq) rEq:=Zt0
theorem Zg7:OpR X (compareOp .NotEq) rNe:=Ztw
def rIxD:R2:=λx y H Q=>∃a v,x=.ref a/\DGet H a y (some v)/\Q v H
theorem Zq8 (hu:X.A.units+1<cLine):IxR X rIxD:=by
 intro value slice pins s σ H x y v u Q I rx ry h hs;obtain⟨a,w',rfl,g,q⟩:=h;cases rx;exact tail_any (Zh5 I g) PySem.F.slot_dict_getitem.lookup (Zls hu I g ry λw2 s3 I3 rw'=>⟨w',H,I3,rw',q⟩) hs
def rIxU (K:W.Frag):R2:=λx y H Q=>rIx K x y H Q\/rIxD x y H Q
theorem ixU (hu:X.A.units+1<cLine):IxR X (rIxU X.K):=Zse.or<|Zq8 hu
def rSetD:V->V->V->Hp->(Hp->Prop)->Prop:=λo i v H Q=>∃a H',o=.ref a/\DPut H a i v H' /\ Q H'
theorem Znm (hu:X.A.units+1<cLine):PSet X rSetD:=by
 intro pins s σ H o i v ov iv u Q I ro ri rv h;obtain⟨a,H',rfl,g,q⟩:=h;cases ro;exact Zln hu I g ri rv λs' I'=>⟨H',I',q⟩
theorem PSet.or {t t':TSet}(h:PSet X t) (h':PSet X t'):PSet X (λo i v H Q=>t o i v H Q\/t' o i v H Q):=by
 intro pins s σ H o i v ov iv u Q I ro ri rv q;rcases q with q|q
 ·exact h pins s σ H o i v ov iv u Q I ro ri rv q
 ·exact h' pins s σ H o i v ov iv u Q I ro ri rv q
def rSetU:V->V->V->Hp->(Hp->Prop)->Prop:=λo i v H Q=>rSetL o i v H Q\/rSetD o i v H Q
theorem setU (hu:X.A.units+1<cLine):PSet X rSetU:=Zoq.or<|Znm hu
def rLenU (K:W.Frag):List V->Hp->VK->Prop:=λxs H Q=>(∃p ys,xs=[.ref p]/\(SqL K H p ys\/SqT K H p ys)/\Q (.int ys.length) H)\/∃a kvs,xs=[V.ref a]/\H a=some (.dK kvs)/\Q (.int kvs.length) H
theorem Zlw:CallR X (.builtin "len") (rLenU X.K):=Zgx.or Zlz
def rIsi (K:W.Frag):List V->Hp->VK->Prop:=λxs H Q=>∃x n t b,xs=[x,.ty n]/\TyOf K H x t/\PySem.W.kitOne K t (.type n)=some b/\Q (.bl b) H
theorem Zii:CallR X (.builtin "isinstance") (rIsi X.K):=by
 intro pins s σ H xs us Q I r h;obtain⟨x,n,t,b,rfl,ty,e,q⟩:=h;obtain⟨u,u',rfl,rx,rn⟩:=vals2 r;cases (show u'=Value.type n from rn);exact Zla I rx ty e λtk=>⟨.bl b,H,I.tok _,rfl,q⟩
def insI (n:Nat) (i:Int):Nat:=if i<0 then (i+(n:Int)).toNat else min i.toNat n
def rInsert:V->List V->Hp->VK->Prop:=λx vs H Q=>∃l xs i y,x=.ref l/\vs=[.int i,y]/\H l=some (.lst xs)/\xs.length<sizeLine /\ -(2 ^ 62)<=i/\i<2 ^ 62/\Q .non (upd H l (.lst (xs.take (insI xs.length i)++y::xs.drop (insI xs.length i))))
theorem Zk8:MtM X "list.insert" rInsert:=by
 intro pins s σ H x vs v us Q I rx rv h;obtain⟨l,xs,i,y,rfl,rfl,hH,hz,h1,h2,q⟩:=h;cases rx;obtain⟨ui,uy,rfl,⟨t,rfl⟩,ry⟩:=rv.two;obtain⟨z,its,n,r,hl,e⟩:=I.lstM hH;refine call_meets F.slot_list_insert ⟨_,e,rfl⟩ F.entry_list_insert (F.args_list_insert_3 _ _ _) (PySem.AutoSeq1.list_insert_list_int_val_1 l its.toArray n i t uy (by
  have hf:Builtin.List.listFitsIndex i=true:=by
   unfold Builtin.List.listFitsIndex;rw[decide_eq_true (by omega),decide_eq_true (by omega)];rfl
  rw[hf];decide) (by rw[Wae];omega)) ⟨e,?_⟩
 refine⟨.non,_,I.lset (its':=its.take (insI xs.length i)++uy::its.drop (insI xs.length i)) hH e ?_ ((r.take _).append (.cons ry<|r.drop _)) ?_,rfl,q⟩
 ·have e1:(if i<0 then (i+(its.toArray.size:Int)).toNat else min i.toNat its.toArray.size)=insI xs.length i:=by
   unfold insI;rw[Wae,hl]
  dsimp only;rw[e1];apply Array.ext';simp;rw[Wbp (by rw[Wb4];exact Waf _)]
 ·rw[War,Wak,Wbd,Wb4]
  omega
def rIndexT (K:W.Frag):V->List V->Hp->VK->Prop:=λx vs H Q=>∃a xs y j,x=.ref a/\vs=[y]/\SqT K H a xs/\flatV y=true/\xs.all flatV=true/\j<xs.length ∧
 (∃z,xs[j]?=some z/\eqV z y=true)/\(∀m z,m<j->xs[m]?=some z->eqV z y=false)/\Q (.int j) H
end
end L2
namespace L2
open PySem PySem.Spec PyProof.Rows
section
variable {X:Cx}
theorem PI.or {tg iter:Expr}{w w':TI}(h:PI X tg iter w) (h':PI X tg iter w'):PI X tg iter (λσ H R=>w σ H R\/w' σ H R):=by
 intro pins s σ H R I q;rcases q with q|q
 ·exact h pins s σ H R I q
 ·exact h' pins s σ H R I q
def iSeq (K:W.Frag) (tl:TE):TI:=λσ H R=>iList K tl σ H R\/iTup K tl σ H R
theorem Zti {tg l:Expr}{tl:TE}(hl:PE X l tl):PI X tg l (iSeq X.K tl):=(Zq9 hl).or (Zs7 hl)
def tTru (K:W.Frag) (ta:TE):TT:=λσ H Q=>ta σ H λx H'=>∃k,TruV K x H' k/\Q k H'
theorem Zsy {a:Expr}{ta:TE}(ha:PE X a ta) (he:∀whole,isTrue a X.env whole=(do let v ← whole;standAt a.pos;holding [v] (truthy v))):PT X a (tTru X.K ta):=Zn5 ha he
end
section
variable {K:W.Frag}{Δ:Evt}{P:D->Evt->Prop}
theorem Zdw {i j:Int}(p:P (.int<|i+j) Δ):JR2 K (rAddU K) (.int i) (.int j) Δ P:=λg G H σ Q x y k rx ry c=>by
 cases rx.inv;cases ry.inv;exact .inl ⟨i,j,rfl,rfl,c _ _ G H Δ k (Same.refl _) (.int _) p⟩
theorem Zgd {ds es:List D}(hz:ds.length+es.length<=sizeLine) (p:P (.tup<|ds++es) Δ):JR2 K (rAddU K) (.tup ds) (.tup es) Δ P:=λg G H σ Q x y k rx ry c=>by
 cases rx with
 |tup ha ra=>
  cases ry with
  |tup hb rb=>
   refine .inr (.inl ⟨_,_,_,_,rfl,rfl,SqT.of<|k.live _ _ ha,SqT.of<|k.live _ _ hb,by rw[ra.length,rb.length];exact hz,λe=>?_,λ_ e=>?_,λ_ _ q hq=>?_⟩)
   ·subst e;cases ra;exact c _ _ G H Δ k (Same.refl _) (.tup hb rb) p
   ·subst e;cases rb;rw[Wba]at p;exact c _ _ G H Δ k (Same.refl _) (.tup ha ra) p
   ·obtain⟨k2,sg⟩:=k.laid hq (.tup _)
    exact c _ _ _ _ Δ k2 sg (.tup Zal ((ra.append rb).mono sg)) p
theorem Zdf {ds es:List D}(hz:ds.length+es.length<=sizeLine) (p:P (.lst<|ds++es) Δ):JR2 K (rAddU K) (.lst ds) (.lst es) Δ P:=λg G H σ Q x y k rx ry c=>by
 obtain⟨_,_,rfl,ha,ra⟩:=rx.inv
 next=>
  obtain⟨_,_,rfl,hb,rb⟩:=ry.inv
  next=>
   refine .inr (.inr ⟨_,_,_,_,rfl,rfl,k.live _ _ ha,k.live _ _ hb,by rw[ra.length,rb.length];exact hz,λq hq=>?_⟩);obtain⟨k2,sg⟩:=k.laid hq (.lst _);exact c _ _ _ _ Δ k2 sg (.lst Zal ((ra.append rb).mono sg)) p
theorem Zbb {ds:List D}{i:Int}{d:D}(h:atI ds i=some d) (p:P d Δ):JR2 K (rIxU K) (.tup ds) (.int i) Δ P:=λg G H σ Q x y k rx ry c=>
 .inl (.inr (.inl<|Zs1 h p g G H σ Q x y k rx ry c))
theorem Zbl {ds:List D}{i:Int}{d:D}(h:atI ds i=some d) (p:P d Δ):JR2 K (rIxU K) (.lst ds) (.int i) Δ P:=λg G H σ Q x y k rx ry c=>
 .inl (.inl<|Ztf h p g G H σ Q x y k rx ry c)
theorem Zqy {n:Nat}{tb:TE}{x:Slot}{ds:List D}(hx:Δ[n]?=some x) (ho:x.od=some (.lst ds)) (h:JE K tb Δ λe Δ1=>∃y es i d,Δ1[n]?=some y/\y.od=some (.lst es)/\e=.int i/\atI es i=some d/\P d Δ1):JE K (tOp (rIxU K) (tVar n) tb) Δ P:=λg G H σ Q k c=>by
 obtain⟨a,o,h1,h2,h3,h4,h5⟩:=k.own n x _ hx ho;refine⟨.ref a,h1,h g G H σ _ k λv e G1 H1 Δ1 k1 s1 r1 ⟨y,es,i,d,q1,q2,q3,q4,p⟩=>?_⟩;subst q3;cases r1.inv;obtain⟨a',o',w1,w2,w3,w4,w5⟩:=k1.own n y _ q1 q2;rw[h1]at w1;cases w1;cases o' with
 |lst vs=>
  obtain⟨u,z1,z2⟩:=Zf9 (show Reps K G1 vs es from w3) q4;exact .inl (.inl ⟨a,vs,i,u,rfl,rfl,SqL.of w2,z1,c u d G1 H1 Δ1 k1 s1 z2 p⟩)
 |_=>exact absurd w3 (λz=>z)
theorem Zld {n:Nat}{ti te:TE}{Pp:Pst}(h:JE K te Δ λd Δ1=>(∃x od,Δ1[n]?=some x/\x.od=some od)/\JE K ti Δ1 λe Δ2=>∃x ds i j,Δ2[n]?=some x/\x.od=some (.lst ds)/\e=.int i/\ixN ds.length i=some j/\Pp.nx (Δ2.set n<|x.put (.lst<|ds.set j d))) :
  JS K (tAsg te<|gSub (tVar n) ti rSetU) Δ Pp:=λg G H σ E k c=>
 h g G H σ _ k λv d G1 H1 Δ1 k1 s1 r1 hq_=>by
  obtain⟨⟨x,od,hx,ho⟩,p1⟩:=hq_;obtain⟨a,o,h1,h2,h3,h4,h5⟩:=k1.own n x _ hx ho;refine⟨.ref a,h1,p1 g G1 H1 σ _ k1 λu e G2 H2 Δ2 k2 s2 r2 ⟨y,ds,i,j,q1,q2,q3,q4,p⟩=>?_⟩;subst q3;cases r2.inv;obtain⟨a',o',w1,w2,w3,w4,w5⟩:=k2.own n y _ q1 q2;rw[h1]at w1;cases w1;cases o' with
  |lst vs=>
   have w3:Reps K G2 vs ds:=w3;exact .inl ⟨a,vs,i,j,rfl,rfl,w2,by rw[w3.length];exact q4,c.nx σ G2 _ _ (k2.write q1 q2 h1 (show OwnRep K G2 (.lst<|vs.set j v) (.lst<|ds.set j d) from w3.set j (r1.mono s2))) p⟩
  |_=>exact absurd w3 (λz=>z)
theorem Zbk {ds es:List D}(he:ds=[.lst es]\/ds=[.tup es]) (p:P (.int es.length) Δ):JC K (rLenU K) ds Δ P:=λg G H σ Q vs k rs c=>.inl<|Zs9 he p g G H σ Q vs k rs c
theorem Znb {n:Nat}{x:Slot}{ds:List D}(hx:Δ[n]?=some x) (ho:x.od=some (.lst ds)) (p:P (.int ds.length) Δ):JE K (tCB (rLenU K)<|tCons (tVar n) tNil) Δ P:=λg G H σ Q k c=>by
 obtain⟨v,h1,h2⟩:=Zpv hx ho p g G H σ Q k c;exact⟨v,h1,.inl h2⟩
def cutD (ds:List D) (lo hi:Option Int):List D:=(ds.drop<|HT.sIx ds.length 0 lo).take (HT.sIx ds.length ds.length hi-HT.sIx ds.length 0 lo)
theorem Zl6 {α:Type}(xs:List α) (lo hi:Option Int) (h:HT.sIx xs.length 0 lo=0/\HT.sIx xs.length xs.length hi=xs.length):(xs.drop<|HT.sIx xs.length 0 lo).take (HT.sIx xs.length xs.length hi-HT.sIx xs.length 0 lo)=xs:=by
 rw[h.1,h.2];simp
def JO2 (t:TO) (Δ:Evt) (K:W.Frag) (P:Option Int->Evt->Prop):Prop:=
 ∀g G H σ (Q:Option Int->Hp->Prop),Ok K g G H σ Δ -> (∀o G' H' Δ',Ok K g G' H' σ Δ' -> Same G G' -> P o Δ' -> Q o H')->t σ H Q
theorem Zic {P:Option Int->Evt->Prop}(p:P none Δ):JO2 tNoPart Δ K P:=λg G H σ Q k c=>c none G H Δ k (Same.refl _) p
theorem Zh4 {te:TE}{P:Option Int->Evt->Prop}(h:JE K te Δ λd Δ1=>∃i,d=.int i/\P (some i) Δ1):JO2 (tPart te) Δ K P:=λg G H σ Q k c=>
 h g G H σ _ k λv d G1 H1 Δ1 k1 s1 r1 hq_=>by obtain⟨i,e,p⟩:=hq_;subst e;cases r1.inv;exact⟨i,rfl,c (some i) G1 H1 Δ1 k1 s1 p⟩
def slD (d:D) (lo hi:Option Int):Option D:=match d with
 |.lst ds=>some (.lst (cutD ds lo hi))
 |.scr ds=>some (.lst (cutD ds lo hi))
 |.tup ds=>some (.tup (cutD ds lo hi))
 |_=>none
theorem Zqi {te:TE}{tl th:TO}(h:JE K te Δ λd Δ1=>JO2 tl Δ1 K λlo Δ2=>JO2 th Δ2 K λhi Δ3=>∃e,slD d lo hi=some e/\P e Δ3):JE K (tSl (rSlU K) te tl th) Δ P:=λg G H σ Q k c=>
 h g G H σ _ k λv d G1 H1 Δ1 k1 s1 r1 p1=>p1 g G1 H1 σ _ k1 λlo G2 H2 Δ2 k2 s2 p2=>p2 g G2 H2 σ _ k2 λhi G3 H3 Δ3 k3 s3 hq_=>by
  obtain⟨e,he,p⟩:=hq_;have r3:=r1.mono<|s2.trans s3;have cc:=c.up<|s1.trans<|s2.trans s3;cases r3 with
  |lst ha rs=>
   cases he;refine .inl ⟨_,_,rfl,SqL.of<|k3.live _ _ ha,λq hq=>?_⟩;obtain⟨k4,sg⟩:=k3.laid hq (.lst _);refine cc _ _ _ _ Δ3 k4 sg (.lst Zal<|Reps.mono sg ?_) p;unfold cutV cutD;rw[rs.length];exact(rs.drop _).take _
  |scr ha rs=>
   cases he;refine .inl ⟨_,_,rfl,k3.live.seq ha,λq hq=>?_⟩;obtain⟨k4,sg⟩:=k3.laid hq (.lst _);refine cc _ _ _ _ Δ3 k4 sg (.lst Zal<|Reps.mono sg ?_) p;unfold cutV cutD;rw[rs.length];exact(rs.drop _).take _
  |tup ha rs=>
   cases he;refine .inr ⟨_,_,rfl,SqT.of<|k3.live _ _ ha,λhw=>?_,λhw q hq=>?_⟩
   ·rw[rs.length]at hw
    refine cc _ _ _ _ Δ3 k3 (Same.refl _) (.tup ha ?_) p;unfold cutD;rw[Zl6 _ _ _ hw];exact rs
   ·obtain⟨k4,sg⟩:=k3.laid hq (.tup _)
    refine cc _ _ _ _ Δ3 k4 sg (.tup Zal<|Reps.mono sg ?_) p;unfold cutV cutD;rw[rs.length];exact(rs.drop _).take _
  |_=>cases he
theorem Zro {te:TE}(h:JE K te Δ λd Δ1=>∃ds,d=.tup ds/\P (.tup ds.reverse) Δ1):JE K (tSlR K te) Δ P:=λg G H σ Q k c=>
 h g G H σ _ k λv d G1 H1 Δ1 k1 s1 r1 hq_=>by
  obtain⟨ds,e,p⟩:=hq_;subst e;obtain⟨_,_,rfl,ha,rs⟩:=r1.inv
  next=>
   refine⟨_,_,rfl,SqT.of<|k1.live _ _ ha,λq hq=>?_⟩;obtain⟨k4,sg⟩:=k1.laid hq (.tup _);exact c _ _ _ _ Δ1 k4 (s1.trans sg) (.tup Zal<|rs.reverse.mono sg) p
theorem Zke {tl:TE}{P:List D->Evt->Prop}(h:JE K tl Δ λd Δ1=>∃ds,(d=.lst ds\/d=.scr ds)/\P ds Δ1):JI K (iSeq K tl) Δ P:=λg G H σ R k c=>.inl<|Zp0 h g G H σ R k c
theorem Zf8 {tl:TE}{P:List D->Evt->Prop}(h:JE K tl Δ λd Δ1=>∃ds,d=.tup ds/\P ds Δ1):JI K (iSeq K tl) Δ P:=λg G H σ R k c=>.inr<|Ztj h g G H σ R k c
def truD:D->Option Bool
 |.non=>some false
 |.bl b=>some b
 |.int i=>some (i != 0)
 |.lst ds=>some !ds.isEmpty
 |.tup ds=>some !ds.isEmpty
 |_=>none
theorem Reps.isEmpty {G:Hp}{vs:List V}{ds:List D}(r:Reps K G vs ds):vs.isEmpty=ds.isEmpty:=by cases r <;> rfl
theorem Zbi {t:TE}{Pb:Bool->Evt->Prop}(h:JE K t Δ λd Δ1=>∃b,truD d=some b/\Pb b Δ1):JT K (tTru K t) Δ Pb:=λg G H σ Q k c=>
 h g G H σ _ k λv d G1 H1 Δ1 k1 s1 r1 hq_=>by
  obtain⟨b,e,p1⟩:=hq_;refine⟨b,?_,c b G1 H1 Δ1 k1 s1 p1⟩;cases r1 with
  |non=>cases e;rfl
  |bl b=>cases e;rfl
  |int i=>cases e;rfl
  |str x=>cases e
  |ty n=>cases e
  |scr ha rs=>cases e
  |adr a=>cases e
  |dct ha hl rs=>cases e
  |exc ha=>cases e
  |excR ha hb=>cases e
  |lst ha rs=>cases e;exact .inl ⟨_,SqL.of (k1.live _ _ ha),by rw[rs.isEmpty]⟩
  |tup ha rs=>cases e;exact .inr (.inl ⟨_,SqT.of (k1.live _ _ ha),by rw[rs.isEmpty]⟩)
def tyD:D->Option String
 |.non=>some "NoneType"
 |.bl _=>some "bool"
 |.int _=>some "int"
 |.str _=>some "str"
 |.lst _=>some "list"
 |.tup _=>some "tuple"
 |.dct _ _=>some "dict"
 |_=>none
theorem Zs8 {d:D}{n T:String}{b:Bool}(ht:tyD d=some T) (e:∀K,PySem.W.kitOne K (.type T) (.type n)=some b) (p:P (.bl b) Δ):JC K (rIsi K) [d,.ty n] Δ P:=λg G H σ Q vs k rs c=>by
 obtain⟨_,_,rfl,r,t⟩:=rs.inv
 next=>
  obtain⟨_,_,rfl,r',t⟩:=t.inv
  next=>
   cases t.inv;cases r'.inv;refine⟨_,n,.type T,b,rfl,?_,e K,c _ _ G H Δ k (Same.refl _) (.bl b) p⟩;cases r with
   |non=>cases ht;exact .non
   |bl b=>cases ht;exact .bl b
   |int i=>cases ht;exact .int i
   |str x=>cases ht;exact .str x
   |ty n=>cases ht
   |scr ha rs=>cases ht
   |adr a=>cases ht
   |dct ha hl rs=>cases ht;exact .dK (k.live _ _ ha)
   |exc ha=>cases ht
   |excR ha hb=>cases ht
   |lst ha rs=>cases ht;exact .lst (k.live _ _ ha)
   |tup ha rs=>cases ht;exact .tup (k.live _ _ ha)
theorem Zd0 {ta tb:TE}(h:JE K ta Δ λd Δ1=>∃b,d=.bl b/\if b=true then JE K tb Δ1 P else P (.bl false) Δ1):JE K (tAndV ta tb) Δ P:=λg G H σ Q k c=>
 h g G H σ _ k λv d G1 H1 Δ1 k1 s1 r1 hq_=>by
  obtain⟨b,e,p1⟩:=hq_;subst e;cases r1.inv;refine⟨b,rfl,?_⟩;cases b with
  |true=>exact(show JE K tb Δ1 P from p1) g G1 H1 σ Q k1 (c.up s1)
  |false=>exact c _ _ G1 H1 Δ1 k1 s1 (.bl false) p1
theorem Zsu {ta tb:TE}(h:JE K ta Δ λd Δ1=>∃b,d=.bl b/\if b=true then P (.bl true) Δ1 else JE K tb Δ1 P):JE K (tOrV ta tb) Δ P:=λg G H σ Q k c=>
 h g G H σ _ k λv d G1 H1 Δ1 k1 s1 r1 hq_=>by
  obtain⟨b,e,p1⟩:=hq_;subst e;cases r1.inv;refine⟨b,rfl,?_⟩;cases b with
  |false=>exact(show JE K tb Δ1 P from p1) g G1 H1 σ Q k1 (c.up s1)
  |true=>exact c _ _ G1 H1 Δ1 k1 s1 (.bl true) p1
theorem Zhq {ta:TE}(h:JE K ta Δ λd Δ1=>∃b,d=.bl b/\P (.bl !b) Δ1):JE K (tNotV ta) Δ P:=λg G H σ Q k c=>
 h g G H σ _ k λv d G1 H1 Δ1 k1 s1 r1 hq_=>by
  obtain⟨b,e,p1⟩:=hq_;subst e;cases r1.inv;exact⟨b,rfl,c _ _ G1 H1 Δ1 k1 s1 (.bl !b) p1⟩
theorem Zm1 {to te:TE}(h:JE K to Δ λd Δ1=>∃ns:List Int,d=.tup (ns.map D.int)/\JE K te Δ1 λe Δ2=>∃i j,e=.int i/\ns[j]?=some i/\(∀m,m<j->ns[m]?≠some i)/\P (.int (j:Nat)) Δ2) :
  JE K (tBM K "tuple" (rIndexT K) to<|tCons te tNil) Δ P:=λg G H σ Q k c=>
 h g G H σ _ k λv d G1 H1 Δ1 k1 s1 r1 hq_=>by
  obtain⟨ns,e,p1⟩:=hq_;subst e;obtain⟨a,vs,rfl,ha,rs⟩:=r1.inv
  next=>
   refine⟨.inr (.inl ⟨rfl,.inr ⟨_,k1.live _ _ ha⟩⟩),p1 g G1 H1 σ _ k1 λu e G2 H2 Δ2 k2 s2 r2 ⟨i,j,q1,q2,q3,p⟩=>?_⟩;subst q1;cases r2.inv;have ev:vs=ns.map V.int:=rs.ints;subst ev;have hj:j<ns.length:=(Wap.mp q2).1;refine⟨a,_,.int i,j,rfl,rfl,SqT.of<|k2.live _ _<|s2 _ _ ha,rfl,?_,by simpa using hj,⟨.int i,by rw[Waj,q2];rfl,by simp[eqV]⟩,λm z hm hz=>?_,c _ _ G2 H2 Δ2 k2 (s1.trans s2) (.int _) p⟩
   ·rw[List.all_map];exact Waw.mpr λ_ _=>rfl
   ·rw[Waj]at hz
    cases e:ns[m]? with
    |none=>rw[e]at hz;cases hz
    |some w=>
     rw[e]at hz;have hz:V.int w=z:=by simpa using hz
     subst hz;have hne:w≠i:=λq=>q3 m hm (by rw[e,q]);show (w == i)=false;exact beq_eq_false_iff_ne.mpr hne
end
section
variable {K:W.Frag}{g:Gm}{G H:Hp}{σ:St}{Δ:Evt}
theorem Ok.setVal' (k:Ok K g G H σ Δ) {v:V}{d:D}(i:Nat) (r:Rep K G v d):Ok K g G H (σ.set i<|some v) (Δ.set i (.val d)):=by
 by_cases hi:i < Δ.length
 ·exact k.setVal hi r
 ·have hl:=k.len
  rw[Wb5 (l:=σ) (by omega),Wb5 (l:=Δ) (by omega)];exact k
theorem Ok.setOwn' (k:Ok K g G H σ Δ) {a:Addr}{od:OD}(i:Nat) (p:Pend K g G H σ Δ a od):Ok K g G H (σ.set i<|some (.ref a)) (Δ.set i (.own od)):=by
 by_cases hi:i < Δ.length
 ·exact k.setOwn hi p
 ·have hl:=k.len
  rw[Wb5 (l:=σ) (by omega),Wb5 (l:=Δ) (by omega)];exact k
theorem Zs2 {te:TE}{i:Nat}{P:Pst}(h:JE K te Δ λd Δ1=>P.nx (Δ1.set i (.val d))):JS K (tAsg te<|gName i) Δ P:=λg G H σ E k c=>
 h g G H σ _ k λv d G1 H1 Δ1 k1 s1 r1 p1=>c.nx _ G1 H1 _ (k1.setVal' i r1) p1
theorem Zq1 {te:TE}{i:Nat}{P:Pst}(h:JO K te Δ λod Δ1=>P.nx (Δ1.set i (.own od))):JS K (tAsg te<|gName i) Δ P:=λg G H σ E k c=>
 h g G H σ _ k λa od G1 H1 Δ1 k1 s1 pd p1=>c.nx _ G1 H1 _ (k1.setOwn' i pd) p1
theorem Zpm {i j:Nat}{ta:TA}{P:Pst}(h:JA K ta Δ λds Δ1=>∃d e,ds=[d,e]/\P.nx ((Δ1.set i (.val d)).set j (.val e))):JS K (tPar i j ta) Δ P:=λg G H σ E k c=>
 h g G H σ _ k λvs ds G1 H1 Δ1 k1 s1 r1 hq_=>by
  obtain⟨d,e,hd,p1⟩:=hq_;subst hd;obtain⟨_,_,rfl,ra,rr⟩:=r1.inv
  next=>
   obtain⟨_,_,rfl,rb,rr⟩:=rr.inv
   next=>
    cases rr.inv;exact⟨_,_,rfl,c.nx _ G1 H1 _ ((k1.setVal' i ra).setVal' j rb) p1⟩
theorem Zb3 {i:Nat}{d:D}{P:Evt->Prop}(p:P (Δ.set i (.val d))):JG K (gName i) d Δ P:=λg G H σ v R k r c=>c _ G H _ (k.setVal' i r) (Same.refl _) p
theorem Zen {n i:Nat}{d:D}{P:Evt->Prop}(hn:i<n) (p:P (Δ.set i (.val d))):JGn K n (gName i) d Δ P:=λg G H σ v R k r c=>
 c _ G H _ (k.setVal' i r) (Same.refl _) (λj hj=>Wao<|by omega) p
theorem Zta {n:Nat}{te:TE}{Pp:Pst}{x:Slot}{ds0:List D}(hx:Δ[n]?=some x) (ho:x.od=some (.lst ds0))
  (h:JE K te Δ λd Δ1=>∃y ds,Δ1[n]?=some y/\y.od=some (.lst ds)/\ds.length<sizeLine/\Pp.nx (Δ1.set n<|y.put (.lst<|ds++[d]))) :
  JS K (tDrop<|tBM K "list" rAppend (tVar n)<|tCons te tNil) Δ Pp:=Zms hx ho ⟨_,rfl⟩ h
end
section
variable {K:W.Frag}{Δ:Evt}{nx bk ct:Evt->Prop}{rt:D->Evt->Prop}{ro:OD->Evt->Prop}
theorem Zaz (p:nx Δ):JS K tNext Δ ⟨nx,rt,bk,ct,ro⟩:=Zpr p
theorem Zap {t u:TS}(h:JS K t Δ ⟨λΔ1=>JS K u Δ1 ⟨nx,rt,bk,ct,ro⟩,rt,bk,ct,ro⟩):JS K (tSeq t u) Δ ⟨nx,rt,bk,ct,ro⟩:=Zos h
theorem Zby {t u:TS}(I:Evt->Prop) (h1:JS K t Δ ⟨I,rt,bk,ct,ro⟩) (h2:∀Δ1,I Δ1->JS K u Δ1 ⟨nx,rt,bk,ct,ro⟩):JS K (tSeq t u) Δ ⟨nx,rt,bk,ct,ro⟩:=
 Zos (h1.mono h2 (λ_ _ z=>z) (λ_ z=>z) (λ_ z=>z) λ_ _ z=>z)
theorem Zba {te:TE}(h:JE K te Δ rt):JS K (tRet te) Δ ⟨nx,rt,bk,ct,ro⟩:=Zs4 h
theorem Zlt {te:TE}(h:JO K te Δ ro):JS K (tRet te) Δ ⟨nx,rt,bk,ct,ro⟩:=Zpx h
theorem Zbn {c:TT}{t u:TS}(h:JT K c Δ λb Δ1=>if b=true then JS K t Δ1 ⟨nx,rt,bk,ct,ro⟩ else JS K u Δ1 ⟨nx,rt,bk,ct,ro⟩):JS K (tIfS c t u) Δ ⟨nx,rt,bk,ct,ro⟩:=Ztr h
theorem Zay {te:TE}{i:Nat}(h:JE K te Δ λd Δ1=>nx (Δ1.set i (.val d))):JS K (tAsg te<|gName i) Δ ⟨nx,rt,bk,ct,ro⟩:=Zs2 h
theorem Zhn {te:TE}{i:Nat}(h:JO K te Δ λod Δ1=>nx (Δ1.set i (.own od))):JS K (tAsg te<|gName i) Δ ⟨nx,rt,bk,ct,ro⟩:=Zq1 h
theorem Zhy {i j:Nat}{ta:TA}(h:JA K ta Δ λds Δ1=>∃d e,ds=[d,e]/\nx ((Δ1.set i (.val d)).set j (.val e))):JS K (tPar i j ta) Δ ⟨nx,rt,bk,ct,ro⟩:=Zpm h
theorem Zmf {te:TE}{t:TG}(h:JE K te Δ λd Δ1=>JG K t d Δ1 nx):JS K (tAsg te t) Δ ⟨nx,rt,bk,ct,ro⟩:=Zsi h
theorem Zmh {n:Nat}{te:TE}{x:Slot}{ds0:List D}(hx:Δ[n]?=some x) (ho:x.od=some (.lst ds0))
  (h:JE K te Δ λd Δ1=>∃y ds,Δ1[n]?=some y/\y.od=some (.lst ds)/\ds.length<sizeLine/\nx (Δ1.set n<|y.put (.lst<|ds++[d]))) :
  JS K (tDrop<|tBM K "list" rAppend (tVar n)<|tCons te tNil) Δ ⟨nx,rt,bk,ct,ro⟩:=Zta hx ho h
theorem Znd {n:Nat}{ti te:TE}(h:JE K te Δ λd Δ1=>(∃x ds,Δ1[n]?=some x/\x.od=some (.lst ds))/\JE K ti Δ1 λe Δ2=>∃x ds i j,Δ2[n]?=some x/\x.od=some (.lst ds)/\e=.int i/\ixN ds.length i=some j/\nx (Δ2.set n<|x.put (.lst<|ds.set j d))) :
  JS K (tAsg te<|gSub (tVar n) ti rSetU) Δ ⟨nx,rt,bk,ct,ro⟩:=Zld (h.mono λd Δ1 ⟨⟨x,ds,h1,h2⟩,h3⟩=>⟨⟨x,_,h1,h2⟩,h3⟩)
theorem Zez {wi:TI}{t:TG}{tb:TS}(h:JI K wi Δ λds Δ1=>∃I:Nat->Evt->Prop,I 0 Δ1/\(∀i d Δ2,ds[i]?=some d->I i Δ2->JG K t d Δ2 λΔ3=>JS K tb Δ3 ⟨I<|i+1,rt,nx,I<|i+1,ro⟩)/\∀Δ2,I ds.length Δ2->nx Δ2) :
  JS K (tFor wi t tb) Δ ⟨nx,rt,bk,ct,ro⟩:=Ztc h
end
theorem Zlh {α β:Type}{f:α -> β}{xs:List α}{i:Int}(h0:0<=i) (h1:i<(xs.length:Int)):∃c,xs[i.toNat]?=some c/\atI (xs.map f) i=some (f c):=by
 have hk:i.toNat<xs.length:=by omega
 have e:i=((i.toNat:Nat):Int):=by omega
 have q:xs[i.toNat]?=some xs[i.toNat]:=Wab hk;generalize xs[i.toNat]=c at q;refine⟨c,q,?_⟩;have z:atI (xs.map f) ((i.toNat:Nat):Int)=some (f c):=Zbj (by rw[Waj,q];rfl);rw[<- e]at z;exact z
theorem Zkf:bootBuiltins "abs" = some (.builtin "abs"):=by decide +kernel
theorem Zbg:bootBuiltins "len" = some (.builtin "len"):=by decide +kernel
theorem Zme:bootBuiltins "min" = some (.builtin "min"):=by decide +kernel
theorem Zsb:bootBuiltins "max" = some (.builtin "max"):=by decide +kernel
theorem Zae:bootBuiltins "isinstance" = some (.builtin "isinstance"):=by decide +kernel
theorem Zi9:bootBuiltins "all" = some (.builtin "all"):=by decide +kernel
theorem Ze4:bootBuiltins "sorted" = some (.builtin "sorted"):=by decide +kernel
theorem Zbr:bootBuiltins "tuple" = some (.type "tuple"):=by decide +kernel
theorem Zpt:bootBuiltins "list" = some (.type "list"):=by decide +kernel
theorem Zkz:bootBuiltins "int" = some (.type "int"):=by decide +kernel
theorem Zmj:bootBuiltins "bool" = some (.type "bool"):=by decide +kernel
theorem Ze6:bootBuiltins "str" = some (.type "str"):=by decide +kernel
theorem Ztd:bootBuiltins "zip" = some (.type "zip"):=by decide +kernel
structure Callee (P:Program) (w:World) (K:W.Frag) (mg:Str->Option Value) (base:Heap) (k:Nat) (x:Str) (ps:List Str) (sp:Sp):Prop where
 ex:∃(f:Addr) (fd:FuncData),FnOk P w K mg base CX0 k f fd ps sp/\Binds K fd ps []/\W.keepIn K (.ref f)=true/\mg x=some (.ref f)
section
variable {X:Cx}{k:Nat}{x:Str}{ps:List Str}{sp:Sp}{e:Expr}{es:List Expr}{t:TA}{p pos:Pos}
theorem Za8 (C:Callee X.prog X.w X.K X.mg X.base k x ps sp) (hr:Room k X.A) (ha:PA X (e::es) t) (hg:Gl X x:=by rfl) (hdb:(x == ("__debug__":Str))=false:=by decide)
  (he:starEach (e::es) X.env=(false,eval e X.env)::starEach es X.env:=by rfl) (hpl:(backTo pos<|starEach es X.env).any (·.1)=false:=by rfl):PE X (.Call (.Name x p) (e::es) [] pos) (tCall sp [] E0 t):=by
 obtain⟨f,fd,F,b,kp,m⟩:=C.ex;exact Zpd F hr hg m kp b .nil pass0 ha hdb he hpl
end
def fixD (sel:List Nat) (Δ:Evt):Evt:=sel.map λi=>(Δ[i]?).getD .any
theorem Zc2 {n:Nat}{sel:List Nat}{ts Δ:Evt}(ht:ts.length=n):backD n sel (ts++fixD sel Δ) 0 Δ = Δ:=by
 apply Wcf;intro i;rw[Zcp];cases q:Δ[i]? with
 |none=>rfl
 |some x=>
  show some (backAt n sel (ts++fixD sel Δ) (0+i) x)=some x;congr 1;rw[Wc2];have key:∀j,sel.idxOf? i=some j->(ts++fixD sel Δ)[n+j]?=some x:=λj hj=>by
   rw[Wa1 (by omega),ht,Wcw];unfold fixD;rw[Waj,Zdk hj];show some ((Δ[i]?).getD .any)=_;rw[q];rfl
  unfold backAt;cases x with
  |any=>rfl
  |val d=>rfl
  |own o=>
   dsimp only;cases e:sel.idxOf? i with
   |none=>rfl
   |some j=>dsimp only;rw[key j e]
  |bor o=>
   dsimp only;cases e:sel.idxOf? i with
   |none=>rfl
   |some j=>dsimp only;rw[key j e]
  |ownA a o=>
   dsimp only;cases e:sel.idxOf? i with
   |none=>rfl
   |some j=>dsimp only;rw[key j e]
section
variable {K:W.Frag}{Δ:Evt}{P:D->Evt->Prop}
theorem Zcg {sel:List Nat}{wi:TI}{tc:TT}{te:TE}(hsel:sel.Nodup)
  (h:JI K wi Δ λds Δ1=>ds.length<sizeLine/\∃(p:D->Bool) (f:D->D),
   (∀(i:Nat) d,ds[i]?=some d->JT K tc (.val d::fixD sel Δ1) λb Δ4=>b=p d/\if b=true then JE K te Δ4 λe Δ5=>e=f d/\∃x,Δ5=x::fixD sel Δ1 else ∃x,Δ4=x::fixD sel Δ1) ∧
   P (.lst ((ds.filter p).map f)) Δ1):JE K (tComp 1 sel wi (gName 0) tc te) Δ P:=by
 refine Ziu hsel λg G H σ R k c=>h g G H σ R k λJ ds G' H' Δ' k' s' it ⟨z,p,f,ht,he⟩=>c J ds G' H' Δ' k' s' it ⟨z,fixD sel Δ',p,f,rfl,λi d ts hd hts=>?_,?_⟩
 ·refine Zen (by decide) ?_
  obtain⟨x,rfl⟩:∃x,ts=[x]:=by
   match ts,hts with
   |[x],_=>exact⟨x,rfl⟩
  intro g G H σ Q k c;refine ht i d hd g G H σ Q k λb G1 H1 Δ1 k1 s1 ⟨e1,q⟩=>c b G1 H1 Δ1 k1 s1 ⟨e1,?_⟩;cases b with
  |true=>
   rw[if_pos rfl]at q ⊢;exact q.mono λe Δ5 ⟨e2,x,e3⟩=>⟨e2,[x],rfl,e3⟩
  |false=>
   rw[if_neg Wai]at q ⊢;obtain⟨x,e3⟩:=q;exact⟨[x],rfl,e3⟩
 ·rw[Zc2 (by simp)];exact he
theorem Zn7 {sel:List Nat}{wi:TI}{tc:TT}{te:TE}{Po:OD->Evt->Prop}(hsel:sel.Nodup)
  (h:JI K wi Δ λds Δ1=>ds.length<sizeLine/\∃(p:D->Bool) (f:D->D),
   (∀(i:Nat) d,ds[i]?=some d->JT K tc (.val d::fixD sel Δ1) λb Δ4=>b=p d/\if b=true then JE K te Δ4 λe Δ5=>e=f d/\∃x,Δ5=x::fixD sel Δ1 else ∃x,Δ4=x::fixD sel Δ1) ∧
   Po (.lst ((ds.filter p).map f)) Δ1):JO K (tComp 1 sel wi (gName 0) tc te) Δ Po:=by
 refine Zkb hsel λg G H σ R k c=>h g G H σ R k λJ ds G' H' Δ' k' s' it ⟨z,p,f,ht,he⟩=>c J ds G' H' Δ' k' s' it ⟨z,λi ys Δ=>ys=((ds.take i).filter p).map f/\∃x,Δ = x::fixD sel Δ',⟨by simp,.any,rfl⟩,?_,?_⟩
 ·rintro i d ys Δ2 hd ⟨rfl,x,rfl⟩
  have tk:ds.take (i+1)=ds.take i++[d]:=by
   rw[Wcd,hd];rfl
  refine Zen (by decide) ?_;intro g G H σ Q k c;refine ht i d hd g G H σ Q k λb G1 H1 Δ1 k1 s1 ⟨e1,q⟩=>c b G1 H1 Δ1 k1 s1 ?_;cases b with
  |true=>
   rw[if_pos rfl]at q ⊢;refine q.mono λe Δ5 ⟨e2,x,e3⟩=>⟨?_,x,e3⟩;rw[tk,Wbt,Wa8,Wbr,<- e1,e2];rfl
  |false=>
   rw[if_neg Wai]at q ⊢;obtain⟨x,e3⟩:=q;refine⟨?_,x,e3⟩;rw[tk,Wbt,Wa8,Wbr,<- e1];simp
 ·rintro ys Δ2 ⟨rfl,x,rfl⟩
  rw[Wcx,show (x::fixD sel Δ')=[x]++fixD sel Δ' from rfl,Zc2 (by simp)];exact he
theorem Zi8 {sel:List Nat}{wi:TI}{tc:TT}{te:TE}(hsel:sel.Nodup)
  (h:JI K wi Δ λds Δ1=>ds.length<sizeLine/\∃(p:D->Bool) (f:D->D),
   (∀(i:Nat) d,ds[i]?=some d->∃a b,d=.tup [a,b]/\JT K tc (.val a::.val b::fixD sel Δ1) λt Δ4=>t=p d/\if t=true then JE K te Δ4 λe Δ5=>e=f d/\∃x y,Δ5=x::y::fixD sel Δ1 else ∃x y,Δ4=x::y::fixD sel Δ1) ∧
   P (.lst ((ds.filter p).map f)) Δ1):JE K (tComp 2 sel wi (gTup K 2 (gCons (gName 0) (gCons (gName 1) gNil))) tc te) Δ P:=by
 refine Ziu hsel λg G H σ R k c=>h g G H σ R k λJ ds G' H' Δ' k' s' it ⟨z,p,f,ht,he⟩=>c J ds G' H' Δ' k' s' it ⟨z,fixD sel Δ',p,f,rfl,λi d ts hd hts=>?_,?_⟩
 ·obtain⟨a,b,rfl,hj⟩:=ht i d hd
  refine Zpp rfl<|Zgm<|Zen (by decide)<|Zgm<|Zen (by decide)<|Znz ?_;obtain⟨x,y,rfl⟩:∃x y,ts=[x,y]:=by
   match ts,hts with
   |[x,y],_=>exact⟨x,y,rfl⟩
  intro g G H σ Q k c;refine hj g G H σ Q k λb G1 H1 Δ1 k1 s1 ⟨e1,q⟩=>c b G1 H1 Δ1 k1 s1 ⟨e1,?_⟩;cases b with
  |true=>
   rw[if_pos rfl]at q ⊢;exact q.mono λe Δ5 ⟨e2,x,y,e3⟩=>⟨e2,[x,y],rfl,e3⟩
  |false=>
   rw[if_neg Wai]at q ⊢;obtain⟨x,y,e3⟩:=q;exact⟨[x,y],rfl,e3⟩
 ·rw[Zc2 (by simp)];exact he
end
def tGhost (base:Nat) (t:TS):TS:=λE σ H=>t { E with nx:=λσ' H'=>∃σ2:St,σ2.length = σ'.length/\(∀i,i<base -> σ2[i]? = σ'[i]?)/\E.nx σ2 H' } σ H
theorem Znt {X:Cx}{st:Stmt}{t:TS}(base:Nat) (hv:∀x∈X.N.drop base,X.env.scope.names.lookup x=none) (h:PS X st t):PS X st (tGhost base t):=by
 intro pins s σ H E I hw;refine thn (h pins s σ H _ I hw) λf s1 q=>?_;cases f with
 |next=>
  obtain⟨σ',H',I',σ2,hl,hs,q⟩:=q;refine⟨σ2,H',⟨I'.ok,I'.os,I'.bare,I'.base,?_,I'.cell,I'.free,I'.freeC,I'.pin,I'.hok,hl.trans I'.len⟩,q⟩;obtain⟨m,hn,hl'⟩:=I'.loc;refine⟨m,hn,λi x v e1 e2 e3=>?_⟩;by_cases hi:i<base
  ·rw[hs i hi]at e2;exact hl' i x v e1 e2 e3
  ·have hm:x∈X.N.drop base:=by
    refine Waz (i:=i-base) ?_;rw[List.getElem?_drop,show base+(i-base)=i by omega];exact e1
   have z:=hv x hm;rcases e3 with w|w|w <;> (rw[z]at w;cases w)
 |ret v=>exact q
 |brk=>exact q
 |cont=>exact q
def Nest (K:W.Frag) (g:Gm) (G H:Hp) (σ:St) (Δ:Evt) (cs:List (Addr × HO)) (ods:List OD):Prop:=
 (cs.map (·.1)).Nodup/\Paired (λ(c:Addr × HO) (od:OD)=>OwnRep K G c.2 od) cs ods/\∀c∈cs,H c.1=some c.2/\G c.1=none/\g.Hz c.1=none/\g.Xo c.1=none/\∀(i:Nat) x od',Δ[i]?=some x->x.od=some od' -> σ[i]?≠some (some (.ref c.1))
def JN (K:W.Frag) (t:TE) (Δ:Evt) (P:List OD->Evt->Prop):Prop:=
 ∀g G H σ Q,Ok K g G H σ Δ -> (∀acc cs ods G' H' Δ',Ok K g G' H' σ Δ' -> Same G G' -> Rep K G' (.ref acc) (.lst (cs.map λ(c:Addr × HO)=>D.adr c.1))->g.Hz acc=none->Nest K g G' H' σ Δ' cs ods->P ods Δ' -> Q (.ref acc) H')->t σ H Q
section
variable {K:W.Frag}{Δ:Evt}
def cellAt (cs:List (Addr × HO)) (b:Addr):Option HO:=(cs.find? λc=>decide (c.1=b)).map (·.2)
theorem Zdg {cs:List (Addr × HO)}{b:Addr}:cellAt cs b=none ↔ ∀c∈cs,c.1≠b:=by
 unfold cellAt;rw[Option.map_eq_none_iff,List.find?_eq_none];constructor
 ·intro h c hc e;exact h c hc<|decide_eq_true e
 ·intro h c hc e;exact h c hc<|of_decide_eq_true e
theorem Zfh {cs:List (Addr × HO)}(nd:(cs.map (·.1)).Nodup) {c:Addr × HO}(hc:c∈cs):cellAt cs c.1=some c.2:=by
 induction cs with
 |nil=>cases hc
 |cons d r ih=>
  rw[Wav,Wb8]at nd;unfold cellAt;rcases Wah.mp hc with e|hc
  ·subst e;simp
  ·have hne:d.1≠c.1:=λe=>nd.1 (by rw[e];exact Wax.mpr ⟨c,hc,rfl⟩)
   rw[List.find?_cons_of_neg (by simpa using hne)];exact ih nd.2 hc
open Classical in
noncomputable def asideN (g:Gm) (sel:List Nat) (σ:St) (Δ:Evt) (H:Hp) (acc:Addr) (cs:List (Addr × HO)):Hp:=λb=>
 if b=acc then some (.lst (cs.map λc=>V.ref c.1)) else match cellAt cs b with
  |some o=>some o
  |none=>if ∃(i:Nat) (x:Slot) (od:OD),Δ[i]?=some x/\x.od=some od/\i ∉ sel /\ σ[i]?=some (some (.ref b)) then H b else g.Xo b
theorem Zcl {g:Gm}{sel:List Nat}{σ:St}{Δ:Evt}{H:Hp}{acc:Addr}{cs:List (Addr × HO)}:asideN g sel σ Δ H acc cs acc=some (.lst (cs.map λc=>V.ref c.1)):=by unfold asideN;rw[if_pos rfl]
theorem Zb2 {g:Gm}{sel:List Nat}{σ:St}{Δ:Evt}{H:Hp}{acc b:Addr}{o:HO}{cs:List (Addr × HO)}(hb:b≠acc) (e:cellAt cs b=some o):asideN g sel σ Δ H acc cs b=some o:=by unfold asideN;rw[if_neg hb,e]
theorem Zcq {g:Gm}{sel:List Nat}{σ:St}{Δ:Evt}{H:Hp}{acc b:Addr}{cs:List (Addr × HO)}(hb:b≠acc) (e:cellAt cs b=none) (hx:∃(i:Nat) (x:Slot) (od:OD),Δ[i]?=some x/\x.od=some od/\i ∉ sel /\ σ[i]?=some (some (.ref b))):asideN g sel σ Δ H acc cs b=H b:=by
 unfold asideN;rw[if_neg hb,e];exact if_pos hx
theorem Zcb {g:Gm}{sel:List Nat}{σ:St}{Δ:Evt}{H:Hp}{acc b:Addr}{cs:List (Addr × HO)}(hb:b≠acc) (e:cellAt cs b=none) (hx:¬ ∃(i:Nat) (x:Slot) (od:OD),Δ[i]?=some x/\x.od=some od/\i ∉ sel /\ σ[i]?=some (some (.ref b))):asideN g sel σ Δ H acc cs b=g.Xo b:=by
 unfold asideN;rw[if_neg hb,e];exact if_neg hx
theorem Zqr {n:Nat}{sel:List Nat}{wi:TI}{t:TG}{tc:TT}{te:TE}{P:List OD->Evt->Prop}(hsel:sel.Nodup)
  (h:JI K wi Δ λds Δ1=>ds.length<sizeLine/\∃I:Nat->List OD->Evt->Prop,I 0 [] (compD n sel Δ1) ∧
   (∀i d ys Δ2,ds[i]?=some d->I i ys Δ2->JGn K n t d Δ2 λΔ3=>JT K tc Δ3 λb Δ4=>if b=true then JO K te Δ4 λe Δ5=>I (i+1) (ys++[e]) Δ5 else I (i+1) ys Δ4) ∧
   ∀ys Δ2,I ds.length ys Δ2->P ys (backD n sel Δ2 0 Δ1)):JN K (tComp n sel wi t tc te) Δ P:=λg G H σ Q k c=>
 h g G H σ _ k λJ ds G1 H1 Δ1 k1 s1 it ⟨hz,I,h0,ht,he⟩ acc hacc=>by
  have nacc:∀(i:Nat) x od,Δ1[i]?=some x->x.od=some od -> σ[i]?≠some (some (.ref acc)):=λi x od e1 e2 e3=>by
   obtain⟨a,o,w1,w2,_⟩:=k1.own i x od e1 e2;rw[e3]at w1;cases w1;rw[hacc]at w2;cases w2
  let Wd:Nat->St->Hp->Prop:=λi σ' H'=>i<=ds.length/\(∀j,n<=j -> σ'[j]?=(compSt n sel σ)[j]?)/\∃G ys cs Δi,cs.length<=i/\(cs.map (·.1)).Nodup/\(∀c∈cs,c.1≠acc/\g.Hz c.1=none/\g.Xo c.1=none/\∀(i:Nat) x od,Δ1[i]?=some x->x.od=some od->i ∉ sel -> σ[i]?≠some (some (.ref c.1)))/\Paired (λ(c:Addr × HO) (od:OD)=>OwnRep K G c.2 od) cs ys ∧
   Ok K ⟨g.B,G1,g.Hz,asideN g sel σ Δ1 H1 acc cs⟩ G H' σ' Δi/\I i ys Δi
  refine⟨λi m σ' H'=>m=ds.length-i/\Wd i σ' H',⟨ds.length,by simp,Wbn _,λ_ _=>rfl,G1,[],[],compD n sel Δ1,Waf _,List.nodup_nil,λc hc=>(nomatch hc),.nil,?_,h0⟩,?_⟩
  ·refine Zfl hsel k1 hacc λb o e=>?_
   have e:asideN g sel σ Δ1 H1 acc [] b=some o:=e;by_cases hb:b=acc
   ·subst hb;rw[Zcl]at e;cases e;exact .inl ⟨rfl,rfl⟩
   ·by_cases hx:∃(i:Nat) (x:Slot) (od:OD),Δ1[i]?=some x/\x.od=some od/\i ∉ sel /\ σ[i]?=some (some (.ref b))
    ·rw[Zcq hb rfl hx]at e;exact .inr ⟨hb,.inl ⟨hx,e⟩⟩
    ·rw[Zcb hb rfl hx]at e;exact .inr ⟨hb,.inr e⟩
  ·rintro i m σ2 H2 ⟨rfl,hi,hσ,G2,ys,cs,Δ2,hy,nd,hcs,ry,k2,h2⟩
   have s2:Same G1 G2:=k2.sub;obtain⟨stop,go⟩:=it G2 H2 s2 k2.live;by_cases hlt:i<ds.length
   ·obtain⟨g1,g2⟩:=go i _ (Wab hlt)
    refine .inr ⟨g1,λσ' H'=>Wd (i+1) σ' H',λσ' H' p'=>⟨ds.length-(i+1),by omega,rfl,p'⟩,λx H3 y=>?_⟩;obtain⟨G3,a1,a2,a3,a4⟩:=g2 x H3 y;have k3:=k2.grow a1 a2 a3;have hG3:∀b o,G3 b=some o->(g.Hz b=none\/G1 b=some o):=λb o q=>(k3.frz b o q).2;have k3':Ok K ⟨g.B,G3,g.Hz,asideN g sel σ Δ1 H1 acc cs⟩ G3 H3 σ2 Δ2:=⟨k3.same,k3.lent,Same.refl _,λb o q=>⟨(k3.frz b o q).1,.inr q⟩,k3.ext,k3.len,k3.val,k3.own,k3.dis⟩;have ry3:Paired (λ(c:Addr × HO) (od:OD)=>OwnRep K G3 c.2 od) cs ys:=Paired.mapP ry λ_ _ z=>z.mono a1;have s13:Same G1 G3:=s2.trans a1;refine ht i _ ys Δ2 (Wab hlt) h2 ⟨g.B,G3,g.Hz,asideN g sel σ Δ1 H1 acc cs⟩ G3 H3 σ2 x _ k3' a4 λσ4 G4 H4 Δ4 k4 s4 e4 p4=>?_;have hσ4:∀j,n<=j -> σ4[j]?=(compSt n sel σ)[j]?:=λj hj=>(e4 j hj).trans (hσ j hj);refine p4 _ G4 H4 σ4 _ k4 λb G5 H5 Δ5 k5 s5 p5=>?_;cases b with
    |false=>exact⟨hlt,hσ4,G5,ys,cs,Δ5,by omega,nd,hcs,Paired.mapP ry3 λ_ _ z=>z.mono (s4.trans s5),k5.base s13 hG3,p5⟩
    |true=>
     refine(show JO K te Δ5 _ from p5) _ G5 H5 σ4 _ k5 λa od G6 H6 Δ6 k6 s6 pd p6=>?_;have ry6:Paired (λ(c:Addr × HO) (od:OD)=>OwnRep K G6 c.2 od) cs ys:=Paired.mapP ry3 λ_ _ z=>z.mono<|s4.trans<|s5.trans s6;obtain⟨b1,b2,b3⟩:=k6.ext acc _ Zcl;obtain⟨oa,d1,d2,d3,d4,d5,d6⟩:=pd;have d5:asideN g sel σ Δ1 H1 acc cs a=none:=d5;have hane:a≠acc:=by intro z;subst z;rw[Zcl]at d5;cases d5
     have hac:cellAt cs a=none:=by
      cases q:cellAt cs a with
      |none=>rfl
      |some o=>rw[Zb2 hane q]at d5;cases d5
     have hax:∀(i:Nat) x od,Δ1[i]?=some x->x.od=some od->i ∉ sel -> σ[i]?≠some (some (.ref a)):=λi x od e1 e2 e3 e4=>by
      rw[Zcq hane hac ⟨i,x,od,e1,e2,e3,e4⟩]at d5;obtain⟨a',o',w1,w2,_⟩:=k1.own i x od e1 e2;rw[e4]at w1;cases w1;rw[d5]at w2;cases w2
     have hagx:g.Xo a=none:=by
      rw[Zcb hane hac (λ⟨i,x,od,e1,e2,e3,e4⟩=>hax i x od e1 e2 e3 e4)]at d5;exact d5
     have hnm:=Zdg.mp hac;refine⟨cs.map λc=>V.ref c.1,b1,by rw[Wac];omega,hlt,hσ4,G6,ys++[od],cs++[(a,oa)],Δ6,by rw[War,Wbs];omega,?_,λc hc=>?_,Paired.snoc ry6 d2,?_,p6⟩
     ·rw[Wa8]
      refine List.nodup_append.mpr ⟨nd,by simp,λx hx y hy=>?_⟩;rw[List.map_singleton,Wbe]at hy;subst hy;obtain⟨c,hc,rfl⟩:=Wax.mp hx;exact hnm c hc
     ·rcases Wa7.mp hc with hc|hc
      ·exact hcs c hc
      ·rw[Wbe.mp hc];exact⟨hane,d4,hagx,hax⟩
     ·have k7:=k6.base s13 hG3
      have nd':((cs++[(a,oa)]).map (·.1)).Nodup:=by
       rw[Wa8];refine List.nodup_append.mpr ⟨nd,by simp,λx hx y hy=>?_⟩;rw[List.map_singleton,Wbe]at hy;subst hy;obtain⟨c,hc,rfl⟩:=Wax.mp hx;exact hnm c hc
      have er:(cs++[(a,oa)]).map (λc=>V.ref c.1)=(cs.map λc=>V.ref c.1)++[V.ref a]:=by simp
      have oldH:∀b o,b≠acc->H6 b=some o->(upd H6 acc (.lst ((cs.map λc=>V.ref c.1)++[V.ref a]))) b=some o:=λb o hb e=>by rw[Zaj hb];exact e
      refine⟨λb o hb e=>?_,λb hb=>?_,k7.sub,λb o e=>?_,λb o e=>?_,k7.len,k7.val,λi x od e1 e2=>?_,k7.dis⟩
      ·have hne:b≠acc:=by
        intro z;subst z;have e:g.Hz b=some o:=e;rw[k1.there hacc]at e;cases e
       exact oldH b o hne<|k7.same b o hb e
      ·by_cases hne:b=acc
       ·subst hne;rw[Zal];intro z;cases z
       ·rw[Zaj hne];exact k7.lent b hb
      ·have hne:b≠acc:=by intro z;subst z;rw[b2]at e;cases e
       exact⟨oldH b o hne (k7.frz b o e).1,(k7.frz b o e).2⟩
      ·have e:asideN g sel σ Δ1 H1 acc (cs++[(a,oa)]) b=some o:=e
       by_cases hne:b=acc
       ·subst hne
        rw[Zcl,er]at e;cases e;exact⟨Zal,b2,b3⟩
       ·by_cases hba:b=a
        ·subst hba
         rw[Zb2 hne (Zfh nd' (c:=(b,oa))<|Wa3 _<|Wbe.mpr rfl)]at e;cases e;exact⟨oldH b _ hne d1,d3,d6⟩
        ·have ec:cellAt (cs++[(a,oa)]) b=cellAt cs b:=by
          unfold cellAt;rw[List.find?_append];cases (cs.find? λc=>decide (c.1=b)) with
          |some c=>rfl
          |none=>
           rw[List.find?_cons_of_neg (by simpa using Ne.symm hba)];rfl
         have e':asideN g sel σ Δ1 H1 acc cs b=some o:=by
          cases q:cellAt cs b with
          |some o'=>rw[Zb2 hne (ec.trans q)]at e;rw[Zb2 hne q];exact e
          |none=>
           by_cases hx:∃(i:Nat) (x:Slot) (od:OD),Δ1[i]?=some x/\x.od=some od/\i ∉ sel /\ σ[i]?=some (some (.ref b))
           ·rw[Zcq hne (ec.trans q) hx]at e;rw[Zcq hne q hx];exact e
           ·rw[Zcb hne (ec.trans q) hx]at e;rw[Zcb hne q hx];exact e
         obtain⟨w1,w2,w3⟩:=k7.ext b o e';exact⟨oldH b o hne w1,w2,w3⟩
      ·obtain⟨a',o,w1,w2,w3,w4,w5⟩:=k7.own i x od e1 e2
       have hne:a'≠acc:=by intro z;subst z;exact b3 i x od e1 e2 w1
       exact⟨a',o,w1,oldH a' o hne w2,w3,w4,w5⟩
   ·have e:i=ds.length:=by omega
    subst e;refine .inl ⟨stop,?_⟩;obtain⟨b1,b2,b3⟩:=k2.ext acc _ Zcl;have src:=Zfy (Δ1:=Δ1) (Δ2:=Δ2) hσ;have k9:Ok K g G2 H2 σ (backD n sel Δ2 0 Δ1):=Zfd k1 hacc k2 hσ (λb o hb hx e=>by
      show asideN g sel σ Δ1 H1 acc cs b=_;rw[Zcq hb (Zdg.mpr λc hc z=>?_) hx]
      ·exact e
      ·obtain⟨i0,x0,od0,f1,f2,f3,f4⟩:=hx
       exact(hcs c hc).2.2.2 i0 x0 od0 f1 f2 f3 (by rw[z];exact f4)) (λb o hb hx e=>by
      show asideN g sel σ Δ1 H1 acc cs b=_;rw[Zcb hb (Zdg.mpr λc hc z=>?_) hx]
      ·exact e
      ·have:=(hcs c hc).2.2.1;rw[z,e]at this;cases this)
    -- the outer list is frozen
    have nslot:∀(i:Nat) y od,(backD n sel Δ2 0 Δ1)[i]?=some y->y.od=some od -> σ[i]?≠some (some (.ref acc)):=λi y od e1 e2=>by
     obtain⟨x',od1,f1,f2,_⟩:=src i y od e1 e2;exact nacc i x' od1 f1 f2
    have refs:∀{G:Hp}(l:List (Addr × HO)),Reps K G (l.map λc=>V.ref c.1) (l.map λc=>D.adr c.1):=λ{G} l=>by
     induction l with
     |nil=>exact .nil
     |cons c r ih=>exact .cons (.adr _) ih
    have gX:g.Xo acc=none:=by
     cases q:g.Xo acc with
     |none=>rfl
     |some u=>have z:=(k1.ext acc u q).1;rw[hacc]at z;cases z
    obtain⟨kf,sf,rf⟩:=k9.freeze (a:=acc) (ds:=cs.map λ(c:Addr × HO)=>D.adr c.1) (vs:=cs.map λ(c:Addr × HO)=>V.ref c.1) ⟨_,b1,(show Reps K G2 (cs.map λ(c:Addr × HO)=>V.ref c.1) (cs.map λ(c:Addr × HO)=>D.adr c.1) from refs cs),b2,k1.there hacc,gX,nslot⟩ b1;refine c acc cs ys _ H2 _ kf (s1.trans<|s2.trans sf) rf (k1.there hacc) ⟨nd,Paired.mapP ry λ_ _ z=>z.mono sf,λcc hc=>?_⟩<|he ys Δ2 h2;obtain⟨f1,f2,f3,f4⟩:=hcs cc hc;obtain⟨u1,u2,u3⟩:=k2.ext cc.1 cc.2<|Zb2 f1<|Zfh nd hc;refine⟨u1,by rw[Zaj f1];exact u2,f2,f3,λi y od e1 e2 e3=>?_⟩;obtain⟨x,od',w1,w2,w3⟩:=src i y od e1 e2;rcases w3 with ⟨w3,w4⟩|⟨j,w3,w4,w5⟩
    ·exact f4 i x od' w1 w2 w4 e3
    ·exact u3 (n+j) y od w4 e2 (by rw[w5,e3];rfl)
def putN:Nat->List (Addr × OD)->Evt->Evt
 |_,[],Δ=>Δ
 |b,c::r,Δ=>putN (b+1) r (Δ.set b (.ownA c.1 c.2))
def putS:Nat->List Addr->St->St
 |_,[],σ=>σ
 |b,a::r,σ=>putS (b+1) r (σ.set b (some (.ref a)))
theorem Zjf:∀(as:List Addr) (b:Nat) (σ:St),(putS b as σ).length = σ.length
 |[],_,_=>rfl
 |a::r,b,σ=>by rw[putS,Zjf r (b+1),Wb9]
theorem Zfr:∀(as:List Addr) (b:Nat) (σ:St) (i:Nat),i<b->(putS b as σ)[i]? = σ[i]?
 |[],_,_,_,_=>rfl
 |a::r,b,σ,i,h=>by rw[putS,Zfr r (b+1) _ i (by omega),Wao (by omega)]
theorem Ok.setOwnA {g:Gm}{G H:Hp}{σ:St}(k:Ok K g G H σ Δ) {a:Addr}{od:OD}{i:Nat}(hi:i < Δ.length) (p:Pend K g G H σ Δ a od):Ok K g G H (σ.set i<|some (.ref a)) (Δ.set i (.ownA a od)):=by
 have k1:=k.setOwn hi p;obtain⟨o,p1,p2,p3,p4,p5,p6⟩:=p;have hs:i < σ.length:=by rw[<- k.len];exact hi
 have old:∀(j:Nat) x,j≠i->(Δ.set i (.ownA a od))[j]?=some x->(Δ.set i (.own od))[j]?=some x:=λj x hj e=>by
  rw[Wao (Ne.symm hj)]at e ⊢;exact e
 have cv:∀(j:Nat) x od',(Δ.set i (.ownA a od))[j]?=some x->x.od=some od' -> ∃y,(Δ.set i (.own od))[j]?=some y/\y.od=some od':=λj x od' e1 e2=>by
  by_cases hj:j=i
  ·subst hj
   rw[Wam hi]at e1;cases e1;cases e2;exact⟨.own od,Wam hi,rfl⟩
  ·exact⟨x,old j x hj e1,e2⟩
 refine⟨k1.same,k1.lent,k1.sub,k1.frz,λb u e=>?_,by simp[k.len],λj d e=>?_,λj x od' e1 e2=>?_,λj l x y od1 od2 c e1 e2 e3 e4 e5 e6=>?_⟩
 ·obtain⟨h1,h2,h3⟩:=k1.ext b u e
  refine⟨h1,h2,λj x od' e1 e2=>?_⟩;obtain⟨y,f1,f2⟩:=cv j x od' e1 e2;exact h3 j y od' f1 f2
 ·by_cases hj:j=i
  ·subst hj
   rw[Wam hi]at e;cases e
  ·exact k1.val j d<|old j _ hj e
 ·by_cases hj:j=i
  ·subst hj
   rw[Wam hi]at e1;cases e1;cases e2;exact⟨a,o,Wam hs,p1,p2,p3,rfl,p4⟩
  ·exact k1.own j x od' (old j x hj e1) e2
 ·obtain⟨x',f1,f2⟩:=cv j x od1 e1 e2
  obtain⟨y',f3,f4⟩:=cv l y od2 e3 e4;exact k1.dis j l x' y' od1 od2 c f1 f2 f3 f4 e5 e6
theorem Ok.putN {g:Gm}{G H:Hp}:∀(cs:List (Addr × HO)) (ods:List OD) (b:Nat) (σ:St) (Δ:Evt),Ok K g G H σ Δ -> b+ods.length <= Δ.length->Nest K g G H σ Δ cs ods →
  Ok K g G H (putS b (cs.map (·.1)) σ) (L2.putN b ((cs.map (·.1)).zip ods) Δ)
 |[],[],_,_,_,k,_,_=>k
 |[],_::_,_,_,_,_,_,n=>by cases n.2.1
 |_::_,[],_,_,_,_,_,n=>by cases n.2.1
 |c::cs,od::ods,b,σ,Δ,k,hl,⟨nd,pr,al⟩=>by
  cases pr with
  |cons r t=>
   obtain⟨h1,h2,h3,h4,h5⟩:=al c Waq;rw[Wav,Wb8]at nd;have hb:b < Δ.length:=by rw[Wak]at hl;omega
   have k1:=k.setOwnA hb ⟨c.2,h1,r,h2,h3,h4,h5⟩;refine Ok.putN cs ods (b+1) _ _ k1 (by rw[Wb9];rw[Wak]at hl;omega) ⟨nd.2,t,λd hd=>?_⟩;obtain⟨f1,f2,f3,f4,f5⟩:=al d<|Wal _ hd;have hne:d.1≠c.1:=λe=>nd.1 (by rw[<- e];exact Wax.mpr ⟨d,hd,rfl⟩);refine⟨f1,f2,f3,f4,λj x od' e1 e2=>?_⟩;by_cases hj:j=b
   ·subst hj
    rw[Wam (by rw[<- k.len];exact hb)];intro z;have:c.1=d.1:=by
     have z1:=Wat.inj<|Wat.inj z;injection z1
    exact hne this.symm
   ·rw[Wao (Ne.symm hj)]at e1 ⊢
    exact f5 j x od' e1 e2
theorem Zky:∀(l:List (Addr × OD)) (R T:Evt) (m:Nat),l.length<=m->L2.putN R.length l (R++Wad m Slot.any++T)=R++l.map (λc=>Slot.ownA c.1 c.2)++Wad (m-l.length) Slot.any++T
 |[],R,T,m,_=>by simp[L2.putN]
 |c::r,R,T,m,h=>by
  obtain⟨m',rfl⟩:∃m',m=m'+1:=⟨m-1,by rw[Wak]at h;omega⟩;have e:(R++Wad (m'+1) Slot.any++T).set R.length (.ownA c.1 c.2)=(R++[.ownA c.1 c.2])++Wad m' Slot.any++T:=by
   rw[Wbl];simp[List.set_append_right]
  rw[L2.putN,e];have:=Zky r (R++[.ownA c.1 c.2]) T m' (by rw[Wak]at h;omega);rw[War,Wbs]at this;rw[this];simp
theorem Zp2 {te:TE}{i base:Nat}{nx bk ct:Evt->Prop}{rt:D->Evt->Prop}{ro:OD->Evt->Prop}
  (h:JN K te Δ λods Δ1=>i<base/\base+ods.length <= Δ1.length/\∀as:List Addr,as.length=ods.length->as.Nodup->nx (L2.putN base (as.zip ods) (Δ1.set i (.val (.lst<|as.map D.adr))))) :
  JS K (tGhost base<|tAsg te<|gName i) Δ ⟨nx,rt,bk,ct,ro⟩:=λg G H σ E k c=>
 h g G H σ _ k λacc cs ods G1 H1 Δ1 k1 s1 rr _ nn hq_=>by
  obtain⟨hi,hb,p⟩:=hq_;have hl:cs.length=ods.length:=Paired.length nn.2.1;have e0:(cs.map λc=>D.adr c.1)=(cs.map (·.1)).map D.adr:=by rw[Wa9];rfl
  have k2:=k1.setVal' i rr;have n2:Nest K g G1 H1 (σ.set i<|some (.ref acc)) (Δ1.set i (.val (.lst (cs.map λc=>D.adr c.1)))) cs ods:=by
   obtain⟨nd,pr,al⟩:=nn;refine⟨nd,pr,λd hd=>?_⟩;obtain⟨f1,f2,f3,f4,f5⟩:=al d hd;refine⟨f1,f2,f3,f4,λj x od' e1 e2=>?_⟩;by_cases hj:j=i
   ·subst hj
    by_cases hlt:j < Δ1.length
    ·rw[Wam hlt]at e1;cases e1;cases e2
    ·rw[List.getElem?_eq_none (by rw[Wb9];omega)]at e1;cases e1
   ·rw[Wao (Ne.symm hj)]at e1 ⊢
    exact f5 j x od' e1 e2
  have k3:=Ok.putN cs ods base _ _ k2 (by rw[Wb9];exact hb) n2;refine⟨putS base (cs.map (·.1)) (σ.set i<|some (.ref acc)),Zjf _ _ _,λj hj=>Zfr _ _ _ j hj,?_⟩;rw[e0]at k3;exact c.nx _ G1 H1 _ k3<|p (cs.map (·.1)) (by rw[Wac,hl]) nn.1
theorem Zmd {n j:Nat}{a:Addr}{ds:List D}{P:D->Evt->Prop}(hx:Δ[n]?=some (.val (.adr a))) (hj:Δ[j]?=some (.ownA a (.lst ds))) (p:P (.int ds.length) Δ):JE K (tCB (rLenU K)<|tCons (tVar n) tNil) Δ P:=λg G H σ Q k c=>by
 obtain⟨v,h1,h2⟩:=k.val n _ hx;cases h2;obtain⟨a',o,w1,w2,w3,w4,w5⟩:=k.own j _ _ hj rfl;obtain⟨rfl,_⟩:=w5;cases o with
 |lst vs=>
  have w3:Reps K G vs ds:=w3;refine⟨_,h1,.inl ⟨_,vs,rfl,.inl<|SqL.of w2,?_⟩⟩;rw[w3.length];exact c _ _ G H Δ k (Same.refl _) (.int _) p
 |_=>exact absurd w3 (λz=>z)
theorem Zqj {n:Nat}{t1 t2:TE}{a:Addr}{j0:Nat}{ds0:List D}{nx bk ct:Evt->Prop}{rt:D->Evt->Prop}{ro:OD->Evt->Prop}(hx:Δ[n]?=some (.val (.adr a))) (hj0:Δ[j0]?=some (.ownA a (.lst ds0)))
  (h:JE K t1 Δ λe1 Δ1=>JE K t2 Δ1 λe2 Δ2=>∃j i ds,e1=.int i /\ Δ2[j]?=some (.ownA a (.lst ds))/\ds.length<sizeLine /\ -(2 ^ 62)<=i/\i<2 ^ 62/\nx (Δ2.set j (.ownA a (.lst (ds.take (insI ds.length i)++e2::ds.drop (insI ds.length i)))))) :
  JS K (tDrop<|tBM K "list" rInsert (tVar n)<|tCons t1<|tCons t2 tNil) Δ ⟨nx,rt,bk,ct,ro⟩:=λg G H σ E k c=>by
 obtain⟨v,h1,h2⟩:=k.val n _ hx;cases h2;obtain⟨a',o,w1,w2,w3,w4,w5⟩:=k.own j0 _ _ hj0 rfl;obtain⟨rfl,_⟩:=w5;cases o with
 |lst vs0=>
  refine⟨_,h1,.inl ⟨rfl,_,SqL.of w2⟩,h g G H σ _ k λv1 e1 G1 H1 Δ1 k1 s1 r1 p1=>p1 g G1 H1 σ _ k1 λv2 e2 G2 H2 Δ2 k2 s2 r2 ⟨j,i,ds,q1,q2,q3,q4,q5,p⟩=>?_⟩;subst q1;cases r1.inv;obtain⟨a2,o2,u1,u2,u3,u4,u5⟩:=k2.own j _ _ q2 rfl;obtain⟨rfl,_⟩:=u5;cases o2 with
  |lst vs=>
   have u3:Reps K G2 vs ds:=u3;refine⟨_,vs,i,v2,rfl,rfl,u2,by rw[u3.length];exact q3,q4,q5,?_⟩;have k3:=k2.write q2 rfl u1 (show OwnRep K G2 (.lst (vs.take (insI vs.length i)++v2::vs.drop (insI vs.length i))) (.lst (ds.take (insI ds.length i)++e2::ds.drop (insI ds.length i))) from by
    rw[u3.length];exact(u3.take _).append (.cons r2 (u3.drop _)))
   exact c.nx σ G2 _ _ k3 p
  |_=>exact absurd u3 (λz=>z)
 |_=>exact absurd w3 (λz=>z)
theorem JS.conv {t:TS}{Δ':Evt}{P:Pst}(hc:∀g G H σ,Ok K g G H σ Δ -> ∃G',Same G G' /\ Ok K g G' H σ Δ') (h:JS K t Δ' P):JS K t Δ P:=λg G H σ E k c=>by
 obtain⟨G',s,k'⟩:=hc g G H σ k;exact h g G' H σ E k' c
theorem Ok.freezeA {g:Gm}{G H:Hp}{σ:St}(k:Ok K g G H σ Δ) {i:Nat}{a:Addr}{ds:List D}(h:Δ[i]?=some (.ownA a (.lst ds))):∃G',Same G G' /\ Ok K g G' H σ (Δ.set i .any)/\Rep K G' (.ref a) (.lst ds):=by
 obtain⟨a',o,w1,w2,w3,w4,w5⟩:=k.own i _ _ h rfl;obtain⟨rfl,w6⟩:=w5;cases o with
 |lst vs=>
  have pd:Pend K g G H σ (Δ.set i .any) a (.lst ds):=by
   refine⟨.lst vs,w2,w3,w4,w6,?_,λj x od' e1 e2 e3=>?_⟩
   ·cases q:g.Xo a with
    |none=>rfl
    |some u=>exact absurd w1 ((k.ext a u q).2.2 i _ _ h rfl)
   ·by_cases hj:j=i
    ·subst hj
     rw[Wce]at e1;simp at e1;obtain⟨_,e1⟩:=e1;subst e1;cases e2
    ·rw[Wao (Ne.symm hj)]at e1
     exact hj<|k.dis j i x _ od' _ a e1 e2 h rfl e3 w1
  obtain⟨k2,sg,r⟩:=(k.drop i).freeze pd w2;exact⟨_,sg,k2,r⟩
 |_=>exact absurd w3 (λz=>z)
theorem Ok.freezeN {g:Gm}{H:Hp}{σ:St}:∀(cs:List (Addr × List D)) (R T:Evt) (G:Hp),Ok K g G H σ (R++cs.map (λc=>Slot.ownA c.1 (.lst c.2))++T) →
  ∃G',Same G G' /\ Ok K g G' H σ (R++Wad cs.length .any++T)/\∀c∈cs,Rep K G' (.ref c.1) (.lst c.2)
 |[],R,T,G,k=>⟨G,Same.refl _,by simpa using k,λc hc=>nomatch hc⟩
 |c::r,R,T,G,k=>by
  have hi:(R++(c::r).map (λc=>Slot.ownA c.1 (.lst c.2))++T)[R.length]?=some (.ownA c.1 (.lst c.2)):=by simp
  obtain⟨G1,s1,k1,r1⟩:=k.freezeA hi;have e:(R++(c::r).map (λc=>Slot.ownA c.1 (.lst c.2))++T).set R.length .any=(R++[.any])++r.map (λc=>Slot.ownA c.1 (.lst c.2))++T:=by
   simp[List.set_append_right]
  rw[e]at k1;obtain⟨G2,s2,k2,r2⟩:=Ok.freezeN r (R++[.any]) T G1 k1;refine⟨G2,s1.trans s2,?_,λd hd=>?_⟩
  ·have e2:(R++[Slot.any])++Wad r.length Slot.any++T=R++Wad (c::r).length Slot.any++T:=by
    rw[Wak,Wbl];simp
   rw[e2]at k2;exact k2
  ·rcases Wah.mp hd with e|hd
   ·subst e;exact r1.mono s2
   ·exact r2 d hd
theorem Ok.thaw {g:Gm}{G H:Hp}{σ:St}{cs:List (Addr × List D)}{R T:Evt}{i:Nat}(k:Ok K g G H σ (R++cs.map (λc=>Slot.ownA c.1 (.lst c.2))++T)) (hi:R[i]?=some (.val (.lst (cs.map λc=>D.adr c.1)))) :
  ∃G',Same G G' /\ Ok K g G' H σ (R.set i (.val (.lst (cs.map λc=>D.lst c.2)))++Wad cs.length .any++T):=by
 have hlt:i<R.length:=(Wap.mp hi).1;obtain⟨v,h1,h2⟩:=k.val i _ (by rw[Wb2,Wbb hlt];exact hi);obtain⟨G1,s1,k1,r1⟩:=Ok.freezeN cs R T G k;refine⟨G1,s1,?_⟩;have rr:Rep K G1 v (.lst (cs.map λc=>D.lst c.2)):=by
  cases h2 with
  |lst ha rs=>
   refine .lst (s1 _ _ ha) ?_;have key:∀(l:List (Addr × List D)) (vs:List V),(∀c∈l,Rep K G1 (.ref c.1) (.lst c.2))->Reps K G vs (l.map λc=>D.adr c.1)->Reps K G1 vs (l.map λc=>D.lst c.2):=by
    intro l
    induction l with
    |nil=>intro vs _ h;cases h;exact .nil
    |cons c r ih=>
     intro vs hc h;cases h with
     |cons h1 h2=>
      cases h1;exact .cons (hc c Waq)<|ih _ (λd hd=>hc d<|Wal _ hd) h2
   exact key cs _ r1 rs
 have k2:=k1.setVal' i rr;have e1:σ.set i (some v) = σ:=by
  apply Wcf;intro j;by_cases hj:j=i
  ·subst hj;rw[Wam (by obtain⟨z,_⟩:=Wap.mp h1;exact z),h1]
  ·rw[Wao (Ne.symm hj)]
 rw[e1]at k2;have e2:(R++Wad cs.length Slot.any++T).set i (.val (.lst (cs.map λc=>D.lst c.2)))=R.set i (.val (.lst (cs.map λc=>D.lst c.2)))++Wad cs.length Slot.any++T:=by
  rw[Wb2,Wb2,List.set_append_left _ _ hlt]
 rw[e2]at k2;exact k2
end
section
variable {X:Cx}(K:W.Frag)
theorem ixK (hu:X.A.units+1<cLine) (hK:X.K=K:=by rfl):IxR X (rIxU K):=hK ▸ ixU hu
theorem slK (hK:X.K=K:=by rfl):SlR X (rSlU K):=hK ▸ slU
theorem addK (hK:X.K=K:=by rfl):OpR X (binaryOp .Add) (rAddU K):=hK ▸ Zqz
theorem lenK (hK:X.K=K:=by rfl):CallR X (.builtin "len") (rLenU K):=hK ▸ Zlw
def rTup (K:W.Frag):List V->Hp->VK->Prop:=λxs H Q=>∃p ys,xs=[.ref p]/\((SqL K H p ys/\∀l,H l=none->Q (.ref l) (upd H l (.tup ys)))\/(SqT K H p ys/\Q (.ref p) H))
theorem tupK (hK:X.K=K:=by rfl):CallR X (.type "tuple") (rTup K):=hK ▸ Zf2
def rLst (K:W.Frag):List V->Hp->VK->Prop:=λxs H Q=>∃p ys,xs=[.ref p]/\(SqL K H p ys\/SqT K H p ys)/\∀l,H l=none->Q (.ref l) (upd H l (.lst ys))
theorem seqK {tg l:Expr}{tl:TE}(hl:PE X l tl) (hK:X.K=K:=by rfl):PI X tg l (iSeq K tl):=hK ▸ Zti hl
theorem truK {a:Expr}{ta:TE}(ha:PE X a ta) (he:∀whole,isTrue a X.env whole=(do let v ← whole;standAt a.pos;holding [v] (truthy v))) (hK:X.K=K:=by rfl):PT X a (tTru K ta):=hK ▸ Zsy ha he
theorem gtupK {es:List Expr}{k:Nat}{t:TGs}{n:Nat}{pos:Pos}(hc:X.calm=true) (h:PGs X es t)
  (hn:(assignEach es X.env).length=n:=by rfl) (hst:(assignEach es X.env).findIdx? (·.1)=none:=by rfl) (hK:X.K=K:=by rfl):PG X (.Tuple es k pos) (gTup K n t):=hK ▸ Zs0 hc h hn hst
variable {o e:Expr}{es:List Expr}{to:TE}{t:TA}{name:Str}{apos cpos:Pos}{T id:String}{r:V->List V->Hp->VK->Prop}
theorem bmK (pa:PlainAttrs T) (slot:PySem.Slot T name id) (hty:typeOf (.builtin id)=pure (.type "method_descriptor")) (hm:MtR X id r) (ho:PE X o to) (ha:PA X (e::es) t)
  (hbase:attributeBase o name X.env (eval o X.env)=eval o X.env:=by rfl)
  (hfew:((backTo cpos (starEach (e::es) X.env)).all (λx=>!x.1) && (backToKw cpos (keywordEach [] X.env)).all (λx=>x.1.isSome)
   && decide ((e::es).length+([]:List Keyword).length+(if ([]:List Keyword).isEmpty then 0 else 1)<30))=true:=by rfl)
  (hline:(apos.endLine == cpos.line)=true:=by rfl) (hs:starEach (e::es) X.env=(false,eval e X.env)::starEach es X.env:=by rfl) (hplain:(backTo cpos<|starEach es X.env).any (·.1)=false:=by rfl) (hK:X.K=K:=by rfl) :
  PE X (.Call (.Attribute o name apos) (e::es) [] cpos) (tBM K T r to t):=hK ▸ Ztv pa slot hty hm ho ha hbase hfew hline hs hplain
end
section
variable {K:W.Frag}{Δ:Evt}{P:D->Evt->Prop}
theorem Zds {ds es:List D}(he:ds=[.lst es]\/ds=[.tup es]) (p:P (.tup es) Δ):JC K (rTup K) ds Δ P:=Znx he p
theorem Zoy {ds es:List D}(he:ds=[.lst es]\/ds=[.tup es]) (p:P (.lst es) Δ):JC K (rLst K) ds Δ P:=λg G H σ Q vs k rs c=>by
 rcases he with he|he <;> subst he
 ·obtain⟨_,_,rfl,r,t⟩:=rs.inv
  next=>
   cases t.inv;obtain⟨_,_,rfl,ha,rs⟩:=r.inv
   next=>
    refine⟨_,_,rfl,.inl<|SqL.of<|k.live _ _ ha,λl hl=>?_⟩;obtain⟨k2,sg⟩:=k.laid hl (.lst _);exact c _ _ _ _ Δ k2 sg (.lst Zal<|rs.mono sg) p
 ·obtain⟨_,_,rfl,r,t⟩:=rs.inv
  next=>
   cases t.inv;obtain⟨_,_,rfl,ha,rs⟩:=r.inv
   next=>
    refine⟨_,_,rfl,.inr<|SqT.of<|k.live _ _ ha,λl hl=>?_⟩;obtain⟨k2,sg⟩:=k.laid hl (.lst _);exact c _ _ _ _ Δ k2 sg (.lst Zal<|rs.mono sg) p
theorem Zol {sel:List Nat}{wi:TI}{tc:TT}{te:TE}{Po:List OD->Evt->Prop}(hsel:sel.Nodup)
  (h:JI K wi Δ λds Δ1=>ds.length<sizeLine/\∃(p:D->Bool) (f:D->OD),
   (∀(i:Nat) d,ds[i]?=some d->JT K tc (.val d::fixD sel Δ1) λb Δ4=>b=p d/\if b=true then JO K te Δ4 λe Δ5=>e=f d/\∃x,Δ5=x::fixD sel Δ1 else ∃x,Δ4=x::fixD sel Δ1) ∧
   Po ((ds.filter p).map f) Δ1):JN K (tComp 1 sel wi (gName 0) tc te) Δ Po:=by
 refine Zqr hsel λg G H σ R k c=>h g G H σ R k λJ ds G' H' Δ' k' s' it ⟨z,p,f,ht,he⟩=>c J ds G' H' Δ' k' s' it ⟨z,λi ys Δ=>ys=((ds.take i).filter p).map f/\∃x,Δ = x::fixD sel Δ',⟨by simp,.any,rfl⟩,?_,?_⟩
 ·rintro i d ys Δ2 hd ⟨rfl,x,rfl⟩
  have tk:ds.take (i+1)=ds.take i++[d]:=by
   rw[Wcd,hd];rfl
  refine Zen (by decide) ?_;intro g G H σ Q k c;refine ht i d hd g G H σ Q k λb G1 H1 Δ1 k1 s1 ⟨e1,q⟩=>c b G1 H1 Δ1 k1 s1 ?_;cases b with
  |true=>
   rw[if_pos rfl]at q ⊢;intro g G H σ Q k c;refine q g G H σ Q k λa od G2 H2 Δ2 k2 s2 pd ⟨e2,x,e3⟩=>c a od G2 H2 Δ2 k2 s2 pd ⟨?_,x,e3⟩;rw[tk,Wbt,Wa8,Wbr,<- e1,e2];rfl
  |false=>
   rw[if_neg Wai]at q ⊢;obtain⟨x,e3⟩:=q;refine⟨?_,x,e3⟩;rw[tk,Wbt,Wa8,Wbr,<- e1];simp
 ·rintro ys Δ2 ⟨rfl,x,rfl⟩
  rw[Wcx,show (x::fixD sel Δ')=[x]++fixD sel Δ' from rfl,Zc2 (by simp)];exact he
end
def fLaw:DSp:=λds Post=>∃ns:List Int,ds=[.scr (ns.map .int)]/\ns.length<=63/\Post (.bl true)
def spLaw (K:W.Frag):Sp:=λvs H Q _=>∃(a:Addr) (ns:List Int),vs=[.ref a]/\SqL K H a (ns.map V.int)/\ns.length<=63/\∀H',Q (.bl true) H'
theorem Zng {K:W.Frag}{vs:List V}{H:Hp}{Q:VK}{E:XK}(h:spLaw K vs H Q E):spD K fLaw vs H Q E:=by
 obtain⟨a,ns,rfl,hs,hl,q⟩:=h;refine⟨H,[.scr (ns.map .int)],λd=>d=.bl true,Same.refl _,.cons (.scr hs<|Reps.ofInts ns) .nil,⟨ns,rfl,hl,rfl⟩,λr H' d sh rr e=>?_⟩;subst e;cases rr.inv;exact q H'
theorem walk_law {l:PySem.W.OpenLaw}{q:Program}{loose:List Str}{XP:(Str->Option Value)->Heap->Prop}{YP:World->Heap->Prop}{d:DefRec}{K:Params->W.Frag}{k:Nat}{x:Str}(hk:Room k callerA) (hn:l.most=some 63) (hdf:d.params.defaults=[])
  (hY:∀(w:World) (h:Heap),YP w h->(K w.params).In h)
  (F:∀(w:World) (mg:Str->Option Value) (fa:Addr) (h:Heap),(K w.params).In h->h.Ns mainGlobals mg->mg d.name=some (.ref fa) →
   ∃fd:FuncData,(∀(s:Shared) (u:Value),BindsTo s fd ⟨[u],[]⟩ [(x,u)])/\∀base:Heap,(K w.params).In base->base.Ns mainGlobals mg->FnOk l.prog w (K w.params) mg base CX0 k fa fd [x] (spD (K w.params) fLaw)) :
  PySem.W.WalkO q loose XP YP l.row.toRowW d [] (λf vs=>PySem.call f vs):=
 L2.walk_of (n:=63) (k:=k) (x:=x) (CX:=λ_=>CX0) (sp:=λw=>spLaw<|K w.params) hn (by decide) hdf hk hY
  (λw mg fa h h1 h2 h3=>by
   obtain⟨fd,b,f⟩:=F w mg fa h h1 h2 h3;exact⟨fd,b,λbase kb nb=>(f base kb nb).imp λvs H Q E z=>Zng z⟩)
  (λ_ _ a ns hl _ hS=>⟨a,ns,rfl,hS,hl,λ_=>rfl⟩) λ_ _ _ _ _ z=>z
def SqB (b:Bool) (K:W.Frag) (H:Hp) (a:Addr) (xs:List V):Prop:=match b with|true=>SqT K H a xs|false=>SqL K H a xs
def ItB (b:Bool) (h:Heap) (j a:Addr) (i:Nat):Prop:=match b with|true=>h.IsTupleIter j a i|false=>h.IsListIter j a i
def HsB (b:Bool) (h:Heap) (a:Addr) (ws:Array Value):Prop:=match b with|true=>h.IsTuple a ws|false=>h.IsList a ws
theorem ItB.at {b:Bool}{h h':Heap}{j a:Addr}{i:Nat}(x:ItB b h j a i) (e:∀o,h.get? j=some o->h'.get? j=some o):ItB b h' j a i:=by
 cases b
 ·exact Heap.IsListIter.at (show h.IsListIter j a i from x) e
 ·exact Heap.IsTupleIter.at (show h.IsTupleIter j a i from x) e
theorem ItB.off {b:Bool}{h h':Heap}{j a c:Addr}{i:Nat}(x:ItB b h j a i) (e:Heap.ExtBut c h h') (n:j≠c):ItB b h' j a i:=x.at λo q=>e j o n q
theorem ItB.obj {b:Bool}{h:Heap}{j a:Addr}{i:Nat}(x:ItB b h j a i):∃o,h.get? j=some o/\o.data=.fields #[.ref a,.int i 0]:=by
 cases b <;> (obtain⟨o,e,_,d⟩:=x;exact⟨o,e,d⟩)
theorem HsB.off {b:Bool}{h h':Heap}{a c:Addr}{ws:Array Value}(x:HsB b h a ws) (e:Heap.ExtBut c h h') (n:a≠c):HsB b h' a ws:=by
 cases b <;> (obtain⟨o,q,r⟩:=x;exact⟨o,e a o n q,r⟩)
theorem HsB.lt {b:Bool}{h:Heap}{a:Addr}{ws:Array Value}(x:HsB b h a ws):a<h.objs.size:=by
 cases b <;> (obtain⟨o,q,r⟩:=x;exact Wan q)
theorem Inv.seqB {X:Cx}{pins:List (Addr × Obj)}{σ:St}{H:Hp}{s:Shared}{b:Bool}{a:Addr}{xs:List V}(I:Inv X pins σ H s) (h:SqB b X.K H a xs):∃its:List Value,Vals xs its/\HsB b s.heap a its.toArray:=by
 cases b
 ·obtain⟨its,r,p,_⟩:=I.list h
  exact⟨its,r,p.isList⟩
 ·obtain⟨its,r,p,_⟩:=I.tuple h
  exact⟨its,r,p⟩
theorem Inv.seqB_inj {X:Cx}{pins:List (Addr × Obj)}{σ:St}{H:Hp}{s:Shared}{b:Bool}{a:Addr}{xs ys:List V}(I:Inv X pins σ H s) (h:SqB b X.K H a xs) (h':SqB b X.K H a ys):xs=ys:=by
 cases b
 ·exact I.list_inj h h'
 ·exact I.tuple_inj h h'
section
variable {prog:Program}{w:World}{A:Around}{E:Value->Shared->Prop}{s:Shared}
theorem Zet {b:Bool}{j a:Addr}{i:Nat}{ws:Array Value}{x:Value}{Q:Value->Shared->Prop}(g:ItB b s.heap j a i) (l:HsB b s.heap a ws) (e:ws[i]?=some x)
  (q:∀h',ItB b h' j a (i+1)->Heap.SameBut j s.heap h' -> Q x { s with heap:=h' }):wpAny (model prog w) A (Builtin.SmallTypes.nextOf (.ref j)) Q E s:=by
 cases b
 ·exact wpAny_nextOf_list_item g l e q
 ·obtain⟨o,g1,g2,g3⟩:=id g
  obtain⟨u,l1,_,n,l2⟩:=l;have ty:s.TypeIs (.ref j) "tuple_iterator":=⟨o,g1,g2⟩;unfold Builtin.SmallTypes.nextOf;refine wpAny_bind<|wpAny_callSpecial?_slot (name:=Str.ofString "__next__") ty F.slot_tuple_iterator_next<|wpAny_call_entry F.slot_tuple_iterator_next ty F.entry_tuple_iterator_next ?_<|F.args_tuple_iterator_next_1 _;refine(show wpAny _ _ (field (.ref j) 0 >>= _) _ _ s from wpAny_bind (wpAny_field g1 g3 (x:=.ref a) rfl ?_));refine(show wpAny _ _ (if (Value.ref a == Value.none)=true then _ else _) _ _ s from ?_);rw[if_neg (by exact Wai)];refine(show wpAny _ _ (field (.ref j) 1 >>= _) _ _ s from wpAny_bind (wpAny_field g1 g3 (x:=.int i 0) rfl ?_));refine(show wpAny _ _ (seqItems? (.ref a) >>= _) _ _ s from wpAny_bind (wpAny_seqItems l1 l2 ?_));simp only[Wci,e];refine wpAny_bind<|wpAny_setField g1 g3 (by simp)<|wpAny_pure ⟨x,rfl,wpAny_pure<|q _ ⟨_,Wbi _ g1<|Obj.isFreed_of_fields<|Obj.data_mapFields g3 _,(Obj.cls_mapFields ..).trans g2,?_⟩<|Heap.SameBut.update ..⟩;rw[Obj.data_mapFields g3];simp[rawInt]
theorem Zi3 {b:Bool}{j a:Addr}{i:Nat}{ws:Array Value}{Q:Value->Shared->Prop}(hh:A.handled=none) (g:ItB b s.heap j a i) (l:HsB b s.heap a ws) (e:ws[i]?=none)
  (q:∀h' x,Heap.ExtBut j s.heap h' -> (∃o,h'.get? x=some o/\o.cls=.type "StopIteration")->E (.ref x) { s with heap:=h' }):wpAny (model prog w) A (Builtin.SmallTypes.nextOf (.ref j)) Q E s:=by
 cases b
 ·exact wpAny_nextOf_list_end hh g l e q
 ·obtain⟨o,g1,g2,g3⟩:=id g
  obtain⟨u,l1,_,n,l2⟩:=l;have ty:s.TypeIs (.ref j) "tuple_iterator":=⟨o,g1,g2⟩;unfold Builtin.SmallTypes.nextOf;refine wpAny_bind<|wpAny_callSpecial?_slot (name:=Str.ofString "__next__") ty F.slot_tuple_iterator_next<|wpAny_call_entry F.slot_tuple_iterator_next ty F.entry_tuple_iterator_next ?_<|F.args_tuple_iterator_next_1 _;refine(show wpAny _ _ (field (.ref j) 0 >>= _) _ _ s from wpAny_bind (wpAny_field g1 g3 (x:=.ref a) rfl ?_));refine(show wpAny _ _ (if (Value.ref a == Value.none)=true then _ else _) _ _ s from ?_);rw[if_neg (by exact Wai)];refine(show wpAny _ _ (field (.ref j) 1 >>= _) _ _ s from wpAny_bind (wpAny_field g1 g3 (x:=.int i 0) rfl ?_));refine(show wpAny _ _ (seqItems? (.ref a) >>= _) _ _ s from wpAny_bind (wpAny_seqItems l1 l2 ?_));simp only[Wci,e];refine wpAny_bind<|wpAny_rule<|wpAny_bind<|wpAny_setField g1 g3 (by simp) (show wpAny _ _ (newExc (.type "StopIteration") [] >>= _) _ _ _ from wpAny_bind ?_);simp only[newExc,newTuple];refine wpAny_bind<|wpAny_newObj_type (wpAny_bind (m:=firstArgMember _ _)<|wpAny_of_eq (a:=Value.none) (by first|rfl|(simp only[firstArgMember];rfl))<|wpAny_newObj_type ?_ (by size_fits)) (by size_fits);simp only[raiseNew];refine wpAny_bind<|wpAny_handled ?_
  first|rw[show A.in1.handled=none from hh]|rw[hh]
  exact wpAny_bind<|wpAny_pure<|wpAny_throw<|q _ _ (((Heap.SameBut.update ..).extBut.push _).push _) ⟨_,Wag _ rfl,rfl⟩
theorem Zq3 {b c:Bool}{z U O j1 j2 a1 a2:Addr}{k1 k2:Nat}{vs us:Array Value}{x y p r:Value}{Q:Option Value->Shared->Prop}(D:ZipApart z U O j1 j2 a1 a2)
  (gz:IsZip s.heap z U O .none) (gU:IsPair s.heap U (.ref j1) (.ref j2)) (gO:IsPair s.heap O p r) (g1:ItB b s.heap j1 a1 k1) (g2:ItB c s.heap j2 a2 k2) (l1:HsB b s.heap a1 vs) (l2:HsB c s.heap a2 us) (ex:vs[k1]?=some x) (ey:us[k2]?=some y)
  (q:∀h',IsZip h' z U O (rawInt s.heap.objs.size)->IsPair h' O x y->ItB b h' j1 a1 (k1+1)->ItB c h' j2 a2 (k2+1)->IsPair h' s.heap.objs.size x y->h'.objs.size=s.heap.objs.size+1 →
   (∀d o,d≠z->d≠O->d≠j1->d≠j2->s.heap.get? d=some o->h'.get? d=some o)->Q (some (.ref s.heap.objs.size)) { s with heap:=h' }):wpAny (model prog w) A (pyNext (.ref z)) Q E s:=by
 have ty:s.TypeIs (.ref z) "zip":=⟨_,gz,rfl⟩;unfold pyNext;refine wpAny_bind<|wpAny_attempt<|wpAny_callSpecial?_slot (name:=Str.ofString "__next__") ty F.slot_zip_next<|wpAny_call_entry F.slot_zip_next ty F.entry_zip_next ?_<|F.args_zip_next_1 _;refine(show wpAny _ _ (field (.ref z) 2 >>= _) _ _ _ from wpAny_bind (wpAny_field gz rfl (x:=.bool false) rfl ?_));refine(show wpAny _ _ (field (.ref z) 3 >>= _) _ _ _ from wpAny_bind (wpAny_field gz rfl (x:=.ref U) rfl<|wpAny_bind<|wpAny_seqItems gU rfl ?_));refine(show wpAny _ _ (Builtin.SmallTypes.ownedTupleIsFree (.ref z) >>= _) _ _ _ from wpAny_bind ?_);unfold Builtin.SmallTypes.ownedTupleIsFree;refine wpAny_bind<|wpAny_field gz rfl (x:=.none) rfl<|wpAny_pure ?_;simp only[if_true];refine wpAny_bind<|wpAny_rule<|wpAny_bind<|wpAny_field gz rfl (x:=.ref O) rfl<|wpAny_bind (wpAny_setField_rec gz (by simp) λh₁ z₁ s₁=>wpAny_bind ?_)
 replace z₁:IsZip h₁ z U O .ellipsis:=z₁
 simp only[List.zipIdx_cons,List.zipIdx_nil,List.forIn_cons,List.forIn_nil];refine wpAny_bind<|wpAny_bind<|wpAny_onRaise (show wpAny _ _ (Builtin.SmallTypes.nextOf (.ref j1) >>= _) _ _ _ from wpAny_bind (Zet (g1.off s₁.extBut D.i1z) (l1.off s₁.extBut D.l1z) ex λh₂ g₂ s₂=>wpAny_pure ?_));have o₂:IsPair h₂ O p r:=s₂.extBut _ _ D.TOi1<|s₁.extBut _ _ D.TOz gO;refine wpAny_bind<|wpAny_seqItems o₂ rfl<|wpAny_bind (wpAny_updateSeq_pair o₂ λh₃ o₃ s₃=>wpAny_bind<|wpAny_letGo<|wpAny_pure ?_)
 replace o₃:IsPair h₃ O x r:=o₃
 refine wpAny_bind<|wpAny_bind<|wpAny_onRaise (show wpAny _ _ (Builtin.SmallTypes.nextOf (.ref j2) >>= _) _ _ _ from wpAny_bind (Zet (((g2.off s₁.extBut D.i2z).off s₂.extBut D.i12.symm).off s₃.extBut D.TOi2.symm) (((l2.off s₁.extBut D.l2z).off s₂.extBut D.l2i1).off s₃.extBut D.l2TO) ey λh₄ g₄ s₄=>wpAny_pure ?_));have o₄:IsPair h₄ O x r:=s₄.extBut _ _ D.TOi2 o₃;refine wpAny_bind<|wpAny_seqItems o₄ rfl<|wpAny_bind (wpAny_updateSeq_pair o₄ λh₅ o₅ s₅=>wpAny_bind<|wpAny_letGo<|wpAny_pure<|wpAny_pure ?_)
 replace o₅:IsPair h₅ O x y:=o₅
 refine wpAny_bind<|wpAny_seqItems o₅ rfl<|wpAny_bind<|wpAny_newTuple ?_;have n5:h₅.objs.size=s.heap.objs.size:=by rw[s₅.1,s₄.1,s₃.1,s₂.1,s₁.1]
 have z₅:IsZip h₅ z U O .ellipsis:=s₅.extBut _ _ D.TOz.symm<|s₄.extBut _ _ D.i2z.symm<|s₃.extBut _ _ D.TOz.symm<|s₂.extBut _ _ D.i1z.symm z₁;have old:∀d o,d≠z->d≠O->d≠j1->d≠j2->s.heap.get? d=some o->h₅.get? d=some o:=λd o c1 c2 c3 c4 e=>s₅.extBut _ _ c2<|s₄.extBut _ _ c4<|s₃.extBut _ _ c2<|s₂.extBut _ _ c3<|s₁.extBut _ _ c1 e;have t1:ItB b h₅ j1 a1 (k1+1):=((g₂.off s₃.extBut D.TOi1.symm).off s₄.extBut D.i12).off s₅.extBut D.TOi1.symm;have t2:ItB c h₅ j2 a2 (k2+1):=g₄.off s₅.extBut D.TOi2.symm;have zl:z<h₅.objs.size:=Wan z₅;refine(show wpAny _ _ (Builtin.SmallTypes.ownedTupleHandOut (.ref z) (.ref h₅.objs.size) >>= _) _ _ _ from wpAny_bind ?_);unfold Builtin.SmallTypes.ownedTupleHandOut;have z₆:IsZip (h₅.push { cls:=.type "tuple",data:=.seq #[x,y] }) z U O .ellipsis:=Waa _ z₅;refine wpAny_bind (wpAny_setField_rec z₆ (by simp) λh₇ z₇ s₇=>?_)
 replace z₇:IsZip h₇ z U O (rawInt h₅.objs.size):=z₇
 refine wpAny_setField_rec z₇ (by simp) λh₈ z₈ s₈=>?_
 replace z₈:IsZip h₈ z U O (rawInt h₅.objs.size):=z₈
 have up:∀d o,d≠z->h₅.get? d=some o->h₈.get? d=some o:=λd o c1 e=>s₈.extBut _ _ c1<|s₇.extBut _ _ c1<|Waa _ e;have new8:IsPair h₈ h₅.objs.size x y:=s₈.extBut _ _ (Wb6 zl)<|s₇.extBut _ _ (Wb6 zl)<|Wag _ rfl;have n8:h₈.objs.size=h₅.objs.size+1:=by rw[s₈.1,s₇.1,Wbj]
 rw[n5]at z₈ new8 n8;refine wpAny_pure ⟨_,rfl,wpAny_pure ?_⟩;refine(show Q (some (.ref h₅.objs.size)) _ from ?_);rw[n5];exact q h₈ z₈ (up _ _ D.TOz o₅) (t1.at λo e=>up _ o D.i1z e) (t2.at λo e=>up _ o D.i2z e) new8 n8 λd o c1 c2 c3 c4 e=>up d o c1<|old d o c1 c2 c3 c4 e
theorem Zr7 {b c:Bool}{z U O j1 j2 a1 a2:Addr}{k1 k2:Nat}{vs us:Array Value}{p r:Value}{Q:Option Value->Shared->Prop}(hh:A.handled=none) (D:ZipApart z U O j1 j2 a1 a2)
  (gz:IsZip s.heap z U O .none) (gU:IsPair s.heap U (.ref j1) (.ref j2)) (gO:IsPair s.heap O p r) (g1:ItB b s.heap j1 a1 k1) (g2:ItB c s.heap j2 a2 k2) (l1:HsB b s.heap a1 vs) (l2:HsB c s.heap a2 us) (e:vs[k1]?=none\/us[k2]?=none)
  (q:∀h',(∀d o,d≠z->d≠O->d≠j1->d≠j2->s.heap.get? d=some o->h'.get? d=some o)->Q none { s with heap:=h' }):wpAny (model prog w) A (pyNext (.ref z)) Q E s:=by
 have ty:s.TypeIs (.ref z) "zip":=⟨_,gz,rfl⟩;have fin:∀{h':Heap}{x:Addr},(∀d o,d≠z->d≠O->d≠j1->d≠j2->s.heap.get? d=some o->h'.get? d=some o)->(∃o,h'.get? x=some o/\o.cls=.type "StopIteration")->wpAny (model prog w) A (do if (← isInstance (.ref x) (.type "StopIteration")) then pure none else throw (.ref x)) Q E { s with heap:=h' }:=λ{h' x} hk ⟨o,ho,hc⟩=>by
  refine wpAny_bind<|wpAny_isInstance (T:="StopIteration") (b:=true) ⟨o,ho,hc⟩ isSubtype_stop ?_;exact wpAny_pure<|q _ hk
 unfold pyNext;refine wpAny_bind<|wpAny_attempt<|wpAny_callSpecial?_slot (name:=Str.ofString "__next__") ty F.slot_zip_next<|wpAny_call_entry F.slot_zip_next ty F.entry_zip_next ?_<|F.args_zip_next_1 _;refine(show wpAny _ _ (field (.ref z) 2 >>= _) _ _ _ from wpAny_bind (wpAny_field gz rfl (x:=.bool false) rfl ?_));refine(show wpAny _ _ (field (.ref z) 3 >>= _) _ _ _ from wpAny_bind (wpAny_field gz rfl (x:=.ref U) rfl<|wpAny_bind<|wpAny_seqItems gU rfl ?_));refine(show wpAny _ _ (Builtin.SmallTypes.ownedTupleIsFree (.ref z) >>= _) _ _ _ from wpAny_bind ?_);unfold Builtin.SmallTypes.ownedTupleIsFree;refine wpAny_bind<|wpAny_field gz rfl (x:=.none) rfl<|wpAny_pure ?_;simp only[if_true];refine wpAny_bind<|wpAny_rule<|wpAny_bind<|wpAny_field gz rfl (x:=.ref O) rfl<|wpAny_bind (wpAny_setField_rec gz (by simp) λh₁ z₁ s₁=>wpAny_bind ?_)
 replace z₁:IsZip h₁ z U O .ellipsis:=z₁
 simp only[List.zipIdx_cons,List.zipIdx_nil,List.forIn_cons,List.forIn_nil];refine wpAny_bind<|wpAny_bind<|wpAny_onRaise (show wpAny _ _ (Builtin.SmallTypes.nextOf (.ref j1) >>= _) _ _ _ from ?_);cases ex:vs[k1]? with
 |none=>
  refine wpAny_bind (Zi3 hh (g1.off s₁.extBut D.i1z) (l1.off s₁.extBut D.l1z) ex λh₂ y s₂ ⟨u,u1,u2⟩=>?_);have z₂:IsZip h₂ z U O .ellipsis:=s₂ _ _ D.i1z.symm z₁;have yz:y≠z:=λx=>by subst x;rw[z₂]at u1;cases u1;simp at u2
  exact wpAny_setField_rec z₂ (by simp) λh₃ _ s₃=>fin (λd o c1 _ c3 _ x=>s₃.extBut _ _ c1<|s₂ _ _ c3<|s₁.extBut _ _ c1 x) ⟨u,s₃.extBut _ _ yz u1,u2⟩
 |some x=>
  have ey:us[k2]?=none:=by rcases e with h|h;rw[ex]at h;cases h;exact h
  refine wpAny_bind (Zet (g1.off s₁.extBut D.i1z) (l1.off s₁.extBut D.l1z) ex λh₂ g₂ s₂=>wpAny_pure ?_);have o₂:IsPair h₂ O p r:=s₂.extBut _ _ D.TOi1<|s₁.extBut _ _ D.TOz gO;refine wpAny_bind<|wpAny_seqItems o₂ rfl<|wpAny_bind (wpAny_updateSeq_pair o₂ λh₃ o₃ s₃=>wpAny_bind<|wpAny_letGo<|wpAny_pure ?_);refine wpAny_bind<|wpAny_bind<|wpAny_onRaise (show wpAny _ _ (Builtin.SmallTypes.nextOf (.ref j2) >>= _) _ _ _ from ?_);refine wpAny_bind (Zi3 hh (((g2.off s₁.extBut D.i2z).off s₂.extBut D.i12.symm).off s₃.extBut D.TOi2.symm) (((l2.off s₁.extBut D.l2z).off s₂.extBut D.l2i1).off s₃.extBut D.l2TO) ey λh₄ y s₄ ⟨u,u1,u2⟩=>?_);have z₄:IsZip h₄ z U O .ellipsis:=s₄ _ _ D.i2z.symm<|s₃.extBut _ _ D.TOz.symm<|s₂.extBut _ _ D.i1z.symm z₁;have yz:y≠z:=λx=>by subst x;rw[z₄]at u1;cases u1;simp at u2
  exact wpAny_setField_rec z₄ (by simp) λh₅ _ s₅=>fin (λd o c1 c2 c3 c4 x=>s₅.extBut _ _ c1<|s₄ _ _ c4<|s₃.extBut _ _ c2<|s₂.extBut _ _ c3<|s₁.extBut _ _ c1 x) ⟨u,s₅.extBut _ _ yz u1,u2⟩
end
section
abbrev zt1 (h:Heap) (a:Addr):Heap:=h.push ⟨.type "tuple_iterator",none,.fields #[.ref a,.int 0 0],#[]⟩
abbrev zt2 (h:Heap) (a c:Addr):Heap:=(zt1 h a).push ⟨.type "tuple_iterator",none,.fields #[.ref c,.int 0 0],#[]⟩
abbrev zt3 (h:Heap) (a c:Addr):Heap:=(zt2 h a c).push ⟨.type "tuple",none,.seq #[.ref h.objs.size,.ref (zt1 h a).objs.size],#[]⟩
abbrev zt4 (h:Heap) (a c:Addr):Heap:=(zt3 h a c).push ⟨.type "tuple",none,.seq #[.none,.none],#[]⟩
abbrev zt5 (h:Heap) (a c:Addr):Heap:=(zt4 h a c).push ⟨.type "zip",none,.fields #[.none,.bool false,.bool false,.ref (zt2 h a c).objs.size,.ref (zt3 h a c).objs.size],#[]⟩
theorem Zm5 (a c:Addr) (vs us:Array Value) :
  Meets (Builtin.«zip.__new__» ⟨[.type "zip",.ref a,.ref c],[]⟩) (λ_ R s=>s.heap.IsTuple a vs/\s.heap.IsTuple c us/\R (.ok (.ret (.ref (zt4 s.heap a c).objs.size))) { s with heap:=zt5 s.heap a c }):=.of_wp λprog w A R s h=>by
 obtain⟨hp,g,d,tk,os⟩:=s;obtain⟨u1,u2,h⟩:=h;have sub0:=sub_zip;have v1:Heap.IsTuple (Shared.heap ⟨hp,g,d,tk,os⟩) a vs:=u1;have v2:Heap.IsTuple (Shared.heap ⟨hp.push { cls:=.type "tuple_iterator",data:=.fields #[.ref a,.int 0 0] },g,d,tk,os⟩) c us:=Heap.IsTuple.push u2 _
 wp_walk using wpAny_pyIter_tuple v1,wpAny_pyIter_tuple v2
 exact⟨_,rfl,h⟩
variable {prog:Program}{w:World}{A:Around}{E:Value->Shared->Prop}{s:Shared}
theorem Zp8 {b:Bool}{a c:Addr}{vs us:Array Value}{Q:Value->Shared->Prop}(l1:HsB b s.heap a vs) (l2:HsB b s.heap c us)
  (q:∀h',IsZip h' (s.heap.objs.size+4) (s.heap.objs.size+2) (s.heap.objs.size+3) .none->IsPair h' (s.heap.objs.size+2) (.ref s.heap.objs.size) (.ref (s.heap.objs.size+1))->IsPair h' (s.heap.objs.size+3) .none .none →
   ItB b h' s.heap.objs.size a 0->ItB b h' (s.heap.objs.size+1) c 0->(∀d o,s.heap.get? d=some o->h'.get? d=some o)->Q (.ref (s.heap.objs.size+4)) { s with heap:=h' }):wpAny (model prog w) A (call (.type "zip") [.ref a,.ref c]) Q E s:=by
 cases b
 ·exact call_zip_2 l1 l2 λh' b1 b2 b3 b4 b5 b6 hk=>q h' b1 b2 b3 b4 b5 hk
 ·refine callType_new F.called_zip (by decide) (F.typeCall_zip_2 _ _) (F.newCall_zip_2 _ _) (λobj=>F.args_object_init_3 obj _ _) F.entry_zip_new (Zm5 a c vs us) ⟨l1,l2,?_⟩
  have z1:(zt1 s.heap a).objs.size=s.heap.objs.size+1:=Wbj ..;have z2:(zt2 s.heap a c).objs.size=s.heap.objs.size+2:=by rw[Wbj,z1]
  have z3:(zt3 s.heap a c).objs.size=s.heap.objs.size+3:=by rw[Wbj,z2]
  have z4:(zt4 s.heap a c).objs.size=s.heap.objs.size+4:=by rw[Wbj,z3]
  have p5:(zt5 s.heap a c).get? (zt4 s.heap a c).objs.size=some _:=Wag _ rfl;have p4:(zt5 s.heap a c).get? (zt3 s.heap a c).objs.size=some _:=Waa _<|Wag _ rfl;have p3:(zt5 s.heap a c).get? (zt2 s.heap a c).objs.size=some _:=Waa _<|Waa _<|Wag _ rfl;have p2:(zt5 s.heap a c).get? (zt1 s.heap a).objs.size=some _:=Waa _<|Waa _<|Waa _<|Wag _ rfl;have p1:(zt5 s.heap a c).get? s.heap.objs.size=some _:=Waa _<|Waa _<|Waa _<|Waa _<|Wag _ rfl;show _/\_;rw[z2,z3,z4]at p5;rw[z1,z2]at p3;rw[z3]at p4;rw[z1]at p2;rw[z4];exact⟨⟨_,p5,rfl⟩,q _ p5 p3 p4 ⟨_,p1,rfl,rfl⟩ ⟨_,p2,rfl,rfl⟩ λd o e=>Waa _<|Waa _<|Waa _<|Waa _<|Waa _ e⟩
end
def Izb (b:Bool) (K:W.Frag) (l1 l2:Addr):It:=
 ⟨λi H=>∃xs ys x y,SqB b K H l1 xs/\SqB b K H l2 ys/\xs[i]?=some x/\ys[i]?=some y,
  λi H v H'=>∃p x y,H p=none/\v=.ref p/\H'=upd H p (.tup [x,y])/\∀xs ys,SqB b K H l1 xs->SqB b K H l2 ys->xs[i]?=some x/\ys[i]?=some y,
  λi H=>∃xs ys,SqB b K H l1 xs/\SqB b K H l2 ys/\(xs.length<=i\/ys.length<=i)⟩
theorem Zqx {b:Bool}{P:Program}{w:World}{K:W.Frag}{es:List Expr}{kk:Nat}{tp:Pos}(l1 l2 z TI TO i1 i2:Addr) (D:ZipApart z TI TO i1 i2 l1 l2):Turn P w K (.Tuple es kk tp) (Izb b K l1 l2) [z,TI,TO,i1,i2] z
  (λi h=>IsZip h z TI TO .none/\IsPair h TI (.ref i1) (.ref i2)/\(∃a b,IsPair h TO a b)/\ItB b h i1 l1 i/\ItB b h i2 l2 i) where
 mem:=by simp
 obj:=λi h st b2 hb=>by
  obtain⟨hz,hTI,⟨a,b',hTO⟩,h1,h2⟩:=st;obtain⟨o1,e1,d1⟩:=h1.obj;obtain⟨o2,e2,d2⟩:=h2.obj;simp only[Wah,Way,or_false]at hb;rcases hb with rfl|rfl|rfl|rfl|rfl
  ·exact⟨_,hz,λv q=>by cases q⟩
  ·exact⟨_,hTI,λv q=>by cases q⟩
  ·exact⟨_,hTO,λv q=>by cases q⟩
  ·exact⟨o1,e1,λv q=>by rw[d1]at q;cases q⟩
  ·exact⟨o2,e2,λv q=>by rw[d2]at q;cases q⟩
 keep:=λi h h' st k=>by
  obtain⟨hz,hTI,⟨a,b',hTO⟩,h1,h2⟩:=st;exact⟨k z (by simp) _ hz,k TI (by simp) _ hTI,⟨a,b',k TO (by simp) _ hTO⟩,h1.at λo e=>k i1 (by simp) o e,h2.at λo e=>k i2 (by simp) o e⟩
 item:=by
  intro X hP hw hK hc i pins s σ H E I hf st hg;subst hP hw hK;obtain⟨hz,hTI,⟨a,b',hTO⟩,h1,h2⟩:=st;obtain⟨xs,ys,x,y,hq1,hq2,hx,hy⟩:=hg;obtain⟨its1,r1,p1⟩:=I.seqB hq1;obtain⟨its2,r2,p2⟩:=I.seqB hq2;obtain⟨u1,hu1,ru1⟩:=r1.get hx;obtain⟨u2,hu2,ru2⟩:=r2.get hy;refine Zq3 D hz hTI hTO h1 h2 p1 p2 (x:=u1) (y:=u2) (by simpa using hu1) (by simpa using hu2) λh' b1 b2 b3 b4 b5 b6 hk=>?_;refine⟨_,rfl,wpAny_letOwnedTupleGo_zip (s:={ s with heap:=h' }) b1 λh'' hz'' hs''=>?_⟩;have lt:∀{c o},s.heap.get? c=some o->c≠s.heap.objs.size:=λe=>Wa4<|Wan e;have hTz:s.heap.objs.size≠z:=Ne.symm<|lt hz;have hTfree:H s.heap.objs.size=none:=I.hok.fresh<|Waf _;have kept:∀c o,c ∉ [z,TI,TO,i1,i2]->s.heap.get? c=some o->h''.get? c=some o:=λc o hc e=>by
   simp only[Wah,Way,or_false,not_or]at hc;exact hs''.extBut _ _ hc.1<|hk c o hc.1 hc.2.2.1 hc.2.2.2.1 hc.2.2.2.2 e
  have hT:h''.get? s.heap.objs.size=some { cls:=.type "tuple",data:=.seq #[u1,u2] }:=hs''.extBut _ _ hTz b5;have ntr:∀c o,H c=some o->c ∉ [z,TI,TO,i1,i2]:=λc o e hc=>by rw[(hf c hc).1]at e;cases e
  have hok:HOk X.prog X.w (upd H s.heap.objs.size (.tup [x,y])) h'':=λc o e=>by
   by_cases hcT:c=s.heap.objs.size
   ·subst hcT
    rw[Zal]at e;cases e;exact⟨by show 2<=sizeLine;decide,[u1,u2],.cons ru1 (.cons ru2 .nil),_,hT,⟨rfl,_,rfl⟩,rfl⟩
   ·rw[Zaj hcT]at e
    refine(I.hok c o e).stay (λd v hd q=>kept d v ?_ q) (λd q=>by rw[Zaj (Zak q hTfree)];exact q) λd zs q=>by rw[Zaj (Zak q hTfree)];exact q
    rcases hd with hd|hd
    ·rw[hd];exact ntr c o e
    ·exact ntr d _ hd
  have I2:Inv X pins σ (upd H s.heap.objs.size (.tup [x,y])) { s with heap:=h'' }:=by
   refine I.call (g':=s.gens) (t':=s.toks) (d':=s.drawn) (ch:=[z,TI,TO,i1,i2]) ⟨λc o e n hc hx=>kept c o hx e,λc o e n hc hx=>⟨o.slots,kept c o hx e⟩,λc o e n hx=>by rw[Zaj (lt e)];exact n,λc o e hx=>⟨o,kept c o hx e⟩,
    λc zs q=>by rw[Zaj (Zak q hTfree)];exact q,λc o zs q=>by rw[Zaj (Zak q hTfree)];exact q,λc zs q=>⟨#[],by rw[Zaj (Zak q hTfree),q];simp⟩⟩ hok I.bare λc hcc=>?_
   obtain⟨f0,f1,f2,f3,f4,f5⟩:=hf c hcc;exact⟨f3,f1,f4,f5⟩
  refine⟨.ref s.heap.objs.size,_,I2,rfl,⟨s.heap.objs.size,x,y,hTfree,rfl,rfl,λxs' ys' q1 q2=>?_⟩,⟨hz'',hs''.extBut _ _ D.TIz<|hk _ _ D.TIz D.TITO D.TIi1 D.TIi2 hTI,⟨_,_,hs''.extBut _ _ D.TOz b2⟩,b3.off hs''.extBut D.i1z,b4.off hs''.extBut D.i2z⟩,λc hcc=>?_⟩
  ·rw[I.seqB_inj q1 hq1,I.seqB_inj q2 hq2];exact⟨hx,hy⟩
  ·have hcl:c≠s.heap.objs.size:=by
    simp only[Wah,Way,or_false]at hcc;obtain⟨_,e1,_⟩:=h1.obj;obtain⟨_,e2,_⟩:=h2.obj;rcases hcc with rfl|rfl|rfl|rfl|rfl
    ·exact lt hz
    ·exact lt hTI
    ·exact lt hTO
    ·exact lt e1
    ·exact lt e2
   rw[Zaj hcl];exact(hf c hcc).1
 done:=by
  intro X hP hw hK hc i pins s σ H E I hf st hg;subst hP hw hK;obtain⟨hz,hTI,⟨a,b',hTO⟩,h1,h2⟩:=st;obtain⟨xs,ys,hq1,hq2,hend⟩:=hg;obtain⟨its1,r1,p1⟩:=I.seqB hq1;obtain⟨its2,r2,p2⟩:=I.seqB hq2;have l1':=r1.length;have l2':=r2.length;refine Zr7 (I.ok.hd hc) D hz hTI hTO h1 h2 p1 p2 ?_ λh' hk=>⟨rfl,?_⟩
  ·rcases hend with q|q
   ·left;simp;omega
   ·right;simp;omega
  ·have kept:∀c o,c ∉ [z,TI,TO,i1,i2]->s.heap.get? c=some o->h'.get? c=some o:=λc o hc e=>by
    simp only[Wah,Way,or_false,not_or]at hc;exact hk c o hc.1 hc.2.2.1 hc.2.2.2.1 hc.2.2.2.2 e
   have ntr:∀c o,H c=some o->c ∉ [z,TI,TO,i1,i2]:=λc o e hc=>by rw[(hf c hc).1]at e;cases e
   refine I.call (g':=s.gens) (t':=s.toks) (d':=s.drawn) (ch:=[z,TI,TO,i1,i2]) ⟨λc o e n hc hx=>kept c o hx e,λc o e n hc hx=>⟨o.slots,kept c o hx e⟩,λc o e n hx=>n,λc o e hx=>⟨o,kept c o hx e⟩,
    λc zs q=>q,λc o zs q=>q,λc zs q=>⟨#[],by rw[q];simp⟩⟩ (λc o e=>?_) I.bare λc hcc=>?_
   ·refine(I.hok c o e).stay (λd v hd q=>kept d v ?_ q) (λd q=>q) λd zs q=>q
    rcases hd with hd|hd
    ·rw[hd];exact ntr c o e
    ·exact ntr d _ hd
   ·obtain⟨f0,f1,f2,f3,f4,f5⟩:=hf c hcc
    exact⟨f3,f1,f4,f5⟩
 self:=λ_ _ _ _ _ st h=>wpAny_pyIter_zip st.1 h
section
variable {X:Cx}
def iZip (K:W.Frag) (ta:TA):TI:=λσ H R=>ta σ H λvs H1=>∃b l1 l2,vs=[.ref l1,.ref l2]/\(∃xs,SqB b K H1 l1 xs)/\(∃ys,SqB b K H1 l2 ys)/\R (Izb b K l1 l2) H1
theorem Zrw (K:W.Frag) {es:List Expr}{kk:Nat}{tp:Pos}{a b:Expr}{ta:TA}{p pos:Pos}(hg:Gl X "zip") (hm:X.mg "zip" = none) (ha:PA X [a,b] ta) (hs:starEach [a,b] X.env=[(false,eval a X.env),(false,eval b X.env)]:=by rfl) (hs2:starEach [b] X.env=[(false,eval b X.env)]:=by rfl) (hK:X.K=K:=by rfl) :
  PI X (.Tuple es kk tp) (.Call (.Name "zip" p) [a,b] [] pos) (iZip K ta):=by
 subst hK;intro pins s σ H R I h;refine Call_<|Zd2 I hg hm (Ztd)<|PyProof.Rows.callWith_type1 (thn (ha pos pins s σ H _ I h) λus s1 ⟨vs,H1,I1,r1,q1⟩=>?_) (by rw[hs,hs2]) (by rw[hs2];rfl);obtain⟨b,l1,l2,e,⟨xs,hx⟩,⟨ys,hy⟩,q⟩:=q1;subst e;obtain⟨u1,u2,rfl,q1,q2⟩:=r1.two;cases (show u1=Value.ref l1 from q1);cases (show u2=Value.ref l2 from q2);obtain⟨its1,w1,p1⟩:=I1.seqB hx;obtain⟨its2,w2,p2⟩:=I1.seqB hy;have lt1:l1<s1.heap.objs.size:=p1.lt;have lt2:l2<s1.heap.objs.size:=p2.lt;refine Zp8 p1 p2 λh' b1 b2 b3 b4 b5 hk=>?_;refine wpAny_pyIter_zip b1 ?_;have I2:Inv X pins σ H1 { s1 with heap:=h' }:=I1.kept (t':=s1.toks) hk;refine⟨s1.heap.objs.size+4,[s1.heap.objs.size+4,s1.heap.objs.size+2,s1.heap.objs.size+3,s1.heap.objs.size,s1.heap.objs.size+1],_,_,H1,rfl,I2,Zqx l1 l2 _ _ _ _ _<|zipApart_new lt1 lt2,⟨b1,b2,⟨_,_,b3⟩,b4,b5⟩,λb hb=>?_,q⟩;have hge:s1.heap.objs.size<=b:=by
  simp only[Wah,Way,or_false]at hb;rcases hb with rfl|rfl|rfl|rfl|rfl <;> omega
 exact I1.fpOk hge<|I1.hok.fresh hge
def rAll (K:W.Frag):List V->Hp->VK->Prop:=λxs H Q=>∃(p:Addr) (bs:List Bool),xs=[.ref p]/\SqL K H p (bs.map V.bl)/\Q (.bl<|bs.all id) H
theorem allK (K:W.Frag) (hc:X.calm=true) (hK:X.K=K:=by rfl):CallR X (.builtin "all") (rAll K):=by
 subst hK;intro pins s σ H xs us Q I r h;obtain⟨p,bs,rfl,hx,q⟩:=h;obtain⟨u,rfl,ru⟩:=vals1 r;cases (show u=Value.ref p from ru);obtain⟨its,w1,p1,_⟩:=I.list hx;have hlt:p<s.heap.objs.size:=by obtain⟨o,e,_⟩:=p1.isList;exact Wan e
 have hval:∀(bs:List Bool) (its:List Value),Vals (bs.map V.bl) its->its=bs.map Value.bool:=by
  intro bs
  induction bs with
  |nil=>intro its h;cases h;rfl
  |cons b r ih=>intro its h;cases h with|cons h1 h2=>cases (show _=Value.bool b from h1);rw[ih _ h2];rfl
 have e:=hval bs its w1;subst e;refine call_all_walk<|wpAny_pyIter_list p1.isList ?_;refine⟨s.heap.objs.size,_,_,_,_,_,λi=>bs.getD i false,rfl,Walks.list (prog:=X.prog) (w:=X.w) (A:=X.A.in1) (show X.A.in1.handled=none from I.ok.hd hc) s.heap.objs.size p (Wa4 hlt) (bs.map Value.bool).toArray,⟨⟨_,Wag _ rfl,rfl,rfl⟩,p1.isList.push _⟩,?_,λh' tk hk=>?_⟩
 ·intro i v s0 Q0 E0 hv hq
  have hv:(bs.map Value.bool).toArray[i]?=some v:=hv;have hv:(bs.map Value.bool)[i]?=some v:=by simpa using hv
  rw[Waj]at hv;cases z:bs[i]? with
  |none=>rw[z]at hv;cases hv
  |some b=>
   rw[z]at hv;have hv:Value.bool b=v:=by simpa using hv
   subst hv;have e0:bs.getD i false=b:=by rw[Wbk,z];rfl
   have hq:Q0 (bs.getD i false) s0:=hq;rw[e0]at hq;exact wpAny_truthy_bool hq
 ·have e:(Wb0 (bs.map Value.bool).toArray.size).all (λi=>bs.getD i false)=bs.all id:=by
   rw[Wae,Wac];rw[Wcn,Waw,Waw];constructor
   ·intro hh b hb
    obtain⟨i,hi,rfl⟩:=Wck.mp hb;have:=hh i<|Wch.mpr hi;rw[Wbk,Wab hi]at this;exact this
   ·intro hh i hi
    rw[Wch]at hi;rw[Wbk,Wab hi];exact hh _<|Wbf hi
  rw[e];have I0:Inv X pins σ H { s with heap:=s.heap.push { cls:=.type "list_iterator",data:=.fields #[.ref p,.int 0 0] },toks:=s.toks }:=I.kept λb o e=>Waa _ e;refine⟨.bl<|bs.all id,H,I0.turned (it:=s.heap.objs.size) (λb o hb e=>hk b o (by simpa using hb) e) (I.hok.fresh<|Waf _) (Wb6 I.lt) (.inr I.sz) ?_ ?_,rfl,q⟩
  ·have:=I.fpOk (b:=s.heap.objs.size) (H':=H) (Waf _) (I.hok.fresh<|Waf _)
   exact this.2.2.2.2.1
  ·have:=I.fpOk (b:=s.heap.objs.size) (H':=H) (Waf _) (I.hok.fresh<|Waf _)
   exact this.2.2.2.2.2
def rIsiU (K:W.Frag):List V->Hp->VK->Prop:=λxs H Q=>rIsi K xs H Q\/∃(x:V) (p:Addr) (ns:List String) (T:String) (b:Bool),xs=[x,.ref p]/\H p=some (.tup<|ns.map V.ty)/\TyOf K H x (.type T)/\PySem.W.kitAny K (.type T) (ns.map Value.type)=some b/\Q (.bl b) H
theorem Zju {pins:List (Addr × Obj)}{σ:St}{H:Hp}{s:Shared}{x:V}{u t:Value}(I:Inv X pins σ H s) (rx:RelV x u) (ty:TyOf X.K H x t) (nt:∃T,t=.type T):∃Hh:Heap->Prop,PySem.W.KitX X.K u t Hh/\Hh s.heap/\u≠.builtin "__main__.__loader__#opaque":=by
 cases ty with
 |non=>cases (show u=Value.none from rx);exact⟨_,PySem.W.kitx_none,True.intro,λz=>nomatch z⟩
 |bl y=>cases (show u=Value.bool y from rx);exact⟨_,PySem.W.kitx_bool,True.intro,λz=>nomatch z⟩
 |int i=>obtain⟨t,q⟩:=(show ∃t,u=Value.int i t from rx);cases q;exact⟨_,PySem.W.kitx_int,True.intro,λz=>nomatch z⟩
 |str y=>obtain⟨t,q⟩:=(show ∃t,u=Value.str y t from rx);cases q;exact⟨_,PySem.W.kitx_str,True.intro,λz=>nomatch z⟩
 |flt y=>obtain⟨t,q⟩:=(show ∃t,u=Value.float y t from rx);cases q;exact⟨_,PySem.W.kitx_float,True.intro,λz=>nomatch z⟩
 |@lst a xs ea=>
  cases (show u=Value.ref a from rx);obtain⟨_,_,n,_,h1⟩:=(show ObjOk X.prog X.w H s.heap a (.lst xs) from I.hok a _ ea);exact⟨_,PySem.W.kitx_list,⟨_,h1,rfl⟩,λz=>nomatch z⟩
 |@frz a ob xs ea=>
  cases (show u=Value.ref a from rx);obtain⟨_,_,_,n,_,h1⟩:=(show ObjOk X.prog X.w H s.heap a (.frz ob (.lst xs)) from I.hok a _ ea);exact⟨_,PySem.W.kitx_list,⟨_,h1,rfl⟩,λz=>nomatch z⟩
 |@tup a xs ea=>
  cases (show u=Value.ref a from rx);obtain⟨_,_,_,p⟩:=(show ObjOk X.prog X.w H s.heap a (.tup xs) from I.hok a _ ea);obtain⟨o,h1,⟨h2,_⟩,_⟩:=p;exact⟨_,PySem.W.kitx_tuple,⟨o,h1,h2⟩,λz=>nomatch z⟩
 |@dK a kvs ea=>
  cases (show u=Value.ref a from rx);obtain⟨_,_,vs,_,p⟩:=(show ObjOk X.prog X.w H s.heap a (.dK kvs) from I.hok a _ ea);obtain⟨o,es,ep,h1,h2,_⟩:=p;exact⟨_,PySem.W.kitx_dict,⟨o,h1,h2.1⟩,λz=>nomatch z⟩
 |@dT a kvs ea=>
  cases (show u=Value.ref a from rx);obtain⟨_,_,xs,_,o,es,ep,h1,h2,_⟩:=(show ObjOk X.prog X.w H s.heap a (.dT kvs) from I.hok a _ ea);exact⟨_,PySem.W.kitx_dict,⟨o,h1,h2.1⟩,λz=>nomatch z⟩
 |@ins a C dx fs ea cl ha hn htk hm=>obtain⟨T,e⟩:=nt;cases e
theorem isiUK (K:W.Frag) (hK:X.K=K:=by rfl):CallR X (.builtin "isinstance") (rIsiU K):=by
 subst hK;refine CallR.or Zii ?_;intro pins s σ H xs us Q I r h;obtain⟨x,p,ns,T,b,rfl,hp,ty,e,q⟩:=h;obtain⟨u,u',rfl,rx,rn⟩:=vals2 r;cases (show u'=Value.ref p from rn);obtain⟨Hh,Z,hz,hne⟩:=Zju I rx ty ⟨T,rfl⟩;obtain⟨_,its,rv,o,ho,⟨hc,n,hd⟩,hdd⟩:=I.hok p _ hp;have hv:∀(ns:List String) (its:List Value),Vals (ns.map V.ty) its->its=ns.map Value.type:=by
  intro ns
  induction ns with
  |nil=>intro its h;cases h;rfl
  |cons b r ih=>intro its h;cases h with|cons h1 h2=>cases (show _=Value.type b from h1);rw[ih _ h2];rfl
 have e2:=hv ns its rv;subst e2;obtain⟨cls,dd,data,sl⟩:=o;simp only at hc hd hdd;subst hc hd hdd;exact PySem.W.kia_tup Z I.kIn hz ho e hne λtk=>⟨.bl b,H,I.tok _,rfl,q⟩
end
section
variable {K:W.Frag}{Δ:Evt}
theorem Zmx {b:Bool}{G:Hp}{l1 l2:Addr}{xs ys:List V}{ds es:List D}(h1:∀G1 H1,Same G G1->Same G1 H1->SqB b K H1 l1 xs) (h2:∀G1 H1,Same G G1->Same G1 H1->SqB b K H1 l2 ys) (r1:Reps K G xs ds) (r2:Reps K G ys es) (hl:ds.length=es.length) :
  ItOk K G (Izb b K l1 l2) ((ds.zip es).map λp=>D.tup [p.1,p.2]):=λG1 H1 sg sh=>by
 have hl1:=r1.length;have hl2:=r2.length;have e1:=h1 G1 H1 sg sh;have e2:=h2 G1 H1 sg sh;refine⟨⟨xs,ys,e1,e2,.inl (by rw[Wac,List.length_zip];omega)⟩,λi d hd=>?_⟩;rw[Waj]at hd;cases q:(ds.zip es)[i]? with
 |none=>rw[q]at hd;cases hd
 |some pr=>
  rw[q]at hd;have hd:D.tup [pr.1,pr.2]=d:=by simpa using hd
  subst hd;rw[Wbu]at q;obtain⟨u,hu,ru⟩:=r1.get q.1;obtain⟨v,hv,rv⟩:=r2.get q.2;refine⟨⟨xs,ys,u,v,e1,e2,hu,hv⟩,λx H2 ⟨p,a,b',hp,ex,eH,hab⟩=>?_⟩;obtain⟨ha,hb⟩:=hab xs ys e1 e2;rw[hu]at ha;rw[hv]at hb;cases ha;cases hb;subst ex;subst eH;have hG:G1 p=none:=by
   cases z:G1 p with
   |none=>rfl
   |some o=>rw[sh _ _ z]at hp;cases hp
  refine⟨upd G1 p (.tup [u,v]),λc o e=>by rw[Zaj (Zak e hG)];exact e,λc o e=>by rw[Zaj (Zak e hp)];exact e,λc o e=>?_,?_⟩
  ·by_cases hc:c=p
   ·subst hc;rw[Zal]at e ⊢;exact⟨e,.inr hp⟩
   ·rw[Zaj hc]at e ⊢;exact⟨sh c o e,.inl e⟩
  ·have sg2:Same G1 (upd G1 p (.tup [u,v])):=λc o e=>by rw[Zaj (Zak e hG)];exact e
   exact .tup Zal (.cons ((ru.mono sg).mono sg2) (.cons ((rv.mono sg).mono sg2) .nil))
theorem Zq5 {ta:TA}{P:List D->Evt->Prop}(h:JA K ta Δ λds Δ1=>∃as bs,ds=[.tup as,.tup bs]/\as.length=bs.length/\P ((as.zip bs).map λp=>D.tup [p.1,p.2]) Δ1):JI K (iZip K ta) Δ P:=λg G H σ R k c=>
 h g G H σ _ k λvs ds G1 H1 Δ1 k1 s1 r1 hq_=>by
  obtain⟨as,bs,e,hl,p1⟩:=hq_;subst e;obtain⟨_,_,rfl,ra,rr⟩:=r1.inv
  next=>
   obtain⟨_,_,rfl,rb,rr⟩:=rr.inv
   next=>
    cases rr.inv;obtain⟨_,_,rfl,ha,rsa⟩:=ra.inv
    next=>
     obtain⟨_,_,rfl,hb,rsb⟩:=rb.inv
     next=>
      exact⟨true,_,_,rfl,⟨_,SqT.of<|k1.live _ _ ha⟩,⟨_,SqT.of<|k1.live _ _ hb⟩,c _ _ G1 H1 Δ1 k1 s1 (Zmx (λ_ _ sg sh=>SqT.of<|sh _ _<|sg _ _ ha) (λ_ _ sg sh=>SqT.of<|sh _ _<|sg _ _ hb) rsa rsb hl) p1⟩
theorem Zlr {bs:List Bool}{P:D->Evt->Prop}(p:P (.bl<|bs.all id) Δ):JC K (rAll K) [.lst (bs.map D.bl)] Δ P:=λg G H σ Q vs k rs c=>by
 obtain⟨_,_,rfl,r,t⟩:=rs.inv
 next=>
  cases t.inv;obtain⟨a,ws,rfl,ha,rs⟩:=r.inv
  next=>
   have e:∀(bs:List Bool) (ws:List V),Reps K G ws (bs.map D.bl)->ws=bs.map V.bl:=by
    intro bs
    induction bs with
    |nil=>intro ws h;cases h;rfl
    |cons b r ih=>intro ws h;cases h with|cons h1 h2=>cases h1;rw[ih _ h2];rfl
   have:=e bs ws rs;subst this;exact⟨_,bs,rfl,SqL.of<|k.live _ _ ha,c _ _ G H Δ k (Same.refl _) (.bl _) p⟩
theorem Zcw {d:D}{n T:String}{b:Bool}{P:D->Evt->Prop}(ht:tyD d=some T) (e:∀K,PySem.W.kitOne K (.type T) (.type n)=some b) (p:P (.bl b) Δ):JC K (rIsiU K) [d,.ty n] Δ P:=λg G H σ Q vs k rs c=>.inl<|Zs8 ht e p g G H σ Q vs k rs c
theorem Zqn {d:D}{ns:List String}{T:String}{b:Bool}{P:D->Evt->Prop}(ht:tyD d=some T) (e:∀K,PySem.W.kitAny K (.type T) (ns.map Value.type)=some b) (p:P (.bl b) Δ):JC K (rIsiU K) [d,.tup (ns.map D.ty)] Δ P:=λg G H σ Q vs k rs c=>by
 obtain⟨_,_,rfl,r,t⟩:=rs.inv
 next=>
  obtain⟨_,_,rfl,r',t⟩:=t.inv
  next=>
   cases t.inv;obtain⟨a,ws,rfl,ha,rs⟩:=r'.inv
   next=>
    have e1:∀(ns:List String) (ws:List V),Reps K G ws (ns.map D.ty)->ws=ns.map V.ty:=by
     intro ns
     induction ns with
     |nil=>intro ws h;cases h;rfl
     |cons b r ih=>intro ws h;cases h with|cons h1 h2=>cases h1;rw[ih _ h2];rfl
    have:=e1 ns ws rs;subst this;refine .inr ⟨_,a,ns,T,b,rfl,k.live _ _ ha,?_,e K,c _ _ G H Δ k (Same.refl _) (.bl b) p⟩;cases r with
    |non=>cases ht;exact .non
    |bl b=>cases ht;exact .bl b
    |int i=>cases ht;exact .int i
    |str x=>cases ht;exact .str x
    |ty n=>cases ht
    |scr ha rs=>cases ht
    |adr a=>cases ht
    |dct ha hl rs=>cases ht;exact .dK (k.live _ _ ha)
    |exc ha=>cases ht
    |excR ha hb=>cases ht
    |lst ha rs=>cases ht;exact .lst (k.live _ _ ha)
    |tup ha rs=>cases ht;exact .tup (k.live _ _ ha)
end
section
variable {prog:Program}{w:World}{A:Around}{E:Value->Shared->Prop}{s:Shared}
theorem Zpi {b:Bool}{e j a:Addr}{i:Nat}{ws:Array Value}{x old:Value}{Q:Option Value->Shared->Prop}(ge:IsEnum s.heap e j i old) (g:ItB b s.heap j a i) (l:HsB b s.heap a ws) (ex:ws[i]?=some x) (ne:e≠j)
  (q:∀h',IsEnumOut h' e j ((i:Int)+1) x s.heap.objs.size->ItB b h' j a (i+1)->h'.get? s.heap.objs.size=some { cls:=.type "tuple",data:=.seq #[.int i s.toks,x] } →
   (∀c o,c≠e->c≠j->s.heap.get? c=some o->h'.get? c=some o)->Q (some (.ref s.heap.objs.size)) { s with heap:=h',toks:=s.toks+1 }):wpAny (model prog w) A (pyNext (.ref e)) Q E s:=by
 cases b
 ·exact wpAny_pyNext_enum_item ge g l ex ne λh' b1 b2 b3 _ b4=>q h' b1 b2 b3 b4
 obtain⟨hp,g0,d,tk,os⟩:=s;have ty:Shared.TypeIs ⟨hp,g0,d,tk,os⟩ (.ref e) "enumerate":=⟨_,ge,rfl⟩;unfold pyNext;refine wpAny_bind<|wpAny_attempt<|wpAny_callSpecial?_slot (name:=Str.ofString "__next__") ty F.slot_enumerate_next<|wpAny_call_entry F.slot_enumerate_next ty F.entry_enumerate_next ?_<|F.args_enumerate_next_1 _;refine(show wpAny _ _ (field (.ref e) 2 >>= _) _ _ _ from wpAny_bind (wpAny_field ge rfl (x:=.ref j) rfl<|wpAny_bind (Zet (b:=true) g l ex λh₁ g₁ s₁=>?_)))
 replace s₁:Heap.SameBut j hp h₁:=s₁
 have e₁:IsEnum h₁ e j i old:=(s₁.2 e ne).trans ge;refine(show wpAny _ _ (field (.ref e) 3 >>= _) _ _ ⟨h₁,g0,d,tk,os⟩ from wpAny_bind (wpAny_field e₁ rfl (x:=rawInt i) rfl ?_));refine(show wpAny _ _ (field (.ref e) 4 >>= _) _ _ ⟨h₁,g0,d,tk,os⟩ from wpAny_bind (wpAny_field e₁ rfl (x:=.none) rfl ?_));refine(show wpAny _ _ (mkInt i >>= _) _ _ ⟨h₁,g0,d,tk,os⟩ from wpAny_bind (wpAny_mkInt ?_));refine(show wpAny _ _ (setField (.ref e) 3 (rawInt ((i:Int)+1)) >>= _) _ _ ⟨h₁,g0,d,tk+1,os⟩ from wpAny_bind (wpAny_setField_rec e₁ (by simp) λh₂ e₂ s₂=>?_))
 replace s₂:Heap.SameBut e h₁ h₂:=s₂
 replace e₂:IsEnum h₂ e j ((i:Int)+1) old:=e₂
 refine(show wpAny _ _ (setField (.ref e) 4 .none >>= _) _ _ ⟨h₂,g0,d,tk+1,os⟩ from wpAny_bind (wpAny_setField_rec e₂ (by simp) λh₃ e₃ s₃=>?_))
 replace s₃:Heap.SameBut e h₂ h₃:=s₃
 replace e₃:IsEnum h₃ e j ((i:Int)+1) old:=e₃
 refine(show wpAny _ _ (newTuple [.int i tk,x] >>= _) _ _ ⟨h₃,g0,d,tk+1,os⟩ from wpAny_bind (wpAny_newTuple ?_));have e₄:IsEnum (h₃.push { cls:=.type "tuple",data:=.seq #[.int i tk,x] }) e j ((i:Int)+1) old:=Waa _ e₃;generalize eh₄:h₃.push { cls:=.type "tuple",data:=.seq #[.int i tk,x] } = h₄ at e₄;have n3:h₃.objs.size=hp.objs.size:=by rw[s₃.1,s₂.1,s₁.1]
 have el:e<hp.objs.size:=Wan ge;have t₄:h₄.get? hp.objs.size=some { cls:=.type "tuple",data:=.seq #[.int i tk,x] }:=by rw[<- eh₄,<- n3];exact Wag _ rfl
 have k₄:∀c o,c≠e->c≠j->hp.get? c=some o->h₄.get? c=some o:=λc o c1 c2 z=>by rw[<- eh₄];exact Waa _<|s₃.extBut c o c1<|s₂.extBut c o c1<|s₁.extBut c o c2 z
 have g₄:ItB true h₄ j a (i+1):=by rw[<- eh₄];exact((g₁.off s₂.extBut<|Ne.symm ne).off s₃.extBut (Ne.symm ne)).at λo z=>Waa _ z
 refine(show wpAny _ _ (Builtin.SmallTypes.ownedTupleIsFree (.ref e) >>= _) _ _ ⟨h₄,g0,d,tk+1,os⟩ from ?_);rw[n3];clear eh₄ e₃ s₃ e₂ s₂ e₁ s₁ g₁ n3 h₃ h₂ h₁;refine wpAny_bind ?_;unfold Builtin.SmallTypes.ownedTupleIsFree;refine wpAny_bind<|wpAny_field e₄ rfl (x:=.none) rfl<|wpAny_pure ?_;simp only[if_true];refine wpAny_bind<|wpAny_rule<|wpAny_bind<|wpAny_field e₄ rfl (x:=old) rfl<|wpAny_bind (wpAny_setField_rec e₄ (by simp) λh₅ e₅ s₅=>?_)
 replace s₅:Heap.SameBut e h₄ h₅:=s₅
 replace e₅:IsEnum h₅ e j ((i:Int)+1) x:=e₅
 refine(show wpAny _ _ (Builtin.SmallTypes.ownedTupleHandOut (.ref e) (.ref hp.objs.size) >>= _) _ _ ⟨h₅,g0,d,tk+1,os⟩ from wpAny_bind ?_);unfold Builtin.SmallTypes.ownedTupleHandOut;refine wpAny_bind (wpAny_setField_rec e₅ (by simp) λh₆ e₆ s₆=>?_)
 replace s₆:Heap.SameBut e h₅ h₆:=s₆
 replace e₆:IsEnumOut h₆ e j ((i:Int)+1) x hp.objs.size:=e₆
 refine wpAny_setField_rec e₆ (by simp) λh₇ e₇ s₇=>?_
 replace s₇:Heap.SameBut e h₆ h₇:=s₇
 replace e₇:IsEnumOut h₇ e j ((i:Int)+1) x hp.objs.size:=e₇
 have up:∀c o,c≠e->h₄.get? c=some o->h₇.get? c=some o:=λc o c1 z=>s₇.extBut c o c1<|s₆.extBut c o c1<|s₅.extBut c o c1 z;exact wpAny_bind<|wpAny_letGo<|wpAny_pure ⟨_,rfl,wpAny_pure (q h₇ e₇ (g₄.at λo z=>up j o (Ne.symm ne) z) (up _ _ (Wb6 el) t₄) λc o c1 c2 z=>up c o c1<|k₄ c o c1 c2 z)⟩
theorem Zs5 {b:Bool}{e j a:Addr}{i:Nat}{ws:Array Value}{old:Value}{Q:Option Value->Shared->Prop}(hh:A.handled=none) (ge:IsEnum s.heap e j i old) (g:ItB b s.heap j a i) (l:HsB b s.heap a ws) (ex:ws[i]?=none)
  (q:∀h',Heap.ExtBut j s.heap h' -> Q none { s with heap:=h' }):wpAny (model prog w) A (pyNext (.ref e)) Q E s:=by
 have ty:s.TypeIs (.ref e) "enumerate":=⟨_,ge,rfl⟩;unfold pyNext;refine wpAny_bind<|wpAny_attempt<|wpAny_callSpecial?_slot (name:=Str.ofString "__next__") ty F.slot_enumerate_next<|wpAny_call_entry F.slot_enumerate_next ty F.entry_enumerate_next ?_<|F.args_enumerate_next_1 _;refine(show wpAny _ _ (field (.ref e) 2 >>= _) _ _ _ from wpAny_bind (wpAny_field ge rfl (x:=.ref j) rfl<|wpAny_bind (Zi3 hh g l ex λh' x e' ⟨o,ho,hc⟩=>?_)));exact wpAny_bind<|wpAny_isInstance (T:="StopIteration") (b:=true) ⟨o,ho,hc⟩ isSubtype_stop<|wpAny_pure<|q _ e'
theorem Zn8 (a:Addr) (ws:Array Value) (n:Nat) (dct:Option Addr) (sl:Array (Option Value)) :
  Meets (Builtin.«enumerate.__new__» ⟨[.type "enumerate",.ref a],[]⟩) (λ_ R s=>s.heap.get? a=some ⟨.type "tuple",dct,.seq ws n,sl⟩ ∧
   R (.ok (.ret (.ref (zt1 s.heap a).objs.size))) { s with heap:=(zt1 s.heap a).push ⟨.type "enumerate",none,.fields #[.none,.bool false,.ref s.heap.objs.size,rawInt 0,.none,.none],#[]⟩ }):=.of_wp λprog w A R s h=>by
 obtain⟨hp,g,d,tk,os⟩:=s;obtain⟨l,h⟩:=h;have sub0:=sub_enumerate;have t0:Heap.IsTuple (Shared.heap ⟨hp,g,d,tk,os⟩) a ws:=⟨_,l,rfl,n,rfl⟩
 wp_walk using AutoSeq1.wpAny_loadPart' l
 refine wpAny_stack_any λst=>wpAny_pure ?_;split
 ·rename_i c _ _ _ _ _
  cases (c == Value.type "enumerate") <;> (wp_walk using AutoSeq1.wpAny_loadPart' l,wpAny_pyIter_tuple t0;exact⟨_,rfl,h⟩)
 ·wp_walk using AutoSeq1.wpAny_loadPart' l,wpAny_pyIter_tuple t0
  exact⟨_,rfl,h⟩
theorem Zpe {b:Bool}{a:Addr}{ws:Array Value}{Q:Value->Shared->Prop}(l:HsB b s.heap a ws)
  (q:∀h',IsEnum h' (s.heap.objs.size+1) s.heap.objs.size 0 .none->ItB b h' s.heap.objs.size a 0->(∀c o,s.heap.get? c=some o->h'.get? c=some o)->Q (.ref<|s.heap.objs.size+1) { s with heap:=h' }):wpAny (model prog w) A (call (.type "enumerate") [.ref a]) Q E s:=by
 cases b
 ·exact call_enumerate_list l λh' b1 b2 _ b3=>q h' b1 b2 b3
 ·obtain⟨⟨oc,od,oda,os⟩,l1,hc,n,hd⟩:=l
  dsimp only at hc hd;subst hc hd;refine callType_new F.called_enumerate (by decide) (F.typeCall_enumerate_1 _) (F.newCall_enumerate_1 _) (λobj=>F.args_object_init_2 obj _) F.entry_enumerate_new (Zn8 a ws n od os) ⟨l1,?_⟩;have z1:(zt1 s.heap a).objs.size=s.heap.objs.size+1:=Wbj ..;show _/\_;rw[z1];have he:IsEnum ((zt1 s.heap a).push ⟨.type "enumerate",none,.fields #[.none,.bool false,.ref s.heap.objs.size,rawInt 0,.none,.none],#[]⟩) (s.heap.objs.size+1) s.heap.objs.size 0 .none:=by
   rw[<- z1];exact Wag _ rfl
  exact⟨⟨_,he,rfl⟩,q _ he ⟨_,Waa _<|Wag _ rfl,rfl,rfl⟩ λc o z=>Waa _<|Waa _ z⟩
end
def Ieb (b:Bool) (K:W.Frag) (l:Addr):It:=
 ⟨λi H=>∃xs x,SqB b K H l xs/\xs[i]?=some x,
  λi H v H'=>∃p x,H p=none/\v=.ref p/\H'=upd H p (.tup [.int (i:Int),x])/\∀xs,SqB b K H l xs->xs[i]?=some x,
  λi H=>∃xs,SqB b K H l xs/\xs.length<=i⟩
theorem Zpw {b:Bool}{P:Program}{w:World}{K:W.Frag}{es:List Expr}{kk:Nat}{tp:Pos}(l z j:Addr) (D:z≠j):Turn P w K (.Tuple es kk tp) (Ieb b K l) [z,j] z
  (λi h=>(∃old,IsEnum h z j i old)/\ItB b h j l i) where
 mem:=by simp
 obj:=λi h st b2 hb=>by
  obtain⟨⟨old,hz⟩,h1⟩:=st;obtain⟨o1,e1,d1⟩:=h1.obj;simp only[Wah,Way,or_false]at hb;rcases hb with rfl|rfl
  ·exact⟨_,hz,λv q=>by cases q⟩
  ·exact⟨o1,e1,λv q=>by rw[d1]at q;cases q⟩
 keep:=λi h h' st k=>by
  obtain⟨⟨old,hz⟩,h1⟩:=st;exact⟨⟨old,k z (by simp) _ hz⟩,h1.at λo e=>k j (by simp) o e⟩
 item:=by
  intro X hP hw hK hc i pins s σ H E I hf st hg;subst hP hw hK;obtain⟨⟨old,hz⟩,h1⟩:=st;obtain⟨xs,x,hq1,hx⟩:=hg;obtain⟨its1,r1,p1⟩:=I.seqB hq1;obtain⟨u1,hu1,ru1⟩:=r1.get hx;refine Zpi hz h1 p1 (x:=u1) (by simpa using hu1) D λh' b1 b2 b3 hk=>?_;refine⟨_,rfl,wpAny_letOwnedTupleGo_enum (s:={ s with heap:=h',toks:=s.toks+1 }) b1 λh'' hz'' hs''=>?_⟩;have lt:∀{c o},s.heap.get? c=some o->c≠s.heap.objs.size:=λe=>Wa4<|Wan e;have hTz:s.heap.objs.size≠z:=Ne.symm<|lt hz;have hTfree:H s.heap.objs.size=none:=I.hok.fresh<|Waf _;have kept:∀c o,c ∉ [z,j]->s.heap.get? c=some o->h''.get? c=some o:=λc o hc e=>by
   simp only[Wah,Way,or_false,not_or]at hc;exact hs''.extBut _ _ hc.1<|hk c o hc.1 hc.2 e
  have hT:h''.get? s.heap.objs.size=some { cls:=.type "tuple",data:=.seq #[.int i s.toks,u1] }:=hs''.extBut _ _ hTz b3;have ntr:∀c o,H c=some o->c ∉ [z,j]:=λc o e hc=>by rw[(hf c hc).1]at e;cases e
  have hok:HOk X.prog X.w (upd H s.heap.objs.size (.tup [.int (i:Int),x])) h'':=λc o e=>by
   by_cases hcT:c=s.heap.objs.size
   ·subst hcT
    rw[Zal]at e;cases e;exact⟨by show 2<=sizeLine;decide,[.int i s.toks,u1],.cons ⟨_,rfl⟩ (.cons ru1 .nil),_,hT,⟨rfl,_,rfl⟩,rfl⟩
   ·rw[Zaj hcT]at e
    refine(I.hok c o e).stay (λd v hd q=>kept d v ?_ q) (λd q=>by rw[Zaj (Zak q hTfree)];exact q) λd zs q=>by rw[Zaj (Zak q hTfree)];exact q
    rcases hd with hd|hd
    ·rw[hd];exact ntr c o e
    ·exact ntr d _ hd
  have I2:Inv X pins σ (upd H s.heap.objs.size (.tup [.int (i:Int),x])) { s with heap:=h'',toks:=s.toks+1 }:=by
   refine I.call (g':=s.gens) (t':=s.toks+1) (d':=s.drawn) (ch:=[z,j]) ⟨λc o e n hc hx=>kept c o hx e,λc o e n hc hx=>⟨o.slots,kept c o hx e⟩,λc o e n hx=>by rw[Zaj (lt e)];exact n,λc o e hx=>⟨o,kept c o hx e⟩,
    λc zs q=>by rw[Zaj (Zak q hTfree)];exact q,λc o zs q=>by rw[Zaj (Zak q hTfree)];exact q,λc zs q=>⟨#[],by rw[Zaj (Zak q hTfree),q];simp⟩⟩ hok I.bare λc hcc=>?_
   obtain⟨f0,f1,f2,f3,f4,f5⟩:=hf c hcc;exact⟨f3,f1,f4,f5⟩
  refine⟨.ref s.heap.objs.size,_,I2,rfl,⟨s.heap.objs.size,x,hTfree,rfl,rfl,λxs' q1=>?_⟩,⟨⟨_,by have:=hz'';push_cast at this ⊢;exact this⟩,b2.off hs''.extBut<|Ne.symm D⟩,λc hcc=>?_⟩
  ·rw[I.seqB_inj q1 hq1];exact hx
  ·have hcl:c≠s.heap.objs.size:=by
    simp only[Wah,Way,or_false]at hcc;obtain⟨_,e1,_⟩:=h1.obj;rcases hcc with rfl|rfl
    ·exact lt hz
    ·exact lt e1
   rw[Zaj hcl];exact(hf c hcc).1
 done:=by
  intro X hP hw hK hc i pins s σ H E I hf st hg;subst hP hw hK;obtain⟨⟨old,hz⟩,h1⟩:=st;obtain⟨xs,hq1,hend⟩:=hg;obtain⟨its1,r1,p1⟩:=I.seqB hq1;have l1':=r1.length;refine Zs5 (I.ok.hd hc) hz h1 p1 (by simp;omega) λh' hk=>⟨rfl,?_⟩;have kept:∀c o,c ∉ [z,j]->s.heap.get? c=some o->h'.get? c=some o:=λc o hc e=>by
   simp only[Wah,Way,or_false,not_or]at hc;exact hk c o hc.2 e
  have ntr:∀c o,H c=some o->c ∉ [z,j]:=λc o e hc=>by rw[(hf c hc).1]at e;cases e
  refine I.call (g':=s.gens) (t':=s.toks) (d':=s.drawn) (ch:=[z,j]) ⟨λc o e n hc hx=>kept c o hx e,λc o e n hc hx=>⟨o.slots,kept c o hx e⟩,λc o e n hx=>n,λc o e hx=>⟨o,kept c o hx e⟩,
   λc zs q=>q,λc o zs q=>q,λc zs q=>⟨#[],by rw[q];simp⟩⟩ (λc o e=>?_) I.bare λc hcc=>?_
  ·refine(I.hok c o e).stay (λd v hd q=>kept d v ?_ q) (λd q=>q) λd zs q=>q
   rcases hd with hd|hd
   ·rw[hd];exact ntr c o e
   ·exact ntr d _ hd
  ·obtain⟨f0,f1,f2,f3,f4,f5⟩:=hf c hcc
   exact⟨f3,f1,f4,f5⟩
 self:=λ_ _ _ _ _ st h=>by
  obtain⟨⟨old,hz⟩,_⟩:=st;exact wpAny_pyIter_enum hz h
theorem Zd8:bootBuiltins "enumerate" = some (.type "enumerate"):=by kernel_rfl
section
variable {X:Cx}
def iEnum (K:W.Frag) (ta:TA):TI:=λσ H R=>ta σ H λvs H1=>∃b l,vs=[.ref l]/\(∃xs,SqB b K H1 l xs)/\R (Ieb b K l) H1
theorem Zd3 (K:W.Frag) {es:List Expr}{kk:Nat}{tp:Pos}{a:Expr}{ta:TA}{p pos:Pos}(hg:Gl X "enumerate") (hm:X.mg "enumerate" = none) (ha:PA X [a] ta) (hs:starEach [a] X.env=[(false,eval a X.env)]:=by rfl) (hs2:starEach [] X.env=[]:=by rfl) (hK:X.K=K:=by rfl) :
  PI X (.Tuple es kk tp) (.Call (.Name "enumerate" p) [a] [] pos) (iEnum K ta):=by
 subst hK;intro pins s σ H R I h;refine Call_<|Zd2 I hg hm (Zd8)<|PyProof.Rows.callWith_type1 (thn (ha pos pins s σ H _ I h) λus s1 ⟨vs,H1,I1,r1,q1⟩=>?_) (by rw[hs,hs2]) (by rw[hs2];rfl);obtain⟨b,l1,e,⟨xs,hx⟩,q⟩:=q1;subst e;obtain⟨u1,rfl,q1⟩:=vals1 r1;cases (show u1=Value.ref l1 from q1);obtain⟨its1,w1,p1⟩:=I1.seqB hx;refine Zpe p1 λh' b1 b2 hk=>?_;refine wpAny_pyIter_enum b1 ?_;have I2:Inv X pins σ H1 { s1 with heap:=h' }:=I1.kept (t':=s1.toks) hk;refine⟨s1.heap.objs.size+1,[s1.heap.objs.size+1,s1.heap.objs.size],_,_,H1,rfl,I2,Zpw l1 _ _<|Nat.succ_ne_self _,⟨⟨_,b1⟩,b2⟩,λb hb=>?_,q⟩;have hge:s1.heap.objs.size<=b:=by
  simp only[Wah,Way,or_false]at hb;rcases hb with rfl|rfl <;> omega
 exact I1.fpOk hge<|I1.hok.fresh hge
def rMin1 (K:W.Frag):List V->Hp->VK->Prop:=λxs H Q=>∃(b:Bool) (p:Addr) (ns:List Int),xs=[.ref p]/\SqB b K H p (ns.map V.int)/\0<ns.length/\∀m,m∈ns->(∀a∈ns,m<=a)->Q (.int m) H
theorem minK (K:W.Frag) (hc:X.calm=true) (hK:X.K=K:=by rfl):CallR X (.builtin "min") (rMin1 K):=by
 subst hK;intro pins s σ H xs us Q I r h;obtain⟨b,p,ns,rfl,hx,hne,q⟩:=h;obtain⟨u,rfl,ru⟩:=vals1 r;cases (show u=Value.ref p from ru);obtain⟨its,w1,p1⟩:=I.seqB hx;have hlt:=p1.lt;have hl:=w1.length;rw[Wac]at hl;have hv:∀(i:Nat) v,its.toArray[i]?=some v->∃t,v=Value.int (ns.getD i 0) t:=λi v e=>by
  have hi:i<its.length:=by simpa using (Array.getElem?_eq_some_iff.mp e).1
  obtain⟨v',e1,t,e2⟩:=w1.get (i:=i) (x:=.int<|ns.getD i 0) (by rw[Waj,Wbk,Wab (by omega)];rfl);rw[List.getElem?_toArray,e1]at e;cases e;exact⟨t,e2⟩
 have fin:∀{h':Heap}{tk:Nat}{v:Value},its.toArray[argBest (λi j=>decide (ns.getD i 0<ns.getD j 0)) (its.toArray.size-1)]?=some v->(∀c o,s.heap.get? c=some o->h'.get? c=some o)->EP X pins σ Q v { s with heap:=h',toks:=tk }:=λ{h' tk v} hP hk=>by
  obtain⟨t,rfl⟩:=hv _ _ hP;obtain⟨h1,h2⟩:=argBest_lt (λi=>ns.getD i 0)<|its.toArray.size-1;have hz:its.toArray.size=ns.length:=by simp[hl]
  rw[hz]at h1 h2 ⊢;refine⟨.int<|ns.getD (argBest (λi j=>decide (ns.getD i 0<ns.getD j 0))<|ns.length-1) 0,H,I.kept hk,⟨_,rfl⟩,q _ ?_ λa ha=>?_⟩
  ·rw[Wbk,Wab (by omega)];exact Wbf _
  ·obtain⟨j,hj,rfl⟩:=Wck.mp ha
   have:=h2 j (by omega);rw[Wbk (l:=ns) (i:=j),Wab hj]at this;exact this
 have old:∀{o:Obj}{h':Heap},(∀c u,c ∉ [s.heap.objs.size]->(s.heap.push o).get? c=some u->h'.get? c=some u)->∀c u,s.heap.get? c=some u->h'.get? c=some u:=λhk c u e=>hk c u (λhm=>by
  have:c=s.heap.objs.size:=by simpa using hm
  exact absurd (this ▸ Wan e) (Wcb _)) (Waa _ e)
 have fp:∀o:Obj,∀c∈[s.heap.objs.size,p],c<(s.heap.push o).objs.size:=λo c hc=>by
  rw[Wbj];simp only[Wah,Way,or_false]at hc;rcases hc with rfl|rfl
  ·exact Nat.lt_succ_self _
  ·exact Wdc hlt
 cases b
 ·refine call_min_walk (wpAny_pyIter_list p1 ?_)
  exact⟨_,_,_,_,_,_,_,rfl,Walks.list (A:=X.A.in1) (I.ok.hd hc) _ p (Wa4 hlt) its.toArray,⟨⟨_,Wag _ rfl,rfl,rfl⟩,Heap.IsList.push p1 _⟩,fp _,by simp;omega,CmpOf.ints_lt (λi=>ns.getD i 0) hv,λv h' tk hP hk=>fin hP<|old hk⟩
 ·refine call_min_walk (wpAny_pyIter_tuple p1 ?_)
  exact⟨_,_,_,_,_,_,_,rfl,Walks.tuple (A:=X.A.in1) (I.ok.hd hc) _ p (Wa4 hlt) its.toArray,⟨⟨_,Wag _ rfl,rfl,rfl⟩,Heap.IsTuple.push p1 _⟩,fp _,by simp;omega,CmpOf.ints_lt (λi=>ns.getD i 0) hv,λv h' tk hP hk=>fin hP<|old hk⟩
end
section
variable {K:W.Frag}{Δ:Evt}
theorem Zqf {ns:List Int}{m:Int}{d:D}{P:D->Evt->Prop}(hd:d=.lst (ns.map .int)\/d=.tup (ns.map .int)) (hm:m∈ns) (hle:∀a∈ns,m<=a) (p:P (.int m) Δ):JC K (rMin1 K) [d] Δ P:=λg G H σ Q vs k rs c=>by
 have fin:∀m',m'∈ns->(∀a∈ns,m' <= a)->Q (.int m') H:=λm' h1 h2=>by
  have:m'=m:=Int.le_antisymm (h2 m hm)<|hle m' h1;subst this;exact c _ _ G H Δ k (Same.refl _) (.int _) p
 have pos:0<ns.length:=List.length_pos_of_mem hm;obtain⟨_,_,rfl,r,t⟩:=rs.inv
 next=>
  cases t.inv;rcases hd with hd|hd <;> subst hd
  ·obtain⟨_,_,rfl,ha,rs⟩:=r.inv
   next=>have:=rs.ints;subst this;exact⟨false,_,ns,rfl,SqL.of<|k.live _ _ ha,pos,fin⟩
  ·obtain⟨_,_,rfl,ha,rs⟩:=r.inv
   next=>have:=rs.ints;subst this;exact⟨true,_,ns,rfl,SqT.of<|k.live _ _ ha,pos,fin⟩
def enD (ds:List D):List D:=ds.zipIdx.map λp=>D.tup [.int (p.2:Int),p.1]
theorem Zj4 (ds:List D):(enD ds).length=ds.length:=by unfold enD;rw[Wac,List.length_zipIdx]
theorem Zmq {ds:List D}{i:Nat}{e:D}(h:(enD ds)[i]?=some e):∃d,ds[i]?=some d/\e=.tup [.int (i:Int),d]:=by
 unfold enD at h;rw[Waj,List.getElem?_zipIdx]at h;cases q:ds[i]? with
 |none=>rw[q]at h;cases h
 |some d=>rw[q]at h;refine⟨d,rfl,?_⟩;simpa using h.symm
theorem Zhe {b:Bool}{G:Hp}{l1:Addr}{xs:List V}{ds:List D}(h1:∀G1 H1,Same G G1->Same G1 H1->SqB b K H1 l1 xs) (r1:Reps K G xs ds):ItOk K G (Ieb b K l1) (enD ds):=λG1 H1 sg sh=>by
 have hl1:=r1.length;have e1:=h1 G1 H1 sg sh;refine⟨⟨xs,e1,by rw[Zj4];omega⟩,λi d hd=>?_⟩;obtain⟨d0,q,rfl⟩:=Zmq hd;obtain⟨u,hu,ru⟩:=r1.get q;refine⟨⟨xs,u,e1,hu⟩,λx H2 ⟨p,a,hp,ex,eH,hab⟩=>?_⟩;have ha:=hab xs e1;rw[hu]at ha;cases ha;subst ex;subst eH;have hG:G1 p=none:=by
  cases z:G1 p with
  |none=>rfl
  |some o=>rw[sh _ _ z]at hp;cases hp
 refine⟨upd G1 p (.tup [.int (i:Int),u]),λc o e=>by rw[Zaj (Zak e hG)];exact e,λc o e=>by rw[Zaj (Zak e hp)];exact e,λc o e=>?_,?_⟩
 ·by_cases hc:c=p
  ·subst hc;rw[Zal]at e ⊢;exact⟨e,.inr hp⟩
  ·rw[Zaj hc]at e ⊢;exact⟨sh c o e,.inl e⟩
 ·have sg2:Same G1 (upd G1 p (.tup [.int (i:Int),u])):=λc o e=>by rw[Zaj (Zak e hG)];exact e
  exact .tup Zal (.cons (.int _) (.cons ((ru.mono sg).mono sg2) .nil))
theorem Zqh {ta:TA}{P:List D->Evt->Prop}(h:JA K ta Δ λds Δ1=>∃as,(ds=[.lst as]\/ds=[.tup as])/\P (enD as) Δ1):JI K (iEnum K ta) Δ P:=λg G H σ R k c=>
 h g G H σ _ k λvs ds G1 H1 Δ1 k1 s1 r1 hq_=>by
  obtain⟨as,e,p1⟩:=hq_;rcases e with e|e
  ·subst e
   obtain⟨_,_,rfl,ra,rr⟩:=r1.inv
   next=>
    cases rr.inv;obtain⟨_,_,rfl,ha,rsa⟩:=ra.inv
    next=>exact⟨false,_,rfl,⟨_,SqL.of<|k1.live _ _ ha⟩,c _ _ G1 H1 Δ1 k1 s1 (Zhe (λ_ _ sg sh=>SqL.of<|sh _ _<|sg _ _ ha) rsa) p1⟩
  ·subst e
   obtain⟨_,_,rfl,ra,rr⟩:=r1.inv
   next=>
    cases rr.inv;obtain⟨_,_,rfl,ha,rsa⟩:=ra.inv
    next=>exact⟨true,_,rfl,⟨_,SqT.of<|k1.live _ _ ha⟩,c _ _ G1 H1 Δ1 k1 s1 (Zhe (λ_ _ sg sh=>SqT.of<|sh _ _<|sg _ _ ha) rsa) p1⟩
end
open PySem PySem.Spec PyProof.Rows PySem.SeqAt
section
variable {X:Cx}
def rInU (K:W.Frag) (neg:Bool):R2:=λx y H Q=>rIn K neg x y H Q\/(∃a o,y=.ref a/\DGet H a x o/\Q (.bl (if neg then !o.isSome else o.isSome)) H) ∨
 ∃a S n i,y=.ref a/\x=.int i/\H a=some (.set S n)/\Q (.bl (if neg then !S i else S i)) H
theorem inK (K:W.Frag) (hu:X.A.units+1<cLine) (hK:X.K=K:=by rfl):OpR X (compareOp .In) (rInU K false):=by
 subst hK;intro pins s σ H x y v u Q I rx ry h;rcases h with h|⟨a,o,rfl,hd,q⟩|⟨a,S,n,i,rfl,rfl,hs,q⟩
 ·exact Zl9 pins s σ H x y v u Q I rx ry h
 ·cases ry
  exact d_in hu I hd rx λs' I'=>⟨.bl _,H,I',rfl,q⟩
 ·cases ry
  obtain⟨t,rfl⟩:=rx;exact wpAny_inSet_of (knd:=intKind X.prog X.w) (k:=i) (by simp[intKind,Value.isInt]) rfl (I.hok a _ hs) ⟨.bl _,H,I.tok _,rfl,q⟩
end
theorem Zf4 {A:Around}{k:Nat}(hr:Room k A):A.units+8<cLine:=Wbm (Wcp (by decide:8<=64) _) hr.units
open PySem PySem.Spec PyProof.Rows PySem.SeqAt
def flatD:D->Option V
 |.non=>some .non
 |.bl b=>some (.bl b)
 |.int i=>some (.int i)
 |.str x=>some (.str x)
 |_=>none
def eqFlat (d e:D):Bool:=match flatD d,flatD e with
 |some x,some y=>eqV x y
 |_,_=>false
def eqF:Nat->D->D->Bool
 |0,_,_=>false
 |n+1,.tup xs,.tup ys=>xs.length == ys.length && (xs.zip ys).all λp=>eqF n p.1 p.2
 |n+1,.lst xs,.lst ys=>xs.length == ys.length && (xs.zip ys).all λp=>eqF n p.1 p.2
 |_+1,d,e=>eqFlat d e
def Dp:Nat->D->Prop
 |0,_=>False
 |_+1,.int _=>True
 |n+1,.tup xs=>∀d∈xs,Dp n d
 |n+1,.lst xs=>∀d∈xs,Dp n d
 |_,_=>False
theorem Rep.uniq {K:W.Frag}{G:Hp}:∀(n:Nat) {v:V}{d e:D},Rep K G v d->Rep K G v e->Dp n d->Dp n e->d=e
 |0,_,_,_,_,_,h,_=>h.elim
 |n+1,v,d,e,hd,he,pd,pe=>by
  have all:∀{vs:List V}{xs ys:List D},Reps K G vs xs->Reps K G vs ys->(∀d∈xs,Dp n d)->(∀d∈ys,Dp n d)->xs=ys:=by
   intro vs
   induction vs with
   |nil=>intro xs ys h1 h2 _ _;cases h1;cases h2;rfl
   |cons v vs ih=>
    intro xs ys h1 h2 p1 p2;cases h1 with
    |cons a1 b1=>
     cases h2 with
     |cons a2 b2=>
      rw[Rep.uniq n a1 a2 (p1 _ Waq) (p2 _ Waq),ih b1 b2 (λd hd=>p1 d<|Wal _ hd) λd hd=>p2 d (Wal _ hd)]
  cases d with
  |int i=>cases hd;cases he;rfl
  |tup xs=>
   cases hd with
   |tup ha ra=>
    cases e with
    |tup ys=>cases he with|tup hb rb=>rw[ha]at hb;cases hb;rw[all ra rb pd pe]
    |lst ys=>cases he with|lst hb rb=>rw[ha]at hb;cases hb
    |int i=>cases he
    |_=>exact pe.elim
  |lst xs=>
   cases hd with
   |lst ha ra=>
    cases e with
    |lst ys=>cases he with|lst hb rb=>rw[ha]at hb;cases hb;rw[all ra rb pd pe]
    |tup ys=>cases he with|tup hb rb=>rw[ha]at hb;cases hb
    |int i=>cases he
    |_=>exact pe.elim
  |_=>exact pd.elim
theorem Zeg:∀(n:Nat) (d:D),Dp n d->eqF n d d=true
 |0,_,h=>h.elim
 |n+1,.int i,_=>by show (i == i)=true;simp
 |n+1,.tup xs,h=>by
  show (xs.length == xs.length && (xs.zip xs).all λp=>eqF n p.1 p.2)=true;rw[beq_self_eq_true,Bool.true_and,Waw];intro p hp;obtain⟨i,hi⟩:=List.mem_iff_getElem?.mp hp;rw[Wbu]at hi;have e:p.1=p.2:=Wat.inj<|hi.1.symm.trans hi.2;rw[<- e];exact Zeg n _<|h _<|Waz hi.1
 |n+1,.lst xs,h=>by
  show (xs.length == xs.length && (xs.zip xs).all λp=>eqF n p.1 p.2)=true;rw[beq_self_eq_true,Bool.true_and,Waw];intro p hp;obtain⟨i,hi⟩:=List.mem_iff_getElem?.mp hp;rw[Wbu]at hi;have e:p.1=p.2:=Wat.inj<|hi.1.symm.trans hi.2;rw[<- e];exact Zeg n _<|h _<|Waz hi.1
 |_+1,.non,h=>h.elim
 |_+1,.bl _,h=>h.elim
 |_+1,.str _,h=>h.elim
 |_+1,.ty _,h=>h.elim
 |_+1,.scr _,h=>h.elim
 |_+1,.adr _,h=>h.elim
 |_+1,.dct _ _,h=>h.elim
 |_+1,.exc _ _,h=>h.elim
 |_+1,.excR _ _ _,h=>h.elim
def atZip (n:Nat) (xs ys:List D) (j:Nat):Bool:=match xs[j]?,ys[j]? with
 |some a,some b=>eqF n a b
 |_,_=>false
theorem Zid (n:Nat):∀(xs ys:List D),(Wb0<|min xs.length ys.length).all (atZip n xs ys)=(xs.zip ys).all λp=>eqF n p.1 p.2
 |[],ys=>by simp
 |_::_,[]=>by simp
 |x::xs,y::ys=>by
  rw[Wak,Wak,Nat.succ_min_succ,List.range_succ_eq_map,Wcv,List.all_map,Wda,Wcv,<- Zid n xs ys];rfl
section
variable {X:Cx}
theorem Zo3:∀(n:Nat) {A:Around}{pins:List (Addr × Obj)}{σ:St}{H G:Hp}{s:Shared}{x y:V}{v u:Value}{d e:D},Inv X pins σ H s->Same G H->Rep X.K G x d->Rep X.K G y e->RelV x v->RelV y u->Dp n d->Dp n e->A.units+n<cLine →
  EqAt A s v u (eqF n d e)/\(∀a b,v=.ref a->u=.ref b->RcAt A s v u (eqF n d e))
 |0,_,_,_,_,_,_,_,_,_,_,_,_,_,_,_,_,_,_,h,_,_=>h.elim
 |n+1,A,pins,σ,H,G,s,x,y,v,u,d,e,I,sg,rx,ry,rv,ru,pd,pe,hu=>by
  have hu0:A.units<cLine:=by omega
  have hu1:A.in1.units+n<cLine:=by show A.units+1+n<cLine;omega
  have items:∀{vs us:List V}{its its2:List Value}{xs ys:List D},Vals vs its->Vals us its2->Reps X.K G vs xs->Reps X.K G us ys->(∀d∈xs,Dp n d)->(∀d∈ys,Dp n d) →
    ∀j (h1:j<its.toArray.size) (h2:j<its2.toArray.size),EqAt A.in1 s its.toArray[j] its2.toArray[j] (atZip n xs ys j):=by
   intro vs us its its2 xs ys w1 w2 r1 r2 p1 p2 j h1 h2;have l1:=w1.length;have l2:=r1.length;have l3:=w2.length;have l4:=r2.length;have h1':j<its.length:=by simpa using h1
   have h2':j<its2.length:=by simpa using h2
   have hx:j<xs.length:=by omega
   have hy:j<ys.length:=by omega
   obtain⟨a,ha1,ha2⟩:=r1.get<|Wab hx;obtain⟨b,hb1,hb2⟩:=r2.get<|Wab hy;obtain⟨va,hv1,hv2⟩:=w1.get ha1;obtain⟨vb,hw1,hw2⟩:=w2.get hb1;have e1:its.toArray[j]=va:=by
    rw[Wab h1']at hv1;simpa using Wat.inj hv1
   have e2:its2.toArray[j]=vb:=by
    rw[Wab h2']at hw1;simpa using Wat.inj hw1
   have e3:atZip n xs ys j=eqF n xs[j] ys[j]:=by unfold atZip;rw[Wab hx,Wab hy]
   rw[e1,e2,e3];exact(Zo3 n I sg ha2 hb2 hv2 hw2 (p1 _<|Wbf hx) (p2 _<|Wbf hy) hu1).1
  have same:∀a,v=.ref a->u=.ref a->eqF (n+1) d e=true:=λa h1 h2=>by
   have hx:x=.ref a:=by cases x <;> simp[RelV,h1]at rv <;> first|(rw[rv])|skip
   have hy:y=.ref a:=by cases y <;> simp[RelV,h2]at ru <;> first|(rw[ru])|skip
   rw[hx]at rx;rw[hy]at ry;rw[Rep.uniq (n+1) rx ry pd pe];exact Zeg (n+1) e pe
  have lift:(∃a,v=.ref a)->(∃b,u=.ref b)->(∀a b,v=.ref a->u=.ref b->RcAt A s v u (eqF (n+1) d e))->EqAt A s v u (eqF (n+1) d e)/\(∀a b,v=.ref a->u=.ref b->RcAt A s v u (eqF (n+1) d e)):=by
   rintro⟨a,rfl⟩ ⟨b,rfl⟩ h;refine⟨?_,h⟩;by_cases hab:a=b
   ·subst hab
    rw[same a rfl rfl];exact EqAt.same _
   ·exact .of_refs hab<|h a b rfl rfl
  cases d with
  |int i=>
   cases rx;obtain⟨t,rfl⟩:=rv;refine⟨?_,λa b z=>nomatch z⟩;cases e with
   |int j=>
    cases ry;obtain⟨t',rfl⟩:=ru;exact EqAt.int_int i t j t'
   |tup ys=>
    cases ry with
    |tup hb rb=>
     cases ru;obtain⟨its,w1,pl,_⟩:=I.tuple<|SqT.of<|sg _ _ hb;exact EqAt.int_tuple i t pl hu0
   |lst ys=>
    cases ry with
    |lst hb rb=>
     cases ru;obtain⟨its,w1,pl,_⟩:=I.list<|SqL.of<|sg _ _ hb;exact EqAt.int_list i t pl.isList hu0
   |_=>exact pe.elim
  |tup xs=>
   cases rx with
   |@tup a vs _ ha ra=>
    cases rv;obtain⟨its,w1,pl,_⟩:=I.tuple<|SqT.of<|sg _ _ ha;cases e with
    |int j=>
     cases ry;obtain⟨t',rfl⟩:=ru;exact⟨EqAt.tuple_int j t' pl hu0,λa b _ z=>nomatch z⟩
    |tup ys=>
     cases ry with
     |@tup b us _ hb rb=>
      cases ru;obtain⟨its2,w2,pl2,_⟩:=I.tuple<|SqT.of<|sg _ _ hb;refine lift ⟨_,rfl⟩ ⟨_,rfl⟩ λ_ _ _ _=>?_;have z:=RcAt.tuples (A:=A) (s:=s) pl pl2 hu0<|items w1 w2 ra rb pd pe;have e1:((Wb0<|min its.toArray.size its2.toArray.size).all (atZip n xs ys) && its.toArray.size == its2.toArray.size)=eqF (n+1) (.tup xs) (.tup ys):=by
       show _=(xs.length == ys.length && (xs.zip ys).all λp=>eqF n p.1 p.2);rw[<- Zid,Wae,Wae,<- w1.length,<- w2.length,ra.length,rb.length,Bool.and_comm]
      rw[e1]at z;exact z
    |lst ys=>
     cases ry with
     |@lst b us _ hb rb=>
      cases ru;obtain⟨its2,w2,pl2,_⟩:=I.list<|SqL.of<|sg _ _ hb;exact⟨EqAt.tuple_list pl pl2.isList hu0,λ_ _ _ _=>RcAt.tuple_list pl pl2.isList hu0⟩
    |_=>exact pe.elim
  |lst xs=>
   cases rx with
   |@lst a vs _ ha ra=>
    cases rv;obtain⟨its,w1,pl,_⟩:=I.list<|SqL.of<|sg _ _ ha;cases e with
    |int j=>
     cases ry;obtain⟨t',rfl⟩:=ru;exact⟨EqAt.list_int j t' pl.isList hu0,λa b _ z=>nomatch z⟩
    |tup ys=>
     cases ry with
     |@tup b us _ hb rb=>
      cases ru;obtain⟨its2,w2,pl2,_⟩:=I.tuple<|SqT.of<|sg _ _ hb;exact⟨EqAt.list_tuple pl.isList pl2 hu0,λ_ _ _ _=>RcAt.list_tuple pl.isList pl2 hu0⟩
    |lst ys=>
     cases ry with
     |@lst b us _ hb rb=>
      cases ru;obtain⟨its2,w2,pl2,_⟩:=I.list<|SqL.of<|sg _ _ hb;refine lift ⟨_,rfl⟩ ⟨_,rfl⟩ λ_ _ _ _=>?_;have l1:=w1.length;have l2:=w2.length;have l3:=ra.length;have l4:=rb.length;by_cases hl:xs.length=ys.length
      ·have hsz:its.toArray.size=its2.toArray.size:=by rw[Wae,Wae];omega
       have z:=RcAt.lists (A:=A) (s:=s) pl.isList pl2.isList hsz hu0<|items w1 w2 ra rb pd pe;have e1:(Wb0 its.toArray.size).all (atZip n xs ys)=eqF (n+1) (.lst xs) (.lst ys):=by
        show _=(xs.length == ys.length && (xs.zip ys).all λp=>eqF n p.1 p.2);rw[<- Zid,Wae,hl,beq_self_eq_true,Bool.true_and,Nat.min_self,show its.length=ys.length by omega]
       rw[e1]at z;exact z
      ·have z:=RcAt.lists_lengths (A:=A) (s:=s) pl.isList pl2.isList (by rw[Wae,Wae];simp;omega) hu0
       have e1:eqF (n+1) (.lst xs) (.lst ys)=false:=by
        show (xs.length == ys.length && (xs.zip ys).all λp=>eqF n p.1 p.2)=false;rw[beq_eq_false_iff_ne.mpr hl,Bool.false_and]
       rw[e1];exact z
    |_=>exact pe.elim
  |_=>exact pd.elim
def rEqD (K:W.Frag):R2:=λx y H Q=>∃G d e n,Same G H/\Rep K G x d/\Rep K G y e/\Dp n d/\Dp n e/\n<=5/\(∃a,x=.ref a)/\(∃b,y=.ref b)/\Q (.bl<|eqF n d e) H
theorem eqDK (K:W.Frag) (hv:X.A.units+8<cLine) (hK:X.K=K:=by rfl):OpR X (compareOp .Eq) (rEqD K):=by
 subst hK;intro pins s σ H x y v u Q I rx ry h;obtain⟨G,d,e,n,sg,r1,r2,p1,p2,hn,⟨a,rfl⟩,⟨b,rfl⟩,q⟩:=h;cases rx;cases ry;exact(Zo3 n I sg r1 r2 rfl rfl p1 p2 (A:=X.A)<|by omega).2 a b rfl rfl X.prog X.w _ _ ⟨.bl _,H,I,rfl,q⟩
end
section
variable {K:W.Frag}{Δ:Evt}{P:D->Evt->Prop}
def isSeqD:D->Bool
 |.tup _=>true
 |.lst _=>true
 |_=>false
theorem Zks {G:Hp}{x:V}{d:D}(r:Rep K G x d) (h:isSeqD d=true):∃a,x=.ref a:=by
 cases r with
 |tup _ _=>exact⟨_,rfl⟩
 |lst _ _=>exact⟨_,rfl⟩
 |_=>cases h
theorem Zrz {n:Nat}{d e:D}(hn:n<=5) (pd:Dp n d) (pe:Dp n e) (sd:isSeqD d=true) (se:isSeqD e=true) (p:P (.bl<|eqF n d e) Δ):JR2 K (rEqD K) d e Δ P:=λg G H σ Q x y k rx ry c=>
 ⟨G,d,e,n,k.live,rx,ry,pd,pe,hn,Zks rx sd,Zks ry se,c _ _ G H Δ k (Same.refl _) (.bl _) p⟩
end
open PySem PySem.Spec PyProof.Rows PySem.SeqAt
section
variable {prog:Program}{w:World}
end
section
variable {prog:Program}{w:World}{A:Around}{E:Value->Shared->Prop}{s:Shared}
end
end L2
namespace L2
open PySem PySem.Spec PyProof.Rows PySem.SeqAt
end L2
namespace L2
open PySem PySem.Spec PyProof.Rows PySem.SeqAt
section
variable {prog:Program}{w:World}{A:Around}{E:Value->Shared->Prop}{s:Shared}
end
end L2
namespace L2
open PySem PySem.Spec PyProof.Rows PySem.SeqAt
end L2
namespace L2
open PySem PySem.Spec PyProof.Rows PySem.SeqAt
end L2
namespace L2
open PySem PySem.Spec PyProof.Rows PySem.SeqAt
section
variable {K:W.Frag}{Δ:Evt}
end
section
variable {X:Cx}
end
open PySem PySem.Spec PyProof.Rows PySem.SeqAt
section
variable {X:Cx}
theorem intsAt {its:List Value}{ns:List Int}(hi:IntsAre its ns):∀j (h:j<its.length),∃t,its[j]=.int (ns.getD j 0) t:=by
 induction hi with
 |nil=>intro j h;simp at h
 |cons n t _ ih=>
  intro j h;cases j with
  |zero=>exact⟨t,rfl⟩
  |succ j=>simpa using ih j (by simpa using h)
def rNeI (K:W.Frag):R2:=λx y H Q=>∃(a b:Addr) (ns:List Int),x=.ref a/\y=.ref b/\SqL K H a (ns.map V.int)/\SqL K H b (ns.map V.int)/\Q (.bl false) H
theorem neIK (K:W.Frag) (hv:X.A.units+8<cLine) (hK:X.K=K:=by rfl):OpR X (compareOp .NotEq) (rNeI K):=by
 subst hK;intro pins s σ H x y v u Q I rx ry h;obtain⟨a,b,ns,rfl,rfl,ha,hb,q⟩:=h;cases rx;cases ry;obtain⟨its,w1,p1,_⟩:=I.list ha;obtain⟨its2,w2,p2,_⟩:=I.list hb;have i1:=Zdz w1;have i2:=Zdz w2;have l1:=i1.length;have l2:=i2.length;have hsz:its.toArray.size=its2.toArray.size:=by rw[Wae,Wae];omega
 refine RcNeAt.lists (A:=X.A) (s:=s) (e:=λ_=>true) p1.isList p2.isList hsz (by omega) (λj h1 h2=>?_) X.prog X.w _ _ ?_
 ·rw[Wae]at h1 h2
  obtain⟨t1,e1⟩:=intsAt i1 j h1;obtain⟨t2,e2⟩:=intsAt i2 j h2;rw[Wa5,Wa5,e1,e2];have:=EqAt.int_int (A:=X.A.in1) (s:=s) (ns.getD j 0) t1 (ns.getD j 0) t2;rw[beq_self_eq_true]at this;exact this
 ·have:(!(Wb0 its.toArray.size).all λ_=>true)=false:=by
   rw[Waw.mpr (λ_ _=>rfl)];rfl
  rw[this];exact⟨.bl false,H,I,rfl,q⟩
end
section
variable {K:W.Frag}{Δ:Evt}{P:D->Evt->Prop}
theorem Zrl {ns:List Int}(p:P (.bl false) Δ):JR2 K (rNeI K) (.lst<|ns.map .int) (.lst<|ns.map .int) Δ P:=λg G H σ Q x y k rx ry c=>by
 obtain⟨a,vs,rfl,ha,rs⟩:=rx.inv
 next=>
  obtain⟨b,us,rfl,hb,rt⟩:=ry.inv
  next=>
   have e1:=rs.ints;have e2:=rt.ints;subst e1 e2;exact⟨a,b,ns,rfl,rfl,SqL.of<|k.live _ _ ha,SqL.of<|k.live _ _ hb,c _ _ G H Δ k (Same.refl _) (.bl _) p⟩
theorem Zgf {r r':R2}{ta tb tc:TE}(h:JE K ta Δ λd Δ1=>JE K tb Δ1 λe Δ2=>JR2 K r d e Δ2 λz Δ3=>∃k,z=.bl k/\if k=true then JE K tc Δ3 λu Δ4=>JR2 K r' e u Δ4 P else P (.bl false) Δ3):JE K (tChain r r' ta tb tc) Δ P:=λg G H σ Q k c=>
 h g G H σ _ k λx d G1 H1 Δ1 k1 s1 r1 p1=>p1 g G1 H1 σ _ k1 λy e G2 H2 Δ2 k2 s2 r2 p2=>p2 g G2 H2 σ _ x y k2 (r1.mono s2) r2 λz dz G3 H3 Δ3 k3 s3 r3 hq_=>by
  obtain⟨b,eb,p3⟩:=hq_;subst eb;cases r3.inv;refine⟨b,rfl,?_⟩;cases b with
  |true=>
   rw[if_pos rfl]at p3 ⊢;exact p3 g G3 H3 σ _ k3 λu du G4 H4 Δ4 k4 s4 r4 p4=>p4 g G4 H4 σ Q y u k4 (r2.mono<|s3.trans s4) r4<|c.up<|s1.trans<|s2.trans<|s3.trans s4
  |false=>
   rw[if_neg Wai]at p3 ⊢;exact c _ _ G3 H3 Δ3 k3 (s1.trans<|s2.trans s3) (.bl false) p3
end
section
variable {K:W.Frag}{Δ:Evt}
end
open PySem PySem.Spec PyProof.Rows PySem.SeqAt
section
variable {K:W.Frag}{Δ:Evt}{P:D->Evt->Prop}
end
section
variable {K:W.Frag}{Δ:Evt}
end
section
variable {prog:Program}{w:World}{A:Around}{E:Value->Shared->Prop}{s:Shared}
theorem Zhm {l:Addr}{vs:List Value}{Q:List Value->Shared->Prop}(hl:s.heap.IsTuple l vs.toArray)
  (h:Q vs { s with heap:=(s.heap.push<|seqObj "list" #[] 0).update s.heap.objs.size (Obj.mapSeq (· ++ vs.toArray)) }) (hsz:vs.length<=sizeLine) :
  wpAny (model prog w) A (collect (.ref l)) Q E s:=by
 obtain⟨o,ho,hc,n,hd⟩:=id hl;unfold collect;refine wpAny_bind<|wpAny_runValue<|codeAny_builtin entry_proto_collect' ?_;show wpAny _ _ (do again (.builtin "list.__iadd__" ⟨[← newList [],.ref l],[]⟩)) _ _ s;refine wpAny_bind<|wpAny_newList<|wpAny_pure ⟨Code.quiet_builtin _ (by decide +kernel),codeAny_builtin entry_list_iadd' ?_⟩;show wpAny _ _ (Builtin.List.listExtendWith (.ref s.heap.objs.size) (.ref l) (.ref s.heap.objs.size)) _ _ { s with heap:=s.heap.push (seqObj "list" #[] 0) };unfold Builtin.List.listExtendWith;have ho':(s.heap.push<|seqObj "list" #[] 0).get? l=some o:=Waa _ ho;refine wpAny_bind<|wpAny_typeOf (T:="tuple") ⟨o,ho',hc⟩ ?_;have ht:(Value.type "tuple" == Value.type "tuple")=true:=by rfl
 rw[if_pos (by rw[ht];simp)];refine wpAny_bind (listItems_at ho' hd ?_);refine wpAny_bind (listItems_at (xs:=#[]) (n:=0) (Wag _ rfl) rfl ?_);rw[if_neg (by simp)];refine wpAny_bind (listUpdate_at (xs:=#[]) (n:=0) (Wag _ rfl) rfl ?_ (Wbn _) (by show (#[]++vs.toArray).size<=sizeLine+1;simp only[Array.size_append,Wae,Wc1];omega));refine wpAny_pure ?_;show wpAny (model prog w) A (do
   let o ← load s.heap.objs.size
   match o.data with
   |.seq xs _=>pure xs.toList
   |_=>unsupported "internal:collect") Q E { s with heap:=(s.heap.push (seqObj "list" #[] 0)).update s.heap.objs.size (Obj.mapSeq (· ++ vs.toArray)) }
 refine wpAny_bind<|wpAny_load (get?_update_seq (Wag _ rfl) _) ?_;show wpAny _ _ (pure ((#[]:Array Value)++vs.toArray).toList) Q E _;rw[show ((#[]:Array Value)++vs.toArray).toList=vs by simp];exact wpAny_pure h
theorem Zg4 {l:Addr}{vs:List Value}{ns:List Int}{Q:Value->Shared->Prop}(hl:s.heap.IsTuple l vs.toArray) (hI:IntsAre vs ns) (h64:vs.length<64)
  (h:∀(out:Array Value) (ns':List Int),IntsAre out.toList ns' -> ns'.Perm ns->ns'.Pairwise (· <= ·)->Q (.ref<|s.heap.objs.size+1) { s with heap:=sortedAll s.heap vs out }) :
  wpAny (model prog w) A (call (.builtin "sorted") [.ref l]) Q E s:=by
 refine Calls.call_function_entry kind_sorted plain_sorted entry_sorted (args_sorted1 _) ?_;unfold Builtin.«sorted»;refine wpAny_bind (m:=checkCount "sorted" 1 1 _)<|wpAny_pure ?_;refine wpAny_bind (Zhm hl ?_<|Wbo (small1000<|by omega));refine wpAny_bind<|wpAny_newList ?_;have hsz:((s.heap.push<|seqObj "list" #[] 0).update s.heap.objs.size (Obj.mapSeq (· ++ vs.toArray))).objs.size=s.heap.objs.size+1:=by
  rw[Heap.size_update,size_push']
 have hoL:(((s.heap.push<|seqObj "list" #[] 0).update s.heap.objs.size (Obj.mapSeq (· ++ vs.toArray))).push (seqObj "list" vs.toArray 0)).get? (s.heap.objs.size+1)=some (seqObj "list" vs.toArray 0):=by
  rw[<- hsz];exact Wag _ rfl
 show wpAny _ _ _ _ _ { s with heap:=((s.heap.push<|seqObj "list" #[] 0).update s.heap.objs.size (Obj.mapSeq (· ++ vs.toArray))).push (seqObj "list" vs.toArray 0) };rw[hsz];refine wpAny_bind<|wpAny_holding<|wpAny_call_entry slot_list_sort ⟨_,hoL,rfl⟩ entry_list_sort (list_sort_tree hoL hI h64 λout ns' a1 a2 a3=>⟨_,rfl,?_⟩)<|args_list_sort _;exact wpAny_pure ⟨_,rfl,h out ns' a1 a2 a3⟩
end
section
variable {X:Cx}
def rSortT (K:W.Frag):List V->Hp->VK->Prop:=λxs H Q=>∃(p:Addr) (ns:List Int),xs=[.ref p]/\SqT K H p (ns.map V.int)/\ns.length<64/\∀(l:Addr) (ms:List Int),ms.Perm ns->ms.Pairwise (· <= ·)->H l=none->Q (.ref l) (upd H l (.lst<|ms.map V.int))
theorem sortTK (K:W.Frag) (hK:X.K=K:=by rfl):CallR X (.builtin "sorted") (rSortT K):=by
 subst hK;intro pins s σ H xs us Q I r h;obtain⟨p,ns,rfl,hx,hl,q⟩:=h;obtain⟨u,rfl,ru⟩:=vals1 r;cases (show u=Value.ref p from ru);obtain⟨its,w1,p1⟩:=I.seqB (b:=true) hx;have hi:=Zdz w1;have hlen:=hi.length;refine Zg4 p1 hi (by omega) λout ms o1 o2 o3=>?_;obtain⟨e,he⟩:=sortedAll_at s.heap its out;have hml:=o2.length_eq;refine⟨.ref<|s.heap.objs.size+1,_,I.laid (t':=s.toks) (λ_ _ z=>sortedAll_old z) (Nat.le_succ _) (show ObjOk X.prog X.w _ _ _ (.lst<|ms.map V.int) from ⟨?_,out.toList,e,Zes o1,?_⟩),rfl,q _ ms o2 o3<|I.hok.fresh<|Nat.le_succ _⟩
 ·rw[Wac];exact Wbo (small1000<|by omega)
 ·rw[Array.toArray_toList];exact he
end
section
variable {K:W.Frag}{Δ:Evt}{P:D->Evt->Prop}
theorem Zis {ta:TA}{Po:OD->Evt->Prop}(h:JA K ta Δ λds Δ1=>∃ns:List Int,ds=[.tup (ns.map .int)]/\ns.length<64/\∀ms:List Int,ms.Perm ns->ms.Pairwise (· <= ·)->Po (.lst<|ms.map .int) Δ1):JO K (tCB (rSortT K) ta) Δ Po:=λg G H σ Q k c=>
 h g G H σ _ k λvs ds G1 H1 Δ1 k1 s1 r1 hq_=>by
  obtain⟨ns,e,hl,p⟩:=hq_;subst e;obtain⟨_,_,rfl,r,t⟩:=r1.inv
  next=>
   cases t.inv;obtain⟨a,us,rfl,ha,rr⟩:=r.inv
   next=>
    have ev:=rr.ints;subst ev;refine⟨a,ns,rfl,SqT.of<|k1.live _ _ ha,hl,λl ms o1 o2 hl=>?_⟩;obtain⟨k2,pd⟩:=k1.fresh (od:=.lst<|ms.map .int) hl (show OwnRep K G1 (.lst<|ms.map V.int) (.lst<|ms.map .int) from Reps.ofInts ms);exact c l _ G1 _ Δ1 k2 s1 pd<|p ms o1 o2
end
section
variable {X:Cx}
def rStrU:List V->Hp->VK->Prop:=λxs H Q=>(∃i,xs=[.int i]/\i.natAbs.log2<1920/\Q (.str<|toString i) H)\/∃x,xs=[.str x]/\Q (.str x) H
theorem strUK:CallR X (.type "str") rStrU:=by
 intro pins s σ H xs us Q I r h;rcases h with ⟨i,rfl,hz,q⟩|⟨x,rfl,q⟩
 ·obtain⟨u,rfl,t,rfl⟩:=vals1 r
  exact PySem.P.str_of_int hz ⟨.str _,H,I.tok _,⟨_,rfl⟩,q⟩
 ·obtain⟨u,rfl,t,rfl⟩:=vals1 r
  exact PySem.P.str_of_str ⟨.str _,H,I,⟨_,rfl⟩,q⟩
def rJoin (K:W.Frag):V->List V->Hp->VK->Prop:=λx vs H Q=>∃sep p zs,x=.str sep/\vs=[.ref p]/\SqL K H p (zs.map V.str)/\zs.foldl (λn z=>n+z.length+sep.length) 0<=sizeLine/\Q (.str<|Str.join sep zs) H
theorem Zl0:∀{zs:List Str}{us:List Value},Vals (zs.map V.str) us->∃l:List (Str × Tok),us=strValues l/\l.map (·.1)=zs
 |[],_,r=>by cases r;exact⟨[],rfl,rfl⟩
 |z::zs,_,r=>by
  cases r with
  |cons r rr=>
   obtain⟨t,rfl⟩:=r;obtain⟨l,rfl,e⟩:=Zl0 rr;exact⟨(z,t)::l,rfl,by rw[Wav,e]⟩
theorem Zgb (k:Nat):∀(zs:List Str) (n:Nat),zs.foldl (λn z=>n+z.length+k) n=n+(zs.map λz=>z.length+k).sum
 |[],n=>by simp
 |z::zs,n=>by rw[List.foldl_cons,Zgb k zs,Wav,Wcu];omega
theorem Zc7 (sep:Str):∀zs:List Str,(Str.join sep zs).length<=(zs.map λz=>z.length+sep.length).sum
 |[]=>by show Str.empty.length<=_;exact Wbn _
 |[x]=>by show x.length<=_;simp only[Wav,Wc0,Wcu,List.sum_nil];omega
 |x::y::r=>by
  have h:=Zc7 sep (y::r);show (x++sep++Str.join sep (y::r)).length<=_;rw[Wav,Wcu,Str.length_append,Str.length_append];omega
theorem joinK (K:W.Frag) (hK:X.K=K:=by rfl):MtM X "str.join" (rJoin K):=by
 subst hK;intro pins s σ H x vs v us Q I rx rv h;obtain⟨sep,p,zs,rfl,rfl,hx,hz,q⟩:=h;obtain⟨t,rfl⟩:=rx;obtain⟨u,rfl,ru⟩:=rv.one;cases (show u=Value.ref p from ru);obtain⟨its,w1,p1,_⟩:=I.list hx;obtain⟨l,rfl,e⟩:=Zl0 w1;have hT:s.TypeIs (.str sep t) "str":=typeIs_str s sep t;have hlen:Builtin.Str.tooLong ((l.map (·.1)).toArray.foldl (· + ·.length+sep.length) 0)=false:=by
  unfold Builtin.Str.tooLong;rw[e,List.foldl_toArray];exact decide_eq_false (by omega)
 refine call_meets PySem.F.slot_str_join hT PySem.F.entry_str_join (PySem.F.args_str_join_2 _ _) (meets_str_join_list sep t p l hlen) ⟨p1.isList,?_⟩;have key:∀(s':Shared) (t':Tok),Inv X pins σ H s' -> EP X pins σ Q (.str (Str.join sep zs) t') s':=λs' t' I'=>⟨.str _,H,I',⟨_,rfl⟩,q⟩;subst e;rcases l with _|⟨a,_|⟨b,r⟩⟩
 ·exact⟨by show Str.empty.length<=_;exact Wbn _,key _ _<|I.tok _⟩
 ·exact key _ _ I
 ·have e2:Builtin.Str.glued sep ((a::b::r).map (·.1))=Str.join sep ((a::b::r).map (·.1)):=StrLaws.glued_eq_join sep _
  have hj:=Zc7 sep ((a::b::r).map (·.1));rw[Zgb]at hz;rw[<- e2]at key hj;exact⟨by omega,key _ _<|I.tok _⟩
end
section
variable {K:W.Frag}{Δ:Evt}{P:D->Evt->Prop}
def rAddS:R2:=λx y H Q=>∃i j,x=.str i/\y=.str j/\i.length+j.length<=sizeLine/\Q (.str<|i++j) H
theorem Zdh {x y:Str}(hz:x.length+y.length<=sizeLine) (p:P (.str<|x++y) Δ):JR2 K rAddS (.str x) (.str y) Δ P:=λg G H σ Q u v k rx ry c=>by
 cases rx.inv;cases ry.inv;exact⟨x,y,rfl,rfl,hz,c _ _ G H Δ k (Same.refl _) (.str _) p⟩
theorem Zrn {x:Str}(p:P (.bl false) Δ):JR2 K rNe (.str x) (.str x) Δ P:=λg G H σ Q u v k rx ry c=>by
 cases rx.inv;cases ry.inv;refine⟨rfl,?_⟩;rw[decide_eq_true rfl];exact c _ _ G H Δ k (Same.refl _) (.bl _) p
theorem Zeq {i:Int}(hz:i.natAbs.log2<1920) (p:P (.str<|toString i) Δ):JC K rStrU [.int i] Δ P:=λg G H σ Q vs k rs c=>by
 obtain⟨_,_,rfl,r,t⟩:=rs.inv
 next=>cases t.inv;cases r.inv;exact .inl ⟨i,rfl,hz,c _ _ G H Δ k (Same.refl _) (.str _) p⟩
theorem Reps.strs {G:Hp}{vs:List V}:∀{zs:List Str},Reps K G vs (zs.map D.str)->vs=zs.map V.str:=by
 induction vs with
 |nil=>intro ns h;cases ns with
  |nil=>rfl
  |cons n ns=>cases h
 |cons v vs ih=>intro ns h;cases ns with
  |nil=>cases h
  |cons n ns=>
   cases h with
   |cons r t=>cases r.inv;rw[ih t];rfl
theorem Zkv {to te:TE}(h:JE K to Δ λd Δ1=>∃sep,d=.str sep/\JE K te Δ1 λe Δ2=>∃zs:List Str,e=.lst (zs.map D.str)/\zs.foldl (λn z=>n+z.length+sep.length) 0<=sizeLine/\P (.str<|Str.join sep zs) Δ2) :
  JE K (tBM K "str" (rJoin K) to<|tCons te tNil) Δ P:=λg G H σ Q k c=>
 h g G H σ _ k λv d G1 H1 Δ1 k1 s1 r1 hq_=>by
  obtain⟨sep,e,p1⟩:=hq_;subst e;cases r1.inv;refine⟨rfl,p1 g G1 H1 σ _ k1 λu e G2 H2 Δ2 k2 s2 r2 ⟨zs,e2,hz,p⟩=>?_⟩;subst e2;obtain⟨a,us,rfl,ha,rr⟩:=r2.inv
  next=>
   have ev:=rr.strs;subst ev;exact⟨sep,a,zs,rfl,rfl,SqL.of<|k2.live _ _ ha,hz,c _ _ G2 H2 Δ2 k2 (s1.trans s2) (.str _) p⟩
end
section
variable {X:Cx}
end
section
variable {K:W.Frag}{Δ:Evt}
end
section
variable {K:W.Frag}{Δ:Evt}{P:D->Evt->Prop}
end
theorem ObjOk.has {P:Program}{w:World}{H:Hp}{h:Heap}{a:Addr}{o:HO}(x:ObjOk P w H h a o):∃ob,h.get? a=some ob:=by
 cases o with
 |lst xs=>obtain⟨_,_,_,_,e⟩:=x;exact⟨_,e⟩
 |tup xs=>obtain⟨_,_,_,o,e,_⟩:=x;exact⟨_,e⟩
 |dK kvs=>obtain⟨_,_,_,_,o,_,_,e,_⟩:=x;exact⟨_,e⟩
 |dT kvs=>obtain⟨_,_,_,_,o,_,_,e,_⟩:=x;exact⟨_,e⟩
 |set S n=>obtain⟨o,_,_,_,e,_⟩:=x;exact⟨_,e⟩
 |ins C dx fs=>obtain⟨_,_,_,e,_⟩:=x;exact⟨_,e⟩
 |own y=>exact x
 |xd fs=>obtain⟨_,⟨_,_,_,e,_⟩,_⟩:=x;exact⟨_,e⟩
 |rng lo hi=>obtain⟨_,_,_,e⟩:=x;exact⟨_,e⟩
 |frz ob u=>obtain⟨e,_⟩:=x;exact⟨_,e⟩
 |tbl ps=>exact⟨_,x⟩
 |met f y=>exact⟨_,x⟩
 |ext φ=>exact x.2.1
theorem HOk.noneAt {P:Program}{w:World}{H:Hp}{h:Heap}{a:Addr}(x:HOk P w H h) (e:h.get? a=none):H a=none:=by
 cases q:H a with
 |none=>rfl
 |some o=>obtain⟨ob,z⟩:=(x a o q).has;rw[e]at z;cases z
structure Nw (X:Cx) (pins:List (Addr × Obj)) (H:Hp) (b:Addr):Prop where
 old:X.s₀.heap.get? b=none
 trk:H b=none
 loc:b≠X.env.locals
 cel:∀x c,X.env.cells.lookup x=some c->c≠b
 pin:∀p∈X.pn++pins,p.1≠b
section
variable {X:Cx}{pins:List (Addr × Obj)}{σ:St}{H H':Hp}{s:Shared}{h':Heap}{b:Addr}
theorem Nw.of (I:Inv X pins σ H s) (hex:X.ex=[]) (e:s.heap.get? b=none):Nw X pins H b where
 old:=by
  cases q:X.s₀.heap.get? b with
  |none=>rfl
  |some o=>obtain⟨o',z⟩:=I.base.there b o q (by rw[hex];simp);rw[e]at z;cases z
 trk:=I.hok.noneAt e
 loc:=by rintro rfl;obtain⟨m,⟨o,_,_,ho,_⟩,_⟩:=I.loc;rw[e]at ho;cases ho
 cel:=λx c hc z=>by subst z;obtain⟨v,o,ho,_⟩:=I.cell x c hc;rw[e]at ho;cases ho
 pin:=λp hp z=>by have:=(I.pin p hp).1;rw[z,e]at this;cases this
theorem Nw.at (n:Nw X pins H b) (h:H' b=none):Nw X pins H' b:=⟨n.old,h,n.loc,n.cel,n.pin⟩
theorem Inv.moved {hid:List Addr}(I:Inv X pins σ H s) (hex:X.ex=[]) (new:∀b∈hid,Nw X pins H b) (kp:∀b o,s.heap.get? b=some o->b ∉ hid->b ∉ frs X.stack->h'.get? b=some o) (up:s.heap.UpToSlots h'):Inv X pins σ H { s with heap:=h' }:=by
 have nst:∀b,b≠X.env.locals->b ∉ X.fs->b ∉ frs X.stack:=λb h1 h2 z=>(Wah.mp<|I.stkSub b z).elim h1 h2;have neL:∀b o,X.s₀.heap.get? b=some o->b≠X.env.locals:=λb o e=>Wa4<|Wa0 (Wan e) I.ok.above;have nhd:∀b o,X.s₀.heap.get? b=some o->b ∉ hid:=λb o e z=>by rw[(new b z).old]at e;cases e
 have nx:∀b,b ∉ X.ex:=λb=>by rw[hex];simp
 have cellK:∀c v,s.heap.IsCell c v->h'.IsCell c v:=λc v hq=>by
  obtain⟨o,ho,hd⟩:=hq;obtain⟨sl,e⟩:=up c o ho (λvs q=>by rw[hd]at q;cases q);exact⟨_,e,hd⟩
 refine⟨I.ok,I.os,I.bare,⟨λb o e n hb hx=>?_,λb o e n hb hx=>?_,I.base.free,λb o e hx=>?_,I.base.tups,I.base.frzs,I.base.tbls⟩,?_,λx c e=>?_,I.free,I.freeC,λp hp=>?_,λb u e=>?_,I.len⟩
 ·exact kp b o (I.base.keep b o e n hb hx) (nhd b o e)<|nst b (neL b o e) hb
 ·obtain⟨sl,e1⟩:=I.base.slot b o e n hb hx
  obtain⟨_,o',ho',hd⟩:=I.funs.mem hb;rw[e1]at ho';cases ho';obtain⟨sl',e2⟩:=up b _ e1 hd;exact⟨sl',e2⟩
 ·obtain⟨o',e1⟩:=I.base.there b o e hx
  by_cases hb:b∈frs X.stack
  ·obtain⟨_,o2,ho',hd⟩:=I.stack.mem hb
   obtain⟨sl',e2⟩:=up b _ ho' hd;exact⟨_,e2⟩
  ·exact⟨o',kp b o' e1 (nhd b o e) hb⟩
 ·obtain⟨m,hn,hl⟩:=I.loc
  refine⟨m,up.ns hn,λi x v e1 e2 e3=>?_⟩;obtain⟨u,r,l⟩:=hl i x v e1 e2 e3;refine⟨u,r,?_⟩;rcases l with l|⟨k,c,e,z⟩
  ·exact .inl l
  ·exact .inr ⟨k,c,e,cellK c _ z⟩
 ·obtain⟨v,z⟩:=I.cell x c e
  exact⟨v,cellK c v z⟩
 ·obtain⟨e,n,ne,nf,d⟩:=I.pin p hp
  exact⟨kp p.1 p.2 e (λz=>(new _ z).pin p hp rfl)<|nst _ ne nf,n,ne,nf,d⟩
 ·refine(I.hok b u e).stay (λc v hc q=>kp c v q (λz=>?_) λz=>?_) (λ_ q=>q) λ_ _ q=>q
  ·have n:=(new c z).trk
   rcases hc with rfl|hc
   ·rw[e]at n;cases n
   ·rw[hc]at n;cases n
  ·have n:=I.stkFree c z
   rcases hc with rfl|hc
   ·rw[e]at n;cases n
   ·rw[hc]at n;cases n
end
section
variable {M:Model}{A:Around}{E:Value->Shared->Prop}{s:Shared}{Q:Unit->Shared->Prop}{env:Env}{outer:List Env}{base:Heap}{L e:Addr}{oe:Obj}{vs:Array Value}
theorem Zsa (hl:s.heap.FunFrames base (env::outer)) (he:s.heap.get? e=some oe) (hd:oe.data=.fields vs):e ∉ frs (env::outer):=λhm=>by
 obtain⟨_,o,ho,hn⟩:=hl.mem hm;rw[he]at ho;exact hn vs (Wat.inj ho ▸ hd)
structure Noted (h h':Heap) (l:List Env) (e:Addr) (oe:Obj) (T:Addr):Prop where
 keep:∀b o,h.get? b=some o->b≠e->b ∉ frs l->h'.get? b=some o
 up:∀b o,h.get? b=some o->b≠e->(∀ws,o.data≠.fields ws)->∃sl,h'.get? b=some { o with slots:=sl }
 new:h.get? T=none
 exc:h'.get? e=some (oe.mapFields (·.setIfInBounds 1 (.ref T)))
 tb:∃oT ts,h'.get? T=some oT/\oT.data=.fields ts/\3<ts.size
theorem entryX {head:Value}{hadNext:Bool}(hfr:A.frames=some (env::outer)) (hl:s.heap.FunFrames base (env::outer)) (hf:env.frame=some L) (he:s.heap.get? e=some oe) (hd:oe.data=.fields vs) (hsz:1<vs.size)
  (h:∀h' T,Noted s.heap h' (env::outer) e oe T->Q () { s with heap:=h' }) :
  wpAny M A (do let a ← frameOf env;let pl ← entryPlaceOf L hadNext;let b ← EntryCells.newEntry head a .none (rawInt L) .none pl;setField (.ref e) 1 b) Q E s:=by
 have hene:=Zsa hl he hd;refine wpAny_bind (wpAny_frameOf_fun hfr hl hf λg1 hg=>?_);refine wpAny_bind (wpAny_entryPlaceOf λpl hp=>?_);unfold EntryCells.newEntry newFields;refine wpAny_bind<|wpAny_newObj_type ?_<|hp.sizeOk5 _ _ _ _ _;have he1:g1.get? e=some oe:=(hg.2.1 e hene).trans he;have he2:=Waa (h:=g1) { cls:=.type "traceback",dict:=none,data:=.fields ([head,.ref L,.none,rawInt L,.none]++(if pl.isEmpty then Wad 6 Value.none else pl)).toArray } he1;refine wpAny_setField he2 hd hsz<|h _ g1.objs.size ?_;have nT:g1.objs.size≠e:=Wb6<|Wan he1;have hd3:=Obj.data_mapFields hd (·.setIfInBounds 1 (Value.ref g1.objs.size));have hT3:=(Wbc (g1.push { cls:=.type "traceback",dict:=none,data:=.fields ([head,.ref L,.none,rawInt L,.none]++(if pl.isEmpty then Wad 6 Value.none else pl)).toArray }) (Obj.mapFields (·.setIfInBounds 1 (Value.ref g1.objs.size)))<|Ne.symm nT).trans (Wag g1 rfl);refine⟨λb o hb h1 h2=>?_,λb o hb h1 hn=>?_,?_,?_,⟨_,_,hT3,rfl,?_⟩⟩
 ·rw[Wbc _ _ (Ne.symm h1)]
  exact Waa _ ((hg.2.1 b h2).trans hb)
 ·obtain⟨sl,q⟩:=hg.2.2 b o hb
  exact⟨sl,by rw[Wbc _ _ (Ne.symm h1)];exact Waa _ q⟩
 ·exact Wb3 (by rw[hg.1];exact Waf _)
 ·exact Wbi _ he2<|Obj.isFreed_of_fields hd3
 ·rw[Wae,War,Wak,Wak,Wak,Wak]
  omega
theorem noteN (hfr:A.frames=some (env::outer)) (hl:s.heap.FunFrames base (env::outer)) (hf:env.frame=some L) (he:s.heap.get? e=some oe) (hd:oe.data=.fields vs) (h1:vs[1]?=some .none)
  (h:∀h' T,Noted s.heap h' (env::outer) e oe T->Q () { s with heap:=h' }):wpAny M A (noteFrame (.ref e) env) Q E s:=by
 unfold noteFrame;simp only[hf];refine wpAny_bind<|wpAny_field he hd h1 ?_;rw[if_neg (by decide)];exact entryX hfr hl hf he hd (Array.getElem?_eq_some_iff.mp h1).1 h
theorem noteT {T:Addr}{oT:Obj}{ts:Array Value}(hfr:A.frames=some (env::outer)) (hl:s.heap.FunFrames base (env::outer)) (hf:env.frame=some L) (he:s.heap.get? e=some oe) (hd:oe.data=.fields vs) (h1:vs[1]?=some (.ref T)) (hTe:T≠e)
  (hT:s.heap.get? T=some oT) (hdT:oT.data=.fields ts) (h3:ts[3]?=some .none) (h:∀h' T',Noted (s.heap.update T<|Obj.mapFields (·.setIfInBounds 3 .none)) h' (env::outer) e oe T' -> Q () { s with heap:=h' }):wpAny M A (noteFrame (.ref e) env) Q E s:=by
 unfold noteFrame;simp only[hf];refine wpAny_bind<|wpAny_field he hd h1 ?_;rw[if_pos (show (Value.ref T != Value.none)=true from by simp)];refine wpAny_bind<|wpAny_field hT hdT h3 ?_;rw[if_neg (show ¬ ((Value.none == rawInt L)=true) from by simp[rawInt])];refine wpAny_bind<|wpAny_setField hT hdT (Array.getElem?_eq_some_iff.mp h3).1 ?_;have ot:∀b,b≠T->(s.heap.update T<|Obj.mapFields (·.setIfInBounds 3 Value.none)).get? b=s.heap.get? b:=λb hb=>Wbc _ _<|Ne.symm hb;refine entryX (s:={ s with heap:=s.heap.update T (Obj.mapFields (·.setIfInBounds 3 .none)) }) hfr (hl.of_keeps λb o hb hn=>⟨o,(ot b λq=>?_).trans hb,rfl⟩) hf ((ot e<|Ne.symm hTe).trans he) hd (Array.getElem?_eq_some_iff.mp h1).1 λh' T' n=>h h' T' n;rw[q,hT]at hb;exact hn ts (Wat.inj hb ▸ hdT)
end
section
variable {X:Cx}{pins:List (Addr × Obj)}{σ:St}{H H':Hp}{s:Shared}{h':Heap}{a C T:Addr}
variable {M:Model}{E:Value->Shared->Prop}{Q:Unit->Shared->Prop}
theorem Zjg {h h':Heap}{l:List Env}{e T:Addr}{oe:Obj}{vs:Array Value}{A:Around}{s:Shared}(hd:oe.data=.fields vs) (sz:1<vs.size) (n:Noted h h' l e oe T) (h:Q () { s with heap:=h'.update T (Obj.mapFields (·.setIfInBounds 3 .none)) }) :
  wpAny M A (setFlight (.ref e) none) Q E { s with heap:=h' }:=by
 obtain⟨oT,ts,t1,t2,t3⟩:=n.tb;exact wpAny_setFlight_none (s:={ s with heap:=h' }) n.exc (Obj.data_mapFields hd _) (by simp[sz]) t1 t2 t3 h
end
abbrev ExcC (K:W.Frag) (C:Addr):Prop:=PySem.W.excIn K C [.type "ValueError",.type "Exception",.type "BaseException",.type "object"] "ValueError.__new__" = true
def ExcO (h:Heap) (C:Addr) (bm:List Value):Prop:=∃N nm qn bs hd sn sub ab col dd k0 k1 k2 k3 k5 mN,h.get? C=some (excClassObj nm qn C N bs bm hd sn sub ab col dd k0 k1 k2 k3 k5 "ValueError.__new__")/\h.Ns N mN/\mN "__init__" = none/\OwnTail h [.type "ValueError",.type "Exception",.type "BaseException",.type "object"] bm
theorem Zqk {K:W.Frag}{h:Heap}{C:Addr}(X:K.In h) (q:ExcC K C):∃bm,ExcO h C bm/\∀v b,PySem.W.mroIn K C v=some b->(Value.ref C::bm).contains v=b:=by
 unfold ExcC PySem.W.excIn at q;split at q
 next dd cd sl e=>
  split at q
  next C' bm k0 k1 k2 k3 n k5 e1 e2=>
   rw[Wau,Wau,Wau,Wau,Wau]at q;obtain⟨⟨⟨⟨⟨q1,q2⟩,q3⟩,q4⟩,q5⟩,q6⟩:=q;have q1:=beq_iff_eq.mp q1;have q2:=beq_iff_eq.mp q2;rw[Bool.not_eq_true']at q3;subst q1;cases cd with
   |mk nm bs mro ns qn hd sn sub ab col del=>
    dsimp only at e1 q3 q5 q6;have q7:=beq_iff_eq.mp q6;subst e1;subst q3;have e3:sl = #[k0,k1,k2,k3,some (.builtin n),k5]:=by
     cases sl with
     |mk l=>exact congrArg Array.mk e2
    subst e3;subst q2;refine⟨bm,⟨ns,nm,qn,bs,hd,sn,sub,ab,col,dd,k0,k1,k2,k3,k5,_,X _ _ e,.of_isNs<|PySem.W.isNs_of_in X q5,PySem.W.nsMap_none_of_in X q5 q7,PySem.W.tail_of_in X q4⟩,λv b hv=>?_⟩;unfold PySem.W.mroIn PySem.W.clsIn at hv;rw[e]at hv;have hv:some ((Value.ref C'::bm).contains v)=some b:=hv;exact Wat.inj hv
  next=>cases q
 next=>cases q
theorem InsC.ty {a C:Addr}{h:Heap}{M:Model}(I:InsC a C h):PySem.W.Looks M h (typeOf (.ref a)) (.ref C):=by
 obtain⟨o,_,h1,h2,_⟩:=I;exact h2 ▸ (PySem.W.Looks.ld h1).andThen .now
section
variable {prog:Program}{w:World}{A:Around}{E:Value->Shared->Prop}{K:W.Frag}{s:Shared}{a C:Addr}
theorem Zji {R:Result->Shared->Prop}{tp:Value}(X:K.In s.heap) (I:InsC a C s.heap) (hm:PySem.W.mroIn K C (.type "object")=some true) (h:R (.ok (.ret (.ref C))) s) :
  codeAny (model prog w) A (.call (.builtin "getset_descriptor.__get__") ⟨[.builtin "object.__class__",.ref a,tp],[]⟩) R s:=by
 obtain⟨h0,g,d,t,os⟩:=s;have l0:=I.ty (M:=model prog w);have l1:=PySem.W.looks_mroIn (M:=model prog w) X hm;have ht:(⟨h0,g,d,t,os⟩:Shared).TypeIs (.builtin "object.__class__") "getset_descriptor":=PySem.W.KF.type_class;refine codeAny_call_builtin PySem.W.KF.slot_gs.plain PySem.W.KF.entry_gs<|PySem.W.KF.slot_gs.check _ _ _ _ _ _ _ _ ht (PySem.W.KF.args_gs _ _ _) ?_;unfold Builtin.«getset_descriptor.__get__» Builtin.Getset_descriptor.descrGet;rw[PySem.W.dga_obj];refine wpAny_bind (m:=pure _)<|wpAny_pure ?_;unfold Builtin.Getset_descriptor.descrGetter Builtin.Getset_descriptor.descrCheckInstance Builtin.Getset_descriptor.descrNameAndClass isInstance;simp only[PySem.W.KF.owner_class]
 repeat lk
 refine⟨Code.quiet_builtin _ (by decide +kernel),codeAny_builtin PySem.W.KF.entry_class ?_⟩;unfold Builtin.«object.__class__» shownTypeOf
 repeat lk
 exact h
end
abbrev XC (X:Cx) (e:Addr):Cx:={ X with A:=X.A.mark<|some (.ref e),calm:=false,xe:=λ_ _=>False }
theorem Cx.Ok.suite {X:Cx}(ok:X.Ok) (e:Addr):(XC X e).Ok:=
 ⟨ok.mod,ok.kind,ok.glob,ok.blt,ok.above,ok.inj,ok.has,ok.cab,(λz=>nomatch z),ok.frames,ok.stk,ok.exf,ok.bs,ok.bsz,ok.noex,ok.exfs,ok.funs,ok.frf⟩
abbrev XT (X:Cx) (pn:List (Addr × Obj)) (xe:Value->Shared->Prop):Cx:={ X with pn:=pn,xe:=xe }
theorem Cx.Ok.try_ {X:Cx}(ok:X.Ok) (pn:List (Addr × Obj)) (xe:Value->Shared->Prop):(XT X pn xe).Ok:=
 ⟨ok.mod,ok.kind,ok.glob,ok.blt,ok.above,ok.inj,ok.has,ok.cab,ok.hd,ok.frames,ok.stk,ok.exf,ok.bs,ok.bsz,ok.noex,ok.exfs,ok.funs,ok.frf⟩
section
variable {X:Cx}{pins:List (Addr × Obj)}{σ:St}{H:Hp}{s:Shared}{a C:Addr}
theorem Inv.suite (I:Inv X pins σ H s) (e:Addr):Inv (XC X e) pins σ H s:=⟨I.ok.suite e,I.os,I.bare,I.base,I.loc,I.cell,I.free,I.freeC,I.pin,I.hok,I.len⟩
theorem Inv.unsuite {e:Addr}(ok:X.Ok) (I:Inv (XC X e) pins σ H s):Inv X pins σ H s:=⟨ok,I.os,I.bare,I.base,I.loc,I.cell,I.free,I.freeC,I.pin,I.hok,I.len⟩
theorem Inv.into {xe:Value->Shared->Prop}(I:Inv X pins σ H s):Inv (XT X (X.pn++pins) xe) [] σ H s:=⟨I.ok.try_ _ _,I.os,I.bare,I.base,I.loc,I.cell,I.free,I.freeC,λp hp=>I.pin p (by simpa using hp),I.hok,I.len⟩
theorem Inv.outof {xe:Value->Shared->Prop}{pins1:List (Addr × Obj)}(ok:X.Ok) (I:Inv (XT X (X.pn++pins) xe) pins1 σ H s):Inv X pins σ H s:=⟨ok,I.os,I.bare,I.base,I.loc,I.cell,I.free,I.freeC,λp hp=>I.pin p<|Wbv _ hp,I.hok,I.len⟩
theorem Inv.gone {M:Model}{A:Around}{E:Value->Shared->Prop}{i:Nat}{x:Str}{pos:Pos}{Q:Unit->Shared->Prop}(I:Inv X pins σ H s) (hN:X.N.Nodup) (hi:X.N[i]?=some x) (hk:X.env.scope.names.lookup x=some .local)
  (h:∀s',Inv X pins (σ.set i none) H s' -> Q () s'):wpAny M A (do bindName X.env x .none;unbindBehindTheSuite X.env x pos) Q E s:=by
 obtain⟨m,hn,hl⟩:=id I.loc;have hcls:(X.env.scope.kind == .class || (X.env.scope.kind == .module && X.env.locals != X.env.globals))=false:=by rw[I.ok.kind];rfl
 refine wpAny_nameGoes_keeps (show X.env.kindOf x=some .local from hk) hn hcls λh' v hn' hs=>h _ ?_;have cne:=I.cne;obtain⟨oL,_,_,hoL,_⟩:=id hn;have ltL:∀b o,X.s₀.heap.get? b=some o->b≠X.env.locals:=λb o e=>Wa4<|Wa0 (Wan e) I.ok.above;refine⟨I.ok,I.os,I.bare,⟨λb o e n hb hx=>?_,λb o e n hb hx=>?_,I.base.free,λb o e hx=>?_,I.base.tups,I.base.frzs,I.base.tbls⟩,⟨_,hn',λj y v' e1 e2 e3=>?_⟩,λy c e=>?_,I.free,I.freeC,λp hp=>?_,λb u e=>?_,by simpa using I.len⟩
 ·exact(hs.2 b<|ltL b o e).trans (I.base.keep b o e n hb hx)
 ·obtain⟨sl,e1⟩:=I.base.slot b o e n hb hx
  exact⟨sl,(hs.2 b<|ltL b o e).trans e1⟩
 ·obtain⟨o',e1⟩:=I.base.there b o e hx
  exact⟨o',(hs.2 b<|ltL b o e).trans e1⟩
 ·have hj:j≠i:=by
   intro z;subst z;rw[Wce]at e2;split at e2
   ·split at e2 <;> cases e2
   ·rename_i z;exact z rfl
  rw[Wao (Ne.symm hj)]at e2;obtain⟨u',r',q⟩:=hl j y v' e1 e2 e3;refine⟨u',r',?_⟩;rcases q with ⟨k,e⟩|⟨k,c,e,z⟩
  ·refine .inl ⟨k,?_⟩
   have hy:y≠x:=λe=>hj<|Zfw hN e1 (e ▸ hi);show (if y=x then v else m y)=_;rw[if_neg hy];exact e
  ·exact .inr ⟨k,c,e,z.sameBut hs<|cne y c e⟩
 ·obtain⟨w',z⟩:=I.cell y c e
  exact⟨w',z.sameBut hs<|cne y c e⟩
 ·obtain⟨e,n,ne,nf,d⟩:=I.pin p hp
  exact⟨(hs.2 p.1 ne).trans e,n,ne,nf,d⟩
 ·refine(I.hok b u e).stay (λc w' hc q=>(hs.2 c ?_).trans q) (λ_ q=>q) λ_ _ q=>q
  rintro rfl;rcases hc with rfl|hc
  ·rw[I.free]at e;cases e
  ·rw[I.free]at hc;cases hc
end
section
variable {X:Cx}
end
section
variable {P:Program}{w:World}{K:W.Frag}{mg:Str->Option Value}{base:Heap}
end
section
variable {K:W.Frag}{Δ:Evt}{E:XK}{Xp:Addr->Prop}{nx bk ct:Evt->Prop}{rt:D->Evt->Prop}{ro:OD->Evt->Prop}
theorem Ok.unset {g:Gm}{G H:Hp}{σ:St}(k:Ok K g G H σ Δ) (i:Nat):Ok K g G H (σ.set i none) (Δ.set i .any):=by
 have ne:∀(j:Nat) x,(Δ.set i .any)[j]?=some x->x≠.any->j≠i /\ Δ[j]?=some x/\(σ.set i none)[j]? = σ[j]?:=λj x e h=>by
  by_cases hj:j=i
  ·subst hj
   rw[Wce]at e;split at e
   ·split at e
    ·cases e;exact absurd rfl h
    ·cases e
   ·rename_i z;exact absurd rfl z
  ·rw[Wao (Ne.symm hj)]at e
   exact⟨hj,e,Wao<|Ne.symm hj⟩
 have od:∀(x:Slot) o,x.od=some o->x≠.any:=λx o e z=>by subst z;cases e
 refine⟨k.same,k.lent,k.sub,k.frz,λb o e=>?_,by simp[k.len],λj d e=>?_,λj x o e1 e2=>?_,λj l x y o o' a e1 e2 e3 e4 e5 e6=>?_⟩
 ·obtain⟨h1,h2,h3⟩:=k.ext b o e
  refine⟨h1,h2,λj x o e1 e2=>?_⟩;obtain⟨_,q1,q2⟩:=ne j x e1<|od x o e2;rw[q2];exact h3 j x o q1 e2
 ·obtain⟨_,q1,q2⟩:=ne j _ e (by intro z;cases z)
  rw[q2];exact k.val j d q1
 ·obtain⟨_,q1,q2⟩:=ne j x e1 (od x o e2)
  rw[q2];exact k.own j x o q1 e2
 ·obtain⟨_,q1,q2⟩:=ne j x e1 (od x o e2)
  obtain⟨_,q3,q4⟩:=ne l y e3<|od y o' e4;rw[q2]at e5;rw[q4]at e6;exact k.dis j l x y o o' a q1 e2 q3 e4 e5 e6
theorem Zo1 {a:Addr}{P:D->Evt->Prop}(p:P (.adr a) Δ):JE K (tC (.ref a)) Δ P:=λg G H σ Q k c=>c _ _ G H Δ k (Same.refl _) (.adr a) p
end
theorem Zbw {K:W.Frag}{C c:Addr}{b:Bool}(h1:PySem.W.isClsIn K c=true) (h2:PySem.W.typeIn K (.ref c)=some (.type "type")) (h3:PySem.W.subIn K (.ref C) (.ref c)=some b) (h4:(C == c)=true->b=true):PySem.W.kitOne K (.ref C) (.ref c)=some b:=by
 unfold PySem.W.kitOne PySem.W.kitCls;by_cases e:(Value.ref C == Value.ref c)=true
 ·rw[if_pos e]
  have e':C=c:=Value.ref.inj<|beq_iff_eq.mp e;rw[h4 (by rw[e'];exact beq_self_eq_true c)]
 ·rw[if_neg e]
  have h1:(PySem.W.clsIn K c).isSome=true:=h1;simp only[h1,h2,beq_self_eq_true,Wdb,if_true,h3]
open PySem PySem.Spec PyProof.Rows PySem.SeqAt
theorem Zbt {A:Around}{s:Shared}{x:V}{v u:Value}(h:flatV x=true) (rv:RelV x v) (ru:RelV x u):EqAt A s v u true:=by
 cases x with
 |non=>cases (show v=Value.none from rv);cases (show u=Value.none from ru);exact EqAt.same _
 |bl b=>cases (show v=Value.bool b from rv);cases (show u=Value.bool b from ru);exact EqAt.same _
 |int i=>
  obtain⟨t,rfl⟩:=rv;obtain⟨t',rfl⟩:=ru;have:=EqAt.int_int (A:=A) (s:=s) i t i t'
  rwa [beq_self_eq_true]at this
 |str i=>
  obtain⟨t,rfl⟩:=rv;obtain⟨t',rfl⟩:=ru;have:=EqAt.str_str (A:=A) (s:=s) i t i t'
  rwa [beq_self_eq_true]at this
 |_=>cases h
section
variable {K:W.Frag}{Δ:Evt}{P:D->Evt->Prop}
def flatE:D->Bool
 |.non=>true
 |.bl _=>true
 |.int _=>true
 |.str _=>true
 |_=>false
end
theorem Zdn:bootBuiltins "ValueError" = some (.type "ValueError"):=by decide +kernel
theorem Zp9 {K:W.Frag}{C:Addr}{n:String}{b:Bool}(hm:PySem.W.kitMeta n=true) (h:PySem.W.subIn K (.ref C) (.type n)=some b):PySem.W.kitOne K (.ref C) (.type n)=some b:=by
 unfold PySem.W.kitOne PySem.W.kitCls;have e:¬ (Value.ref C == Value.type n)=true:=λz=>by cases beq_iff_eq.mp z
 rw[if_neg e];simp only[hm,if_true,h]
theorem Zgc:entryFor table "proto.unchain" = some Builtin.«proto.unchain»:=entryFor_of_tree (by kernel_rfl)
section
variable {prog:Program}{w:World}{A:Around}{E:Value->Shared->Prop}{s:Shared}
theorem raiseH {α:Type}{a e:Addr}{oa oe:Obj}{va ve:Array Value}{Q:α -> Shared->Prop}(hh:A.handled=some (.ref a)) (hne:a≠e) (ha:s.heap.get? a=some oa) (hda:oa.data=.fields va) (h2:va[2]?=some .none)
  (he:s.heap.get? e=some oe) (hde:oe.data=.fields ve) (hsz:2<ve.size) (h:E (.ref e) { s with heap:=s.heap.update e (Obj.mapFields (·.setIfInBounds 2 (.ref a))) }):wpAny (model prog w) A (raiseNew (.ref e):Sem α) Q E s:=by
 unfold raiseNew;refine wpAny_bind<|wpAny_handled ?_;rw[hh];dsimp only;have hn:(Value.ref a != Value.ref e)=true:=by
  rw[bne_iff_ne];intro z;exact hne<|Value.ref.inj z
 rw[if_pos hn];refine wpAny_bind<|wpAny_holding<|wpAny_runValue<|codeAny_builtin Zgc ?_;unfold Builtin.«proto.unchain»;dsimp only;refine wpAny_bind<|wpAny_field ha hda h2 ?_;rw[if_pos (show (Value.none == Value.none)=true from rfl)];refine wpAny_pure ?_;show wpAny _ _ (updateField e 2 (.ref a) >>= _) _ _ s;unfold updateField;refine wpAny_bind<|wpAny_bind<|wpAny_load he ?_;rw[hde];dsimp only;rw[if_pos hsz];exact wpAny_update he<|wpAny_throw h
theorem Zjz {a it:Addr}{oa:Obj}{va:Array Value}{x left step:Int}{Q:Option Value->Shared->Prop}(hh:A.handled=some (.ref a)) (ha:s.heap.get? a=some oa) (hda:oa.data=.fields va) (h2:va[2]?=some .none) (hit:IsRangeIter s.heap it x left step) (hleft:left<=0)
  (hQ:∀h',Heap.ExtBut it s.heap h' -> Q none { s with heap:=h' }):wpAny (model prog w) A (pyNext (.ref it)) Q E s:=by
 have hT:s.TypeIs (.ref it) "range_iterator":=⟨_,hit,rfl⟩;unfold pyNext;refine wpAny_bind<|wpAny_attempt<|wpAny_callSpecial?_slot (name:=Str.ofString "__next__") hT F.slot_range_iterator_next<|wpAny_call_entry F.slot_range_iterator_next hT F.entry_range_iterator_next ?_<|F.args_range_iterator_next_1 _;show wpAny _ _ (field (.ref it) 0 >>= _) _ _ s;refine wpAny_bind<|wpAny_field hit rfl (x:=rawInt x) rfl ?_;show wpAny _ _ (field (.ref it) 1 >>= _) _ _ s;refine wpAny_bind<|wpAny_field hit rfl (x:=rawInt left) rfl ?_;show wpAny _ _ (field (.ref it) 2 >>= _) _ _ s;refine wpAny_bind<|wpAny_field hit rfl (x:=rawInt step) rfl ?_;show wpAny _ _ (if left<=0 then _ else _) _ _ s;rw[if_pos hleft];refine wpAny_bind<|wpAny_rule<|wpAny_bind ?_;show wpAny _ _ (newExc (.type "StopIteration") [] >>= _) _ _ _;refine wpAny_bind ?_;simp only[newExc,newTuple];refine wpAny_bind<|wpAny_newObj_type ?_ (by size_fits);refine wpAny_bind (m:=firstArgMember _ _)<|wpAny_of_eq (a:=Value.none) (by first|rfl|(simp only[firstArgMember];rfl))<|wpAny_newObj_type ?_ (by size_fits);have lt:=Wan ha;have nb:∀b o,s.heap.get? b=some o->s.heap.objs.size+1≠b:=λb o e=>Wb6<|Wdc<|Wan e;refine raiseH (a:=a) (A:=A.in1) hh (Ne.symm ?_) (Waa _<|Waa _ ha) hda h2 (Wag _ rfl) rfl (by rw[Array.size_append];exact Wa0 (show 2<6 by decide)<|Nat.le_add_right _ _) ?_
 ·rw[Wbj];exact nb a oa ha
 ·refine wpAny_bind (wpAny_isInstance (T:="StopIteration") (b:=true) ⟨_,Wbi _ (Wag _ rfl) rfl,rfl⟩ isSubtype_stop ?_)
  refine wpAny_pure (hQ _ λb o hb e=>?_);rw[Wbc _ _ (by rw[Wbj];exact nb b o e)];exact Waa _<|Waa _ e
end
abbrev TurnH (xa:Addr):=TurnG λX=>X.A.handled=some (.ref xa)
abbrev PIEH (xa:Addr):=PIEG λX=>X.A.handled=some (.ref xa)
abbrev PIH (xa:Addr):=PIG λX=>X.A.handled=some (.ref xa)
section
variable {X:Cx}{xa:Addr}{tg:Expr}
theorem Zk0 {elt tg iter:Expr}{ifs:List Expr}{scope:Scope}{pos:Pos}{fvs:List Str}{sel:List Nat}{wi:TI}{g:TG}{tc:TT}{te:TE}(tgs:List Str) (S:CompSc X.env.scope X.N scope fvs sel) (hc:X.A.handled=some (.ref xa))
  (hi:PIH xa X tg iter wi) (hg:∀C s H ex pn,PG (compCx X scope (tgs++fvs) C s H ex pn) tg g) (ht:∀C s H ex pn,PTs (compCx X scope (tgs++fvs) C s H ex pn) ifs tc) (he:∀C s H ex pn,PE (compCx X scope (tgs++fvs) C s H ex pn) elt te)
  (hs:∀x,foldedSetIterable iter X.env x=pure x:=by intro _;rfl) :
  PE X (.ListComp elt [⟨tg,iter,ifs,0⟩] scope pos) (tComp tgs.length sel wi g tc te):=by
 intro pins s σ H Q I h;rw[eval_ListComp];refine wpAny_comprehension_free (use:=none) rfl hs (Zb9<|Zc4 S I.ok) S.kind S.names (thn (hi pins s σ H _ I h) λv s1 h1=>thn h1 λitv s2 h2=>?_);refine Ze8 (Cm:=λX=>X.A.handled=some (.ref xa)) S (λ_ _ _ _ _=>hc) hg ht he (RR:=λacc C=>compPost (model X.prog X.w) X.A X.xe none (EP X pins σ Q) acc C) (Q:=Q) h2 ?_;intro s' C acc H' m hn _ hI q;exact⟨m,hn,λh' sb=>⟨.ref acc,H',hI h' sb,rfl,q⟩⟩
end
section
variable {K:W.Frag}{Δ:Evt}{E:XK}{Xp:Addr->Prop}{P:D->Evt->Prop}
theorem Zpy (p:P (.dct [] []) Δ):JE K tDNewK Δ P:=λg G H σ Q k c q hq=>by
 obtain⟨k2,sg⟩:=k.laid hq (.dK []);exact c _ _ _ _ Δ k2 sg (.dct (vs:=[]) Zal rfl .nil) p
end
theorem Zgw {ks:List (Option Expr)}{vs:List Expr}{p:Pos}{es:List Expr}{env:Env}:starEach (Expr.Dict ks vs p::es) env=(false,eval (Expr.Dict ks vs p) env)::starEach es env:=rfl
theorem Zk3 {vs:List Expr}{p:Pos}{es:List Expr}{env:Env}:starEach (Expr.List vs p::es) env=(false,eval (Expr.List vs p) env)::starEach es env:=rfl
theorem Zog {vs:List Expr}{c} {p:Pos}{es:List Expr}{env:Env}:starEach (Expr.Tuple vs c p::es) env=(false,eval (Expr.Tuple vs c p) env)::starEach es env:=rfl
def keyPd:Key->PyData
 |.inl i=>.int i
 |.inr x=>.str x
mutual
def D.pd:D->PyData
 |.non=>.none
 |.bl b=>.bool b
 |.int i=>.int i
 |.str x=>.str x
 |.tup ds=>.tuple (D.pds ds)
 |.lst ds=>.list (D.pds ds)
 |.dct ks ds=>.dict ((ks.map keyPd).zip (D.pds ds))
 |_=>.none
def D.pds:List D->List PyData
 |[]=>[]
 |d::ds=>D.pd d::D.pds ds
end
mutual
def D.shw:D->Bool
 |.non=>true
 |.bl _=>true
 |.str _=>true
 |.int i=>decide (i.natAbs.log2<1920)
 |.tup ds=>D.shws ds
 |.lst ds=>D.shws ds
 |_=>false
def D.shws:List D->Bool
 |[]=>true
 |d::ds=>D.shw d && D.shws ds
end
def D.shT (d:D):Prop:=d.shw=true\/∃ks ns:List Int,d=.dct (ks.map .inl) (ns.map .int)/\(∀k∈ks,k.natAbs.log2<1920)/\∀n∈ns,n.natAbs.log2<1920
mutual
theorem Zkj:∀d:D,d.shw=true->d.pd.showable=true/\d.pd.hasDict=false
 |.non,_=>⟨rfl,rfl⟩
 |.bl _,_=>⟨rfl,rfl⟩
 |.int i,h=>⟨h,rfl⟩
 |.str _,_=>⟨rfl,rfl⟩
 |.tup ds,h=>Zh7 ds h
 |.lst ds,h=>Zh7 ds h
 |.ty _,h=>by cases h
 |.scr _,h=>by cases h
 |.adr _,h=>by cases h
 |.dct _ _,h=>by cases h
 |.exc _ _,h=>by cases h
 |.excR _ _ _,h=>by cases h
theorem Zh7:∀ds:List D,D.shws ds=true->PyData.showableAll (D.pds ds)=true/\PyData.hasDictAll (D.pds ds)=false
 |[],_=>⟨rfl,rfl⟩
 |d::ds,h=>by
  have h:(d.shw && D.shws ds)=true:=h;rw[Wau]at h;obtain⟨a1,a2⟩:=Zkj d h.1;obtain⟨b1,b2⟩:=Zh7 ds h.2;show (d.pd.showable && PyData.showableAll (D.pds ds))=true/\(d.pd.hasDict || PyData.hasDictAll (D.pds ds))=false;rw[a1,a2,b1,b2];exact⟨rfl,rfl⟩
end
section
variable {P:Program}{w:World}{K:W.Frag}{G H:Hp}{h:Heap}
mutual
theorem Zf0 (ok:HOk P w H h) (sg:Same G H):∀{v:V}{d:D}{u:Value},Rep K G v d->d.shw=true->RelV v u->∃as,Reads h u d.pd as
 |_,_,_,.non,_,r=>by cases r;exact⟨_,.none⟩
 |_,_,_,.bl b,_,r=>by cases r;exact⟨_,.bool b⟩
 |_,_,_,.int i,_,r=>by obtain⟨t,rfl⟩:=r;exact⟨_,.int i t⟩
 |_,_,_,.str x,_,r=>by obtain⟨t,rfl⟩:=r;exact⟨_,.str x t⟩
 |_,_,_,.ty _,z,_=>by cases z
 |_,_,_,.tup e rs,z,r=>by
  cases r;obtain⟨_,its,rv,o,ho,⟨hc,n,hd⟩,_⟩:=ok _ _<|sg _ _ e;obtain⟨as,ra⟩:=Zdc ok sg rs z rv;exact⟨_,.tuple ho hc hd ra⟩
 |_,_,_,.lst e rs,z,r=>by
  cases r;obtain⟨_,its,n,rv,ho⟩:=ok _ _<|sg _ _ e;obtain⟨as,ra⟩:=Zdc ok sg rs z rv;exact⟨_,.list ho rfl rfl ra⟩
 |_,_,_,.scr _ _,z,_=>by cases z
 |_,_,_,.adr _,z,_=>by cases z
 |_,_,_,.dct _ _ _,z,_=>by cases z
 |_,_,_,.exc _,z,_=>by cases z
 |_,_,_,.excR _ _,z,_=>by cases z
theorem Zdc (ok:HOk P w H h) (sg:Same G H):∀{vs:List V}{ds:List D}{us:List Value},Reps K G vs ds->D.shws ds=true->Vals vs us->∃as,ReadsAll h us (D.pds ds) as
 |_,_,_,.nil,_,r=>by cases r;exact⟨_,.nil⟩
 |_,_,_,.cons (d:=d) (ds:=ds) a b,z,r=>by
  have z:(d.shw && D.shws ds)=true:=z;rw[Wau]at z;cases r with
  |cons ra rb=>
   obtain⟨as,ha⟩:=Zf0 ok sg a z.1 ra;obtain⟨bs,hb⟩:=Zdc ok sg b z.2 rb;exact⟨_,.cons ha hb⟩
end
theorem Zd1:∀{ks ns:List Int}{kvs:List (Key × Value)}{es:List DictEntry},ks.length=ns.length->KV ((ks.map (Sum.inl:Int->Key)).zip (ns.map V.int)) kvs->Pairs (mixKind P w) es kvs →
  ReadsAll h (es.map (·.key)) (ks.map PyData.int) []/\ReadsAll h (es.map (·.val)) (ns.map PyData.int) []
 |[],[],_,_,_,r,p=>by cases r;cases p;exact⟨.nil,.nil⟩
 |k::ks,n::ns,_,_,l,r,p=>by
  cases r with
  |@cons a b as bs h1 h2=>
   cases p with
   |@cons e kv es kvs q1 q2 q3=>
    obtain⟨i1,i2⟩:=Zd1 (ks:=ks) (ns:=ns) (by simpa using l) h2 q3;obtain⟨hk,hv⟩:=h1;obtain⟨t,hv⟩:=hv;have q1:keyIs b.1 e.key=true:=q1;rw[<- hk]at q1;have hk2:∃t,e.key=.int k t:=Value.isInt_shape (k:=k) (v:=e.key) q1;obtain⟨t2,hk2⟩:=hk2;refine⟨?_,?_⟩
    ·rw[Wav,Wav,hk2];exact .cons (as:=[]) (.int k t2) i1
    ·rw[Wav,Wav,q2,hv];exact .cons (as:=[]) (.int n t) i2
 |[],_::_,_,_,l,_,_=>by cases l
 |_::_,[],_,_,l,_,_=>by cases l
end
theorem Zil:∀{ks ns:List Int},ks.length=ns.length->(((ks.map Sum.inl).map keyPd).zip (D.pds<|ns.map D.int)).map (·.1)=ks.map PyData.int/\(((ks.map Sum.inl).map keyPd).zip (D.pds<|ns.map D.int)).map (·.2)=ns.map PyData.int
 |[],[],_=>⟨rfl,rfl⟩
 |k::ks,n::ns,l=>by
  obtain⟨h1,h2⟩:=Zil (ks:=ks) (ns:=ns) (by simpa using l);simp only[Wav,D.pds,Wda];rw[h1,h2];exact⟨rfl,rfl⟩
 |[],_::_,l=>by cases l
 |_::_,[],l=>by cases l
theorem shkv:∀{ks ns:List Int},(∀k∈ks,k.natAbs.log2<1920)->(∀n∈ns,n.natAbs.log2<1920)->PyData.showableKv (((ks.map Sum.inl).map keyPd).zip (D.pds<|ns.map D.int))=true
 |[],_,_,_=>rfl
 |_::_,[],_,_=>rfl
 |k::ks,n::ns,h1,h2=>by
  have i:=shkv (ks:=ks) (ns:=ns) (λa ha=>h1 a<|Wal _ ha) λa ha=>h2 a<|Wal _ ha;show (decide (k.natAbs.log2<1920) && decide (n.natAbs.log2<1920) && PyData.showableKv _)=true;rw[Wau,Wau];exact⟨⟨decide_eq_true<|h1 k<|Waq ..,decide_eq_true<|h2 n<|Waq ..⟩,i⟩
def rRepr (K:W.Frag):List V->Hp->VK->Prop:=λxs H Q=>∃(G:Hp) (v:V) (d:D),xs=[v]/\Same G H/\Rep K G v d/\d.shT/\d.pd.depth<=20/\d.pd.shown.length<=sizeLine/\Q (.str d.pd.shown) H
section
variable {X:Cx}
theorem reprK (K:W.Frag) (hg:X.A.guards=some []) (hu:X.A.units+30<cLine) (hK:X.K=K:=by rfl):CallR X (.builtin "repr") (rRepr K):=by
 subst hK;intro pins s σ H xs us Q I r h;obtain⟨G,v,d,rfl,sg,rep,sh,dp,sz,q⟩:=h;obtain⟨u,rfl,ru⟩:=vals1 r;have fin:∀(a:Addr),u=.ref a->(∃as,Reads s.heap (.ref a) d.pd as/\d.pd.showable=true/\(d.pd.hasDict=true->sysModules ∉ as))->wpAny (model X.prog X.w) X.A (call (.builtin "repr") [u]) (EP X pins σ Q) X.xe s:=λa e ⟨as,h1,h2,h3⟩=>by
  subst e;exact repr_of_reads' h1 h2 h3 hg (by omega) (λ_ _ e=>e) (λh' t tk hk=>⟨.str _,H,I.kept hk,⟨_,rfl⟩,q⟩) sz
 rcases sh with z|⟨ks,ns,rfl,z1,z2⟩
 ·obtain⟨as,h1⟩:=Zf0 I.hok sg rep z ru
  obtain⟨h2,h3⟩:=Zkj d z;have big:∀a,u=.ref a->wpAny (model X.prog X.w) X.A (call (.builtin "repr") [u]) (EP X pins σ Q) X.xe s:=λa e=>fin a e ⟨as,e ▸ h1,h2,λh4=>by rw[h3]at h4;cases h4⟩;cases rep with
  |non=>cases ru;exact PySem.P.repr_of_none ⟨.str _,H,I.tok _,⟨_,rfl⟩,q⟩
  |bl b=>cases ru;exact PySem.P.repr_of_bool ⟨.str _,H,I.tok _,⟨_,rfl⟩,q⟩
  |int i=>obtain⟨t,rfl⟩:=ru;exact PySem.P.repr_of_int (of_decide_eq_true z) ⟨.str _,H,I.tok _,⟨_,rfl⟩,q⟩
  |str x=>obtain⟨t,rfl⟩:=ru;exact PySem.P.repr_of_str ⟨.str _,H,I.tok _,⟨_,rfl⟩,q⟩ sz
  |tup e rs=>exact big _ ru
  |lst e rs=>exact big _ ru
  |_=>cases z
 ·cases rep with
  |@dct a _ vs _ e l rs=>
   cases (show u=Value.ref a from ru);have ev:=Reps.ints rs;subst ev;have l2:ks.length=ns.length:=by simpa using l
   obtain⟨_,hS,kvs,rk,o,es,ep,ho,hc,hd,_,hp,_⟩:=Zjr I.hok<|sg _ _ e;obtain⟨r1,r2⟩:=Zd1 (h:=s.heap) l2 rk hp;obtain⟨e1,e2⟩:=Zil l2;rw[<- e1]at r1;rw[<- e2]at r2;have rd:Reads s.heap (.ref a) (D.pd (.dct (ks.map Sum.inl)<|ns.map D.int)) (a::[]++[]):=.dict ho hc.1 hd r1 r2;refine fin a rfl ⟨_,rd,shkv z1 z2,λ_ hm=>?_⟩
   ·have hm:sysModules=a:=by simpa using hm
    subst hm;exact absurd hS (by rw[beq_self_eq_true];decide)
end
section
variable {K:W.Frag}{Δ:Evt}{P:D->Evt->Prop}
theorem Zk4:bootBuiltins "repr" = some (.builtin "repr"):=by decide +kernel
theorem Zsr {A:Around}{k:Nat}(hr:Room k A):A.units+30<cLine:=Wbm (Wcp (by decide:30<=64) _) hr.units
theorem Zrf {i:Int}(h:i.natAbs.log2<1920):(D.int i).shT/\(D.int i).pd.depth<=20/\(D.int i).pd.shown.length<=sizeLine:=⟨.inl<|decide_eq_true h,by show 0<=20;decide,int_text_fits h⟩
theorem Zrt {i:Int}(h1:-1000000000000000000000000000000000000000000000000000000000000<=i) (h2:i<=1000000000000000000000000000000000000000000000000000000000000):i.natAbs.log2<1920:=by
 by_cases z:i.natAbs=0
 ·rw[z];decide
 ·have h4:i.natAbs<2 ^ 200:=Wbm (m:=1000000000000000000000000000000000000000000000000000000000000) (by omega) (by decide)
  exact Wc4 ((Nat.log2_lt z).2 h4) (by decide)
theorem Zqv {d:D}(h1:d.shT) (h2:d.pd.depth<=20) (h3:d.pd.shown.length<=sizeLine) (p:P (.str d.pd.shown) Δ):JC K (rRepr K) [d] Δ P:=λg G H σ Q vs k rs c=>by
 obtain⟨_,_,rfl,r,t⟩:=rs.inv
 next=>cases t.inv;exact⟨G,_,d,rfl,k.live,r,h1,h2,h3,c _ _ G H Δ k (Same.refl _) (.str _) p⟩
end
section
variable {P:Program}{w:World}{K:W.Frag}{G H:Hp}{h:Heap}
theorem Zox (ok:HOk P w H h) (sg:Same G H) {v:V}{d:D}{u:Value}(rep:Rep K G v d) (sh:d.shT) (ru:RelV v u):∃as,Reads h u d.pd as/\d.pd.showable=true/\(d.pd.hasDict=true->sysModules ∉ as):=by
 rcases sh with z|⟨ks,ns,rfl,z1,z2⟩
 ·obtain⟨as,h1⟩:=Zf0 ok sg rep z ru
  obtain⟨h2,h3⟩:=Zkj d z;exact⟨as,h1,h2,λh4=>by rw[h3]at h4;cases h4⟩
 ·cases rep with
  |@dct a _ vs _ e l rs=>
   cases (show u=Value.ref a from ru);have ev:=Reps.ints rs;subst ev;have l2:ks.length=ns.length:=by simpa using l
   obtain⟨_,hS,kvs,rk,o,es,ep,ho,hc,hd,_,hp,_⟩:=Zjr ok<|sg _ _ e;obtain⟨r1,r2⟩:=Zd1 (h:=h) l2 rk hp;obtain⟨e1,e2⟩:=Zil l2;rw[<- e1]at r1;rw[<- e2]at r2;have rd:Reads h (.ref a) (D.pd (.dct (ks.map Sum.inl)<|ns.map D.int)) (a::[]++[]):=.dict ho hc.1 hd r1 r2;refine⟨_,rd,shkv z1 z2,λ_ hm=>?_⟩;have hm:sysModules=a:=by simpa using hm
   subst hm;exact absurd hS (by rw[beq_self_eq_true];decide)
def D.shU (d:D):Prop:=d.shT\/∃x:Str,d=.tup [.str x,.dct [] []]
theorem Zr5 (ok:HOk P w H h) (sg:Same G H) {v:V}{d:D}{u:Value}(rep:Rep K G v d) (sh:d.shU) (ru:RelV v u):∃as,Reads h u d.pd as/\d.pd.showable=true/\(d.pd.hasDict=true->sysModules ∉ as):=by
 rcases sh with z|⟨x,rfl⟩
 ·exact Zox ok sg rep z ru
 ·cases rep with
  |tup e rs=>
   cases ru;obtain⟨_,its,rv,o,ho,⟨hc,n,hd⟩,_⟩:=ok _ _<|sg _ _ e;cases rs with
   |cons r1 rs=>
    cases rs with
    |cons r2 rs=>
     cases rs;cases rv with
     |cons v1 rv=>
      cases rv with
      |cons v2 rv=>
       cases rv;cases r1;obtain⟨t,rfl⟩:=v1;obtain⟨as,h1,h2,h3⟩:=Zox ok sg r2 (.inr ⟨[],[],rfl,by simp,by simp⟩) v2;exact⟨_,.tuple ho hc hd (.cons (.str x t) (.cons h1 .nil)),rfl,λ_=>by rw[List.nil_append,Wba];exact h3 rfl⟩
end
section
variable {K:W.Frag}{Δ:Evt}{P:D->Evt->Prop}
end
def PV (K:W.Frag) (te:TE) (Δ:Evt) (d:D):Prop:=∀P:D->Evt->Prop,P d Δ -> JE K te Δ P
def PVs (K:W.Frag) (ta:TA) (Δ:Evt) (ds:List D):Prop:=∀P:List D->Evt->Prop,P ds Δ -> JA K ta Δ P
def PR2 (K:W.Frag) (r:R2) (d e:D) (Δ:Evt) (x:D):Prop:=∀P:D->Evt->Prop,P x Δ -> JR2 K r d e Δ P
section
variable {K:W.Frag}{Δ:Evt}
theorem Zgt {te:TE}{d:D}{P:D->Evt->Prop}(h:PV K te Δ d) (p:P d Δ):JE K te Δ P:=h P p
theorem Zor {ta:TA}{ds:List D}{P:List D->Evt->Prop}(h:PVs K ta Δ ds) (p:P ds Δ):JA K ta Δ P:=h P p
theorem Zbz {i:Nat}{d:D}(h:Δ[i]?=some (.val d)):PV K (tVar i) Δ d:=λP p=>Zad h p
theorem Zcm {i:Int}:PV K (tC (.int i)) Δ (.int i):=λP p=>Zan p
theorem Zel:PVs K tNil Δ []:=λP p=>Zaf p
theorem Zcv {ta:TE}{tr:TA}{d:D}{ds:List D}(h:PV K ta Δ d) (t:PVs K tr Δ ds):PVs K (tCons ta tr) Δ (d::ds):=λP p=>Zab<|h _<|t _ p
theorem Zrq {ta:TA}{ds:List D}(h:PVs K ta Δ ds) (z:ds.length<=sizeLine):PV K (tTup ta) Δ (.tup ds):=λP p=>Zbh<|h _ ⟨z,p⟩
theorem Zo5 {ta:TA}{ds:List D}(h:PVs K ta Δ ds) (z:ds.length<=sizeLine):PV K (tLst ta) Δ (.lst ds):=λP p=>Zb5<|h _ ⟨z,p⟩
theorem Zc9 {r:R2}{ta tb:TE}{d e x:D}(a:PV K ta Δ d) (b:PV K tb Δ e) (h:PR2 K r d e Δ x):PV K (tOp r ta tb) Δ x:=λP p=>Zao<|a _<|b _<|h P p
theorem Zr1 {ds:List D}{i:Int}{d:D}(h:atI ds i=some d):PR2 K (rIxU K) (.tup ds) (.int i) Δ d:=λP p=>Zbb h p
theorem Zrh {ds:List D}{i:Int}{d:D}(h:atI ds i=some d):PR2 K (rIxU K) (.lst ds) (.int i) Δ d:=λP p=>Zbl h p
theorem Zqw {ds es:List D}(hz:ds.length+es.length<=sizeLine):PR2 K (rAddU K) (.lst ds) (.lst es) Δ (.lst<|ds++es):=λP p=>Zdf hz p
theorem Zhr {i j:Int}:PR2 K (rAddU K) (.int i) (.int j) Δ (.int<|i+j):=λP p=>Zdw p
theorem Zto {f:Int->Int->Int}{i j:Int}:PR2 K (rI0 λi j=>.int<|f i j) (.int i) (.int j) Δ (.int<|f i j):=λP p=>Zmy p
theorem pr_I {C:Int->Int->Prop}{f:Int->Int->Int}{i j:Int}(hc:C i j):PR2 K (rI C λi j=>.int<|f i j) (.int i) (.int j) Δ (.int<|f i j):=λP p=>jr_I hc p
theorem Zha {ta tb:TE}{ds:List D}{i:Int}{d:D}(a:PV K ta Δ (.tup ds)) (b:PV K tb Δ (.int i)) (h:atI ds i=some d):PV K (tOp (rIxU K) ta tb) Δ d:=Zc9 a b<|Zr1 h
theorem Zru {ta tb:TE}{ds:List D}{i:Int}{d:D}(a:PV K ta Δ (.lst ds)) (b:PV K tb Δ (.int i)) (h:atI ds i=some d):PV K (tOp (rIxU K) ta tb) Δ d:=Zc9 a b<|Zrh h
theorem Zo7 {n:Nat}{ds:List D}{i:Int}{d:D}(hx:Δ[n]?=some (.val (.tup ds))) (h:atI ds i=some d):PV K (tOp (rIxU K) (tVar n)<|tC (.int i)) Δ d:=Zha (Zbz hx) Zcm h
theorem Zqs {ta:TE}{ds:List D}(a:PV K ta Δ (.tup ds)):PV K (tCB (rLenU K)<|tCons ta tNil) Δ (.int ds.length):=λP p=>Za0<|Zab<|a _<|Zaf<|Zbk (.inr rfl) p
end
open PySem PySem.Spec PyProof.Rows PySem.SeqAt
def Sm:Nat->D->Bool
 |0,d=>flatE d
 |n+1,d=>match d with
  |.lst ds=>ds.all (Sm n)
  |.tup ds=>ds.all (Sm n)
  |d=>flatE d
section
variable {X:Cx}
theorem Zcn:∀(n:Nat) {A:Around}{pins:List (Addr × Obj)}{σ:St}{H G:Hp}{s:Shared}{x y:V}{v u:Value}{d:D},Inv X pins σ H s->Same G H->Rep X.K G x d->Rep X.K G y d->RelV x v->RelV y u->Sm n d=true->A.units+n<cLine->EqAt A s v u true
 |0,A,pins,σ,H,G,s,x,y,v,u,d,I,sg,rx,ry,rv,ru,h,hu=>by
  cases d with
  |non=>cases rx;cases ry;exact Zbt rfl rv ru
  |bl _=>cases rx;cases ry;exact Zbt rfl rv ru
  |int _=>cases rx;cases ry;exact Zbt rfl rv ru
  |str _=>cases rx;cases ry;exact Zbt rfl rv ru
  |_=>exact nomatch h
 |n+1,A,pins,σ,H,G,s,x,y,v,u,d,I,sg,rx,ry,rv,ru,h,hu=>by
  cases d with
  |non=>cases rx;cases ry;exact Zbt rfl rv ru
  |bl _=>cases rx;cases ry;exact Zbt rfl rv ru
  |int _=>cases rx;cases ry;exact Zbt rfl rv ru
  |str _=>cases rx;cases ry;exact Zbt rfl rv ru
  |lst ds=>
   cases rx with
   |@lst a vs _ ha ra=>
    cases ry with
    |@lst b us _ hb rb=>
     cases rv;cases ru;obtain⟨its,w1,pl,_⟩:=I.list<|SqL.of<|sg _ _ ha;obtain⟨its2,w2,pl2,_⟩:=I.list<|SqL.of<|sg _ _ hb;have l1:=w1.length;have l2:=w2.length;have l3:=ra.length;have l4:=rb.length;have h:ds.all (Sm n)=true:=h;by_cases hab:a=b
     ·subst hab;exact EqAt.same _
     ·refine .of_refs hab ?_
      have z:=RcAt.lists (A:=A) (s:=s) (e:=λ_=>true) pl.isList pl2.isList (by rw[Wae,Wae];omega) (by omega) λj h1 h2=>by
       have h1':j<its.length:=by simpa using h1
       have h2':j<its2.length:=by simpa using h2
       have hx:j<ds.length:=by omega
       obtain⟨p,hp1,hp2⟩:=ra.get<|Wab hx;obtain⟨q,hq1,hq2⟩:=rb.get<|Wab hx;obtain⟨va,hv1,hv2⟩:=w1.get hp1;obtain⟨vb,hw1,hw2⟩:=w2.get hq1;rw[Wab h1']at hv1;rw[Wab h2']at hw1;rw[Wa5,Wa5,Wat.inj hv1,Wat.inj hw1];exact Zcn n I sg hp2 hq2 hv2 hw2 (Waw.mp h _<|Wbf hx) (by show A.units+1+n<cLine;omega)
      rw[Waw.mpr (λ_ _=>rfl)]at z;exact z
  |tup ds=>
   cases rx with
   |@tup a vs _ ha ra=>
    cases ry with
    |@tup b us _ hb rb=>
     cases rv;cases ru;obtain⟨its,w1,pl,_⟩:=I.tuple<|SqT.of<|sg _ _ ha;obtain⟨its2,w2,pl2,_⟩:=I.tuple<|SqT.of<|sg _ _ hb;have l1:=w1.length;have l2:=w2.length;have l3:=ra.length;have l4:=rb.length;have h:ds.all (Sm n)=true:=h;by_cases hab:a=b
     ·subst hab;exact EqAt.same _
     ·refine .of_refs hab ?_
      have z:=RcAt.tuples (A:=A) (s:=s) (e:=λ_=>true) pl pl2 (by omega) λj h1 h2=>by
       have h1':j<its.length:=by simpa using h1
       have h2':j<its2.length:=by simpa using h2
       have hx:j<ds.length:=by omega
       obtain⟨p,hp1,hp2⟩:=ra.get<|Wab hx;obtain⟨q,hq1,hq2⟩:=rb.get<|Wab hx;obtain⟨va,hv1,hv2⟩:=w1.get hp1;obtain⟨vb,hw1,hw2⟩:=w2.get hq1;rw[Wab h1']at hv1;rw[Wab h2']at hw1;rw[Wa5,Wa5,Wat.inj hv1,Wat.inj hw1];exact Zcn n I sg hp2 hq2 hv2 hw2 (Waw.mp h _<|Wbf hx) (by show A.units+1+n<cLine;omega)
      rw[Waw.mpr (λ_ _=>rfl),show (its.toArray.size == its2.toArray.size)=true by rw[Wae,Wae];exact beq_iff_eq.mpr (by omega),Wdb]at z;exact z
  |_=>exact nomatch h
def rNeSm (K:W.Frag):R2:=λx y H Q=>Q (.bl false) H/\∃(G:Hp) (n:Nat) (a b:Addr) (xs ys:List V) (ds:List D),Same G H/\Reps K G xs ds/\Reps K G ys ds/\ds.all (Sm n)=true/\n<=5/\x=.ref a/\y=.ref b/\SqL K H a xs/\SqL K H b ys
theorem neSmK (K:W.Frag) (hv:X.A.units+8<cLine) (hK:X.K=K:=by rfl):OpR X (compareOp .NotEq) (rNeSm K):=by
 subst hK;intro pins s σ H x y v u Q I rx ry h;obtain⟨q,G,n,a,b,xs,ys,ds,sg,ra,rb,hd,hn,rfl,rfl,h1,h2⟩:=h;cases rx;cases ry;obtain⟨its,w1,p1,_⟩:=I.list h1;obtain⟨its2,w2,p2,_⟩:=I.list h2;have l1:=w1.length;have l2:=w2.length;have l3:=ra.length;have l4:=rb.length;refine RcNeAt.lists (A:=X.A) (s:=s) (e:=λ_=>true) p1.isList p2.isList (by rw[Wae,Wae];omega) (by omega) (λj h1 h2=>?_) X.prog X.w _ _ ?_
 ·have h1':j<its.length:=by simpa using h1
  have h2':j<its2.length:=by simpa using h2
  have hx:j<ds.length:=by omega
  obtain⟨p,hp1,hp2⟩:=ra.get<|Wab hx;obtain⟨q,hq1,hq2⟩:=rb.get<|Wab hx;obtain⟨va,hv1,hv2⟩:=w1.get hp1;obtain⟨vb,hw1,hw2⟩:=w2.get hq1;rw[Wab h1']at hv1;rw[Wab h2']at hw1;rw[Wa5,Wa5,Wat.inj hv1,Wat.inj hw1];exact Zcn n I sg hp2 hq2 hv2 hw2 (Waw.mp hd _<|Wbf hx) (by show X.A.units+1+n<cLine;omega)
 ·rw[Waw.mpr (λ_ _=>rfl)]
  exact⟨.bl false,H,I,rfl,q⟩
end
open PySem PySem.Spec PyProof.Rows PySem.SeqAt
section
variable {K:W.Frag}{Δ:Evt}
end
section
variable {K:W.Frag}{Δ:Evt}{nx bk ct:Evt->Prop}{rt:D->Evt->Prop}{ro:OD->Evt->Prop}
end
section
variable {K:W.Frag}{Δ:Evt}{P:D->Evt->Prop}
end
end L2
set_option Elab.async false
set_option linter.all false
set_option maxRecDepth 100000
namespace HT
open PySem PyProof.Rows
end HT
namespace L2
open PySem PySem.Spec PyProof.Rows
section
variable {K:W.Frag}{Δ:Evt}{P:D->Evt->Prop}
end
section
variable {prog:Program}{w:World}{A:Around}{R:Result->Shared->Prop}{I:Addr}{fp wr:List Addr}{G:Array GenState->Array GenState->Prop}{n:Nat}{P:Nat->Value->Prop}{St:Nat->Shared->Prop}{K:Type}[DecidableEq K] {knd:KeyKind prog w K}
end
section
variable {X:Cx}
end
end L2
namespace L2
open PySem PySem.Spec PyProof.Rows
section
variable {prog:Program}{w:World}{A:Around}{E:Value->Shared->Prop}{s:Shared}
end
section
variable {K:W.Frag}{Δ:Evt}{P:D->Evt->Prop}
end
end L2
namespace L2
open PySem PySem.Spec PyProof.Rows
open PySem PySem.Spec PyProof.Rows PySem.SeqAt
section
variable {prog:Program}{w:World}{A:Around}{E:Value->Shared->Prop}{s:Shared}
end
section
variable {K:W.Frag}{Δ:Evt}
end
open PySem PySem.Spec PyProof.Rows PySem.SeqAt
section
open PySem.AutoSeq1 (wpAny_loadPart')
open PySem.MeetsSeq PySem.MeetsSeq2 PySem.MeetsSeq3
end
section
variable {prog:Program}{w:World}{A:Around}{R:Result->Shared->Prop}{I:Addr}{fp wr:List Addr}{n:Nat}{P:Nat->Value->Prop}{St:Nat->Heap->Prop}
end
end L2
namespace L2
open PySem PySem.Spec PyProof.Rows PySem.SeqAt
section
variable {K:W.Frag}{Δ:Evt}{P:D->Evt->Prop}
end
open PySem PySem.Spec PyProof.Rows PySem.SeqAt
section
variable {K:W.Frag}{Δ:Evt}{P:D->Evt->Prop}
theorem Zsl (p:P (.bl true) Δ):JR2 K (λx y H Q=>y=.non/\Q (.bl<|decide (x=.non)) H) .non .non Δ P:=λg G H σ Q u v k rx ry c=>by
 cases rx.inv;cases ry.inv;refine⟨rfl,?_⟩;rw[decide_eq_true rfl];exact c _ _ G H Δ k (Same.refl _) (.bl true) p
theorem Zh9 {ds:List D}(p:P (.bl false) Δ):JR2 K (λx y H Q=>y=.non/\Q (.bl<|decide (x=.non)) H) (.tup ds) .non Δ P:=λg G H σ Q u v k rx ry c=>by
 obtain⟨a,vs,rfl,_,_⟩:=rx.inv;cases ry.inv;refine⟨rfl,?_⟩;rw[decide_eq_false (by intro z;cases z)];exact c _ _ G H Δ k (Same.refl _) (.bl _) p
end
open PySem PySem.Spec PyProof.Rows PySem.SeqAt
open PySem in
theorem Zeh {v} {j} {p:Pos}{es:List Expr}{env:Env}:starEach (Expr.Constant v j p::es) env=(false,eval (Expr.Constant v j p) env)::starEach es env:=rfl
section
variable {X:Cx}
theorem Zec:fillsNumberSlot (.type "tuple") "mul" = pure false:=
 PySem.fillsNumberSlot_seq (id:="tuple.__mul__") (r:=some (.builtin "tuple.__rmul__")) F.slot_tuple_mul.lookup (by decide +kernel) F.slot_tuple_rmul.lookup (by decide +kernel)
theorem Zg6:seqRepeat? (.type "tuple")=pure (some (.builtin "tuple.__mul__")):=by
 unfold seqRepeat?;rw[PySem.seqSlot_of (T:="tuple") (name:="__mul__") (id:="tuple.__mul__") F.slot_tuple_mul.lookup (by decide +kernel),PySem.seqSlot_of (T:="tuple") (name:="__rmul__") (id:="tuple.__rmul__") F.slot_tuple_rmul.lookup (by decide +kernel)];rfl
theorem Zdv (a:Int) (t:Tok) (l:Addr) (items:Array Value) (n:Nat) (d:Option Addr) (sl:Array (Option Value)) :
  Meets (Builtin.«int.__rmul__» ⟨[.int a t,.ref l],[]⟩) (λ_ R s=>s.heap.get? l=some { cls:=.type "tuple",dict:=d,data:=.seq items n,slots:=sl } /\ R (.ok (.ret Value.notImplemented)) s):=
 .of_wp λprog w A R s h=>by obtain⟨hp,g,d,tk,os⟩:=s;obtain⟨hl,h⟩:=h;wp_walk;exact⟨_,rfl,h⟩
end
open PySem PySem.Spec PyProof.Rows PySem.SeqAt
open PySem PySem.Spec PyProof.Rows PySem.SeqAt
section
variable {X:Cx}
end
section
variable {prog:Program}{w:World}{A:Around}{E:Value->Shared->Prop}{s:Shared}
end
section
variable {X:Cx}
theorem Zix {u:V}{v:Value}(r:RelV u v):∀n,Vals (Wad n u) (Wad n v)
 |0=>.nil
 |n+1=>.cons r (Zix r n)
end
section
variable {K:W.Frag}{Δ:Evt}{P:D->Evt->Prop}
theorem Zir {G:Hp}{v:V}{d:D}(r:Rep K G v d):∀n,Reps K G (Wad n v) (Wad n d)
 |0=>.nil
 |n+1=>.cons r (Zir r n)
end
open PySem PySem.Spec PyProof.Rows PySem.SeqAt
section
variable {prog:Program}{w:World}{A:Around}{E:Value->Shared->Prop}{s:Shared}
end
section
variable {K:W.Frag}{Δ:Evt}
end
section
variable {K:W.Frag}{Δ:Evt}{P:D->Evt->Prop}
end
section
variable {X:Cx}
def CDivC (i j:Int):Prop:=0<j/\j<2 ^ 500
theorem Znq {i j:Int}(h1:0<j) (h2:j<2 ^ 500):Builtin.divisionGoesByPylong i j=false:=by
 refine PyProof.noPylong_of_log2 ?_;have h4:j.natAbs<2 ^ 500:=by omega
 exact Wc4 ((Nat.log2_lt<|by omega).2 h4) (by decide)
theorem Zgh:OpR X (binaryOp .FloorDiv) (rI CDivC λi j=>.int<|i / j):=opI λi j _ _ _ _ _ hc q=>by
 have h1:(0:Int)<j:=hc.1;exact floordiv_int (by omega) (by rw[Int.fdiv_eq_ediv_of_nonneg i (by omega)];exact q) (.inl<|Znq h1 hc.2)
end
def SmP (k:Int × Int):Prop:=0<=k.1/\k.1<64/\0<=k.2/\k.2<2
section
variable {prog:Program}{w:World}{A:Around}{E:Value->Shared->Prop}{s:Shared}
variable {hf:Int × Int->Int}(hfi:∀{a b:Int × Int},SmP a->SmP b->hf a=hf b->a=b)
include hfi
end
section
variable {X:Cx}
variable {o e:Expr}{es:List Expr}{to:TE}{t:TA}{name:Str}{apos cpos:Pos}{id:String}{r:V->List V->Hp->VK->Prop}
end
end L2
namespace L2
open PySem PySem.Spec PyProof.Rows
end L2
namespace L2
open PySem PySem.Spec PyProof.Rows
open PySem PySem.Spec PyProof.Rows PySem.SeqAt
section
variable {X:Cx}
end
section
variable {K:W.Frag}{Δ:Evt}
theorem Ze1 {x y:Str}{P:D->Evt->Prop}(p:P (.bl<|decide (x=y)) Δ):JR2 K rEq (.str x) (.str y) Δ P:=λg G H σ Q v u k rx ry c=>by
 cases rx.inv;cases ry.inv;refine⟨rfl,?_⟩;rw[show decide (V.str x=V.str y)=decide (x=y) from decide_eq_decide.mpr ⟨λe=>V.str.inj e,λe=>by rw[e]⟩];exact c _ _ G H Δ k (Same.refl _) (.bl _) p
theorem Zps {x y:Str}{P:D->Evt->Prop}(p:P (.bl (!decide (x=y))) Δ):JR2 K rNe (.str x) (.str y) Δ P:=λg G H σ Q v u k rx ry c=>by
 cases rx.inv;cases ry.inv;refine⟨rfl,?_⟩;rw[show decide (V.str x=V.str y)=decide (x=y) from decide_eq_decide.mpr ⟨λe=>V.str.inj e,λe=>by rw[e]⟩];exact c _ _ G H Δ k (Same.refl _) (.bl _) p
end
open PySem PySem.Spec PyProof.Rows PySem.SeqAt
section
variable {X:Cx}
def rSmT (K:W.Frag) (r:Bool):R2:=λx y H Q=>Q (.bl r) H/\∃(G:Hp) (n:Nat) (a b:Addr) (xs ys:List V) (ds:List D),Same G H/\Reps K G xs ds/\Reps K G ys ds/\ds.all (Sm n)=true/\n<=5/\x=.ref a/\y=.ref b/\SqT K H a xs/\SqT K H b ys
theorem eqSmTK (K:W.Frag) (hv:X.A.units+8<cLine) (hK:X.K=K:=by rfl):OpR X (compareOp .Eq) (rSmT K true):=by
 subst hK;intro pins s σ H x y v u Q I rx ry h;obtain⟨q,G,n,a,b,xs,ys,ds,sg,ra,rb,hd,hn,rfl,rfl,h1,h2⟩:=h;cases rx;cases ry;obtain⟨its,w1,p1,_⟩:=I.tuple h1;obtain⟨its2,w2,p2,_⟩:=I.tuple h2;have l1:=w1.length;have l2:=w2.length;have l3:=ra.length;have l4:=rb.length;have z:=RcAt.tuples (A:=X.A) (s:=s) (e:=λ_=>true) p1 p2 (by omega) λj h1 h2=>by
  have h1':j<its.length:=by simpa using h1
  have h2':j<its2.length:=by simpa using h2
  have hx:j<ds.length:=by omega
  obtain⟨p,hp1,hp2⟩:=ra.get<|Wab hx;obtain⟨q,hq1,hq2⟩:=rb.get<|Wab hx;obtain⟨va,hv1,hv2⟩:=w1.get hp1;obtain⟨vb,hw1,hw2⟩:=w2.get hq1;rw[Wab h1']at hv1;rw[Wab h2']at hw1;rw[Wa5,Wa5,Wat.inj hv1,Wat.inj hw1];exact Zcn n I sg hp2 hq2 hv2 hw2 (Waw.mp hd _<|Wbf hx) (by show X.A.units+1+n<cLine;omega)
 rw[Waw.mpr (λ_ _=>rfl),show (its.toArray.size == its2.toArray.size)=true by rw[Wae,Wae];exact beq_iff_eq.mpr (by omega),Wdb]at z;exact z X.prog X.w _ _ ⟨.bl _,H,I,rfl,q⟩
theorem neSmTK (K:W.Frag) (hv:X.A.units+8<cLine) (hK:X.K=K:=by rfl):OpR X (compareOp .NotEq) (rSmT K false):=by
 subst hK;intro pins s σ H x y v u Q I rx ry h;obtain⟨q,G,n,a,b,xs,ys,ds,sg,ra,rb,hd,hn,rfl,rfl,h1,h2⟩:=h;cases rx;cases ry;obtain⟨its,w1,p1,_⟩:=I.tuple h1;obtain⟨its2,w2,p2,_⟩:=I.tuple h2;have l1:=w1.length;have l2:=w2.length;have l3:=ra.length;have l4:=rb.length;have z:=RcNeAt.tuples (A:=X.A) (s:=s) (e:=λ_=>true) p1 p2 (by omega) λj h1 h2=>by
  have h1':j<its.length:=by simpa using h1
  have h2':j<its2.length:=by simpa using h2
  have hx:j<ds.length:=by omega
  obtain⟨p,hp1,hp2⟩:=ra.get<|Wab hx;obtain⟨q,hq1,hq2⟩:=rb.get<|Wab hx;obtain⟨va,hv1,hv2⟩:=w1.get hp1;obtain⟨vb,hw1,hw2⟩:=w2.get hq1;rw[Wab h1']at hv1;rw[Wab h2']at hw1;rw[Wa5,Wa5,Wat.inj hv1,Wat.inj hw1];exact Zcn n I sg hp2 hq2 hv2 hw2 (Waw.mp hd _<|Wbf hx) (by show X.A.units+1+n<cLine;omega)
 rw[Waw.mpr (λ_ _=>rfl),show (its.toArray.size == its2.toArray.size)=true by rw[Wae,Wae];exact beq_iff_eq.mpr (by omega),Wdb]at z;exact z X.prog X.w _ _ ⟨.bl _,H,I,rfl,q⟩
end
open PySem PySem.Spec PyProof.Rows PySem.SeqAt
section
variable {K:W.Frag}{Δ:Evt}{P:D->Evt->Prop}
end
open PySem PySem.Spec PyProof.Rows PySem.Builtin PySem.Builtin.Str
section
variable {X:Cx}
theorem Zgn:∀l:List (PySem.Str × Tok),Vals ((l.map (·.1)).map V.str) (strValues l)
 |[]=>.nil
 |p::r=>.cons ⟨p.2,rfl⟩ (Zgn r)
theorem Zjh {x y:PySem.Str}(h:(y.length == 0)=false):(Txt.split x y).length<=x.length+2:=by
 unfold Txt.split;split
 ·show 1<=_;omega
 ·split
  ·show 1<=_;omega
  ·rw[length_partsBetween]
   have e1:=StrLaws.occ_length_le x y 0 x.length<|x.length+1;omega
def rSplit (K:W.Frag):V->List V->Hp->VK->Prop:=λx vs H Q=>∃z y,x=.str z/\vs=[.str y]/\(y.length == 0)=false/\z.length+2<=sizeLine/\∀l,H l=none->Q (.ref l) (upd H l (.lst ((Txt.split z y).map V.str)))
theorem splitK (K:W.Frag) (hK:X.K=K:=by rfl):MtM X "str.split" (rSplit K):=by
 subst hK;intro pins s σ H v vs w us Q I rx rv h;obtain⟨x,y,rfl,rfl,hy,hsz,q⟩:=h;obtain⟨t,rfl⟩:=rx;obtain⟨u0,rfl,u,rfl⟩:=rv.one;have hm:=Zjh (x:=x) hy;have fin:∀(l:List (PySem.Str × Tok)) (k:Nat),l.map (·.1)=Txt.split x y->EP X pins σ Q (.ref s.heap.objs.size) { s with heap:=s.heap.push { cls:=.type "list",data:=.seq (strValues l).toArray },toks:=k }:=λl k e=>by
  have hv:=Zgn l;rw[e]at hv;exact⟨.ref s.heap.objs.size,_,I.lnew hv (by rw[Wac];omega),rfl,q _ I.fresh⟩
 have hn:(partsBetween x (occurrences x y 0 x.length<|x.length+1) y.length).length<=sizeLine:=by
  have e1:=StrLaws.occ_length_le x y 0 x.length<|x.length+1;rw[length_partsBetween];omega
 cases h1:(decide (x.length<y.length) || decide (strKind x<strKind y))
 ·cases hf:(occurrences x y 0 x.length<|x.length+1).isEmpty
  ·refine call_meets F.slot_str_split (typeIs_str _ _ _) F.entry_str_split (F.args_str_split_2 _ _) (meets_str_split_sep x y t u h1 hy hf (by omega) hn) ?_
   show wants _ _ _ { s with toks:=_,heap:=s.heap.push { cls:=.type "list",data:=.seq (strsFrom s.toks<|partsBetween x (occurrences x y 0 x.length<|x.length+1) y.length).toArray } };rw[strsFrom_eq];exact fin (numbered s.toks _) _ ((numbered_texts _ _).trans ((if_neg<|ne_true_of_eq_false h1).trans (if_neg<|ne_true_of_eq_false hf)).symm)
  ·exact call_meets F.slot_str_split (typeIs_str _ _ _) F.entry_str_split (F.args_str_split_2 _ _) (meets_str_split_not_found x y t u h1 hy hf)<|fin [(x,t)] s.toks ((if_neg<|ne_true_of_eq_false h1).trans (if_pos hf)).symm
 ·exact call_meets F.slot_str_split (typeIs_str _ _ _) F.entry_str_split (F.args_str_split_2 _ _) (meets_str_split_cannot_occur x y t u h1)<|fin [(x,t)] s.toks (if_pos h1).symm
end
section
variable {K:W.Frag}{Δ:Evt}
theorem Reps.ofStrs {G:Hp}:∀zs:List PySem.Str,Reps K G (zs.map V.str) (zs.map D.str)
 |[]=>.nil
 |z::zs=>.cons (.str z) (Reps.ofStrs zs)
theorem Zgi {to te:TE}{Po:OD->Evt->Prop}(h:JE K to Δ λd Δ1=>∃z,d=.str z/\JE K te Δ1 λe Δ2=>∃y,e=.str y/\(y.length == 0)=false/\z.length+2<=sizeLine/\Po (.lst ((Txt.split z y).map D.str)) Δ2) :
  JO K (tBM K "str" (rSplit K) to<|tCons te tNil) Δ Po:=λg G H σ Q k c=>
 h g G H σ _ k λv d G1 H1 Δ1 k1 s1 r1 hq_=>by
  obtain⟨z,e,p1⟩:=hq_;subst e;cases r1.inv;refine⟨rfl,p1 g G1 H1 σ _ k1 λu e G2 H2 Δ2 k2 s2 r2 ⟨y,e2,hy,hz,p⟩=>?_⟩;subst e2;cases r2.inv;refine⟨z,y,rfl,rfl,hy,hz,λl hl=>?_⟩;obtain⟨k3,pd⟩:=k2.fresh (od:=.lst ((Txt.split z y).map D.str)) hl (show OwnRep K G2 (.lst ((Txt.split z y).map V.str)) (.lst ((Txt.split z y).map D.str)) from Reps.ofStrs _);exact c l _ G2 _ Δ2 k3 (s1.trans s2) pd p
end
section
variable {X:Cx}
def rIntN:List V->Hp->VK->Prop:=λxs H Q=>∃n:Int,xs=[.str (PySem.Str.ofString<|toString n)]/\0<=n/\n<10 ^ 10/\Q (.int n) H
theorem Zml:CallR X (.type "int") rIntN:=by
 intro pins s σ H xs us Q I r h;obtain⟨n,rfl,h0,h1,q⟩:=h;obtain⟨u,rfl,t,rfl⟩:=vals1 r;exact PySem.W.KIN.call_num h0 h1 ⟨.int n,H,I.tok _,⟨_,rfl⟩,q⟩
end
section
variable {K:W.Frag}{Δ:Evt}{P:D->Evt->Prop}
theorem Zpg {n:Int}(h0:0<=n) (h1:n<10 ^ 10) (p:P (.int n) Δ):JC K rIntN [.str (PySem.Str.ofString<|toString n)] Δ P:=λg G H σ Q vs k rs c=>by
 obtain⟨_,_,rfl,r,t⟩:=rs.inv;cases t.inv;cases r.inv;exact⟨n,rfl,h0,h1,c _ _ G H Δ k (Same.refl _) (.int _) p⟩
theorem Ztg {i j:PySem.Str}(p:P (.bl (!(Builtin.Str.occurrences j i 0 j.length 1).isEmpty)) Δ):JR2 K (λx y H Q=>∃i j,x=.str i/\y=.str j/\Q (.bl (!(Builtin.Str.occurrences j i 0 j.length 1).isEmpty)) H) (.str i) (.str j) Δ P:=λg G H σ Q v u k rx ry c=>by
 cases rx.inv;cases ry.inv;exact⟨i,j,rfl,rfl,c _ _ G H Δ k (Same.refl _) (.bl _) p⟩
end
section
variable {X:Cx}{tg:Expr}
def sgn (c:Nat):PySem.Str:=⟨#[c]⟩
def Its (x:PySem.Str):It:=⟨λi _=>i<x.cps.size,λi H v H'=>H'=H/\∃c,x.cps[i]?=some c/\v=.str (sgn c),λi _=>x.cps.size<=i⟩
theorem Zne {P:Program}{w:World}{K:W.Frag}{tg:Expr}(it:Addr) (x:PySem.Str) (t:Tok):Turn P w K tg (Its x) [it] it (λi h=>h.IsStrIter it "str_ascii_iterator" x t i) where
 mem:=by simp
 obj:=λi h st b hb=>by
  have e:b=it:=by simpa using hb
  subst e;obtain⟨o,e,c,d⟩:=st;exact⟨o,e,λv z=>by rw[d]at z;cases z⟩
 keep:=λi h h' st k=>by
  obtain⟨o,e,r⟩:=st;exact⟨o,k it (by simp) o e,r⟩
 item:=by
  intro X hP hw hK hc i pins s σ H E I hf st hg;subst hP hw hK;obtain⟨f0,f1,f2,f3,f4,f5⟩:=hf it (by simp);have W:=Walks.strAscii (prog:=X.prog) (w:=X.w) (I.ok.hd hc) it x t;refine W.item i s _ _ hg st λv h' tk hv st' kk=>?_;obtain⟨c,u,hx,rfl⟩:=hv;have I1:Inv X pins σ H { s with heap:=h',toks:=tk }:=I.turned (λb o hb e=>kk b o (by simpa using hb) e) f0 f1 f3 f4 f5;obtain⟨o,e1,e2,e3⟩:=id st';exact⟨_,rfl,Zkd (s:={ s with heap:=h',toks:=tk }) e1 e2 e3 (by decide) ⟨.str<|sgn c,H,I1,⟨u,rfl⟩,⟨rfl,c,hx,rfl⟩,st',λb hb=>(hf b hb).1⟩⟩
 done:=by
  intro X hP hw hK hc i pins s σ H E I hf st hg;subst hP hw hK;obtain⟨f0,f1,f2,f3,f4,f5⟩:=hf it (by simp);exact wpAny_pyNext_ascii_end (I.ok.hd hc) st (by have:x.cps.size<=i:=hg;simpa using this) λh' eb=>⟨rfl,I.turned (t':=s.toks) (λb o hb e=>eb b o hb e) f0 f1 f3 f4 f5⟩
 self:=λ_ _ _ _ _ st h=>wpAny_pyIter_striter_ascii st h
def iStr (tl:TE):TI:=λσ H R=>tl σ H λv H1=>∃x:PySem.Str,v=.str x/\x.cps.all (· < 128)=true/\R (Its x) H1
theorem Zsx {l:Expr}{tl:TE}(hl:PE X l tl):PI X tg l (iStr tl):=by
 intro pins s σ H R I h;refine thn (hl pins s σ H _ I h) λv s1 ⟨y,H1,I1,r1,q1⟩=>?_;obtain⟨x,rfl,ha,q⟩:=q1;obtain⟨t,rfl⟩:=r1;refine wpAny_pyIter_ascii ha ?_;refine⟨s1.heap.objs.size,[s1.heap.objs.size],_,_,H1,rfl,I1.kept (t':=s1.toks) λb o e=>Waa _ e,Zne _ x t,⟨_,Wag _ rfl,rfl,rfl⟩,λb hb=>?_,q⟩;have e:b=s1.heap.objs.size:=by simpa using hb
 subst e;exact I1.fpOk (Waf _)<|I1.hok.fresh<|Waf _
end
section
variable {K:W.Frag}{Δ:Evt}
theorem Zsv {tl:TE}{P:List D->Evt->Prop}(h:JE K tl Δ λd Δ1=>∃x:PySem.Str,d=.str x/\x.cps.all (· < 128)=true/\P (x.cps.toList.map λc=>D.str<|sgn c) Δ1):JI K (iStr tl) Δ P:=λg G H σ R k c=>
 h g G H σ _ k λv d G1 H1 Δ1 k1 s1 r1 hq_=>by
  obtain⟨x,e,ha,p1⟩:=hq_;subst e;cases r1.inv;refine⟨x,rfl,ha,c _ _ G1 H1 Δ1 k1 s1 (λG2 H2 sg sh=>⟨by show x.cps.size<=_;rw[Wac,Array.length_toList];exact Waf _,λi d e=>?_⟩) p1⟩;rw[Waj]at e;cases z:x.cps.toList[i]? with
  |none=>rw[z]at e;cases e
  |some cc=>
   rw[z]at e;have e:D.str (sgn cc)=d:=by simpa using e
   subst e;have hz:x.cps[i]?=some cc:=by rw[<- Array.getElem?_toList];exact z
   have hi:i<x.cps.size:=(Array.getElem?_eq_some_iff.mp hz).1;refine⟨hi,λy H3 ⟨e3,c3,h3,e4⟩=>⟨G2,Same.refl _,by rw[e3];exact Same.refl _,λb o q=>⟨by rw[e3];exact sh b o q,.inl q⟩,?_⟩⟩;rw[hz]at h3;cases h3;rw[e4];exact .str _
end
section
variable {K:W.Frag}{Δ:Evt}{P:D->Evt->Prop}
theorem Zp7 {z:PySem.Str}(hz:z.length<=sizeLine) (p:P (.int z.length) Δ):JC K (λxs H Q=>∃z,xs=[.str z]/\z.length<=sizeLine/\Q (.int z.length) H) [.str z] Δ P:=λg G H σ Q vs k rs c=>by
 obtain⟨_,_,rfl,r,t⟩:=rs.inv;cases t.inv;cases r.inv;exact⟨z,rfl,hz,c _ _ G H Δ k (Same.refl _) (.int _) p⟩
theorem Zqe {z:PySem.Str}{i:Int}{c:Nat}(hz:z.length<=sizeLine) (h:atI z.cps.toList i=some c) (p:P (.str<|sgn c) Δ):JR2 K (rIxU K) (.str z) (.int i) Δ P:=λg G H σ Q x y k rx ry cc=>by
 cases rx.inv;cases ry.inv;exact .inl (.inr (.inr ⟨z,i,c,rfl,rfl,hz,h,cc _ _ G H Δ k (Same.refl _) (.str _) p⟩))
theorem Zk6:∀ns:List Int,inV .non (ns.map V.int)=false
 |[]=>rfl
 |n::ns=>by
  have:=Zk6 ns;unfold inV at this ⊢;rw[Wav,Wcl,this,Bool.or_false];rfl
theorem Zfm:∀ns:List Int,(ns.map V.int).all flatV=true
 |[]=>rfl
 |n::ns=>by rw[Wav,Wcv,Zfm ns];rfl
theorem Ztk {ns:List Int}(p:P (.bl false) Δ):JR2 K (rInU K false) .non (.lst<|ns.map .int) Δ P:=λg G H σ Q x y k rx ry c=>by
 cases rx.inv;obtain⟨a,vs,rfl,ha,rs⟩:=ry.inv;have ev:=rs.ints;subst ev;refine .inl ⟨a,_,rfl,.inl<|SqL.of<|k.live _ _ ha,rfl,Zfm ns,?_⟩;rw[Zk6];exact c _ _ G H Δ k (Same.refl _) (.bl false) p
end
theorem Zjc {α:Type}(v:α):∀(m:Nat) (acc:Array α),(Wad m #[v]).foldl (· ++ ·) acc=acc++(Wad m v).toArray
 |0,acc=>by simp
 |m+1,acc=>by
  rw[Wbl,List.foldl_cons,Zjc v m,Wbl];apply Array.toList_inj.mp;simp
theorem Zgk (l:Addr) (v:Value) (k:Nat) (d:Option Addr) (sl:Array (Option Value)) (x:Int) (u:Tok) (h0:2<=x) (h1:x<=1000) :
  Meets (Builtin.«tuple.__mul__» ⟨[.ref l,.int x u],[]⟩) (λ_ R s=>s.heap.get? l=some { cls:=.type "tuple",dict:=d,data:=.seq #[v] k,slots:=sl } /\ R (.ok (.ret<|Value.ref s.heap.objs.size)) { s with heap:=s.heap.push { cls:=Value.type "tuple",data:=Data.seq (Wad x.toNat v).toArray } }):=
 .of_wp λprog w A R s h=>by
  obtain⟨hp,g,d,tk,os⟩:=s;obtain⟨hl,h⟩:=h;have e1:(decide (x < -(2 ^ 63:Int)) || decide (x ≥ 2 ^ 63))=false:=by rw[Bool.or_eq_false_iff];exact⟨decide_eq_false (by omega),decide_eq_false<|by omega⟩
  have e2:(x == 1)=false:=beq_eq_false_iff_ne.mpr (by omega);have e3:(decide (x<=0))=false:=decide_eq_false (by omega);have e4:((#[v]:Array Value).isEmpty || x == 1)=false:=by rw[e2];rfl
  have e5:(decide (x<=0) || (#[v]:Array Value).isEmpty)=false:=by rw[e3];rfl
  have e6:¬ ((#[v]:Array Value).size:Int)*x > (2 ^ 63-1) / 8:=by
   show ¬ ((1:Nat):Int)*x > (2 ^ 63-1) / 8;omega
  have e7:Builtin.Tuple.tupleTooMany (((#[v]:Array Value).size:Int)*x)=false:=by
   unfold Builtin.Tuple.tupleTooMany;show decide _=false;exact decide_eq_false (by show ¬ ((1:Nat):Int)*x > _;have:=sizeLine_eq;omega)
  wp_walk
  simp only[e1,Bool.false_eq_true,if_false]
  wp_walk
  rw[if_neg e6,e7,if_neg Wai,Zjc,Array.empty_append];have e8:¬ (Wad x.toNat v).toArray.size > sizeLine:=by
   rw[Wae,Wa2];have:=sizeLine_eq;omega
  wp_walk
  rw[if_neg e8]
  wp_walk
  exact⟨_,rfl,h⟩
theorem Zed (l:Addr) (v:Value) (n:Nat) (d:Option Addr) (sl:Array (Option Value)) (u:Tok) :
  Meets (Builtin.«tuple.__mul__» ⟨[.ref l,.int 1 u],[]⟩) (λ_ R s=>s.heap.get? l=some { cls:=.type "tuple",dict:=d,data:=.seq #[v] n,slots:=sl } /\ R (.ok (.ret<|Value.ref l)) s):=
 .of_wp λprog w A R s h=>by
  obtain⟨hp,g,d,tk,os⟩:=s;obtain⟨hl,h⟩:=h
  wp_walk
  exact⟨_,rfl,h⟩
theorem Zee (l:Addr) (v:Value) (n:Nat) (d:Option Addr) (sl:Array (Option Value)) (u:Tok) :
  Meets (Builtin.«tuple.__mul__» ⟨[.ref l,.int 0 u],[]⟩) (λ_ R s=>s.heap.get? l=some { cls:=.type "tuple",dict:=d,data:=.seq #[v] n,slots:=sl } /\ R (.ok (.ret<|Value.ref s.heap.objs.size)) { s with heap:=s.heap.push { cls:=Value.type "tuple",data:=Data.seq #[] } }):=
 .of_wp λprog w A R s h=>by
  obtain⟨hp,g,d,tk,os⟩:=s;obtain⟨hl,h⟩:=h
  wp_walk
  exact⟨_,rfl,h⟩
section
variable {X:Cx}
def rMulT (K:W.Frag):R2:=λx y H Q=>∃(a:Addr) (u:V) (n:Int),x=.ref a/\y=.int n/\0<=n/\n<=1000/\SqT K H a [u]/\(n=1->Q (.ref a) H)/\(n≠1->∀l,H l=none->Q (.ref l) (upd H l (.tup<|Wad n.toNat u)))
theorem Zhu (K:W.Frag) (hK:X.K=K:=by rfl):OpR X (binaryOp .Mult) (rMulT K):=by
 subst hK;intro pins s σ H x y v u Q I rx ry h;obtain⟨a,z,m,rfl,rfl,h2,h3,ha,q1,q⟩:=h;cases rx;obtain⟨t,rfl⟩:=ry;obtain⟨its,r1,p1,_⟩:=I.tuple ha;obtain⟨⟨cls,dd,data,sl⟩,ho,hc,n,hd⟩:=id p1;simp only at hc hd;subst hc hd;obtain⟨v,rfl,rv⟩:=r1.one;refine wpAny_binaryOp_repeat_ref (T:="tuple") (U:="int") (by decide) ⟨_,ho,rfl⟩ (λs'=>typeIs_int s' m t) Zec F.fills_int_mul F.slot_int_rmul Zg6 F.slot_int_index.lookup
  (call_meets F.slot_int_rmul (typeIs_int s m t) F.entry_int_rmul (F.args_int_rmul_2 _ _) (Zdv m t a [v].toArray n dd sl)
   ⟨ho,rfl,⟨_,ho,rfl⟩,?_⟩)
 by_cases e1:m=1
 ·subst e1
  exact call_meets F.slot_tuple_mul ⟨_,ho,rfl⟩ F.entry_tuple_mul (F.args_tuple_mul_2 _ _) (Zed a v n dd sl t) ⟨ho,⟨.ref a,H,I,rfl,q1 rfl⟩⟩
 have q:=q e1;have fin:EP X pins σ Q (.ref s.heap.objs.size) { s with heap:=s.heap.push { cls:=Value.type "tuple",data:=Data.seq (Wad m.toNat v).toArray } }:=by
  refine⟨.ref s.heap.objs.size,_,I.laid (t':=s.toks) (o:=.tup<|Wad m.toNat z) (λb ob q=>Waa _ q) (Waf _) ?_,rfl,q _<|I.hok.fresh<|Waf _⟩;exact⟨by rw[Wa2];have:=sizeLine_eq;omega,Wad m.toNat v,Zix rv _,IsTupN.new _ _⟩
 by_cases e0:m=0
 ·subst e0
  exact call_meets F.slot_tuple_mul ⟨_,ho,rfl⟩ F.entry_tuple_mul (F.args_tuple_mul_2 _ _) (Zee a v n dd sl t) ⟨ho,fin⟩
 ·exact call_meets F.slot_tuple_mul ⟨_,ho,rfl⟩ F.entry_tuple_mul (F.args_tuple_mul_2 _ _) (Zgk a v n dd sl m t (by omega) h3) ⟨ho,fin⟩
end
section
variable {K:W.Frag}{Δ:Evt}{P:D->Evt->Prop}
theorem Zmm {d:D}{n:Int}(h2:0<=n) (h3:n<=1000) (p:P (.tup<|Wad n.toNat d) Δ):JR2 K (rMulT K) (.tup [d]) (.int n) Δ P:=λg G H σ Q x y k rx ry c=>by
 cases ry.inv;obtain⟨a,us,rfl,ha,rs⟩:=rx.inv;obtain⟨u,t,rfl,r,tt⟩:=rs.inv;cases tt.inv;refine⟨a,u,n,rfl,rfl,h2,h3,SqT.of<|k.live _ _ ha,λe=>?_,λe l hl=>?_⟩
 ·subst e;exact c _ _ G H Δ k (Same.refl _) (.tup ha (.cons r .nil)) p
 obtain⟨k2,sg⟩:=k.laid hl (.tup<|Wad n.toNat u);exact c _ _ _ _ Δ k2 sg (.tup Zal<|Zir (r.mono sg) _) p
end
section
variable {X:Cx}{pos:Pos}{body:List Stmt}{hd0:ExceptHandler}{hds:List ExceptHandler}{tb:TS}
theorem Zql (hbd:∀(pn:List (Addr × Obj)),PSs (XT X pn λ_ _=>False) body tb):PS X (.Try body (hd0::hds) [] [] pos) tb:=by
 intro pins s σ H D I h;refine wpAny_Try_except ?_;refine wpAny_mono (hbd (X.pn++pins) [] s σ H D I.into h) (λf s1 hq=>?_) λ_ _ z=>z.elim;cases f with
 |next=>
  obtain⟨σ',H',J,q⟩:=hq;exact wpAny_execs_nil ⟨σ',H',Inv.outof I.ok J,q⟩
 |brk=>
  obtain⟨σ',H',J,q⟩:=hq;exact⟨σ',H',Inv.outof I.ok J,q⟩
 |cont=>
  obtain⟨σ',H',J,q⟩:=hq;exact⟨σ',H',Inv.outof I.ok J,q⟩
 |ret u=>
  obtain⟨v,σ',H',J,r,q⟩:=hq;exact⟨v,σ',H',Inv.outof I.ok J,r,q⟩
end
section
variable {prog:Program}{w:World}{A:Around}{E:Value->Shared->Prop}{s:Shared}
theorem Zoc {b:Bool}{e j a:Addr}{i:Nat}{m:Int}{ws:Array Value}{x old:Value}{Q:Option Value->Shared->Prop}(ge:IsEnum s.heap e j m old) (g:ItB b s.heap j a i) (l:HsB b s.heap a ws) (ex:ws[i]?=some x) (ne:e≠j)
  (q:∀h',IsEnumOut h' e j (m+1) x s.heap.objs.size->ItB b h' j a (i+1)->h'.get? s.heap.objs.size=some { cls:=.type "tuple",data:=.seq #[.int m s.toks,x] } →
   (∀c o,c≠e->c≠j->s.heap.get? c=some o->h'.get? c=some o)->Q (some (.ref s.heap.objs.size)) { s with heap:=h',toks:=s.toks+1 }):wpAny (model prog w) A (pyNext (.ref e)) Q E s:=by
 obtain⟨hp,g0,d,tk,os⟩:=s;have ty:Shared.TypeIs ⟨hp,g0,d,tk,os⟩ (.ref e) "enumerate":=⟨_,ge,rfl⟩;unfold pyNext;refine wpAny_bind<|wpAny_attempt<|wpAny_callSpecial?_slot (name:=Str.ofString "__next__") ty F.slot_enumerate_next<|wpAny_call_entry F.slot_enumerate_next ty F.entry_enumerate_next ?_<|F.args_enumerate_next_1 _;refine(show wpAny _ _ (field (.ref e) 2 >>= _) _ _ _ from wpAny_bind (wpAny_field ge rfl (x:=.ref j) rfl<|wpAny_bind (Zet (b:=b) g l ex λh₁ g₁ s₁=>?_)))
 replace s₁:Heap.SameBut j hp h₁:=s₁
 have e₁:IsEnum h₁ e j m old:=(s₁.2 e ne).trans ge;refine(show wpAny _ _ (field (.ref e) 3 >>= _) _ _ ⟨h₁,g0,d,tk,os⟩ from wpAny_bind (wpAny_field e₁ rfl (x:=rawInt m) rfl ?_));refine(show wpAny _ _ (field (.ref e) 4 >>= _) _ _ ⟨h₁,g0,d,tk,os⟩ from wpAny_bind (wpAny_field e₁ rfl (x:=.none) rfl ?_));refine(show wpAny _ _ (mkInt m >>= _) _ _ ⟨h₁,g0,d,tk,os⟩ from wpAny_bind (wpAny_mkInt ?_));refine(show wpAny _ _ (setField (.ref e) 3 (rawInt<|m+1) >>= _) _ _ ⟨h₁,g0,d,tk+1,os⟩ from wpAny_bind (wpAny_setField_rec e₁ (by simp) λh₂ e₂ s₂=>?_))
 replace s₂:Heap.SameBut e h₁ h₂:=s₂
 replace e₂:IsEnum h₂ e j (m+1) old:=e₂
 refine(show wpAny _ _ (setField (.ref e) 4 .none >>= _) _ _ ⟨h₂,g0,d,tk+1,os⟩ from wpAny_bind (wpAny_setField_rec e₂ (by simp) λh₃ e₃ s₃=>?_))
 replace s₃:Heap.SameBut e h₂ h₃:=s₃
 replace e₃:IsEnum h₃ e j (m+1) old:=e₃
 refine(show wpAny _ _ (newTuple [.int m tk,x] >>= _) _ _ ⟨h₃,g0,d,tk+1,os⟩ from wpAny_bind (wpAny_newTuple ?_));have e₄:IsEnum (h₃.push { cls:=.type "tuple",data:=.seq #[.int m tk,x] }) e j (m+1) old:=Waa _ e₃;generalize eh₄:h₃.push { cls:=.type "tuple",data:=.seq #[.int m tk,x] } = h₄ at e₄;have n3:h₃.objs.size=hp.objs.size:=by rw[s₃.1,s₂.1,s₁.1]
 have el:e<hp.objs.size:=Wan ge;have t₄:h₄.get? hp.objs.size=some { cls:=.type "tuple",data:=.seq #[.int m tk,x] }:=by rw[<- eh₄,<- n3];exact Wag _ rfl
 have k₄:∀c o,c≠e->c≠j->hp.get? c=some o->h₄.get? c=some o:=λc o c1 c2 z=>by rw[<- eh₄];exact Waa _<|s₃.extBut c o c1<|s₂.extBut c o c1<|s₁.extBut c o c2 z
 have g₄:ItB b h₄ j a (i+1):=by rw[<- eh₄];exact((g₁.off s₂.extBut<|Ne.symm ne).off s₃.extBut (Ne.symm ne)).at λo z=>Waa _ z
 refine(show wpAny _ _ (Builtin.SmallTypes.ownedTupleIsFree (.ref e) >>= _) _ _ ⟨h₄,g0,d,tk+1,os⟩ from ?_);rw[n3];clear eh₄ e₃ s₃ e₂ s₂ e₁ s₁ g₁ n3 h₃ h₂ h₁;refine wpAny_bind ?_;unfold Builtin.SmallTypes.ownedTupleIsFree;refine wpAny_bind<|wpAny_field e₄ rfl (x:=.none) rfl<|wpAny_pure ?_;simp only[if_true];refine wpAny_bind<|wpAny_rule<|wpAny_bind<|wpAny_field e₄ rfl (x:=old) rfl<|wpAny_bind (wpAny_setField_rec e₄ (by simp) λh₅ e₅ s₅=>?_)
 replace s₅:Heap.SameBut e h₄ h₅:=s₅
 replace e₅:IsEnum h₅ e j (m+1) x:=e₅
 refine(show wpAny _ _ (Builtin.SmallTypes.ownedTupleHandOut (.ref e) (.ref hp.objs.size) >>= _) _ _ ⟨h₅,g0,d,tk+1,os⟩ from wpAny_bind ?_);unfold Builtin.SmallTypes.ownedTupleHandOut;refine wpAny_bind (wpAny_setField_rec e₅ (by simp) λh₆ e₆ s₆=>?_)
 replace s₆:Heap.SameBut e h₅ h₆:=s₆
 replace e₆:IsEnumOut h₆ e j (m+1) x hp.objs.size:=e₆
 refine wpAny_setField_rec e₆ (by simp) λh₇ e₇ s₇=>?_
 replace s₇:Heap.SameBut e h₆ h₇:=s₇
 replace e₇:IsEnumOut h₇ e j (m+1) x hp.objs.size:=e₇
 have up:∀c o,c≠e->h₄.get? c=some o->h₇.get? c=some o:=λc o c1 z=>s₇.extBut c o c1<|s₆.extBut c o c1<|s₅.extBut c o c1 z;exact wpAny_bind<|wpAny_letGo<|wpAny_pure ⟨_,rfl,wpAny_pure (q h₇ e₇ (g₄.at λo z=>up j o (Ne.symm ne) z) (up _ _ (Wb6 el) t₄) λc o c1 c2 z=>up c o c1<|k₄ c o c1 c2 z)⟩
theorem Zqb {b:Bool}{e j a:Addr}{i:Nat}{m:Int}{ws:Array Value}{old:Value}{Q:Option Value->Shared->Prop}(hh:A.handled=none) (ge:IsEnum s.heap e j m old) (g:ItB b s.heap j a i) (l:HsB b s.heap a ws) (ex:ws[i]?=none)
  (q:∀h',Heap.ExtBut j s.heap h' -> Q none { s with heap:=h' }):wpAny (model prog w) A (pyNext (.ref e)) Q E s:=by
 have ty:s.TypeIs (.ref e) "enumerate":=⟨_,ge,rfl⟩;unfold pyNext;refine wpAny_bind<|wpAny_attempt<|wpAny_callSpecial?_slot (name:=Str.ofString "__next__") ty F.slot_enumerate_next<|wpAny_call_entry F.slot_enumerate_next ty F.entry_enumerate_next ?_<|F.args_enumerate_next_1 _;refine(show wpAny _ _ (field (.ref e) 2 >>= _) _ _ _ from wpAny_bind (wpAny_field ge rfl (x:=.ref j) rfl<|wpAny_bind (Zi3 hh g l ex λh' x e' ⟨o,ho,hc⟩=>?_)));exact wpAny_bind<|wpAny_isInstance (T:="StopIteration") (b:=true) ⟨o,ho,hc⟩ isSubtype_stop<|wpAny_pure<|q _ e'
end
def IebS (m:Int) (b:Bool) (K:W.Frag) (l:Addr):It:=
 ⟨λi H=>∃xs x,SqB b K H l xs/\xs[i]?=some x,
  λi H v H'=>∃p x,H p=none/\v=.ref p/\H'=upd H p (.tup [.int (m+(i:Int)),x])/\∀xs,SqB b K H l xs->xs[i]?=some x,
  λi H=>∃xs,SqB b K H l xs/\xs.length<=i⟩
theorem Zm8 {m:Int}{b:Bool}{P:Program}{w:World}{K:W.Frag}{es:List Expr}{kk:Nat}{tp:Pos}(l z j:Addr) (D:z≠j):Turn P w K (.Tuple es kk tp) (IebS m b K l) [z,j] z
  (λi h=>(∃old,IsEnum h z j (m+(i:Int)) old)/\ItB b h j l i) where
 mem:=by simp
 obj:=λi h st b2 hb=>by
  obtain⟨⟨old,hz⟩,h1⟩:=st;obtain⟨o1,e1,d1⟩:=h1.obj;simp only[Wah,Way,or_false]at hb;rcases hb with rfl|rfl
  ·exact⟨_,hz,λv q=>by cases q⟩
  ·exact⟨o1,e1,λv q=>by rw[d1]at q;cases q⟩
 keep:=λi h h' st k=>by
  obtain⟨⟨old,hz⟩,h1⟩:=st;exact⟨⟨old,k z (by simp) _ hz⟩,h1.at λo e=>k j (by simp) o e⟩
 item:=by
  intro X hP hw hK hc i pins s σ H E I hf st hg;subst hP hw hK;obtain⟨⟨old,hz⟩,h1⟩:=st;obtain⟨xs,x,hq1,hx⟩:=hg;obtain⟨its1,r1,p1⟩:=I.seqB hq1;obtain⟨u1,hu1,ru1⟩:=r1.get hx;refine Zoc hz h1 p1 (x:=u1) (by simpa using hu1) D λh' b1 b2 b3 hk=>?_;refine⟨_,rfl,wpAny_letOwnedTupleGo_enum (s:={ s with heap:=h',toks:=s.toks+1 }) b1 λh'' hz'' hs''=>?_⟩;have lt:∀{c o},s.heap.get? c=some o->c≠s.heap.objs.size:=λe=>Wa4<|Wan e;have hTz:s.heap.objs.size≠z:=Ne.symm<|lt hz;have hTfree:H s.heap.objs.size=none:=I.hok.fresh<|Waf _;have kept:∀c o,c ∉ [z,j]->s.heap.get? c=some o->h''.get? c=some o:=λc o hc e=>by
   simp only[Wah,Way,or_false,not_or]at hc;exact hs''.extBut _ _ hc.1<|hk c o hc.1 hc.2 e
  have hT:h''.get? s.heap.objs.size=some { cls:=.type "tuple",data:=.seq #[.int (m+(i:Int)) s.toks,u1] }:=hs''.extBut _ _ hTz b3;have ntr:∀c o,H c=some o->c ∉ [z,j]:=λc o e hc=>by rw[(hf c hc).1]at e;cases e
  have hok:HOk X.prog X.w (upd H s.heap.objs.size (.tup [.int (m+(i:Int)),x])) h'':=λc o e=>by
   by_cases hcT:c=s.heap.objs.size
   ·subst hcT
    rw[Zal]at e;cases e;exact⟨by show 2<=sizeLine;decide,[.int (m+(i:Int)) s.toks,u1],.cons ⟨_,rfl⟩ (.cons ru1 .nil),_,hT,⟨rfl,_,rfl⟩,rfl⟩
   ·rw[Zaj hcT]at e
    refine(I.hok c o e).stay (λd v hd q=>kept d v ?_ q) (λd q=>by rw[Zaj (Zak q hTfree)];exact q) λd zs q=>by rw[Zaj (Zak q hTfree)];exact q
    rcases hd with hd|hd
    ·rw[hd];exact ntr c o e
    ·exact ntr d _ hd
  have I2:Inv X pins σ (upd H s.heap.objs.size (.tup [.int (m+(i:Int)),x])) { s with heap:=h'',toks:=s.toks+1 }:=by
   refine I.call (g':=s.gens) (t':=s.toks+1) (d':=s.drawn) (ch:=[z,j]) ⟨λc o e n hc hx=>kept c o hx e,λc o e n hc hx=>⟨o.slots,kept c o hx e⟩,λc o e n hx=>by rw[Zaj (lt e)];exact n,λc o e hx=>⟨o,kept c o hx e⟩,
    λc zs q=>by rw[Zaj (Zak q hTfree)];exact q,λc o zs q=>by rw[Zaj (Zak q hTfree)];exact q,λc zs q=>⟨#[],by rw[Zaj (Zak q hTfree),q];simp⟩⟩ hok I.bare λc hcc=>?_
   obtain⟨f0,f1,f2,f3,f4,f5⟩:=hf c hcc;exact⟨f3,f1,f4,f5⟩
  refine⟨.ref s.heap.objs.size,_,I2,rfl,⟨s.heap.objs.size,x,hTfree,rfl,rfl,λxs' q1=>?_⟩,⟨⟨_,by have:=hz'';push_cast at this ⊢;rw[<- Int.add_assoc];exact this⟩,b2.off hs''.extBut<|Ne.symm D⟩,λc hcc=>?_⟩
  ·rw[I.seqB_inj q1 hq1];exact hx
  ·have hcl:c≠s.heap.objs.size:=by
    simp only[Wah,Way,or_false]at hcc;obtain⟨_,e1,_⟩:=h1.obj;rcases hcc with rfl|rfl
    ·exact lt hz
    ·exact lt e1
   rw[Zaj hcl];exact(hf c hcc).1
 done:=by
  intro X hP hw hK hc i pins s σ H E I hf st hg;subst hP hw hK;obtain⟨⟨old,hz⟩,h1⟩:=st;obtain⟨xs,hq1,hend⟩:=hg;obtain⟨its1,r1,p1⟩:=I.seqB hq1;have l1':=r1.length;refine Zqb (I.ok.hd hc) hz h1 p1 (by simp;omega) λh' hk=>⟨rfl,?_⟩;have kept:∀c o,c ∉ [z,j]->s.heap.get? c=some o->h'.get? c=some o:=λc o hc e=>by
   simp only[Wah,Way,or_false,not_or]at hc;exact hk c o hc.2 e
  have ntr:∀c o,H c=some o->c ∉ [z,j]:=λc o e hc=>by rw[(hf c hc).1]at e;cases e
  refine I.call (g':=s.gens) (t':=s.toks) (d':=s.drawn) (ch:=[z,j]) ⟨λc o e n hc hx=>kept c o hx e,λc o e n hc hx=>⟨o.slots,kept c o hx e⟩,λc o e n hx=>n,λc o e hx=>⟨o,kept c o hx e⟩,
   λc zs q=>q,λc o zs q=>q,λc zs q=>⟨#[],by rw[q];simp⟩⟩ (λc o e=>?_) I.bare λc hcc=>?_
  ·refine(I.hok c o e).stay (λd v hd q=>kept d v ?_ q) (λd q=>q) λd zs q=>q
   rcases hd with hd|hd
   ·rw[hd];exact ntr c o e
   ·exact ntr d _ hd
  ·obtain⟨f0,f1,f2,f3,f4,f5⟩:=hf c hcc
   exact⟨f3,f1,f4,f5⟩
 self:=λ_ _ _ _ _ st h=>by
  obtain⟨⟨old,hz⟩,_⟩:=st;exact wpAny_pyIter_enum hz h
section
variable {K:W.Frag}{Δ:Evt}
def enS (m:Int) (ds:List D):List D:=ds.zipIdx.map λp=>D.tup [.int (m+(p.2:Int)),p.1]
theorem Zlk (m:Int) (ds:List D):(enS m ds).length=ds.length:=by unfold enS;rw[Wac,List.length_zipIdx]
theorem Zl1 {m:Int}{ds:List D}{i:Nat}{e:D}(h:(enS m ds)[i]?=some e):∃d,ds[i]?=some d/\e=.tup [.int (m+(i:Int)),d]:=by
 unfold enS at h;rw[Waj,List.getElem?_zipIdx]at h;cases q:ds[i]? with
 |none=>rw[q]at h;cases h
 |some d=>rw[q]at h;refine⟨d,rfl,?_⟩;simpa using h.symm
theorem Zjs {m:Int}{b:Bool}{G:Hp}{l1:Addr}{xs:List V}{ds:List D}(h1:∀G1 H1,Same G G1->Same G1 H1->SqB b K H1 l1 xs) (r1:Reps K G xs ds):ItOk K G (IebS m b K l1) (enS m ds):=λG1 H1 sg sh=>by
 have hl1:=r1.length;have e1:=h1 G1 H1 sg sh;refine⟨⟨xs,e1,by rw[Zlk];omega⟩,λi d hd=>?_⟩;obtain⟨d0,q,rfl⟩:=Zl1 hd;obtain⟨u,hu,ru⟩:=r1.get q;refine⟨⟨xs,u,e1,hu⟩,λx H2 ⟨p,a,hp,ex,eH,hab⟩=>?_⟩;have ha:=hab xs e1;rw[hu]at ha;cases ha;subst ex;subst eH;have hG:G1 p=none:=by
  cases z:G1 p with
  |none=>rfl
  |some o=>rw[sh _ _ z]at hp;cases hp
 refine⟨upd G1 p (.tup [.int (m+(i:Int)),u]),λc o e=>by rw[Zaj (Zak e hG)];exact e,λc o e=>by rw[Zaj (Zak e hp)];exact e,λc o e=>?_,?_⟩
 ·by_cases hc:c=p
  ·subst hc;rw[Zal]at e ⊢;exact⟨e,.inr hp⟩
  ·rw[Zaj hc]at e ⊢;exact⟨sh c o e,.inl e⟩
 ·have sg2:Same G1 (upd G1 p (.tup [.int (m+(i:Int)),u])):=λc o e=>by rw[Zaj (Zak e hG)];exact e
  exact .tup Zal (.cons (.int _) (.cons ((ru.mono sg).mono sg2) .nil))
end
section
variable {prog:Program}{w:World}{A:Around}{E:Value->Shared->Prop}{s:Shared}
set_option maxHeartbeats 2000000 in
theorem Zn0 (a:Addr) (ws:Array Value) (n:Nat) (dct:Option Addr) (sl:Array (Option Value)) (t:Tok) :
  Meets (Builtin.«enumerate.__new__» ⟨[.type "enumerate",.ref a],[("start",.int 1 t)]⟩) (λ_ R s=>s.heap.get? a=some ⟨.type "list",dct,.seq ws n,sl⟩ ∧
   R (.ok (.ret (.ref (s.heap.push { cls:=.type "list_iterator",data:=.fields #[.ref a,.int 0 0] }).objs.size))) { s with heap:=(s.heap.push { cls:=.type "list_iterator",data:=.fields #[.ref a,.int 0 0] }).push ⟨.type "enumerate",none,.fields #[.none,.bool false,.ref s.heap.objs.size,rawInt 1,.none,.none],#[]⟩ }):=.of_wp λprog w A R s h=>by
 obtain⟨hp,g,d,tk,os⟩:=s;obtain⟨l,h⟩:=h;have sub0:=sub_enumerate;have t0:Heap.IsList (Shared.heap ⟨hp,g,d,tk,os⟩) a ws:=⟨_,l,rfl,n,rfl⟩
 wp_walk using AutoSeq1.wpAny_loadPart' l
 refine wpAny_stack_any λst=>wpAny_pure ?_;split
 ·rename_i c _ _ _ _ _
  cases (c == Value.type "enumerate") <;> (wp_walk using AutoSeq1.wpAny_loadPart' l,wpAny_pyIter_list t0;exact⟨_,rfl,h⟩)
 ·wp_walk using AutoSeq1.wpAny_loadPart' l,wpAny_pyIter_list t0
  exact⟨_,rfl,h⟩
theorem Ztm (a:Value) (t:Tok):checkTypeCall "enumerate" ⟨[a],[("start",.int 1 t)]⟩=pure ():=by kernel_rfl
theorem Ztx (a:Value) (t:Tok):checkBuiltinCall "enumerate.__new__" ⟨[.type "enumerate",a],[("start",.int 1 t)]⟩=pure ():=by kernel_rfl
theorem Zts (a b:Value) (t:Tok):argsOk "object.__init__" ⟨[a,b],[("start",.int 1 t)]⟩:=by
 unfold argsOk;rw[signature?_of (id:="object.__init__") (n:=['_','_','t','i','n','i','_','_']) (o:=['t','c','e','j','b','o']) (by kernel_rfl) F.owner_object];kernel_rfl
theorem Ztt (self b:Value) (t:Tok):Meets (Builtin.«object.__init__» ⟨[self,b],[("start",.int 1 t)]⟩) (λ_ R s=>s.TypeIs self "enumerate" /\ R (.ok (.ret .none)) s):=by
 have hl:=F.called_enumerate.init.lookup;have hm:=F.called_enumerate.made;refine Meets.of_wp λprog w A R s hs=>?_;obtain⟨hT,hq⟩:=hs
 repeat (any_goals (first|assumption|wp_step))
 exact⟨_,rfl,hq⟩
theorem Zrc {a:Addr}{ws:Array Value}{t:Tok}{Q:Value->Shared->Prop}(l:s.heap.IsList a ws)
  (q:∀h',IsEnum h' (s.heap.objs.size+1) s.heap.objs.size 1 .none->ItB false h' s.heap.objs.size a 0->(∀c o,s.heap.get? c=some o->h'.get? c=some o)->Q (.ref<|s.heap.objs.size+1) { s with heap:=h' }):wpAny (model prog w) A (call (.type "enumerate") [.ref a] [("start",.int 1 t)]) Q E s:=by
 obtain⟨⟨oc,od,oda,os⟩,l1,hc,n,hd⟩:=l;dsimp only at hc hd;subst hc hd;have ft:=F.called_enumerate;obtain⟨c,tl,hmro⟩:=ft.mro;have hmade:=ft.made;have hsub:=ft.sub;have z1:(s.heap.push { cls:=.type "list_iterator",data:=.fields #[.ref a,.int 0 0] }).objs.size=s.heap.objs.size+1:=Wbj ..;have he:IsEnum ((s.heap.push { cls:=.type "list_iterator",data:=.fields #[.ref a,.int 0 0] }).push ⟨.type "enumerate",none,.fields #[.none,.bool false,.ref s.heap.objs.size,rawInt 1,.none,.none],#[]⟩) (s.heap.objs.size+1) s.heap.objs.size 1 .none:=by
  rw[<- z1];exact Wag _ rfl
 have fin:=q _ he ⟨_,Waa _<|Wag _ rfl,rfl,rfl⟩ λc o z=>Waa _<|Waa _ z;refine wpAny_call<|codeAny_of_tree ?_;show wpAny _ _ (callAny (.type "enumerate") _) _ _ _;refine wpAny_pure ⟨Code.quiet_builtin _ (by decide +kernel),codeAny_builtin F.entry_type_call ?_⟩;rw[Around.under_plain (weight_type_call_type "enumerate" [.ref a] [("start",.int 1 t)]) (units_type_call_type "enumerate" [.ref a] [("start",.int 1 t)])];have h1:=ft.notType;have h2:=ft.canCreate;have hct:=Ztm (.ref a) t
 repeat (any_goals (first|assumption|wp_step))
 refine codeAny_mono (codeAny_call_builtin ft.plain F.entry_enumerate_new<|wpAny_of_eq (Ztx (.ref a) t)<|Zn0 a ws n od os t prog w A.in1 (wants (λobj s₁=>s₁.TypeIs obj "enumerate" /\ Q obj s₁) E) s ⟨l1,?_⟩) λr s₁ hr=>?_
 ·show _/\_
  rw[z1];exact⟨⟨_,he,rfl⟩,fin⟩
 cases r with
 |error e=>exact hr
 |ok fl=>
  cases fl with
  |ret obj=>
   obtain⟨hT,hq⟩:=hr;have hli:=ft.init.lookup;have hbi:=ft.init.bind obj
   repeat (any_goals (first|assumption|wp_step))
   refine codeAny_mono (codeAny_call_builtin ft.init.plain F.entry_object_init<|ft.init.check _ _ _ _ _ _ _ _ hT (Zts obj (.ref a) t)<|Ztt obj (.ref a) t prog w A.in1 (wants (λr s₂=>r=.none/\Q obj s₂) E) s₁ ⟨hT,rfl,hq⟩) λr₂ s₂ hr₂=>?_;cases r₂ with
   |error e=>exact hr₂
   |ok fl₂=>
    cases fl₂ with
    |ret r=>
     obtain⟨rfl,hq⟩:=hr₂
     repeat (any_goals (first|assumption|wp_step))
    |_=>exact hr₂.elim
  |_=>exact hr.elim
end
def iEnumS (K:W.Frag) (ta:TA):TI:=λσ H R=>ta σ H λvs H1=>∃l,vs=[.ref l]/\(∃xs,SqB false K H1 l xs)/\R (IebS 1 false K l) H1
section
variable {X:Cx}
theorem Zhi {M:Model}{A:Around}{E:Value->Shared->Prop}{s:Shared}{env:Env}{pos:Pos}{T:String}{e:Expr}{rest:List Expr}{kws:List Keyword}{Q:Value->Shared->Prop}
  (h:wpAny M A (spliced (backTo pos (starEach (e::rest) env))) (λvs s₁=>wpAny M A (evalAll ((backToKw pos (keywordEach kws env)).map (·.2)))
   (λkvs s₂=>wpAny M A (call (.type T) vs (((backToKw pos (keywordEach kws env)).filterMap (·.1)).zip kvs)) Q E s₂) E s₁) E s)
  (he:backTo pos (starEach (e::rest) env)=(false,eval e env)::backTo pos (starEach rest env))
  (hplain:(backTo pos<|starEach (e::rest) env).any (·.1)=false)
  (hall:(backToKw pos<|keywordEach kws env).all (·.1.isSome)=true)
  (hkw:(backToKw pos<|keywordEach kws env).any (·.1.isNone)=false) :
  wpAny M A (callWith pos (.type T) [] (backTo pos<|starEach (e::rest) env)<|backToKw pos<|keywordEach kws env) Q E s:=by
 have h2:wpAny M A (evalArgs (.type T) true (backTo pos<|starEach (e::rest) env)<|backToKw pos<|keywordEach kws env) (λa s₁=>wpAny M A (call (.type T) ([]++a.pos) a.kw) Q E s₁) E s:=by
  rw[he]at h ⊢;exact evalArgs_kwB hall h
 unfold callWith;refine wpAny_bind<|wpAny_holding (thn h2 λa s₁ h₁=>wpAny_bind<|wpAny_standAt ?_);simp only[hplain,hkw,Bool.or_false];refine wpAny_bind<|wpAny_pure ?_;exact wpAny_bind (thn h₁ λr s₂ hr=>wpAny_bind<|wpAny_holding<|wpAny_point<|wpAny_pure hr)
theorem Ziy (K:W.Frag) {es:List Expr}{kk k2:Nat}{tp:Pos}{a:Expr}{ta:TA}{p pos kp cp:Pos}(hg:Gl X "enumerate") (hm:X.mg "enumerate" = none) (ha:PA X [a] ta) (hs:starEach [a] X.env=[(false,eval a X.env)]:=by rfl) (hK:X.K=K:=by rfl) :
  PI X (.Tuple es kk tp) (.Call (.Name "enumerate" p) [a] [⟨some "start",.Constant (.int 1) k2 cp,kp⟩] pos) (iEnumS K ta):=by
 subst hK;intro pins s σ H R I h;refine wpAny_Call_Name_kw<|Zd2 I hg hm (Zd8)<|Zhi (thn (ha pos pins s σ H _ I h) λus s1 ⟨vs,H1,I1,r1,q1⟩=>?_) (by rw[hs];rfl) (by rw[hs];rfl) rfl rfl;refine thn ((Zpl (Zai (i:=1)) Zr2) pos pins s1 σ H1 (λzs H2=>zs=[.int 1]/\H2=H1) I1 ⟨rfl,rfl⟩) λws s2 ⟨zs,H2,I2,rz,q2⟩=>?_;obtain⟨rfl,rfl⟩:=q2;obtain⟨l1,e,⟨xs,hx⟩,q⟩:=q1;subst e;obtain⟨u1,rfl,q1⟩:=vals1 r1;cases (show u1=Value.ref l1 from q1);obtain⟨u2,rfl,t,e2⟩:=vals1 rz;cases e2;obtain⟨its1,w1,p1⟩:=I2.seqB hx;refine Zrc p1 λh' b1 b2 hk=>?_;refine wpAny_pyIter_enum b1 ?_;have I3:Inv X pins σ H2 { s2 with heap:=h' }:=I2.kept (t':=s2.toks) hk;refine⟨s2.heap.objs.size+1,[s2.heap.objs.size+1,s2.heap.objs.size],_,_,H2,rfl,I3,Zm8 l1 _ _<|Nat.succ_ne_self _,⟨⟨_,b1⟩,b2⟩,λb hb=>?_,q⟩;have hge:s2.heap.objs.size<=b:=by
  simp only[Wah,Way,or_false]at hb;rcases hb with rfl|rfl <;> omega
 exact I2.fpOk hge<|I2.hok.fresh hge
end
section
variable {K:W.Frag}{Δ:Evt}
theorem Znj {ta:TA}{P:List D->Evt->Prop}(h:JA K ta Δ λds Δ1=>∃as,ds=[.lst as]/\P (enS 1 as) Δ1):JI K (iEnumS K ta) Δ P:=λg G H σ R k c=>
 h g G H σ _ k λvs ds G1 H1 Δ1 k1 s1 r1 hq_=>by
  obtain⟨as,e,p1⟩:=hq_;subst e;obtain⟨_,_,rfl,ra,rr⟩:=r1.inv
  next=>
   cases rr.inv;obtain⟨_,_,rfl,ha,rsa⟩:=ra.inv
   next=>exact⟨_,rfl,⟨_,SqL.of<|k1.live _ _ ha⟩,c _ _ G1 H1 Δ1 k1 s1 (Zjs (λ_ _ sg sh=>SqL.of<|sh _ _<|sg _ _ ha) rsa) p1⟩
end
section
variable {K:W.Frag}{Δ:Evt}{P:D->Evt->Prop}
end
section
variable {X:Cx}
end
section
variable {K:W.Frag}{Δ:Evt}{P:D->Evt->Prop}
end
open PySem PySem.Spec PyProof.Rows PySem.SeqAt
section
variable {X:Cx}
end
open PySem PySem.Spec PyProof.Rows PySem.SeqAt
section
variable {K:W.Frag}{Δ:Evt}
end
def shD:Nat->D->Prop
 |0,d=>d.shU
 |n+1,d=>d.shU\/∃ds,(d=.tup ds\/d=.lst ds)/\∀x∈ds,shD n x
section
variable {P:Program}{w:World}{K:W.Frag}{G H:Hp}{h:Heap}
theorem Zeo {n:Nat}(it:∀{v:V}{d:D}{u:Value},Rep K G v d->shD n d->RelV v u->d.pd.shown.length<=sizeLine->(∃as,Reads h u d.pd as)/\∃bs,ReadAtMost h d.pd.depth bs/\ReprK P w bs h d.pd.depth u d.pd.shown):∀{vs:List V}{ds:List D}{us:List Value},Reps K G vs ds->(∀x∈ds,shD n x)->Vals vs us->(∀t∈PyData.shownAll (D.pds ds),t.length<=sizeLine) →
  (∃as,ReadsAll h us (D.pds ds) as)/\∃bs,ReadAtMost h (PyData.depthAll<|D.pds ds) bs/\ReprAllK P w bs h (PyData.depthAll<|D.pds ds) us (PyData.shownAll<|D.pds ds)
 |_,_,_,.nil,_,r,_=>by cases r;exact⟨⟨_,.nil⟩,[],(λ_ h=>nomatch h),.nil⟩
 |_,_,_,.cons (d:=d) (ds:=ds) a b,z,r,hz=>by
  cases r with
  |cons ra rb=>
   obtain⟨⟨as,h1⟩,b1,hb1,k1⟩:=it a (z _<|Waq ..) ra<|hz _<|Waq ..;obtain⟨⟨as2,h4⟩,b2,hb2,k2⟩:=Zeo it b (λx hx=>z x<|Wal _ hx) rb λt ht=>hz t<|Wal _ ht;refine⟨⟨_,.cons h1 h4⟩,b1++b2,λb hm=>?_,.cons ((k1.more λb hb=>Wbv _ hb).level_le (Wc5 _ _))<|k2.more_le (λb hb=>Wa3 _ hb)<|Wcy _ _⟩;rcases Wa7.mp hm with hm|hm
   ·obtain⟨d',as',r',hd'⟩:=hb1 b hm
    exact⟨d',as',r',Was hd'<|Wc5 _ _⟩
   ·obtain⟨d',as',r',hd'⟩:=hb2 b hm
    exact⟨d',as',r',Was hd'<|Wcy _ _⟩
theorem Zie (ok:HOk P w H h) (sg:Same G H) {v:V}{d:D}{u:Value}(rep:Rep K G v d) (sh:d.shU) (ru:RelV v u) (sz:d.pd.shown.length<=sizeLine):(∃as,Reads h u d.pd as)/\∃bs,ReadAtMost h d.pd.depth bs/\ReprK P w bs h d.pd.depth u d.pd.shown:=by
 obtain⟨as,h1,h2,h3⟩:=Zr5 ok sg rep sh ru;exact⟨⟨as,h1⟩,ReprK.of_reads (prog:=P) (w:=w) h1 h2 h3 sz⟩
theorem Zi7 (ok:HOk P w H h) (sg:Same G H):∀{n:Nat}{v:V}{d:D}{u:Value},Rep K G v d->shD n d->RelV v u->d.pd.shown.length<=sizeLine->(∃as,Reads h u d.pd as)/\∃bs,ReadAtMost h d.pd.depth bs/\ReprK P w bs h d.pd.depth u d.pd.shown
 |0,_,_,_,rep,sh,ru,sz=>Zie ok sg rep sh ru sz
 |n+1,v,d,u,rep,sh,ru,sz=>by
  rcases sh with z|⟨ds,rfl|rfl,z⟩
  ·exact Zie ok sg rep z ru sz
  ·cases rep with
   |tup e rs=>
    rename_i a vs
    cases (show u=Value.ref a from ru);obtain⟨_,its,rv,o,ho,⟨hc,k,hd⟩,hdd⟩:=ok _ _<|sg _ _ e;have sz':(tupleText<|PyData.shownAll<|D.pds ds).length<=sizeLine:=sz;obtain⟨⟨as,ra⟩,bs,hb,hk⟩:=Zeo (n:=n) (λr s q z=>Zi7 ok sg r s q z) rs z rv λt ht=>Was (tupleText_mem_le ht) sz';have r:Reads h (.ref a) (.tuple<|D.pds ds) _:=.tuple ho hc hd ra;have hna:a ∉ bs:=not_mem_of_deeper r (by show _<PyData.depthAll (D.pds ds)+1;omega) hb;refine⟨⟨_,r⟩,a::bs,λb hm=>?_,ReprK.tuple ho hc hd hna hk⟩;rcases Wah.mp hm with rfl|hm
    ·exact⟨_,_,r,Waf _⟩
    ·obtain⟨d',as',r',hd'⟩:=hb b hm
     exact⟨d',as',r',Nat.le_succ_of_le hd'⟩
  ·cases rep with
   |lst e rs=>
    rename_i a vs
    cases (show u=Value.ref a from ru);obtain⟨_,its,k,rv,ho⟩:=ok _ _<|sg _ _ e;have sz':(listText<|PyData.shownAll<|D.pds ds).length<=sizeLine:=sz;obtain⟨⟨as,ra⟩,bs,hb,hk⟩:=Zeo (n:=n) (λr s q z=>Zi7 ok sg r s q z) rs z rv λt ht=>Was (listText_mem_le ht) sz';have r:Reads h (.ref a) (.list<|D.pds ds) _:=.list ho rfl rfl ra;have hna:a ∉ bs:=not_mem_of_deeper r (by show _<PyData.depthAll (D.pds ds)+1;omega) hb;have mm:ReadAtMost h (PyData.depthAll (D.pds ds)+1) (a::bs):=λb hm=>by
     rcases Wah.mp hm with rfl|hm
     ·exact⟨_,_,r,Waf _⟩
     ·obtain⟨d',as',r',hd'⟩:=hb b hm
      exact⟨d',as',r',Nat.le_succ_of_le hd'⟩
    cases its with
    |nil=>cases rv;cases rs;exact⟨⟨_,r⟩,a::bs,mm,ReprK.listEmpty ho rfl rfl⟩
    |cons x l=>exact⟨⟨_,r⟩,a::bs,mm,ReprK.list ho rfl rfl hna (by simpa using hk.length_eq) (λi y e=>hk.item i y (by simpa using e))⟩
end
def rReprLV (K:W.Frag):List V->Hp->VK->Prop:=λxs H Q=>∃(G:Hp) (a:Addr) (d:D) (ds:List D) (n:Nat),xs=[.ref a]/\Same G H/\Rep K G (.ref a) (.lst (d::ds))/\(∀x∈d::ds,shD n x)/\(D.pd (.lst (d::ds))).depth<=20/\(D.pd (.lst (d::ds))).shown.length<=sizeLine/\Q (.str (D.pd (.lst (d::ds))).shown) H
def rReprTV (K:W.Frag):List V->Hp->VK->Prop:=λxs H Q=>∃(G:Hp) (a:Addr) (ds:List D) (n:Nat),xs=[.ref a]/\Same G H/\Rep K G (.ref a) (.tup ds)/\(∀x∈ds,shD n x)/\(D.pd (.tup ds)).depth<=20/\(D.pd (.tup ds)).shown.length<=sizeLine/\Q (.str (D.pd (.tup ds)).shown) H
section
variable {X:Cx}
theorem reprLVK (K:W.Frag) (hg:X.A.guards=some []) (hu:X.A.units+30<cLine) (hK:X.K=K:=by rfl):CallR X (.builtin "repr") (rReprLV K):=by
 subst hK;intro pins s σ H xs us Q I r h;obtain⟨G,a,d,ds,n,rfl,sg,rep,sh,dp,sz,q⟩:=h;obtain⟨u,rfl,ru⟩:=vals1 r;cases (show u=Value.ref a from ru);cases rep with
 |lst e rs=>
  obtain⟨_,its,k,rv,ho⟩:=I.hok _ _<|sg _ _ e;have sz':(listText<|PyData.shownAll<|D.pds (d::ds)).length<=sizeLine:=sz;obtain⟨⟨as,ra⟩,bs,hb,hk⟩:=Zeo (n:=n) (λr s q z=>Zi7 I.hok sg r s q z) rs sh rv λt ht=>Was (listText_mem_le ht) sz';have dp':PyData.depthAll (D.pds (d::ds))+1<=20:=dp;cases its with
  |nil=>cases rv;cases rs
  |cons x l=>
   have r:Reads s.heap (.ref a) (.list<|D.pds (d::ds)) _:=.list ho rfl rfl ra;have hna:a ∉ bs:=not_mem_of_deeper r (by show _<PyData.depthAll (D.pds (d::ds))+1;omega) hb;refine call_repr_slot (by omega) ⟨_,ho,rfl⟩ F.slot_list_repr.toG ?_;refine call_list_reprK ho rfl rfl hna (by simpa using hk.length_eq) (λi y e=>hk.item i y (by simpa using e)) (g:=[]) hg (λb _=>Clear.nil b) (by show X.A.units+1+_<cLine;omega) (λ_ _ e=>e) (λh' t tk hk2=>⟨_,_,rfl,.str _,H,I.kept hk2,⟨_,rfl⟩,q⟩) sz'
theorem reprTVK (K:W.Frag) (hg:X.A.guards=some []) (hu:X.A.units+30<cLine) (hK:X.K=K:=by rfl):CallR X (.builtin "repr") (rReprTV K):=by
 subst hK;intro pins s σ H xs us Q I r h;obtain⟨G,a,ds,n,rfl,sg,rep,sh,dp,sz,q⟩:=h;obtain⟨u,rfl,ru⟩:=vals1 r;cases (show u=Value.ref a from ru);cases rep with
 |tup e rs=>
  obtain⟨_,its,rv,o,ho,⟨hc,k,hd⟩,hdd⟩:=I.hok _ _<|sg _ _ e;have sz':(tupleText<|PyData.shownAll<|D.pds ds).length<=sizeLine:=sz;obtain⟨⟨as,ra⟩,bs,hb,hk⟩:=Zeo (n:=n) (λr s q z=>Zi7 I.hok sg r s q z) rs sh rv λt ht=>Was (tupleText_mem_le ht) sz';have dp':PyData.depthAll (D.pds ds)+1<=20:=dp;have r:Reads s.heap (.ref a) (.tuple<|D.pds ds) _:=.tuple ho hc hd ra;have hna:a ∉ bs:=not_mem_of_deeper r (by show _<PyData.depthAll (D.pds ds)+1;omega) hb;refine call_repr_slot (by omega) ⟨o,ho,hc⟩ F.slot_tuple_repr ?_;exact call_tuple_reprK ho hc hd hna hk (g:=[]) hg (λb _=>Clear.nil b) (by show X.A.units+1+_<cLine;omega) (λ_ _ e=>e) (λh' t tk hk2=>⟨_,_,rfl,.str _,H,I.kept hk2,⟨_,rfl⟩,q⟩) sz'
theorem reprVK (K:W.Frag) (hg:X.A.guards=some []) (hu:X.A.units+30<cLine) (hK:X.K=K:=by rfl):CallR X (.builtin "repr") (λxs H Q=>rRepr K xs H Q\/rReprLV K xs H Q\/rReprTV K xs H Q):=CallR.or (reprK K hg hu hK)<|CallR.or (reprLVK K hg hu hK)<|reprTVK K hg hu hK
end
section
variable {K:W.Frag}{Δ:Evt}{P:D->Evt->Prop}
structure RepV (d:D):Prop where
 kind:d.shT\/∃n,(∃e es,d=.lst (e::es)/\∀x∈e::es,shD n x)\/∃ds,d=.tup ds/\∀x∈ds,shD n x
 deep:d.pd.depth<=20
 size:d.pd.shown.length<=sizeLine
theorem Zoa {d:D}(h:RepV d) (p:P (.str d.pd.shown) Δ):JC K (λxs H Q=>rRepr K xs H Q\/rReprLV K xs H Q\/rReprTV K xs H Q) [d] Δ P:=λg G H σ Q vs k rs c=>by
 rcases h.kind with z|⟨n,⟨e,es,rfl,z⟩|⟨ds,rfl,z⟩⟩
 ·exact .inl<|Zqv z h.deep h.size p g G H σ Q vs k rs c
 ·obtain⟨_,_,rfl,r,t⟩:=rs.inv
  cases t.inv;obtain⟨a,us,rfl,ha,rr⟩:=r.inv;exact .inr (.inl ⟨G,_,e,es,n,rfl,k.live,.lst ha rr,z,h.deep,h.size,c _ _ G H Δ k (Same.refl _) (.str _) p⟩)
 ·obtain⟨_,_,rfl,r,t⟩:=rs.inv
  cases t.inv;obtain⟨a,us,rfl,ha,rr⟩:=r.inv;exact .inr (.inr ⟨G,_,ds,n,rfl,k.live,.tup ha rr,z,h.deep,h.size,c _ _ G H Δ k (Same.refl _) (.str _) p⟩)
end
open PySem PySem.Spec PyProof.Rows PySem.W
open PySem PySem.Spec PyProof.Rows PySem.W
def CodO (c:Addr) (q:Str) (h:Heap):Prop:=h.CodeRec (.ref c) q
def del (H:Hp) (c:Addr):Hp:=λb=>if b=c then none else H b
theorem Zea {H:Hp}{b c:Addr}(h:b≠c):del H c b=H b:=if_neg h
section
variable {X:Cx}{pins:List (Addr × Obj)}{σ:St}{H:Hp}{s:Shared}{k:Nat}{f l c' T c:Addr}{fd:FuncData}{qual:Str}{params:Arguments}{body:Expr}{scope:Scope}{pm ctv:Value}{fvs:List Str}{sel:List Nat}{cs:List V}{E:XK}{Q:VK}{sp:List V->Hp->VK->XK->Prop}
end
open PySem PySem.Spec PyProof.Rows PySem.W
def fill (o:Obj) (h:Heap):Nat->Heap
 |0=>Att.noObjs h
 |n+1=>(fill o h n).push o
theorem Ze5 (o:Obj) (h:Heap):∀n,(fill o h n).objs.size=n
 |0=>rfl
 |n+1=>by show ((fill o h n).push o).objs.size=_;rw[Wbj,Ze5 o h n]
theorem Zsc {c C:Addr}{q:Str}{h0:Heap}:CodO c q≠InsC c C:=λe=>by
 have g:((fill { cls:=.none,data:=.fields #[.none,.str q 0] } h0 c).push { cls:=.none,data:=.fields #[.none,.str q 0] }).get? c=some { cls:=.none,data:=.fields #[.none,.str q 0] }:=by
  have z:=Wag (o:={ cls:=.none,data:=.fields #[.none,.str q 0] }) (fill { cls:=.none,data:=.fields #[.none,.str q 0] } h0 c) rfl;rw[Ze5]at z;exact z
 have h1:CodO c q ((fill { cls:=.none,data:=.fields #[.none,.str q 0] } h0 c).push { cls:=.none,data:=.fields #[.none,.str q 0] }):=⟨c,_,_,0,rfl,g,rfl,rfl⟩;rw[e]at h1;obtain⟨ox,vs,g1,g2,_⟩:=h1;rw[g]at g1;cases g1;cases g2
theorem Zpq {c C dx:Addr}{q:Str}{h0:Heap}:CodO c q≠InsR c C dx:=λe=>by
 have g:((fill { cls:=.none,data:=.fields #[.none,.str q 0] } h0 c).push { cls:=.none,data:=.fields #[.none,.str q 0] }).get? c=some { cls:=.none,data:=.fields #[.none,.str q 0] }:=by
  have z:=Wag (o:={ cls:=.none,data:=.fields #[.none,.str q 0] }) (fill { cls:=.none,data:=.fields #[.none,.str q 0] } h0 c) rfl;rw[Ze5]at z;exact z
 have h1:CodO c q ((fill { cls:=.none,data:=.fields #[.none,.str q 0] } h0 c).push { cls:=.none,data:=.fields #[.none,.str q 0] }):=⟨c,_,_,0,rfl,g,rfl,rfl⟩;rw[e]at h1;obtain⟨ox,vs,g1,g2,_⟩:=h1;rw[g]at g1;cases g1;cases g2
section
variable {K:W.Frag}{G H:Hp}{c:Addr}{q:Str}
mutual
theorem Rep.del (hc:G c=some (.ext<|CodO c q)) (h0:Heap):∀{v:V}{d:D},Rep K G v d->Rep K (del G c) v d
 |_,_,.non=>.non
 |_,_,.bl b=>.bl b
 |_,_,.int i=>.int i
 |_,_,.str x=>.str x
 |_,_,.ty n=>.ty n
 |_,_,.adr a=>.adr a
 |_,_,.tup e r=>.tup (by rw[Zea λz=>by rw[z,hc]at e;cases e];exact e) (Reps.del hc h0 r)
 |_,_,.lst e r=>.lst (by rw[Zea λz=>by rw[z,hc]at e;cases e];exact e) (Reps.del hc h0 r)
 |_,_,.dct e l r=>.dct (by rw[Zea λz=>by rw[z,hc]at e;cases e];exact e) l (Reps.del hc h0 r)
 |_,_,.exc (a:=a) (C:=C) e=>.exc (by
   rw[Zea λz=>by
    rw[z,hc]at e;have e2:CodO c q=InsC c C:=by injection (Wat.inj e)
    exact Zsc (h0:=h0) e2]
   exact e)
 |_,_,.excR (a:=a) (C:=C) (dx:=dx) e e2=>.excR (dx:=dx) (by
   rw[Zea λz=>by
    rw[z,hc]at e;have e3:CodO c q=InsR c C dx:=by injection (Wat.inj e)
    exact Zpq (h0:=h0) e3]
   exact e) (by rw[Zea λz=>by rw[z,hc]at e2;cases e2];exact e2)
 |_,_,.scr e r=>.scr (by
   rcases e with e|e
   ·refine .inl ?_
    rcases e with e|⟨o,e⟩
    ·exact .inl (by rw[Zea λz=>by rw[z,hc]at e;cases e];exact e)
    ·exact .inr ⟨o,by rw[Zea λz=>by rw[z,hc]at e;cases e];exact e⟩
   ·exact .inr e) (Reps.del hc h0 r)
theorem Reps.del (hc:G c=some (.ext<|CodO c q)) (h0:Heap):∀{vs:List V}{ds:List D},Reps K G vs ds->Reps K (del G c) vs ds
 |_,_,.nil=>.nil
 |_,_,.cons a b=>.cons (Rep.del hc h0 a) (Reps.del hc h0 b)
end
end
section
variable {X:Cx}{tg:Expr}{K:W.Frag}
end
section
variable {prog:Program}{w:World}{A:Around}{E:Value->Shared->Prop}{s:Shared}
end
section
variable {K:W.Frag}{Δ:Evt}
end
structure RoomH (xa:Addr) (k:Nat) (A:Around):Prop where
 hd:A.handled=some (.ref xa)
 dp:A.depth+3*k+5<recursionLimit
 un:A.units+16*k+200<cLine
 gd:A.guards=some []
theorem RoomH.deeper {xa:Addr}{k:Nat}{A:Around}(r:RoomH xa (k+1) A) (env:Env):RoomH xa k (A.deeper env):=⟨r.hd,by have:=r.dp;show A.depth+1+3*k+5<_;omega,by have:=r.un;show A.units+3+16*k+200<_;omega,r.gd⟩
theorem RoomH.depth {xa:Addr}{k:Nat}{A:Around}(r:RoomH xa k A):A.depth<recursionLimit:=by have:=r.dp;omega
theorem RoomH.units {xa:Addr}{k:Nat}{A:Around}(r:RoomH xa k A):A.units+64<cLine:=by have:=r.un;omega
theorem Room.mark {k:Nat}{A:Around}(r:Room k A) (xa:Addr):RoomH xa k (A.mark<|some (.ref xa)):=⟨rfl,r.dp,r.un,r.gd⟩
structure FnOkH (xa:Addr) (P:Program) (w:World) (K:W.Frag) (mg:Str->Option Value) (base:Heap) (CX:CXT) (k:Nat) (f:Addr) (fd:FuncData) (ps:List Str) (sp:Sp):Prop where
 len:∀vs H Q E,sp vs H Q E->vs.length=ps.length
 run:∀(A:Around) (outer:List Env) (s:Shared) (H:Hp) (args:Args) (us:List Value) (vs:List V) (Q:VK) (E:XK),RoomH xa k A->Env0 P w K mg base A outer s H->BindsTo s fd args (ps.zip us)->Vals vs us->sp vs H Q E →
  codeAny (model P w) A (.call (.ref f) args) (CR CX outer P w H s Q E) s
def cxH (CX:CXT) (P:Program) (w:World) (K:W.Frag) (mg:Str->Option Value) (base:Heap) (N:List Str) (qual:Str) (scope:Scope) (f:Addr) (cd:Value) (A:Around) (outer:List Env) (s:Shared) (H:Hp) (E:XK):Cx where
 prog:=P
 w:=w
 K:=K
 mg:=mg
 base:=base
 A:=A.deeper<|envOfC qual scope s.heap.objs.size f cd
 N:=N
 s₀:=s
 H₀:=H
 env:=envOfC qual scope s.heap.objs.size f cd
 outer:=outer
 stack:=envOfC qual scope s.heap.objs.size f cd::outer
 ex:=[]
 calm:=false
 fn:=λ_=>true
 pn:=[]
 xe:=λe s'=>wpAny (model P w) (A.deeper<|envOfC qual scope s.heap.objs.size f cd) (leaving (envOfC qual scope s.heap.objs.size f cd) e) (λ_ s''=>CX outer H s E e s'') (λe' s''=>CX outer H s E e' s'') s'
theorem Zj2 {CX:CXT}{P:Program}{w:World}{K:W.Frag}{mg:Str->Option Value}{base:Heap}{N ps:List Str}{qual:Str}{scope:Scope}{f:Addr}{cd:Value}{A:Around}{outer:List Env}{s s1:Shared}{H:Hp}{E:XK}{us:List Value}{vs:List V}
  (S:FnScope N ps scope) (e0:Env0 P w K mg base A outer s H) (hl:vs.length=ps.length) (r:Vals vs us)
  (x:InCallC s s.heap.objs.size (bindL (envOfC qual scope s.heap.objs.size f cd).kindOf (ps.zip us) λ_=>none) (cellsFrom (s.heap.objs.size+1) scope.names []) (bindC (envOfC qual scope s.heap.objs.size f cd).kindOf (ps.zip us) λ_=>none) s1) :
  Inv (cxH CX P w K mg base N qual scope f cd A outer s H E) [] (start N vs) H s1:=by
 have hpl:ps.length<=N.length:=by have:=congrArg Wa6 S.pre;rw[Wbd]at this;omega
 obtain⟨h1,tk,rfl,hk⟩:=x.done;have noA:∀b:Addr,b ∉ (cxH CX P w K mg base N qual scope f cd A outer s H E).ex:=λb z=>absurd (show b∈([]:List Addr) from z) (by simp);refine⟨⟨e0.mod,S.kind,rfl,rfl,Waf _,λy z c h1 h2=>?_,λy hy=>?_,λy c _ h=>?_,λz=>(by cases z),Around.frames_deeper e0.frames,.inr ⟨rfl,rfl⟩,λb z=>absurd z (noA b),e0.bs,e0.bsz,λb _ _=>noA b,λb z=>absurd z (noA b),e0.funs,e0.frf⟩,
  rfl,e0.bare,Un.kept hk,⟨_,x.toInCall.ns,λi y v h1 h2 h3=>?_⟩,λy c h=>⟨_,x.cell y c h⟩,e0.hok.fresh (Waf _),λy c h=>?_,λp hp=>absurd (show p∈([]:List (Addr × Obj)) from hp) (by simp),e0.hok.kept hk,?_⟩
 ·exact name_of_addr x.apart (PySem.mem_of_lookup h1)<|PySem.mem_of_lookup h2
 ·have hy:scope.names.lookup y=some .cell\/scope.names.lookup y=some .free:=hy
  rcases hy with hy|hy
  ·exact Zek hy
  ·exact absurd rfl<|S.nofree _<|PySem.mem_of_lookup hy
 ·exact Wbo<|x.above y c<|PySem.mem_of_lookup h
 ·have hi:i<vs.length:=by
   unfold start at h2;by_cases hi:i<vs.length
   ·exact hi
   ·rw[Wa1 (by simpa using hi)]at h2
    rw[Wbw]at h2;split at h2 <;> cases h2
  have ha:vs[i]?=some v:=by
   unfold start at h2;rw[Wbb (by simpa using hi),Waj]at h2;cases e:vs[i]? with
   |none=>rw[e]at h2;cases h2
   |some a=>rw[e]at h2;cases h2;rfl
  obtain⟨u,hu,rv⟩:=r.get ha;have hp:ps[i]?=some y:=by
   rw[<- S.pre,List.getElem?_take_of_lt (by omega)];exact h1
  have ndP:ps.Nodup:=by rw[<- S.pre];exact S.nd.sublist<|List.take_sublist _ _
  refine⟨u,rv,?_⟩;rcases S.par y (Waz hp) with k|k
  ·exact .inl ⟨k,Ze2 ndP hp hu k⟩
  ·obtain⟨c,e⟩:=Zek (n:=s.heap.objs.size+1) k
   refine .inr ⟨.inl k,c,e,?_⟩;have q:=x.cell y c e;rw[Zeu ndP hp hu (by show scope.names.lookup y≠_;rw[k];decide)]at q;exact q
 ·exact e0.hok.fresh<|Wbo<|x.above y c<|PySem.mem_of_lookup h
 ·unfold start
  show _=N.length;rw[War,Wac,Wa2];omega
theorem Zsn {xa:Addr}{CX:CXT}{P:Program}{w:World}{K:W.Frag}{mg:Str->Option Value}{base:Heap}{k:Nat}{f:Addr}{name qual:Str}{params:Arguments}{body:List Stmt}{scope:Scope}{dV kV doc pm cdv ct oc:Value}{an od:Option Addr}
  {osl:Array (Option Value)}{N ps:List Str}{sp:Sp}(lk:K.lookup f=some ⟨oc,od,.func<|W.fnOf name qual params body scope dV kV doc pm an cdv ct,osl⟩) (hcd:W.codeIn K cdv qual=true) (S:FnScope N ps scope)
  (len:∀vs H Q E,sp vs H Q E->vs.length=ps.length)
  (hbody:∀(A:Around) (outer:List Env) (s:Shared) (H:Hp) (vs:List V) (Q:VK) (E:XK),RoomH xa k (A.deeper (envOfC qual scope s.heap.objs.size f cdv))->sp vs H Q E →
   ∃t,PSs (cxH CX P w K mg base N qual scope f cdv A outer s H E) body t/\t { nx:=λ_ H'=>Q .non H',rt:=Q } (start N vs) H) :
  FnOkH xa P w K mg base CX (k+1) f (W.fnOf name qual params body scope dV kV doc pm an cdv ct) ps sp:=by
 refine⟨len,λA outer s H args us vs Q E hr e0 hb r hsp=>?_⟩;have hl:=len _ _ _ _ hsp;have KX:K.In s.heap:=e0.mod.kin.keeps λb o e=>(e0.bs b o e).1;have lim:s.heap.NoLimit:=e0.mod.nolimit.keeps λb o e=>(e0.bs b o e).1;have hkind:∀y∈ps.zip us,scope.names.lookup y.1=some .local\/(scope.names.lookup y.1=some .cell/\((cellsFrom (s.heap.objs.size+1) scope.names []).lookup y.1).isSome=true):=λ⟨n,v⟩ hy=>by
  rcases S.par n (Wcz hy).1 with q|q
  ·exact .inl q
  ·exact .inr ⟨q,PySem.W.cellsFrom_some _ _ _ (.inl q)⟩
 refine codeAny_call_function hr.depth (KX _ _ lk) rfl S.co S.gen rfl (PySem.W.codeRec_of KX hcd)<|hb _ _ _ _ ?_;refine wpAny_newFunctionEnv_cells S.kind hkind λenv he s1 x=>?_;subst he;refine⟨lim.keeps x.toInCall.keep,codeAny_func ?_⟩;obtain⟨t,ht,hq⟩:=hbody A outer s H vs Q E (hr.deeper _) hsp;have I:Inv (cxH CX P w K mg base N qual scope f cdv A outer s H E) [] (start N vs) H s1:=Zj2 S e0 hl r x;refine wpAny_mono (ht [] s1 (start N vs) H _ I hq) (λfl s' hs=>?_) λe s' hs=>hs;have fin:∀{σ':St}{H':Hp}{v:V}{u:Value},Inv (cxH CX P w K mg base N qual scope f cdv A outer s H E) [] σ' H' s' -> RelV v u->Q v H' -> CE outer P w H s Q u s':=
  λ{σ' H' v u} J rv q=>⟨v,H',J.os,J.bare,J.base,J.hok,rv,q⟩
 cases fl with
 |ret u=>
  obtain⟨v,σ',H',J,rv,q⟩:=hs;exact fin J rv q
 |next=>
  obtain⟨σ',H',J,q⟩:=hs;exact fin (v:=V.non) (u:=Value.none) J rfl q
 |brk=>
  obtain⟨_,_,_,q⟩:=hs;exact False.elim q
 |cont=>
  obtain⟨_,_,_,q⟩:=hs;exact False.elim q
section
variable {X:Cx}{CX:CXT}{xa:Addr}{k:Nat}{f C:Addr}{fd:FuncData}{ps:List Str}{sp:Sp}{dvs:List V}{ds:List Value}{E:XK}{x m:Str}{p pos apos:Pos}{e o:Expr}{es:List Expr}{ta:TE}{t:TA}
theorem Zq6 {pins:List (Addr × Obj)}{σ:St}{H:Hp}{s:Shared}{Q:VK}{us:List Value}{vs:List V}(F:FnOkH xa X.prog X.w X.K X.mg X.base CX k f fd ps sp) (hr:RoomH xa k X.A) (hb:Binds X.K fd ps ds) (hd:Vals dvs ds) (hx:Passes CX X E)
  (I:Inv X pins σ H s) (r:Vals vs us) (h:sp (vs++dvs) H Q E):wpAny (model X.prog X.w) X.A (call (.ref f) us) (EP X pins σ Q) X.xe s:=by
 have r2:Vals (vs++dvs) (us++ds):=r.append hd;have hl:(us++ds).length=ps.length:=by rw[<- r2.length];exact F.len _ _ _ _ h
 refine wpAny_call (codeAny_mono (F.run X.A X.stack s H ⟨us,[]⟩ (us++ds) (vs++dvs) Q E hr I.env0 (hb s us I.kIn hl) r2 h) λr s' hq=>?_);cases r with
 |error e=>exact hx pins σ H s e s' I hq
 |ok fl=>
  cases fl with
  |ret u=>exact I.after hq
  |next=>exact False.elim hq
  |brk=>exact False.elim hq
  |cont=>exact False.elim hq
theorem Zny (F:FnOkH xa X.prog X.w X.K X.mg X.base CX k f fd ps sp) (hr:RoomH xa k X.A) (hg:Gl X x) (hm:X.mg x=some (.ref f)) (hk:W.keepIn X.K (.ref f)=true) (hb:Binds X.K fd ps ds) (hd:Vals dvs ds) (hx:Passes CX X E)
  (ha:PA X (e::es) t) (hdb:(x == ("__debug__":Str))=false:=by decide) (he:starEach (e::es) X.env=(false,eval e X.env)::starEach es X.env:=by rfl) (hpl:(backTo pos<|starEach es X.env).any (·.1)=false:=by rfl) :
  PE X (.Call (.Name x p) (e::es) [] pos) (tCall sp dvs E t):=by
 intro pins s σ H Q I h;refine wpAny_Call_Name_kw<|Zde I hg hm ?_ hdb;refine PySem.W.callWith_K (h₀:=X.base) I.ok.mod.kin hk (thn (ha pos pins s σ H _ I h) λus s1 ⟨vs,H1,I1,r,q⟩=>⟨I1.kIn,?_⟩) he hpl;exact Zq6 F hr hb hd hx I1 r q
end
structure CalleeH (P:Program) (w:World) (K:W.Frag) (mg:Str->Option Value) (base:Heap) (k:Nat) (x:Str) (ps:List Str) (sp:Addr->Sp):Prop where
 ex:∃(f:Addr) (fd:FuncData),(∀xa,FnOkH xa P w K mg base CX0 k f fd ps (sp xa))/\Binds K fd ps []/\W.keepIn K (.ref f)=true/\mg x=some (.ref f)
section
variable {X:Cx}{xa:Addr}{k:Nat}{x:Str}{ps:List Str}{sp:Addr->Sp}{e:Expr}{es:List Expr}{t:TA}{p pos:Pos}
theorem Zte (C:CalleeH X.prog X.w X.K X.mg X.base k x ps sp) (hr:RoomH xa k X.A) (ha:PA X (e::es) t) (hg:Gl X x:=by rfl) (hdb:(x == ("__debug__":Str))=false:=by decide)
  (he:starEach (e::es) X.env=(false,eval e X.env)::starEach es X.env:=by rfl) (hpl:(backTo pos<|starEach es X.env).any (·.1)=false:=by rfl):PE X (.Call (.Name x p) (e::es) [] pos) (tCall (sp xa) [] E0 t):=by
 obtain⟨f,fd,F,b,kp,m⟩:=C.ex;exact Zny (F xa) hr hg m kp b .nil pass0 ha hdb he hpl
end
section
variable {P:Program}{w:World}{K:W.Frag}{mg:Str->Option Value}{base:Heap}
theorem Fun.okH {xa:Addr}{x qual:Str}{st:Stmt}{f:Addr}{fd:FuncData}{N ps:List Str}{k:Nat}{sp:Sp}(F:Fun K x qual st f fd) (S:FnScope N ps (defScope st)) (len:∀vs H Q E,sp vs H Q E->vs.length=ps.length)
  (hbody:∀(cdv:Value) (A:Around) (outer:List Env) (s:Shared) (H:Hp) (vs:List V) (Q:VK) (E:XK),RoomH xa k (A.deeper (envOfC qual (defScope st) s.heap.objs.size f cdv))->sp vs H Q E →
   ∃t,PSs (cxH CX0 P w K mg base N qual (defScope st) f cdv A outer s H E).nox (defBody st) t/\t { nx:=λ_ H'=>Q .non H',rt:=Q } (start N vs) H):FnOkH xa P w K mg base CX0 (k+1) f fd ps sp:=by
 obtain⟨oc,od,kV,doc,pm,an,cdv,ct,osl,rfl,lk,hcd⟩:=F.ex;refine Zsn lk hcd S len λA outer s H vs Q E hr hsp=>?_;obtain⟨t,h,q⟩:=hbody cdv A outer s H vs Q E hr hsp;exact⟨t,h.nox,q⟩
end
open PySem PySem.Spec PyProof.Rows PySem.W
section
variable {X:Cx}{k i:Nat}{l:Addr}{fd:FuncData}{x:Str}{sp:Hp->VK->XK->Prop}{p pos:Pos}{E:XK}
end
open PySem PySem.Spec PyProof.Rows PySem.W
section
variable {P:Program}{w:World}{K:W.Frag}{mg:Str->Option Value}{base:Heap}
end
open PySem PySem.Spec PyProof.Rows PySem.W
open PySem PySem.Spec PyProof.Rows PySem.SeqAt
section
variable {X:Cx}{pins:List (Addr × Obj)}{σ:St}{H H':Hp}{s:Shared}{h':Heap}{a C T:Addr}{v:Value}
variable {M:Model}{E:Value->Shared->Prop}{Q:Unit->Shared->Prop}
end
section
variable {X:Cx}{pins:List (Addr × Obj)}{σ:St}{H:Hp}{s:Shared}{fp:List Addr}{scope:Scope}{N:List Str}{E:XK}
end
section
variable {K:W.Frag}{Δ:Evt}{E:XK}{Xp:Addr->Prop}
end
section
variable {K:W.Frag}{Δ:Evt}
end
def d1T (k:Int) (ns:List Int):D:=.dct [.inl k] [.tup (ns.map .int)]
def rReprD (K:W.Frag):List V->Hp->VK->Prop:=λxs H Q=>∃(G:Hp) (a:Addr) (k:Int) (ns:List Int),xs=[.ref a]/\Same G H/\Rep K G (.ref a) (d1T k ns)/\k.natAbs.log2<1920/\D.shws (ns.map .int)=true/\(d1T k ns).pd.depth<=20/\(d1T k ns).pd.shown.length<=sizeLine/\Q (.str (d1T k ns).pd.shown) H
theorem Zhg (x y:Str):x.length<=(dictText [x ++ ": " ++ y]).length/\y.length<=(dictText [x ++ ": " ++ y]).length:=by
 have e:dictText [x ++ ": " ++ y]=("{":Str)++(x ++ ": " ++ y) ++ "}":=rfl;rw[e,strLen_append,strLen_append,strLen_append,strLen_append];omega
section
variable {X:Cx}
theorem reprDK (K:W.Frag) (hg:X.A.guards=some []) (hu:X.A.units+30<cLine) (hK:X.K=K:=by rfl):CallR X (.builtin "repr") (rReprD K):=by
 subst hK;intro pins s σ H xs us Q I r h;obtain⟨G,a,k,ns,rfl,sg,rep,hk,hns,dp,sz,q⟩:=h;obtain⟨u,rfl,ru⟩:=vals1 r;cases (show u=Value.ref a from ru);cases rep with
 |@dct _ _ vs _ e l rs=>
  obtain⟨v,vs',rfl,rv,rt⟩:=rs.inv;cases rt.inv;obtain⟨_,hS,kvs,rk,o,es,ep,ho,hc,hd,_,hp,_⟩:=Zjr I.hok<|sg _ _ e;cases rk with
  |@cons _ kv _ _ h1 h2=>
   cases h2;obtain⟨hk1,hv1⟩:=h1;generalize hes:es.toList=esl at hp;cases hp with
   |@cons en _ _ _ q1 q2 q3=>
    cases q3;have q1:keyIs kv.1 en.key=true:=q1;rw[<- hk1]at q1;obtain⟨t2,hk2⟩:∃t,en.key=.int k t:=Value.isInt_shape (k:=k) (v:=en.key) q1;have szk:=Zhg (PyData.int k).shown (D.pd (.tup<|ns.map .int)).shown;have sz':(dictText [(PyData.int k).shown ++ ": " ++ (D.pd (.tup<|ns.map .int)).shown]).length<=sizeLine:=sz;have rK:Reads s.heap en.key (.int k) []:=by rw[hk2];exact .int k t2
    obtain⟨b1,hb1,k1⟩:=ReprK.of_reads (prog:=X.prog) (w:=X.w) rK (decide_eq_true hk) (λz=>nomatch (show false=true from z)) (Was szk.1 sz');obtain⟨⟨as2,r2⟩,b2,hb2,k2⟩:=Zie (P:=X.prog) (w:=X.w) (K:=X.K) I.hok sg rv (.inl (.inl (show D.shw (.tup (ns.map .int))=true from hns))) (show RelV v en.val by rw[q2];exact hv1) (Was szk.2 sz');have rd:Reads s.heap (.ref a) (d1T k ns).pd _:=.dict ho hc.1 hd (by rw[hes];exact .cons rK .nil) (by rw[hes];exact .cons r2 .nil);have hd1:(PyData.int k).depth<=(D.pd (.tup (ns.map .int))).depth:=Wbn _;have hna:a ∉ b1++b2:=not_mem_of_deeper (n:=(D.pd (.tup (ns.map .int))).depth) rd (by
     show _<Wc3 (Wc3 (PyData.int k).depth (D.pd (.tup (ns.map .int))).depth) 0+1;have:(D.pd (.tup (ns.map .int))).depth<=Wc3 (Wc3 (PyData.int k).depth (D.pd (.tup (ns.map .int))).depth) 0:=Was (Wcy _ _) (Wc5 _ _);omega) λb hm=>by
     rcases Wa7.mp hm with hm|hm
     ·obtain⟨d',as',r',hd'⟩:=hb1 b hm
      exact⟨d',as',r',Was hd' hd1⟩
     ·exact hb2 b hm
    have ent:ReprEntriesK X.prog X.w (b1++b2) s.heap (D.pd (.tup<|ns.map .int)).depth es.toList [(PyData.int k).shown ++ ": " ++ (D.pd (.tup<|ns.map .int)).shown]:=by
     rw[hes];exact .cons ((k1.more λb hb=>Wbv _ hb).level_le hd1) (k2.more λb hb=>Wa3 _ hb) .nil
    have hs2:(a == sysModules)=false:=by
     cases z:a == sysModules with
     |false=>rfl
     |true=>rw[z]at hS;exact absurd hS (by decide)
    have dp2:(D.pd (.tup<|ns.map .int)).depth<=19:=by
     have:(D.pd (.tup<|ns.map .int)).depth<=Wc3 (Wc3 (PyData.int k).depth (D.pd (.tup<|ns.map .int)).depth) 0:=Was (Wcy _ _)<|Wc5 _ _;have dp:Wc3 (Wc3 (PyData.int k).depth (D.pd (.tup<|ns.map .int)).depth) 0+1<=20:=dp;omega
    refine call_repr_slot (by omega) ⟨o,ho,hc.1⟩ F.slot_dict_repr ?_;exact call_dict_reprK ho hc.1 hd hs2 hna ent (g:=[]) hg (λb _=>Clear.nil b) (by show X.A.units+1+_<cLine;omega) (λ_ _ e=>e) (λh' t tk hk2=>⟨_,_,rfl,.str _,H,I.kept hk2,⟨_,rfl⟩,q⟩) sz'
theorem reprWK (K:W.Frag) (hg:X.A.guards=some []) (hu:X.A.units+30<cLine) (hK:X.K=K:=by rfl):CallR X (.builtin "repr") (λxs H Q=>(rRepr K xs H Q\/rReprLV K xs H Q\/rReprTV K xs H Q)\/rReprD K xs H Q):=CallR.or (reprVK K hg hu hK)<|reprDK K hg hu hK
end
section
variable {K:W.Frag}{Δ:Evt}{P:D->Evt->Prop}
def RepW (d:D):Prop:=RepV d\/∃k ns,d=d1T k ns/\k.natAbs.log2<1920/\D.shws (ns.map .int)=true/\d.pd.depth<=20/\d.pd.shown.length<=sizeLine
theorem Znf {d:D}(h:RepW d) (p:P (.str d.pd.shown) Δ):JC K (λxs H Q=>(rRepr K xs H Q\/rReprLV K xs H Q\/rReprTV K xs H Q)\/rReprD K xs H Q) [d] Δ P:=λg G H σ Q vs k rs c=>by
 rcases h with h|⟨i,ns,rfl,h1,h2,h3,h4⟩
 ·exact .inl<|Zoa h p g G H σ Q vs k rs c
 ·obtain⟨_,_,rfl,r,t⟩:=rs.inv
  cases t.inv;have r2:=r;obtain⟨a,us,rfl,ha,_⟩:=r2.inv;exact .inr ⟨G,_,i,ns,rfl,k.live,r,h1,h2,h3,h4,c _ _ G H Δ k (Same.refl _) (.str _) p⟩
end
theorem Zgv {f:Expr}{as:List Expr}{ks:List Keyword}{p:Pos}{es:List Expr}{env:Env}:starEach (Expr.Call f as ks p::es) env=(false,eval (Expr.Call f as ks p) env)::starEach es env:=rfl
theorem Zg3 {x:Str}{p:Pos}{es:List Expr}{env:Env}:starEach (Expr.Name x p::es) env=(false,eval (Expr.Name x p) env)::starEach es env:=rfl
theorem Zra {o:UnaryOp}{b:Expr}{p:Pos}{es:List Expr}{env:Env}:starEach (Expr.UnaryOp o b p::es) env=(false,eval (Expr.UnaryOp o b p) env)::starEach es env:=rfl
section
variable {K:W.Frag}{Δ:Evt}{P:D->Evt->Prop}
end
open PySem PySem.Spec PyProof.Rows PySem.SeqAt
section
variable {K:W.Frag}{Δ:Evt}
end
open PySem PySem.Spec PyProof.Rows PySem.SeqAt
def rSmL (K:W.Frag) (r:Bool):R2:=λx y H Q=>Q (.bl r) H/\∃(G:Hp) (n:Nat) (a b:Addr) (xs ys:List V) (ds:List D),Same G H/\Reps K G xs ds/\Reps K G ys ds/\ds.all (Sm n)=true/\n<=5/\x=.ref a/\y=.ref b/\SqL K H a xs/\SqL K H b ys
def rSmA (K:W.Frag) (r:Bool):R2:=λx y H Q=>rSmT K r x y H Q\/rSmL K r x y H Q
section
variable {X:Cx}
theorem eqSmLK (K:W.Frag) (hv:X.A.units+8<cLine) (hK:X.K=K:=by rfl):OpR X (compareOp .Eq) (rSmL K true):=by
 subst hK;intro pins s σ H x y v u Q I rx ry h;obtain⟨q,G,n,a,b,xs,ys,ds,sg,ra,rb,hd,hn,rfl,rfl,h1,h2⟩:=h;cases rx;cases ry;obtain⟨its,w1,p1,_⟩:=I.list h1;obtain⟨its2,w2,p2,_⟩:=I.list h2;have l1:=w1.length;have l2:=w2.length;have l3:=ra.length;have l4:=rb.length;have z:=RcAt.lists (A:=X.A) (s:=s) (e:=λ_=>true) p1.isList p2.isList (by rw[Wae,Wae];omega) (by omega) λj h1 h2=>by
  have h1':j<its.length:=by simpa using h1
  have h2':j<its2.length:=by simpa using h2
  have hx:j<ds.length:=by omega
  obtain⟨p,hp1,hp2⟩:=ra.get<|Wab hx;obtain⟨q,hq1,hq2⟩:=rb.get<|Wab hx;obtain⟨va,hv1,hv2⟩:=w1.get hp1;obtain⟨vb,hw1,hw2⟩:=w2.get hq1;rw[Wab h1']at hv1;rw[Wab h2']at hw1;rw[Wa5,Wa5,Wat.inj hv1,Wat.inj hw1];exact Zcn n I sg hp2 hq2 hv2 hw2 (Waw.mp hd _<|Wbf hx) (by show X.A.units+1+n<cLine;omega)
 rw[Waw.mpr (λ_ _=>rfl)]at z;exact z X.prog X.w _ _ ⟨.bl _,H,I,rfl,q⟩
theorem eqAK (K:W.Frag) (hv:X.A.units+8<cLine) (hK:X.K=K:=by rfl):OpR X (compareOp .Eq) (rSmA K true):=by
 intro pins s σ H x y v u Q I rx ry h;rcases h with h|h
 ·exact eqSmTK K hv hK pins s σ H x y v u Q I rx ry h
 ·exact eqSmLK K hv hK pins s σ H x y v u Q I rx ry h
theorem neAK (K:W.Frag) (hv:X.A.units+8<cLine) (hK:X.K=K:=by rfl):OpR X (compareOp .NotEq) (rSmA K false):=by
 intro pins s σ H x y v u Q I rx ry h;rcases h with h|h
 ·exact neSmTK K hv hK pins s σ H x y v u Q I rx ry h
 ·exact neSmK K hv hK pins s σ H x y v u Q I rx ry h
end
theorem Zh2 {K:W.Frag}{Δ:Evt}{r:Bool}{P:D->Evt->Prop}{n:Nat}{ds:List D}(hn:n<=5) (h:ds.all (Sm n)=true) (p:P (.bl r) Δ):JR2 K (rSmA K r) (.lst ds) (.lst ds) Δ P:=λg G H σ Q x y k rx ry c=>by
 obtain⟨_,_,rfl,ha,ra⟩:=rx.inv;obtain⟨_,_,rfl,hb,rb⟩:=ry.inv;exact .inr ⟨c _ _ G H Δ k (Same.refl _) (.bl r) p,G,n,_,_,_,_,ds,k.live,ra,rb,h,hn,rfl,rfl,SqL.of<|k.live _ _ ha,SqL.of<|k.live _ _ hb⟩
section
variable {prog:Program}{w:World}{A:Around}{E:Value->Shared->Prop}{h:Heap}{g:Array GenState}{d:Drawn}{t:Nat}{os:OsState}
variable {nm q:Str}{C N:Addr}{bs bm bmB:List Value}{hdct:Bool}{sn:List Str}{sub:List Value}{ab:Bool}{col:Option Bool}{dd:Option Addr}{k0 k1 k2 k3 k5:Option Value}{B newId initId:String}
theorem Ze7 (F:ExcBaseFacts B newId initId bmB) (T:OwnTail h bmB bm) {mN:Str->Option Value}{rest:List Value}{fI:Addr}{oI:Obj}{Q:Fin->Shared->Prop}
  (hC:h.get? C=some (excClassObj nm q C N bs bm hdct sn sub ab col dd k0 k1 k2 k3 k5 newId)) (hn:h.Ns N mN) (hi:mN "__init__" = some (.ref fI))
  (hfI:h.get? fI=some oI) (hfc:oI.cls=.type "function")
  (hq:∀h' e,Heap.MadeExcOf h h' e (.ref C) rest →
   wpAny (model prog w) A (call (.ref fI) (.ref e::rest)) (λr s'=>r=.none/\Q (.done (.ret (.ref e))) s') E ⟨h',g,d,t,os⟩) (hrest:rest.length<=sizeLine) :
  wpAny (model prog w) A (Builtin.«type.__call__» ⟨.ref C::rest,[]⟩) Q E ⟨h,g,d,t,os⟩:=by
 repeat (first|with_reducible refine wpAny_loadPart_at hC ?_|with_reducible refine wpAny_madeBy_exc hC ?_|wp_step)
 refine codeAny_call_builtin_code (Code.quiet_builtin _ F.quiet)<|wpAny_check_new_subT F T hC ?_;refine codeAny_exc_new_subT F T hC ?_ hrest;show wpAny _ _ _ _ _ _;have hC₁:=Waa { cls:=.ref C,data:=.fields #[.ref h.objs.size,.none,.none,.none,.bool false,.none] }
  (Waa { cls:=.type "tuple",data:=.seq rest.toArray } hC)
 have hfI₁:=Waa { cls:=.ref C,data:=.fields #[.ref h.objs.size,.none,.none,.none,.bool false,.none] }
  (Waa { cls:=.type "tuple",data:=.seq rest.toArray } hfI)
 have hn₁:((h.push { cls:=.type "tuple",data:=.seq rest.toArray }).push { cls:=.ref C,data:=.fields #[.ref h.objs.size,.none,.none,.none,.bool false,.none] }).Ns N mN:=
  let ⟨o,es,ep,e,r⟩:=hn; ⟨o,es,ep,Waa _<|Waa _ e,r⟩
 have hget:((h.push { cls:=.type "tuple",data:=.seq rest.toArray }).push
   { cls:=.ref C,data:=.fields #[.ref h.objs.size,.none,.none,.none,.bool false,.none] }).get? (h.objs.size+1)=some
   { cls:=.ref C,data:=.fields #[.ref h.objs.size,.none,.none,.none,.bool false,.none] }:=by heap_get
 have hcC:(Value.ref C::bm).contains (.ref C)=true:=by simp
 have T₁:=T.keeps (h':=(h.push { cls:=.type "tuple",data:=.seq rest.toArray }).push { cls:=.ref C,data:=.fields #[.ref h.objs.size,.none,.none,.none,.bool false,.none] })
  λb o e=>Waa _<|Waa _ e
 unfold isInstance
 repeat (first|with_reducible refine wpAny_loadPart_at hget ?_|(with_reducible refine wpAny_isSubtype_exc hC₁ ?_;rw[hcC])|wp_step)
 show wpAny _ _ (typeLookup (.ref C) _) _ _ _;refine wpAny_typeLookup_tail hC₁ hn₁ T₁ F.mroIs F.init.lookup ?_;rw[hi];refine wpAny_holding<|wpAny_bind ?_;unfold bindSpecial;refine wpAny_bind<|wpAny_typeOf (T:="function") ⟨_,hfI₁,hfc⟩ ?_;rw[if_pos (by decide)];refine wpAny_pure<|wpAny_bind (wpAny_mono (hq _ (h.objs.size+1) ⟨λb o hb=>Waa _<|Waa _ hb,Wb3<|Nat.le_succ _,h.objs.size,hget,Wb3<|Waf _,?_⟩) (λr s' hr=>?_) λ_ _ x=>x)
 ·exact Waa _<|Heap.get?_push_at rfl rfl
 ·obtain⟨rfl,hQ⟩:=hr
  wp_walk
  exact hQ
theorem Zjx (F:ExcBaseFacts B newId initId bmB) (T:OwnTail h bmB bm) {mN:Str->Option Value}{rest:List Value}{fI:Addr}{oI:Obj}{Q:Value->Shared->Prop}
  (hC:h.get? C=some (excClassObj nm q C N bs bm hdct sn sub ab col dd k0 k1 k2 k3 k5 newId)) (hn:h.Ns N mN) (hi:mN "__init__" = some (.ref fI))
  (hfI:h.get? fI=some oI) (hfc:oI.cls=.type "function")
  (hq:∀h' e,Heap.MadeExcOf h h' e (.ref C) rest →
   wpAny (model prog w) (A.under (.builtin "type.__call__" ⟨.ref C::rest,[]⟩)) (call (.ref fI) (.ref e::rest)) (λr s'=>r=.none/\Q (.ref e) s') E ⟨h',g,d,t,os⟩) (hrest:rest.length<=sizeLine) :
  wpAny (model prog w) A (call (.ref C) rest) Q E ⟨h,g,d,t,os⟩:=by
 have f1:=tc_lookup;have f2:=tc_bind (.ref C);have hT:(⟨h,g,d,t,os⟩:Shared).TypeIs (.ref C) "type":=⟨_,hC,rfl⟩;refine wpAny_call<|codeAny_of_tree ?_;show wpAny _ _ (callAny (.ref C) _) _ _ _
 repeat (any_goals (first|assumption|with_reducible refine wpAny_loadPart_at hC ?_|wp_step))
 refine⟨rfl,?_⟩;refine codeAny_call_builtin_at (Code.quiet_builtin _ (by decide +kernel)) entry_typeCall<|wpAny_check_type_call_sub hC (Ze7 (hrest:=hrest) F T hC hn hi hfI hfc λh' e hm=>?_);exact hq h' e hm
end
def excInI (K:W.Frag) (C f:Addr):Bool:=match K.lookup C with
 |some ⟨.type "type",_,.cls cd,sl⟩=>(match cd.mro,sl.toList with
  |.ref C'::bm,[_,_,_,_,some (.builtin n),_]=>C' == C && n == "ValueError.__new__" && !cd.hasDel && PySem.W.tailIn K [.type "ValueError",.type "Exception",.type "BaseException",.type "object"] bm && PySem.W.nsOkIn K cd.ns && W.nsIn K cd.ns "__init__" == some (some (.ref f))
  |_,_=>false)
 |_=>false
def ExcOI (h:Heap) (C f:Addr) (bm:List Value):Prop:=∃N nm qn bs hd sn sub ab col dd k0 k1 k2 k3 k5 mN,h.get? C=some (excClassObj nm qn C N bs bm hd sn sub ab col dd k0 k1 k2 k3 k5 "ValueError.__new__")/\h.Ns N mN/\mN "__init__" = some (.ref f)/\OwnTail h [.type "ValueError",.type "Exception",.type "BaseException",.type "object"] bm
theorem Zj3 {K:W.Frag}{h:Heap}{N:Addr}{mg:Str->Option Value}{n:Str}{v:Value}(X:K.In h) (G:h.Ns N mg) (e:W.nsIn K N n=some (some v)):mg n=some v:=by
 obtain⟨o,es,ep,ho,hd,_,hf⟩:=G;unfold W.nsIn at e;split at e
 ·rename_i c d es' n' sl q
  have:=X _ _ q;rw[ho]at this;cases this;cases hd;split at e
  ·rename_i en he
   cases e;rw[<- hf];unfold nsFind findBy;rw[<- Array.find?_toList,he];rfl
  ·split at e <;> cases e
 ·cases e
theorem Zcr {K:W.Frag}{h:Heap}{C f:Addr}(X:K.In h) (q:excInI K C f=true):∃bm,ExcOI h C f bm/\(∀v b,PySem.W.mroIn K C v=some b->(Value.ref C::bm).contains v=b)/\∃cd,PySem.W.clsIn K C=some cd/\cd.mro=.ref C::bm:=by
 unfold excInI at q;split at q
 next dd cd sl e=>
  split at q
  next C' bm k0 k1 k2 k3 n k5 e1 e2=>
   rw[Wau,Wau,Wau,Wau,Wau]at q;obtain⟨⟨⟨⟨⟨q1,q2⟩,q3⟩,q4⟩,q5⟩,q6⟩:=q;have q1:=beq_iff_eq.mp q1;have q2:=beq_iff_eq.mp q2;rw[Bool.not_eq_true']at q3;subst q1;cases cd with
   |mk nm bs mro ns qn hd sn sub ab col del=>
    dsimp only at e1 q3 q5 q6;have q7:=beq_iff_eq.mp q6;subst e1;subst q3;have e3:sl = #[k0,k1,k2,k3,some (.builtin n),k5]:=by
     cases sl with
     |mk l=>exact congrArg Array.mk e2
    subst e3;subst q2;have G:h.Ns ns (h.nsMap ns):=.of_isNs<|PySem.W.isNs_of_in X q5;refine⟨bm,⟨ns,nm,qn,bs,hd,sn,sub,ab,col,dd,k0,k1,k2,k3,k5,_,X _ _ e,G,Zj3 X G q7,PySem.W.tail_of_in X q4⟩,λv b hv=>?_,_,by unfold PySem.W.clsIn;rw[e],rfl⟩;unfold PySem.W.mroIn PySem.W.clsIn at hv;rw[e]at hv;have hv:some ((Value.ref C'::bm).contains v)=some b:=hv;exact Wat.inj hv
  next=>cases q
 next=>cases q
theorem Zhx (self:Value) {h:Heap}:∀{l:List Value},OwnTail h [.type "ValueError",.type "Exception",.type "BaseException",.type "object"] l->refuseLoop self "__setattr__" l=pure ():=λT=>by
 induction T with
 |base=>exact PySem.F.store_ValueError.passes self
 |own _ _ _ _ ih=>rw[refuseLoop_ref];exact ih
section
variable {prog:Program}{w:World}{A:Around}{K:W.Frag}{s:Shared}{x C f:Addr}
open PySem.W in
theorem Zmg {ox:Obj}{od:Option Obj}{name:Str}{tk:Tok}{v:Value}{R:Result->Shared->Prop}(X:K.In s.heap) (I:PySem.W.InstAt s.heap x ox C od) (hc0:excInI K C f=true) (hob:PySem.W.mroIn K C (.type "object")=some true) (ht:PySem.W.takerIn K C name=some none)
  (h:∀b,wpAny (model prog w) A.in1 (Builtin.ObjectAttr.storeInOwnDict (.ref x) (.ref C) (.str name tk) name v b)
   (λfin s'=>match fin with|.done f=>R (.ok f) s'|.again c'=>c'.quiet=true/\codeAny (model prog w) A c' R s') (λe s'=>R (.error e) s') s) :
  codeAny (model prog w) A (.call (.builtin "object.__setattr__") ⟨[.ref x,.str name tk,v],[]⟩) R s:=by
 have SF:=PySem.F.store_object;obtain⟨bm,⟨_,_,_,_,_,_,_,_,_,_,_,_,_,_,_,_,_,_,_,T⟩,hmro,cd,hc,hm0⟩:=Zcr X hc0;have sub:Looks (model prog w) s.heap (isInstance (.ref x) (.type "object")) true:=I.type.andThen<|looks_mroIn X hob;refine codeAny_call_builtin SF.slot.plain SF.entry (@check_slot (model prog w) _ _ s "object.__setattr__" "object" "__setattr__" (.ref x) [.str name tk,v] [] _ SF.kind SF.split sub (SF.args (.ref x) (.str name tk) v) ?_);obtain⟨attr,ha,hr⟩:=Option.bind_eq_some_iff.mp ht;have hm:Looks (model prog w) s.heap (mroOf (.ref C)) (.ref C::bm):=by rw[<- hm0];exact(looks_clsIn X hc).andThen .now
 have L3:Looks (model prog w) s.heap (Builtin.ObjectAttr.storeTaker? attr) none:=by
  cases attr with
  |none=>cases hr;exact .now
  |some a=>
   obtain⟨b,hb,e⟩:=Wct.mp hr;refine(looks_takesIn X hb).andThen ?_;cases b with
   |true=>cases e
   |false=>exact .now
 rw[osa_eq,refuse_eq];refine wpAny_bind<|wpAny_bind<|I.type.here<|wpAny_bind<|hm.here ?_;rw[refuseLoop_ref,Zhx _ T];refine wpAny_pure<|wpAny_bind<|I.type.here<|wpAny_bind ((looks_findIn X ha).here (wpAny_bind<|L3.here ?_));exact h _
theorem Zqm {ox:Obj}{vs:Array Value}{name:Str}{v:Value}{E:Value->Shared->Prop}{Q:Unit->Shared->Prop}(X:K.In s.heap) (hx:s.heap.get? x=some ox) (hcl:ox.cls=.ref C) (hdn:ox.dict=none) (hdat:ox.data=.fields vs)
  (hc0:excInI K C f=true) (hob:PySem.W.mroIn K C (.type "object")=some true) (hs:PySem.W.findIn K (.ref C) "__setattr__" = some (some (.builtin "object.__setattr__"))) (ht:PySem.W.takerIn K C name=some none) (hh:PySem.W.hasDictIn K C=true)
  (h:∀h' dx tk',h'.Ns1 dx (λy=>if y=name then some v else none)->dx≠x->s.heap.get? dx=none->h'.get? x=some { ox with dict:=some dx } -> (∀b o,b≠x->s.heap.get? b=some o->h'.get? b=some o)->Q () { s with heap:=h',toks:=tk' }) :
  wpAny (model prog w) A (setAttr (.ref x) name v) Q E s:=by
 have I:PySem.W.InstAt s.heap x ox C none:=⟨hx,hcl,by unfold PySem.W.notCls;rw[hdat],by rw[hdn];trivial⟩;refine PySem.W.set_plain X I hs (Zmg (s:={ s with toks:=s.toks+1 }) (f:=f) X I hc0 hob ht λb=>?_);obtain⟨cd,hc,hd'⟩:=PySem.W.any_some hh;obtain⟨oc,odi,oda,osl⟩:=ox;dsimp only at hcl hdn hdat;subst hcl hdn hdat;refine wpAny_bind<|wpAny_pure<|wpAny_bind<|wpAny_bind<|wpAny_loadPart hx<|wpAny_bind<|PySem.W.Looks.here (s:={ s with toks:=s.toks+1 }) (PySem.W.looks_clsIn X hc) ?_;rw[hd'];rw[if_neg (by decide)];show wpAny _ _ (if (!true || !typeHasDict (Value.ref C))=true then _ else _) _ _ _;rw[if_neg (by simp[typeHasDict])];have hx₁:(s.heap.push { cls:=.type "dict",data:=.dict #[] }).get? x=some { cls:=.ref C,dict:=none,data:=.fields vs,slots:=osl }:=Waa _ hx;have hxs:x≠s.heap.objs.size:=Wa4<|Wan hx;refine wpAny_bind<|wpAny_alloc' ?_;refine wpAny_bind<|wpAny_update' hx₁ ?_;refine wpAny_pure ?_;have hgd:((s.heap.push { cls:=.type "dict",data:=.dict #[] }).update x λo=>{ cls:=o.cls,dict:=some s.heap.objs.size,data:=o.data,slots:=o.slots }).get? s.heap.objs.size
   = some { cls:=.type "dict",data:=.dict #[] }:=
  (Heap.get?_update_ne _ _ _ _ hxs.symm).trans (Heap.get?_push_at rfl rfl)
 have hnd:((s.heap.push { cls:=.type "dict",data:=.dict #[] }).update x λo=>{ cls:=o.cls,dict:=some s.heap.objs.size,data:=o.data,slots:=o.slots }).Ns s.heap.objs.size (λ_=>none):=
  ⟨_,#[],_,hgd,rfl,λe he=>absurd he (by simp),λ_=>rfl⟩
 show wpAny _ _ (Builtin.ObjectAttr.storeInDict s.heap.objs.size (.str name s.toks) name v) _ _ _;unfold Builtin.ObjectAttr.storeInDict Builtin.ObjectAttr.newKeyGuard;refine wpAny_bind<|wpAny_pure<|wpAny_bind (wpAny_nsSet1 (Heap.Ns1.of_empty hnd) λh' hn' hs=>?_);obtain⟨oD,esD,epD,hoD,hdD,hcD⟩:=hn'.count<|PySem.Within.cons name v PySem.Within.nil;refine wpAny_bind<|wpAny_lookBehind hoD (by rw[hdD];exact pastItsLine_dict<|Was hcD (by rw[Wak,Wc1,sizeLine_eq];omega)) ?_;refine wpAny_pure ?_;have hx':h'.get? x=some { cls:=.ref C,dict:=some s.heap.objs.size,data:=.fields vs,slots:=osl }:=(hs.2 x hxs).trans (Wbi _ hx₁ rfl);exact h h' s.heap.objs.size _ hn' hxs.symm (Wb3<|Waf _) hx' λb o hb e=>(hs.2 b<|Wa4<|Wan e).trans ((Heap.get?_update_ne _ _ _ _ hb).trans (Waa _ e))
end
def InsN (a C:Addr) (h:Heap):Prop:=∃t,h.get? a=some { cls:=.ref C,data:=.fields #[.ref t,.none,.none,.none,.bool false,.none] }
def InsW (a C dx:Addr) (h:Heap):Prop:=∃t,h.get? a=some { cls:=.ref C,dict:=some dx,data:=.fields #[.ref t,.none,.none,.none,.bool false,.none] }
structure ExcS (K:W.Frag) (C g:Addr) (f:Str):Prop where
 cl:excInI K C g=true
 ob:PySem.W.mroIn K C (.type "object")=some true
 sa:PySem.W.findIn K (.ref C) "__setattr__" = some (some (.builtin "object.__setattr__"))
 tk:PySem.W.takerIn K C f=some none
 hd:PySem.W.hasDictIn K C=true
def cutH (H:Hp) (a:Addr):Hp:=λb=>if b=a then none else H b
theorem Zf6 {H:Hp}{a:Addr}:cutH H a a=none:=by unfold cutH;rw[if_pos rfl]
theorem Zd9 {H:Hp}{a b:Addr}(h:b≠a):cutH H a b=H b:=by unfold cutH;rw[if_neg h]
section
variable {X:Cx}{pins:List (Addr × Obj)}{σ:St}{H:Hp}{s:Shared}{a:Addr}{o:HO}
theorem Inv.trackN (I:Inv X pins σ H s) (n:Nw X pins H a) (ok:ObjOk X.prog X.w (upd H a o) s.heap a o):Inv X pins σ (upd H a o) s:=by
 have keep:∀b,b≠a->upd H a o b=H b:=λb hb=>Zaj hb;have nn:∀b u,H b=some u->b≠a:=λb u e z=>by subst z;rw[n.trk]at e;cases e
 refine⟨I.ok,I.os,I.bare,⟨I.base.keep,I.base.slot,λb o e q hx=>?_,I.base.there,λb xs e=>?_,λb o u e=>?_,λb ps e=>?_⟩,I.loc,I.cell,?_,λx c e=>?_,λp hp=>?_,λb u e=>?_,I.len⟩
 ·rw[keep b (λz=>by subst z;rw[n.old]at e;cases e)];exact I.base.free b o e q hx
 ·have q:=I.base.tups b xs e
  rw[keep b (nn b _ q)];exact q
 ·have q:=I.base.frzs b o u e
  rw[keep b (nn b _ q)];exact q
 ·obtain⟨m,q⟩:=I.base.tbls b ps e
  exact⟨m,by rw[keep b (nn b _ q)];exact q⟩
 ·rw[keep _ (Ne.symm n.loc)];exact I.free
 ·rw[keep _ (n.cel x c e)];exact I.freeC x c e
 ·obtain⟨e,q,r⟩:=I.pin p hp
  exact⟨e,by rw[keep _ (n.pin p hp)];exact q,r⟩
 ·by_cases hb:b=a
  ·subst hb
   rw[Zal]at e;cases e;exact ok
  ·rw[keep b hb]at e
   refine(I.hok b u e).stay (λc v _ q=>q) (λc q=>?_) λc xs q=>?_
   ·rw[keep c (nn c _ q)];exact q
   ·rw[keep c (nn c _ q)];exact q
theorem Inv.untrackE (I:Inv X pins σ H s) (he:∃ φ,H a=some (.ext φ)):Inv X pins σ (cutH H a) s:=by
 obtain⟨φ,he⟩:=he;have nn:∀b u,H b=some u->(∀ φ,u≠.ext φ)->b≠a:=λb u e z q=>by subst q;rw[he]at e;exact z _ (Wat.inj e).symm
 have nf:∀b,H b=none->cutH H a b=none:=λb e=>by
  by_cases q:b=a
  ·subst q;exact Zf6
  ·rw[Zd9 q];exact e
 refine⟨I.ok,I.os,I.bare,⟨I.base.keep,I.base.slot,λb o e q hx=>nf _<|I.base.free b o e q hx,I.base.there,λb xs e=>?_,λb o u e=>?_,λb ps e=>?_⟩,I.loc,I.cell,nf _ I.free,λx c e=>nf _<|I.freeC x c e,λp hp=>?_,λb u e=>?_,I.len⟩
 ·have q:=I.base.tups b xs e
  rw[Zd9 (nn b _ q λ_ z=>by cases z)];exact q
 ·have q:=I.base.frzs b o u e
  rw[Zd9 (nn b _ q λ_ z=>by cases z)];exact q
 ·obtain⟨m,q⟩:=I.base.tbls b ps e
  exact⟨m,by rw[Zd9 (nn b _ q λ_ z=>by cases z)];exact q⟩
 ·obtain⟨e,q,r⟩:=I.pin p hp
  exact⟨e,nf _ q,r⟩
 ·by_cases hb:b=a
  ·subst hb;rw[Zf6]at e;cases e
  ·rw[Zd9 hb]at e
   refine(I.hok b u e).stay (λc v _ q=>q) (λc q=>?_) λc xs q=>?_
   ·rw[Zd9 (nn c _ q λ_ z=>by cases z)];exact q
   ·rw[Zd9 (nn c _ q λ_ z=>by cases z)];exact q
end
def sRow (K:W.Frag) (ta tv:TE) (f:Str):TS:=λD σ H=>tv σ H λy H1=>ta σ H1 λx H2=>∃a C g,x=.ref a/\H2 a=some (.ext<|InsN a C)/\ExcS K C g f/\∀dx,dx≠a->H2 dx=none->D.nx σ (upd (upd H2 a (.ext<|InsW a C dx)) dx (.xd [(f,y)]))
section
variable {X:Cx}{o value:Expr}{f:Str}{pos pos':Pos}{ta tv:TE}
theorem Zrg (hex:X.ex=[]) (ha:PE X o ta) (hv:PE X value tv) (hs:swapsWith value (some (.Attribute o f pos')) pos.line X.env=pure false):PS X (.Assign [.Attribute o f pos'] value pos) (sRow X.K ta tv f):=by
 intro pins s σ H D I h;refine plainObj_wpAny_Assign_Attribute (thn (hv pins s σ H _ I h) λu s1 ⟨y,H1,I1,ry,q⟩=>thn (ha pins s1 σ H1 _ I1 q) λov s2 ⟨x,H2,I2,rx,a,C,g,ex,ea,z,q2⟩=>?_) hs;subst ex;obtain rfl:ov=Value.ref a:=rx;obtain⟨⟨t,h1⟩,_,_⟩:=I2.hok a _ ea;refine Zqm I2.kIn h1 rfl rfl rfl z.cl z.ob z.sa z.tk z.hd λh' dx tk' e1 e2 e3 e4 e5=>?_;have nd:=Nw.of I2 hex e3;have W:InsW a C dx h':=⟨t,e4⟩;have I3:=I2.write (x:=a) (e:=a) (o:=.ext<|InsW a C dx) (h':=h') (t':=tk') (by rw[ea];exact True.intro) (.inl rfl) e5 ⟨_,e4⟩
  ⟨W,⟨_,e4⟩,λh1' h2' ⟨t,z1⟩ k=>⟨t,k _ z1⟩⟩
 have nd2:Nw X pins (upd H2 a (.ext (InsW a C dx))) dx:=nd.at (by rw[Zaj e2];exact nd.trk);have I4:=I3.trackN (a:=dx) (o:=.xd [(f,y)]) nd2 ⟨_,e1,λg=>by
  show RelO (List.lookup g [(f,y)]) (if g=f then some u else none);unfold List.lookup;by_cases hg:g=f
  ·subst hg;rw[if_pos rfl,beq_self_eq_true];exact ry
  ·rw[if_neg hg,beq_eq_false_iff_ne.mpr hg];exact True.intro⟩
 exact⟨σ,_,I4,q2 dx e2 nd.trk⟩
end
section
variable {M:Model}{A:Around}{E:Value->Shared->Prop}{env:Env}
variable {nm q:Str}{C N:Addr}{bs bm:List Value}{hdct:Bool}{sn:List Str}{sub:List Value}{ab:Bool}{col:Option Bool}{dd:Option Addr}{k0 k1 k2 k3 k5:Option Value}{newId:String}
theorem Zce {s:Shared}{x:Sem Value}{Q:Flow->Shared->Prop}(hbase:bm.contains (.type "BaseException")=true) (hh:A.handled=none)
  (h:wpAny M A x (λv s₁=>∃e dx,v=.ref e/\s₁.heap.get? C=some (excClassObj nm q C N bs bm hdct sn sub ab col dd k0 k1 k2 k3 k5 newId)/\InsW e C dx s₁.heap/\E (.ref e) s₁) E s) :
  wpAny M A (raiseStmt env (some x) none) Q E s:=by
 have hcB:(Value.ref C::bm).contains (.type "BaseException")=true:=by rw[List.contains_cons,hbase,Bool.or_true]
 unfold raiseStmt;refine wpAny_bind (wpAny_mono h (λv s₁ h₁=>?_) λ_ _ x=>x);obtain⟨e,dx,rfl,hC,⟨t,he⟩,hE⟩:=h₁;obtain⟨hp,g,d,tk,os⟩:=s₁
 repeat (first|with_reducible refine wpAny_loadPart_at he ?_|with_reducible refine wpAny_loadPart_at hC ?_|(with_reducible refine wpAny_isSubtype_exc hC ?_;rw[hcB])|wp_step)
 exact wpAny_raiseNew_none hh hE
end
def spI (K:W.Frag) (f:Str):Sp:=λvs H Q _=>∃a C g y,vs=[.ref a,y]/\H a=some (.ext<|InsN a C)/\ExcS K C g f/\∀dx,dx≠a->H dx=none->Q .non (upd (upd H a (.ext<|InsW a C dx)) dx (.xd [(f,y)]))
section
variable {X:Cx}{C f:Addr}{fd:FuncData}{k:Nat}{ps:List Str}{nm:Str}
theorem Zhd {pins:List (Addr × Obj)}{σ:St}{H:Hp}{s:Shared}{u:Value}{y:V}{R:Value->Shared->Prop}(z:ExcS X.K C f nm) (hfn:PySem.W.typeIn X.K (.ref f)=some (.type "function")) (F:FnOk X.prog X.w X.K X.mg X.base CX0 k f fd ps (spI X.K nm)) (hr:Room (k+1) X.A) (hb:Binds X.K fd ps []) (hps:ps.length=2) (hex:X.ex=[])
  (I:Inv X pins σ H s) (r:RelV y u)
  (h:∀a dx s',Inv X pins σ (upd H dx (.xd [(nm,y)])) s' -> InsW a C dx s'.heap->Nw X pins (upd H dx (.xd [(nm,y)])) a->s.heap.get? a=none->H dx=none->dx≠a->R (.ref a) s') :
  wpAny (model X.prog X.w) X.A (call (.ref C) [u]) R X.xe s:=by
 obtain⟨bm,⟨N,nm1,qn,bs,hd,sn,sub,ab,col,dd,k0,k1,k2,k3,k5,mN,o1,o2,o3,o4⟩,_⟩:=Zcr I.kIn z.cl;obtain⟨oI,hl,hc⟩:=Wct.mp hfn;obtain⟨h0,g0,d0,t0,os0⟩:=s;refine Zjx (rest:=[u]) PySem.F.excBase_ValueError o4 o1 o2 o3 (I.kIn _ _ hl) hc (λh' e hm=>?_) (show 1<=sizeLine by decide);have J:Inv X pins σ H ⟨h',g0,d0,t0,os0⟩:=I.kept (t':=t0) hm.keeps;have na:=Nw.of I hex hm.new;obtain⟨t,he,_,_⟩:=hm.there;have I2:=J.trackN (a:=e) (o:=.ext<|InsN e C) ⟨na.old,na.trk,na.loc,na.cel,na.pin⟩ ⟨⟨t,he⟩,⟨_,he⟩,λh1' h2' ⟨t,z1⟩ k=>⟨t,k _ z1⟩⟩;have hq:spI X.K nm [.ref e,y] (upd H e (.ext<|InsN e C)) (λv H2=>v=.non/\∃dx,dx≠e/\H dx=none/\H2=upd (upd (upd H e (.ext<|InsN e C)) e (.ext<|InsW e C dx)) dx (.xd [(nm,y)])) E0:=by
  refine⟨e,C,f,y,rfl,Zal,z,λdx n1 n2=>⟨rfl,dx,n1,?_,rfl⟩⟩;rw[Zaj n1]at n2;exact n2
 have hlen:([Value.ref e,u]++[]).length=ps.length:=by rw[hps];rfl
 refine wpAny_call (codeAny_mono (F.run _ X.stack _ _ ⟨[.ref e,u],[]⟩ [.ref e,u] [.ref e,y] _ E0 (hr.make C [u] []) (I2.env0.make C [u] []) (hb _ [.ref e,u] I2.kIn hlen) (.cons rfl (.cons r .nil)) hq) λr s' hq'=>?_);cases r with
 |error e=>exact hq'.elim
 |ok fl=>
  cases fl with
  |ret v=>
   obtain⟨v,H',I3,rv,ev,dx,n1,n2,rfl⟩:=I2.after hq';subst ev;refine⟨rv,?_⟩;have e1:(upd (upd (upd H e (.ext<|InsN e C)) e (.ext<|InsW e C dx)) dx (.xd [(nm,y)])) e=some (.ext<|InsW e C dx):=by rw[Zaj (Ne.symm n1),Zal]
   have e2:cutH (upd (upd (upd H e (.ext<|InsN e C)) e (.ext<|InsW e C dx)) dx (.xd [(nm,y)])) e=upd H dx (.xd [(nm,y)]):=by
    funext b
    by_cases hb:b=e
    ·subst hb;rw[Zf6,Zaj (Ne.symm n1),na.trk]
    ·rw[Zd9 hb]
     by_cases hd:b=dx
     ·subst hd;rw[Zal,Zal]
     ·rw[Zaj hd,Zaj hd,Zaj hb,Zaj hb]
   have I4:=I3.untrackE ⟨_,e1⟩;rw[e2]at I4;exact h e dx s' I4 (I3.hok e _ e1).1 ⟨na.old,by rw[Zaj (Ne.symm n1)];exact na.trk,na.loc,na.cel,na.pin⟩ hm.new n2 n1
  |next=>exact False.elim hq'
  |brk=>exact False.elim hq'
  |cont=>exact False.elim hq'
end
theorem Zfe (o:Obj) (g:Array Value->Array Value):(o.mapFields g).dict=o.dict:=by
 obtain⟨c,d,data,sl⟩:=o;cases data <;> rfl
def TrcD (dd:Option Addr) (h:Heap) (a C T:Addr):Prop:=
 ∃oe vs oT ts,h.get? a=some oe/\oe.cls=.ref C/\oe.data=.fields vs/\vs[1]?=some (.ref T)/\vs[2]?=some .none/\T≠a/\h.get? T=some oT/\oT.data=.fields ts/\ts[3]?=some .none/\oe.dict=dd
section
variable {X:Cx}{pins:List (Addr × Obj)}{σ:St}{H H':Hp}{s:Shared}{h':Heap}{a C T:Addr}
theorem Inv.notedD {dd:Option Addr}{h0:Heap}{oe:Obj}{vs:Array Value}{hid:List Addr}{T':Addr}(I:Inv X pins σ H s) (hex:X.ex=[]) (na:Nw X pins H a) (new:∀b∈hid,Nw X pins H b) (he:s.heap.get? a=some oe) (hc:oe.cls=.ref C) (hd:oe.data=.fields vs) (h2:vs[2]?=some .none) (hdd:oe.dict=dd)
  (k0:∀b,b ∉ hid->h0.get? b=s.heap.get? b) (hf0:∀b∈hid,∀o,s.heap.get? b=some o->∃ws,o.data=.fields ws) (hn0:∀b,h0.get? b=none->s.heap.get? b=none) (n:Noted h0 h' X.stack a oe T') {h3:Heap}(e3:h3=h'.update T' (Obj.mapFields (·.setIfInBounds 3 .none))) :
  Inv X pins σ H { s with heap:=h3 } /\ TrcD dd h3 a C T' /\ Nw X pins H T':=by
 subst e3;have nT:=Nw.of I hex<|hn0 _ n.new;have ot:∀b,b≠T' -> (h'.update T'<|Obj.mapFields (·.setIfInBounds 3 Value.none)).get? b=h'.get? b:=λb hb=>Wbc _ _<|Ne.symm hb;have hTa:T'≠a:=by rintro rfl;have z:=hn0 _ n.new;rw[he]at z;cases z
 have ne:∀b o,s.heap.get? b=some o->b≠T':=λb o e z=>by subst z;rw[hn0 _ n.new]at e;cases e
 have fl:∀b,b∈a::hid->∀o,s.heap.get? b=some o->∃ws,o.data=.fields ws:=λb hb o e=>by
  rcases Wah.mp hb with rfl|hb
  ·rw[he]at e;cases e;exact⟨vs,hd⟩
  ·exact hf0 b hb o e
 refine⟨I.moved (hid:=a::hid) hex (λb hb=>(Wah.mp hb).elim (λz=>by subst z;exact na) (new b)) (λb o e h1 h2=>?_) λb o e hnf=>?_,?_,nT⟩
 ·have h1a:b≠a:=λz=>h1 (by simp[z])
  have h1b:b ∉ hid:=λz=>h1<|Wal _ z;rw[ot b (ne b o e)];exact n.keep b o ((k0 b h1b).trans e) h1a h2
 ·have hb:b ∉ a::hid:=λz=>by obtain⟨ws,q⟩:=fl b z o e;exact hnf ws q
  have h1a:b≠a:=λz=>hb (by simp[z]);have h1b:b ∉ hid:=λz=>hb<|Wal _ z;obtain⟨sl,q⟩:=n.up b o ((k0 b h1b).trans e) h1a hnf;exact⟨sl,(ot b<|ne b o e).trans q⟩
 ·obtain⟨oT,ts,t1,t2,t3⟩:=n.tb
  have sz:2<vs.size:=(Array.getElem?_eq_some_iff.mp h2).1;refine⟨_,_,_,_,(ot a<|Ne.symm hTa).trans n.exc,(Obj.cls_mapFields _ _).trans hc,Obj.data_mapFields hd _,?_,?_,hTa,Wbi _ t1<|Obj.isFreed_of_fields<|Obj.data_mapFields t2 _,Obj.data_mapFields t2 _,?_,(Zfe _ _).trans hdd⟩
  ·simp[show 1<vs.size by omega]
  ·rw[Array.getElem?_setIfInBounds_ne (by decide)];exact h2
  ·simp[t3]
variable {M:Model}{E:Value->Shared->Prop}{Q:Unit->Shared->Prop}
theorem Znp {dd:Option Addr}(I:Inv X pins σ H s) (hex:X.ex=[]) (hst:X.stack=X.env::X.outer) (hf:X.env.frame=some X.env.locals) (tr:TrcD dd s.heap a C T) (na:Nw X pins H a) (nT:Nw X pins H T)
  (h:∀h' T',Inv X pins σ H { s with heap:=h' } -> TrcD dd h' a C T' -> Nw X pins H T' -> Q () { s with heap:=h' }):wpAny M X.A (noteFrame (.ref a) X.env) (λ_ s2=>wpAny M X.A (setFlight (.ref a) none) Q E s2) E s:=by
 obtain⟨oe,vs,oT,ts,h1,h2,h3,h4,h5,h6,h7,h8,h9,h10⟩:=tr;have hfr:=I.ok.frames;have hl:=I.stack;rw[hst]at hfr hl;have ot:∀b,b≠T->(s.heap.update T (Obj.mapFields (·.setIfInBounds 3 Value.none))).get? b=s.heap.get? b:=λb hb=>Wbc _ _ (Ne.symm hb);refine noteT hfr hl hf h1 h3 h4 h6 h7 h8 h9 λh' T' n=>?_;refine Zjg h3 (Array.getElem?_eq_some_iff.mp h4).1 n ?_;rw[<- hst]at n;obtain⟨J,t1,t2⟩:=I.notedD (hid:=[T]) hex na (λb hb=>by rcases Wah.mp hb with rfl|hb;exact nT;cases hb) h1 h2 h3 h5 h10 (λb hb=>ot b (by simpa using hb)) (λb hb o e=>by
  have hb:b=T:=by simpa using hb
  subst hb;rw[h7]at e;cases e;exact⟨ts,h8⟩) (λb e=>by
   by_cases hb:b=T
   ·subst hb
    rw[Wbi _ h7 (Obj.isFreed_of_fields<|Obj.data_mapFields h8 _)]at e;cases e
   ·exact(ot b hb).symm.trans e) n rfl
 exact h _ T' J t1 t2
theorem Zjw {dx:Addr}(I:Inv X pins σ H s) (hex:X.ex=[]) (hst:X.stack=X.env::X.outer) (hf:X.env.frame=some X.env.locals) (W:InsW a C dx s.heap) (na:Nw X pins H a)
  (h:∀h' T',Inv X pins σ H { s with heap:=h' } -> TrcD (some dx) h' a C T' -> Nw X pins H a->Nw X pins H T' -> Q () { s with heap:=h' }):wpAny M X.A (leaving X.env (.ref a)) Q E s:=by
 obtain⟨t,he⟩:=W;have hfr:=I.ok.frames;have hl:=I.stack;rw[hst]at hfr hl;unfold leaving;refine wpAny_bind (noteN hfr hl hf he rfl rfl λh' T' n=>?_);refine Zjg (vs:=#[.ref t,.none,.none,.none,.bool false,.none]) rfl (show 1<6 by decide) n ?_;rw[<- hst]at n;obtain⟨J2,t1,t2⟩:=I.notedD (hid:=[]) hex na (λb hb=>by cases hb) he rfl rfl rfl rfl (λb _=>rfl) (λb hb=>by cases hb) (λb e=>e) n rfl;exact h _ T' J2 t1 na t2
theorem Zk1 {dd:Option Addr}{A:Around}(I:Inv X pins σ H s) (hex:X.ex=[]) (tr:TrcD dd s.heap a C T) (na:Nw X pins H a) (nT:Nw X pins H T)
  (h:∀h' T',Inv X pins σ H { s with heap:=h' } -> TrcD dd h' a C T' -> Nw X pins H T' -> Q () { s with heap:=h' }):wpAny M A (setFlight (.ref a) none) Q E s:=by
 obtain⟨oe,vs,oT,ts,h1,h2,h3,h4,h5,h6,h7,h8,h9,h10⟩:=tr;have sz:=(Array.getElem?_eq_some_iff.mp h9).1;have ot:∀b,b≠T->(s.heap.update T<|Obj.mapFields (·.setIfInBounds 3 Value.none)).get? b=s.heap.get? b:=λb hb=>Wbc _ _<|Ne.symm hb;refine wpAny_setFlight_none h1 h3 h4 h7 h8 sz<|h _ T ?_ ?_ nT
 ·refine I.moved (hid:=[T]) hex (λb hb=>by rcases Wah.mp hb with rfl|hb;exact nT;cases hb) (λb o e hb _=>(ot b (by simpa using hb)).trans e) (λb o e hnf=>⟨o.slots,(ot b λz=>?_).trans e⟩)
  subst z;rw[h7]at e;cases e;exact hnf ts h8
 ·exact⟨oe,vs,_,_,(ot a<|Ne.symm h6).trans h1,h2,h3,h4,h5,h6,Wbi _ h7<|Obj.isFreed_of_fields<|Obj.data_mapFields h8 _,Obj.data_mapFields h8 _,by simp[sz],h10⟩
end
def CXR (P:Program) (w:World):CXT:=λouter H s E e s'=>
 ∃(a C T dx:Addr) (H':Hp),e=.ref a/\s'.os=s.os/\AllBare s'.gens/\Un (frs outer) [] H H' s.heap s'.heap/\HOk P w H' s'.heap/\H' a=none/\s.heap.get? a=none/\H' T=none/\s.heap.get? T=none/\TrcD (some dx) s'.heap a C T/\E (.ref C) (some dx) H'
def ThrowsR (X:Cx) (E:XK):Prop:=∀(pins:List (Addr × Obj)) (σ:St) (H:Hp) (s:Shared) (a C dx:Addr),Inv X pins σ H s->InsW a C dx s.heap->Nw X pins H a->E (.ref C) (some dx) H->X.xe (.ref a) s
section
variable {P:Program}{w:World}{K:W.Frag}{mg:Str->Option Value}{base:Heap}{N:List Str}{qual:Str}{scope:Scope}{f:Addr}{cd:Value}{A:Around}{outer:List Env}{s0:Shared}{H0:Hp}{E:XK}
theorem Zfx:ThrowsR (cxOf (CXR P w) P w K mg base N qual scope f cd A outer s0 H0 E) E:=λpins σ H s a C dx I W na hE=>by
 refine Zjw I rfl rfl rfl W na λh' T' J2 t1 na t2=>?_;exact⟨a,C,T',dx,H,rfl,J2.os,J2.bare,J2.base,J2.hok,na.trk,na.old,t2.trk,t2.old,t1,hE⟩
end
section
variable {prog:Program}{w:World}{A:Around}{E:Value->Shared->Prop}{s:Shared}{env:Env}
variable {nm q:Str}{C N:Addr}{bs bm:List Value}{hdct:Bool}{sn:List Str}{sub:List Value}{ab:Bool}{col:Option Bool}{dd:Option Addr}{k0 k1 k2 k3 k5:Option Value}{newId:String}
theorem Zht {x:Str}{np cpos pos:Pos}{args:List Expr}{Q:Flow->Shared->Prop}
  (hbase:bm.contains (.type "BaseException")=true) (hh:A.handled=none) (hplain:(backTo cpos<|starEach args env).any (·.1)=false)
  (h:wpAny (model prog w) A (eval (.Name x np) env) (λf s₁=>f=.ref C/\wpAny (model prog w) A (evalArgs (.ref C) true (backTo cpos (starEach args env)) [])
   (λa s₂=>a.kw=[]/\s₂.heap.get? C=some (excClassObj nm q C N bs bm hdct sn sub ab col dd k0 k1 k2 k3 k5 newId) ∧
    wpAny (model prog w) A (call (.ref C) a.pos) (λv s₃=>∃e dx,v=.ref e/\s₃.heap.get? C=some (excClassObj nm q C N bs bm hdct sn sub ab col dd k0 k1 k2 k3 k5 newId)/\InsW e C dx s₃.heap/\E (.ref e) s₃) E s₂) E s₁) E s) :
  wpAny (model prog w) A (exec (.Raise (some (.Call (.Name x np) args [] cpos)) none pos) env) Q E s:=by
 rw[arm_exec_Raise]
 first
  |refine wpAny_bind (wpAny_standAt (Zce (C:=C) (nm:=nm) (q:=q) (N:=N) (bs:=bs) (bm:=bm) (hdct:=hdct) (sn:=sn) (sub:=sub) (ab:=ab) (col:=col) (dd:=dd) (k0:=k0) (k1:=k1) (k2:=k2) (k3:=k3) (k5:=k5) (newId:=newId) hbase hh (wpAny_bind (wpAny_mono (wpAny_Call_ofName (wpAny_mono h (λf s₁ h₁=>?_) λ_ _ x=>x)) (λv s₃ h₃=>wpAny_bind (wpAny_standAt (wpAny_pure h₃))) λ_ _ x=>x))))
  | (simp only[evalOpt,Option.map];refine wpAny_bind (wpAny_standAt (Zce (C:=C) (nm:=nm) (q:=q) (N:=N) (bs:=bs) (bm:=bm) (hdct:=hdct) (sn:=sn) (sub:=sub) (ab:=ab) (col:=col) (dd:=dd) (k0:=k0) (k1:=k1) (k2:=k2) (k3:=k3) (k5:=k5) (newId:=newId) hbase hh (wpAny_bind (wpAny_mono (wpAny_Call_ofName (wpAny_mono h (λf s₁ h₁=>?_) λ_ _ x=>x)) (λv s₃ h₃=>wpAny_bind (wpAny_standAt (wpAny_pure h₃))) λ_ _ x=>x)))))
  | (refine wpAny_bind (wpAny_standAt (Zce (C:=C) (nm:=nm) (q:=q) (N:=N) (bs:=bs) (bm:=bm) (hdct:=hdct) (sn:=sn) (sub:=sub) (ab:=ab) (col:=col) (dd:=dd) (k0:=k0) (k1:=k1) (k2:=k2) (k3:=k3) (k5:=k5) (newId:=newId) hbase hh ?_));refine wpAny_bind (wpAny_mono (wpAny_Call_ofName (wpAny_mono h (λf s₁ h₁=>?_) λ_ _ x=>x)) (λv s₃ h₃=>wpAny_bind (wpAny_standAt (wpAny_pure h₃))) λ_ _ x=>x))
 obtain⟨rfl,h₁⟩:=h₁;unfold callWith;refine wpAny_bind<|wpAny_holding (wpAny_mono h₁ (λa s₂ h₂=>wpAny_bind<|wpAny_standAt ?_) λ_ _ x=>x);obtain⟨apos,akw⟩:=a;obtain⟨hkw,hC,h₂⟩:=h₂;obtain rfl:akw=[]:=hkw;obtain⟨hp,g,d,tk,os⟩:=s₂;simp only[hplain];refine wpAny_bind<|wpAny_keeperOf_exc hC ?_;exact wpAny_bind (wpAny_mono h₂ (λv s₃ h₃=>wpAny_bind<|wpAny_holding<|wpAny_point<|wpAny_pure h₃) λ_ _ x=>x)
end
def tRaiseR (C:Addr) (nm:Str) (E:XK) (t:TA):TS:=λ_ σ H=>t σ H λvs H1=>∃y,vs=[y]/\∀dx,H1 dx=none->E (.ref C) (some dx) (upd H1 dx (.xd [(nm,y)]))
section
variable {X:Cx}{x:Str}{C f:Addr}{fd:FuncData}{k:Nat}{ps:List Str}{nm:Str}{np cpos pos:Pos}{e:Expr}{t:TA}{E:XK}
theorem Zkt (z:ExcS X.K C f nm) (hfn:PySem.W.typeIn X.K (.ref f)=some (.type "function")) (be:PySem.W.mroIn X.K C (.type "BaseException")=some true) (F:FnOk X.prog X.w X.K X.mg X.base CX0 k f fd ps (spI X.K nm)) (hr:Room (k+1) X.A) (hb:Binds X.K fd ps []) (hps:ps.length=2) (hex:X.ex=[])
  (hg:Gl X x) (hm:X.mg x=some (.ref C)) (hh:X.A.handled=none) (ht:ThrowsR X E) (ha:PA X [e] t) (hdb:(x == ("__debug__":Str))=false:=by decide)
  (he:starEach [e] X.env=(false,eval e X.env)::starEach [] X.env:=by rfl) (hpl:(backTo cpos<|starEach [e] X.env).any (·.1)=false:=by rfl):PS X (.Raise (some (.Call (.Name x np) [e] [] cpos)) none pos) (tRaiseR C nm E t):=by
 intro pins s σ H D I h;obtain⟨bm,⟨N,nm1,qn,bs,hd,sn,sub,ab,col,dd,k0,k1,k2,k3,k5,mN,o1,o2,o3,o4⟩,_⟩:=Zcr I.ok.mod.kin z.cl;refine Zht (C:=C) (nm:=nm1) (q:=qn) (N:=N) (bs:=bs) (bm:=bm) (hdct:=hd) (sn:=sn) (sub:=sub) (ab:=ab) (col:=col) (dd:=dd) (k0:=k0) (k1:=k1) (k2:=k2) (k3:=k3) (k5:=k5) (newId:="ValueError.__new__") (o4.hasType rfl) hh hpl ?_;refine Zde I hg hm ⟨rfl,?_⟩ hdb;have e1:backTo cpos (starEach [e] X.env)=(false,eval e X.env)::backTo cpos (starEach [] X.env):=by rw[he];rfl
 rw[e1];refine Calls.evalArgs_plain ?_;rw[<- e1];refine thn (ha cpos pins s σ H _ I h) λus s1 ⟨vs,H1,I1,r,y,ev,q⟩=>?_;subst ev;obtain⟨u,rfl,ru⟩:=r.one;refine⟨rfl,I1.bk _ _ o1,?_⟩;refine Zhd z hfn F hr hb hps hex I1 ru λa dx s' I2 W na hf hn hne=>?_;exact⟨a,dx,rfl,I2.bk _ _ o1,W,ht pins σ _ s' a C dx I2 W na<|q dx hn⟩
end
theorem InsR.c {a C dx:Addr}{h:Heap}(I:InsR a C dx h):InsC a C h:=let ⟨ox,vs,h1,h2,h3,h4,_⟩:=I; ⟨ox,vs,h1,h2,h3,h4⟩
theorem InsR.ok {a C dx:Addr}{P:Program}{w:World}{H:Hp}{h:Heap}(I:InsR a C dx h):ObjOk P w H h a (.ext<|InsR a C dx):=by
 obtain⟨ox,vs,h1,h2,h3,h4,h5⟩:=I;exact⟨⟨ox,vs,h1,h2,h3,h4,h5⟩,⟨_,h1⟩,λh1' h2' ⟨o,ws,z1,z2⟩ k=>⟨o,ws,k _ z1,z2⟩⟩
theorem Ze0 {M:Model}{A:Around}{E:Value->Shared->Prop}{K:W.Frag}{s:Shared}{a C FE f:Addr}{Q:Bool->Shared->Prop}(X:K.In s.heap) (cF:ExcC K FE) (cC:excInI K C f=true) (hm:PySem.W.mroIn K C (.ref FE)=some true) (I:InsC a C s.heap) (hq:Q true s) :
  wpAny M A (excMatches (.ref a) (.ref FE)) Q E s:=by
 obtain⟨h,g,d,t,os⟩:=s;obtain⟨bm,⟨N,nm,qn,bs,hd,sn,sub,ab,col,dd,k0,k1,k2,k3,k5,mN,hC,_⟩,hmro,_⟩:=Zcr X cC;obtain⟨bm',⟨N',nm',qn',bs',hd',sn',sub',ab',col',dd',k0',k1',k2',k3',k5',mN',hF,_,_,oF⟩,_⟩:=Zqk X cF;have hA:=hmro _ _ hm;have hB:(Value.ref FE::bm').contains (.type "BaseException")=true:=by rw[List.contains_cons,oF.hasType (X:="BaseException") (b:=true) rfl,Bool.or_true]
 obtain⟨ox,_,hx,hc,_⟩:=I;have f:=tc_notTuple;unfold excMatches
 repeat (first|(with_reducible refine wpAny_loadPart_at hx ?_;rw[hc])|with_reducible refine wpAny_loadPart_at hF ?_|(with_reducible refine wpAny_isSubtype_exc hF ?_;rw[hB])|(with_reducible refine wpAny_isSubtype_exc hC ?_;rw[hA])|wp_step)
 exact hq
structure CalleeR (P:Program) (w:World) (K:W.Frag) (mg:Str->Option Value) (base:Heap) (k:Nat) (x:Str) (ps:List Str) (sp:Sp):Prop where
 ex:∃f fd,FnOk P w K mg base (CXR P w) k f fd ps sp/\Binds K fd ps []/\W.keepIn K (.ref f)=true/\mg x=some (.ref f)
def tTryR (K:W.Frag) (FE:Addr) (i:Nat) (sp:Sp) (ta:TA) (th:Addr->TS):TS:=λD σ H=>ta σ H λvs H0=>∃E:XK,sp vs H0 (λv H'=>D.rt v H') E/\∀C dx H1,E (.ref C) (some dx) H1->((∃f,excInI K C f=true)/\PySem.W.mroIn K C (.ref FE)=some true) ∧
 ∀a,H1 a=none->th a ⟨λσ' H'=>D.nx (σ'.set i none) H',D.rt,λσ' H'=>D.bk (σ'.set i none) H',λσ' H'=>D.ct (σ'.set i none) H'⟩ (σ.set i<|some (.ref a)) (upd H1 a (.ext<|InsR a C dx))
section
variable {X:Cx}{x y fx:Str}{FE:Addr}{np hpos pos p cp sps:Pos}{b0:Stmt}{hb:List Stmt}{i k:Nat}{ps:List Str}{sp:Sp}{e:Expr}{es:List Expr}{t:TA}{th:Addr->TS}
theorem Zp1 (nd:X.N.Nodup) (hi:X.N[i]?=some y) (hk:X.env.scope.names.lookup y=some .local) (hex:X.ex=[]) (hst:X.stack=X.env::X.outer) (hf:X.env.frame=some X.env.locals) (hg:Gl X x) (hm:X.mg x=some (.ref FE)) (cF:ExcC X.K FE)
  (C:CalleeR X.prog X.w X.K X.mg X.base k fx ps sp) (hr:Room k X.A) (ha:∀(pn:List (Addr × Obj)) (xe:Value->Shared->Prop),PA (XT X pn xe) (e::es) t) (hh:∀a,PSs (XC X a) (b0::hb) (th a))
  (hgf:Gl X fx:=by rfl) (hfn:X.fn y=true\/X.env.scope.names.lookup y=some .local:=by exact .inr rfl)
  (hdb:(x == ("__debug__":Str))=false:=by decide) (hdf:(fx == ("__debug__":Str))=false:=by decide) (he:starEach (e::es) X.env=(false,eval e X.env)::starEach es X.env:=by rfl) (hpl:(backTo cp<|starEach es X.env).any (·.1)=false:=by rfl) :
  PS X (.Try [.Return (some (.Call (.Name fx p) (e::es) [] cp)) sps] [.ExceptHandler (some (.Name x np)) (some y) (b0::hb) hpos] [] [] pos) (tTryR X.K FE i sp t th):=by
 intro pins s σ H D I h;obtain⟨fa,fd,F,b,kp,m⟩:=C.ex;refine wpAny_Try_except ?_
 -- what an exception meets
 let xe:Value->Shared->Prop:=λe s1=>wpAny (model X.prog X.w) X.A (noteFrame e X.env) (λ_ s2=>wpAny (model X.prog X.w) X.A (setFlight e none) (λ_ s3=>wpAny (model X.prog X.w) X.A (handleBy e X.env [.ExceptHandler (some (.Name x np)) (some y) (b0::hb) hpos]) (SP X pins D) X.xe s3) X.xe s2) X.xe s1
 have J0:Inv (XT X (X.pn++pins) xe) [] σ H s:=I.into;have body:wpAny (model X.prog X.w) X.A (execs [.Return (some (.Call (.Name fx p) (e::es) [] cp)) sps] X.env) (SP X pins D) xe s:=by
  refine wpAny_execs_cons ?_;have st:wpAny (model X.prog X.w) X.A (exec (.Return (some (.Call (.Name fx p) (e::es) [] cp)) sps) X.env) (SP X pins D) xe s:=by
   refine wpAny_Return_some ?_;refine wpAny_Call_Name_kw<|Zde (X:=XT X (X.pn++pins) xe) J0 hgf m ?_ hdf;refine PySem.W.callWith_K (h₀:=X.base) I.ok.mod.kin kp (thn (ha (X.pn++pins) xe cp [] s σ H _ J0 h) λus s1 ⟨vs,H1,I1,r,E,q,hE⟩=>⟨I1.kIn,?_⟩) he hpl;have hl:us.length=ps.length:=by rw[<- r.length];exact F.len _ _ _ _ q
   have bd:=b s1 us I1.kIn (by rw[Wba];exact hl);rw[Wba]at bd;refine wpAny_call (codeAny_mono (F.run X.A X.stack s1 H1 ⟨us,[]⟩ us vs _ E hr I1.env0 bd r q) λr s2 hq=>?_);cases r with
   |ok fl=>
    cases fl with
    |ret u=>
     obtain⟨v,H2,I2,r2,q2⟩:=I1.after hq;exact⟨v,σ,H2,Inv.outof I.ok I2,r2,q2⟩
    |next=>exact False.elim hq
    |brk=>exact False.elim hq
    |cont=>exact False.elim hq
   |error ev=>
    obtain⟨a,C,T,dx,H2,rfl,os,bare,un,hok,ha2,hsa,hT,hsT,tr,hE'⟩:=hq;have J1:Inv X pins σ H1 s1:=Inv.outof I.ok I1;have J2:Inv X pins σ H2 s2:=J1.call' (ch:=[]) os un hok bare (λb z=>absurd z<|by simp);have na:=(Nw.of J1 hex hsa).at ha2;have nT:=(Nw.of J1 hex hsT).at hT;obtain⟨⟨⟨fI,cC⟩,mC⟩,hth⟩:=hE C dx H2 hE';refine Znp J2 hex hst hf tr na nT λh3 T3 K3 t3 n3=>?_;have inR:∀{h:Heap}{T:Addr},TrcD (some dx) h a C T->InsR a C dx h:=λq=>by
     obtain⟨oe,vs,oT,ts,q1,q2,q3,_,q4,_,_,_,_,q5⟩:=q;exact⟨oe,vs,q1,q2,q3,q4,q5⟩
    refine wpAny_handleBy_cons (codeAny_handlers_test ?_) (by intro q;cases q);refine Zde (X:=XC X a) (K3.suite a) hg hm ?_ hdb;refine Ze0 (K:=X.K) K3.kIn cF cC mC (inR t3).c ?_;refine codeAny_handlers_suite_as ?_;refine Zk1 K3 hex t3 na n3 λh4 T4 K4 t4 n4=>?_;have K5:=(K4.trackN (a:=a) (o:=.ext<|InsR a C dx) na (inR t4).ok).suite a;refine Zdi (X:=XC X a) (v:=.ref a) K5 nd hi (.inl hk) rfl (λs5 K7=>?_) hfn;refine wpAny_mono (hh a pins s5 _ _ _ K7<|hth a ha2) (λf s6 q=>?_) λ_ _ z=>z.elim;cases f with
    |next=>
     obtain⟨σ',H',K8,q⟩:=q;exact Inv.gone (K8.unsuite I.ok) nd hi hk λs7 K9=>⟨_,H',K9,q⟩
    |brk=>
     obtain⟨σ',H',K8,q⟩:=q;exact Inv.gone (K8.unsuite I.ok) nd hi hk λs7 K9=>⟨_,H',K9,q⟩
    |cont=>
     obtain⟨σ',H',K8,q⟩:=q;exact Inv.gone (K8.unsuite I.ok) nd hi hk λs7 K9=>⟨_,H',K9,q⟩
    |ret u=>
     obtain⟨v,σ',H',K8,r,q⟩:=q;exact Inv.gone (K8.unsuite I.ok) nd hi hk λs7 K9=>⟨v,_,H',K9,r,q⟩
  refine thn st λf s1 q=>?_;cases f with
  |next=>exact wpAny_execs_nil q
  |ret v=>exact q
  |brk=>exact q
  |cont=>exact q
 refine wpAny_mono body (λf s1 hq=>?_) λ_ _ z=>z;cases f with
 |next=>exact wpAny_execs_nil hq
 |brk=>exact hq
 |cont=>exact hq
 |ret u=>exact hq
end
structure ExcIR (K:W.Frag) (C f:Addr):Prop where
 cl:excInI K C f=true
 ga:PySem.W.findIn K (.ref C) "__getattribute__" = some (some (.builtin "BaseException.__getattribute__"))
 gt:PySem.W.findIn K (.ref C) "__getattr__" = some none
 ca:PySem.W.findIn K (.ref C) "__class__" = some (some (.builtin "object.__class__"))
 gs:PySem.W.specialIn K (.builtin "object.__class__") "__get__" = some (some (.builtin "getset_descriptor.__get__"))
 tk:PySem.W.takesIn K (.builtin "object.__class__")=some true
 ob:PySem.W.mroIn K C (.type "object")=some true
 be:PySem.W.mroIn K C (.type "BaseException")=some true
section
variable {prog:Program}{w:World}{A:Around}{E:Value->Shared->Prop}{K:W.Frag}{s:Shared}{a C f:Addr}
theorem Zfp {M:Model}{nameV:Value}{Q:Unit->Shared->Prop}(X:K.In s.heap) (Z:ExcIR K C f) (I:InsC a C s.heap) (hq:Q () s):wpAny M A (checkBuiltinCall "BaseException.__getattribute__" ⟨[.ref a,nameV],[]⟩) Q E s:=by
 obtain⟨h,g,d,t,os⟩:=s;have hk:builtinKind "BaseException.__getattribute__" = some .slot:=by decide +kernel
 have hs:splitId "BaseException.__getattribute__" = some ("BaseException","__getattribute__"):=by decide +kernel
 obtain⟨bm,⟨N,nm,qn,bs,hd,sn,sub,ab,col,dd,k0,k1,k2,k3,k5,mN,hC,o2,o3,o4⟩,hmro,_⟩:=Zcr X Z.cl;have hB:=hmro _ _ Z.be;obtain⟨ox,_,hx,hc,_⟩:=I;have ha:=F.args_bexc_ga (.ref a) nameV;simp only[checkBuiltinCall,hk,hs];refine wpAny_bind ?_;unfold isInstance
 repeat (first|(with_reducible refine wpAny_loadPart_at hx ?_;rw[hc])|(with_reducible refine wpAny_isSubtype_exc hC ?_;rw[hB])|wp_step)
 exact hq
theorem Zjl {Q:Option Value->Shared->Prop}(X:K.In s.heap) (Z:ExcIR K C f) (I:InsC a C s.heap) (h:Q (some (.ref C)) { s with toks:=s.toks+1 }):wpAny (model prog w) A (getAttr? (.ref a) "__class__") Q E s:=by
 obtain⟨hh,g,d,t,os⟩:=s;have L0:=I.ty (M:=model prog w);have L1:=PySem.W.looks_findIn (M:=model prog w) X Z.ga;have L2:=PySem.W.looks_findIn (M:=model prog w) X Z.gt;have L3:PySem.W.Looks (model prog w) hh (Builtin.ObjectAttr.find (.ref a) (.ref C) "__class__") (.bind (.builtin "getset_descriptor.__get__") (.builtin "object.__class__")):=by
  unfold Builtin.ObjectAttr.find;refine(PySem.W.looks_findIn X Z.ca).andThen ((show PySem.W.Looks (model prog w) hh (Builtin.ObjectAttr.getOf<|some (.builtin "object.__class__")) _ from PySem.W.looks_specialIn X Z.gs).andThen ?_);have q:PySem.W.Looks (model prog w) hh (Builtin.ObjectAttr.dataDescriptor? (some (.builtin "object.__class__"))<|some (.builtin "getset_descriptor.__get__")) (some (.builtin "getset_descriptor.__get__",.builtin "object.__class__")):=(PySem.W.looks_takesIn X Z.tk).andThen .now;exact q.andThen<|PySem.W.Looks.tag .now
 have f3:=F.excAttr_ValueError.ga.bind (.ref a);have hx2:(Value.builtin "BaseException.__getattribute__" == Value.builtin "object.__getattribute__")=false:=by decide +kernel
 have hx1:(onTheHeap (Value.ref C) && Value.builtin "BaseException.__getattribute__" == Value.builtin "object.__getattribute__")=false:=by rw[hx2];rfl
 unfold getAttr? getAttrBy? getAttrBy;refine wpAny_bind<|wpAny_mkText<|wpAny_bind<|wpAny_attempt<|wpAny_holding<|wpAny_bind<|L0.at<|wpAny_bind<|L1.at ?_;dsimp only;rw[hx1];rw[if_neg Wai];unfold getAttrByItsOwn hookBefore;rw[if_pos (show onTheHeap (Value.ref C)=true from rfl)];refine wpAny_bind<|L2.at<|wpAny_bind<|wpAny_attempt<|wpAny_holding ?_;unfold callGetattribute;rw[Bool.false_and,if_neg Wai];unfold boundAndCalled;refine wpAny_bind<|wpAny_of_eq f3 ?_;refine wpAny_call<|codeAny_call_builtin F.excAttr_ValueError.ga.plain F.entry_bexc_ga<|Zfp X Z I ?_;unfold Builtin.«object.__getattribute__»;refine wpAny_bind (m:=slotArgs _ _ _)<|wpAny_pure ?_;dsimp only;refine wpAny_bind (m:=Builtin.ObjectAttr.attrName _)<|wpAny_pure ?_;refine wpAny_bind<|L0.at<|wpAny_bind<|L3.at ?_;dsimp only;unfold Builtin.ObjectAttr.bindTo;dsimp only;refine wpAny_bind<|wpAny_holding<|wpAny_call<|Zji (s:=⟨hh,g,d,t+1,os⟩) X I Z.ob<|wpAny_pure ?_;exact PySem.W.handed_on rfl<|wpAny_pure h
theorem Zfc (Z:ExcIR K C f):PySem.W.KitX K (.ref a) (.ref C) (InsC a C) where
 ty:=λ_ _ _ I=>I.ty
 it:=λ_ h X _=>by
  obtain⟨bm,⟨N,nm,qn,bs,hd,sn,sub,ab,col,dd,k0,k1,k2,k3,k5,mN,hC,_⟩,_⟩:=Zcr X Z.cl;intro A' Q' E' s' k q;unfold isType loadHead;exact wpAny_bind<|wpAny_loadPart (k _ _ hC)<|wpAny_pure q
 ne:=λh tp dd its n sl X htp=>by
  obtain⟨bm,⟨N,nm,qn,bs,hd,sn,sub,ab,col,dd',k0,k1,k2,k3,k5,mN,hC,_⟩,_⟩:=Zcr X Z.cl;refine Wcg.mpr λq=>?_;have e:C=tp:=Value.ref.inj<|beq_iff_eq.mp q;subst e;rw[hC]at htp;exact absurd (congrArg Obj.cls<|Wat.inj htp) (by intro z;injection z with z;exact absurd z<|by decide)
 ca:=λX I k=>Zjl X Z I k
theorem Zod {nm:Str}{v:Value}{Q:Value->Shared->Prop}{dx:Addr}{mA:Str->Option Value}(X:K.In s.heap) (Z:ExcIR K C f) (hd:PySem.W.hasDictIn K C=true) (na:PySem.W.findIn K (.ref C) nm=some none) (I:InsR a C dx s.heap) (D:s.heap.Ns1 dx mA) (hm:mA nm=some v) (hv:PySem.W.handedIn v=true) (h:Q v { s with toks:=s.toks+1 }):wpAny (model prog w) A (getAttr (.ref a) nm true) Q E s:=by
 obtain⟨hh,g,d,t,os⟩:=s;have L0:=I.c.ty (M:=model prog w);have L1:=PySem.W.looks_findIn (M:=model prog w) X Z.ga;have L2:=PySem.W.looks_findIn (M:=model prog w) X Z.gt;obtain⟨ox,vs,h1,h2,h3,h4,h5⟩:=I;obtain⟨od,e1,e2⟩:=Zgs D;have Ia:PySem.W.InstAt hh a ox C (some od):=⟨h1,h2,by unfold PySem.W.notCls;rw[h3],by rw[h5];exact e1⟩;obtain⟨cd,hc,hd'⟩:=PySem.W.any_some hd;have L3:PySem.W.Looks (model prog w) hh (Builtin.ObjectAttr.find (.ref a) (.ref C) nm) (.value v):=by
  refine PySem.W.looks_find X Ia ?_;unfold PySem.W.findObj PySem.W.ownOf;rw[hc,Wcs,na,Wcs];dsimp only;rw[Wcs,Wcs];dsimp only;rw[if_pos hd',e2,hm];rfl
 have f3:=F.excAttr_ValueError.ga.bind (.ref a);have hx2:(Value.builtin "BaseException.__getattribute__" == Value.builtin "object.__getattribute__")=false:=by decide +kernel
 have hx1:(onTheHeap (Value.ref C) && Value.builtin "BaseException.__getattribute__" == Value.builtin "object.__getattribute__")=false:=by rw[hx2];rfl
 unfold getAttr getAttrBy;refine wpAny_bind<|wpAny_mkText<|wpAny_holding<|wpAny_bind<|L0.at<|wpAny_bind<|L1.at ?_;dsimp only;rw[hx1];rw[if_neg Wai];unfold getAttrByItsOwn hookBefore;rw[if_pos (show onTheHeap (Value.ref C)=true from rfl)];refine wpAny_bind<|L2.at<|wpAny_bind<|wpAny_attempt<|wpAny_holding ?_;unfold callGetattribute;rw[show (true && onTheHeap (Value.builtin "BaseException.__getattribute__"))=false from rfl,if_neg Wai];unfold boundAndCalled;refine wpAny_bind<|wpAny_of_eq f3 ?_;refine wpAny_call<|codeAny_call_builtin F.excAttr_ValueError.ga.plain F.entry_bexc_ga<|Zfp X Z ⟨ox,vs,h1,h2,h3,h4⟩ ?_;unfold Builtin.«object.__getattribute__»;refine wpAny_bind (m:=slotArgs _ _ _)<|wpAny_pure ?_;dsimp only;refine wpAny_bind (m:=Builtin.ObjectAttr.attrName _)<|wpAny_pure ?_;refine wpAny_bind<|L0.at<|wpAny_bind<|L3.at ?_;dsimp only;refine wpAny_pure ?_;exact PySem.W.handed_on hv h
end
def rIsiR (K:W.Frag):List V->Hp->VK->Prop:=λxs H Q=>∃a C b φ f,H a=some (.ext φ)/\(∀h,φ h->InsC a C h)/\ExcIR K C f/\Q (.bl b) H ∧
 ((∃c,xs=[.ref a,.ref c]/\PySem.W.kitOne K (.ref C) (.ref c)=some b)\/(∃t,xs=[.ref a,.ty t]/\PySem.W.kitOne K (.ref C) (.type t)=some b) ∨
  ∃(p:Addr) (cs:List Addr),xs=[.ref a,.ref p]/\H p=some (.tup (cs.map V.ref))/\PySem.W.kitAny K (.ref C) (cs.map Value.ref)=some b)
section
variable {X:Cx}
theorem isiRK (K:W.Frag) (hK:X.K=K:=by rfl):CallR X (.builtin "isinstance") (rIsiR K):=by
 subst hK;intro pins s σ H xs us Q I r h;obtain⟨a,C,b,φ,f,ha,hφ,Z,q,h⟩:=h;have hi:=hφ _ (I.hok a _ ha).1;rcases h with ⟨c,rfl,e⟩|⟨t,rfl,e⟩|⟨p,cs,rfl,hp,e⟩
 ·obtain⟨u,u',rfl,rx,rn⟩:=vals2 r
  cases (show u=Value.ref a from rx);cases (show u'=Value.ref c from rn);exact PySem.W.kia_one (Zfc Z) I.kIn hi e (λz=>nomatch z) λtk=>⟨.bl b,H,I.tok _,rfl,q⟩
 ·obtain⟨u,u',rfl,rx,rn⟩:=vals2 r
  cases (show u=Value.ref a from rx);cases (show u'=Value.type t from rn);exact PySem.W.kia_one (Zfc Z) I.kIn hi e (λz=>nomatch z) λtk=>⟨.bl b,H,I.tok _,rfl,q⟩
 ·obtain⟨u,u',rfl,rx,rn⟩:=vals2 r
  cases (show u=Value.ref a from rx);cases (show u'=Value.ref p from rn);obtain⟨_,its,rv,o,ho,⟨hc,n,hd⟩,hdd⟩:=I.hok p _ hp;have hv:∀(ns:List Addr) (its:List Value),Vals (ns.map V.ref) its->its=ns.map Value.ref:=by
   intro ns
   induction ns with
   |nil=>intro its h;cases h;rfl
   |cons b r ih=>intro its h;cases h with|cons h1 h2=>cases (show _=Value.ref b from h1);rw[ih _ h2];rfl
  have e2:=hv cs its rv;subst e2;obtain⟨cls,dd,data,sl⟩:=o;simp only at hc hd hdd;subst hc hd hdd;exact PySem.W.kia_tup (Zfc Z) I.kIn hi ho e (λz=>nomatch z) λtk=>⟨.bl b,H,I.tok _,rfl,q⟩
end
section
variable {K:W.Frag}{Δ:Evt}
theorem Zj8 {a C c f:Addr}{i:Int}{b:Bool}{P:D->Evt->Prop}(Z:ExcIR K C f) (e:PySem.W.kitOne K (.ref C) (.ref c)=some b) (p:P (.bl b) Δ):JC K (rIsiR K) [.excR a C i,.adr c] Δ P:=λg G H σ Q vs k rs q=>by
 obtain⟨_,_,rfl,r,t⟩:=rs.inv
 next=>
  obtain⟨_,_,rfl,r',t⟩:=t.inv
  next=>
   cases t.inv;obtain⟨rfl,dx,ha,hb⟩:=r.inv
   next=>
    cases r'.inv;exact⟨_,C,b,_,f,k.live _ _ ha,λ_ h=>h.c,Z,q _ _ G H Δ k (Same.refl _) (.bl b) p,.inl ⟨c,rfl,e⟩⟩
theorem Ziw {a C f:Addr}{i:Int}{n:String}{b:Bool}{P:D->Evt->Prop}(Z:ExcIR K C f) (e:PySem.W.kitOne K (.ref C) (.type n)=some b) (p:P (.bl b) Δ):JC K (rIsiR K) [.excR a C i,.ty n] Δ P:=λg G H σ Q vs k rs q=>by
 obtain⟨_,_,rfl,r,t⟩:=rs.inv
 next=>
  obtain⟨_,_,rfl,r',t⟩:=t.inv
  next=>
   cases t.inv;obtain⟨rfl,dx,ha,hb⟩:=r.inv
   next=>
    cases r'.inv;exact⟨_,C,b,_,f,k.live _ _ ha,λ_ h=>h.c,Z,q _ _ G H Δ k (Same.refl _) (.bl b) p,.inr (.inl ⟨n,rfl,e⟩)⟩
end
def EWR (E:XK) (Xp:Addr->Int->Prop) (g:Gm):Prop:=∀C i dx H',(∀b o,¬ g.B b->g.Hz b=some o->H' b=some o)->(∀b,g.B b->H' b≠none)->Same g.F H' -> (∀b o,g.Xo b=some o->H' b=some o)->g.Hz dx=none->H' dx=some (.xd [("row",.int i)])->Xp C i->E (.ref C) (some dx) H'
def JXR (K:W.Frag) (E:XK) (Xp:Addr->Int->Prop) (t:TS) (Δ:Evt) (P:Pst):Prop:=∀g G H σ D,EWR E Xp g->Ok K g G H σ Δ -> SCont K g P D->t D σ H
abbrev XRSp:=List D->(D->Prop)->(Addr->Int->Prop)->Prop
def spXR (K:W.Frag) (f:XRSp):Sp:=λvs H Q E=>∃F ds Post Xp,Same F H/\Reps K F vs ds/\f ds Post Xp/\(∀r H' d,Same H H' -> Rep K (glue F H H') r d->Post d->Q r H')/\∀C i dx H',Same H H' -> H dx=none->H' dx=some (.xd [("row",.int i)])->Xp C i->E (.ref C) (some dx) H'
section
variable {K:W.Frag}{Δ:Evt}{E:XK}{Xp:Addr->Int->Prop}{nx bk ct:Evt->Prop}{rt:D->Evt->Prop}{ro:OD->Evt->Prop}
theorem EWR.at {g:Gm}{G H H':Hp}{σ:St}{C dx:Addr}{i:Int}(w:EWR E Xp g) (k:Ok K g G H σ Δ) (s:Same H H') (hn:H dx=none) (hd:H' dx=some (.xd [("row",.int i)])) (x:Xp C i):E (.ref C) (some dx) H':=
 w C i dx H' (λb o hb e=>s b o (k.same b o hb e)) (λb hb z=>by
  cases q:H b with
  |none=>exact k.lent b hb q
  |some o=>rw[s b o q]at z;cases z) (λb o e=>s b o (k.live b o (k.sub b o e))) (λb o e=>s b o (k.ext b o e).1) (by
  cases q:g.Hz dx with
  |none=>rfl
  |some o=>
   by_cases hb:g.B dx
   ·exact absurd hn<|k.lent dx hb
   ·rw[k.same dx o hb q]at hn;cases hn) hd x
theorem Znl {f:XRSp}{n:Nat}(h:∀ds Post Xp,f ds Post Xp->ds.length=n):∀vs H Q E,spXR K f vs H Q E->vs.length=n:=λvs H Q E hq=>by
 obtain⟨F,ds,Post,Xp,l,rs,hf,q⟩:=hq;rw[rs.length];exact h ds Post Xp hf
theorem Zrj {f:XRSp}{t:TS}{N:List Str}{vs:List V}{H:Hp}{Q:VK}(ht:∀ds Post Xp,f ds Post Xp->ds.length<=N.length/\JXR K E Xp t (startD N ds) ⟨λ_=>Post .non,λd _=>Post d,λ_=>False,λ_=>False,λ_ _=>False⟩) (h:spXR K f vs H Q E) :
  t { nx:=λ_ H'=>Q .non H',rt:=Q } (start N vs) H:=by
 obtain⟨F,ds,Post,Xp,l,rs,hf,q,x⟩:=h;obtain⟨hl,hj⟩:=ht ds Post Xp hf;have fin:∀{v:V}{d:D}{σ:St}{G H':Hp}{Δ:Evt},Ok K ⟨λ_=>False,F,H,λ_=>none⟩ G H' σ Δ -> Rep K G v d->Post d->Q v H':=λ{v d σ G H' Δ} k r p=>by
  refine q v H' d (λb o e=>k.same b o (λz=>z) e) (r.mono λb o e=>?_) p;obtain⟨e1,e2⟩:=k.frz b o e;rcases e2 with z|z
  ·rw[Zc8 z];exact e1
  ·rw[Zcs (l b o z)];exact z
 refine hj ⟨λ_=>False,F,H,λ_=>none⟩ F H (start N vs) _ (λC i dx H' h1 _ _ _ hz hd xc=>x C i dx H' (λb o e=>h1 b o (λz=>z) e) hz hd xc) (Zej rs hl (λ_ _ _ e=>e) (λ_ z=>z.elim) (Same.refl _) (λb o e=>⟨l b o e,.inr e⟩) λ_=>rfl) ⟨λσ G H' Δ k p=>fin k .non p,λv d σ G H' Δ k r p=>fin k r p,λ_ _ _ _ _ z=>z.elim,λ_ _ _ _ _ z=>z.elim,λ_ _ _ _ _ _ _ _ z=>z.elim⟩
theorem Zp4 {t u:TS}(h:JXR K E Xp t Δ ⟨λΔ1=>JXR K E Xp u Δ1 ⟨nx,rt,bk,ct,ro⟩,rt,bk,ct,ro⟩):JXR K E Xp (tSeq t u) Δ ⟨nx,rt,bk,ct,ro⟩:=λg G H σ D w k c=>
 h g G H σ _ w k ⟨λσ1 G1 H1 Δ1 k1 p1=>p1 g G1 H1 σ1 D w k1 c,c.rt,c.bk,c.ct,c.ro⟩
theorem Zss {c:TT}{t u:TS}{P:Pst}(h:JT K c Δ λb Δ1=>if b=true then JXR K E Xp t Δ1 P else JXR K E Xp u Δ1 P):JXR K E Xp (tIfS c t u) Δ P:=λg G H σ D w k q=>
 h g G H σ _ k λb G1 H1 Δ1 k1 s1 p1=>by
  cases b with
  |true=>exact(show JXR K E Xp t Δ1 P from p1) g G1 H1 σ D w k1 q
  |false=>exact(show JXR K E Xp u Δ1 P from p1) g G1 H1 σ D w k1 q
theorem Zkh {C:Addr}{ta:TA}{P:Pst}(h:JA K ta Δ λds Δ1=>∃i,ds=[.int i]/\Xp C i):JXR K E Xp (tRaiseR C "row" E ta) Δ P:=λg G H σ D w k q=>
 h g G H σ _ k λvs ds G1 H1 Δ1 k1 s1 r1 ⟨i,e,x⟩=>by
  subst e;obtain⟨v,_,rfl,rv,t⟩:=r1.inv;cases t.inv;cases rv.inv;exact⟨.int i,rfl,λdx hn=>w.at k1 (λb o e=>by rw[Zaj (Zak e hn)];exact e) hn Zal x⟩
end
section
variable {K:W.Frag}{Δ:Evt}{nx bk ct:Evt->Prop}{rt:D->Evt->Prop}{ro:OD->Evt->Prop}
theorem Zqt {FE:Addr}{i:Nat}{f:XRSp}{ta:TA}{th:Addr->TS}(h:JA K ta Δ λds Δ1=>i < Δ1.length/\f ds (λd=>rt d Δ1) λC r=>((∃fI,excInI K C fI=true)/\PySem.W.mroIn K C (.ref FE)=some true)/\∀a,JS K (th a) (Δ1.set i (.val (.excR a C r))) ⟨λΔ2=>nx (Δ2.set i .any),rt,λΔ2=>bk (Δ2.set i .any),λΔ2=>ct (Δ2.set i .any),ro⟩) :
  JS K (tTryR K FE i (spXR K f) ta th) Δ ⟨nx,rt,bk,ct,ro⟩:=λg G H σ D k c=>
 h g G H σ _ k λvs ds G1 H1 Δ1 k1 s1 r1 ⟨hi,hf⟩=>by
  refine⟨λv dd H'=>∃C dx r,v=.ref C/\dd=some dx/\H1 dx=none/\H' dx=some (.xd [("row",.int r)])/\Same H1 H' /\ ((∃fI,excInI K C fI=true)/\PySem.W.mroIn K C (.ref FE)=some true)/\∀a,JS K (th a) (Δ1.set i (.val (.excR a C r))) ⟨λΔ2=>nx (Δ2.set i .any),rt,λΔ2=>bk (Δ2.set i .any),λΔ2=>ct (Δ2.set i .any),ro⟩,⟨G1,ds,_,_,k1.live,r1,hf,λr H' d sh rr pd=>?_,λC r dx H' sh hn hd x=>⟨C,dx,r,rfl,rfl,hn,hd,sh,x⟩⟩,?_⟩
  ·have sg:=Zdj (H':=H') k1.live
   exact c.rt _ d _ _ H' Δ1 (k1.grow sg sh (Zer k1.live λb o _ e=>sh b o e)) rr pd
  ·rintro C dx H2 ⟨C',dx',r,e,e',hn,hd,sh,hx,hth⟩
   cases e;cases e';refine⟨hx,λa ha=>?_⟩;have sg:=Zdj (H':=H2) k1.live;have k2:=k1.grow sg sh (Zer k1.live λb o _ e=>sh b o e);have g2:glue G1 H1 H2 dx=some (.xd [("row",.int r)]):=by rw[Zc8 hn];exact hd
   obtain⟨k3,sg3⟩:=k2.laid ha (.ext<|InsR a C dx);have k4:=k3.setVal (i:=i) hi (.excR Zal<|sg3 _ _ g2);exact hth a g _ _ _ _ k4 ⟨λσ' G' H' Δ' k' p=>c.nx _ G' H' _ (k'.unset i) p,c.rt,λσ' G' H' Δ' k' p=>c.bk _ G' H' _ (k'.unset i) p,λσ' G' H' Δ' k' p=>c.ct _ G' H' _ (k'.unset i) p,c.ro⟩
end
def tRowR (K:W.Frag) (ta:TE) (nm:Str):TE:=λσ H Q=>ta σ H λx H1=>∃a C f dx i,x=.ref a/\H1 a=some (.ext<|InsR a C dx)/\H1 dx=some (.xd [(nm,.int i)])/\ExcIR K C f/\PySem.W.hasDictIn K C=true/\PySem.W.findIn K (.ref C) nm=some none/\Q (.int i) H1
theorem Zka {X:Cx}{e:Expr}{f:Str}{pos:Pos}{ta:TE}(he:PE X e ta) (hb:attributeBase e f X.env (eval e X.env)=eval e X.env):PE X (.Attribute e f pos) (tRowR X.K ta f):=by
 intro pins s σ H Q I h;refine Zpz hb (thn (he pins s σ H _ I h) λu s1 ⟨x,H1,I1,rx,a,C,fI,dx,i,ex,ea,ed,Z,hd,na,q⟩=>?_);subst ex;obtain rfl:u=Value.ref a:=rx;obtain⟨mA,D,r⟩:=I1.hok dx _ ed;have hr:=r f;rw[List.lookup_cons_self]at hr;cases hm:mA f with
 |none=>rw[hm]at hr;exact hr.elim
 |some u'=>
  rw[hm]at hr;obtain⟨tk,rfl⟩:=(show ∃t,u'=Value.int i t from hr);exact Zod I1.kIn Z hd na (I1.hok a _ ea).1 D hm rfl ⟨.int i,H1,I1.tok _,⟨_,rfl⟩,q⟩
theorem Zj5 {K:W.Frag}{Δ:Evt}{P:D->Evt->Prop}{te:TE}(h:JE K te Δ λd Δ1=>∃a C i f,d=.excR a C i/\ExcIR K C f/\PySem.W.hasDictIn K C=true/\PySem.W.findIn K (.ref C) "row" = some none/\P (.int i) Δ1):JE K (tRowR K te "row") Δ P:=λg G H σ Q k c=>
 h g G H σ _ k λv d G1 H1 Δ1 k1 s1 r1 ⟨a,C,i,f,e,Z,hd,na,p⟩=>by
  subst e;obtain⟨rfl,dx,ha,hb⟩:=r1.inv;exact⟨a,C,f,dx,i,rfl,k1.live _ _ ha,k1.live _ _ hb,Z,hd,na,c _ _ G1 H1 Δ1 k1 s1 (.int i) p⟩
section
variable {P:Program}{w:World}{K:W.Frag}{mg:Str->Option Value}{base:Heap}
theorem Fun.okR {x qual:Str}{st:Stmt}{f:Addr}{fd:FuncData}{N ps:List Str}{k:Nat}{sp:Sp}(F:Fun K x qual st f fd) (S:FnScope N ps (defScope st)) (len:∀vs H Q E,sp vs H Q E->vs.length=ps.length)
  (hbody:∀(cdv:Value) (A:Around) (outer:List Env) (s:Shared) (H:Hp) (vs:List V) (Q:VK) (E:XK),Room k (A.deeper (envOfC qual (defScope st) s.heap.objs.size f cdv))->sp vs H Q E →
   ∃t,PSs (cxOf (CXR P w) P w K mg base N qual (defScope st) f cdv A outer s H E) (defBody st) t/\t { nx:=λ_ H'=>Q .non H',rt:=Q } (start N vs) H):FnOk P w K mg base (CXR P w) (k+1) f fd ps sp:=by
 obtain⟨oc,od,kV,doc,pm,an,cdv,ct,osl,rfl,lk,hcd⟩:=F.ex;exact Zst lk hcd S len λA outer s H vs Q E hr hsp=>hbody cdv A outer s H vs Q E hr hsp
structure NoTx (P:Program) (w:World) (K:W.Frag) (mg:Str->Option Value) (base:Heap) (x:Str) (C f:Addr):Prop where
 nm:mg x=some (.ref C)
 z:ExcS K C f "row"
 fn:PySem.W.typeIn K (.ref f)=some (.type "function")
 be:PySem.W.mroIn K C (.type "BaseException")=some true
 kp:W.keepIn K (.ref C)=true
 fd:∃fd ps,FnOk P w K mg base CX0 1 f fd ps (spI K "row")/\Binds K fd ps []/\ps.length=2
end
def tMakeN (C:Addr) (t:TA):TE:=λσ H Q=>t σ H λvs H1=>∃i,vs=[.int i]/\∀a dx,H1 a=none->H1 dx=none->a≠dx->Q (.ref a) (upd (upd H1 dx (.xd [("row",.int i)])) a (.ext<|InsR a C dx))
section
variable {X:Cx}{x:Str}{C f:Addr}{np cpos pos:Pos}{e:Expr}{t:TA}{E:XK}
theorem Zex (n:NoTx X.prog X.w X.K X.mg X.base x C f) (hr:Room 2 X.A) (hex:X.ex=[]) (hg:Gl X x) (hh:X.A.handled=none) (ht:ThrowsR X E) (ha:PA X [e] t) (hdb:(x == ("__debug__":Str))=false:=by decide)
  (he:starEach [e] X.env=(false,eval e X.env)::starEach [] X.env:=by rfl) (hpl:(backTo cpos<|starEach [e] X.env).any (·.1)=false:=by rfl):PS X (.Raise (some (.Call (.Name x np) [e] [] cpos)) none pos) (tRaiseR C "row" E t):=by
 obtain⟨fd,ps,F,hb,hps⟩:=n.fd;exact Zkt n.z n.fn n.be F hr hb hps hex hg n.nm hh ht ha hdb he hpl
theorem Zn6 (n:NoTx X.prog X.w X.K X.mg X.base x C f) (hr:Room 2 X.A) (hex:X.ex=[]) (hg:Gl X x) (ha:PA X [e] t) (hdb:(x == ("__debug__":Str))=false:=by decide)
  (he:starEach [e] X.env=(false,eval e X.env)::starEach [] X.env:=by rfl) (hpl:(backTo pos<|starEach [] X.env).any (·.1)=false:=by rfl):PE X (.Call (.Name x np) [e] [] pos) (tMakeN C t):=by
 intro pins s σ H Q I h;obtain⟨fd,ps,F,hb,hps⟩:=n.fd;refine wpAny_Call_Name_kw<|Zde I hg n.nm ?_ hdb;refine PySem.W.callWith_K (h₀:=X.base) I.ok.mod.kin n.kp (thn (ha pos pins s σ H _ I h) λus s1 ⟨vs,H1,I1,r,i,ev,q⟩=>⟨I1.kIn,?_⟩) he hpl;subst ev;obtain⟨u,rfl,ru⟩:=r.one;refine Zhd n.z n.fn F hr hb hps hex I1 ru λa dx s' I2 W na hf hn hne=>?_;obtain⟨t0,hw⟩:=W;have R:InsR a C dx s'.heap:=⟨_,_,hw,rfl,rfl,rfl,rfl⟩;have ha1:H1 a=none:=I1.hok.noneAt hf;exact⟨.ref a,_,I2.trackN (a:=a) (o:=.ext<|InsR a C dx) na R.ok,rfl,q a dx ha1 hn<|Ne.symm hne⟩
end
theorem Znc {K:W.Frag}{Δ:Evt}{P:D->Evt->Prop}{C:Addr}{ta:TA}(h:JA K ta Δ λds Δ1=>∃i,ds=[.int i]/\∀a,P (.excR a C i) Δ1):JE K (tMakeN C ta) Δ P:=λg G H σ Q k c=>
 h g G H σ _ k λvs ds G1 H1 Δ1 k1 s1 r1 ⟨i,e,p⟩=>by
  subst e;obtain⟨v,_,rfl,rv,t⟩:=r1.inv;cases t.inv;cases rv.inv;refine⟨i,rfl,λa dx ha hd hne=>?_⟩;obtain⟨k2,sg2⟩:=k1.laid hd (.xd [("row",.int i)]);obtain⟨k3,sg3⟩:=k2.laid (p:=a) (by rw[Zaj hne];exact ha) (.ext<|InsR a C dx);exact c _ _ _ _ Δ1 k3 (s1.trans<|sg2.trans sg3) (.excR Zal<|sg3 _ _ Zal)<|p a
def ItrR (xa:Addr) (lo:Int) (n:Nat):It:=⟨λi _=>i<n,λi H x H'=>H'=H/\x=.int (lo+i),λi H=>n<=i/\∃C dx,H xa=some (.ext<|InsR xa C dx)⟩
def iRngR (xa:Addr) (ta:TA):TI:=λσ H R=>ta σ H λvs H1=>∃j:Int,vs=[.int j] /\ -(2 ^ 62)<=j/\j<2 ^ 62/\R (ItrR xa 0 j.toNat) H1
theorem Zhw {P:Program}{w:World}{K:W.Frag}{tg:Expr}(xa it:Addr) (lo:Int) (n:Nat):TurnH xa P w K tg (ItrR xa lo n) [it] it (λi h=>IsRangeIter h it (lo+(i:Nat)*1) ((n:Int)-(i:Nat)) 1) where
 mem:=by simp
 obj:=λi h st b hb=>by
  have e:b=it:=by simpa using hb
  subst e;exact⟨_,st,λv z=>by
   have z':Data.fields _=Data.cell v:=z;cases z'⟩
 keep:=λi h h' st k=>k it (by simp) _ st
 item:=by
  intro X hP hw hK hc i pins s σ H E I hf st hg;subst hP hw hK;obtain⟨f0,f1,f2,f3,f4,f5⟩:=hf it (by simp);have hg:i<n:=hg;refine wpAny_pyNext_range_item st (by omega) λh' st' sb=>?_;have I1:Inv X pins σ H { s with heap:=h',toks:=s.toks+1 }:=I.turned (λb o hb e=>(sb.2 b hb).trans e) f0 f1 f3 f4 f5;have e1:lo+((i+1:Nat):Int)*1=lo+(i:Int)*1+1:=by omega
  have e2:(n:Int)-((i+1:Nat):Int)=(n:Int)-(i:Int)-1:=by omega
  refine⟨_,rfl,Zkd (s:={ s with heap:=h',toks:=s.toks+1 }) (n:="range_iterator") st' rfl rfl (by decide) ⟨.int<|lo+i,H,I1,⟨_,by rw[Int.mul_one]⟩,⟨rfl,rfl⟩,by rw[e1,e2];exact st',λb hb=>(hf b hb).1⟩⟩
 done:=by
  intro X hP hw hK hc i pins s σ H E I hf st hg;subst hP hw hK;obtain⟨f0,f1,f2,f3,f4,f5⟩:=hf it (by simp);obtain⟨hg,C,dx,hC⟩:=hg;obtain⟨⟨ox,vs,q1,q2,q3,q4,_⟩,_⟩:=I.hok xa _ hC;exact Zjz hc q1 q3 q4 st (by omega) λh' eb=>⟨rfl,I.turned (t':=s.toks) (λb o hb e=>eb b o hb e) f0 f1 f3 f4 f5⟩
 self:=λ_ _ _ _ _ st h=>wpAny_pyIter_rangeiter st h
section
variable {X:Cx}{xa:Addr}{tg:Expr}
theorem Zlj {pins:List (Addr × Obj)}{σ:St}{H:Hp}{s:Shared}{R:It->Hp->Prop}{E:Value->Shared->Prop}{lo hi:Int}{t u v:Tok}{tk:Nat}(I:Inv X pins σ H s) (h1:-(2 ^ 62)<=lo) (h2:lo<2 ^ 62) (h3:-(2 ^ 62)<=hi) (h4:hi<2 ^ 62)
  (q:R (ItrR xa lo (hi-lo).toNat) H):wpAny (model X.prog X.w) X.A (pyIter (.ref s.heap.objs.size)) (PIEH xa X pins σ tg R) E { s with heap:=s.heap.push { cls:=.type "range",data:=.fields #[.int lo t,.int hi u,.int 1 v] },toks:=tk }:=by
 refine wpAny_pyIter_range (IsRange.new ..) (small_one h1 h2 h3 h4) ?_;have I1:Inv X pins σ H { s with heap:=s.heap.push { cls:=.type "range",data:=.fields #[.int lo t,.int hi u,.int 1 v] },toks:=tk }:=I.kept λb o e=>Waa _ e;refine⟨(s.heap.push { cls:=.type "range",data:=.fields #[.int lo t,.int hi u,.int 1 v] }).objs.size,[(s.heap.push { cls:=.type "range",data:=.fields #[.int lo t,.int hi u,.int 1 v] }).objs.size],_,_,H,rfl,
  I1.kept (t':=tk) λb o e=>Waa _ e,Zhw xa _ lo (hi-lo).toNat,?_,λb hb=>?_,q⟩
 ·have e1:lo+((0:Nat):Int)*1=lo:=by simp
  have e2:(((hi-lo).toNat:Nat):Int)-((0:Nat):Int)=Builtin.Range.rangeSize lo hi 1:=by rw[rangeSize_one];split <;> omega
  show IsRangeIter _ _ (lo+((0:Nat):Int)*1) ((((hi-lo).toNat:Nat):Int)-((0:Nat):Int)) 1;rw[e1,e2];exact Wag _ rfl
 ·have e:b=(s.heap.push { cls:=.type "range",data:=.fields #[.int lo t,.int hi u,.int 1 v] }).objs.size:=by simpa using hb
  subst e;exact I1.fpOk (Waf _)<|I1.hok.fresh<|Waf _
theorem Zj0 {a:Expr}{ta:TA}{p pos:Pos}(hg:Gl X "range") (hm:X.mg "range" = none) (ha:PA X [a] ta) (hs:starEach [a] X.env=[(false,eval a X.env)]:=by rfl):PIH xa X tg (.Call (.Name "range" p) [a] [] pos) (iRngR xa ta):=by
 intro pins s σ H R I h;refine Call_<|Zd2 I hg hm boot_range<|PyProof.Rows.callWith_type1 (thn (ha pos pins s σ H _ I h) λus s1 ⟨vs,H1,I1,r1,q1⟩=>?_) hs rfl;obtain⟨j,e,q1,q2,q⟩:=q1;subst e;cases r1 with
 |cons r rr=>
  cases rr;obtain⟨t,rfl⟩:=r;exact call_range_1<|Zlj I1 (by omega) (by omega) q1 q2 (by simpa using q)
end
section
variable {K:W.Frag}{Δ:Evt}
theorem Zkw {G:Hp}{xa C dx:Addr}(hC:G xa=some (.ext<|InsR xa C dx)) (lo:Int) (n:Nat):ItOk K G (ItrR xa lo n) (rngD lo n):=λG1 H1 sg sh=>by
 refine⟨⟨by rw[Zbf];exact Waf _,C,dx,sh _ _<|sg _ _ hC⟩,λi d e=>?_⟩;obtain⟨h1,h2⟩:=Zcf e;subst h2;refine⟨h1,λx H2 ⟨e2,y2⟩=>⟨G1,Same.refl _,by rw[e2];exact Same.refl _,λb o q=>⟨by rw[e2];exact sh b o q,.inl q⟩,?_⟩⟩;subst y2;exact .int _
theorem Zkn {i:Nat}{xa C:Addr}{r:Int}{ta:TA}{P:List D->Evt->Prop}(h:JA K ta Δ λds Δ1=>Δ1[i]?=some (.val (.excR xa C r))/\∃n:Int,ds=[.int n] /\ -(2 ^ 62)<=n/\n<2 ^ 62/\P (rngD 0 n.toNat) Δ1):JI K (iRngR xa ta) Δ P:=λg G H σ R k c=>
 h g G H σ _ k λvs ds G1 H1 Δ1 k1 s1 r1 hq=>by
  obtain⟨hx,n,e,h1,h2,p1⟩:=hq;subst e;obtain⟨v,q1,q2⟩:=k1.val i _ hx;obtain⟨rfl,dx,hC,_⟩:=q2.inv;obtain⟨v2,_,rfl,ra,rr⟩:=r1.inv;cases rr.inv;cases ra.inv;exact⟨n,rfl,h1,h2,c _ _ G1 H1 Δ1 k1 s1 (Zkw hC 0 _) p1⟩
end
def d1S (x y:Str):D:=.dct [.inr x] [.str y]
def rReprS (K:W.Frag):List V->Hp->VK->Prop:=λxs H Q=>∃(G:Hp) (a:Addr) (x y:Str),xs=[.ref a]/\Same G H/\Rep K G (.ref a) (d1S x y)/\(d1S x y).pd.shown.length<=sizeLine/\Q (.str (d1S x y).pd.shown) H
section
variable {X:Cx}
theorem reprSK (K:W.Frag) (hg:X.A.guards=some []) (hu:X.A.units+30<cLine) (hK:X.K=K:=by rfl):CallR X (.builtin "repr") (rReprS K):=by
 subst hK;intro pins s σ H xs us Q I r h;obtain⟨G,a,x,y,rfl,sg,rep,sz,q⟩:=h;obtain⟨u,rfl,ru⟩:=vals1 r;cases (show u=Value.ref a from ru);cases rep with
 |@dct _ _ vs _ e l rs=>
  obtain⟨v,vs',rfl,rv,rt⟩:=rs.inv;cases rt.inv;cases rv.inv;obtain⟨_,hS,kvs,rk,o,es,ep,ho,hc,hd,_,hp,_⟩:=Zjr I.hok<|sg _ _ e;cases rk with
  |@cons _ kv _ _ h1 h2=>
   cases h2;obtain⟨hk1,hv1⟩:=h1;generalize hes:es.toList=esl at hp;cases hp with
   |@cons en _ _ _ q1 q2 q3=>
    cases q3;have q1:keyIs kv.1 en.key=true:=q1;rw[<- hk1]at q1;obtain⟨t2,hk2⟩:∃t,en.key=.str x t:=by
     rcases Za5 q1 with ⟨i,t,z,_⟩|⟨x',t,z,e'⟩
     ·cases z
     ·cases z;exact⟨t,e'⟩
    have hv2:RelV (.str y) en.val:=by rw[q2];exact hv1
    obtain⟨t3,hk3⟩:∃t,en.val=.str y t:=hv2;have szk:=Zhg (PyData.str x).shown (PyData.str y).shown;have sz':(dictText [(PyData.str x).shown ++ ": " ++ (PyData.str y).shown]).length<=sizeLine:=sz;have rK:Reads s.heap en.key (.str x) []:=by rw[hk2];exact .str x t2
    have rV:Reads s.heap en.val (.str y) []:=by rw[hk3];exact .str y t3
    obtain⟨b1,hb1,k1⟩:=ReprK.of_reads (prog:=X.prog) (w:=X.w) rK rfl (λz=>nomatch (show false=true from z))<|Was szk.1 sz';obtain⟨b2,hb2,k2⟩:=ReprK.of_reads (prog:=X.prog) (w:=X.w) rV rfl (λz=>nomatch (show false=true from z))<|Was szk.2 sz';have rd:Reads s.heap (.ref a) (d1S x y).pd _:=.dict ho hc.1 hd (by rw[hes];exact .cons rK .nil) (by rw[hes];exact .cons rV .nil);have hna:a ∉ b1++b2:=not_mem_of_deeper (n:=0) rd (by show 0<Wc3 (Wc3 0 0) 0+1;decide) λb hm=>by
     rcases Wa7.mp hm with hm|hm
     ·exact hb1 b hm
     ·exact hb2 b hm
    have ent:ReprEntriesK X.prog X.w (b1++b2) s.heap 0 es.toList [(PyData.str x).shown ++ ": " ++ (PyData.str y).shown]:=by
     rw[hes];exact .cons (k1.more λb hb=>Wbv _ hb) (k2.more λb hb=>Wa3 _ hb) .nil
    have hs2:(a == sysModules)=false:=by
     cases z:a == sysModules with
     |false=>rfl
     |true=>rw[z]at hS;exact absurd hS (by decide)
    refine call_repr_slot (by omega) ⟨o,ho,hc.1⟩ F.slot_dict_repr ?_;exact call_dict_reprK ho hc.1 hd hs2 hna ent (g:=[]) hg (λb _=>Clear.nil b) (by show X.A.units+1+_<cLine;omega) (λ_ _ e=>e) (λh' t tk hk2=>⟨_,_,rfl,.str _,H,I.kept hk2,⟨_,rfl⟩,q⟩) sz'
theorem reprXK (K:W.Frag) (hg:X.A.guards=some []) (hu:X.A.units+30<cLine) (hK:X.K=K:=by rfl):CallR X (.builtin "repr") (λxs H Q=>((rRepr K xs H Q\/rReprLV K xs H Q\/rReprTV K xs H Q)\/rReprD K xs H Q)\/rReprS K xs H Q):=CallR.or (reprWK K hg hu hK)<|reprSK K hg hu hK
end
section
variable {K:W.Frag}{Δ:Evt}{P:D->Evt->Prop}
def RepX (d:D):Prop:=RepW d\/∃x y,d=d1S x y/\d.pd.shown.length<=sizeLine
theorem Zi5 {d:D}(h:RepX d) (p:P (.str d.pd.shown) Δ):JC K (λxs H Q=>((rRepr K xs H Q\/rReprLV K xs H Q\/rReprTV K xs H Q)\/rReprD K xs H Q)\/rReprS K xs H Q) [d] Δ P:=λg G H σ Q vs k rs c=>by
 rcases h with h|⟨x,y,rfl,h4⟩
 ·exact .inl<|Znf h p g G H σ Q vs k rs c
 ·obtain⟨_,_,rfl,r,t⟩:=rs.inv
  cases t.inv;have r2:=r;obtain⟨a,us,rfl,ha,_⟩:=r2.inv;exact .inr ⟨G,_,x,y,rfl,k.live,r,h4,c _ _ G H Δ k (Same.refl _) (.str _) p⟩
theorem Zty {i j:Nat}{x y:Str}(hi:Δ[i]?=some (.val (.str x))) (hj:Δ[j]?=some (.val (.str y))) (p:P (d1S x y) Δ):JE K (tDisp [(tVar i,tVar j)]) Δ P:=λg G H σ Q k c q hq=>by
 obtain⟨v,h1,r1⟩:=k.val i _ hi;obtain⟨u,h2,r2⟩:=k.val j _ hj;cases r1.inv;cases r2.inv;refine⟨.str x,h1,.str y,h2,Zal,[(.inr x,.str y)],rfl,by show 1<=15;decide,?_⟩;obtain⟨k2,sg⟩:=k.laid hq (.dK [(.inr x,.str y)]);rw[Zlf];exact c _ _ _ _ Δ k2 sg (.dct (vs:=[.str y]) Zal rfl (.cons (.str y) .nil)) p
end
end L2
set_option Elab.async false
set_option linter.all false
set_option maxRecDepth 100000
set_option maxHeartbeats 4000000
namespace Lw
open PySem L2
def top (i:Nat):Stmt:=PySem.Challenge.pw_holefloor_k85_no_texts.main.body.getD i (.Pass ⟨0,0,0,0⟩)
abbrev Yau:Stmt:=top 18
abbrev Yav:Stmt:=top 19
abbrev Yan:Stmt:=top 23
abbrev Yaw:Stmt:=top 24
abbrev Yao:Stmt:=top 25
abbrev Yax:Stmt:=top 26
abbrev Yah:Stmt:=top 30
abbrev Yap:Stmt:=top 31
abbrev Yaq:Stmt:=top 32
abbrev Yay:Stmt:=top 33
abbrev Yaz:Stmt:=top 34
abbrev Ya0:Stmt:=top 35
abbrev Ya1:Stmt:=top 36
abbrev Yar:Stmt:=top 38
abbrev Ya2:Stmt:=top 39
abbrev Ya3:Stmt:=top 40
abbrev Yai:Stmt:=top 41
abbrev Ya4:Stmt:=top 42
abbrev Yaj:Stmt:=top 43
abbrev Yas:Stmt:=top 44
abbrev Yae:Stmt:=top 45
abbrev Ya5:Stmt:=top 46
abbrev Yaf:Stmt:=top 47
theorem Ya9:FnScope ["thing"] ["thing"] (defScope Yau):=⟨rfl,rfl,rfl,by decide +kernel,rfl,by decide +kernel,by decide +kernel⟩
theorem Yba:FnScope ["thing"] ["thing"] (defScope Yav):=⟨rfl,rfl,rfl,by decide +kernel,rfl,by decide +kernel,by decide +kernel⟩
theorem Ybb:FnScope ["many","ties"] ["many","ties"] (defScope Yan):=⟨rfl,rfl,rfl,by decide +kernel,rfl,by decide +kernel,by decide +kernel⟩
theorem Ya7:FnScope ["many","tie","place"] ["many","tie"] (defScope Yaw):=⟨rfl,rfl,rfl,by decide +kernel,rfl,by decide +kernel,by decide +kernel⟩
theorem Ybc:FnScope ["web","place"] ["web","place"] (defScope Yao):=⟨rfl,rfl,rfl,by decide +kernel,rfl,by decide +kernel,by decide +kernel⟩
theorem Ybd:FnScope ["web","end"] ["web","end"] (defScope Yax):=⟨rfl,rfl,rfl,by decide +kernel,rfl,by decide +kernel,by decide +kernel⟩
theorem Yaa:FnScope ["text","rows","floor","at","row","web","standing","order"] ["text"] (defScope Yah):=⟨rfl,rfl,rfl,by decide +kernel,rfl,by decide +kernel,by decide +kernel⟩
theorem Yal:FnScope ["floor","row","words","numbers","web","standing"] ["floor","row"] (defScope Yap):=⟨rfl,rfl,rfl,by decide +kernel,rfl,by decide +kernel,by decide +kernel⟩
theorem Ybe:FnScope ["word"] ["word"] (defScope Yaq):=⟨rfl,rfl,rfl,by decide +kernel,rfl,by decide +kernel,by decide +kernel⟩
theorem Ybf:FnScope ["numbers"] ["numbers"] (defScope Yay):=⟨rfl,rfl,rfl,by decide +kernel,rfl,by decide +kernel,by decide +kernel⟩
theorem Ybg:FnScope ["web","numbers"] ["web","numbers"] (defScope Yaz):=⟨rfl,rfl,rfl,by decide +kernel,rfl,by decide +kernel,by decide +kernel⟩
theorem Ybh:FnScope ["many","ties"] ["many","ties"] (defScope Ya0):=⟨rfl,rfl,rfl,by decide +kernel,rfl,by decide +kernel,by decide +kernel⟩
theorem Ya6:FnScope ["web","standing","numbers","place","ends"] ["web","standing","numbers"] (defScope Ya1):=⟨rfl,rfl,rfl,by decide +kernel,rfl,by decide +kernel,by decide +kernel⟩
theorem Ybi:FnScope ["_law_script"] ["_law_script"] (defScope Yar):=⟨rfl,rfl,rfl,by decide +kernel,rfl,by decide +kernel,by decide +kernel⟩
theorem Yag:FnScope ["_law_pen_here","_law_many","_law_digit","_law_at","_law_cell","_law_number"] ["_law_pen_here","_law_many"] (defScope Ya2):=⟨rfl,rfl,rfl,by decide +kernel,rfl,by decide +kernel,by decide +kernel⟩
theorem Yab:FnScope ["_law_pen_here","_law_places","_law_ties","_law_many","_law_way","_law_count","_law_found","_law_k","_law_a","_law_b"] ["_law_pen_here","_law_places","_law_ties"] (defScope Ya3):=⟨rfl,rfl,rfl,by decide +kernel,rfl,by decide +kernel,by decide +kernel⟩
theorem Yat:FnScope ["_law_pen_here","_law_web_here","_law_rows","_law_k","_law_row","!0","!1","!2","!3","!4","!5","!6","!7","!8","!9","!10","!11","!12","!13","!14","!15","!16","!17","!18","!19","!20","!21","!22","!23","!24"] ["_law_pen_here","_law_web_here"] (defScope Yai):=⟨rfl,rfl,rfl,by decide +kernel,rfl,by decide +kernel,by decide +kernel⟩
theorem Ybj:FnScope ["_law_found"] ["_law_found"] (defScope Ya4):=⟨rfl,rfl,rfl,by decide +kernel,rfl,by decide +kernel,by decide +kernel⟩
theorem Ybk:FnScope ["_law_found","_law_due"] ["_law_found","_law_due"] (defScope Yaj):=⟨rfl,rfl,rfl,by decide +kernel,rfl,by decide +kernel,by decide +kernel⟩
theorem Yam:FnScope ["_law_web_here","_law_order_here","_law_lines","_law_a","_law_b","_law_place"] ["_law_web_here","_law_order_here"] (defScope Yas):=⟨rfl,rfl,rfl,by decide +kernel,rfl,by decide +kernel,by decide +kernel⟩
theorem Yad:FnScope ["_law_e","_law_found"] ["_law_e"] (defScope Yae):=⟨rfl,rfl,rfl,by decide +kernel,rfl,by decide +kernel,by decide +kernel⟩
theorem Ya8:FnScope ["_law_text_here","_law_e"] ["_law_text_here"] (defScope Ya5):=⟨rfl,rfl,rfl,by decide +kernel,rfl,by decide +kernel,by decide +kernel⟩
theorem Yac:FnScope ["_law_script","_law_pen_here","_law_web_here","_law_floor","_law_text_here","_law_some","_law_k","_law_thing","_law_kept","_law_found","_law_number","_law_made"] ["_law_script"] (defScope Yaf):=⟨rfl,rfl,rfl,by decide +kernel,rfl,by decide +kernel,by decide +kernel⟩
abbrev xlaw (P:Program) (w:World) (K:W.Frag) (mg:Str->Option Value) (base:Heap) (f:Addr) (cdv:Value) (A:Around) (outer:List Env) (s:Shared) (H:Hp) (E:XK):Cx:=(cxOf CX0 P w K mg base ["_law_script","_law_pen_here","_law_web_here","_law_floor","_law_text_here","_law_some","_law_k","_law_thing","_law_kept","_law_found","_law_number","_law_made"] "law" (defScope Yaf) f cdv A outer s H E).nox
def Mb (mg:Str->Option Value):Prop:=∀x∈["ValueError","abs","all","bool","enumerate","int","isinstance","len","list","max","min","range","repr","sorted","str","tuple","zip"],mg x=none
def clsBody (s:Stmt):Stmt:=match s with
 |.ClassDef _ _ _ b _ _ _ _ _ _ _=>b.getD 0 (.Pass ⟨0,0,0,0⟩)
 |_=>.Pass ⟨0,0,0,0⟩
abbrev Yak:Stmt:=clsBody<|top 14
theorem Ybl:FnScope ["self","row"] ["self","row"] (defScope Yak):=⟨rfl,rfl,rfl,by decide +kernel,rfl,by decide +kernel,by decide +kernel⟩
structure Cl (K:W.Frag) (mg:Str->Option Value) (fI c_FloorError c_NoWeb c_NoOrder c_NoNumber c_NoEnd c_NoTie c_NoPlace c_NoTable c_NoRing c_NoPaper c_Apart c_TooMany c_TooGreat c_NoText c_NoName c_NoRow:Addr):Prop where
 n_FloorError:mg "FloorError" = some (.ref c_FloorError)
 n_NoWeb:mg "NoWeb" = some (.ref c_NoWeb)
 n_NoOrder:mg "NoOrder" = some (.ref c_NoOrder)
 n_NoNumber:mg "NoNumber" = some (.ref c_NoNumber)
 n_NoEnd:mg "NoEnd" = some (.ref c_NoEnd)
 n_NoTie:mg "NoTie" = some (.ref c_NoTie)
 n_NoPlace:mg "NoPlace" = some (.ref c_NoPlace)
 n_NoTable:mg "NoTable" = some (.ref c_NoTable)
 n_NoRing:mg "NoRing" = some (.ref c_NoRing)
 n_NoPaper:mg "NoPaper" = some (.ref c_NoPaper)
 n_Apart:mg "Apart" = some (.ref c_Apart)
 n_TooMany:mg "TooMany" = some (.ref c_TooMany)
 n_TooGreat:mg "TooGreat" = some (.ref c_TooGreat)
 n_NoText:mg "NoText" = some (.ref c_NoText)
 n_NoName:mg "NoName" = some (.ref c_NoName)
 n_NoRow:mg "NoRow" = some (.ref c_NoRow)
 e_FloorError:ExcC K c_FloorError
 z_T:ExcS K c_NoText fI "row"
 f_T:PySem.W.typeIn K (.ref fI)=some (.type "function")
 kp_T:W.keepIn K (.ref c_NoText)=true
 i_T:ExcIR K c_NoText fI
 m_T:PySem.W.mroIn K c_NoText (.ref c_FloorError)=some true
 r_T:PySem.W.findIn K (.ref c_NoText) "row" = some none
 t_T:PySem.W.kitOne K (.ref c_NoText) (.type "ValueError")=some true
 k_T_NoWeb:PySem.W.kitOne K (.ref c_NoText) (.ref c_NoWeb)=some false
 k_T_NoOrder:PySem.W.kitOne K (.ref c_NoText) (.ref c_NoOrder)=some false
 k_T_NoNumber:PySem.W.kitOne K (.ref c_NoText) (.ref c_NoNumber)=some false
 k_T_NoEnd:PySem.W.kitOne K (.ref c_NoText) (.ref c_NoEnd)=some false
 k_T_NoTie:PySem.W.kitOne K (.ref c_NoText) (.ref c_NoTie)=some false
 k_T_NoPlace:PySem.W.kitOne K (.ref c_NoText) (.ref c_NoPlace)=some false
 k_T_NoTable:PySem.W.kitOne K (.ref c_NoText) (.ref c_NoTable)=some false
 k_T_NoRing:PySem.W.kitOne K (.ref c_NoText) (.ref c_NoRing)=some false
 k_T_NoPaper:PySem.W.kitOne K (.ref c_NoText) (.ref c_NoPaper)=some false
 k_T_Apart:PySem.W.kitOne K (.ref c_NoText) (.ref c_Apart)=some false
 k_T_TooMany:PySem.W.kitOne K (.ref c_NoText) (.ref c_TooMany)=some false
 k_T_TooGreat:PySem.W.kitOne K (.ref c_NoText) (.ref c_TooGreat)=some false
 k_T_NoText:PySem.W.kitOne K (.ref c_NoText) (.ref c_NoText)=some true
 k_T_NoName:PySem.W.kitOne K (.ref c_NoText) (.ref c_NoName)=some false
 k_T_NoRow:PySem.W.kitOne K (.ref c_NoText) (.ref c_NoRow)=some false
 k_T_FloorError:PySem.W.kitOne K (.ref c_NoText) (.ref c_FloorError)=some true
local macro_rules | `(tactic| walk_at "js")=>`(tactic| first
 |with_reducible refine Zap (t:=tAsg _ _) ?_
 |with_reducible refine Zap (t:=tPar _ _ _) ?_
 |with_reducible refine Zap (t:=tDrop _) ?_
 |with_reducible refine iteF ?_
 |with_reducible refine iteT ?_
 |with_reducible refine Zaz ?_
 |with_reducible refine Zba ?_
 |with_reducible refine Zbn ?_
 |with_reducible refine Zhy ?_
 |with_reducible refine Zay ?_
 |refine Zqy rfl rfl ?_
 |refine Znb rfl rfl ?_
 |with_reducible refine Zao ?_
 |with_reducible refine Zsk ?_
 |with_reducible refine Zan ?_
 |with_reducible refine Zqu ?_
 |with_reducible refine Zd5 ?_
 |with_reducible refine Zdm ?_
 |with_reducible refine Za0 ?_
 |with_reducible refine Za1 ?_
 |refine Zdy rfl rfl ?_
 |refine Zlc rfl rfl ?_
 |with_reducible refine Zbh ?_
 |with_reducible refine Zd0 ?_
 |with_reducible refine Zsu ?_
 |with_reducible refine Zhq ?_
 |with_reducible refine Zqi ?_
 |with_reducible refine Zro ?_
 |with_reducible refine Zm1 ?_
 |with_reducible refine Zic ?_
 |with_reducible refine Zh4 ?_
 |with_reducible refine Zaf ?_
 |with_reducible refine Zab ?_
 |with_reducible refine Zav ?_
 |with_reducible refine Ze9 ?_
 |with_reducible refine Zeb ?_
 |with_reducible refine Zb0 ?_
 |with_reducible refine Zbi ?_
 |with_reducible refine Zcu ?_
 |with_reducible refine Zdw ?_
 |with_reducible refine Zmy ?_
 |with_reducible refine Zfb ?_
 |with_reducible refine Zia ?_
 |with_reducible refine Zmz ?_
 |with_reducible refine Zs3 ?_
 |with_reducible refine Zjb ?_
 |with_reducible refine Zb3 ?_
 |refine Zad rfl ?_
 |refine Zbb rfl ?_
 |refine Zbl rfl ?_
 |refine Zbk (Or.inl rfl) ?_
 |refine Zbk (Or.inr rfl) ?_
 |refine Zds (Or.inl rfl) ?_
 |refine Zds (Or.inr rfl) ?_
 |refine Zoy (Or.inl rfl) ?_
 |refine Zoy (Or.inr rfl) ?_
 |refine Znd ?_
 |refine⟨⟨_,_,rfl,rfl⟩,?_⟩
 |refine⟨_,_,_,_,rfl,rfl,rfl,rfl,?_⟩
 |refine⟨_,rfl,?_⟩
 |refine jr_I (by first|(show (0:Int)<_;omega)|exact⟨by omega,by omega⟩|exact Or.inl ⟨by omega,by omega⟩|exact Or.inr ⟨by omega,by omega⟩|exact⟨by decide,by decide,by decide⟩) ?_)
local macro_rules | `(tactic| walk_at "draw")=>`(tactic| first|refine Zca rfl rfl (by assumption) (by omega) (by omega) λ_ _ _ _ _=>?_|refine⟨_,_,rfl,rfl,by assumption,_,rfl,by omega,by omega,λ_ _ _ _ _=>?_⟩)
def Pen (ps:List D):Prop:=∃(cs:List Int) (at_ num:Int),ps=[.lst (cs.map .int),.int at_,.int num]/\0<=at_/\0<=num/\cs.length<=63
def fDraw:BSp:=λps ds Post=>Pen ps/\∃m:Int,ds=[.int m]/\1<=m/\m<=10000000000000000000000000000000000000000000000000000000000000/\∀r ps',Pen ps' -> 0<=r->r<m->Post (.int r) ps'
abbrev LendQ (f:BSp) (i:Nat) (P:D->Evt->Prop):List D->Evt->Prop:=λds Δ1=>∃y ps,Δ1[i]?=some y/\y.od=some (.lst ps)/\f ps ds λd ps'=>P d (Δ1.set i<|y.put (.lst ps'))
theorem Zdy {K:W.Frag}{Δ:Evt}{P:D->Evt->Prop}{f:BSp}{ta:TA}{E:XK}{i:Nat}{x:Slot}{od:OD}(hx:Δ[i]?=some x) (ho:x.od=some od) (h:JA K ta Δ (LendQ f i P)):JE K (tCall (spB K f) [] E<|tCons (tVar i) ta) Δ P:=Zlc hx ho h
theorem Zca {Δ1:Evt}{i:Nat}{y:Slot}{ps:List D}{m:Int}{P:D->Evt->Prop}(hx:Δ1[i]?=some y) (ho:y.od=some (.lst ps)) (hp:Pen ps) (h1:1<=m) (h2:m<=10000000000000000000000000000000000000000000000000000000000000) (h:∀r ps',Pen ps' -> 0<=r->r<m->P (.int r) (Δ1.set i<|y.put (.lst ps'))) :
  LendQ fDraw i P [.int m] Δ1:=⟨y,ps,hx,ho,hp,m,rfl,h1,h2,h⟩
theorem Ztu {K:W.Frag}{Δ:Evt}{E:XK}{i:Nat}{y:Slot}{ps:List D}{m:Int}{P:D->Evt->Prop}(hx:Δ[i]?=some y) (ho:y.od=some (.lst ps)) (hp:Pen ps) (h1:1<=m) (h2:m<=10000000000000000000000000000000000000000000000000000000000000) (h:∀r ps',Pen ps' -> 0<=r->r<m->P (.int r) (Δ.set i<|y.put (.lst ps'))) :
  JE K (tCall (spB K fDraw) [] E<|tCons (tVar i)<|tCons (tC (.int m)) tNil) Δ P:=Zdy hx ho<|Zab<|Zan<|Zaf<|Zca hx ho hp h1 h2 h
section
variable {P:Program}{w:World}{K:W.Frag}{mg:Str->Option Value}{base:Heap}{f:Addr}{fd:FuncData}
theorem Zrb (mb:Mb mg) (F:Fun K "_law_draw" "_law_draw" Ya2 f fd):FnOk P w K mg base CX0 1 f fd ["_law_pen_here","_law_many"] (spB K fDraw):=by
 refine F.ok Yag (Zih λps ds Post h=>by obtain⟨_,m,rfl,_⟩:=h;rfl) λcdv A outer s H vs Q E hr h=>?_;have hu:=Zb1 hr;refine⟨_,(Zag (Zbm (Zau Zm3 (Za6 (ixK K hu) (pv 0) Zai λ_ _=>rfl) Zai<|nomark _) (Zag (Zar (i:=2) Yag.nd rfl (Or.inl rfl)<|Zas Zch (Za6 (ixK K hu) (pv 0) Zai λ_ _=>rfl)<|pv 1)<|Zag (Zfo (Zas Zgh (Za6 (ixK K hu) (pv 0) Zai λ_ _=>rfl)<|pv 1)<|Zkl (pv 0) Zai<|setU hu)<|Zam<|Zax<|pv 2) Zaw)<|Zag (Zar (i:=3) Yag.nd rfl (Or.inl rfl)<|Za6 (ixK K hu) (pv 0) Zai λ_ _=>rfl)<|Zag (Zfo (Zas (addK K) (pv 3) Zai)<|Zkl (pv 0) Zai<|setU hu)<|Zag (Zar (i:=4) Yag.nd rfl (Or.inl rfl) Zai)<|Zag (Zbm (Zau Zm3 (Zah (lenK K) rfl (mb "len"<|by decide) Zbg<|Zaa (Za6 (ixK K hu) (pv 0) Zai λ_ _=>rfl) Zac) Zai<|nomark _) (Zam<|Zar (i:=4) Yag.nd rfl (Or.inl rfl)<|Za6 (ixK K hu) (Za6 (ixK K hu) (pv 0) Zai λ_ _=>rfl) (Zas Zch (pv 3)<|Zah (lenK K) rfl (mb "len"<|by decide) Zbg<|Zaa (Za6 (ixK K hu) (pv 0) Zai λ_ _=>rfl) Zac) λ_ _=>rfl) Zaw)<|Zag (Zbm (PW.pt<|pw_and (Zau Zm9 (pv 3) (Zah (lenK K) rfl (mb "len"<|by decide) Zbg<|Zaa (Za6 (ixK K hu) (pv 0) Zai λ_ _=>rfl) Zac)<|nomark _)<|pw_and1<|Zau Ztq (Zah Zfz rfl (mb "abs"<|by decide) Zkf<|Zaa (pv 4) Zac) (Zas Zo8 Zai Zai)<|nomark _) (Zag (Zfo (Zas Zgh (Zah Zfz rfl (mb "abs"<|by decide) Zkf<|Zaa (pv 4) Zac)<|pv 1)<|Zkl (pv 0) Zai<|setU hu)<|Zam<|Zax<|Zas Zch (Zah Zfz rfl (mb "abs"<|by decide) Zkf<|Zaa (pv 4) Zac)<|pv 1) Zaw)<|Zag (Zar (i:=5) Yag.nd rfl (Or.inl rfl)<|Zas Zch (Zas Zd6 (Zas (addK K) (Zas (addK K) (Zas Zch (pv 4) Zai)<|Zas Zd6 Zai<|pv 3) Zai) Zai) Zai)<|Zag (Zar (i:=5) Yag.nd rfl (Or.inl rfl)<|Zas Zch (Zas (addK K) (Zas (addK K) (Zas Zd6 (pv 5)<|pv 5)<|Zas Zd6 Zai<|pv 5)<|pv 3) Zai)<|Zam<|Zax<|Zas Zch (Zas Zgh (Zas Zch (Zas Zd6 (pv 5) Zai) Zai) Zai)<|pv 1),Zp6 (λps ds Post hf=>?_) h⟩;obtain⟨⟨cs,at_,num,rfl,h1,h2,h3⟩,m,rfl,h4,h5,q⟩:=hf;refine⟨by simp,?_⟩;dsimp only[cxOf,startD,Wbg,Wbh,Wa6,Wad];refine Zby (λΔ=>¬ 0<num /\ Δ = [.bor (.lst [.lst (cs.map .int),.int at_,.int num]),.val (.int m),.any,.any,.any,.any]) ?_ ?_
 ·repeat walk_at "js"
  refine ite2 (λc=>?_) λc=>?_
  ·have c:=of_decide_eq_true c
   repeat walk_at "js"
   exact q _ _ ⟨cs,at_,num / m,rfl,h1,Int.ediv_nonneg h2 (by omega),h3⟩ (Wcc _<|by omega) (Wb1 _<|by omega)
  ·repeat walk_at "js"
   exact⟨of_decide_eq_false<|Wcg.mpr c,rfl⟩
 rintro Δ1 ⟨hn,rfl⟩
 repeat walk_at "js"
 refine Zby (λΔ=>∃c:Int,Δ = [.bor (.lst [.lst (cs.map .int),.int (at_+1),.int num]),.val (.int m),.any,.val (.int at_),.val (.int c),.any]) ?_ ?_
 ·repeat walk_at "js"
  refine ite2 (λc=>?_) λc=>?_
  ·have c:=of_decide_eq_true c
   rw[Wac]at c
   repeat walk_at "js"
   rw[Wac]
   repeat walk_at "js"
   obtain⟨cell,_,hc⟩:=Zlh (f:=D.int) (xs:=cs) (i:=at_ % (cs.length:Int)) (Wcc _<|by omega) (Wb1 _<|by omega);refine Zbl hc ?_;exact⟨cell,rfl⟩
  ·repeat walk_at "js"
   exact⟨11,rfl⟩
 rintro Δ1 ⟨cell,rfl⟩;refine Zby (λΔ=>Δ = [.bor (.lst [.lst (cs.map .int),.int (at_+1),.int num]),.val (.int m),.any,.val (.int at_),.val (.int cell),.any]) ?_ ?_
 ·repeat walk_at "js"
  refine ite2 (λc=>?_) λc=>?_
  ·repeat walk_at "js"
   refine ite2 (λc=>?_) λc=>?_
   ·repeat walk_at "js"
    have ha:0<=(if cell<0 then -cell else cell):=by split <;> omega
    exact q _ _ ⟨cs,at_+1,_,rfl,by omega,Int.ediv_nonneg ha (by omega),h3⟩ (Wcc _<|by omega) (Wb1 _<|by omega)
   ·repeat walk_at "js"
    rfl
  ·repeat walk_at "js"
   rfl
 rintro Δ1 rfl
 repeat walk_at "js"
 exact q _ _ ⟨cs,at_+1,num,rfl,by omega,h2,h3⟩ (Wcc _<|by omega) (Wb1 _<|by omega)
end
def fPen:NSp:=λds Post=>∃ns:List Int,ds=[.scr (ns.map .int)]/\ns.length<=63/\∀ps,Pen ps->Post ps
section
variable {P:Program}{w:World}{K:W.Frag}{mg:Str->Option Value}{base:Heap}{f:Addr}{fd:FuncData}
theorem Zsg (mb:Mb mg) (F:Fun K "_law_pen" "_law_pen" Yar f fd):FnOk P w K mg base CX0 1 f fd ["_law_script"] (spN K fPen):=by
 refine F.ok Ybi (Zki λds Post h=>by obtain⟨ns,rfl,_⟩:=h;rfl) λcdv A outer s H vs Q E hr h=>?_;have hu:=Zb1 hr;refine⟨_,(Zam<|Zax<|Zbc<|Zaa (Zbq ["_law_cell"] (show CompSc (defScope Yar) ["_law_script"] _ [] [] from ⟨rfl,by decide +kernel,by decide +kernel,by decide +kernel,rfl,by decide +kernel⟩) rfl (seqK K<|Zge (slK K) (pv 0) Zig<|Zho Zai) (λ_ _ _ _ _=>(Zat (i:=0) (show List.Nodup (["_law_cell"]:List Str) from by decide) rfl<|Or.inl rfl)) (λ_ _ _ _ _=>Zck) λ_ _ _ _ _=>(pv 0))<|Zaa Zai<|Zaa Zai Zac),Ztl (λds Post hf=>?_) h⟩;obtain⟨ns,rfl,h1,q⟩:=hf;refine⟨by simp,?_⟩;dsimp only[cxOf,startD,Wbg,Wbh,Wa6,Wad];refine Zlt<|Zi1<|Zab<|Zcg (by decide)<|Zke ?_
 repeat walk_at "js"
 have e:cutD (ns.map D.int) none (some 63)=ns.map D.int:=by
  unfold cutD;have e1:HT.sIx (ns.map D.int).length 0 none=0:=rfl;have e2:HT.sIx (ns.map D.int).length (ns.map D.int).length (some 63)=ns.length:=by
   rw[Wac];show min (Int.toNat 63) ns.length=_;omega
  rw[e1,e2,List.drop_zero,Nat.sub_zero,Wbp (by simp)]
 rw[e];refine⟨_,Or.inl rfl,by rw[Wac];exact Wbm h1 (by decide),λ_=>true,λd=>d,λi d hd=>?_,?_⟩
 ·repeat walk_at "js"
  exact⟨rfl,Zad rfl ⟨rfl,_,rfl⟩⟩
 ·repeat walk_at "js"
  refine⟨by show 3<=sizeLine;decide,_,rfl,q _ ⟨ns,0,0,?_,by decide,by decide,h1⟩⟩;simp
end
def encTie (t:Int × Int):D:=.tup [.int t.1,.int t.2]
def encWeb (n:Int) (ts:List (Int × Int)):D:=.tup [.int n,.tup (ts.map encTie)]
structure WebOk (n:Int) (ts:List (Int × Int)):Prop where
 lo:1<=n
 hi:n<=25
 len:ts.length<=24
 tie:∀t∈ts,0<=t.1/\t.1<n/\0<=t.2/\t.2<n
def fWeb:BSp:=λps ds Post=>Pen ps/\∃a b:Int,ds=[.int a,.int b]/\1<=a/\a<=25/\0<=b/\b<=24/\∀n ts ps',Pen ps' -> WebOk n ts->n<=a->(ts.length:Int)<=b->Post (encWeb n ts) ps'
theorem Ztb {Δ1:Evt}{i:Nat}{y:Slot}{ps:List D}{a b:Int}{P:D->Evt->Prop}(hx:Δ1[i]?=some y) (ho:y.od=some (.lst ps)) (hp:Pen ps) (h1:1<=a) (h2:a<=25) (h3:0<=b) (h4:b<=24) (h:∀n ts ps',Pen ps' -> WebOk n ts->n<=a->(ts.length:Int)<=b->P (encWeb n ts) (Δ1.set i<|y.put (.lst ps'))) :
  LendQ fWeb i P [.int a,.int b] Δ1:=⟨y,ps,hx,ho,hp,a,b,rfl,h1,h2,h3,h4,h⟩
theorem Zkp:2<=sizeLine:=by decide
theorem Zg2 {K:W.Frag}{Δ:Evt}{i:Nat}{v c:Int}{P:Bool->Evt->Prop}(hx:Δ[i]?=some (.val (.int v))) (h1:v=c->P true Δ) (h2:¬ v=c->P false Δ):JT K (tTest<|tOp rEq (tVar i)<|tC (.int c)) Δ P:=
 Zav (Zao (Zad hx (Zan (Zia ⟨_,rfl,by
  by_cases h:v=c
  ·rw[decide_eq_true h];exact h1 h
  ·rw[decide_eq_false h];exact h2 h⟩))))
def wSt (py:List D) (a b n way k:Int) (fs:List D) (i u v:Int):Evt:=[.bor (.lst py),.val (.int a),.val (.int b),.val (.int n),.val (.int way),.val (.int k),.own (.lst fs),.val (.int i),.val (.int u),.val (.int v)]
def wQ (py:List D) (a b n way k:Int) (fs:List D) (i:Int):Evt->Prop:=λΔ=>∃u v:Int,0<=u/\u<n/\0<=v/\v<n /\ Δ = wSt py a b n way k fs i u v
def wR (py:List D) (a b n way k:Int) (fs:List D) (i:Int):Evt->Prop:=λΔ=>∃u v:Int,0<=u/\u<n/\0<=v /\ Δ = wSt py a b n way k fs i u v
def wL (a b n way k:Int) (i:Nat):Evt->Prop:=λΔ=>∃(ps:List D) (ts:List (Int × Int)) (x7 x8 x9:Slot),Pen ps/\ts.length=i/\(∀t∈ts,0<=t.1/\t.1<n/\0<=t.2/\t.2<n) /\ Δ = [.bor (.lst ps),.val (.int a),.val (.int b),.val (.int n),.val (.int way),.val (.int k),.own (.lst<|ts.map encTie),x7,x8,x9]
section
variable {P:Program}{w:World}{K:W.Frag}{mg:Str->Option Value}{base:Heap}{f:Addr}{fd:FuncData}
theorem Zsp (mb:Mb mg) (C25:Callee P w K mg base 1 "_law_draw" ["_law_pen_here","_law_many"] (spB K fDraw)) (F:Fun K "_law_web" "_law_web" Ya3 f fd):FnOk P w K mg base CX0 2 f fd ["_law_pen_here","_law_places","_law_ties"] (spB K fWeb):=by
 refine F.ok Yab (Zih λps ds Post h=>by obtain⟨_,a,b,rfl,_⟩:=h;rfl) λcdv A outer s H vs Q E hr h=>?_;have hu:=Zb1 hr;refine⟨_,(Zag (Zar (i:=3) Yab.nd rfl (Or.inl rfl)<|Zas (addK K) Zai<|Za8 C25 (hr.mono<|by decide)<|Zaa (pv 0)<|Zaa (pv 1) Zac)<|Zag (Zar (i:=4) Yab.nd rfl (Or.inl rfl)<|Za8 C25 (hr.mono<|by decide)<|Zaa (pv 0)<|Zaa Zai Zac)<|Zag (Zar (i:=5) Yab.nd rfl (Or.inl rfl)<|Za8 C25 (hr.mono<|by decide)<|Zaa (pv 0)<|Zaa (Zas (addK K) (pv 2) Zai) Zac)<|Zag (Zbm (Zau Zci (pv 4) Zai<|nomark _) (Zag (Zar (i:=3) Yab.nd rfl (Or.inl rfl)<|pv 1)<|Zam<|Zar (i:=5) Yab.nd rfl (Or.inl rfl)<|pv 2) Zaw)<|Zag (Zar (i:=6) Yab.nd rfl (Or.inl rfl)<|Zbc Zac)<|Zag (Zd7 PassesOwn.never rfl (Zb4 rfl (mb "range"<|by decide)<|Zaa (pv 5) Zac) (Zat (i:=7) Yab.nd rfl<|Or.inl rfl)<|Zag (Zot (i:=8) (j:=9) rfl Yab.nd rfl rfl (by decide) rfl rfl (Zaa (Za8 C25 (hr.mono<|by decide)<|Zaa (pv 0)<|Zaa (pv 3) Zac)<|Zaa (Za8 C25 (hr.mono<|by decide)<|Zaa (pv 0)<|Zaa (pv 3) Zac) Zac) rfl)<|Zag (Zbm (Zau Zci (pv 4) Zai<|nomark _) (Zam<|Zot (i:=8) (j:=9) rfl Yab.nd rfl rfl (by decide) rfl rfl (Zaa (Zas Zch (pv 7)<|pv 3)<|Zaa (Zas Zch (Zas (addK K) (pv 7) Zai)<|pv 3) Zac) rfl) Zaw)<|Zag (Zbm (Zau Zci (pv 4) Zai<|nomark _) (Zam<|Zar (i:=8) Yab.nd rfl (Or.inl rfl) Zai) Zaw)<|Zag (Zbm (Zau Zci (pv 4) Zai<|nomark _) (Zam<|Zar (i:=9) Yab.nd rfl (Or.inl rfl)<|Zas (addK K) (Zas Zch (pv 8) Zai)<|Zas Zd6 (Zas Zin (pv 9) Zai) Zai) Zaw)<|Zag (Zbm (PW.pt<|pw_and (Zau Zci (pv 4) Zai<|nomark _)<|pw_and1<|Zau Zci (Zas Zch (pv 9) Zai) Zai<|nomark _) (Zam<|Zar (i:=9) Yab.nd rfl (Or.inl rfl)<|pv 8) Zaw)<|Zam<|Zfv<|bmK K PySem.F.plainAttrs_list PySem.F.slot_list_append PySem.F.type_list_append Zdr (pv 6)<|Zaa (Zbd<|Zaa (pv 8)<|Zaa (Zah (Zhc rfl) rfl (mb "min"<|by decide) Zme<|Zaa (pv 9)<|Zaa (Zas Zit (pv 3) Zai) Zac) Zac) Zac)<|Zam<|Zax<|Zbd<|Zaa (pv 3)<|Zaa (Za7 (tupK K) rfl (mb "tuple"<|by decide) Zbr<|Zaa (pv 6) Zac) Zac),Zp6 (λps ds Post hf=>?_) h⟩;obtain⟨hp,a,b,rfl,h1,h2,h3,h4,q⟩:=hf;refine⟨by simp,?_⟩;dsimp only[cxOf,startD,Wbg,Wbh,Wa6,Wad];refine Zap<|Zay<|Zao<|Zan<|Zdy rfl rfl<|Zab<|Zad rfl<|Zaf (Zca (m:=a) rfl rfl hp h1 (Int.le_trans h2<|by decide) λr0 ps0 hp0 hr0 hs0=>Zdw ?_);refine Zap<|Zay (Ztu rfl rfl hp0 (by decide) (by decide) λway ps1 hp1 hw0 hw1=>?_);refine Zap<|Zay<|Zdy rfl rfl<|Zab<|Zgt (Zc9 (Zbz rfl) Zcm Zhr)<|Zaf (Zca (m:=b+1) rfl rfl hp1 (Int.add_le_add h3<|Wc9 1) (Int.le_trans (Int.add_le_add h4<|Wc9 1)<|by decide) λcnt ps2 hp2 hc0 hc1=>?_);refine Zby (λΔ=>∃n k:Int,1<=n/\n<=a/\0<=k/\k<=b /\ Δ = [.bor (.lst ps2),.val (.int a),.val (.int b),.val (.int n),.val (.int way),.val (.int k),.any,.any,.any,.any]) ?_ ?_
 ·refine Zbn (Zg2 rfl (λc=>iteT ?_) λc=>iteF<|Zaz ⟨1+r0,cnt,Int.le_add_of_nonneg_right hr0,by omega,hc0,Int.le_of_lt_add_one hc1,rfl⟩)
  exact Zap<|Zay<|Zad rfl<|Zay<|Zad rfl ⟨a,b,h1,Wc9 _,h3,Wc9 _,rfl⟩
 rintro Δ1 ⟨n,k,hn0,hn1,hk0,hk1,rfl⟩;have hn2:0<n:=Int.lt_of_lt_of_le (by decide) hn0;have hn3:n≠0:=Int.ne_of_gt hn2;refine Zap<|Zhn<|Zi1<|Zaf ⟨by decide,?_⟩;refine Zby (wL a b n way k k.toNat) ?_ ?_
 ·refine Zez (Zb8<|Zab<|Zad rfl<|Zaf ⟨_,rfl,by omega,by omega,?_⟩)
  refine⟨wL a b n way k,⟨ps2,[],.any,.any,.any,hp2,rfl,λ_ h=>(nomatch h),rfl⟩,?_,λΔ2 h=>by rw[Zbf]at h;exact h⟩;rintro i d Δ2 hd ⟨ps,ts,x7,x8,x9,hp',hl,ht,rfl⟩;obtain⟨hi,rfl⟩:=Zcf hd;generalize (0+(i:Int))=I;refine Zb3<|Zap<|Zhy<|Zab<|Zdy rfl rfl<|Zab<|Zad rfl<|Zaf (Zca (m:=n) rfl rfl hp' hn0 (by omega) λx px hpx hx0 hx1=>?_);refine Zab<|Zdy rfl rfl<|Zab<|Zad rfl<|Zaf (Zca (m:=n) rfl rfl hpx hn0 (by omega) λy py hpy hy0 hy1=>Zaf ⟨_,_,rfl,?_⟩);refine Zby (wQ py a b n way k (ts.map encTie) I) ?_ ?_
  ·refine Zbn (Zg2 rfl (λc=>iteT ?_) λc=>iteF<|Zaz ⟨x,y,hx0,hx1,hy0,hy1,rfl⟩)
   exact Zhy<|Zor (Zcv (Zc9 (Zbz rfl) (Zbz rfl)<|pr_I hn2)<|Zcv (Zc9 (Zc9 (Zbz rfl) Zcm Zhr) (Zbz rfl)<|pr_I hn2) Zel) ⟨_,_,rfl,_,_,Wcc _ hn3,Wb1 _ hn2,Wcc _ hn3,Wb1 _ hn2,rfl⟩
  rintro Δ3 ⟨u,v,hu0,hu1,hv0,hv1,rfl⟩;refine Zby (wQ py a b n way k (ts.map encTie) I) ?_ ?_
  ·exact Zbn<|Zg2 rfl (λc=>iteT<|Zay<|Zan ⟨0,v,Wc9 _,hn2,hv0,hv1,rfl⟩) λc=>iteF<|Zaz ⟨u,v,hu0,hu1,hv0,hv1,rfl⟩
  rintro Δ3 ⟨u,v,hu0,hu1,hv0,hv1,rfl⟩;refine Zby (wR py a b n way k (ts.map encTie) I) ?_ ?_
  ·refine Zbn (Zg2 rfl (λc=>iteT ?_) λc=>iteF<|Zaz ⟨u,v,hu0,hu1,hv0,rfl⟩)
   exact Zay<|Zgt (Zc9 (Zc9 (Zbz rfl) Zcm<|pr_I (show (0:Int)<2 by decide)) (Zc9 (Zc9 (Zbz rfl) Zcm<|pr_I ⟨by decide,by decide⟩) Zcm<|pr_I<|Or.inr ⟨by decide,by decide⟩) Zhr) ⟨u,_,hu0,hu1,by omega,rfl⟩
  rintro Δ3 ⟨u,v,hu0,hu1,hv0,rfl⟩;refine Zby (wR py a b n way k (ts.map encTie) I) ?_ ?_
  ·refine Zbn (Ze9<|Zg2 rfl (λc=>iteT ?_) λc=>iteF<|iteF<|Zaz ⟨u,v,hu0,hu1,hv0,rfl⟩)
   refine Zav<|Zao<|Zgt (Zc9 (Zbz rfl) Zcm<|pr_I (show (0:Int)<2 by decide))<|Zan<|Zia ⟨_,rfl,ite2 (λc=>?_) λc=>Zaz ⟨u,v,hu0,hu1,hv0,rfl⟩⟩;exact Zay<|Zad rfl ⟨u,u,hu0,hu1,hu0,rfl⟩
  rintro Δ3 ⟨u,v,hu0,hu1,hv0,rfl⟩;refine Zmh rfl rfl<|Zbh<|Zab<|Zad rfl<|Zab<|Za0<|Zab<|Zad rfl<|Zab<|Zgt (Zc9 (Zbz rfl) Zcm Zto)<|Zaf<|Zjb<|Zaf ?_;refine⟨Zkp,_,_,rfl,rfl,?_,py,ts++[(u,if n-1<v then n-1 else v)],.val (.int I),.val (.int u),.val (.int v),hpy,by rw[War,hl];rfl,λt h=>?_,?_⟩
  ·rw[Wac];exact small1000 (by omega)
  ·rcases Wa7.mp h with h|h
   ·exact ht t h
   ·rw[Wbe.mp h]
    refine⟨hu0,hu1,?_,?_⟩
    ·show 0<=(if n-1<v then n-1 else v);split <;> omega
    ·show (if n-1<v then n-1 else v)<n;split <;> omega
  ·rw[Wa8];rfl
 rintro Δ1 ⟨ps3,ts,x7,x8,x9,hp3,hl,ht,rfl⟩;refine Zba<|Zbh<|Zab<|Zad rfl<|Zab<|Za0<|Zab<|Zl5 rfl<|Zaf<|Zds (Or.inl rfl)<|Zaf ⟨Zkp,?_⟩;exact⟨_,rfl,q n ts _ hp3 ⟨hn0,by omega,by omega,ht⟩ hn1<|by omega⟩
end
def placeAt (ts:List (Int × Int)) (e:Nat):Int:=match ts[e / 2]? with
 |some t=>if e % 2=0 then t.1 else t.2
 |none=>-1
def encRow (r:List Int):D:=.tup<|r.map .int
def encOrd (o:List (List Int)):D:=.tup<|o.map encRow
def endsBelow (ts:List (Int × Int)) (m:Nat) (p:Int):List Int:=((Wb0 m).filter λe=>decide (placeAt ts e=p)).map λe:Nat=>(e:Int)
structure RowOk (ts:List (Int × Int)) (m:Nat) (p:Int) (r:List Int):Prop where
 perm:r.Perm (endsBelow ts m p)
 first:r.head?=(endsBelow ts m p).head?
structure OrdOk (n:Int) (ts:List (Int × Int)) (o:List (List Int)):Prop where
 len:(o.length:Int)=n
 row:∀(p:Nat) r,o[p]?=some r->RowOk ts (2*ts.length) (p:Int) r
theorem Zda (ts:List (Int × Int)) (k:Nat) (p:Int):endsBelow ts (k+1) p=endsBelow ts k p++(if placeAt ts k=p then [(k:Int)] else []):=by
 unfold endsBelow;rw[List.range_succ,Wbt,Wa8];congr 1;by_cases h:placeAt ts k=p
 ·simp[Wbr,h]
 ·simp[Wbr,h]
theorem Zf3 (ts:List (Int × Int)) (m:Nat) (p:Int):(endsBelow ts m p).length<=m:=by
 unfold endsBelow;rw[Wac];exact Was (List.length_filter_le _ _) (by rw[List.length_range];exact Waf _)
theorem RowOk.len {ts:List (Int × Int)}{m:Nat}{p:Int}{r:List Int}(h:RowOk ts m p r):r.length<=m:=by rw[h.perm.length_eq];exact Zf3 ts m p
theorem RowOk.stay {ts:List (Int × Int)}{k:Nat}{p:Int}{r:List Int}(h:RowOk ts k p r) (hp:placeAt ts k≠p):RowOk ts (k+1) p r:=by
 have e:=Zda ts k p;rw[if_neg hp,Wba]at e;exact⟨by rw[e];exact h.perm,by rw[e];exact h.first⟩
theorem RowOk.put {ts:List (Int × Int)}{k j:Nat}{p:Int}{r:List Int}(h:RowOk ts k p r) (hp:placeAt ts k=p) (hj:j<=r.length) (h1:r≠[]->1<=j):RowOk ts (k+1) p (r.take j++(k:Int)::r.drop j):=by
 have e:=Zda ts k p;rw[if_pos hp]at e;refine⟨?_,?_⟩
 ·rw[e]
  refine List.perm_middle.trans ?_;rw[Wcj];exact(List.Perm.cons _ h.perm).trans (List.perm_append_singleton _ _).symm
 ·rw[e]
  cases r with
  |nil=>
   have z:endsBelow ts k p=[]:=List.Perm.eq_nil h.perm.symm;rw[z];have:j=0:=by simpa using hj
   subst this;rfl
  |cons x r'=>
   have h2:=h1 (by simp);obtain⟨j',rfl⟩:∃j',j=j'+1:=⟨j-1,by omega⟩;have h3:=h.first;show some x=_;cases q:endsBelow ts k p with
   |nil=>rw[q]at h3;cases h3
   |cons y l=>rw[q]at h3;exact h3
theorem Zo2 {ts:List (Int × Int)}{k:Nat}(h:k<2*ts.length):∃t,ts[k / 2]?=some t/\atI (ts.map encTie) ((0+(k:Int)) / 2)=some (encTie t)/\atI [D.int t.1,D.int t.2] ((0+(k:Int)) % 2)=some (.int<|placeAt ts k):=by
 have hk:k / 2<ts.length:=by omega
 refine⟨ts[k / 2],Wab hk,?_,?_⟩
 ·have e:(0+(k:Int)) / 2=((k / 2:Nat):Int):=by omega
  rw[e];exact Zbj (by rw[Waj,Wab hk];rfl)
 ·have e2:placeAt ts k=if k % 2=0 then ts[k / 2].1 else ts[k / 2].2:=by
   unfold placeAt;rw[Wab hk]
  rw[e2];have e:(0+(k:Int)) % 2=((k % 2:Nat):Int):=by omega
  rw[e];by_cases h0:k % 2=0
  ·rw[if_pos h0,h0];exact Zbj rfl
  ·have h1:k % 2=1:=by omega
   rw[if_neg h0,h1];exact Zbj rfl
theorem Zof {n:Int}{ts:List (Int × Int)}(hW:WebOk n ts) {k:Nat}(h:k<2*ts.length):0<=placeAt ts k/\placeAt ts k<n:=by
 have hk:k / 2<ts.length:=by omega
 have:=hW.tie _<|Wbf hk;unfold placeAt;rw[Wab hk];dsimp only;split <;> omega
def fOrder:BSp:=λps ds Post=>Pen ps/\∃n ts,ds=[encWeb n ts]/\WebOk n ts/\∀o ps',Pen ps' -> OrdOk n ts o->Post (encOrd o) ps'
theorem Zmv {Δ1:Evt}{i:Nat}{y:L2.Slot}{ps:List D}{n:Int}{ts:List (Int × Int)}{P:D->Evt->Prop}(hx:Δ1[i]?=some y) (ho:y.od=some (.lst ps)) (hp:Pen ps) (hW:WebOk n ts) (h:∀o ps',Pen ps' -> OrdOk n ts o->P (encOrd o) (Δ1.set i<|y.put (.lst ps'))) :
  LendQ fOrder i P [encWeb n ts] Δ1:=⟨y,ps,hx,ho,hp,n,ts,rfl,hW,h⟩
def oSt (ps:List D) (n:Int) (ts:List (Int × Int)) (cs:List (Addr × List Int)) (x3 x4:L2.Slot):Evt:=.bor (.lst ps)::.val (encWeb n ts)::.val (.lst (cs.map λc=>D.adr c.1))::x3::x4::(cs.map (λc=>L2.Slot.ownA c.1 (.lst<|c.2.map D.int))++Wad (25-n.toNat) .any)
def oP (n:Int) (ts:List (Int × Int)) (k:Nat):Evt->Prop:=λΔ=>∃(ps:List D) (cs:List (Addr × List Int)) (x3 x4:L2.Slot),Pen ps/\cs.length=n.toNat/\(∀(p:Nat) c,cs[p]?=some c->RowOk ts k (p:Int) c.2) /\ Δ = oSt ps n ts cs x3 x4
theorem Zj7 {n:Int}{ts:List (Int × Int)}{ps:List D}{as:List Addr}(hn2:n<=25) (hal:as.length=(Wbh (λ_=>OD.lst []) ((rngD 0 n.toNat).filter λ_=>true)).length):∃cs:List (Addr × List Int),cs.length=n.toNat/\(∀(p:Nat) c,cs[p]?=some c->c.2=[]) ∧
  L2.putN 5 (as.zip<|Wbh (λ_=>OD.lst []) ((rngD 0 n.toNat).filter λ_=>true)) ([.bor (.lst ps),.val (encWeb n ts),.val (.lst<|as.map D.adr),.any,.any]++Wad 25 .any)=oSt ps n ts cs .any .any:=by
 have eR:(rngD 0 n.toNat).filter (λ_=>true)=rngD 0 n.toNat:=by simp
 rw[eR,Wac,Zbf]at hal;have eO:(rngD 0 n.toNat).map (λ_=>OD.lst [])=Wad n.toNat (OD.lst []):=by
  rw[List.map_const',Zbf]
 rw[eR,eO];generalize hcs:as.map (λa=>((a,[]):Addr × List Int))=cs;have hcl:cs.length=n.toNat:=by rw[<- hcs,Wac,hal]
 have e1:as.map D.adr=cs.map λc=>D.adr c.1:=by rw[<- hcs,Wa9];rfl
 have e2:as.zip (Wad n.toNat<|OD.lst [])=cs.map λc=>(c.1,OD.lst (c.2.map D.int)):=by
  rw[<- hcs,Wa9,<- hal];clear e1 hcl hcs hal
  induction as with
  |nil=>rfl
  |cons a r ih=>rw[Wak,Wbl,Wda,ih];rfl
 have e3:=Zky (cs.map λc=>(c.1,OD.lst (c.2.map D.int))) [.bor (.lst ps),.val (encWeb n ts),.val (.lst (cs.map λc=>D.adr c.1)),.any,.any] [] 25 (by rw[Wac];omega);rw[Wba,Wba,Wa9,Wac,hcl]at e3;refine⟨cs,hcl,λp c hc=>?_,by rw[e1,e2];exact e3⟩;rw[<- hcs,Waj]at hc;cases q:as[p]? with
 |none=>rw[q]at hc;cases hc
 |some a=>rw[q]at hc;cases hc;rfl
theorem Zsd {ps:List D}{n:Int}{ts:List (Int × Int)}{cs:List (Addr × List Int)}{x3 x4:L2.Slot}{p:Nat}{c:Addr × List Int}(h:cs[p]?=some c):(oSt ps n ts cs x3 x4)[p+5]?=some (.ownA c.1 (.lst<|c.2.map D.int)):=by
 show (cs.map (λc=>L2.Slot.ownA c.1 (.lst<|c.2.map D.int))++Wad (25-n.toNat) .any)[p]?=_;rw[Wbb (by rw[Wac];exact(Wap.mp h).1),Waj,h];rfl
theorem Zqg {ps ps':List D}{n:Int}{ts:List (Int × Int)}{cs:List (Addr × List Int)}{x3 x4:L2.Slot}{p:Nat}{c:Addr × List Int}{r:List Int}{v:L2.Slot}(h:cs[p]?=some c) (hv:v=.ownA c.1 (.lst<|r.map D.int)):(oSt ps n ts cs x3 x4).set (p+5) v=oSt ps n ts (cs.set p (c.1,r)) x3 x4:=by
 have hp:=(Wap.mp h).1;have ea:(cs.set p (c.1,r)).map (λc=>D.adr c.1)=cs.map λc=>D.adr c.1:=by
  rw[List.map_set];apply Wcf;intro i;by_cases hii:i=p
  ·subst hii
   rw[Wam (by rw[Wac];exact hp),Waj,h];rfl
  ·rw[Wao (Ne.symm hii)]
 unfold oSt;rw[ea,List.map_set,hv,<- List.set_append_left _ _ (by rw[Wac];exact hp)];rfl
section
variable {P:Program}{w:World}{K:W.Frag}{mg:Str->Option Value}{base:Heap}{f:Addr}{fd:FuncData}
theorem Zna (mb:Mb mg) (C25:Callee P w K mg base 1 "_law_draw" ["_law_pen_here","_law_many"] (spB K fDraw)) (F:Fun K "_law_order" "_law_order" Yai f fd):FnOk P w K mg base CX0 2 f fd ["_law_pen_here","_law_web_here"] (spB K fOrder):=by
 refine F.ok Yat (Zih λps ds Post h=>by obtain⟨_,n,ts,rfl,_⟩:=h;rfl) λcdv A outer s H vs Q E hr h=>?_;have hu:=Zb1 hr;refine⟨_,(Zag (Znt 5 (show ∀x∈(["_law_pen_here","_law_web_here","_law_rows","_law_k","_law_row","!0","!1","!2","!3","!4","!5","!6","!7","!8","!9","!10","!11","!12","!13","!14","!15","!16","!17","!18","!19","!20","!21","!22","!23","!24"]:List Str).drop 5,(defScope Yai).names.lookup x=none from by decide +kernel)<|Zi4 (i:=2) ["_law_place"] (show CompSc (defScope Yai) ["_law_pen_here","_law_web_here","_law_rows","_law_k","_law_row","!0","!1","!2","!3","!4","!5","!6","!7","!8","!9","!10","!11","!12","!13","!14","!15","!16","!17","!18","!19","!20","!21","!22","!23","!24"] _ [] [] from ⟨rfl,by decide +kernel,by decide +kernel,by decide +kernel,rfl,by decide +kernel⟩) rfl Yat.nd rfl (Or.inl rfl) (Zb4 rfl (mb "range"<|by decide)<|Zaa (Za6 (ixK K hu) (pv 1) Zai λ_ _=>rfl) Zac) (λ_ _ _ _ _=>(Zat (i:=0) (show List.Nodup (["_law_place"]:List Str) from by decide) rfl<|Or.inl rfl)) (λ_ _ _ _ _=>Zck) λ_ _ _ _ _=>(Zbc Zac))<|Zag (Zd7 PassesOwn.never rfl (Zb4 rfl (mb "range"<|by decide)<|Zaa (Zas Zd6 Zai<|Zah (lenK K) rfl (mb "len"<|by decide) Zbg<|Zaa (Za6 (ixK K hu) (pv 1) Zai λ_ _=>rfl) Zac) Zac) (Zat (i:=3) Yat.nd rfl<|Or.inl rfl)<|Zag (Zar (i:=4) Yat.nd rfl (Or.inl rfl)<|Za6 (ixK K hu) (pv 2) (Za6 (ixK K hu) (Za6 (ixK K hu) (Za6 (ixK K hu) (pv 1) Zai λ_ _=>rfl) (Zas Zin (pv 3) Zai) λ_ _=>rfl) (Zas Zch (pv 3) Zai) λ_ _=>rfl) λ_ _=>rfl)<|Zam<|Zfv<|bmK K PySem.F.plainAttrs_list PySem.F.slot_list_insert PySem.F.type_list_insert Zk8 (pv 4)<|Zaa (Zah (Zhc rfl) rfl (mb "min"<|by decide) Zme<|Zaa (Zah (lenK K) rfl (mb "len"<|by decide) Zbg<|Zaa (pv 4) Zac)<|Zaa (Zas (addK K) Zai<|Za8 C25 (hr.mono<|by decide)<|Zaa (pv 0)<|Zaa (Zah (Zj6 rfl) rfl (mb "max"<|by decide) Zsb<|Zaa Zai<|Zaa (Zah (lenK K) rfl (mb "len"<|by decide) Zbg<|Zaa (pv 4) Zac) Zac) Zac) Zac)<|Zaa (pv 3) Zac)<|Zam<|Zax<|Za7 (tupK K) rfl (mb "tuple"<|by decide) Zbr<|Zaa (Zbq ["_law_row"] (show CompSc (defScope Yai) ["_law_pen_here","_law_web_here","_law_rows","_law_k","_law_row","!0","!1","!2","!3","!4","!5","!6","!7","!8","!9","!10","!11","!12","!13","!14","!15","!16","!17","!18","!19","!20","!21","!22","!23","!24"] _ [] [] from ⟨rfl,by decide +kernel,by decide +kernel,by decide +kernel,rfl,by decide +kernel⟩) rfl (seqK K<|pv 2) (λ_ _ _ _ _=>(Zat (i:=0) (show List.Nodup (["_law_row"]:List Str) from by decide) rfl<|Or.inl rfl)) (λ_ _ _ _ _=>Zck) λ_ _ _ _ _=>(Za7 (tupK K) rfl (mb "tuple"<|by decide) Zbr<|Zaa (pv 0) Zac)) Zac),Zp6 (λps ds Post hf=>?_) h⟩;obtain⟨hp,n,ts,rfl,hW,q⟩:=hf;refine⟨by simp,?_⟩;dsimp only[cxOf,startD,Wbg,Wbh,Wa6];have hn:=hW.lo;have hn2:=hW.hi;have hts:=hW.len
 -- the rows
 refine Zap<|Zp2<|Zol (by decide)<|Zb8 ?_;refine Zab<|Zao<|Zad rfl<|Zan<|Zbb (d:=.int n) rfl<|Zaf ⟨n,rfl,by omega,by omega,?_⟩;refine⟨by rw[Zbf];exact small1000 (by omega),λ_=>true,λ_=>.lst [],λi d hd=>?_,by decide,?_,λas hal hnd=>?_⟩
 ·exact Zcu ⟨rfl,Zi1<|Zaf ⟨by decide,rfl,_,rfl⟩⟩
 ·rw[Wac]
  have e:((rngD 0 n.toNat).filter λ_=>true).length<=25:=Was (List.length_filter_le _ _) (by rw[Zbf];omega);show 5+_<=30;omega
 obtain⟨cs,hcl,hce,e⟩:=Zj7 (ps:=ps) (ts:=ts) hn2 hal;refine Eq.mpr (congrArg (λΔ=>JS K _ Δ _) e) ?_
 -- the loop
 refine Zby (oP n ts (2*ts.length)) ?_ ?_
 ·refine Zez (Zb8<|Zab<|Zgt (Zc9 Zcm (Zqs<|Zo7 (ds:=[.int n,.tup (ts.map encTie)]) rfl rfl)<|pr_I<|Or.inl ⟨by decide,by decide⟩)<|Zaf ⟨_,rfl,?_,?_,?_⟩)
  ·rw[Wac];omega
  ·rw[Wac];omega
  have eL:((2:Int)*((ts.map encTie).length:Int)).toNat=2*ts.length:=by rw[Wac];omega
  refine⟨oP n ts,⟨ps,cs,.any,.any,hp,hcl,λp c hc=>by rw[hce p c hc];exact⟨List.Perm.refl _,rfl⟩,rfl⟩,?_,λΔ h=>by rw[Zbf,eL]at h;exact h⟩
  ·rintro k d Δ2 hd ⟨ps,cs,x3,x4,hp,hcl,hrow,rfl⟩
   rw[eL]at hd;obtain⟨hk,rfl⟩:=Zcf hd;obtain⟨t,ht1,ht2,ht3⟩:=Zo2 hk;obtain⟨pl0,pl1⟩:=Zof hW hk;obtain⟨c,hc1,hc2⟩:=Zlh (f:=λc:Addr × List Int=>D.adr c.1) (xs:=cs) (i:=placeAt ts k) pl0 (by omega);have hR:=hrow _ c hc1;have hRl:=hR.len;have ep:((placeAt ts k).toNat:Int)=placeAt ts k:=Int.toNat_of_nonneg pl0;have hsl:∀(ps:List D) (x3 x4:L2.Slot),(oSt ps n ts cs x3 x4)[(placeAt ts k).toNat+5]?=some (.ownA c.1 (.lst<|c.2.map D.int)):=λps x3 x4=>Zsd hc1;have hlen:(c.2.map D.int).length=c.2.length:=Wac _;refine Zb3<|Zap<|Zay<|Zgt (Zru (d:=.adr c.1) (Zbz rfl) (Zha (Zha (Zo7 (d:=.tup<|ts.map encTie) rfl rfl) (Zc9 (Zbz rfl) Zcm<|pr_I ⟨by decide,by decide⟩) ht2) (Zc9 (Zbz rfl) Zcm<|pr_I (by show (0:Int)<2;decide)) ht3) hc2) ?_;refine Zqj (a:=c.1) rfl (hsl ps _ _) ?_;refine Za0<|Zab<|Zmd rfl (hsl ps _ _)<|Zab<|Zao<|Zan<|Zdy rfl rfl<|Zab<|Za0<|Zab<|Zan<|Zab<|Zmd rfl (hsl ps _ _)<|Zaf<|Zjb<|Zaf ?_;refine Zca rfl rfl hp (by split <;> omega) (by split <;> omega) λr ps' hp' hr0 hr1=>?_
   refine Zdw<|Zaf<|Zjb<|Zad rfl ⟨_,_,_,rfl,hsl ps' _ _,by rw[hlen];exact small1000 (by omega),by split <;> omega,by split <;> omega,?_⟩
   generalize hi:insI (c.2.map D.int).length (if 1+r<((c.2.map D.int).length:Int) then 1+r else ((c.2.map D.int).length:Int))=j;have hj:j<=c.2.length/\(c.2≠[]->1<=j):=by
    rw[<- hi,hlen];unfold insI;refine⟨?_,λh=>?_⟩
    ·split <;> split <;> omega
    ·have:=List.length_pos_iff.mpr h
     split <;> split <;> omega
   refine⟨ps',cs.set (placeAt ts k).toNat (c.1,c.2.take j++(k:Int)::c.2.drop j),.val (.int (0+(k:Int))),.val (.adr c.1),hp',by rw[Wb9];exact hcl,λp c' hc'=>?_,Zqg (ps:=ps') (ps':=ps') hc1 ?_⟩
   ·by_cases hpp:p=(placeAt ts k).toNat
    ·subst hpp
     rw[Wam (by omega)]at hc';cases hc';exact hR.put (by omega) hj.1 hj.2
    ·rw[Wao (Ne.symm hpp)]at hc'
     exact(hrow p c' hc').stay (by omega)
   ·rw[Wa8,List.map_take,Wav,List.map_drop,Wb7]
 -- the end
 rintro Δ1 ⟨ps3,cs3,x3,x4,hp3,hcl3,hrow3,rfl⟩;refine JS.conv (Δ':=.bor (.lst ps3)::.val (encWeb n ts)::.val (.lst (cs3.map λc=>D.lst<|c.2.map D.int))::x3::x4::(Wad cs3.length .any++Wad (25-n.toNat) .any)) (λg G H σ k=>?_) ?_
 ·have:=Ok.thaw (cs:=cs3.map λc=>(c.1,c.2.map D.int)) (R:=[.bor (.lst ps3),.val (encWeb n ts),.val (.lst (cs3.map λc=>D.adr c.1)),x3,x4]) (T:=Wad (25-n.toNat) .any) (i:=2) (g:=g) (G:=G) (H:=H) (σ:=σ) (K:=K) (by rw[Wa9];exact k) (by rw[Wa9];rfl)
  rw[Wa9,Wac]at this;exact this
 refine Zba<|Za0<|Zab<|Zcg (by decide)<|Zke<|Zad rfl ⟨_,Or.inl rfl,?_,λ_=>true,λd=>match d with|.lst ds=>.tup ds|d=>d,λi d hd=>?_,?_⟩
 ·rw[Wac];exact small1000 (by omega)
 ·rw[Waj]at hd
  cases q:cs3[i]? with
  |none=>rw[q]at hd;cases hd
  |some c=>
   rw[q]at hd;have hd:D.lst (c.2.map D.int)=d:=by simpa using hd
   subst hd;exact Zcu ⟨rfl,Za0<|Zab<|Zad rfl<|Zaf<|Zds (Or.inl rfl) ⟨rfl,_,rfl⟩⟩
 ·refine Zaf (Zds (Or.inl rfl) ⟨ps3,rfl,?_⟩)
  have e:((cs3.map λc=>D.lst<|c.2.map D.int).filter λ_=>true).map (λd=>match d with|.lst ds=>D.tup ds|d=>d)=(cs3.map (·.2)).map encRow:=by
   rw[Wbx.mpr (by simp),Wa9,Wa9];rfl
  rw[e];exact q _ _ hp3 ⟨by rw[Wac];omega,λp r hr=>by
   rw[Waj]at hr;cases z:cs3[p]? with
   |none=>rw[z]at hr;cases hr
   |some c=>rw[z]at hr;cases hr;exact hrow3 p c z⟩
end
theorem Zfu {ts:List (Int × Int)}{m:Nat}{p x:Int}:x∈endsBelow ts m p ↔ ∃e:Nat,e<m/\placeAt ts e=p/\(e:Int)=x:=by
 unfold endsBelow;rw[Wax];constructor
 ·rintro⟨e,he,rfl⟩
  rw[Wcm,Wch]at he;exact⟨e,he.1,of_decide_eq_true he.2,rfl⟩
 ·rintro⟨e,h1,h2,rfl⟩
  exact⟨e,by rw[Wcm,Wch];exact⟨h1,decide_eq_true h2⟩,rfl⟩
theorem RowOk.mem {ts:List (Int × Int)}{m:Nat}{p x:Int}{r:List Int}(h:RowOk ts m p r):x∈r ↔ ∃e:Nat,e<m/\placeAt ts e=p/\(e:Int)=x:=h.perm.mem_iff.trans Zfu
theorem Zd4 (ts:List (Int × Int)) (m:Nat) (p:Int):(endsBelow ts m p).Pairwise (· < ·):=by
 unfold endsBelow;refine List.Pairwise.map _ (λa b h=>?_)<|List.Pairwise.filter _ List.pairwise_lt_range;omega
theorem Ziv (ds:List D) {j:Nat}(h:j<=ds.length):cutD ds (some (j:Int)) none=ds.drop j:=by
 unfold cutD;rw[HT.sIx_nat,HT.sIx_none,Wco h,Wbp (by rw[Wb4];exact Waf _)]
section
variable {P:Program}{w:World}{K:W.Frag}{mg:Str->Option Value}{base:Heap}{f:Addr}{fd:FuncData}
def fWhole:DSp:=λds Post=>∃e:Int,ds=[.int e]/\Post (.bl true)
theorem Zfk:2<=sizeLine:=by decide
theorem Zr0 (n:Int) (ts:List (Int × Int)):atI [D.int n,D.tup (ts.map encTie)] 1=some (.tup<|ts.map encTie):=rfl
end
def sI (i:Int):Str:=toString i
def wd:D->Str
 |.int i=>sI i
 |.str x=>x
 |_=>Str.empty
def rowT (ds:List D):Str:=Str.join " "<|ds.map wd
def linP (n:Int):Str:="places " ++ sI n
def linT (t:Int × Int):Str:="tie " ++ sI t.1 ++ " " ++ sI t.2
def linA (p:Int) (r:List Int):Str:="at " ++ sI p++Str.join "" (r.map λe=>(" ":Str)++sI e)
def linsA:Nat->List (List Int)->List Str
 |_,[]=>[]
 |p,r::o=>(if r=[] then [] else [linA p r])++linsA (p+1) o
def lins (n:Int) (ts:List (Int × Int)) (o:List (List Int)):List Str:=linP n::ts.map linT++linsA 0 o
def txt (n:Int) (ts:List (Int × Int)) (o:List (List Int)):Str:=Str.join "\n"<|lins n ts o
theorem join0:∀(x:Str) (xs:List Str),Str.join "" (x::xs)=x++Str.join "" xs
 |x,[]=>(Str.append_empty x).symm
 |x,y::r=>by
  show x++("":Str)++Str.join "" (y::r)=_;rw[show (x++("":Str))=x from Str.append_empty x]
theorem Zkr:∀(p:Str) (es:List Str),Str.join " " (p::es)=p++Str.join "" (es.map λe=>(" ":Str)++e)
 |p,[]=>(Str.append_empty p).symm
 |p,e::es=>by
  show p++(" ":Str)++Str.join " " (e::es)=_;rw[Zkr e es,Wav,join0,Str.append_assoc,Str.append_assoc]
theorem Zrv (n:Int):rowT [.str "places",.int n]=linP n:=by
 show ("places":Str)++(" ":Str)++sI n=_;rfl
theorem Zr4 (t:Int × Int):rowT [.str "tie",.int t.1,.int t.2]=linT t:=by
 show ("tie":Str)++(" ":Str)++(sI t.1++(" ":Str)++sI t.2)=_;unfold linT;rw[show ("tie":Str)++(" ":Str)=("tie ":Str) from rfl,Str.append_assoc,Str.append_assoc,Str.append_assoc]
theorem Zsf (p:Int) (r:List Int):rowT (.str "at" :: .int p::r.map D.int)=linA p r:=by
 have e:(.str "at" :: .int p::r.map D.int:List D).map wd=("at":Str)::sI p::r.map sI:=by
  rw[Wav,Wav,Wa9];rfl
 unfold rowT linA;rw[e];show ("at":Str)++(" ":Str)++Str.join " " (sI p::r.map sI)=_;rw[Zkr,Wa9,show ("at":Str)++(" ":Str)=("at ":Str) from rfl,Str.append_assoc];rfl
theorem Zdb {i:Int}(h0:0<=i) (h1:i<=63):(sI i).length<=2:=by
 obtain⟨k,rfl⟩:∃k:Nat,i=(k:Int):=⟨i.toNat,by omega⟩;have:∀k:Fin 64,(sI ((k:Nat):Int)).length<=2:=by decide +kernel
 exact this ⟨k,by omega⟩
theorem Zcz {i:Int}(h0:0<=i) (h1:i<=63):i.natAbs.log2<1920:=by
 by_cases hz:i.natAbs=0
 ·rw[hz];decide
 ·have h:=(Nat.log2_lt hz (k:=6)).mpr (by omega)
  omega
theorem Zmk (k B:Nat):∀(zs:List Str),(∀z∈zs,z.length<=B)->(zs.map λz=>z.length+k).sum<=zs.length*(B+k)
 |[],_=>by simp
 |z::zs,h=>by
  have:=Zmk k B zs λy hy=>h y<|Wal _ hy;have:=h z Waq;rw[Wav,Wcu,Wak,Nat.succ_mul];omega
theorem Zlg {zs:List Str}{k B N:Nat}(h:∀z∈zs,z.length<=B) (hn:zs.length<=N) (hb:N*(B+k)<=1000000):zs.foldl (λn z=>n+z.length+k) 0<=sizeLine:=by
 rw[Zgb];have h1:=Zmk k B zs h;have h2:=Nat.mul_le_mul_right (B+k) hn;have h3:1000000<=sizeLine:=by decide
 omega
theorem Zg1 {r:List Int}(h:∀e∈r,0<=e/\e<=63):(Str.join "" (r.map λe=>(" ":Str)++sI e)).length<=r.length*3:=by
 have h1:=Zc7 "" (r.map λe=>(" ":Str)++sI e);have h2:=Zmk 0 3 (r.map λe=>(" ":Str)++sI e) λz hz=>by
  obtain⟨e,he,rfl⟩:=Wax.mp hz;rw[Str.length_append];have:=Zdb (h e he).1 (h e he).2;have e1:(" ":Str).length=1:=rfl;omega
 rw[Wac]at h2;have e0:("":Str).length=0:=rfl;rw[e0]at h1;omega
structure FlOk (n:Int) (ts:List (Int × Int)) (o:List (List Int)):Prop where
 n0:0<=n
 n1:n<=25
 tl:ts.length<=24
 te:∀t∈ts,(0<=t.1/\t.1<=25)/\(0<=t.2/\t.2<=25)
 ol:(o.length:Int)=n
 oe:∀r∈o,r.length<=48/\∀e∈r,0<=e/\e<=63
theorem Zq0 {n:Int}{ts:List (Int × Int)}{o:List (List Int)}(hW:WebOk n ts) (hO:OrdOk n ts o):FlOk n ts o:=by
 have h1:=hW.lo;have h2:=hW.hi;have h3:=hW.len;refine⟨by omega,h2,h3,λt ht=>?_,hO.len,λr hr=>?_⟩
 ·have:=hW.tie t ht;omega
 ·obtain⟨p,hp,e⟩:=Wck.mp hr
  have R:=hO.row p r (by rw[Wab hp,e]);refine⟨by have:=R.len;omega,λx hx=>?_⟩;obtain⟨k,hk,_,rfl⟩:=R.mem.mp hx;omega
theorem Zep:∀(o:List (List Int)) (p:Nat),(linsA p o).length<=o.length
 |[],p=>by simp[linsA]
 |r::o,p=>by
  have:=Zep o<|p+1;unfold linsA;rw[War,Wak];split <;> simp <;> omega
theorem Zoj {p:Int}{r:List Int}(h0:0<=p) (h1:p<=63) (hr:r.length<=48/\∀e∈r,0<=e/\e<=63):(linA p r).length<=200:=by
 unfold linA;have a:=Zg1 hr.2;have b:=Zdb h0 h1;rw[Str.length_append,Str.length_append];have e1:("at ":Str).length=3:=rfl;omega
theorem Zoh {t:Int × Int}(h:(0<=t.1/\t.1<=25)/\(0<=t.2/\t.2<=25)):(linT t).length<=200:=by
 have a:=Zdb h.1.1 (by omega);have b:=Zdb h.2.1 (by omega);unfold linT;rw[Str.length_append,Str.length_append,Str.length_append];have e1:("tie ":Str).length=4:=rfl;have e2:(" ":Str).length=1:=rfl;omega
theorem Znk {n:Int}(h0:0<=n) (h1:n<=25):(linP n).length<=200:=by
 have a:=Zdb h0 (by omega);unfold linP;rw[Str.length_append];have e1:("places ":Str).length=7:=rfl;omega
theorem Zey:∀(o:List (List Int)) (p:Nat),p+o.length<=63->(∀r∈o,r.length<=48/\∀e∈r,0<=e/\e<=63)->∀z∈linsA p o,z.length<=200
 |[],p,_,_,z,hz=>by simp[linsA]at hz
 |r::o,p,hp,h,z,hz=>by
  unfold linsA at hz;rw[Wak]at hp;rcases Wa7.mp hz with y|y
  ·split at y
   ·cases y
   ·rw[Wbe]at y;subst y
    exact Zoj (by omega) (by omega)<|h r Waq
  ·exact Zey o (p+1) (by omega) (λr hr=>h r<|Wal _ hr) z y
theorem Zc1 {n:Int}{ts:List (Int × Int)}{o:List (List Int)}(h:FlOk n ts o):(lins n ts o).length<=50/\∀z∈lins n ts o,z.length<=200:=by
 have h1:=h.ol;have h2:=h.n1;have h3:=h.tl;have h4:=Zep o 0;unfold lins;refine⟨by rw[War,Wak,Wac];omega,λz hz=>?_⟩;rcases Wa7.mp hz with y|y
 ·rcases Wah.mp y with y|y
  ·subst y;exact Znk h.n0 h.n1
  ·obtain⟨t,ht,rfl⟩:=Wax.mp y
   exact Zoh<|h.te t ht
 ·exact Zey o 0 (by omega) h.oe z y
theorem Zco:∀(a b:List (List Int)) (p:Nat),linsA p (a++b)=linsA p a++linsA (p+a.length) b
 |[],b,p=>by simp[linsA]
 |r::a,b,p=>by
  rw[Wbz];show (if r=[] then [] else [linA p r])++linsA (p+1) (a++b)=((if r=[] then [] else [linA p r])++linsA (p+1) a)++_;rw[Zco a b (p+1),Wb2,Wak,show p+1+a.length=p+(a.length+1) by omega]
theorem Zfi {o:List (List Int)}{i:Nat}{r:List Int}(h:o[i]?=some r):linsA 0 (o.take<|i+1)=linsA 0 (o.take i)++(if r=[] then [] else [linA i r]):=by
 have hi:=(Wap.mp h).1;rw[Wcd,h,Zco];show _++((if r=[] then [] else [linA _ r])++[])=_;rw[Wba,Wbd,Wc2,Wco (by omega)]
section
variable {P:Program}{w:World}{K:W.Frag}{mg:Str->Option Value}{base:Heap}{f:Addr}{fd:FuncData}
theorem Zov (l:List D):(l.filter λ_=>true).map (λ_=>D.bl true)=(Wad l.length true).map D.bl:=by
 rw[Wbx.mpr (by simp),Wcr,List.eq_replicate_iff];exact⟨by rw[Wac],λb hb=>by obtain⟨_,_,rfl⟩:=Wax.mp hb;rfl⟩
theorem allR (n:Nat):(Wad n true).all id=true:=by rw[Waw];intro x hx;rw[(Wcq.mp hx).2];rfl
end
def numS (n:Nat):PySem.Str:=PySem.Str.ofString<|toString (n:Int)
def figS:PySem.Str:=PySem.Str.ofString "0123456789"
def figB (c:Nat):Bool:=!(Builtin.Str.occurrences figS (sgn c) 0 figS.length 1).isEmpty
def numB (n:Nat):Bool:=decide (1<=(numS n).length) && decide ((numS n).length<=4) && (numS n).cps.all (· < 128) && (numS n).cps.toList.all figB && (match (numS n).cps.toList.head? with|some c=>!(decide (sgn c=PySem.Str.ofString "0")) || decide (numS n=PySem.Str.ofString "0")|none=>false)
theorem num49:∀n,n<50->numB n=true:=by decide +kernel
def fNumW:DSp:=λds Post=>∃n:Nat,ds=[.str (numS n)]/\n<50/\Post (.int (n:Int))
section
variable {P:Program}{w:World}{K:W.Frag}{mg:Str->Option Value}{base:Heap}{f:Addr}{fd:FuncData}
theorem Zpo (mb:Mb mg) {tk tk2:Tok}(g_FIGURES:mg "FIGURES" = some (.str "0123456789" tk)) (g_MOST_FIGURES:mg "MOST_FIGURES" = some (.int 60 tk2)) (F:Fun K "number_written" "number_written" Yaq f fd):FnOk P w K mg base CX0 1 f fd ["word"] (spD K fNumW):=by
 refine F.ok Ybe (Za9 λds Post h=>by obtain⟨_,rfl,_⟩:=h;rfl) λcdv A outer s H vs Q E hr h=>?_;have hu:=Zb1 hr;have hv:=Zf4 hr;refine⟨_,(Zag (Zbm (PW.pt<|pw_or (Zbv<|Zf7 Zli Zli Zai (Zah Zg5 rfl (mb "len"<|by decide) Zbg<|Zaa (pv 0) Zac)<|Zaq rfl g_MOST_FIGURES (show RelV (.int 60) _ from ⟨_,rfl⟩))<|pw_or1<|Zbv<|truK K (Zah (allK K rfl) rfl (mb "all"<|by decide) Zi9<|Zaa (Zbq ["sign"] (show CompSc (defScope Yaq) ["word"] _ [] [] from ⟨rfl,by decide +kernel,by decide +kernel,by decide +kernel,rfl,by decide +kernel⟩) rfl (Zsx<|pv 0) (λ_ _ _ _ _=>(Zat (i:=0) (show List.Nodup (["sign"]:List Str) from by decide) rfl<|Or.inl rfl)) (λ_ _ _ _ _=>Zck) λ_ _ _ _ _=>(Zdx Zl8 (pv 0) (Zaq rfl g_FIGURES (show RelV (.str "0123456789") _ from ⟨_,rfl⟩)) rfl)) Zac) λ_=>rfl) (Zam<|Zax Zb7) Zaw)<|Zam<|Zax<|Zei (PW.pt<|pw_and (Zau Zci (Za6 (ixK K hu) (pv 0) Zai λ_ _=>rfl) Zbx<|nomark _)<|pw_and1<|Zau Zg7 (pv 0) Zbx<|nomark _) Zb7<|Za7 Zml rfl (mb "int"<|by decide) Zkz<|Zaa (pv 0) Zac),Zcx (λds Post hf=>?_) h⟩;obtain⟨n,rfl,hn,q⟩:=hf;refine⟨by simp,?_⟩;dsimp only[startD,Wbg,Wbh,Wa6,Wad];have hb:=num49 n hn;unfold numB at hb;rw[Wau,Wau,Wau,Wau]at hb;obtain⟨⟨⟨⟨h1,h2⟩,h3⟩,h4⟩,h5⟩:=hb;have h1:=of_decide_eq_true h1;have h2:=of_decide_eq_true h2;have hsz:(numS n).length<=sizeLine:=Was h2 (by decide);have hll:(numS n).cps.toList.length=(numS n).length:=by simp[Str.length]
 refine Zap<|Zbn<|Zeb<|Zb0<|Zav<|Zgf<|Zan<|Za0<|Zab<|Zad rfl<|Zaf<|Zp7 hsz<|Zfb ⟨_,rfl,?_⟩;rw[decide_eq_true (by omega)];refine iteT<|Zan<|Zfb ⟨_,rfl,?_⟩;rw[decide_eq_true (by omega)];refine iteF<|Zb0<|Zbi<|Za0<|Zab<|Zcg (by decide)<|Zsv<|Zad rfl ⟨_,rfl,h3,?_,λ_=>true,λ_=>.bl true,λi d hd=>?_,?_⟩
 ·rw[Wac,hll];exact Wbm h2 (by decide)
 ·rw[Waj]at hd
  cases z:(numS n).cps.toList[i]? with
  |none=>rw[z]at hd;exact nomatch hd
  |some c=>
   rw[z]at hd;cases hd;refine Zcu ⟨rfl,Zao<|Zad rfl<|Zbs<|Ztg ⟨?_,_,rfl⟩⟩;have:=Waw.mp h4 c<|Waz z;unfold figB at this;exact congrArg D.bl this
 rw[Zov];refine Zaf<|Zlr ?_;rw[allR];refine⟨_,rfl,iteF<|Zaz ?_⟩;cases hh:(numS n).cps.toList with
 |nil=>rw[hh]at hll;simp at hll;omega
 |cons c cs=>
  rw[hh]at h5;refine Zba<|Zef<|Ze9<|Zav<|Zao<|Zao<|Zad rfl<|Zan<|Zqe (c:=c) hsz (by rw[hh];exact Zbj (j:=0) rfl)<|Zbs<|Ze1 ⟨_,rfl,?_⟩;have fin:∀{Δ:Evt}{P:D->Evt->Prop},P (.int (n:Int)) Δ -> JC K rIntN [.str (numS n)] Δ P:=λp=>Zpg (Int.natCast_nonneg n) (by omega) p;by_cases e:sgn c=PySem.Str.ofString "0"
  ·rw[decide_eq_true e]
   refine iteT<|Zav<|Zao<|Zad rfl<|Zbs<|Zps ⟨_,rfl,?_⟩;have e2:numS n=PySem.Str.ofString "0":=by
    simp only[List.head?_cons]at h5;rw[decide_eq_true e]at h5;exact of_decide_eq_true (by simpa using h5)
   rw[decide_eq_true e2];exact iteF<|Za0<|Zab<|Zad rfl<|Zaf<|fin q
  ·rw[decide_eq_false e]
   exact iteF<|iteF<|Za0<|Zab<|Zad rfl<|Zaf<|fin q
end
def fIsRow:DSp:=λds Post=>∃es,ds=[.tup es]/\Post (.bl true)
def fTieOf:DSp:=λds Post=>∃n a b:Int,ds=[.int n,.tup [.int a,.int b]]/\0<=a/\a<n/\0<=b/\b<n/\Post (.tup [.int a,.int b])
def fWebOf:DSp:=λds Post=>∃(n:Int) (ts:List (Int × Int)),ds=[.int n,.tup (ts.map encTie)]/\1<=n/\n<=25/\ts.length<=24/\(∀t∈ts,0<=t.1/\t.1<n/\0<=t.2/\t.2<n)/\Post (encWeb n ts)
def fWithWeb:DSp:=λds Post=>∃(n:Int) (ts:List (Int × Int)),ds=[.int n,.tup (ts.map encTie)]/\1<=n/\n<=25/\ts.length<=24/\(∀t∈ts,0<=t.1/\t.1<n/\0<=t.2/\t.2<n)/\Post (.tup [encWeb n ts,.tup []])
def fWithPl:DSp:=λds Post=>∃n:Int,ds=[.lst [.int n]]/\1<=n/\n<=25/\Post (.tup [encWeb n [],.tup []])
def fWithTie:DSp:=λds Post=>∃(n:Int) (ts:List (Int × Int)) (t:Int × Int),ds=[encWeb n ts,.lst [.int t.1,.int t.2]]/\WebOk n (ts++[t])/\Post (.tup [encWeb n (ts++[t]),.tup []])
theorem Zn2 {ts:List (Int × Int)}{i:Nat}{d:D}(h:(ts.map encTie)[i]?=some d):∃t,ts[i]?=some t/\d=encTie t:=by
 rw[Waj]at h;cases z:ts[i]? with
 |none=>rw[z]at h;exact nomatch h
 |some t=>rw[z]at h;cases h;exact⟨t,rfl,rfl⟩
section
variable {P:Program}{w:World}{K:W.Frag}{mg:Str->Option Value}{base:Heap}{f:Addr}{fd:FuncData}
theorem Znu (mb:Mb mg) (F:Fun K "is_row" "is_row" Yav f fd):FnOk P w K mg base CX0 1 f fd ["thing"] (spD K fIsRow):=by
 refine F.ok Yba (Za9 λds Post h=>by obtain⟨_,rfl,_⟩:=h;rfl) λcdv A outer s H vs Q E hr h=>?_;have hu:=Zb1 hr;refine⟨_,(Zam<|Zax<|Zah (isiUK K) rfl (mb "isinstance"<|by decide) Zae<|Zaa (pv 0)<|Zaa (Zbd<|Zaa (Zbu rfl (mb "list"<|by decide) Zpt (show RelV (.ty "list") _ from rfl))<|Zaa (Zbu rfl (mb "tuple"<|by decide) Zbr (show RelV (.ty "tuple") _ from rfl)) Zac) Zac),Zcx (λds Post hf=>?_) h⟩;obtain⟨es,rfl,q⟩:=hf;refine⟨by simp,?_⟩;dsimp only[startD,Wbg,Wbh,Wa6];refine Zba<|Za0<|Zab<|Zad rfl<|Zab<|Zbh<|Zab<|Zdm<|Zab<|Zdm<|Zaf ⟨Zfk,?_⟩;exact Zaf<|Zqn (ns:=["list","tuple"]) (T:="tuple") (b:=true) rfl (λ_=>by rfl) q
theorem Zpk (mb:Mb mg) (F:Fun K "is_whole" "is_whole" Yau f fd):FnOk P w K mg base CX0 1 f fd ["thing"] (spD K fWhole):=by
 refine F.ok Ya9 (Za9 λds Post h=>by obtain⟨_,rfl,_⟩:=h;rfl) λcdv A outer s H vs Q E hr h=>?_;have hu:=Zb1 hr;refine⟨_,(Zam<|Zax<|Zg0 (Zah (isiUK K) rfl (mb "isinstance"<|by decide) Zae<|Zaa (pv 0)<|Zaa (Zbu rfl (mb "int"<|by decide) Zkz (show RelV (.ty "int") _ from rfl)) Zac)<|Zi6<|Zpb<|Zah (isiUK K) rfl (mb "isinstance"<|by decide) Zae<|Zaa (pv 0)<|Zaa (Zbu rfl (mb "bool"<|by decide) Zmj (show RelV (.ty "bool") _ from rfl)) Zac),Zcx (λds Post hf=>?_) h⟩;obtain⟨e,rfl,q⟩:=hf;refine⟨by simp,?_⟩;dsimp only[startD,Wbg,Wbh,Wa6];refine Zba<|Zd0<|Za0<|Zab<|Zad rfl<|Zab<|Zdm<|Zaf<|Zcw (T:="int") (b:=true) rfl (λ_=>by rfl) ⟨_,rfl,?_⟩;rw[if_pos rfl];refine Zhq<|Za0<|Zab<|Zad rfl<|Zab<|Zdm<|Zaf<|Zcw (T:="int") (b:=false) rfl (λ_=>by rfl) ⟨_,rfl,?_⟩;exact q
theorem Zoi (mb:Mb mg) (C36:Callee P w K mg base 1 "is_row" ["thing"] (spD K fIsRow)) (C37:Callee P w K mg base 1 "is_whole" ["thing"] (spD K fWhole)) (F:Fun K "tie_of" "tie_of" Yaw f fd):FnOk P w K mg base CX0 2 f fd ["many","tie"] (spD K fTieOf):=by
 refine F.ok Ya7 (Za9 λds Post h=>by obtain⟨_,_,_,rfl,_⟩:=h;rfl) λcdv A outer s H vs Q E hr h=>?_;have hu:=Zb1 hr;refine⟨_,(Zag (Zbm (PW.pt<|pw_or (Zbv<|truK K (Za8 C36 (hr.mono<|by decide)<|Zaa (pv 1) Zac) λ_=>rfl)<|pw_or1<|Zau Zg7 (Zah (lenK K) rfl (mb "len"<|by decide) Zbg<|Zaa (pv 1) Zac) Zai<|nomark _) Zcd Zaw)<|Zag (Zd7 PassesOwn.never rfl (seqK K<|pv 1) (Zat (i:=2) Ya7.nd rfl<|Or.inl rfl)<|Zam<|Zbm (PW.pt<|pw_or (Zbv<|truK K (Za8 C37 (hr.mono<|by decide)<|Zaa (pv 2) Zac) λ_=>rfl)<|pw_or1<|Zbv<|Zf7 Zli Zm9 Zai (pv 2)<|pv 0) Zcd Zaw)<|Zam<|Zax<|Za7 (tupK K) rfl (mb "tuple"<|by decide) Zbr<|Zaa (pv 1) Zac),Zcx (λds Post hf=>?_) h⟩;obtain⟨n,a,b,rfl,ha,ha2,hb,hb2,q⟩:=hf;refine⟨by simp,?_⟩;dsimp only[startD,Wbg,Wbh,Wa6,Wad];refine Zap<|Zbn<|Zeb<|Zb0<|Zbi<|Za1<|Zab<|Zad rfl<|Zaf ⟨_,rfl,_,rfl,iteF ?_⟩;refine Zav<|Zao<|Za0<|Zab<|Zad rfl<|Zaf<|Zbk (Or.inr rfl)<|Zan<|Zmz ⟨_,rfl,iteF<|Zaz ?_⟩;refine Zap<|Zez<|Zf8<|Zad rfl ⟨_,rfl,λ_ Δ=>∃x,Δ = [.val (.int n),.val (.tup [.int a,.int b]),x],⟨_,rfl⟩,λi d Δ hd hI=>?_,λΔ hI=>?_⟩
 ·obtain⟨x,rfl⟩:=hI
  have hd2:∃z:Int,d=.int z/\0<=z/\z<n:=by
   rcases i with _|_|i
   ·exact⟨a,by simpa using hd.symm,ha,ha2⟩
   ·exact⟨b,by simpa using hd.symm,hb,hb2⟩
   ·simp at hd
  obtain⟨z,rfl,hz,hz2⟩:=hd2;refine Zqd (by show 2<3;omega) ?_;refine Zbn<|Zeb<|Zb0<|Zbi<|Za1<|Zab<|Zad rfl<|Zaf ⟨z,rfl,_,rfl,iteF ?_⟩;refine Zb0<|Zav<|Zgf<|Zan<|Zad rfl<|Zfb ⟨_,rfl,?_⟩;rw[decide_eq_true hz];refine iteT<|Zad rfl<|Zfb ⟨_,rfl,?_⟩;rw[decide_eq_true hz2];exact iteF<|Zaz ⟨_,rfl⟩
 obtain⟨x,rfl⟩:=hI;exact Zba<|Za0<|Zab<|Zad rfl<|Zaf<|Zds (Or.inr rfl) q
theorem Zm0 (mb:Mb mg) (C36:Callee P w K mg base 1 "is_row" ["thing"] (spD K fIsRow)) (C37:Callee P w K mg base 1 "is_whole" ["thing"] (spD K fWhole)) (C41:Callee P w K mg base 2 "tie_of" ["many","tie"] (spD K fTieOf)) {tk tk2:Tok}(g_MOST_PLACES:mg "MOST_PLACES" = some (.int 25 tk)) (g_MOST_TIES:mg "MOST_TIES" = some (.int 24 tk2)) (F:Fun K "web_of" "web_of" Yan f fd):FnOk P w K mg base CX0 3 f fd ["many","ties"] (spD K fWebOf):=by
 refine F.ok Ybb (Za9 λds Post h=>by obtain⟨_,_,rfl,_⟩:=h;rfl) λcdv A outer s H vs Q E hr h=>?_;have hu:=Zb1 hr;have hv:=Zf4 hr;refine⟨_,(Zag (Zbm (PW.pt<|pw_or (Zbv<|truK K (Za8 C37 (hr.mono<|by decide)<|Zaa (pv 0) Zac) λ_=>rfl)<|pw_or1<|Zbv<|Zf7 Zli Zli Zai (pv 0)<|Zaq rfl g_MOST_PLACES (show RelV (.int 25) _ from ⟨_,rfl⟩)) Zcd Zaw)<|Zag (Zbm (PW.pt<|pw_or (Zbv<|truK K (Za8 C36 (hr.mono<|by decide)<|Zaa (pv 1) Zac) λ_=>rfl)<|pw_or1<|Zau Zm3 (Zah (lenK K) rfl (mb "len"<|by decide) Zbg<|Zaa (pv 1) Zac) (Zaq rfl g_MOST_TIES (show RelV (.int 24) _ from ⟨_,rfl⟩))<|nomark _) Zcd Zaw)<|Zam<|Zax<|Zbd<|Zaa (pv 0)<|Zaa (Za7 (tupK K) rfl (mb "tuple"<|by decide) Zbr<|Zaa (Zbq ["tie"] (show CompSc (defScope Yan) ["many","ties"] _ ["many"] [0] from ⟨rfl,by decide +kernel,by decide +kernel,by decide +kernel,rfl,by decide +kernel⟩) rfl (seqK K<|pv 1) (λ_ _ _ _ _=>(Zat (i:=0) (show List.Nodup (["tie","many"]:List Str) from by decide) rfl<|Or.inl rfl)) (λ_ _ _ _ _=>Zck) λ_ _ _ _ _=>(Za8 C41 (hr.mono<|by decide)<|Zaa (pv 1)<|Zaa (pv 0) Zac)) Zac) Zac),Zcx (λds Post hf=>?_) h⟩;obtain⟨n,ts,rfl,h1,h2,h3,h4,q⟩:=hf;refine⟨by simp,?_⟩;dsimp only[startD,Wbg,Wbh,Wa6,Wad];refine Zap<|Zbn<|Zeb<|Zb0<|Zbi<|Za1<|Zab<|Zad rfl<|Zaf ⟨n,rfl,_,rfl,iteF ?_⟩;refine Zb0<|Zav<|Zgf<|Zan<|Zad rfl<|Zfb ⟨_,rfl,?_⟩;rw[decide_eq_true h1];refine iteT<|Zan<|Zfb ⟨_,rfl,?_⟩;rw[decide_eq_true h2];refine iteF<|Zaz ?_;refine Zap<|Zbn<|Zeb<|Zb0<|Zbi<|Za1<|Zab<|Zad rfl<|Zaf ⟨_,rfl,_,rfl,iteF ?_⟩;refine Zav<|Zao<|Za0<|Zab<|Zad rfl<|Zaf<|Zbk (Or.inr rfl)<|Zan<|Zfb ⟨_,rfl,?_⟩;rw[Wac,decide_eq_false (by omega)];refine iteF<|Zaz ?_;refine Zba<|Zbh<|Zab<|Zad rfl<|Zab<|Za0<|Zab<|Zcg (by decide)<|Zf8<|Zad rfl ⟨_,rfl,?_,λ_=>true,λd=>d,λi d hd=>?_,?_⟩
 ·rw[Wac];exact small1000 (by omega)
 ·obtain⟨t,ht,rfl⟩:=Zn2 hd
  obtain⟨t1,t2,t3,t4⟩:=h4 t<|Waz ht;exact Zcu ⟨rfl,Za1<|Zab<|Zad rfl<|Zab<|Zad rfl<|Zaf ⟨n,t.1,t.2,rfl,t1,t2,t3,t4,rfl,_,rfl⟩⟩
 rw[Wbx.mpr (by simp),List.map_id'];exact Zaf<|Zds (Or.inl rfl)<|Zaf ⟨Zfk,q⟩
theorem Zjk (mb:Mb mg) (C42:Callee P w K mg base 3 "web_of" ["many","ties"] (spD K fWebOf)) (F:Fun K "with_web" "with_web" Ya0 f fd):FnOk P w K mg base CX0 4 f fd ["many","ties"] (spD K fWithWeb):=by
 refine F.ok Ybh (Za9 λds Post h=>by obtain⟨_,_,rfl,_⟩:=h;rfl) λcdv A outer s H vs Q E hr h=>?_;have hu:=Zb1 hr;refine⟨_,(Zam (Zql λpn=>(Zam<|Zax<|Zbd<|Zaa (Za8 C42 (hr.mono<|by decide)<|Zaa (pv 0)<|Zaa (pv 1) Zac)<|Zaa (Zbd Zac) Zac))),Zcx (λds Post hf=>?_) h⟩;obtain⟨n,ts,rfl,h1,h2,h3,h4,q⟩:=hf;refine⟨by simp,?_⟩;dsimp only[startD,Wbg,Wbh,Wa6,Wad];exact Zba<|Zbh<|Zab<|Za1<|Zab<|Zad rfl<|Zab<|Zad rfl<|Zaf ⟨n,ts,rfl,h1,h2,h3,h4,Zab<|Zbh<|Zaf ⟨by decide,Zaf ⟨Zfk,q⟩⟩⟩
theorem Zk9 (mb:Mb mg) (C46:Callee P w K mg base 4 "with_web" ["many","ties"] (spD K fWithWeb)) (F:Fun K "with_places" "with_places" Yay f fd):FnOk P w K mg base CX0 5 f fd ["numbers"] (spD K fWithPl):=by
 refine F.ok Ybf (Za9 λds Post h=>by obtain⟨_,rfl,_⟩:=h;rfl) λcdv A outer s H vs Q E hr h=>?_;have hu:=Zb1 hr;refine⟨_,(Zam<|Zax<|Zei (Zau Zci (Zah (lenK K) rfl (mb "len"<|by decide) Zbg<|Zaa (pv 0) Zac) Zai<|nomark _) (Za8 C46 (hr.mono<|by decide)<|Zaa (Za6 (ixK K hu) (pv 0) Zai λ_ _=>rfl)<|Zaa (Zbd Zac) Zac) Zb7),Zcx (λds Post hf=>?_) h⟩;obtain⟨n,rfl,h1,h2,q⟩:=hf;refine⟨by simp,?_⟩;dsimp only[startD,Wbg,Wbh,Wa6,Wad];refine Zba<|Zef<|Zav<|Zao<|Za0<|Zab<|Zad rfl<|Zaf<|Zbk (Or.inl rfl)<|Zan<|Zia ⟨_,rfl,iteT ?_⟩;exact Za1<|Zab<|Zao<|Zad rfl<|Zan<|Zbl (d:=.int n) rfl<|Zab<|Zbh<|Zaf ⟨by decide,Zaf ⟨n,[],rfl,h1,h2,by decide,λt h=>(nomatch h),q⟩⟩
theorem Zjy (mb:Mb mg) (C46:Callee P w K mg base 4 "with_web" ["many","ties"] (spD K fWithWeb)) (F:Fun K "with_tie" "with_tie" Yaz f fd):FnOk P w K mg base CX0 5 f fd ["web","numbers"] (spD K fWithTie):=by
 refine F.ok Ybg (Za9 λds Post h=>by obtain⟨_,_,_,rfl,_⟩:=h;rfl) λcdv A outer s H vs Q E hr h=>?_;have hu:=Zb1 hr;refine⟨_,(Zam<|Zax<|Za8 C46 (hr.mono<|by decide)<|Zaa (Za6 (ixK K hu) (pv 0) Zai λ_ _=>rfl)<|Zaa (Zas (addK K) (Za6 (ixK K hu) (pv 0) Zai λ_ _=>rfl)<|Zbd<|Zaa (Za7 (tupK K) rfl (mb "tuple"<|by decide) Zbr<|Zaa (pv 1) Zac) Zac) Zac),Zcx (λds Post hf=>?_) h⟩;obtain⟨n,ts,t,rfl,hW,q⟩:=hf;refine⟨by simp,?_⟩;dsimp only[startD,Wbg,Wbh,Wa6,Wad];have hl:=hW.len;rw[War,Wbs]at hl;refine Zba<|Za1<|Zab<|Zao<|Zad rfl<|Zan<|Zbb (d:=.int n) rfl<|Zab<|Zao<|Zao<|Zad rfl<|Zan<|Zbb (d:=.tup<|ts.map encTie) rfl<|Zbh<|Zab<|Za0<|Zab<|Zad rfl<|Zaf<|Zds (Or.inl rfl)<|Zaf ⟨by show 1<=sizeLine;decide,Zgd ?_<|Zaf ⟨n,ts++[t],?_,hW.lo,hW.hi,hW.len,hW.tie,q⟩⟩
 ·rw[Wac];exact Wbo<|small1000 (by simp;omega)
 ·rw[Wa8];rfl
end
def fEnds:NSp:=λds Post=>∃n ts,∃p:Int,ds=[encWeb n ts,.int p]/\ts.length<=24/\Post ((endsBelow ts (2*ts.length) p).map .int)
def fWithEnds:DSp:=λds Post=>∃(n:Int) (ts:List (Int × Int)) (o:List (List Int)) (p:Nat) (r:List Int),ds=[encWeb n ts,encOrd o,.lst (.int (p:Int)::r.map .int)]/\ts.length<=24/\p<25/\o.length<=p/\r≠[]/\RowOk ts (2*ts.length) (p:Int) r/\Post (.tup [encWeb n ts,encOrd (o++Wad (p-o.length) []++[r])])
theorem Zgu {ts:List (Int × Int)}{m:Nat}{p:Int}{r ms:List Int}(h:RowOk ts m p r) (h1:ms.Perm r) (h2:ms.Pairwise (· <= ·)):ms=endsBelow ts m p:=
 List.Perm.eq_of_pairwise (le:=λa b=>a<=b) (λa b _ _ h1 h2=>by omega) h2 ((Zd4 ts m p).imp λh=>Int.le_of_lt h) (h1.trans h.perm)
theorem Zmp {ts:List (Int × Int)}{m:Nat}{p x:Int}{r:List Int}(h:RowOk ts m p (x::r)):∀a∈x::r,x<=a:=by
 have h1:=h.first;have h2:=Zd4 ts m p;intro a ha;have h3:=h.perm.mem_iff.mp ha;cases e:endsBelow ts m p with
 |nil=>rw[e]at h3;exact nomatch h3
 |cons y l=>
  rw[e]at h1 h2 h3;simp only[List.head?_cons,Wat.injEq]at h1;subst h1;rcases Wah.mp h3 with z|z
  ·omega
  ·exact Int.le_of_lt ((List.pairwise_cons.mp h2).1 a z)
section
variable {P:Program}{w:World}{K:W.Frag}{mg:Str->Option Value}{base:Heap}{f:Addr}{fd:FuncData}
theorem Zim (mb:Mb mg) (C34:Callee P w K mg base 2 "ends_at" ["web","place"] (spN K fEnds)) (F:Fun K "with_ends" "with_ends" Ya1 f fd):FnOk P w K mg base CX0 3 f fd ["web","standing","numbers"] (spD K fWithEnds):=by
 refine F.ok Ya6 (Za9 λds Post h=>by obtain⟨_,_,_,_,_,rfl,_⟩:=h;rfl) λcdv A outer s H vs Q E hr h=>?_;have hu:=Zb1 hr;have hv:=Zf4 hr;refine⟨_,(Zag (Zbm (PW.pt<|pw_or (Zau Zm9 (Zah (lenK K) rfl (mb "len"<|by decide) Zbg<|Zaa (pv 2) Zac) Zai<|nomark _)<|pw_or1<|Zau Zm9 (Za6 (ixK K hu) (pv 2) Zai λ_ _=>rfl) (Zah (lenK K) rfl (mb "len"<|by decide) Zbg<|Zaa (pv 1) Zac)<|nomark _) (Zam<|Zax Zb7) Zaw)<|Zag (Zar (i:=3) Ya6.nd rfl (Or.inl rfl)<|Za6 (ixK K hu) (pv 2) Zai λ_ _=>rfl)<|Zag (Zar (i:=4) Ya6.nd rfl (Or.inl rfl)<|Za7 (tupK K) rfl (mb "tuple"<|by decide) Zbr<|Zaa (Zge (slK K) (pv 2) (Zho Zai) Zig) Zac)<|Zag (Zbm (PW.pt<|pw_or (Zau (neIK K hv) (Zah (sortTK K) rfl (mb "sorted"<|by decide) Ze4<|Zaa (pv 4) Zac) (Za8 C34 (hr.mono<|by decide)<|Zaa (pv 0)<|Zaa (pv 3) Zac)<|nomark _)<|pw_or1<|Zau Zg7 (Za6 (ixK K hu) (pv 4) Zai λ_ _=>rfl) (Zah (minK K rfl) rfl (mb "min"<|by decide) Zme<|Zaa (pv 4) Zac)<|nomark _) (Zam<|Zax Zb7) Zaw)<|Zam<|Zax<|Zbd<|Zaa (pv 0)<|Zaa (Zas (addK K) (Zas (addK K) (pv 1)<|Zas (Zhu K) (Zbd<|Zaa (Zbd Zac) Zac)<|Zas Zit (pv 3)<|Zah (lenK K) rfl (mb "len"<|by decide) Zbg<|Zaa (pv 1) Zac)<|Zbd<|Zaa (pv 4) Zac) Zac),Zcx (λds Post hf=>?_) h⟩;obtain⟨n,ts,o,p,r,rfl,hl,hp,ho,hr0,hR,q⟩:=hf;refine⟨by simp,?_⟩;dsimp only[startD,Wbg,Wbh,Wa6,Wad];have hrl:=hR.len;cases r with
 |nil=>exact absurd rfl hr0
 |cons x r=>
 rw[Wak]at hrl;refine Zap<|Zbn<|Zeb<|Zav<|Zao<|Za0<|Zab<|Zad rfl<|Zaf<|Zbk (Or.inl rfl)<|Zan<|Zfb ⟨_,rfl,?_⟩;rw[decide_eq_false (by simp;omega)];refine iteF<|Zav<|Zao<|Zao<|Zad rfl<|Zan<|Zbl (d:=.int (p:Int)) (Zbj (j:=0) rfl)<|Za0<|Zab<|Zad rfl<|Zaf<|Zbk (Or.inr rfl)<|Zfb ⟨_,rfl,?_⟩;rw[Wac,decide_eq_false (by omega)];refine iteF<|Zaz ?_;refine Zap<|Zay<|Zao<|Zad rfl<|Zan<|Zbl (d:=.int (p:Int)) (Zbj (j:=0) rfl) ?_;have c1:cutD (D.int (p:Int)::(x::r).map D.int) (some 1) none=(x::r).map D.int:=(Ziv _ (j:=1)<|by simp).trans rfl;refine Zap<|Zay<|Za0<|Zab<|Zqi<|Zad rfl<|Zh4<|Zan ⟨_,rfl,Zic ⟨.lst ((x::r).map D.int),by show some (D.lst _)=_;rw[c1],Zaf<|Zds (Or.inl rfl) ?_⟩⟩;refine Zap<|Zbn<|Zeb<|Zav<|Zao<|Zcj<|Zis<|Zab<|Zad rfl<|Zaf ⟨_,rfl,by rw[Wak];omega,λms m1 m2=>⟨_,rfl,?_⟩⟩;rw[Zgu hR m1 m2];refine Zcj<|Zhs<|Zab<|Zad rfl<|Zab<|Zad rfl<|Zaf ⟨n,ts,_,rfl,hl,_,rfl,Zrl ⟨_,rfl,iteF ?_⟩⟩;refine Zav<|Zao<|Zao<|Zad rfl<|Zan<|Zbb (d:=.int x) (Zbj (j:=0) rfl)<|Za0<|Zab<|Zad rfl<|Zaf<|Zqf (ns:=x::r) (m:=x) (Or.inr rfl) (Waq ..) (Zmp hR)<|Zmz ⟨_,rfl,?_⟩;rw[decide_eq_true rfl];refine iteF<|Zaz ?_;refine Zba<|Zbh<|Zab<|Zad rfl<|Zab<|Zao<|Zao<|Zad rfl<|Zao<|Zbh<|Zab<|Zbh<|Zaf ⟨by decide,Zaf ⟨by show 1<=sizeLine;decide,?_⟩⟩;refine Zao<|Zad rfl<|Za0<|Zab<|Zad rfl<|Zaf<|Zbk (Or.inr rfl)<|Zmy<|Zmm ?_ ?_<|Zgd ?_<|Zbh<|Zab<|Zad rfl<|Zaf ⟨by show 1<=sizeLine;decide,Zgd ?_<|Zaf ⟨Zfk,?_⟩⟩
 all_goals rw[Wac]
 ·omega
 ·omega
 ·rw[Wa2];exact Wbo (small1000<|by omega)
 ·rw[War,Wac,Wa2];exact Wbo<|small1000 (by rw[Wbs];omega)
 ·have e:((p:Int)-(o.length:Int)).toNat=p-o.length:=by omega
  rw[e];unfold encOrd at q;rw[Wa8,Wa8,Wcr]at q;exact q
end
theorem Zjd {c:Nat}:∀{a b R S:List Nat},c ∉ a->c ∉ b->(R=[]\/∃r,R=c::r)->(S=[]\/∃s,S=c::s)->a++R=b++S->a=b/\R=S
 |[],[],R,S,_,_,_,_,e=>⟨rfl,e⟩
 |[],y::b,R,S,_,hb,hR,_,e=>by
  rcases hR with rfl|⟨r,rfl⟩
  ·simp at e
  ·rw[List.nil_append,Wbz]at e
   injection e with e1 e2
   exact absurd (by rw[e1];exact Waq) hb
 |x::a,[],R,S,ha,_,_,hS,e=>by
  rcases hS with rfl|⟨s,rfl⟩
  ·simp at e
  ·rw[List.nil_append,Wbz]at e
   injection e with e1 e2
   exact absurd (by rw[<- e1];exact Waq) ha
 |x::a,y::b,R,S,ha,hb,hR,hS,e=>by
  rw[Wbz,Wbz]at e;injection e with e1 e2
  obtain⟨h1,h2⟩:=Zjd (λz=>ha<|Wal _ z) (λz=>hb<|Wal _ z) hR hS e2;exact⟨by rw[e1,h1],h2⟩
theorem Zkc {x y:PySem.Str}(h:x.cps.toList=y.cps.toList):x=y:=by
 cases x;cases y;congr 1;exact Array.toList_inj.mp h
def tailC (c:Nat):List PySem.Str->List Nat
 |[]=>[]
 |z::zs=>c::(Str.join ⟨#[c]⟩ (z::zs)).cps.toList
theorem Zdp (c:Nat) (z:PySem.Str) (zs:List PySem.Str):(Str.join ⟨#[c]⟩ (z::zs)).cps.toList=z.cps.toList++tailC c zs:=by
 cases zs with
 |nil=>show z.cps.toList=_++[];rw[Wba]
 |cons y r=>
  show (z++⟨#[c]⟩++Str.join ⟨#[c]⟩ (y::r)).cps.toList=_;have ap:∀a b:PySem.Str,(a++b).cps.toList=a.cps.toList++b.cps.toList:=λa b=>by
   show (a.cps++b.cps).toList=_;exact Array.toList_append
  rw[ap,ap,Wb2];rfl
theorem Zhj (c:Nat) (zs:List PySem.Str):tailC c zs=[]\/∃r,tailC c zs=c::r:=by
 cases zs with
 |nil=>exact .inl rfl
 |cons z r=>exact .inr ⟨_,rfl⟩
theorem Zgo {c:Nat}:∀{zs ws:List PySem.Str},zs≠[]->ws≠[]->(∀z∈zs,c ∉ z.cps.toList)->(∀z∈ws,c ∉ z.cps.toList)->Str.join ⟨#[c]⟩ zs=Str.join ⟨#[c]⟩ ws->zs=ws
 |[],_,h,_,_,_,_=>absurd rfl h
 |_::_,[],_,h,_,_,_=>absurd rfl h
 |z::zs,w::ws,_,_,hz,hw,e=>by
  have e':=congrArg (λs:PySem.Str=>s.cps.toList) e;have e':(Str.join ⟨#[c]⟩ (z::zs)).cps.toList=(Str.join ⟨#[c]⟩ (w::ws)).cps.toList:=e';rw[Zdp,Zdp]at e';obtain⟨h1,h2⟩:=Zjd (hz z Waq) (hw w Waq) (Zhj c zs) (Zhj c ws) e';have hzw:=Zkc h1;subst hzw;cases zs with
  |nil=>
   cases ws with
   |nil=>rfl
   |cons w2 ws=>cases h2
  |cons z2 zs=>
   cases ws with
   |nil=>cases h2
   |cons w2 ws=>
    injection h2 with _ h3
    rw[Zgo (by simp) (by simp) (λy hy=>hz y<|Wal _ hy) (λy hy=>hw y<|Wal _ hy) (Zkc h3)]
theorem Zft {c:Nat}{zs:List PySem.Str}(h0:zs≠[]) (h:∀z∈zs,c ∉ z.cps.toList):Txt.split (Str.join ⟨#[c]⟩ zs) ⟨#[c]⟩=zs:=by
 refine Zgo (c:=c) ?_ h0 (StrLaws.split_free _ c) h<|StrLaws.join_split _ _;have:=PyProof.Rows.split_pos (Str.join ⟨#[c]⟩ zs) ⟨#[c]⟩;intro z;rw[z]at this;exact absurd this (by decide)
def spNb (n:Nat):Bool:=(numS n).cps.toList.all (· != 32) && (numS n).cps.toList.all (· != 10)
theorem sp49:∀n,n<50->spNb n=true:=by decide +kernel
def unN (z:PySem.Str):Nat:=((Wb0 50).find? λn=>decide (numS n=z)).getD 0
theorem unN49:∀n,n<50->unN (numS n)=n:=by decide +kernel
def toN:D->D
 |.str z=>.int ((unN z:Nat):Int)
 |d=>d
theorem Zre (ns:List Nat) (h:∀n∈ns,n<50):(((ns.map numS).map D.str).filter λ_=>true).map toN=(ns.map λe:Nat=>(e:Int)).map D.int:=by
 rw[Wbx.mpr (by simp),Wa9,Wa9,Wa9];apply Wc7;intro n hn;show D.int ((unN (numS n):Nat):Int)=D.int ((n:Nat):Int);rw[unN49 n (h n hn)]
theorem Zlu {w:PySem.Str}{ns:List Nat}(hw:32 ∉ w.cps.toList) (hn:∀n∈ns,n<50):Txt.split (Str.join (PySem.Str.ofString " ") (w::ns.map numS)) (PySem.Str.ofString " ")=w::ns.map numS:=by
 have e:PySem.Str.ofString " " = ⟨#[32]⟩:=by decide +kernel
 rw[e];refine Zft (Wdd _ _) λz hz=>?_;rcases Wah.mp hz with rfl|hz
 ·exact hw
 ·obtain⟨n,h,rfl⟩:=Wax.mp hz
  have:=sp49 n<|hn n h;unfold spNb at this;rw[Wau]at this;intro h32;have:=Waw.mp this.1 32 h32;exact absurd this (by decide)
def rowN (w:PySem.Str) (ns:List Nat):PySem.Str:=Str.join (PySem.Str.ofString " ") (w::ns.map numS)
def fFloorW:DSp:=λds Post=>∃(d:D) (w:PySem.Str) (ns:List Nat),ds=[d,.str (rowN w ns)]/\32 ∉ w.cps.toList/\(∀n∈ns,n<50)/\ns.length<=50/\(rowN w ns).length<=200 ∧
 ((d=.non/\w=PySem.Str.ofString "places" /\ ∃n:Nat,ns=[n]/\1<=n/\n<=25/\Post (.tup [encWeb n [],.tup []])) ∨
  (∃(n:Int) (ts:List (Int × Int)) (a b:Nat),d=.tup [encWeb n ts,.tup []]/\w=PySem.Str.ofString "tie" /\ ns=[a,b]/\WebOk n (ts++[((a:Int),(b:Int))])/\Post (.tup [encWeb n (ts++[((a:Int),(b:Int))]),.tup []])) ∨
  (∃(n:Int) (ts:List (Int × Int)) (o:List (List Int)) (p:Nat) (r:List Nat),d=.tup [encWeb n ts,encOrd o]/\w=PySem.Str.ofString "at" /\ ns=p::r/\ts.length<=24/\p<25/\o.length<=p/\r≠[]/\RowOk ts (2*ts.length) (p:Int) (r.map λe:Nat=>(e:Int))/\Post (.tup [encWeb n ts,encOrd (o++Wad (p-o.length) []++[r.map λe:Nat=>(e:Int)])])))
section
variable {P:Program}{w:World}{K:W.Frag}{mg:Str->Option Value}{base:Heap}{f:Addr}{fd:FuncData}
theorem Zkm (mb:Mb mg) (C38:Callee P w K mg base 1 "number_written" ["word"] (spD K fNumW)) (C44:Callee P w K mg base 5 "with_places" ["numbers"] (spD K fWithPl)) (C45:Callee P w K mg base 5 "with_tie" ["web","numbers"] (spD K fWithTie)) (C43:Callee P w K mg base 3 "with_ends" ["web","standing","numbers"] (spD K fWithEnds)) (F:Fun K "floor_with" "floor_with" Yap f fd):FnOk P w K mg base CX0 6 f fd ["floor","row"] (spD K fFloorW):=by
 refine F.ok Yal (Za9 λds Post h=>by obtain⟨_,_,_,rfl,_⟩:=h;rfl) λcdv A outer s H vs Q E hr h=>?_;have hu:=Zb1 hr;have hv:=Zf4 hr;refine⟨_,(Zag (Zar (i:=2) Yal.nd rfl (Or.inl rfl)<|bmK K PySem.F.plainAttrs_str PySem.F.slot_str_split PySem.F.type_str_split (splitK K) (pv 1)<|Zaa Zbx Zac)<|Zag (Zi4 (i:=3) ["word"] (show CompSc (defScope Yap) ["floor","row","words","numbers","web","standing"] _ [] [] from ⟨rfl,by decide +kernel,by decide +kernel,by decide +kernel,rfl,by decide +kernel⟩) rfl Yal.nd rfl (Or.inl rfl) (seqK K<|Zge (slK K) (pv 2) (Zho Zai) Zig) (λ_ _ _ _ _=>(Zat (i:=0) (show List.Nodup (["word"]:List Str) from by decide) rfl<|Or.inl rfl)) (λ_ _ _ _ _=>Zck) λ_ _ _ _ _=>(Za8 C38 (hr.mono<|by decide)<|Zaa (pv 0) Zac))<|Zag (Zbm (Zau (inK K hu) Zb7 (pv 3) rfl) (Zam<|Zax Zb7) Zaw)<|Zag (Zbm (Zau Zlp (pv 0) Zb7<|nomark _) (Zam<|Zax<|Zei (Zau Zci (Za6 (ixK K hu) (pv 2) Zai λ_ _=>rfl) Zbx<|nomark _) (Za8 C44 (hr.mono<|by decide)<|Zaa (pv 3) Zac) Zb7) Zaw)<|Zag (Zfo (pv 0)<|gtupK (n:=2) K rfl<|Za3 (Zat (i:=4) Yal.nd rfl<|Or.inl rfl)<|Za3 (Zat (i:=5) Yal.nd rfl<|Or.inl rfl) Zct)<|Zag (Zbm (PW.pt<|pw_and (Zau Zci (Za6 (ixK K hu) (pv 2) Zai λ_ _=>rfl) Zbx<|nomark _)<|pw_and1<|Zbv<|truK K (pv 5) λ_=>rfl) (Zam<|Zax<|Za8 C45 (hr.mono<|by decide)<|Zaa (pv 4)<|Zaa (pv 3) Zac) Zaw)<|Zam<|Zax<|Zei (Zau Zci (Za6 (ixK K hu) (pv 2) Zai λ_ _=>rfl) Zbx<|nomark _) (Za8 C43 (hr.mono<|by decide)<|Zaa (pv 4)<|Zaa (pv 5)<|Zaa (pv 3) Zac) Zb7),Zcx (λds Post hf=>?_) h⟩;obtain⟨d,wd,ns,rfl,hw,hn,hk,hz,q⟩:=hf;refine⟨by simp,?_⟩;dsimp only[startD,Wbg,Wbh,Wa6,Wad];have hz2:(rowN wd ns).length+2<=sizeLine:=Was (Wc6 hz 2) (by decide);refine Zap<|Zay<|Zcj<|Zgi<|Zad rfl ⟨_,rfl,Zbs ⟨_,rfl,by decide,hz2,_,rfl,?_⟩⟩;unfold rowN;rw[Zlu hw hn];have c1:cutD ((wd::ns.map numS).map D.str) (some 1) none=(ns.map numS).map D.str:=(Ziv _ (j:=1)<|by simp).trans rfl;refine Zap<|Zay<|Zcg (by decide)<|Zke<|Zqi<|Zad rfl<|Zh4<|Zan ⟨_,rfl,Zic ⟨.lst ((ns.map numS).map D.str),by show some (D.lst _)=_;rw[c1],_,Or.inl rfl,?_,λ_=>true,toN,λi d hd=>?_,?_⟩⟩
 ·rw[Wac,Wac];exact small1000 (by omega)
 ·rw[Wa9,Waj]at hd
  cases z:ns[i]? with
  |none=>rw[z]at hd;exact nomatch hd
  |some m=>
   rw[z]at hd;cases hd;have hm:=hn m<|Waz z;refine Zcu ⟨rfl,Za1<|Zab<|Zad rfl<|Zaf ⟨m,rfl,hm,?_,_,rfl⟩⟩;show D.int ((m:Nat):Int)=D.int ((unN (numS m):Nat):Int);rw[unN49 m hm]
 rw[Zre ns hn];refine Zap<|Zbn<|Zav<|Zao<|Zd5<|Zad rfl<|Ztk ⟨_,rfl,iteF<|Zaz ?_⟩;rcases q with ⟨rfl,rfl,n,rfl,h1,h2,q⟩|q
 ·refine Zap (Zbn<|Zav<|Zao<|Zad rfl<|Zd5<|Zsl ⟨_,rfl,iteT ?_⟩)
  refine Zba<|Zef<|Zav<|Zao<|Zao<|Zad rfl<|Zan<|Zbl (d:=.str<|PySem.Str.ofString "places") (Zbj (j:=0) rfl)<|Zbs<|Ze1 ⟨_,rfl,?_⟩;rw[decide_eq_true rfl];exact iteT<|Za1<|Zab<|Zad rfl<|Zaf ⟨(n:Int),rfl,by omega,by omega,q⟩
 rcases q with ⟨n,ts,a,b,rfl,rfl,rfl,hW,q⟩|⟨n,ts,o,p,r,rfl,rfl,rfl,hl,hp,ho,hr0,hR,q⟩
 ·refine Zap (Zbn<|Zav<|Zao<|Zad rfl<|Zd5<|Zh9 ⟨_,rfl,iteF<|Zaz ?_⟩)
  refine Zap<|Zmf<|Zad rfl<|Zhb rfl<|Zbp<|Zb3<|Zbp<|Zb3<|Zem ?_;refine Zap<|Zbn<|Ze9<|Zav<|Zao<|Zao<|Zad rfl<|Zan<|Zbl (d:=.str<|PySem.Str.ofString "tie") (Zbj (j:=0) rfl)<|Zbs<|Ze1 ⟨_,rfl,?_⟩;rw[decide_eq_true rfl];refine iteT<|Zb0<|Zbi<|Zad rfl ⟨false,rfl,iteT ?_⟩;exact Zba<|Za1<|Zab<|Zad rfl<|Zab<|Zad rfl<|Zaf ⟨n,ts,((a:Int),(b:Int)),rfl,hW,q⟩
 ·refine Zap (Zbn<|Zav<|Zao<|Zad rfl<|Zd5<|Zh9 ⟨_,rfl,iteF<|Zaz ?_⟩)
  refine Zap<|Zmf<|Zad rfl<|Zhb rfl<|Zbp<|Zb3<|Zbp<|Zb3<|Zem ?_;refine Zap<|Zbn<|Ze9<|Zav<|Zao<|Zao<|Zad rfl<|Zan<|Zbl (d:=.str<|PySem.Str.ofString "at") (Zbj (j:=0) rfl)<|Zbs<|Ze1 ⟨_,rfl,?_⟩;rw[decide_eq_false (by decide +kernel)];refine iteF<|iteF<|Zaz ?_;refine Zba<|Zef<|Zav<|Zao<|Zao<|Zad rfl<|Zan<|Zbl (d:=.str<|PySem.Str.ofString "at") (Zbj (j:=0) rfl)<|Zbs<|Ze1 ⟨_,rfl,?_⟩;rw[decide_eq_true rfl];exact iteT<|Za1<|Zab<|Zad rfl<|Zab<|Zad rfl<|Zab<|Zad rfl<|Zaf ⟨n,ts,o,p,_,rfl,hl,hp,ho,by simpa using hr0,hR,q⟩
end
def fPlace:DSp:=λds Post=>∃n ts,∃e:Nat,ds=[encWeb n ts,.int e]/\e<2*ts.length/\Post (.int<|placeAt ts e)
theorem Zik (ts:List (Int × Int)) (m:Nat) (p:Int) (q:D->Bool) (hq:∀k:Nat,q (.int (0+(k:Int)))=decide (placeAt ts k=p)):(rngD 0 m).filter q=(endsBelow ts m p).map .int:=by
 unfold rngD endsBelow;rw[List.filter_map,Wa9];have e:(q∘λi:Nat=>D.int (0+(i:Int)))=λe=>decide (placeAt ts e=p):=by
  funext k;exact hq k
 rw[e];apply Wc7;intro k _;show D.int (0+(k:Int))=D.int (k:Int);rw[Wb7]
section
variable {P:Program}{w:World}{K:W.Frag}{mg:Str->Option Value}{base:Heap}{f:Addr}{fd:FuncData}
theorem Zno (mb:Mb mg) (F:Fun K "place_of" "place_of" Yax f fd):FnOk P w K mg base CX0 1 f fd ["web","end"] (spD K fPlace):=by
 refine F.ok Ybd (Za9 λds Post h=>by obtain⟨_,_,_,rfl,_⟩:=h;rfl) λcdv A outer s H vs Q E hr h=>?_;have hu:=Zb1 hr;refine⟨_,(Zam<|Zax<|Za6 (ixK K hu) (Za6 (ixK K hu) (Za6 (ixK K hu) (pv 0) Zai λ_ _=>rfl) (Zas Zin (pv 1) Zai) λ_ _=>rfl) (Zas Zch (pv 1) Zai) λ_ _=>rfl),Zcx (λds Post hf=>?_) h⟩;obtain⟨n,ts,e,rfl,he,q⟩:=hf;refine⟨by simp,?_⟩;dsimp only[startD,Wbg,Wbh,Wa6];obtain⟨t,h1,h2,h3⟩:=Zo2 he;rw[Wb7]at h2 h3;refine Zba<|Zao<|Zao<|Zao<|Zad rfl<|Zan<|Zbb (d:=.tup<|ts.map encTie) rfl ?_;refine Zao<|Zad rfl<|Zan<|jr_I ⟨by omega,by omega⟩<|Zbb h2 ?_;exact Zao<|Zad rfl<|Zan<|jr_I (by show (0:Int)<2;omega)<|Zbb h3 q
theorem Zjo (mb:Mb mg) (C39:Callee P w K mg base 1 "place_of" ["web","end"] (spD K fPlace)) (F:Fun K "ends_at" "ends_at" Yao f fd):FnOk P w K mg base CX0 2 f fd ["web","place"] (spN K fEnds):=by
 refine F.ok Ybc (Zki λds Post h=>by obtain⟨_,_,_,rfl,_⟩:=h;rfl) λcdv A outer s H vs Q E hr h=>?_;have hu:=Zb1 hr;refine⟨_,(Zam<|Zax<|Zbq ["end"] (show CompSc (defScope Yao) ["web","place"] _ ["web","place"] [0,1] from ⟨rfl,by decide +kernel,by decide +kernel,by decide +kernel,rfl,by decide +kernel⟩) rfl (Zb4 rfl (mb "range"<|by decide)<|Zaa (Zas Zd6 Zai<|Zah (lenK K) rfl (mb "len"<|by decide) Zbg<|Zaa (Za6 (ixK K hu) (pv 0) Zai λ_ _=>rfl) Zac) Zac) (λ_ _ _ _ _=>(Zat (i:=0) (show List.Nodup (["end","web","place"]:List Str) from by decide) rfl<|Or.inl rfl)) (λ_ _ _ _ _=>(Zh0<|Zau Zci (Za8 C39 (hr.mono<|by decide)<|Zaa (pv 1)<|Zaa (pv 0) Zac) (pv 2)<|nomark _)) λ_ _ _ _ _=>(pv 0)),Ztl (λds Post hf=>?_) h⟩;obtain⟨n,ts,p,rfl,hl,q⟩:=hf;refine⟨by simp,?_⟩;dsimp only[startD,Wbg,Wbh,Wa6];refine Zlt<|Zn7 (by decide)<|Zb8 ?_;refine Zab<|Zao<|Zan<|Za0 ?_;refine Zab<|Zao<|Zad rfl<|Zan<|Zbb (d:=.tup<|ts.map encTie) rfl ?_;refine Zaf<|Zbk (Or.inr rfl) ?_;rw[Wac];refine jr_I (Or.inl ⟨by omega,by omega⟩)<|Zaf ⟨_,rfl,by omega,by omega,?_⟩;have eL:((2:Int)*(ts.length:Int)).toNat=2*ts.length:=by omega
 rw[eL];refine⟨by rw[Zbf];exact small1000 (by omega),λd=>match d with|.int e=>decide (placeAt ts e.toNat=p)|_=>false,λd=>d,λi d hd=>?_,?_⟩
 ·obtain⟨hi,rfl⟩:=Zcf hd
  refine Zav<|Zao<|Za1<|Zab<|Zad rfl<|Zab<|Zad rfl<|Zaf ⟨n,ts,i,by rw[Wb7],hi,?_⟩;refine Zad rfl<|Zia ⟨_,rfl,?_,?_⟩
  ·show _=decide (placeAt ts (0+(i:Int)).toNat=p)
   rw[Wb7,Wci]
  ·by_cases hp:placeAt ts i=p
   ·rw[decide_eq_true hp,if_pos rfl];exact Zad rfl ⟨rfl,_,rfl⟩
   ·rw[decide_eq_false hp,if_neg Wai];exact⟨_,rfl⟩
 ·rw[List.map_id',Zik ts _ p _ λk=>by show decide (placeAt ts (0+(k:Int)).toNat=p)=_;rw[Wb7,Wci]]
  exact⟨_,rfl,q⟩
end
theorem Zou (n:Nat):rowN (PySem.Str.ofString "places") [n]=linP (n:Int):=Zrv (n:Int)
theorem Zo9 (a b:Nat):rowN (PySem.Str.ofString "tie") [a,b]=linT ((a:Int),(b:Int)):=Zr4 ((a:Int),(b:Int))
theorem Zow (p:Nat) (r:List Nat):rowN (PySem.Str.ofString "at") (p::r)=linA (p:Int) (r.map λe:Nat=>(e:Int)):=by
 rw[<- Zsf];unfold rowN rowT;rw[Wav,Wav,Wav,Wa9,Wa9];rfl
theorem Zh3 (k:Nat) (o:List (List Int)):linsA k ([]::o)=linsA (k+1) o:=by
 show (if ([]:List Int)=[] then [] else [linA k []])++linsA (k+1) o=_;rw[if_pos rfl];rfl
theorem Zh6 (k:Nat) {r:List Int}(e:r≠[]) (o:List (List Int)):linsA k (r::o)=linA k r::linsA (k+1) o:=by
 show (if r=[] then [] else [linA k r])++linsA (k+1) o=_;rw[if_neg e];rfl
theorem Zfg:∀(o:List (List Int)) (k:Nat) {z:Str}{zs:List Str},linsA k o=z::zs->∃(p:Nat) (r:List Int),o[p]?=some r/\r≠[]/\z=linA ((k+p:Nat):Int) r/\o.take p=Wad p []/\zs=linsA (k+p+1) (o.drop<|p+1)
 |[],k,z,zs,h=>by exact nomatch h
 |r::o,k,z,zs,h=>by
  by_cases e:r=[]
  ·have h2:linsA (k+1) o=z::zs:=by rw[<- h];subst e;exact(Zh3 k o).symm
   obtain⟨p,s,a1,a2,a3,a4,a5⟩:=Zfg o (k+1) h2;refine⟨p+1,s,by simpa using a1,a2,by rw[a3];congr 2;omega,by rw[List.take_succ_cons,a4,e,Wbl],?_⟩;rw[a5,List.drop_succ_cons];congr 1;omega
  ·have h2:linA (k:Int) r::linsA (k+1) o=z::zs:=by rw[<- h];exact(Zh6 k e o).symm
   injection h2 with b1 b2
   exact⟨0,r,rfl,e,b1.symm,rfl,b2.symm⟩
theorem Zfs:∀(o:List (List Int)) (k:Nat),linsA k o=[]->o=Wad o.length []
 |[],_,_=>rfl
 |r::o,k,h=>by
  by_cases e:r=[]
  ·have h2:linsA (k+1) o=[]:=by rw[<- h];subst e;exact(Zh3 k o).symm
   rw[Wak,Wbl,<- Zfs o (k+1) h2,e]
  ·have h2:linA (k:Int) r::linsA (k+1) o=[]:=by rw[<- h];exact(Zh6 k e o).symm
   exact nomatch h2
theorem Zje {c x:Nat}:∀{zs:List PySem.Str},x∈(Str.join ⟨#[c]⟩ zs).cps.toList->x=c\/∃z∈zs,x∈z.cps.toList
 |[],h=>by exact absurd h (by show x ∉ ([]:List Nat);simp)
 |z::zs,h=>by
  rw[Zdp]at h;rcases Wa7.mp h with h|h
  ·exact .inr ⟨z,Waq ..,h⟩
  ·cases zs with
   |nil=>exact nomatch h
   |cons y r=>
    rcases Wah.mp h with h|h
    ·exact .inl h
    ·rcases Zje h with h|⟨a,b,d⟩
     ·exact .inl h
     ·exact .inr ⟨a,Wal _ b,d⟩
theorem no10 {w:PySem.Str}{ns:List Nat}(hw:10 ∉ w.cps.toList) (hn:∀n∈ns,n<50):10 ∉ (rowN w ns).cps.toList:=by
 have e:PySem.Str.ofString " " = ⟨#[32]⟩:=by decide +kernel
 unfold rowN;rw[e];intro h0;rcases Zje h0 with h|⟨z,hz,h⟩
 ·exact absurd h (by decide)
 ·rcases Wah.mp hz with rfl|hz
  ·exact hw h
  ·obtain⟨n,h1,rfl⟩:=Wax.mp hz
   have:=sp49 n<|hn n h1;unfold spNb at this;rw[Wau]at this;exact absurd (Waw.mp this.2 10 h) (by decide)
theorem Ziq {ts:List (Int × Int)}{m:Nat}{p e:Int}(h:e∈endsBelow ts m p):∃k:Nat,e=(k:Int)/\k<m:=by
 unfold endsBelow at h;obtain⟨k,hk,rfl⟩:=Wax.mp h;exact⟨k,rfl,Wch.mp (Wcm.mp hk).1⟩
theorem Zkk {r:List Int}{m:Nat}(h:∀e∈r,∃k:Nat,e=(k:Int)/\k<m):(r.map Int.toNat).map (λe:Nat=>(e:Int))=r/\∀n∈r.map Int.toNat,n<m:=by
 refine⟨?_,λn hn=>?_⟩
 ·rw[Wa9]
  conv=>rhs;rw[<- List.map_id r]
  apply Wc7;intro e he;obtain⟨k,rfl,_⟩:=h e he;rfl
 ·obtain⟨e,he,rfl⟩:=Wax.mp hn
  obtain⟨k,rfl,hk⟩:=h e he;exact hk
theorem Zg8:∀(o:List (List Int)) (k:Nat) {z:Str},z∈linsA k o->∃(p:Nat) (r:List Int),o[p]?=some r/\z=linA ((k+p:Nat):Int) r
 |[],k,z,h=>by exact nomatch h
 |r::o,k,z,h=>by
  rcases Wa7.mp (show z∈(if r=[] then [] else [linA (k:Int) r])++linsA (k+1) o from h) with h|h
  ·by_cases e:r=[]
   ·rw[if_pos e]at h;exact nomatch h
   ·rw[if_neg e]at h;exact⟨0,r,rfl,Wbe.mp h⟩
  ·obtain⟨p,s,a,b⟩:=Zg8 o (k+1) h
   exact⟨p+1,s,by simpa using a,by rw[b];congr 2;omega⟩
theorem Zgr {n:Int}{ts:List (Int × Int)}{o:List (List Int)}(hW:WebOk n ts) (hO:OrdOk n ts o):Txt.split (txt n ts o) (PySem.Str.ofString "\n")=lins n ts o:=by
 have e:PySem.Str.ofString "\n" = ⟨#[10]⟩:=by decide +kernel
 have l1:=hW.lo;have l2:=hW.hi;have l3:=hW.len;have l4:=hO.len;unfold txt;rw[e];refine Zft (Wdd _ _) λz hz=>?_;rcases Wa7.mp hz with hz|hz
 ·rcases Wah.mp hz with rfl|hz
  ·have e2:n=((n.toNat:Nat):Int):=by omega
   rw[e2,<- Zou];exact no10 (by decide +kernel) (by simp;omega)
  ·obtain⟨t,ht,rfl⟩:=Wax.mp hz
   obtain⟨a,b⟩:=t;obtain⟨t1,t2,t3,t4⟩:=hW.tie _ ht;dsimp only at t1 t2 t3 t4;have e2:a=((a.toNat:Nat):Int):=by omega
   have e3:b=((b.toNat:Nat):Int):=by omega
   rw[e2,e3,<- Zo9];exact no10 (by decide +kernel) (by simp;omega)
 ·obtain⟨p,r,h1,rfl⟩:=Zg8 o 0 hz
  have hR:=hO.row p r h1;have hp:p<o.length:=(Wap.mp h1).1;obtain⟨h2,h3⟩:=Zkk (r:=r) (m:=2*ts.length) λe he=>Ziq<|hR.perm.mem_iff.mp he;rw[<- h2,Wc2,<- Zow];refine no10 (by decide +kernel) λx hx=>?_;rcases Wah.mp hx with rfl|hx
  ·omega
  ·have:=h3 x hx;omega
def FlSt (n:Int) (ts:List (Int × Int)) (o:List (List Int)) (i:Nat) (d:D):Prop:=
 (i=0/\d=.non)\/(∃k,i=k+1/\k<=ts.length/\d=.tup [encWeb n (ts.take k),.tup []])\/∃q,i=1+ts.length+(linsA 0<|o.take q).length/\q<=o.length/\d=.tup [encWeb n ts,encOrd (o.take q)]
theorem Zll {n:Int}{ts:List (Int × Int)}{o:List (List Int)}{i:Nat}{d:D}{z:Str}(hW:WebOk n ts) (hO:OrdOk n ts o) (h:FlSt n ts o i d) (hz:(lins n ts o)[i]?=some z) :
  ∃ds,FlSt n ts o (i+1) (.tup ds)/\∀Post:D->Prop,Post (.tup ds)->fFloorW [d,.str z] Post:=by
 have l1:=hW.lo;have l2:=hW.hi;have l3:=hW.len;have l4:=hO.len;have sm:=(Zc1<|Zq0 hW hO).2 z (Waz hz);have third:∀q,i=1+ts.length+(linsA 0<|o.take q).length->q<=o.length->d=.tup [encWeb n ts,encOrd (o.take q)]->∃ds,FlSt n ts o (i+1) (.tup ds)/\∀Post:D->Prop,Post (.tup ds)->fFloorW [d,.str z] Post:=λq e1 e2 e3=>by
  have a1:linsA 0 o=linsA 0 (o.take q)++linsA q (o.drop q):=by
   have:=Zco (o.take q) (o.drop q) 0;rw[Wcj,Wbd,Wco e2,Wc2]at this;exact this
  have a2:(linsA q<|o.drop q)[0]?=some z:=by
   have:(lins n ts o)[i]?=(linsA q<|o.drop q)[0]?:=by
    unfold lins;rw[a1,Wa1 (by simp;omega),Wa1 (by simp;omega)];congr 1;simp;omega
   rw[<- this];exact hz
  cases a3:linsA q (o.drop q) with
  |nil=>rw[a3]at a2;exact nomatch a2
  |cons z' zs=>
   rw[a3]at a2;cases a2;obtain⟨p,r,b1,b2,b3,b4,b5⟩:=Zfg _ _ a3;rw[List.getElem?_drop]at b1;have hp:q+p<o.length:=(Wap.mp b1).1;have hR:=hO.row _ r b1;obtain⟨h2,h3⟩:=Zkk (r:=r) (m:=2*ts.length) λe he=>Ziq<|hR.perm.mem_iff.mp he;have eo:o.take (q+p+1)=o.take q++Wad (q+p-(o.take q).length) []++[r]:=by
    rw[List.take_succ,b1,List.take_add,b4,Wbd,Wco e2,Wcw];rfl
   have hrl:=hR.len;refine⟨[encWeb n ts,encOrd (o.take<|q+p+1)],.inr (.inr ⟨q+p+1,?_,by omega,rfl⟩),λPost hq=>?_⟩
   ·rw[eo,Zco,Zco,War,War,Zh6 _ b2]
    have z0:∀(m k:Nat),linsA k (Wad m [])=[]:=λm=>by
     induction m with
     |zero=>intro k;rfl
     |succ m ih=>intro k;rw[Wbl,Zh3,ih]
    rw[z0,e1];show _=1+ts.length+((linsA 0<|o.take q).length+0+1);omega
   ·have er:z=rowN (PySem.Str.ofString "at") ((q+p)::r.map Int.toNat):=by rw[Zow,h2];exact b3
    rw[er]at sm ⊢;refine⟨d,_,_,rfl,by decide +kernel,λx hx=>?_,?_,sm,.inr (.inr ⟨n,ts,o.take q,q+p,r.map Int.toNat,e3,rfl,rfl,l3,by omega,by rw[Wbd];omega,by simpa using b2,by rw[h2];exact hR,?_⟩)⟩
    ·rcases Wah.mp hx with rfl|hx
     ·omega
     ·have:=h3 x hx;omega
    ·rw[Wak,Wac];omega
    ·rw[h2,<- eo];exact hq
 rcases h with ⟨rfl,rfl⟩|⟨k,rfl,hk,rfl⟩|⟨q,e1,e2,e3⟩
 ·have e2:n=((n.toNat:Nat):Int):=by omega
  have ez:z=rowN (PySem.Str.ofString "places") [n.toNat]:=by rw[Zou,<- e2];exact(Wat.inj hz).symm
  rw[ez]at sm ⊢;refine⟨[encWeb n [],.tup []],.inr (.inl ⟨0,rfl,Wbn _,rfl⟩),λPost hq=>⟨.non,_,_,rfl,by decide +kernel,by simp;omega,by simp,sm,.inl ⟨rfl,rfl,n.toNat,rfl,by omega,by omega,by rw[<- e2];exact hq⟩⟩⟩
 ·by_cases hk2:k<ts.length
  ·have e0:(lins n ts o)[k+1]?=some (linT ts[k]):=by
    unfold lins;rw[Wbz,List.getElem?_cons_succ,Wbb (by simpa using hk2),Waj,Wab hk2];rfl
   rw[e0]at hz;have hz:=Wat.inj hz;obtain⟨t1,t2,t3,t4⟩:=hW.tie _<|Wbf hk2;generalize et:ts[k]=t at hz t1 t2 t3 t4;obtain⟨a,b⟩:=t;dsimp only at t1 t2 t3 t4;have ea:a=((a.toNat:Nat):Int):=by omega
   have eb:b=((b.toNat:Nat):Int):=by omega
   have ez:z=rowN (PySem.Str.ofString "tie") [a.toNat,b.toNat]:=by rw[Zo9,<- ea,<- eb];exact hz.symm
   have etk:ts.take (k+1)=ts.take k++[((a.toNat:Int),(b.toNat:Int))]:=by
    rw[List.take_succ,Wab hk2,et,<- ea,<- eb];rfl
   rw[ez]at sm ⊢;refine⟨[encWeb n (ts.take<|k+1),.tup []],.inr (.inl ⟨k+1,rfl,hk2,rfl⟩),λPost hq=>⟨_,_,_,rfl,by decide +kernel,by simp;omega,by simp,sm,.inr (.inl ⟨n,ts.take k,a.toNat,b.toNat,rfl,rfl,rfl,?_,by rw[<- etk];exact hq⟩)⟩⟩;rw[<- etk];exact⟨l1,l2,by rw[Wbd];omega,λt ht=>hW.tie t<|List.mem_of_mem_take ht⟩
  ·exact third 0 (by simp[linsA];omega) (Wbn _) (by rw[Wbp (by omega)];rfl)
 ·exact third q e1 e2 e3
theorem Zok {n:Int}{ts:List (Int × Int)}{o:List (List Int)}{d:D}(h:FlSt n ts o (lins n ts o).length d):∃q,q<=o.length/\d=.tup [encWeb n ts,encOrd (o.take q)]/\o=o.take q++Wad (o.length-q) []:=by
 have key:∀q,q<=o.length->(linsA 0<|o.take q).length=(linsA 0 o).length->o=o.take q++Wad (o.length-q) []:=λq e2 e=>by
  have a1:linsA 0 o=linsA 0 (o.take q)++linsA q (o.drop q):=by
   have:=Zco (o.take q) (o.drop q) 0;rw[Wcj,Wbd,Wco e2,Wc2]at this;exact this
  have a2:linsA q (o.drop q)=[]:=by
   apply List.length_eq_zero_iff.mp;have:=congrArg Wa6 a1;rw[War]at this;omega
  have a3:=Zfs _ _ a2;rw[Wb4]at a3;rw[<- a3,Wcj]
 have hl:(lins n ts o).length=1+ts.length+(linsA 0 o).length:=by unfold lins;simp;omega
 rcases h with ⟨e,_⟩|⟨k,e,hk,rfl⟩|⟨q,e1,e2,e3⟩
 ·omega
 ·have hk2:k=ts.length:=by omega
  refine⟨0,Wbn _,by rw[hk2,Wcx];rfl,key 0 (Wbn _) (by show 0=_;omega)⟩
 ·exact⟨q,e2,e3,key q e2<|by omega⟩
theorem Zc7 (c B:Nat):∀(zs:List PySem.Str),(∀z∈zs,z.length<=B)->(Str.join ⟨#[c]⟩ zs).cps.toList.length<=zs.length*(B+1)
 |[],_=>Wbn _
 |z::zs,h=>by
  have hz:z.cps.toList.length<=B:=by simpa [Str.length] using h z (Waq ..)
  rw[Zdp,War,Wak,Nat.add_mul,Nat.one_mul];cases zs with
  |nil=>show _+0<=_;omega
  |cons y r=>
   have:=Zc7 c B (y::r) λa ha=>h a<|Wal _ ha;show _+(_+1)<=_;omega
theorem Zmr {n:Int}{ts:List (Int × Int)}{o:List (List Int)}(hW:WebOk n ts) (hO:OrdOk n ts o):(txt n ts o).length<=10050:=by
 have e:PySem.Str.ofString "\n" = ⟨#[10]⟩:=by decide +kernel
 obtain⟨h1,h2⟩:=Zc1<|Zq0 hW hO;have:=Zc7 10 200 _ h2;rw[<- e]at this;have h3:(lins n ts o).length*(200+1)<=50*201:=Nat.mul_le_mul_right _ h1;have h4:(txt n ts o).length=(Str.join (PySem.Str.ofString "\n")<|lins n ts o).cps.toList.length:=by unfold txt;simp[Str.length]
 omega
theorem Zh1 (a:List Int):Dp 2 (.lst<|a.map D.int):=λd hd=>by
 obtain⟨x,_,rfl⟩:=Wax.mp hd;exact True.intro
def fRead:DSp:=λds Post=>∃(n:Int) (ts:List (Int × Int)) (o:List (List Int)),ds=[.str (txt n ts o)]/\WebOk n ts/\OrdOk n ts o/\Post (.tup [encWeb n ts,encOrd o])
section
variable {P:Program}{w:World}{K:W.Frag}{mg:Str->Option Value}{base:Heap}{f:Addr}{fd:FuncData}
theorem Zpj (mb:Mb mg) (C35:Callee P w K mg base 6 "floor_with" ["floor","row"] (spD K fFloorW)) (C34:Callee P w K mg base 2 "ends_at" ["web","place"] (spN K fEnds)) (F:Fun K "read" "read" Yah f fd):FnOk P w K mg base CX0 7 f fd ["text"] (spD K fRead):=by
 refine F.ok Yaa (Za9 λds Post h=>by obtain⟨_,_,_,rfl,_⟩:=h;rfl) λcdv A outer s H vs Q E hr h=>?_;have hu:=Zb1 hr;have hv:=Zf4 hr;refine⟨_,(Zag (Zbm (Zbv<|truK K (Zah (isiUK K) rfl (mb "isinstance"<|by decide) Zae<|Zaa (pv 0)<|Zaa (Zbu rfl (mb "str"<|by decide) Ze6 (show RelV (.ty "str") _ from rfl)) Zac) λ_=>rfl) Zcd Zaw)<|Zag (Zar (i:=1) Yaa.nd rfl (Or.inl rfl)<|bmK K PySem.F.plainAttrs_str PySem.F.slot_str_split PySem.F.type_str_split (splitK K) (pv 0)<|Zaa Zbx Zac)<|Zag (Zar (i:=2) Yaa.nd rfl (Or.inl rfl) Zb7)<|Zag (Zd7 PassesOwn.never rfl (Ziy K rfl (mb "enumerate"<|by decide)<|Zaa (pv 1) Zac) (gtupK (n:=2) K rfl<|Za3 (Zat (i:=3) Yaa.nd rfl<|Or.inl rfl)<|Za3 (Zat (i:=4) Yaa.nd rfl<|Or.inl rfl) Zct)<|Zag (Zar (i:=2) Yaa.nd rfl (Or.inl rfl)<|Za8 C35 (hr.mono<|by decide)<|Zaa (pv 2)<|Zaa (pv 4) Zac)<|Zam<|Zbm (Zau Zlp (pv 2) Zb7<|nomark _) Zcd Zaw)<|Zag (Zfo (pv 2)<|gtupK (n:=2) K rfl<|Za3 (Zat (i:=5) Yaa.nd rfl<|Or.inr rfl)<|Za3 (Zat (i:=6) Yaa.nd rfl<|Or.inl rfl) Zct)<|Zag (Zar (i:=7) Yaa.nd rfl (Or.inl rfl)<|Zas (addK K) (pv 6)<|Zas (Zhu K) (Zbd<|Zaa (Zbd Zac) Zac)<|Zas Zit (Za6 (ixK K hu) (pv 5) Zai λ_ _=>rfl)<|Zah (lenK K) rfl (mb "len"<|by decide) Zbg<|Zaa (pv 6) Zac)<|Zag (Zbm (Zbv<|truK K (Zah (allK K rfl) rfl (mb "all"<|by decide) Zi9<|Zaa (Zbq ["place","ends"] (show CompSc (defScope Yah) ["text","rows","floor","at","row","web","standing","order"] _ ["web"] [5] from ⟨rfl,by decide +kernel,by decide +kernel,by decide +kernel,rfl,by decide +kernel⟩) rfl (Zd3 K rfl (mb "enumerate"<|by decide)<|Zaa (pv 7) Zac) (λ_ _ _ _ _=>(gtupK (n:=2) K rfl<|Za3 (Zat (i:=0) (show List.Nodup (["place","ends","web"]:List Str) from by decide) rfl<|Or.inl rfl)<|Za3 (Zat (i:=1) (show List.Nodup (["place","ends","web"]:List Str) from by decide) rfl<|Or.inl rfl) Zct)) (λ_ _ _ _ _=>Zck) λ_ _ _ _ _=>(Zdx (eqDK K hv) (Zah (sortTK K) rfl (mb "sorted"<|by decide) Ze4<|Zaa (pv 1) Zac) (Za8 C34 (hr.mono<|by decide)<|Zaa (pv 2)<|Zaa (pv 0) Zac)<|nomark _)) Zac) λ_=>rfl) Zcd Zaw)<|Zam<|Zax<|Zbd<|Zaa (pv 5)<|Zaa (pv 7) Zac),Zcx (λds Post hf=>?_) h⟩;obtain⟨n,ts,o,rfl,hW,hO,q⟩:=hf;refine⟨by simp,?_⟩;dsimp only[startD,Wbg,Wbh,Wa6,Wad];have l1:=hW.lo;have l2:=hW.hi;have l3:=hW.len;have l4:=hO.len;have hz2:(txt n ts o).length+2<=sizeLine:=Was (Wc6 (Zmr hW hO) 2) (by decide);refine Zap<|Zbn<|Zb0<|Zbi<|Za0<|Zab<|Zad rfl<|Zab<|Zdm<|Zaf<|Zcw (T:="str") (b:=true) rfl (λ_=>by rfl) ⟨_,rfl,iteF<|Zaz ?_⟩;refine Zap<|Zay<|Zcj<|Zgi<|Zad rfl ⟨_,rfl,Zbs ⟨_,rfl,by decide,hz2,_,rfl,?_⟩⟩;rw[Zgr hW hO];refine Zap<|Zay<|Zd5 ?_;refine Zap<|Zez<|Znj<|Zab<|Zad rfl<|Zaf ⟨_,rfl,λi Δ=>∃d x3 x4,FlSt n ts o i d /\ Δ = [.val (.str<|txt n ts o),.val (.lst ((lins n ts o).map D.str)),.val d,x3,x4,.any,.any,.any],⟨_,_,_,.inl ⟨rfl,rfl⟩,rfl⟩,λi d Δ hd hI=>?_,λΔ hI=>?_⟩
 ·obtain⟨fl,x3,x4,hF,rfl⟩:=hI
  obtain⟨d0,hd0,rfl⟩:=Zl1 hd;rw[Waj]at hd0;cases hz:(lins n ts o)[i]? with
  |none=>rw[hz]at hd0;exact nomatch hd0
  |some z=>
   rw[hz]at hd0;cases hd0;obtain⟨ds,h1,h2⟩:=Zll hW hO hF hz;refine Zhb rfl<|Zbp<|Zb3<|Zbp<|Zb3<|Zem ?_;refine Zap<|Zay<|Za1<|Zab<|Zad rfl<|Zab<|Zad rfl<|Zaf<|h2 _ ?_;exact Zbn<|Zav<|Zao<|Zad rfl<|Zd5<|Zh9 ⟨_,rfl,iteF<|Zaz ⟨_,_,_,h1,rfl⟩⟩
 obtain⟨fl,x3,x4,hF,rfl⟩:=hI;rw[Zlk,Wac]at hF;obtain⟨k,hk,rfl,ho⟩:=Zok hF;refine Zap<|Zmf<|Zad rfl<|Zhb rfl<|Zbp<|Zb3<|Zbp<|Zb3<|Zem ?_;refine Zap<|Zay<|Zao<|Zad rfl<|Zao<|Zbh<|Zab<|Zbh<|Zaf ⟨by decide,Zaf ⟨by show 1<=sizeLine;decide,?_⟩⟩;refine Zao<|Zao<|Zad rfl<|Zan<|Zbb (d:=.int n) rfl<|Za0<|Zab<|Zad rfl<|Zaf<|Zbk (Or.inr rfl)<|Zmy<|Zmm ?_ ?_<|Zgd ?_ ?_
 all_goals try rw[Wac,Wbd]
 ·omega
 ·omega
 ·rw[Wa2];exact Wbo (small1000<|by omega)
 have eo:Wbh encRow (o.take k)++Wad (n-((min k o.length:Nat):Int)).toNat (D.tup [])=o.map encRow:=by
  have e1:(n-((min k o.length:Nat):Int)).toNat=o.length-k:=by omega
  rw[e1]
  conv=>rhs;rw[ho]
  rw[Wa8,Wcr];rfl
 rw[eo];refine Zap<|Zbn<|Zb0<|Zbi<|Za0<|Zab<|Zi8 (by decide)<|Zqh<|Zab<|Zad rfl<|Zaf ⟨_,Or.inr rfl,?_,λ_=>true,λ_=>.bl true,λi d hd=>?_,?_⟩
 ·rw[Zj4,Wac];exact small1000 (by omega)
 ·obtain⟨d0,hd0,rfl⟩:=Zmq hd
  rw[Waj]at hd0;cases hz:o[i]? with
  |none=>rw[hz]at hd0;exact nomatch hd0
  |some r=>
   rw[hz]at hd0;cases hd0;have hR:=hO.row i r hz;have hrl:=hR.len;refine⟨_,_,rfl,Zcu ⟨rfl,Zao<|Zcj<|Zis<|Zab<|Zad rfl<|Zaf ⟨r,rfl,by omega,λms m1 m2=>⟨_,rfl,?_⟩⟩⟩⟩;rw[Zgu hR m1 m2];refine Zcj<|Zhs<|Zab<|Zad rfl<|Zab<|Zad rfl<|Zaf ⟨n,ts,_,rfl,l3,_,rfl,Zrz (n:=2) (by decide) (Zh1 _) (Zh1 _) rfl rfl ⟨?_,_,_,rfl⟩⟩;rw[Zeg 2 _ (Zh1 _)]
 rw[Zov];refine Zaf<|Zlr ?_;rw[allR];refine⟨_,rfl,iteF<|Zaz ?_⟩;exact Zba<|Zbh<|Zab<|Zad rfl<|Zab<|Zad rfl<|Zaf ⟨Zfk,q⟩
end
def fTxt:DSp:=λds Post=>∃n ts o,ds=[encWeb n ts,encOrd o]/\FlOk n ts o/\Post (.str<|txt n ts o)
section
variable {P:Program}{w:World}{K:W.Frag}{mg:Str->Option Value}{base:Heap}{f:Addr}{fd:FuncData}
theorem Znh (mb:Mb mg) (F:Fun K "_law_text" "_law_text" Yas f fd):FnOk P w K mg base CX0 1 f fd ["_law_web_here","_law_order_here"] (spD K fTxt):=by
 refine F.ok Yam (Za9 λds Post h=>by obtain⟨_,_,_,rfl,_⟩:=h;rfl) λcdv A outer s H vs Q E hr h=>?_;have hu:=Zb1 hr;refine⟨_,(Zag (Zar (i:=2) Yam.nd rfl (Or.inl rfl)<|Zbc<|Zaa (Zas (show OpR _ _ rAddS from Zbo) Zbx<|Za7 strUK rfl (mb "str"<|by decide) Ze6<|Zaa (Za6 (ixK K hu) (pv 0) Zai λ_ _=>rfl) Zac) Zac)<|Zag (Zd7 PassesOwn.never rfl (seqK K<|Za6 (ixK K hu) (pv 0) Zai λ_ _=>rfl) (gtupK (n:=2) K rfl<|Za3 (Zat (i:=3) Yam.nd rfl<|Or.inl rfl)<|Za3 (Zat (i:=4) Yam.nd rfl<|Or.inl rfl) Zct)<|Zam<|Zfv<|bmK K PySem.F.plainAttrs_list PySem.F.slot_list_append PySem.F.type_list_append Zdr (pv 2)<|Zaa (Zas (show OpR _ _ rAddS from Zbo) (Zas (show OpR _ _ rAddS from Zbo) (Zas (show OpR _ _ rAddS from Zbo) Zbx<|Za7 strUK rfl (mb "str"<|by decide) Ze6<|Zaa (pv 3) Zac) Zbx)<|Za7 strUK rfl (mb "str"<|by decide) Ze6<|Zaa (pv 4) Zac) Zac)<|Zag (Zd7 PassesOwn.never rfl (Zb4 rfl (mb "range"<|by decide)<|Zaa (Za6 (ixK K hu) (pv 0) Zai λ_ _=>rfl) Zac) (Zat (i:=5) Yam.nd rfl<|Or.inl rfl)<|Zam<|Zbm (Zau Zm3 (Zah (lenK K) rfl (mb "len"<|by decide) Zbg<|Zaa (Za6 (ixK K hu) (pv 1) (pv 5) λ_ _=>rfl) Zac) Zai<|nomark _) (Zam<|Zfv<|bmK K PySem.F.plainAttrs_list PySem.F.slot_list_append PySem.F.type_list_append Zdr (pv 2)<|Zaa (Zas (show OpR _ _ rAddS from Zbo) (Zas (show OpR _ _ rAddS from Zbo) Zbx<|Za7 strUK rfl (mb "str"<|by decide) Ze6<|Zaa (pv 5) Zac)<|bmK K PySem.F.plainAttrs_str PySem.F.slot_str_join PySem.F.type_str_join (joinK K) Zbx<|Zaa (Zbq ["_law_end"] (show CompSc (defScope Yas) ["_law_web_here","_law_order_here","_law_lines","_law_a","_law_b","_law_place"] _ [] [] from ⟨rfl,by decide +kernel,by decide +kernel,by decide +kernel,rfl,by decide +kernel⟩) rfl (seqK K<|Za6 (ixK K hu) (pv 1) (pv 5) λ_ _=>rfl) (λ_ _ _ _ _=>(Zat (i:=0) (show List.Nodup (["_law_end"]:List Str) from by decide) rfl<|Or.inl rfl)) (λ_ _ _ _ _=>Zck) λ_ _ _ _ _=>(Zas (show OpR _ _ rAddS from Zbo) Zbx<|Za7 strUK rfl (mb "str"<|by decide) Ze6<|Zaa (pv 0) Zac)) Zac) Zac) Zaw)<|Zam<|Zax<|bmK K PySem.F.plainAttrs_str PySem.F.slot_str_join PySem.F.type_str_join (joinK K) Zbx<|Zaa (pv 2) Zac),Zcx (λds Post hf=>?_) h⟩;obtain⟨n,ts,o,rfl,hF,q⟩:=hf;refine⟨by simp,?_⟩;dsimp only[startD,Wbg,Wbh,Wa6,Wad];have h1:=hF.ol;have h2:=hF.n1;have h3:=hF.tl;have h4:=hF.n0;have sz:∀{x y:Str},x.length<=300->y.length<=300->x.length+y.length<=sizeLine:=λ{x y} a b=>Wbo (small1000<|by omega);have sI2:∀{i:Int},0<=i->i<=63->(sI i).length<=300:=λa b=>by have:=Zdb a b;omega
 refine Zap<|Zhn<|Zi1<|Zab<|Zao<|Zbs<|Za0<|Zab<|Zao<|Zad rfl<|Zan<|Zbb (d:=.int n) rfl<|Zaf<|Zeq (Zcz h4<|by omega)<|Zdh (sz (by decide)<|sI2 h4 (by omega))<|Zaf ⟨(show 1<=sizeLine from by decide),?_⟩;refine Zby (λΔ=>∃x1 x2 x3:L2.Slot,Δ = [.val (encWeb n ts),.val (encOrd o),.own (.lst ((linP n::ts.map linT).map D.str)),x1,x2,x3]) ?_ ?_
 ·refine Zez (Zf8<|Zao<|Zad rfl<|Zan<|Zbb (Zr0 n ts) ⟨_,rfl,λi Δ=>∃x1 x2 x3:L2.Slot,Δ = [.val (encWeb n ts),.val (encOrd o),.own (.lst ((linP n::(ts.take i).map linT).map D.str)),x1,x2,x3],⟨_,_,_,rfl⟩,?_,?_⟩)
  ·rintro i d Δ2 hd ⟨x1,x2,x3,rfl⟩
   rw[Waj]at hd;cases z:ts[i]? with
   |none=>rw[z]at hd;cases hd
   |some t=>
    rw[z]at hd;cases hd;have ht:=hF.te t<|Waz z;have hi:=(Wap.mp z).1;have a1:(Str.ofString<|toString t.1).length<=2:=Zdb ht.1.1 (by omega);have a2:(Str.ofString<|toString t.2).length<=2:=Zdb ht.2.1 (by omega);have e4:("tie ":Str).length=4:=rfl;have e1:(" ":Str).length=1:=rfl;refine Zhb rfl<|Zbp<|Zb3<|Zbp<|Zb3<|Zem ?_;refine Zmh rfl rfl<|Zao<|Zao<|Zao<|Zbs<|Za0<|Zab<|Zad rfl<|Zaf<|Zeq (Zcz ht.1.1<|by omega)<|Zdh (sz (by decide)<|sI2 ht.1.1 (by omega)) ?_;refine Zbs<|Zdh (sz (by rw[Str.length_append];omega)<|by decide) ?_;refine Za0<|Zab<|Zad rfl<|Zaf<|Zeq (Zcz ht.2.1<|by omega)<|Zdh (sz (by rw[Str.length_append,Str.length_append];omega)<|by omega) ⟨_,_,rfl,rfl,?_,.val (.int t.1),.val (.int t.2),x3,?_⟩
    ·rw[Wac,Wak,Wac,Wbd];exact small1000 (by omega)
    ·rw[Wcd,z,Wa8,<- Wbz,Wa8]
     rfl
  ·rintro Δ2 ⟨x1,x2,x3,rfl⟩
   rw[Wac,Wbp (Waf _)];exact⟨_,_,_,rfl⟩
 rintro Δ1 ⟨x1,x2,x3,rfl⟩;refine Zby (λΔ=>∃x1 x2 x3:L2.Slot,Δ = [.val (encWeb n ts),.val (encOrd o),.own (.lst ((lins n ts o).map D.str)),x1,x2,x3]) ?_ ?_
 ·refine Zez (Zb8<|Zab<|Zao<|Zad rfl<|Zan<|Zbb (d:=.int n) rfl<|Zaf ⟨_,rfl,by omega,by omega,λi Δ=>∃x1 x2 x3:L2.Slot,Δ = [.val (encWeb n ts),.val (encOrd o),.own (.lst ((linP n::ts.map linT++linsA 0 (o.take i)).map D.str)),x1,x2,x3],⟨x1,x2,x3,?_⟩,?_,?_⟩)
  ·rw[List.take_zero]
   show _=[_,_,L2.Slot.own (.lst ((linP n::ts.map linT++[]).map D.str)),_,_,_];rw[Wba]
  ·rintro i d Δ2 hd ⟨x1,x2,x3,rfl⟩
   obtain⟨hi,rfl⟩:=Zcf hd;have hi':i<o.length:=by omega
   have z:o[i]?=some o[i]:=Wab hi';generalize o[i]=r at z;obtain⟨r1,r2⟩:=hF.oe r<|Waz z;have aI:atI (o.map encRow) (0+(i:Int))=some (encRow r):=by rw[Wb7];exact Zbj (by rw[Waj,z];rfl)
   refine Zb3<|Zbn<|Zav<|Zao<|Za0<|Zab<|Zao<|Zad rfl<|Zad rfl<|Zbb aI<|Zaf<|Zbk (Or.inr rfl)<|Zan<|Zfb ⟨_,rfl,?_⟩;rw[Wac];refine ite2 (λy=>?_) λy=>?_
   ·have y:(r.length:Int) > 0:=of_decide_eq_true y
    have jl:=Zg1 r2;have s1:(Str.ofString<|toString (0+(i:Int))).length<=2:=Zdb (show (0:Int)<=0+(i:Int) by omega) (by omega);have e3:("at ":Str).length=3:=rfl;refine Zmh rfl rfl<|Zao<|Zao<|Zbs<|Za0<|Zab<|Zad rfl<|Zaf<|Zeq (Zcz (by omega)<|by omega)<|Zdh (sz (by decide)<|sI2 (by omega) (by omega)) ?_;refine Zkv<|Zbs ⟨_,rfl,Zcg (by decide)<|Zf8<|Zao<|Zad rfl<|Zad rfl<|Zbb aI ⟨_,rfl,?_,λ_=>true,λd=>match d with|.int e=>.str ((" ":Str)++sI e)|d=>d,λj d hd=>?_,?_⟩⟩
    ·rw[Wac];exact small1000 (by omega)
    ·rw[Waj]at hd
     cases y2:r[j]? with
     |none=>rw[y2]at hd;cases hd
     |some e=>
      rw[y2]at hd;cases hd;have:=r2 e<|Waz y2;exact Zcu ⟨rfl,Zao<|Zbs<|Za0<|Zab<|Zad rfl<|Zaf<|Zeq (Zcz this.1 this.2)<|Zdh (sz (by decide)<|sI2 this.1 this.2) ⟨rfl,_,rfl⟩⟩
    ·refine⟨r.map λe=>(" ":Str)++sI e,?_,Zlg (B:=3) (N:=50) (λw hw=>?_) (by rw[Wac];omega) (by decide),Zdh (sz (by rw[Str.length_append];omega)<|by omega) ⟨_,_,rfl,rfl,?_,x1,x2,.val (.int (0+(i:Int))),?_⟩⟩
     ·rw[Wbx.mpr (by simp),Wa9,Wa9];rfl
     ·obtain⟨e,he,rfl⟩:=Wax.mp hw
      rw[Str.length_append];have:=r2 e he;have:=Zdb this.1 this.2;have e1:(" ":Str).length=1:=rfl;omega
     ·rw[Wac,War,Wak,Wac]
      have:=Zep (o.take i) 0;rw[Wbd]at this;exact small1000 (by omega)
     ·have e:((linP n::ts.map linT++linsA 0 (o.take i))++[linA i r]).map D.str=(linP n::ts.map linT++linsA 0 (o.take i)).map D.str++[D.str (linA i r)]:=by rw[Wa8];rfl
      rw[Zfi z,if_neg (by intro e;subst e;simp at y),<- Wb2,e];unfold linA;rw[Wb7];rfl
   ·have y:¬ ((r.length:Int) > 0):=of_decide_eq_false (Wcg.mpr y)
    have hr0:r=[]:=Wby (by omega);refine Zaz ⟨x1,x2,.val (.int (0+(i:Int))),?_⟩;rw[Zfi z,if_pos hr0,Wba];rfl
  ·rintro Δ2 ⟨x1,x2,x3,rfl⟩
   rw[Zbf,Wbp (by omega)];exact⟨_,_,_,rfl⟩
 rintro Δ1 ⟨x1,x2,x3,rfl⟩;obtain⟨l1,l2⟩:=Zc1 hF;exact Zba<|Zkv<|Zbs ⟨_,rfl,Zl5 rfl ⟨lins n ts o,rfl,Zlg (B:=200) (N:=50) l2 l1 (by decide),q⟩⟩
theorem Zph {K:W.Frag}{Δ:Evt}{Pd:D->Evt->Prop}{i:Int}(p:Pd (.int (-i)) Δ):JR1 K (rU λi=>.int (-i)) (.int i) Δ Pd:=λg G H σ Q x k r c=>by
 cases r;exact⟨i,rfl,c _ _ G H Δ k (Same.refl _) (.int _) p⟩
theorem Zoe (mb:Mb mg) (F:Fun K "_law_whole" "_law_whole" Ya4 f fd):FnOk P w K mg base CX0 1 f fd ["_law_found"] (spD K fWhole):=by
 refine F.ok Ybj (Za9 λds Post h=>by obtain⟨_,rfl,_⟩:=h;rfl) λcdv A outer s H vs Q E hr h=>?_;have hu:=Zb1 hr;refine⟨_,(Zam<|Zax<|Zg0 (Zah (isiUK K) rfl (mb "isinstance"<|by decide) Zae<|Zaa (pv 0)<|Zaa (Zbu rfl (mb "int"<|by decide) Zkz (show RelV (.ty "int") _ from rfl)) Zac)<|Zi6<|Zpb<|Zah (isiUK K) rfl (mb "isinstance"<|by decide) Zae<|Zaa (pv 0)<|Zaa (Zbu rfl (mb "bool"<|by decide) Zmj (show RelV (.ty "bool") _ from rfl)) Zac),Zcx (λds Post hf=>?_) h⟩;obtain⟨e,rfl,q⟩:=hf;refine⟨by simp,?_⟩;dsimp only[startD,Wbg,Wbh,Wa6];refine Zba<|Zd0<|Za0<|Zab<|Zad rfl<|Zab<|Zdm<|Zaf<|Zcw (T:="int") (b:=true) rfl (λ_=>by rfl) ⟨_,rfl,?_⟩;rw[if_pos rfl];refine Zhq<|Za0<|Zab<|Zad rfl<|Zab<|Zdm<|Zaf<|Zcw (T:="int") (b:=false) rfl (λ_=>by rfl) ⟨_,rfl,?_⟩;exact q
end
def Lv:Nat->D->Prop
 |0,_=>False
 |_+1,.int _=>True
 |m+1,.tup ds=>ds.length<=1000/\∀d∈ds,Lv m d
 |_,_=>False
def fSame (m:Nat):DSp:=λds Post=>∃d,ds=[d,d]/\Lv m d/\Post (.bl true)
section
variable {P:Program}{w:World}{K:W.Frag}{mg:Str->Option Value}{base:Heap}{f:Addr}{fd:FuncData}
theorem Zm6 (ds:List D):(((ds.zip ds).map λp=>D.tup [p.1,p.2]).filter λ_=>true).map (λ_=>D.bl true)=(Wad ds.length true).map D.bl:=by
 rw[Wbx.mpr (by simp),List.map_const',Wcr,Wac,List.length_zip,Nat.min_self]
theorem Zom (n:Nat):(Wad n true).all id=true:=by
 rw[Waw];intro x hx;rw[(Wcq.mp hx).2];rfl
theorem Zlm {ds:List D}{i:Nat}{d:D}(hd':((ds.zip ds).map λp=>D.tup [p.1,p.2])[i]?=some d):∃e,e∈ds/\d=.tup [e,e]:=by
 rw[Waj]at hd';cases z:(ds.zip ds)[i]? with
 |none=>rw[z]at hd';cases hd'
 |some pr=>
  rw[z]at hd';have hd':D.tup [pr.1,pr.2]=d:=by simpa using hd'
  rw[Wbu]at z;have e:pr.1=pr.2:=Wat.inj<|z.1.symm.trans z.2;exact⟨pr.1,Waz z.1,by rw[<- hd',<- e]⟩
theorem Znv {m:Nat}(mb:Mb mg) (C33:Callee P w K mg base 1 "_law_whole" ["_law_found"] (spD K fWhole)) (C30:Callee P w K mg base (m+1) "_law_same" ["_law_found","_law_due"] (spD K<|fSame m)) (F:Fun K "_law_same" "_law_same" Yaj f fd):FnOk P w K mg base CX0 (m+2) f fd ["_law_found","_law_due"] (spD K<|fSame<|m+1):=by
 refine F.ok Ybk (Za9 λds Post h=>by obtain⟨_,rfl,_⟩:=h;rfl) λcdv A outer s H vs Q E hr h=>?_;have hu:=Zb1 hr;refine⟨_,(Zag (Zbm (truK K (Zah (isiUK K) rfl (mb "isinstance"<|by decide) Zae<|Zaa (pv 1)<|Zaa (Zbu rfl (mb "tuple"<|by decide) Zbr (show RelV (.ty "tuple") _ from rfl)) Zac) λ_=>rfl) (Zag (Zbm (PW.pt<|pw_or (Zbv<|truK K (Zah (isiUK K) rfl (mb "isinstance"<|by decide) Zae<|Zaa (pv 0)<|Zaa (Zbu rfl (mb "tuple"<|by decide) Zbr (show RelV (.ty "tuple") _ from rfl)) Zac) λ_=>rfl)<|pw_or1<|Zau Zg7 (Zah (lenK K) rfl (mb "len"<|by decide) Zbg<|Zaa (pv 0) Zac) (Zah (lenK K) rfl (mb "len"<|by decide) Zbg<|Zaa (pv 1) Zac)<|nomark _) (Zam<|Zax Zm4) Zaw)<|Zam<|Zax<|Zah (allK K rfl) rfl (mb "all"<|by decide) Zi9<|Zaa (Zbq ["_law_one","_law_other"] (show CompSc (defScope Yaj) ["_law_found","_law_due"] _ [] [] from ⟨rfl,by decide +kernel,by decide +kernel,by decide +kernel,rfl,by decide +kernel⟩) rfl (Zrw K rfl (mb "zip"<|by decide)<|Zaa (pv 0)<|Zaa (pv 1) Zac) (λ_ _ _ _ _=>(gtupK (n:=2) K rfl<|Za3 (Zat (i:=0) (show List.Nodup (["_law_one","_law_other"]:List Str) from by decide) rfl<|Or.inl rfl)<|Za3 (Zat (i:=1) (show List.Nodup (["_law_one","_law_other"]:List Str) from by decide) rfl<|Or.inl rfl) Zct)) (λ_ _ _ _ _=>Zck) λ_ _ _ _ _=>(Za8 C30 (hr.mono (by first|decide|omega))<|Zaa (pv 0)<|Zaa (pv 1) Zac)) Zac) Zaw)<|Zam<|Zax<|Zg0 (Za8 C33 (hr.mono (by first|decide|omega))<|Zaa (pv 0) Zac)<|Zi6<|Zdx Zci (pv 0) (pv 1)<|nomark _),Zcx (λds Post hf=>?_) h⟩;obtain⟨d,rfl,hd,q⟩:=hf;refine⟨by simp,?_⟩;dsimp only[startD,Wbg,Wbh,Wa6];cases d with
 |int i=>
  refine Zap<|Zbn<|Zbi<|Za0<|Zab<|Zad rfl<|Zab<|Zdm<|Zaf<|Zcw (T:="int") (b:=false) rfl (λ_=>by rfl) ⟨_,rfl,iteF<|Zaz ?_⟩;refine Zba<|Zd0<|Za1<|Zab<|Zad rfl<|Zaf ⟨_,rfl,_,rfl,?_⟩;refine iteT<|Zao<|Zad rfl<|Zad rfl<|Zia ?_;rw[decide_eq_true rfl];exact q
 |tup ds=>
  obtain⟨hl,hd⟩:=hd;refine Zap<|Zbn<|Zbi<|Za0<|Zab<|Zad rfl<|Zab<|Zdm<|Zaf<|Zcw (T:="tuple") (b:=true) rfl (λ_=>by rfl) ⟨_,rfl,iteT ?_⟩;refine Zap<|Zbn<|Zeb<|Zb0<|Zbi<|Za0<|Zab<|Zad rfl<|Zab<|Zdm<|Zaf<|Zcw (T:="tuple") (b:=true) rfl (λ_=>by rfl) ⟨_,rfl,iteF ?_⟩;refine Zav<|Zao<|Za0<|Zab<|Zad rfl<|Zaf<|Zbk (Or.inr rfl)<|Za0<|Zab<|Zad rfl<|Zaf<|Zbk (Or.inr rfl)<|Zmz ⟨_,rfl,?_⟩;rw[decide_eq_true rfl];refine iteF<|Zaz ?_;refine Zba<|Za0<|Zab<|Zi8 (by decide)<|Zq5<|Zab<|Zad rfl<|Zab<|Zad rfl<|Zaf ⟨ds,ds,rfl,rfl,?_,λ_=>true,λ_=>.bl true,λi d hd'=>?_,?_⟩
  ·rw[Wac,List.length_zip];exact small1000 (by omega)
  ·obtain⟨e,he,rfl⟩:=Zlm hd'
   exact⟨_,_,rfl,Zcu ⟨rfl,Za1<|Zab<|Zad rfl<|Zab<|Zad rfl<|Zaf ⟨e,rfl,hd _ he,rfl,_,_,rfl⟩⟩⟩
  ·refine Zaf ?_
   rw[Zm6];refine Zlr ?_;rw[Zom];exact q
 |lst ds=>exact hd.elim
 |_=>exact hd.elim
theorem Zk5 (mb:Mb mg) (C33:Callee P w K mg base 1 "_law_whole" ["_law_found"] (spD K fWhole)) (F:Fun K "_law_same" "_law_same" Yaj f fd) (b:Binds K fd ["_law_found","_law_due"] []) (kp:W.keepIn K (.ref f)=true) (hm:mg "_law_same" = some (.ref f)):∀m:Nat,FnOk P w K mg base CX0 (m+1) f fd ["_law_found","_law_due"] (spD K<|fSame m)
 |0=>by
  have no:∀vs H Q E,¬ spD K (fSame 0) vs H Q E:=λvs H Q E ⟨_,_,_,_,_,⟨_,_,hd,_⟩,_⟩=>hd;exact⟨λvs H Q E h=>absurd h<|no vs H Q E,λA outer s H args us vs Q E _ _ _ _ h=>absurd h<|no vs H Q E⟩
 |m+1=>Znv mb C33 ⟨⟨f,fd,Zk5 mb C33 F b kp hm m,b,kp,hm⟩⟩ F
theorem Zmt (mb:Mb mg) (C33:Callee P w K mg base 1 "_law_whole" ["_law_found"] (spD K fWhole)) (F:Fun K "_law_same" "_law_same" Yaj f fd) (b:Binds K fd ["_law_found","_law_due"] []) (kp:W.keepIn K (.ref f)=true) (hm:mg "_law_same" = some (.ref f)):∀m:Nat,FnOk P w K mg base CX0 m f fd ["_law_found","_law_due"] (spD K<|fSame<|m-1)
 |0=>by
  have no:∀vs H Q E,¬ spD K (fSame 0) vs H Q E:=λvs H Q E ⟨_,_,_,_,_,⟨_,_,hd,_⟩,_⟩=>hd;exact⟨λvs H Q E h=>absurd h<|no vs H Q E,λA outer s H args us vs Q E _ _ _ _ h=>absurd h<|no vs H Q E⟩
 |m+1=>Zk5 mb C33 F b kp hm m
theorem Zr8 {m:Nat}{r:List Int}(h:r.length<=1000):Lv (m+2) (encRow r):=by
 refine⟨by rw[Wac];exact h,λd hd=>?_⟩;obtain⟨x,_,rfl⟩:=Wax.mp hd
 trivial
theorem Zsh {m:Nat}{n:Int}{ts:List (Int × Int)}{o:List (List Int)}(hW:WebOk n ts) (hO:OrdOk n ts o):Lv (m+3) (encOrd o):=by
 have h1:=hO.len;have h2:=hW.hi;have h3:=hW.len;refine⟨by rw[Wac];omega,λd hd=>?_⟩;obtain⟨r,hr,rfl⟩:=Wax.mp hd;obtain⟨p,hp,e⟩:=Wck.mp hr;have:=(hO.row p r<|by rw[Wab hp,e]).len;exact Zr8 (by omega)
theorem Zrk {m:Nat}{n:Int}{ts:List (Int × Int)}(hW:WebOk n ts):Lv (m+4) (encWeb n ts):=by
 refine⟨by show 2<=1000;omega,λd hd=>?_⟩;rcases Wah.mp hd with z|z
 ·subst z;trivial
 ·rw[Wbe]at z;subst z
  refine⟨by rw[Wac];have:=hW.len;omega,λd hd=>?_⟩;obtain⟨t,_,rfl⟩:=Wax.mp hd;refine⟨by show 2<=1000;omega,λd hd=>?_⟩;rcases Wah.mp hd with z|z
  ·subst z;trivial
  ·rw[Wbe]at z;subst z;trivial
def floorD (n:Int) (ts:List (Int × Int)) (o:List (List Int)):D:=.tup [encWeb n ts,encOrd o]
theorem Zmw {n:Int}{ts:List (Int × Int)}{o:List (List Int)}(hW:WebOk n ts) (hO:OrdOk n ts o):Lv 5 (floorD n ts o):=by
 refine⟨by show 2<=1000;omega,λd hd=>?_⟩;rcases Wah.mp hd with z|z
 ·subst z;exact Zrk hW
 ·rw[Wbe]at z;subst z;exact Zsh hW hO
end
def seqD:Bool->List D->D
 |true,ds=>.lst ds
 |false,ds=>.tup ds
theorem Zmi {i:Int}(h1:0<=i) (h2:i<=100):(D.pd (.int i)).shown.length<=13:=PyData.shown_int_le2 (by omega) (by omega)
theorem Zhl:∀(l:List Nat) (b:Nat),(∀x∈l,x<=b)->l.sum<=l.length*b
 |[],_,_=>by simp
 |x::l,b,h=>by
  have:=Zhl l b λy hy=>h y<|Wal _ hy;have:=h x Waq;rw[Wcu,Wak,Nat.succ_mul];omega
theorem Zgg:∀ds:List D,D.pds ds=ds.map D.pd
 |[]=>rfl
 |d::ds=>by show D.pd d::D.pds ds=_;rw[Zgg ds];rfl
theorem Zev:∀xs:List PyData,PyData.shownAll xs=xs.map PyData.shown
 |[]=>rfl
 |x::xs=>by show x.shown::PyData.shownAll xs=_;rw[Zev xs];rfl
theorem Zmc {xs:List PyData}{b:Nat}(h:∀x∈xs,x.shown.length<=b):(PyData.list xs).shown.length<=xs.length*b+2*xs.length+3:=by
 show (listText<|PyData.shownAll xs).length<=_;have h1:=listText_len_le<|PyData.shownAll xs;rw[Zev]at h1 ⊢;rw[Wa9,Wac]at h1;have h2:=Zhl (xs.map ((λs:Str=>s.length)∘PyData.shown)) b λy hy=>by
  obtain⟨x,hx,rfl⟩:=Wax.mp hy;exact h x hx
 rw[Wac]at h2;omega
theorem Zl3 {xs:List PyData}{b:Nat}(h:∀x∈xs,x.shown.length<=b):(PyData.tuple xs).shown.length<=xs.length*b+2*xs.length+3:=by
 show (tupleText<|PyData.shownAll xs).length<=_;have h1:=tupleText_len_le<|PyData.shownAll xs;rw[Zev]at h1 ⊢;rw[Wa9,Wac]at h1;have h2:=Zhl (xs.map ((λs:Str=>s.length)∘PyData.shown)) b λy hy=>by
  obtain⟨x,hx,rfl⟩:=Wax.mp hy;exact h x hx
 rw[Wac]at h2;omega
theorem Zh8:∀{ds:List D},(∀d∈ds,d.shw=true)->D.shws ds=true
 |[],_=>rfl
 |d::ds,h=>by
  show (d.shw && D.shws ds)=true;rw[h d Waq,Zh8 λe he=>h e (Wal _ he)];rfl
theorem Zip:∀{xs:List PyData}{k:Nat},(∀x∈xs,x.depth<=k)->PyData.depthAll xs<=k
 |[],_,_=>Wbn _
 |x::xs,k,h=>by
  have h1:=h x Waq;have h2:=Zip (xs:=xs) (k:=k) λy hy=>h y<|Wal _ hy;simp only[PyData.depthAll];omega
structure Shw (d:D) (k b:Nat):Prop where
 s:d.shw=true
 dp:d.pd.depth<=k
 ln:d.pd.shown.length<=b
theorem Zdt {i:Int}(h1:0<=i) (h2:i<=100):Shw (.int i) 0 13:=by
 refine⟨?_,Waf _,Zmi h1 h2⟩;show decide (i.natAbs.log2<1920)=true;refine decide_eq_true ?_;by_cases z:i.natAbs=0
 ·rw[z];decide
 ·exact Wc4 ((Nat.log2_lt z).2 (show i.natAbs<2 ^ 7 by omega)) (by decide)
theorem Zc0 {c:Bool}{ds:List D}{k b:Nat}(h:∀d∈ds,Shw d k b):Shw (seqD c ds) (k+1) (ds.length*b+2*ds.length+3):=by
 have hd:PyData.depthAll (D.pds ds)<=k:=Zip λx hx=>by
  rw[Zgg]at hx;obtain⟨d,hd,rfl⟩:=Wax.mp hx;exact(h d hd).dp
 have hl:∀x∈D.pds ds,x.shown.length<=b:=λx hx=>by
  rw[Zgg]at hx;obtain⟨d,hd,rfl⟩:=Wax.mp hx;exact(h d hd).ln
 have el:(D.pds ds).length=ds.length:=by rw[Zgg,Wac]
 cases c with
 |true=>
  refine⟨Zh8 λd hd=>(h d hd).s,?_,?_⟩
  ·show (PyData.list<|D.pds ds).depth<=_
   simp only[PyData.depth];omega
  ·have:=Zmc hl
   rw[el]at this;exact this
 |false=>
  refine⟨Zh8 λd hd=>(h d hd).s,?_,?_⟩
  ·show (PyData.tuple<|D.pds ds).depth<=_
   simp only[PyData.depth];omega
  ·have:=Zl3 hl
   rw[el]at this;exact this
def Sg (x:PySem.Str):Prop:=∀c∈x.cps.toList,c<16 ^ 8
theorem Zgp (s:String):Sg (PySem.Str.ofString s):=by
 intro c hc;rw[PySem.Str.ofString_eq_toList]at hc;have hc:c∈s.toList.map Char.toNat:=by simpa using hc
 obtain⟨a,_,rfl⟩:=Wax.mp hc;have h:a.toNat<1114112:=by
  have:=a.valid;unfold UInt32.isValidChar Nat.isValidChar at this;have e:a.toNat=a.val.toNat:=rfl;omega
 exact Wc4 h (by decide)
theorem Zdl {x y:PySem.Str}(hx:Sg x) (hy:Sg y):Sg (x++y):=by
 intro c hc;have hc:c∈(x.cps++y.cps).toList:=hc;rw[Array.toList_append,Wa7]at hc;exact hc.elim (hx c)<|hy c
theorem Zhv {sep:PySem.Str}(hs:Sg sep):∀{zs:List PySem.Str},(∀z∈zs,Sg z)->Sg (PySem.Str.join sep zs)
 |[],_=>λc hc=>by
  have hc:c∈([]:List Nat):=hc;cases hc
 |[x],h=>h x Waq
 |x::y::r,h=>Zdl (Zdl (h x Waq) hs) (Zhv hs λz hz=>h z (Wal _ hz))
theorem Zko (i:Int):Sg (sI i):=Zgp _
theorem Zqp (p:Int) (r:List Int):Sg (linA p r):=by
 refine Zdl (Zdl (Zgp _)<|Zko p) (Zhv (Zgp _) λz hz=>?_);obtain⟨e,_,rfl⟩:=Wax.mp hz;exact Zdl (Zgp _)<|Zko e
theorem Ziz:∀(o:List (List Int)) (p:Nat),∀z∈linsA p o,Sg z
 |[],_,z,h=>by cases h
 |r::o,p,z,h=>by
  have h:z∈(if r=[] then [] else [linA p r])++linsA (p+1) o:=h;rcases Wa7.mp h with h|h
  ·by_cases e:r=[]
   ·rw[if_pos e]at h;cases h
   ·rw[if_neg e,Wbe]at h;subst h;exact Zqp p r
  ·exact Ziz o (p+1) z h
theorem Zmb (n:Int) (ts:List (Int × Int)) (o:List (List Int)):∀z∈lins n ts o,Sg z:=λz hz=>by
 rcases Wa7.mp (show z∈(linP n::ts.map linT)++linsA 0 o from hz) with h|h
 ·rcases Wah.mp h with rfl|h
  ·exact Zdl (Zgp _)<|Zko n
  ·obtain⟨t,_,rfl⟩:=Wax.mp h
   exact Zdl (Zdl (Zdl (Zgp _)<|Zko _)<|Zgp _)<|Zko _
 ·exact Ziz o 0 z h
theorem Zr3 (n:Int) (ts:List (Int × Int)) (o:List (List Int)):Sg (txt n ts o):=Zhv (Zgp _)<|Zmb n ts o
theorem Shw.up {d:D}{k b k' b':Nat}(h:Shw d k b) (hk:k<=k') (hb:b<=b'):Shw d k' b':=⟨h.s,Was h.dp hk,Was h.ln hb⟩
theorem Zmn {x:PySem.Str}{b:Nat}(hs:Sg x) (h:10*x.length+2<=b):Shw (.str x) 0 b:=⟨rfl,Waf _,Was (PySem.StrLaws.reprText_len x hs) h⟩
theorem Zb6 {d:D}{k b:Nat}(h:Shw d k b) (hk:k<=20) (hb:b<=1000000):RepX d:=.inl (.inl ⟨.inl (.inl h.s),Was h.dp hk,Was h.ln<|Was hb (by decide)⟩)
theorem Zp3 {x:PySem.Str}(hs:Sg x) (h:x.length<=20000):RepX (d1S x x):=.inr ⟨x,x,rfl,by
 have e:=PySem.StrLaws.reprText_len x hs;have e2:(PyData.str x).shown.length<=200002:=Was e (by omega);show (dictText [(PyData.str x).shown ++ ": " ++ (PyData.str x).shown]).length<=sizeLine;have e3:dictText [(PyData.str x).shown ++ ": " ++ (PyData.str x).shown]=("{":PySem.Str)++((PyData.str x).shown ++ ": " ++ (PyData.str x).shown) ++ "}":=rfl;rw[e3,strLen_append,strLen_append,strLen_append,strLen_append];have e4:(1000000:Nat)<=sizeLine:=by decide
 have l1:("{":PySem.Str).length=1:=rfl;have l2:("}":PySem.Str).length=1:=rfl;have l3:(": ":PySem.Str).length=2:=rfl;rw[l1,l2,l3];omega⟩
theorem Zk7 {r:List Int}(h1:r.length<=48) (h2:∀x∈r,0<=x/\x<=100):Shw (encRow r) 1 723:=by
 have:=Zc0 (c:=false) (ds:=r.map D.int) (k:=0) (b:=13) λd hd=>by
  obtain⟨x,hx,rfl⟩:=Wax.mp hd;exact Zdt (h2 x hx).1 (h2 x hx).2
 rw[Wac]at this;exact this.up (Waf _) (by omega)
theorem Zlx {n:Int}{ts:List (Int × Int)}(h0:0<=n) (h1:n<=100) (h2:ts.length<=24) (h3:∀t∈ts,(0<=t.1/\t.1<=100)/\(0<=t.2/\t.2<=100)):Shw (encWeb n ts) 3 1693:=by
 have a:=Zc0 (c:=false) (ds:=ts.map encTie) (k:=1) (b:=33) λd hd=>by
  obtain⟨t,ht,rfl⟩:=Wax.mp hd;refine(Zc0 (c:=false) (ds:=[.int t.1,.int t.2]) (k:=0) (b:=13) λd hd=>?_).up (Waf _) (by show 2*13+2*2+3<=33;decide);simp only[Wah,Way,or_false]at hd;rcases hd with rfl|rfl
  ·exact Zdt (h3 t ht).1.1 (h3 t ht).1.2
  ·exact Zdt (h3 t ht).2.1 (h3 t ht).2.2
 rw[Wac]at a;refine(Zc0 (c:=false) (ds:=[.int n,.tup (ts.map encTie)]) (k:=2) (b:=843) λd hd=>?_).up (Waf _) (by show 2*843+2*2+3<=1693;decide);simp only[Wah,Way,or_false]at hd;rcases hd with rfl|rfl
 ·exact(Zdt h0 h1).up (by decide) (by decide)
 ·exact Shw.up a (Waf _) (by omega)
theorem Zio {n:Int}{ts:List (Int × Int)}{o:List (List Int)}(h:FlOk n ts o):Shw (floorD n ts o) 4 36263:=by
 have h1:=h.ol;have h2:=h.n1;have a:=Zc0 (c:=false) (ds:=o.map encRow) (k:=1) (b:=723) λd hd=>by
  obtain⟨r,hr,rfl⟩:=Wax.mp hd;obtain⟨z1,z2⟩:=h.oe r hr;exact Zk7 (by omega) λx hx=>by have:=z2 x hx;omega
 rw[Wac]at a;refine(Zc0 (c:=false) (ds:=[encWeb n ts,encOrd o]) (k:=3) (b:=18128) λd hd=>?_).up (Waf _) (by show 2*18128+2*2+3<=36263;decide);simp only[Wah,Way,or_false]at hd;rcases hd with rfl|rfl
 ·exact(Zlx h.n0 (by omega) h.tl λt ht=>by have:=h.te t ht;omega).up (by decide) (by decide)
 ·exact Shw.up a (by decide) (by omega)
def Thg (d:D):Prop:=RepX d/\∃T,tyD d=some T/\∀K,PySem.W.kitOne K (.type T) (.type "str")=some false
def some85 (x:PySem.Str) (L:List PySem.Str) (r:Int):List D:=[.non,.bl true,.bl false,.int 0,.int (-1),.int r,.lst [.str x],.tup [.str x],.lst (L.map .str),.dct [] [],d1S x x]
theorem Zob {n:Int}{ts:List (Int × Int)}{o:List (List Int)}{r:Int}(h:FlOk n ts o) (hx:(txt n ts o).length<=20000) (h0:0<=r) (h1:r<1000000000000000000000000000000000000000000000000000000000000):∀d∈some85 (txt n ts o) (lins n ts o) r++[floorD n ts o,.lst [],.tup []],Thg d:=by
 have sx:=Zr3 n ts o;have st:Shw (.str<|txt n ts o) 0 200002:=Zmn sx (by omega);have one:∀c,Shw (seqD c [.str (txt n ts o)]) 1 200007:=λc=>(Zc0 (c:=c) (ds:=[.str (txt n ts o)]) (k:=0) (b:=200002) λd hd=>by rw[Wbe.mp hd];exact st).up (Waf _) (by show 1*200002+2*1+3<=200007;decide);obtain⟨l1,l2⟩:=Zc1 h;have ls:Shw (.lst ((lins n ts o).map D.str)) 1 100203:=by
  have:=Zc0 (c:=true) (ds:=(lins n ts o).map D.str) (k:=0) (b:=2002) λd hd=>by
   obtain⟨z,hz,rfl⟩:=Wax.mp hd;exact Zmn (Zmb n ts o z hz) (by have:=l2 z hz;omega)
  rw[Wac]at this;exact this.up (Waf _) (by omega)
 have ir:=Zrf (i:=r)<|Zrt (Int.le_trans (by decide) h0)<|Int.le_of_lt h1;intro d hd;rcases Wa7.mp hd with hd|hd
 ·unfold some85 at hd
  simp only[Wah,Way,or_false]at hd;rcases hd with rfl|rfl|rfl|rfl|rfl|rfl|rfl|rfl|rfl|rfl|rfl
  ·exact⟨Zb6 (k:=0) (b:=10) ⟨rfl,Waf _,by decide +kernel⟩ (by decide) (by decide),"NoneType",rfl,λ_=>by rfl⟩
  ·exact⟨Zb6 (k:=0) (b:=10) ⟨rfl,Waf _,by decide +kernel⟩ (by decide) (by decide),"bool",rfl,λ_=>by rfl⟩
  ·exact⟨Zb6 (k:=0) (b:=10) ⟨rfl,Waf _,by decide +kernel⟩ (by decide) (by decide),"bool",rfl,λ_=>by rfl⟩
  ·exact⟨Zb6 (Zdt (i:=0) (by decide)<|by decide) (by decide) (by decide),"int",rfl,λ_=>by rfl⟩
  ·exact⟨Zb6 (k:=0) (b:=10) ⟨by decide +kernel,Waf _,by decide +kernel⟩ (by decide) (by decide),"int",rfl,λ_=>by rfl⟩
  ·exact⟨.inl (.inl ⟨.inl ir.1,ir.2.1,ir.2.2⟩),"int",rfl,λ_=>by rfl⟩
  ·exact⟨Zb6 (one true) (by decide) (by decide),"list",rfl,λ_=>by rfl⟩
  ·exact⟨Zb6 (one false) (by decide) (by decide),"tuple",rfl,λ_=>by rfl⟩
  ·exact⟨Zb6 ls (by decide) (by decide),"list",rfl,λ_=>by rfl⟩
  ·exact⟨.inl (.inl ⟨.inl (.inr ⟨[],[],rfl,(λ_ h=>nomatch h),λ_ h=>nomatch h⟩),by decide +kernel,by decide +kernel⟩),"dict",rfl,λ_=>by rfl⟩
  ·exact⟨Zp3 sx hx,"dict",rfl,λ_=>by rfl⟩
 ·simp only[Wah,Way,or_false]at hd
  rcases hd with rfl|rfl|rfl
  ·exact⟨Zb6 (Zio h) (by decide) (by decide),"tuple",rfl,λ_=>by rfl⟩
  ·exact⟨Zb6 (k:=1) (b:=10) ⟨rfl,by decide +kernel,by decide +kernel⟩ (by decide) (by decide),"list",rfl,λ_=>by rfl⟩
  ·exact⟨Zb6 (k:=1) (b:=10) ⟨rfl,by decide +kernel,by decide +kernel⟩ (by decide) (by decide),"tuple",rfl,λ_=>by rfl⟩
def fReadX (c:Addr):XRSp:=λds Post Xp=>∃(d:D) (T:String),ds=[d]/\tyD d=some T/\(∀K,PySem.W.kitOne K (.type T) (.type "str")=some false)/\Xp c 1
def fKinds (c:Addr):DSp:=λds Post=>∃(a:Addr) (i:Int),ds=[.excR a c i]/\Post (.lst [.int 12])
def fKindsH (c xa:Addr):DSp:=λds Post=>∃i:Int,ds=[.excR xa c i]/\Post (.lst [.int 12])
def fLread:DSp:=λds Post=>∃(d:D) (T:String),ds=[d]/\tyD d=some T/\(∀K,PySem.W.kitOne K (.type T) (.type "str")=some false)/\Post (.lst [.int 1])
theorem Zc5:1<=sizeLine:=by decide
theorem Za4 {K:W.Frag}{Δ:Evt}{Pd:List D->Evt->Prop}{j:Nat}{a C c fI:Addr}{i:Int}{b:Bool}{tr:TA}(hx:Δ[j]?=some (.val (.excR a C i))) (Z:ExcIR K C fI) (e:PySem.W.kitOne K (.ref C) (.ref c)=some b) (h:JA K tr Δ λds Δ2=>Pd (.bl b::ds) Δ2) :
  JA K (tCons (tCB (rIsiR K)<|tCons (tVar j)<|tCons (tC (.ref c)) tNil) tr) Δ Pd:=Zab<|Za0<|Zab<|Zad hx<|Zab<|Zo1<|Zaf<|Zj8 Z e h
def fnd85:List D:=[.bl false,.bl false,.bl false,.bl false,.bl false,.bl false,.bl false,.bl false,.bl false,.bl false,.bl false,.bl false,.bl true,.bl false,.bl false]
def is12:D->Bool
 |.int i=>decide (i=12)
 |_=>false
theorem Zoz {j:Nat}(h:j<15):atI fnd85 (0+(j:Int))=some (.bl<|is12 (.int (0+(j:Int)))):=by
 have:j=0\/j=1\/j=2\/j=3\/j=4\/j=5\/j=6\/j=7\/j=8\/j=9\/j=10\/j=11\/j=12\/j=13\/j=14:=by omega
 rcases this with rfl|rfl|rfl|rfl|rfl|rfl|rfl|rfl|rfl|rfl|rfl|rfl|rfl|rfl|rfl <;> rfl
section
variable {P:Program}{w:World}{K:W.Frag}{mg:Str->Option Value}{base:Heap}{f fI:Addr}{fd:FuncData}{c0 c1 c2 c3 c4 c5 c6 c7 c8 c9 c10 c11 c12 c13 c14 c15:Addr}
theorem Zqa (mb:Mb mg) (F:Fun K "__init__" "NoText.__init__" Yak f fd):FnOk P w K mg base CX0 1 f fd ["self","row"] (spI K "row"):=by
 refine F.ok Ybl (λvs H Q E h=>by obtain⟨_,_,_,_,rfl,_⟩:=h;rfl) λcdv A outer s H vs Q E hr h=>?_;refine⟨_,Zam<|Zrg rfl (pv 0) (pv 1) rfl,?_⟩;obtain⟨a,C,g,y,rfl,ha,z,q⟩:=h;exact⟨y,rfl,.ref a,rfl,a,C,g,rfl,ha,z,q⟩
theorem Zl7 (mb:Mb mg) (cl:Cl K mg fI c0 c1 c2 c3 c4 c5 c6 c7 c8 c9 c10 c11 c12 c13 c14 c15) (F:Fun K "_law_kinds" "_law_kinds" Yae f fd) (xa:Addr):FnOkH xa P w K mg base CX0 1 f fd ["_law_e"] (spD K<|fKindsH c13 xa):=by
 refine F.okH Yad (Za9 λds Post h=>by obtain⟨_,rfl,_⟩:=h;rfl) λcdv A outer s H vs Q E hr h=>?_;have hu:(A.deeper<|PyProof.Rows.envOfC "_law_kinds" (defScope Yae) s.heap.objs.size f cdv).units+1<cLine:=Wbm (Wcp (by decide:1<=64) _) hr.units;refine⟨_,(Zag (Zar (i:=1) Yad.nd rfl (Or.inr rfl)<|Zbc<|Zaa (Zah (isiRK K) rfl (mb "isinstance"<|by decide) Zae<|Zaa (pv 0)<|Zaa (Zaq rfl cl.n_NoWeb (show RelV (.ref _) _ from rfl)) Zac)<|Zaa (Zah (isiRK K) rfl (mb "isinstance"<|by decide) Zae<|Zaa (pv 0)<|Zaa (Zaq rfl cl.n_NoOrder (show RelV (.ref _) _ from rfl)) Zac)<|Zaa (Zah (isiRK K) rfl (mb "isinstance"<|by decide) Zae<|Zaa (pv 0)<|Zaa (Zaq rfl cl.n_NoNumber (show RelV (.ref _) _ from rfl)) Zac)<|Zaa (Zah (isiRK K) rfl (mb "isinstance"<|by decide) Zae<|Zaa (pv 0)<|Zaa (Zaq rfl cl.n_NoEnd (show RelV (.ref _) _ from rfl)) Zac) Zac)<|Zag (Zar (i:=1) Yad.nd rfl (Or.inr rfl)<|Zas (addK K) (pv 1)<|Zbc<|Zaa (Zah (isiRK K) rfl (mb "isinstance"<|by decide) Zae<|Zaa (pv 0)<|Zaa (Zaq rfl cl.n_NoTie (show RelV (.ref _) _ from rfl)) Zac)<|Zaa (Zah (isiRK K) rfl (mb "isinstance"<|by decide) Zae<|Zaa (pv 0)<|Zaa (Zaq rfl cl.n_NoPlace (show RelV (.ref _) _ from rfl)) Zac)<|Zaa (Zah (isiRK K) rfl (mb "isinstance"<|by decide) Zae<|Zaa (pv 0)<|Zaa (Zaq rfl cl.n_NoTable (show RelV (.ref _) _ from rfl)) Zac)<|Zaa (Zah (isiRK K) rfl (mb "isinstance"<|by decide) Zae<|Zaa (pv 0)<|Zaa (Zaq rfl cl.n_NoRing (show RelV (.ref _) _ from rfl)) Zac) Zac)<|Zag (Zar (i:=1) Yad.nd rfl (Or.inr rfl)<|Zas (addK K) (pv 1)<|Zbc<|Zaa (Zah (isiRK K) rfl (mb "isinstance"<|by decide) Zae<|Zaa (pv 0)<|Zaa (Zaq rfl cl.n_NoPaper (show RelV (.ref _) _ from rfl)) Zac)<|Zaa (Zah (isiRK K) rfl (mb "isinstance"<|by decide) Zae<|Zaa (pv 0)<|Zaa (Zaq rfl cl.n_Apart (show RelV (.ref _) _ from rfl)) Zac)<|Zaa (Zah (isiRK K) rfl (mb "isinstance"<|by decide) Zae<|Zaa (pv 0)<|Zaa (Zaq rfl cl.n_TooMany (show RelV (.ref _) _ from rfl)) Zac)<|Zaa (Zah (isiRK K) rfl (mb "isinstance"<|by decide) Zae<|Zaa (pv 0)<|Zaa (Zaq rfl cl.n_TooGreat (show RelV (.ref _) _ from rfl)) Zac) Zac)<|Zag (Zar (i:=1) Yad.nd rfl (Or.inr rfl)<|Zas (addK K) (pv 1)<|Zbc<|Zaa (Zah (isiRK K) rfl (mb "isinstance"<|by decide) Zae<|Zaa (pv 0)<|Zaa (Zaq rfl cl.n_NoText (show RelV (.ref _) _ from rfl)) Zac)<|Zaa (Zah (isiRK K) rfl (mb "isinstance"<|by decide) Zae<|Zaa (pv 0)<|Zaa (Zaq rfl cl.n_NoName (show RelV (.ref _) _ from rfl)) Zac)<|Zaa (Zah (isiRK K) rfl (mb "isinstance"<|by decide) Zae<|Zaa (pv 0)<|Zaa (Zaq rfl cl.n_NoRow (show RelV (.ref _) _ from rfl)) Zac) Zac)<|Zam<|Zax<|Zk0 ["_law_k"] (show CompSc (defScope Yae) ["_law_e","_law_found"] _ ["_law_e","_law_found"] [0,1] from ⟨rfl,by decide +kernel,by decide +kernel,by decide +kernel,rfl,by decide +kernel⟩) hr.hd (Zj0 rfl (mb "range"<|by decide)<|Zaa Zai Zac) (λ_ _ _ _ _=>(Zat (i:=0) (show List.Nodup (["_law_k","_law_e","_law_found"]:List Str) from by decide) rfl<|Or.inl rfl)) (λ_ _ _ _ _=>(Zh0<|PW.pt<|pw_and (truK K (Za6 (ixK K hu) (pv 2) (pv 0) λ_ _=>rfl) λ_=>rfl)<|pw_and1<|truK K (Zah (isiRK K) rfl (mb "isinstance"<|by decide) Zae<|Zaa (pv 1)<|Zaa (Zbu rfl (mb "ValueError"<|by decide) Zdn (show RelV (.ty "ValueError") _ from rfl)) Zac) λ_=>rfl)) λ_ _ _ _ _=>(pv 0)),Zcx (λds Post hf=>?_) h⟩;obtain⟨i,rfl,q⟩:=hf;refine⟨by simp,?_⟩;dsimp only[startD,Wbg,Wbh,Wa6,Wad];refine Zap<|Zay<|Zb5 ?_;refine Za4 rfl cl.i_T cl.k_T_NoWeb ?_;refine Za4 rfl cl.i_T cl.k_T_NoOrder ?_;refine Za4 rfl cl.i_T cl.k_T_NoNumber ?_;refine Za4 rfl cl.i_T cl.k_T_NoEnd ?_;refine Zaf ⟨by decide,?_⟩;refine Zap<|Zay<|Zao<|Zad rfl<|Zb5 ?_;refine Za4 rfl cl.i_T cl.k_T_NoTie ?_;refine Za4 rfl cl.i_T cl.k_T_NoPlace ?_;refine Za4 rfl cl.i_T cl.k_T_NoTable ?_;refine Za4 rfl cl.i_T cl.k_T_NoRing ?_;refine Zaf ⟨by decide,Zdf (by decide) ?_⟩;refine Zap<|Zay<|Zao<|Zad rfl<|Zb5 ?_;refine Za4 rfl cl.i_T cl.k_T_NoPaper ?_;refine Za4 rfl cl.i_T cl.k_T_Apart ?_
 refine Za4 rfl cl.i_T cl.k_T_TooMany ?_;refine Za4 rfl cl.i_T cl.k_T_TooGreat ?_;refine Zaf ⟨by decide,Zdf (by decide) ?_⟩;refine Zap<|Zay<|Zao<|Zad rfl<|Zb5 ?_;refine Za4 rfl cl.i_T cl.k_T_NoText ?_;refine Za4 rfl cl.i_T cl.k_T_NoName ?_;refine Za4 rfl cl.i_T cl.k_T_NoRow ?_;refine Zaf ⟨by decide,Zdf (by decide) ?_⟩;show JS K _ [.val (.excR xa c13 i),.val (.lst fnd85)] _;refine Zba<|Zcg (by decide)<|Zkn (i:=0)<|Zab<|Zan<|Zaf ⟨rfl,15,rfl,by decide,by decide,by rw[Zbf];exact small1000 (by decide),is12,λd=>d,λj d hd=>?_,?_⟩
 ·obtain⟨hi,rfl⟩:=Zcf hd
  refine Ze9<|Zbi<|Zao<|Zad rfl<|Zad rfl<|Zbl (Zoz hi) ⟨_,rfl,ite2 (λe=>?_) λe=>?_⟩
  ·refine Zbi (Za0<|Zab<|Zad rfl<|Zab<|Zdm<|Zaf<|Ziw cl.i_T cl.t_T ⟨true,rfl,?_⟩)
   exact⟨e.symm,iteT<|Zad rfl ⟨rfl,_,rfl⟩⟩
  ·exact⟨(Wcg.mpr e).symm,_,rfl⟩
 ·exact q
theorem Zns (mb:Mb mg) (cl:Cl K mg fI c0 c1 c2 c3 c4 c5 c6 c7 c8 c9 c10 c11 c12 c13 c14 c15) (F:Fun K "_law_kinds" "_law_kinds" Yae f fd):FnOk P w K mg base CX0 1 f fd ["_law_e"] (spD K<|fKinds c13):=by
 refine F.ok Yad (Za9 λds Post h=>by obtain⟨_,_,rfl,_⟩:=h;rfl) λcdv A outer s H vs Q E hr h=>?_;have hu:=Zb1 hr;have hv:=Zf4 hr;refine⟨_,(Zag (Zar (i:=1) Yad.nd rfl (Or.inr rfl)<|Zbc<|Zaa (Zah (isiRK K) rfl (mb "isinstance"<|by decide) Zae<|Zaa (pv 0)<|Zaa (Zaq rfl cl.n_NoWeb (show RelV (.ref _) _ from rfl)) Zac)<|Zaa (Zah (isiRK K) rfl (mb "isinstance"<|by decide) Zae<|Zaa (pv 0)<|Zaa (Zaq rfl cl.n_NoOrder (show RelV (.ref _) _ from rfl)) Zac)<|Zaa (Zah (isiRK K) rfl (mb "isinstance"<|by decide) Zae<|Zaa (pv 0)<|Zaa (Zaq rfl cl.n_NoNumber (show RelV (.ref _) _ from rfl)) Zac)<|Zaa (Zah (isiRK K) rfl (mb "isinstance"<|by decide) Zae<|Zaa (pv 0)<|Zaa (Zaq rfl cl.n_NoEnd (show RelV (.ref _) _ from rfl)) Zac) Zac)<|Zag (Zar (i:=1) Yad.nd rfl (Or.inr rfl)<|Zas (addK K) (pv 1)<|Zbc<|Zaa (Zah (isiRK K) rfl (mb "isinstance"<|by decide) Zae<|Zaa (pv 0)<|Zaa (Zaq rfl cl.n_NoTie (show RelV (.ref _) _ from rfl)) Zac)<|Zaa (Zah (isiRK K) rfl (mb "isinstance"<|by decide) Zae<|Zaa (pv 0)<|Zaa (Zaq rfl cl.n_NoPlace (show RelV (.ref _) _ from rfl)) Zac)<|Zaa (Zah (isiRK K) rfl (mb "isinstance"<|by decide) Zae<|Zaa (pv 0)<|Zaa (Zaq rfl cl.n_NoTable (show RelV (.ref _) _ from rfl)) Zac)<|Zaa (Zah (isiRK K) rfl (mb "isinstance"<|by decide) Zae<|Zaa (pv 0)<|Zaa (Zaq rfl cl.n_NoRing (show RelV (.ref _) _ from rfl)) Zac) Zac)<|Zag (Zar (i:=1) Yad.nd rfl (Or.inr rfl)<|Zas (addK K) (pv 1)<|Zbc<|Zaa (Zah (isiRK K) rfl (mb "isinstance"<|by decide) Zae<|Zaa (pv 0)<|Zaa (Zaq rfl cl.n_NoPaper (show RelV (.ref _) _ from rfl)) Zac)<|Zaa (Zah (isiRK K) rfl (mb "isinstance"<|by decide) Zae<|Zaa (pv 0)<|Zaa (Zaq rfl cl.n_Apart (show RelV (.ref _) _ from rfl)) Zac)<|Zaa (Zah (isiRK K) rfl (mb "isinstance"<|by decide) Zae<|Zaa (pv 0)<|Zaa (Zaq rfl cl.n_TooMany (show RelV (.ref _) _ from rfl)) Zac)<|Zaa (Zah (isiRK K) rfl (mb "isinstance"<|by decide) Zae<|Zaa (pv 0)<|Zaa (Zaq rfl cl.n_TooGreat (show RelV (.ref _) _ from rfl)) Zac) Zac)<|Zag (Zar (i:=1) Yad.nd rfl (Or.inr rfl)<|Zas (addK K) (pv 1)<|Zbc<|Zaa (Zah (isiRK K) rfl (mb "isinstance"<|by decide) Zae<|Zaa (pv 0)<|Zaa (Zaq rfl cl.n_NoText (show RelV (.ref _) _ from rfl)) Zac)<|Zaa (Zah (isiRK K) rfl (mb "isinstance"<|by decide) Zae<|Zaa (pv 0)<|Zaa (Zaq rfl cl.n_NoName (show RelV (.ref _) _ from rfl)) Zac)<|Zaa (Zah (isiRK K) rfl (mb "isinstance"<|by decide) Zae<|Zaa (pv 0)<|Zaa (Zaq rfl cl.n_NoRow (show RelV (.ref _) _ from rfl)) Zac) Zac)<|Zam<|Zax<|Zbq ["_law_k"] (show CompSc (defScope Yae) ["_law_e","_law_found"] _ ["_law_e","_law_found"] [0,1] from ⟨rfl,by decide +kernel,by decide +kernel,by decide +kernel,rfl,by decide +kernel⟩) rfl (Zb4 rfl (mb "range"<|by decide)<|Zaa Zai Zac) (λ_ _ _ _ _=>(Zat (i:=0) (show List.Nodup (["_law_k","_law_e","_law_found"]:List Str) from by decide) rfl<|Or.inl rfl)) (λ_ _ _ _ _=>(Zh0<|PW.pt<|pw_and (truK K (Za6 (ixK K hu) (pv 2) (pv 0) λ_ _=>rfl) λ_=>rfl)<|pw_and1<|truK K (Zah (isiRK K) rfl (mb "isinstance"<|by decide) Zae<|Zaa (pv 1)<|Zaa (Zbu rfl (mb "ValueError"<|by decide) Zdn (show RelV (.ty "ValueError") _ from rfl)) Zac) λ_=>rfl)) λ_ _ _ _ _=>(pv 0)),Zcx (λds Post hf=>?_) h⟩;obtain⟨a,i,rfl,q⟩:=hf;refine⟨by simp,?_⟩;dsimp only[startD,Wbg,Wbh,Wa6,Wad];refine Zap<|Zay<|Zb5 ?_;refine Za4 rfl cl.i_T cl.k_T_NoWeb ?_;refine Za4 rfl cl.i_T cl.k_T_NoOrder ?_;refine Za4 rfl cl.i_T cl.k_T_NoNumber ?_;refine Za4 rfl cl.i_T cl.k_T_NoEnd ?_;refine Zaf ⟨by decide,?_⟩;refine Zap<|Zay<|Zao<|Zad rfl<|Zb5 ?_;refine Za4 rfl cl.i_T cl.k_T_NoTie ?_;refine Za4 rfl cl.i_T cl.k_T_NoPlace ?_;refine Za4 rfl cl.i_T cl.k_T_NoTable ?_;refine Za4 rfl cl.i_T cl.k_T_NoRing ?_;refine Zaf ⟨by decide,Zdf (by decide) ?_⟩;refine Zap<|Zay<|Zao<|Zad rfl<|Zb5 ?_;refine Za4 rfl cl.i_T cl.k_T_NoPaper ?_;refine Za4 rfl cl.i_T cl.k_T_Apart ?_;refine Za4 rfl cl.i_T cl.k_T_TooMany ?_;refine Za4 rfl cl.i_T cl.k_T_TooGreat ?_;refine Zaf ⟨by decide,Zdf (by decide) ?_⟩
 refine Zap<|Zay<|Zao<|Zad rfl<|Zb5 ?_;refine Za4 rfl cl.i_T cl.k_T_NoText ?_;refine Za4 rfl cl.i_T cl.k_T_NoName ?_;refine Za4 rfl cl.i_T cl.k_T_NoRow ?_;refine Zaf ⟨by decide,Zdf (by decide) ?_⟩;show JS K _ [.val (.excR a c13 i),.val (.lst fnd85)] _;refine Zba<|Zcg (by decide)<|Zb8<|Zab<|Zan<|Zaf ⟨15,rfl,by decide,by decide,by rw[Zbf];exact small1000 (by decide),is12,λd=>d,λj d hd=>?_,?_⟩
 ·obtain⟨hi,rfl⟩:=Zcf hd
  refine Ze9<|Zbi<|Zao<|Zad rfl<|Zad rfl<|Zbl (Zoz hi) ⟨_,rfl,ite2 (λe=>?_) λe=>?_⟩
  ·refine Zbi (Za0<|Zab<|Zad rfl<|Zab<|Zdm<|Zaf<|Ziw cl.i_T cl.t_T ⟨true,rfl,?_⟩)
   exact⟨e.symm,iteT<|Zad rfl ⟨rfl,_,rfl⟩⟩
  ·exact⟨(Wcg.mpr e).symm,_,rfl⟩
 ·exact q
theorem Zon (mb:Mb mg) (cl:Cl K mg fI c0 c1 c2 c3 c4 c5 c6 c7 c8 c9 c10 c11 c12 c13 c14 c15) (nt:NoTx P w K mg base "NoText" c13 fI) (C35:Callee P w K mg base 6 "floor_with" ["floor","row"] (spD K fFloorW)) (C34:Callee P w K mg base 2 "ends_at" ["web","place"] (spN K fEnds)) (F:Fun K "read" "read" Yah f fd):FnOk P w K mg base (CXR P w) 7 f fd ["text"] (spXR K<|fReadX c13):=by
 refine F.okR Yaa (Znl λds Post Xp h=>by obtain⟨_,_,rfl,_⟩:=h;rfl) λcdv A outer s H vs Q E hr h=>?_;have hu:=Zb1 hr;have hv:=Zf4 hr;refine⟨_,(Zag (Zbm (Zbv<|truK K (Zah (isiUK K) rfl (mb "isinstance"<|by decide) Zae<|Zaa (pv 0)<|Zaa (Zbu rfl (mb "str"<|by decide) Ze6 (show RelV (.ty "str") _ from rfl)) Zac) λ_=>rfl) (Zam<|Zex nt (hr.mono<|by decide) rfl rfl hr.hd Zfx<|Zaa Zai Zac) Zaw)<|Zag (Zar (i:=1) Yaa.nd rfl (Or.inl rfl)<|bmK K PySem.F.plainAttrs_str PySem.F.slot_str_split PySem.F.type_str_split (splitK K) (pv 0)<|Zaa Zbx Zac)<|Zag (Zar (i:=2) Yaa.nd rfl (Or.inl rfl) Zb7)<|Zag (Zd7 PassesOwn.leaving rfl (Ziy K rfl (mb "enumerate"<|by decide)<|Zaa (pv 1) Zac) (gtupK (n:=2) K rfl<|Za3 (Zat (i:=3) Yaa.nd rfl<|Or.inl rfl)<|Za3 (Zat (i:=4) Yaa.nd rfl<|Or.inl rfl) Zct)<|Zag (Zar (i:=2) Yaa.nd rfl (Or.inl rfl)<|Za8 C35 (hr.mono<|by decide)<|Zaa (pv 2)<|Zaa (pv 4) Zac)<|Zam<|Zbm (Zau Zlp (pv 2) Zb7<|nomark _) (Zam<|Zex nt (hr.mono<|by decide) rfl rfl hr.hd Zfx<|Zaa (pv 3) Zac) Zaw)<|Zag (Zfo (pv 2)<|gtupK (n:=2) K rfl<|Za3 (Zat (i:=5) Yaa.nd rfl<|Or.inr rfl)<|Za3 (Zat (i:=6) Yaa.nd rfl<|Or.inl rfl) Zct)<|Zag (Zar (i:=7) Yaa.nd rfl (Or.inl rfl)<|Zas (addK K) (pv 6)<|Zas (Zhu K) (Zbd<|Zaa (Zbd Zac) Zac)<|Zas Zit (Za6 (ixK K hu) (pv 5) Zai λ_ _=>rfl)<|Zah (lenK K) rfl (mb "len"<|by decide) Zbg<|Zaa (pv 6) Zac)<|Zag (Zbm (Zbv<|truK K (Zah (allK K rfl) rfl (mb "all"<|by decide) Zi9<|Zaa (Zbq ["place","ends"] (show CompSc (defScope Yah) ["text","rows","floor","at","row","web","standing","order"] _ ["web"] [5] from ⟨rfl,by decide +kernel,by decide +kernel,by decide +kernel,rfl,by decide +kernel⟩) rfl (Zd3 K rfl (mb "enumerate"<|by decide)<|Zaa (pv 7) Zac) (λ_ _ _ _ _=>(gtupK (n:=2) K rfl<|Za3 (Zat (i:=0) (show List.Nodup (["place","ends","web"]:List Str) from by decide) rfl<|Or.inl rfl)<|Za3 (Zat (i:=1) (show List.Nodup (["place","ends","web"]:List Str) from by decide) rfl<|Or.inl rfl) Zct)) (λ_ _ _ _ _=>Zck) λ_ _ _ _ _=>(Zdx (eqDK K hv) (Zah (sortTK K) rfl (mb "sorted"<|by decide) Ze4<|Zaa (pv 1) Zac) (Za8 C34 (hr.mono<|by decide)<|Zaa (pv 2)<|Zaa (pv 0) Zac)<|nomark _)) Zac) λ_=>rfl) (Zam<|Zex nt (hr.mono<|by decide) rfl rfl hr.hd Zfx<|Zaa (Zas (addK K) (Zah (lenK K) rfl (mb "len"<|by decide) Zbg<|Zaa (pv 1) Zac) Zai) Zac) Zaw)<|Zam<|Zax<|Zbd<|Zaa (pv 5)<|Zaa (pv 7) Zac),Zrj (λds Post Xp hf=>?_) h⟩;obtain⟨d,T,rfl,hT,hk,q⟩:=hf;refine⟨by simp,?_⟩;dsimp only[startD,Wbg,Wbh,Wa6,Wad];refine Zp4<|Zss<|Zb0<|Zbi<|Za0<|Zab<|Zad rfl<|Zab<|Zdm<|Zaf<|Zcw (T:=T) (b:=false) hT hk ⟨_,rfl,iteT ?_⟩;exact Zkh<|Zab<|Zan<|Zaf ⟨1,rfl,q⟩
theorem Zn4 (mb:Mb mg) (cl:Cl K mg fI c0 c1 c2 c3 c4 c5 c6 c7 c8 c9 c10 c11 c12 c13 c14 c15) (C40:CalleeR P w K mg base 7 "read" ["text"] (spXR K<|fReadX c13)) (C26:CalleeH P w K mg base 1 "_law_kinds" ["_law_e"] (λxa=>spD K<|fKindsH c13 xa)) (F:Fun K "_law_read" "_law_read" Ya5 f fd):FnOk P w K mg base CX0 8 f fd ["_law_text_here"] (spD K fLread):=by
 refine F.ok Ya8 (Za9 λds Post h=>by obtain⟨_,_,rfl,_⟩:=h;rfl) λcdv A outer s H vs Q E hr h=>?_;have hu:=Zb1 hr;have hv:=Zf4 hr;refine⟨_,(Zag (Zp1 (i:=1) Ya8.nd rfl rfl rfl rfl rfl rfl cl.n_FloorError cl.e_FloorError C40 (hr.mono<|by decide) (λpn xe=>(Zaa (pv 0) Zac)) λa=>(Zam<|Zbm (Zau (eqAK K hv) (Zte C26 (Room.mark (hr.mono<|by decide) a)<|Zaa (pv 1) Zac) (Zbc<|Zaa Zai Zac)<|nomark _) (Zam<|Zax<|Zbc<|Zaa (Zka (pv 1) rfl) Zac) Zaw))<|Zam<|Zax<|Zbc Zac),Zcx (λds Post hf=>?_) h⟩;obtain⟨d,T,rfl,hT,hk,q⟩:=hf;refine⟨by simp,?_⟩;dsimp only[startD,Wbg,Wbh,Wa6,Wad];refine Zap<|Zqt<|Zab<|Zad rfl<|Zaf ⟨by show 1<2;decide,d,T,rfl,hT,hk,⟨⟨fI,cl.i_T.cl⟩,cl.m_T⟩,λa=>?_⟩;refine Zbn<|Zav<|Zao<|Za1<|Zab<|Zad rfl<|Zaf ⟨1,rfl,?_⟩;refine Zb5<|Zab<|Zan<|Zaf ⟨Zc5,Zh2 (n:=1) (by decide) rfl ⟨true,rfl,iteT ?_⟩⟩;exact Zba<|Zb5<|Zab<|Zj5<|Zad rfl ⟨a,c13,1,fI,rfl,cl.i_T,cl.z_T.hd,cl.r_T,Zaf ⟨Zc5,q⟩⟩
theorem pow60:(10:Int) ^ (60:Int).toNat=1000000000000000000000000000000000000000000000000000000000000:=by decide +kernel
theorem neg85 {Δ:Evt}{i:Int}:PV K (tUn (rU λi=>.int (-i))<|tC (.int i)) Δ (.int (-i)):=λP p=>Zsk<|Zan<|Zph p
theorem Zqq {xs:List D}{z:Int}(h0:0<=z) (h1:z<(xs.length:Int)):∃x,atI xs z=some x/\x∈xs:=by
 have hz:z.toNat<xs.length:=by omega
 refine⟨xs[z.toNat],?_,Wbf hz⟩;have:=Zbj (xs:=xs) (j:=z.toNat) (v:=xs[z.toNat])<|Wab hz
 rwa [show ((z.toNat:Nat):Int)=z by omega]at this
theorem ok_law (mb:Mb mg) (cl:Cl K mg fI c0 c1 c2 c3 c4 c5 c6 c7 c8 c9 c10 c11 c12 c13 c14 c15) (nt:NoTx P w K mg base "NoText" c13 fI) (C28:Callee P w K mg base 1 "_law_pen" ["_law_script"] (spN K fPen)) (C25:Callee P w K mg base 1 "_law_draw" ["_law_pen_here","_law_many"] (spB K fDraw)) (C32:Callee P w K mg base 2 "_law_web" ["_law_pen_here","_law_places","_law_ties"] (spB K fWeb)) (C27:Callee P w K mg base 2 "_law_order" ["_law_pen_here","_law_web_here"] (spB K fOrder))
  (C31:Callee P w K mg base 1 "_law_text" ["_law_web_here","_law_order_here"] (spD K fTxt)) (C29:Callee P w K mg base 8 "_law_read" ["_law_text_here"] (spD K fLread)) (C33:Callee P w K mg base 1 "_law_whole" ["_law_found"] (spD K fWhole)) (C40:Callee P w K mg base 7 "read" ["text"] (spD K fRead)) (C30:Callee P w K mg base 6 "_law_same" ["_law_found","_law_due"] (spD K<|fSame 5))
  (C26:Callee P w K mg base 1 "_law_kinds" ["_law_e"] (spD K<|fKinds c13)) (F:Fun K "law" "law" Yaf f fd):FnOk P w K mg base CX0 9 f fd ["_law_script"] (spD K fLaw):=by
 refine F.ok Yac (Za9 λds Post h=>by obtain⟨_,rfl,_⟩:=h;rfl) λcdv A outer s H vs Q E hr h=>?_;have hu:=Zb1 hr;have hv:=Zf4 hr;refine⟨_,(by (refine' Zag ?s ?r); (case s=>exact(Zar (i:=1) Yac.nd rfl (Or.inl rfl)<|Za8 C28 (hr.mono<|by decide)<|Zaa (pv 0) Zac)); (case r=>exact(by (refine' Zag ?s ?r); (case s=>exact(Zar (i:=2) Yac.nd rfl (Or.inl rfl)<|Za8 C32 (hr.mono<|by decide)<|Zaa (pv 1)<|Zaa Zai<|Zaa Zai Zac)); (case r=>exact(by (refine' Zag ?s ?r); (case s=>exact(Zar (i:=3) Yac.nd rfl (Or.inl rfl)<|Zbd<|Zaa (pv 2)<|Zaa (Za8 C27 (hr.mono<|by decide)<|Zaa (pv 1)<|Zaa (pv 2) Zac) Zac)); (case r=>exact(by (refine' Zag ?s ?r); (case s=>exact(Zar (i:=4) Yac.nd rfl (Or.inl rfl)<|Za8 C31 (hr.mono<|by decide)<|Zaa (Za6 (ixK K hu) (pv 3) Zai λ_ _=>rfl)<|Zaa (Za6 (ixK K hu) (pv 3) Zai λ_ _=>rfl) Zac)); (case r=>exact(by (refine' Zag ?s ?r); (case s=>exact(by (refine' @Zar _ _ 5 _ _ _ _ Yac.nd rfl (Or.inl rfl) ?e1 rfl (by first|exact .inl rfl|exact .inr rfl|assumption)); (case e1=>refine' (@Zbc (xlaw P w K mg base f cdv A outer s H E) _ _ _  (@Zaa (xlaw P w K mg base f cdv A outer s H E) _ _ _ _ Zb7 (@Zaa (xlaw P w K mg base f cdv A outer s H E) _ _ _ _ Zm4 (@Zaa (xlaw P w K mg base f cdv A outer s H E) _ _ _ _ Zm4 (@Zaa (xlaw P w K mg base f cdv A outer s H E) _ _ _ _ Zai (@Zaa (xlaw P w K mg base f cdv A outer s H E) _ _ _ _ (Ztn Zth Zai) (@Zaa (xlaw P w K mg base f cdv A outer s H E) _ _ _ _ (Za8 C25 (hr.mono<|by decide)<|Zaa (pv 1)<|Zaa (Zas Zo8 Zai Zai) Zac) (@Zaa (xlaw P w K mg base f cdv A outer s H E) _ _ _ _ (@Zbc (xlaw P w K mg base f cdv A outer s H E) _ _ _  (@Zaa (xlaw P w K mg base f cdv A outer s H E) _ _ _ _ (pv 4) Zac (@Zg3 _ _ _ _))) (@Zaa (xlaw P w K mg base f cdv A outer s H E) _ _ _ _ (@Zbd (xlaw P w K mg base f cdv A outer s H E) _ _ _ _ (@Zaa (xlaw P w K mg base f cdv A outer s H E) _ _ _ _ (pv 4) Zac (@Zg3 _ _ _ _))) (@Zaa (xlaw P w K mg base f cdv A outer s H E) _ _ _ _ ?sp (@Zaa (xlaw P w K mg base f cdv A outer s H E) _ _ _ _ Zn1 (@Zaa (xlaw P w K mg base f cdv A outer s H E) _ _ _ _ (Zq2 (Zm7 (pv 4) (pv 4) Zpn) rfl rfl (Wdd _ _) (by show 1<=15;decide)) Zac (@Zgw _ _ _ _ _)) (@Zgw _ _ _ _ _)) (@Zgv _ _ _ _ _ _)) (@Zog _ _ _ _ _)) (@Zk3 _ _ _ _)) (@Zgv _ _ _ _ _ _)) (@Zra _ _ _ _ _)) (@Zeh _ _ _ _ _)) (@Zeh _ _ _ _ _)) (@Zeh _ _ _ _ _)) (@Zeh _ _ _ _ _)));case sp=>refine' (@bmK (xlaw P w K mg base f cdv A outer s H E) K _ _ _ _ _ _ _ _ _ _ _ PySem.F.plainAttrs_str PySem.F.slot_str_split PySem.F.type_str_split (splitK K) (pv 4) (Zaa Zbx Zac) ?a1 ?a2 ?a3 ?a4 ?a5 ?a6) <;> rfl))); (case r=>exact(by (refine' Zag ?s ?r); (case s=>exact(Zd7 PassesOwn.never rfl (Zb4 rfl (mb "range"<|by decide)<|Zaa (Zas (addK K) Zai<|Za8 C25 (hr.mono<|by decide)<|Zaa (pv 1)<|Zaa Zai Zac) Zac) (Zat (i:=6) Yac.nd rfl<|Or.inl rfl)<|Zag (Zar (i:=7) Yac.nd rfl (Or.inl rfl)<|Za6 (ixK K hu) (Zas (addK K) (pv 5)<|Zbc<|Zaa (pv 3)<|Zaa (Zbc Zac)<|Zaa (Zbd Zac) Zac) (Za8 C25 (hr.mono<|by decide)<|Zaa (pv 1)<|Zaa Zai Zac) λ_ _=>rfl)<|Zag (Zar (i:=8) Yac.nd rfl (Or.inl rfl)<|Zah (reprXK K hr.gd<|Zsr hr) rfl (mb "repr"<|by decide) Zk4<|Zaa (pv 7) Zac)<|Zag (Zar (i:=9) Yac.nd rfl (Or.inl rfl)<|Za8 C29 (hr.mono<|by decide)<|Zaa (pv 7) Zac)<|Zam<|Zbm (PW.pt<|pw_or (Zau (neAK K hv) (pv 9) (Zbc<|Zaa Zai Zac)<|nomark _)<|pw_or (Zbv<|truK K (Za8 C33 (hr.mono<|by decide)<|Zaa (Za6 (ixK K hu) (pv 9) Zai λ_ _=>rfl) Zac) λ_=>rfl)<|pw_or (Zbv<|truK K (Za8 C30 (hr.mono<|by decide)<|Zaa (Za8 C40 (hr.mono<|by decide)<|Zaa (pv 4) Zac)<|Zaa (pv 3) Zac) λ_=>rfl)<|pw_or1<|Zau Zg7 (Zah (reprXK K hr.gd<|Zsr hr) rfl (mb "repr"<|by decide) Zk4<|Zaa (pv 7) Zac) (pv 8)<|nomark _) (Zam<|Zax Zm4) Zaw)); (case r=>exact(by (refine' Zag ?s ?r); (case s=>exact(Zar (i:=10) Yac.nd rfl (Or.inl rfl)<|Zas (addK K) Zai<|Za8 C25 (hr.mono<|by decide)<|Zaa (pv 1)<|Zaa Zai Zac)); (case r=>exact(by (refine' Zag ?s ?r); (case s=>exact(Zar (i:=11) Yac.nd rfl (Or.inl rfl)<|Zn6 nt (hr.mono<|by decide) rfl rfl<|Zaa (pv 10) Zac)); (case r=>exact(Zam<|Zax<|Zg0 (Zdx (eqAK K hv) (Za8 C26 (hr.mono<|by decide)<|Zaa (pv 11) Zac) (Zbc<|Zaa Zai Zac)<|nomark _)<|Zg0 (Zah (isiRK K) rfl (mb "isinstance"<|by decide) Zae<|Zaa (pv 11)<|Zaa (Zaq rfl cl.n_FloorError (show RelV (.ref _) _ from rfl)) Zac)<|Zi6<|Zdx Zci (Zka (pv 11) rfl) (pv 10)<|nomark _))))))))))))))))),Zcx (λds Post hf=>?_) h⟩
 obtain⟨ns,rfl,hl,q⟩:=hf;refine⟨by simp,?_⟩;dsimp only[cxOf,startD,Wbg,Wbh,Wa6,Wad];refine Zap<|Zhn<|Zhs<|Zab<|Zad rfl<|Zaf ⟨ns,rfl,hl,λps hp=>?_⟩;refine Zby (λΔ=>∃(ps1:List D) (n:Int) (ts:List (Int × Int)),Pen ps1/\WebOk n ts /\ Δ = [.val (.scr<|ns.map .int),.own (.lst ps1),.val (encWeb n ts),.any,.any,.any,.any,.any,.any,.any,.any,.any]) ?_ ?_
 ·exact Zay<|Zdy rfl rfl<|Zab<|Zan<|Zab<|Zan<|Zaf (Ztb rfl rfl hp (by decide) (by decide) (by decide) (by decide) λn ts ps1 hp1 hW _ _=>⟨ps1,n,ts,hp1,hW,rfl⟩)
 rintro Δ1 ⟨ps1,n,ts,hp1,hW,rfl⟩;refine Zby (λΔ=>∃(ps2:List D) (o:List (List Int)),Pen ps2/\OrdOk n ts o /\ Δ = [.val (.scr<|ns.map .int),.own (.lst ps2),.val (encWeb n ts),.val (floorD n ts o),.any,.any,.any,.any,.any,.any,.any,.any]) ?_ ?_
 ·exact Zay<|Zbh<|Zab<|Zad rfl<|Zab<|Zdy rfl rfl<|Zab<|Zad rfl<|Zaf (Zmv rfl rfl hp1 hW λu ps3 hp3 hU=>Zaf ⟨Zfk,ps3,u,hp3,hU,rfl⟩)
 rintro Δ1 ⟨ps2,o,hp2,hO,rfl⟩;have FL:=Zq0 hW hO;have tl:=Zmr hW hO;have tf:∀{Δ:Evt},Δ[3]?=some (.val<|floorD n ts o)->PV K (tVar 3) Δ (floorD n ts o):=λh3=>Zbz h3;refine Zap<|Zay<|Za1<|Zor (Zcv (Zha (tf rfl) Zcm rfl)<|Zcv (Zha (tf rfl) Zcm rfl) Zel) ⟨n,ts,o,rfl,FL,?_⟩;refine Zby (λΔ=>∃(ps3:List D) (r:Int),Pen ps3/\0<=r/\r<1000000000000000000000000000000000000000000000000000000000000 /\ Δ = [.val (.scr<|ns.map .int),.own (.lst ps3),.val (encWeb n ts),.val (floorD n ts o),.val (.str<|txt n ts o),.val (.lst<|some85 (txt n ts o) (lins n ts o) r),.any,.any,.any,.any,.any,.any]) ?_ ?_
 ·refine Zay (Zb5<|Zab<|Zd5<|Zab<|Zqu<|Zab<|Zqu<|Zab<|Zan<|Zab<|Zgt neg85<|Zab<|Zdy rfl rfl<|Zab<|Zao<|Zan<|Zan<|jr_I ⟨by decide,by decide,by decide⟩ ?_)
  rw[pow60];refine Zaf (Zca rfl rfl hp2 (by decide) (by decide) λr ps3 hp3 r0 r1=>?_);refine Zab<|Zb5<|Zab<|Zad rfl<|Zaf ⟨Zc5,?_⟩;refine Zab<|Zbh<|Zab<|Zad rfl<|Zaf ⟨Zc5,?_⟩;refine Zab<|Zcj<|Zgi<|Zad rfl ⟨_,rfl,Zbs ⟨_,rfl,by decide,Was (Wc6 tl 2) (by decide),_,rfl,?_⟩⟩;rw[Zgr hW hO];refine Zab<|Zpy<|Zab<|Zty rfl rfl<|Zaf ⟨by show 11<=sizeLine;decide,?_⟩;exact⟨ps3,r,hp3,r0,r1,rfl⟩
 rintro Δ1 ⟨ps3,r,hp3,r0,r1,rfl⟩;have AT:=Zob (r:=r) FL (Was tl<|by decide) r0 r1;clear r0 r1;generalize hSM:some85 (txt n ts o) (lins n ts o) r=SM at AT ⊢;have hsl:SM.length=11:=by rw[<- hSM];rfl
 refine Zby (λΔ=>∃(ps4:List D) (x6 x7 x8 x9:L2.Slot),Pen ps4 /\ Δ = [.val (.scr<|ns.map .int),.own (.lst ps4),.val (encWeb n ts),.val (floorD n ts o),.val (.str<|txt n ts o),.val (.lst SM),x6,x7,x8,x9,.any,.any]) ?_ ?_
 ·refine Zez (Zb8<|Zab<|Zao<|Zan<|Zdy rfl rfl<|Zab<|Zan<|Zaf (Zca rfl rfl hp3 (by decide) (by decide) λm p4 hp4 m0 m1=>Zdw ?_))
  refine Zaf ⟨_,rfl,by omega,by omega,λ_ Δ=>∃(ps4:List D) (x6 x7 x8 x9:L2.Slot),Pen ps4 /\ Δ = [.val (.scr<|ns.map .int),.own (.lst ps4),.val (encWeb n ts),.val (floorD n ts o),.val (.str<|txt n ts o),.val (.lst SM),x6,x7,x8,x9,.any,.any],⟨_,_,_,_,_,hp4,rfl⟩,?_,λΔ h=>h⟩;rintro i d Δ2 hd ⟨p5,x6,x7,x8,x9,hp5,rfl⟩;refine Zb3<|Zap<|Zay<|Zao<|Zgt (Zc9 (Zbz rfl) (Zo5 (Zcv (Zbz rfl)<|Zcv (Zo5 Zel (by show 0<=sizeLine;decide))<|Zcv (Zrq Zel (by show 0<=sizeLine;decide)) Zel) (by show 3<=sizeLine;decide))<|Zqw (by rw[hsl];show 11+3<=sizeLine;decide))<|Zdy rfl rfl<|Zab<|Zan<|Zaf (Zca rfl rfl hp5 (by decide) (by decide) λz p6 hp6 z0 z1=>?_);obtain⟨y,ey,hy⟩:=Zqq (xs:=SM++[floorD n ts o,.lst [],.tup []]) (z:=z) z0 (by rw[War,hsl];exact z1);obtain⟨hrep,T,hT,hk⟩:=AT y hy;refine Zbl ey ?_;refine Zap<|Zay<|Za0<|Zab<|Zad rfl<|Zaf<|Zi5 hrep ?_;refine Zap<|Zay<|Za1<|Zab<|Zad rfl<|Zaf ⟨y,T,rfl,hT,hk,?_⟩;refine Zbn<|Zeb<|Zav<|Zao<|Zad rfl<|Zb5<|Zab<|Zan<|Zaf ⟨Zc5,Zh2 (n:=1) (by decide) rfl ⟨false,rfl,iteF ?_⟩⟩;refine Zeb<|Zb0<|Zbi<|Za1<|Zab<|Zao<|Zad rfl<|Zan<|Zbl (d:=.int 1) rfl<|Zaf ⟨1,rfl,true,rfl,iteF ?_⟩;refine Zeb<|Zb0<|Zbi<|Za1<|Zab<|Za1<|Zab<|Zad rfl<|Zaf ⟨n,ts,o,rfl,hW,hO,?_⟩;refine Zab<|Zad rfl<|Zaf ⟨_,rfl,Zmw hW hO,true,rfl,iteF ?_⟩;exact Zav<|Zao<|Za0<|Zab<|Zad rfl<|Zaf<|Zi5 hrep<|Zad rfl<|Zrn ⟨_,rfl,iteF<|Zaz ⟨_,_,_,_,_,hp6,rfl⟩⟩
 rintro Δ1 ⟨ps4,x6,x7,x8,x9,hp4,rfl⟩;refine Zap<|Zay<|Zao<|Zan<|Zdy rfl rfl<|Zab<|Zan<|Zaf (Zca rfl rfl hp4 (by decide) (by decide) λm p5 hp5 m0 m1=>Zdw ?_);refine Zap<|Zay<|Znc<|Zab<|Zad rfl<|Zaf ⟨_,rfl,λa=>?_⟩;refine Zba<|Zd0<|Zao<|Za1<|Zab<|Zad rfl<|Zaf ⟨a,_,rfl,?_⟩;refine Zb5<|Zab<|Zan<|Zaf ⟨Zc5,Zh2 (n:=1) (by decide) rfl ⟨true,rfl,iteT ?_⟩⟩;refine Zd0<|Za0<|Zab<|Zad rfl<|Zab<|Zo1<|Zaf<|Zj8 cl.i_T cl.k_T_FloorError ⟨true,rfl,iteT ?_⟩;refine Zao<|Zj5<|Zad rfl ⟨a,c13,_,fI,rfl,cl.i_T,cl.z_T.hd,cl.r_T,Zad rfl<|Zia ?_⟩;rw[decide_eq_true rfl];exact q
end
theorem lenS {us:List Value}{n:Nat}(h:us.length=n+1):∃a t,us=a::t/\t.length=n:=by
 cases us with
 |nil=>exact absurd h.symm (Nat.succ_ne_zero n)
 |cons a t=>exact⟨a,t,rfl,Nat.succ.inj h⟩
theorem bK1 {α:Type _}{g r:List Value -> α}(h:∀a0,g [a0]=r [a0]) (us:List Value) (l:us.length=1):g us=r us:=by
 obtain⟨a0,u0,rfl,h0⟩:=lenS l;obtain rfl:=Wby h0;exact h a0
theorem bK2 {α:Type _}{g r:List Value -> α}(h:∀a0 a1,g [a0,a1]=r [a0,a1]) (us:List Value) (l:us.length=2):g us=r us:=by
 obtain⟨a0,u0,rfl,h0⟩:=lenS l;obtain⟨a1,u1,rfl,h1⟩:=lenS h0;obtain rfl:=Wby h1;exact h a0 a1
theorem bK3 {α:Type _}{g r:List Value -> α}(h:∀a0 a1 a2,g [a0,a1,a2]=r [a0,a1,a2]) (us:List Value) (l:us.length=3):g us=r us:=by
 obtain⟨a0,u0,rfl,h0⟩:=lenS l;obtain⟨a1,u1,rfl,h1⟩:=lenS h0;obtain⟨a2,u2,rfl,h2⟩:=lenS h1;obtain rfl:=Wby h2;exact h a0 a1 a2
def FnE (K:W.Frag) (x:Str) (st:Stmt):Prop:=∃(f:Addr) (fd:FuncData),W.nsIn K mainGlobals x=some (some (.ref f))/\Fun K x x st f fd
theorem fnE {K:W.Frag}{x:Str}{st:Stmt}{f:Addr}{oc kV doc pm cdv ct:Value}{od an:Option Addr}{sl:Array (Option Value)}(a:W.nsIn K mainGlobals x=some (some (.ref f))) (l:K.lookup f=some ⟨oc,od,.func<|W.fnOf x x (defArgs st) (defBody st) (defScope st) .none kV doc pm an cdv ct,sl⟩) (c:W.codeIn K cdv x=true) (k:W.keepIn K (.ref f)=true):FnE K x st:=⟨f,_,a,Zo6 l c k⟩
theorem Zq7 {P:Program}{w:World}{K:W.Frag}{mg:Str->Option Value}{base h:Heap}(X:K.In h) (G:h.Ns mainGlobals mg) {x:Str}{st:Stmt}{ps:List Str}{lv:Nat}{sp:Sp}(e:FnE K x st) (ok:∀{f:Addr}{fd:FuncData},Fun K x x st f fd->FnOk P w K mg base CX0 lv f fd ps sp) (hb:∀(kV doc pm:Value) (an:Option Addr) (cdv ct:Value) (us:List Value),us.length=ps.length->bindArgs (W.fnOf x x (defArgs st) (defBody st) (defScope st) .none kV doc pm an cdv ct) ⟨us,[]⟩=pure (ps.zip us)):Callee P w K mg base lv x ps sp:=by
 obtain⟨f,fd,a,F⟩:=e;exact⟨⟨f,fd,ok F,F.binds hb,F.kp,W.mg_of X G a⟩⟩
theorem Zn3 {P:Program}{w:World}{K:W.Frag}{mg:Str->Option Value}{base h:Heap}(X:K.In h) (G:h.Ns mainGlobals mg) {x:Str}{st:Stmt}{ps:List Str}{lv:Nat}{sp:Addr->Sp}(e:FnE K x st) (ok:∀{f:Addr}{fd:FuncData},Fun K x x st f fd->∀xa,FnOkH xa P w K mg base CX0 lv f fd ps (sp xa)) (hb:∀(kV doc pm:Value) (an:Option Addr) (cdv ct:Value) (us:List Value),us.length=ps.length->bindArgs (W.fnOf x x (defArgs st) (defBody st) (defScope st) .none kV doc pm an cdv ct) ⟨us,[]⟩=pure (ps.zip us)):CalleeH P w K mg base lv x ps sp:=by
 obtain⟨f,fd,a,F⟩:=e;exact⟨⟨f,fd,ok F,F.binds hb,F.kp,W.mg_of X G a⟩⟩
theorem Znr {P:Program}{w:World}{K:W.Frag}{mg:Str->Option Value}{base h:Heap}(X:K.In h) (G:h.Ns mainGlobals mg) {x:Str}{st:Stmt}{ps:List Str}{lv:Nat}{sp:Sp}(e:FnE K x st) (ok:∀{f:Addr}{fd:FuncData},Fun K x x st f fd->FnOk P w K mg base (CXR P w) lv f fd ps sp) (hb:∀(kV doc pm:Value) (an:Option Addr) (cdv ct:Value) (us:List Value),us.length=ps.length->bindArgs (W.fnOf x x (defArgs st) (defBody st) (defScope st) .none kV doc pm an cdv ct) ⟨us,[]⟩=pure (ps.zip us)):CalleeR P w K mg base lv x ps sp:=by
 obtain⟨f,fd,a,F⟩:=e;exact⟨⟨f,fd,ok F,F.binds hb,F.kp,W.mg_of X G a⟩⟩
theorem Zmu {P:Program}{w:World}{K:W.Frag}{mg:Str->Option Value}{base h:Heap}(X:K.In h) (G:h.Ns mainGlobals mg) {x:Str}{st:Stmt}{ps:List Str}{lv:Nat}{sp:Sp}(e:FnE K x st) (ok:∀{f:Addr}{fd:FuncData},Fun K x x st f fd->Binds K fd ps []->W.keepIn K (.ref f)=true->mg x=some (.ref f)->FnOk P w K mg base CX0 lv f fd ps sp) (hb:∀(kV doc pm:Value) (an:Option Addr) (cdv ct:Value) (us:List Value),us.length=ps.length->bindArgs (W.fnOf x x (defArgs st) (defBody st) (defScope st) .none kV doc pm an cdv ct) ⟨us,[]⟩=pure (ps.zip us)):Callee P w K mg base lv x ps sp:=by
 obtain⟨f,fd,a,F⟩:=e;exact⟨⟨f,fd,ok F (F.binds hb) F.kp<|W.mg_of X G a,F.binds hb,F.kp,W.mg_of X G a⟩⟩
theorem all_mk {l:PySem.W.OpenLaw}{w:World}{K:W.Frag}{h:Heap}{mg:Str->Option Value}{fa:Addr}(X:K.In h) (G:h.Ns mainGlobals mg) (hfa:mg "law" = some (.ref fa))
  (e1:FnE K "_law_draw" Ya2)
  (e2:FnE K "_law_pen" Yar)
  (e3:FnE K "_law_web" Ya3)
  (e4:FnE K "_law_order" Yai)
  (e5:FnE K "_law_whole" Ya4)
  (e6:FnE K "_law_same" Yaj)
  (e7:FnE K "_law_text" Yas)
  (e8:FnE K "number_written" Yaq)
  (e9:FnE K "is_row" Yav)
  (e10:FnE K "is_whole" Yau)
  (e11:FnE K "tie_of" Yaw)
  (e12:FnE K "web_of" Yan)
  (e13:FnE K "with_web" Ya0)
  (e14:FnE K "with_places" Yay)
  (e15:FnE K "with_tie" Yaz)
  (e16:FnE K "place_of" Yax)
  (e17:FnE K "ends_at" Yao)
  (e18:FnE K "with_ends" Ya1)
  (e19:FnE K "floor_with" Yap)
  (e20:FnE K "read" Yah)
  (e21:FnE K "_law_kinds" Yae)
  (e22:FnE K "_law_read" Ya5)
  (e23:FnE K "law" Yaf)
  {tk_FIGURES:Tok}(y_FIGURES:W.nsIn K mainGlobals "FIGURES" = some (some (.str "0123456789" tk_FIGURES)))
  {tk_MOST_FIGURES:Tok}(y_MOST_FIGURES:W.nsIn K mainGlobals "MOST_FIGURES" = some (some (.int 60 tk_MOST_FIGURES)))
  {tk_MOST_PLACES:Tok}(y_MOST_PLACES:W.nsIn K mainGlobals "MOST_PLACES" = some (some (.int 25 tk_MOST_PLACES)))
  {tk_MOST_TIES:Tok}(y_MOST_TIES:W.nsIn K mainGlobals "MOST_TIES" = some (some (.int 24 tk_MOST_TIES)))
  (z0:W.nsIn K mainGlobals "ValueError" = some none)
  (z1:W.nsIn K mainGlobals "abs" = some none)
  (z2:W.nsIn K mainGlobals "all" = some none)
  (z3:W.nsIn K mainGlobals "bool" = some none)
  (z4:W.nsIn K mainGlobals "enumerate" = some none)
  (z5:W.nsIn K mainGlobals "int" = some none)
  (z6:W.nsIn K mainGlobals "isinstance" = some none)
  (z7:W.nsIn K mainGlobals "len" = some none)
  (z8:W.nsIn K mainGlobals "list" = some none)
  (z9:W.nsIn K mainGlobals "max" = some none)
  (z10:W.nsIn K mainGlobals "min" = some none)
  (z11:W.nsIn K mainGlobals "range" = some none)
  (z12:W.nsIn K mainGlobals "repr" = some none)
  (z13:W.nsIn K mainGlobals "sorted" = some none)
  (z14:W.nsIn K mainGlobals "str" = some none)
  (z15:W.nsIn K mainGlobals "tuple" = some none)
  (z16:W.nsIn K mainGlobals "zip" = some none)
  {fI c_FloorError c_NoWeb c_NoOrder c_NoNumber c_NoEnd c_NoTie c_NoPlace c_NoTable c_NoRing c_NoPaper c_Apart c_TooMany c_TooGreat c_NoText c_NoName c_NoRow:Addr}
  (n_FloorError:W.nsIn K mainGlobals "FloorError" = some (some (.ref c_FloorError)))
  (n_NoWeb:W.nsIn K mainGlobals "NoWeb" = some (some (.ref c_NoWeb)))
  (n_NoOrder:W.nsIn K mainGlobals "NoOrder" = some (some (.ref c_NoOrder)))
  (n_NoNumber:W.nsIn K mainGlobals "NoNumber" = some (some (.ref c_NoNumber)))
  (n_NoEnd:W.nsIn K mainGlobals "NoEnd" = some (some (.ref c_NoEnd)))
  (n_NoTie:W.nsIn K mainGlobals "NoTie" = some (some (.ref c_NoTie)))
  (n_NoPlace:W.nsIn K mainGlobals "NoPlace" = some (some (.ref c_NoPlace)))
  (n_NoTable:W.nsIn K mainGlobals "NoTable" = some (some (.ref c_NoTable)))
  (n_NoRing:W.nsIn K mainGlobals "NoRing" = some (some (.ref c_NoRing)))
  (n_NoPaper:W.nsIn K mainGlobals "NoPaper" = some (some (.ref c_NoPaper)))
  (n_Apart:W.nsIn K mainGlobals "Apart" = some (some (.ref c_Apart)))
  (n_TooMany:W.nsIn K mainGlobals "TooMany" = some (some (.ref c_TooMany)))
  (n_TooGreat:W.nsIn K mainGlobals "TooGreat" = some (some (.ref c_TooGreat)))
  (n_NoText:W.nsIn K mainGlobals "NoText" = some (some (.ref c_NoText)))
  (n_NoName:W.nsIn K mainGlobals "NoName" = some (some (.ref c_NoName)))
  (n_NoRow:W.nsIn K mainGlobals "NoRow" = some (some (.ref c_NoRow)))
  (e_FloorError:PySem.W.excIn K c_FloorError [.type "ValueError",.type "Exception",.type "BaseException",.type "object"] "ValueError.__new__" = true)
  (fi:PySem.W.findIn K (.ref c_NoText) "__init__" = some (some (.ref fI)))
  (zc:excInI K c_NoText fI=true)
  (ob:PySem.W.mroIn K c_NoText (.type "object")=some true)
  (sa:PySem.W.findIn K (.ref c_NoText) "__setattr__" = some (some (.builtin "object.__setattr__")))
  (tr:PySem.W.takerIn K c_NoText "row" = some none)
  (hd:PySem.W.hasDictIn K c_NoText=true)
  (ft:PySem.W.typeIn K (.ref fI)=some (.type "function"))
  (kc:W.keepIn K (.ref c_NoText)=true)
  (gsx:PySem.W.specialIn K (.builtin "object.__class__") "__get__" = some (some (.builtin "getset_descriptor.__get__")))
  (tkx:PySem.W.takesIn K (.builtin "object.__class__")=some true)
  (ga:PySem.W.findIn K (.ref c_NoText) "__getattribute__" = some (some (.builtin "BaseException.__getattribute__")))
  (gt:PySem.W.findIn K (.ref c_NoText) "__getattr__" = some none)
  (ca:PySem.W.findIn K (.ref c_NoText) "__class__" = some (some (.builtin "object.__class__")))
  (be:PySem.W.mroIn K c_NoText (.type "BaseException")=some true)
  (ve:PySem.W.subIn K (.ref c_NoText) (.type "ValueError")=some true)
  (mT:PySem.W.mroIn K c_NoText (.ref c_FloorError)=some true)
  (rT:PySem.W.findIn K (.ref c_NoText) "row" = some none)
  (ic_NoWeb:PySem.W.isClsIn K c_NoWeb=true)
  (ty_NoWeb:PySem.W.typeIn K (.ref c_NoWeb)=some (.type "type"))
  (s_NoWeb:PySem.W.subIn K (.ref c_NoText) (.ref c_NoWeb)=some false)
  (d_NoWeb:(c_NoText == c_NoWeb)=false)
  (ic_NoOrder:PySem.W.isClsIn K c_NoOrder=true)
  (ty_NoOrder:PySem.W.typeIn K (.ref c_NoOrder)=some (.type "type"))
  (s_NoOrder:PySem.W.subIn K (.ref c_NoText) (.ref c_NoOrder)=some false)
  (d_NoOrder:(c_NoText == c_NoOrder)=false)
  (ic_NoNumber:PySem.W.isClsIn K c_NoNumber=true)
  (ty_NoNumber:PySem.W.typeIn K (.ref c_NoNumber)=some (.type "type"))
  (s_NoNumber:PySem.W.subIn K (.ref c_NoText) (.ref c_NoNumber)=some false)
  (d_NoNumber:(c_NoText == c_NoNumber)=false)
  (ic_NoEnd:PySem.W.isClsIn K c_NoEnd=true)
  (ty_NoEnd:PySem.W.typeIn K (.ref c_NoEnd)=some (.type "type"))
  (s_NoEnd:PySem.W.subIn K (.ref c_NoText) (.ref c_NoEnd)=some false)
  (d_NoEnd:(c_NoText == c_NoEnd)=false)
  (ic_NoTie:PySem.W.isClsIn K c_NoTie=true)
  (ty_NoTie:PySem.W.typeIn K (.ref c_NoTie)=some (.type "type"))
  (s_NoTie:PySem.W.subIn K (.ref c_NoText) (.ref c_NoTie)=some false)
  (d_NoTie:(c_NoText == c_NoTie)=false)
  (ic_NoPlace:PySem.W.isClsIn K c_NoPlace=true)
  (ty_NoPlace:PySem.W.typeIn K (.ref c_NoPlace)=some (.type "type"))
  (s_NoPlace:PySem.W.subIn K (.ref c_NoText) (.ref c_NoPlace)=some false)
  (d_NoPlace:(c_NoText == c_NoPlace)=false)
  (ic_NoTable:PySem.W.isClsIn K c_NoTable=true)
  (ty_NoTable:PySem.W.typeIn K (.ref c_NoTable)=some (.type "type"))
  (s_NoTable:PySem.W.subIn K (.ref c_NoText) (.ref c_NoTable)=some false)
  (d_NoTable:(c_NoText == c_NoTable)=false)
  (ic_NoRing:PySem.W.isClsIn K c_NoRing=true)
  (ty_NoRing:PySem.W.typeIn K (.ref c_NoRing)=some (.type "type"))
  (s_NoRing:PySem.W.subIn K (.ref c_NoText) (.ref c_NoRing)=some false)
  (d_NoRing:(c_NoText == c_NoRing)=false)
  (ic_NoPaper:PySem.W.isClsIn K c_NoPaper=true)
  (ty_NoPaper:PySem.W.typeIn K (.ref c_NoPaper)=some (.type "type"))
  (s_NoPaper:PySem.W.subIn K (.ref c_NoText) (.ref c_NoPaper)=some false)
  (d_NoPaper:(c_NoText == c_NoPaper)=false)
  (ic_Apart:PySem.W.isClsIn K c_Apart=true)
  (ty_Apart:PySem.W.typeIn K (.ref c_Apart)=some (.type "type"))
  (s_Apart:PySem.W.subIn K (.ref c_NoText) (.ref c_Apart)=some false)
  (d_Apart:(c_NoText == c_Apart)=false)
  (ic_TooMany:PySem.W.isClsIn K c_TooMany=true)
  (ty_TooMany:PySem.W.typeIn K (.ref c_TooMany)=some (.type "type"))
  (s_TooMany:PySem.W.subIn K (.ref c_NoText) (.ref c_TooMany)=some false)
  (d_TooMany:(c_NoText == c_TooMany)=false)
  (ic_TooGreat:PySem.W.isClsIn K c_TooGreat=true)
  (ty_TooGreat:PySem.W.typeIn K (.ref c_TooGreat)=some (.type "type"))
  (s_TooGreat:PySem.W.subIn K (.ref c_NoText) (.ref c_TooGreat)=some false)
  (d_TooGreat:(c_NoText == c_TooGreat)=false)
  (ic_NoText:PySem.W.isClsIn K c_NoText=true)
  (ty_NoText:PySem.W.typeIn K (.ref c_NoText)=some (.type "type"))
  (s_NoText:PySem.W.subIn K (.ref c_NoText) (.ref c_NoText)=some true)
  (ic_NoName:PySem.W.isClsIn K c_NoName=true)
  (ty_NoName:PySem.W.typeIn K (.ref c_NoName)=some (.type "type"))
  (s_NoName:PySem.W.subIn K (.ref c_NoText) (.ref c_NoName)=some false)
  (d_NoName:(c_NoText == c_NoName)=false)
  (ic_NoRow:PySem.W.isClsIn K c_NoRow=true)
  (ty_NoRow:PySem.W.typeIn K (.ref c_NoRow)=some (.type "type"))
  (s_NoRow:PySem.W.subIn K (.ref c_NoText) (.ref c_NoRow)=some false)
  (d_NoRow:(c_NoText == c_NoRow)=false)
  (ic_FloorError:PySem.W.isClsIn K c_FloorError=true)
  (ty_FloorError:PySem.W.typeIn K (.ref c_FloorError)=some (.type "type"))
  (s_FloorError:PySem.W.subIn K (.ref c_NoText) (.ref c_FloorError)=some true)
  {oci kVi dci pmi cdi cti:Value}{odi ani:Option Addr}{sli:Array (Option Value)}(li:K.lookup fI=some ⟨oci,odi,.func<|W.fnOf "__init__" "NoText.__init__" (defArgs Yak) (defBody Yak) (defScope Yak) .none kVi dci pmi ani cdi cti,sli⟩) (ci:W.codeIn K cdi "NoText.__init__" = true) (ki:W.keepIn K (.ref fI)=true) :
  ∃fd:FuncData,(∀(s:Shared) (v:Value),BindsTo s fd ⟨[v],[]⟩ [("_law_script",v)])/\∀base:Heap,K.In base->base.Ns mainGlobals mg->FnOk l.prog w K mg base CX0 9 fa fd ["_law_script"] (spD K fLaw):=by
 obtain⟨f,fd,a,F⟩:=e23;have e:=hfa.symm.trans<|W.mg_of X G a;cases e;have mb:Mb mg:=by
  intro x hx;simp only[Wah,Way,or_false]at hx;rcases hx with rfl|rfl|rfl|rfl|rfl|rfl|rfl|rfl|rfl|rfl|rfl|rfl|rfl|rfl|rfl|rfl|rfl
  ·exact W.mg_none_of X G z0
  ·exact W.mg_none_of X G z1
  ·exact W.mg_none_of X G z2
  ·exact W.mg_none_of X G z3
  ·exact W.mg_none_of X G z4
  ·exact W.mg_none_of X G z5
  ·exact W.mg_none_of X G z6
  ·exact W.mg_none_of X G z7
  ·exact W.mg_none_of X G z8
  ·exact W.mg_none_of X G z9
  ·exact W.mg_none_of X G z10
  ·exact W.mg_none_of X G z11
  ·exact W.mg_none_of X G z12
  ·exact W.mg_none_of X G z13
  ·exact W.mg_none_of X G z14
  ·exact W.mg_none_of X G z15
  ·exact W.mg_none_of X G z16
 obtain⟨oc,od,kV,doc,pm,an,cdv,ct,osl,rfl,lk,hcd⟩:=F.ex;refine⟨W.fnOf "law" "law" (defArgs Yaf) (defBody Yaf) (defScope Yaf) .none kV doc pm an cdv ct,λs v=>.of_eq rfl,λbase _ _=>?_⟩;have M:=@Zq7 l.prog w K mg base h X G;have MH:=@Zn3 l.prog w K mg base h X G;have MQ:=@Znr l.prog w K mg base h X G;have MR:=@Zmu l.prog w K mg base h X G;have cl:Cl K mg fI c_FloorError c_NoWeb c_NoOrder c_NoNumber c_NoEnd c_NoTie c_NoPlace c_NoTable c_NoRing c_NoPaper c_Apart c_TooMany c_TooGreat c_NoText c_NoName c_NoRow:=⟨W.mg_of X G n_FloorError,W.mg_of X G n_NoWeb,W.mg_of X G n_NoOrder,W.mg_of X G n_NoNumber,W.mg_of X G n_NoEnd,W.mg_of X G n_NoTie,W.mg_of X G n_NoPlace,W.mg_of X G n_NoTable,W.mg_of X G n_NoRing,W.mg_of X G n_NoPaper,W.mg_of X G n_Apart,W.mg_of X G n_TooMany,W.mg_of X G n_TooGreat,W.mg_of X G n_NoText,W.mg_of X G n_NoName,W.mg_of X G n_NoRow,e_FloorError,⟨zc,ob,sa,tr,hd⟩,ft,kc,⟨zc,ga,gt,ca,gsx,tkx,ob,be⟩,mT,rT,Zp9 (by decide +kernel) ve,Zbw ic_NoWeb ty_NoWeb s_NoWeb λz=>(by rw[d_NoWeb]at z;exact z),Zbw ic_NoOrder ty_NoOrder s_NoOrder λz=>(by rw[d_NoOrder]at z;exact z),Zbw ic_NoNumber ty_NoNumber s_NoNumber λz=>(by rw[d_NoNumber]at z;exact z),Zbw ic_NoEnd ty_NoEnd s_NoEnd λz=>(by rw[d_NoEnd]at z;exact z),Zbw ic_NoTie ty_NoTie s_NoTie λz=>(by rw[d_NoTie]at z;exact z),Zbw ic_NoPlace ty_NoPlace s_NoPlace λz=>(by rw[d_NoPlace]at z;exact z),Zbw ic_NoTable ty_NoTable s_NoTable λz=>(by rw[d_NoTable]at z;exact z),Zbw ic_NoRing ty_NoRing s_NoRing λz=>(by rw[d_NoRing]at z;exact z),Zbw ic_NoPaper ty_NoPaper s_NoPaper λz=>(by rw[d_NoPaper]at z;exact z),Zbw ic_Apart ty_Apart s_Apart λz=>(by rw[d_Apart]at z;exact z),Zbw ic_TooMany ty_TooMany s_TooMany λz=>(by rw[d_TooMany]at z;exact z),Zbw ic_TooGreat ty_TooGreat s_TooGreat λz=>(by rw[d_TooGreat]at z;exact z),Zbw ic_NoText ty_NoText s_NoText λ_=>rfl,Zbw ic_NoName ty_NoName s_NoName λz=>(by rw[d_NoName]at z;exact z),Zbw ic_NoRow ty_NoRow s_NoRow λz=>(by rw[d_NoRow]at z;exact z),Zbw ic_FloorError ty_FloorError s_FloorError λ_=>rfl⟩;have FI:=Zo6 (st:=Yak) li ci ki;have nt:NoTx l.prog w K mg base "NoText" c_NoText fI:=⟨cl.n_NoText,cl.z_T,cl.f_T,cl.i_T.be,cl.kp_T,⟨_,["self","row"],Zqa mb FI,FI.binds λ_ _ _ _ _ _=>bK2 λ_ _=>rfl,rfl⟩⟩;have C1:=M e1 (Zrb mb) λ_ _ _ _ _ _=>bK2 λ_ _=>rfl;have C2:=M e2 (Zsg mb) λ_ _ _ _ _ _=>bK1 λ_=>rfl;have C3:=M e3 (Zsp mb C1) λ_ _ _ _ _ _=>bK3 λ_ _ _=>rfl;have C4:=M e4 (Zna mb C1) λ_ _ _ _ _ _=>bK2 λ_ _=>rfl;have C5:=M e5 (Zoe mb) λ_ _ _ _ _ _=>bK1 λ_=>rfl;have C6:=MR e6 (λF b k m=>Zmt mb C5 F b k m 6) λ_ _ _ _ _ _=>bK2 λ_ _=>rfl;have C7:=M e7 (Znh mb) λ_ _ _ _ _ _=>bK2 λ_ _=>rfl;have C8:=M e8 (Zpo mb (W.mg_of X G y_FIGURES)<|W.mg_of X G y_MOST_FIGURES) λ_ _ _ _ _ _=>bK1 λ_=>rfl;have C9:=M e9 (Znu mb) λ_ _ _ _ _ _=>bK1 λ_=>rfl;have C10:=M e10 (Zpk mb) λ_ _ _ _ _ _=>bK1 λ_=>rfl;have C11:=M e11 (Zoi mb C9 C10) λ_ _ _ _ _ _=>bK2 λ_ _=>rfl;have C12:=M e12 (Zm0 mb C9 C10 C11 (W.mg_of X G y_MOST_PLACES)<|W.mg_of X G y_MOST_TIES) λ_ _ _ _ _ _=>bK2 λ_ _=>rfl;have C13:=M e13 (Zjk mb C12) λ_ _ _ _ _ _=>bK2 λ_ _=>rfl;have C14:=M e14 (Zk9 mb C13) λ_ _ _ _ _ _=>bK1 λ_=>rfl;have C15:=M e15 (Zjy mb C13) λ_ _ _ _ _ _=>bK2 λ_ _=>rfl;have C16:=M e16 (Zno mb) λ_ _ _ _ _ _=>bK2 λ_ _=>rfl;have C17:=M e17 (Zjo mb C16) λ_ _ _ _ _ _=>bK2 λ_ _=>rfl;have C18:=M e18 (Zim mb C17) λ_ _ _ _ _ _=>bK3 λ_ _ _=>rfl;have C19:=M e19 (Zkm mb C8 C14 C15 C18) λ_ _ _ _ _ _=>bK2 λ_ _=>rfl;have C20:=M e20 (Zpj mb C19 C17) λ_ _ _ _ _ _=>bK1 λ_=>rfl;have C21:=MQ e20 (Zon mb cl nt C19 C17) λ_ _ _ _ _ _=>bK1 λ_=>rfl;have C22:=MH e21 (Zl7 mb cl) λ_ _ _ _ _ _=>bK1 λ_=>rfl;have C23:=M e21 (Zns mb cl) λ_ _ _ _ _ _=>bK1 λ_=>rfl;have C24:=M e22 (Zn4 mb cl C21 C22) λ_ _ _ _ _ _=>bK1 λ_=>rfl;exact ok_law mb cl nt C2 C1 C3 C4 C7 C24 C5 C20 C6 C23 F
end Lw
open PySem PySem.W PyProof.Rows
namespace PySem.W.Fast
theorem te13318985895224959554:True:=trivial
def tw2094213467609066980:PySem.Program:=PySem.Challenge.pw_holefloor_k85_no_texts
theorem te2094213467609066980:PySem.Challenge.pw_holefloor_k85_no_texts=tw2094213467609066980:=rfl
def tw6523627303881330095:Unit:=()
def tw2478917973942438598:Unit:=()
def tw5444171328720286347:Unit:=()
def tw14461127967935891783:Unit:=()
def tw4410333572101801077:Unit:=()
def tw15529593442070113104:Unit:=()
def tw375514706441030083:Unit:=()
def tw7765531558418512196:Unit:=()
def tw14376733147187575858:Unit:=()
def tw15981829336362491522:Unit:=()
def tw1451942462405605449:Unit:=()
def tw16496936372451318187:Unit:=()
def tw8423773521020537636:Unit:=()
def tw12608265760912506240:Unit:=()
def tw5752616065012750541:Unit:=()
def tw4742173567562464004:Unit:=()
def tw7614444187011225692:Unit:=()
def tw12392262004835546636:Unit:=()
def tw2768120427764883656:Unit:=()
def tw6342054186750084656:Unit:=()
def tw11359745536960842698:Unit:=()
def tw14590059710034563875:Unit:=()
def tw6783295072611691665:Unit:=()
def tw9047295996620464816:Unit:=()
def tw10215174869965843351:Unit:=()
def tw2899209942574479804:Unit:=()
def tw11583450780968640735:Unit:=()
def tw9088904334865056305:Unit:=()
def tw5866112441343969906:Unit:=()
def tw5677793621063150272:Unit:=()
def tw17190772508404544875:Unit:=()
def tw13187322378481675833:Unit:=()
def tw17885513417372548097:Unit:=()
def tw8222771284316192887:Unit:=()
def tw18050242848894071720:Unit:=()
def tw15484222962867178622:Unit:=()
def tw11162401295502277838:Unit:=()
def tw602163412704764290:Unit:=()
def tw13452916328648964665:Unit:=()
def tw3043607891166625457:Unit:=()
def tw6268809228676495764:Unit:=()
def tw157654212457186772:Unit:=()
def tw4993868183339685793:Unit:=()
def tw11980770844146338795:Unit:=()
def tw16857236433173727975:Unit:=()
def tw9457423532679183925:Unit:=()
def tw17680975908556223319:Unit:=()
def tw12326477643930137621:Unit:=()
def tw13372319382635594614:Unit:=()
def tw1418135154207869848:Unit:=()
def tw4140538808253946606:Unit:=()
def tw11360173535581048199:Unit:=()
def tw3295061027956196814:Unit:=()
def tw4430190692565544049:Unit:=()
def tw16287620622780608617:Unit:=()
def tw16282524750641081146:Unit:=()
def tw5085570145126486706:Unit:=()
end PySem.W.Fast
set_option maxRecDepth 100000 in
set_option maxHeartbeats 0 in
theorem PySem.Challenge.cw_holefloor_k85_no_texts_holds : PySem.Challenge.rw_holefloor_k85_no_texts.Holds := by
 w_on;o_law;k_head; (case hw=>w_witness2)
 k_fill
 refine L2.walk_law (k:=9) (x:="_law_script") (l:=PySem.Challenge.rw_holefloor_k85_no_texts) ⟨rfl,by decide,by decide,rfl⟩ rfl rfl (λw h Y=>PySem.W.kIn_of Y) ?F
 case F=>
  intro w mg fa h KX G hmg;refine' Lw.all_mk KX G hmg ?e1 ?e2 ?e3 ?e4 ?e5 ?e6 ?e7 ?e8 ?e9 ?e10 ?e11 ?e12 ?e13 ?e14 ?e15 ?e16 ?e17 ?e18 ?e19 ?e20 ?e21 ?e22 ?e23 ?y_FIGURES ?y_MOST_FIGURES ?y_MOST_PLACES ?y_MOST_TIES ?z0 ?z1 ?z2 ?z3 ?z4 ?z5 ?z6 ?z7 ?z8 ?z9 ?z10 ?z11 ?z12 ?z13 ?z14 ?z15 ?z16 ?n_FloorError ?n_NoWeb ?n_NoOrder ?n_NoNumber ?n_NoEnd ?n_NoTie ?n_NoPlace ?n_NoTable ?n_NoRing ?n_NoPaper ?n_Apart ?n_TooMany ?n_TooGreat ?n_NoText ?n_NoName ?n_NoRow ?e_FloorError ?fi ?zc ?ob ?sa ?tr ?hd ?ft ?kc ?gsx ?tkx ?ga ?gt ?ca ?be ?ve ?mT ?rT ?ic_NoWeb ?ty_NoWeb ?s_NoWeb ?d_NoWeb ?ic_NoOrder ?ty_NoOrder ?s_NoOrder ?d_NoOrder ?ic_NoNumber ?ty_NoNumber ?s_NoNumber ?d_NoNumber ?ic_NoEnd ?ty_NoEnd ?s_NoEnd ?d_NoEnd ?ic_NoTie ?ty_NoTie ?s_NoTie ?d_NoTie ?ic_NoPlace ?ty_NoPlace ?s_NoPlace ?d_NoPlace ?ic_NoTable ?ty_NoTable ?s_NoTable ?d_NoTable ?ic_NoRing ?ty_NoRing ?s_NoRing ?d_NoRing ?ic_NoPaper ?ty_NoPaper ?s_NoPaper ?d_NoPaper ?ic_Apart ?ty_Apart ?s_Apart ?d_Apart ?ic_TooMany ?ty_TooMany ?s_TooMany ?d_TooMany ?ic_TooGreat ?ty_TooGreat ?s_TooGreat ?d_TooGreat ?ic_NoText ?ty_NoText ?s_NoText ?ic_NoName ?ty_NoName ?s_NoName ?d_NoName ?ic_NoRow ?ty_NoRow ?s_NoRow ?d_NoRow ?ic_FloorError ?ty_FloorError ?s_FloorError ?li ?ci ?ki
  (case y_FIGURES=>k_is)
  (case y_MOST_FIGURES=>k_is)
  (case y_MOST_PLACES=>k_is)
  (case y_MOST_TIES=>k_is)
  (case n_FloorError=>k_is)
  (case n_NoWeb=>k_is)
  (case n_NoOrder=>k_is)
  (case n_NoNumber=>k_is)
  (case n_NoEnd=>k_is)
  (case n_NoTie=>k_is)
  (case n_NoPlace=>k_is)
  (case n_NoTable=>k_is)
  (case n_NoRing=>k_is)
  (case n_NoPaper=>k_is)
  (case n_Apart=>k_is)
  (case n_TooMany=>k_is)
  (case n_TooGreat=>k_is)
  (case n_NoText=>k_is)
  (case n_NoName=>k_is)
  (case n_NoRow=>k_is)
  (case e_FloorError=>k_exc)
  (case fi=>k_is)
  (case zc=>kernel_rfl)
  (case ob=>k_is)
  (case sa=>k_is)
  (case tr=>k_is)
  (case hd=>k_is)
  (case ft=>k_is)
  (case kc=>k_is)
  (case gsx=>k_is)
  (case tkx=>k_is)
  (case ga=>k_is)
  (case gt=>k_is)
  (case ca=>k_is)
  (case be=>k_is)
  (case ve=>k_is)
  (case mT=>k_is)
  (case rT=>k_is)
  (case ic_NoWeb=>k_is)
  (case ty_NoWeb=>k_is)
  (case s_NoWeb=>k_is)
  (case d_NoWeb=>rfl)
  (case ic_NoOrder=>k_is)
  (case ty_NoOrder=>k_is)
  (case s_NoOrder=>k_is)
  (case d_NoOrder=>rfl)
  (case ic_NoNumber=>k_is)
  (case ty_NoNumber=>k_is)
  (case s_NoNumber=>k_is)
  (case d_NoNumber=>rfl)
  (case ic_NoEnd=>k_is)
  (case ty_NoEnd=>k_is)
  (case s_NoEnd=>k_is)
  (case d_NoEnd=>rfl)
  (case ic_NoTie=>k_is)
  (case ty_NoTie=>k_is)
  (case s_NoTie=>k_is)
  (case d_NoTie=>rfl)
  (case ic_NoPlace=>k_is)
  (case ty_NoPlace=>k_is)
  (case s_NoPlace=>k_is)
  (case d_NoPlace=>rfl)
  (case ic_NoTable=>k_is)
  (case ty_NoTable=>k_is)
  (case s_NoTable=>k_is)
  (case d_NoTable=>rfl)
  (case ic_NoRing=>k_is)
  (case ty_NoRing=>k_is)
  (case s_NoRing=>k_is)
  (case d_NoRing=>rfl)
  (case ic_NoPaper=>k_is)
  (case ty_NoPaper=>k_is)
  (case s_NoPaper=>k_is)
  (case d_NoPaper=>rfl)
  (case ic_Apart=>k_is)
  (case ty_Apart=>k_is)
  (case s_Apart=>k_is)
  (case d_Apart=>rfl)
  (case ic_TooMany=>k_is)
  (case ty_TooMany=>k_is)
  (case s_TooMany=>k_is)
  (case d_TooMany=>rfl)
  (case ic_TooGreat=>k_is)
  (case ty_TooGreat=>k_is)
  (case s_TooGreat=>k_is)
  (case d_TooGreat=>rfl)
  (case ic_NoText=>k_is)
  (case ty_NoText=>k_is)
  (case s_NoText=>k_is)
  (case ic_NoName=>k_is)
  (case ty_NoName=>k_is)
  (case s_NoName=>k_is)
  (case d_NoName=>rfl)
  (case ic_NoRow=>k_is)
  (case ty_NoRow=>k_is)
  (case s_NoRow=>k_is)
  (case d_NoRow=>rfl)
  (case ic_FloorError=>k_is)
  (case ty_FloorError=>k_is)
  (case s_FloorError=>k_is)
  (case li=>k_is)
  (case ci=>k_is)
  (case ki=>k_is)
  all_goals first|(refine' Lw.fnE ?a ?l ?c ?k; (case a=>k_is); (case l=>k_is); (case c=>k_is); (case k=>k_is))|k_is

