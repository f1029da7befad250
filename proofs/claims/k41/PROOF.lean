import PyProof.Rows.All
import Wide.All
import OpenK.AllK
import Wide.FinOn
import Lean
import PyProof.EqAt
import PyProof.EqKinds
import PyProof.TupleCall
import KE.KSortTup
import PyProof.NeKinds
import PyProof.ExcBaseAll.ValueError
import PyProof.ExcArgsOwn
import PyProof.NsDelKeeps
import PyProof.RulesAs
import PyProof.FString
import PySem.Challenge.RW_holefloor_k41_tables_read
open List renaming length_map→Waa, getElem?_eq_getElem→Wab, replicate→Wad, getElem?_eq_some_iff→Wae, getD_eq_getElem?_getD→Waf, getElem?_map→Wag, length_append→Wai, mem_of_getElem?→Wak, length_replicate→Wal, size_toArray→Wam, mem_cons→Wan, length_cons→Wap, getElem?_set_self→Waq, getElem?_set_ne→Was, mem_range→Wat, mem_map→Wau, mem_cons_of_mem→Wav, mem_cons_self→Waw, map_append→Wax, getElem?_append_right→Waz, mem_append_right→Wa0, range→Wa1, map_map→Wa2, append_nil→Wa3, map_cons→Wa4, mem_filter→Wa5, append_assoc→Wa6, getElem?_append_left→Wa8, length→Wba, length_range→Wbb, mem_iff_getElem?→Wbc, map_congr_left→Wbe, filter_eq_self→Wbf, flatten_cons→Wbg, pairwise_iff_getElem→Wbj, length_take→Wbk, mem_singleton→Wbl, tail→Wbm, take_length→Wbn, mem_append→Wbo, take_add_one→Wbp, map→Wbs, take_append_drop→Wbt, not_mem_nil→Wbu, filter_cons→Wbv, filter_append→Wbx, getElem?_zip_eq_some→Wby, getElem?_eq_none→Wb0, mem_replicate→Wb2, mem_flatten→Wb4, length_drop→Wb5, getElem_mem→Wb6, all_eq_true→Wb7, getElem?_replicate→Wb8, ext_getElem?→Wb9, nodup_cons→Wcb, find?_cons_of_neg→Wcc, perm_ext_iff_of_nodup→Wcd, lookup_cons→Wce, zip_cons_cons→Wcf, mem_iff_getElem→Wci, mem_append_left→Wcj, find?_cons→Wck, getElem?_range→Wcl, eq_nil_of_length_eq_zero→Wcm, pairwise_lt_range→Wcn, sublist_flatten_of_mem→Wcp, length_nil→Wcq, pairwise_map→Wcs, nodup_append→Wct, replicate_succ→Wcv, set_eq_of_length_le→Wcw, length_set→Wcx, getElem_range→Wcy, any_cons→Wcz, take_of_length_le→Wc2, find?_cons_of_pos→Wc3, getElem?_set→Wc4, perm_append_comm→Wc6, length_singleton→Wc7, length_filter_le→Wc8, map_snd_zip→Wc9, getElem_inj→Wda, map_const'→Wdb, flatten_append→Wdc, map_replicate→Wdf, take_zero→Wdi, map_take→Wdk, map_drop→Wdl, nodup_range→Wdn, length_zip→Wdo, map_id→Wds, length_pos_iff→Wdt, flatMap_append→Wdu, filterMap_cons→Wdv, zip_nil_right→Wdx, mapM_toArray→Wdy, cons_append→Wdz
open PySem.Heap renaming get?_push_of_some→Wac, get?_push_size→Wao, lt_size→War, get?_update_other→Wbr, get?_push_ne→Wca, get?_update_self→Wcg, size_push→Wch, size_update→Wcu, get?_update_ne→Wdd
open Nat renaming le_refl→Wah, ne_of_lt→Way, lt_of_lt_of_le→Wa9, le_trans→Wbq, zero_le→Wbw, lt_succ_of_lt→Wbz, le_of_lt→Wb1, lt_of_le_of_lt→Wb3, lt_irrefl→Wc0, zero_add→Wdg, ne_of_gt→Wdh, le_succ_of_le→Wdj, le_succ→Wdm, sub_zero→Wdp, min_self→Wdq, lt_or_ge→Wdr, add_le_add_left→Wdw
open Bool renaming false_ne_true→Waj, and_eq_true→Wbh, false_eq_true→Wbi, eq_false_iff→Wc5, eq_iff_iff→Wde
open Int renaming toNat_natCast→Wa7, emod_lt_of_pos→Wco, zero_add→Wcr, emod_nonneg→Wc1
open Option renaming some→Wbd
set_option Elab.async false
set_option linter.all false
set_option maxRecDepth 100000
namespace L2
open PySem PySem.Spec PyProof.Rows
abbrev Key:=Sum Int Str
def keyIs:Key->Value->Bool
 |.inl k,v=>Value.isInt k v
 |.inr x,v=>Value.isStrOf x v
def keyH (w:World):Key->Int
 |.inl k=>hashInt k
 |.inr x=>hashStr w x
theorem Zbb:∀{k:Key}{v:Value},keyIs k v=true->(∃i t,k=Sum.inl i/\v=Value.int i t)\/(∃x t,k=Sum.inr x/\v=Value.str x t)
 |.inl i,v,h=>by
  obtain⟨t,e⟩:=Value.isInt_shape (k:=i) (v:=v) h;exact .inl ⟨i,t,rfl,e⟩
 |.inr x,v,h=>by
  obtain⟨t,e⟩:=Value.isStrOf_shape (x:=x) (v:=v) h;exact .inr ⟨x,t,rfl,e⟩
theorem Zl7 (i:Int) (t:Tok):keyIs (.inl i) (.int i t)=true:=by simp[keyIs,Value.isInt]
theorem Zmq (x:Str) (t:Tok):keyIs (.inr x) (.str x t)=true:=by simp[keyIs,Value.isStrOf]
theorem Zty (a b:Int):decide ((Sum.inl a:Key)=Sum.inl b)=(a == b):=by
 by_cases e:a=b
 ·subst e;simp
 ·have h:¬ (Sum.inl a:Key)=Sum.inl b:=λq=>e (Sum.inl.inj q)
  rw[decide_eq_false h];exact(beq_eq_false_iff_ne.mpr e).symm
theorem Ztz (a b:Str):decide ((Sum.inr a:Key)=Sum.inr b)=decide (a=b):=by
 by_cases e:a=b
 ·subst e;simp
 ·have h:¬ (Sum.inr a:Key)=Sum.inr b:=λq=>e (Sum.inr.inj q)
  rw[decide_eq_false h,decide_eq_false e]
theorem Zth (a:Int) (b:Str):decide ((Sum.inl a:Key)=Sum.inr b)=false:=decide_eq_false (λq=>nomatch q)
theorem Ztu (a:Str) (b:Int):decide ((Sum.inr a:Key)=Sum.inl b)=false:=decide_eq_false (λq=>nomatch q)
def mixKind (prog:Program) (w:World):PySem.KeyKind prog w Key where
 is:=keyIs
 hash:=keyH w
 inj:=λv a b ha hb=>by
  rcases Zbb ha with ⟨i,t,rfl,rfl⟩|⟨x,t,rfl,rfl⟩
  ·rcases Zbb hb with ⟨j,u,rfl,e⟩|⟨y,u,rfl,e⟩
   ·injection e with e1 _;rw[e1]
   ·exact nomatch e
  ·rcases Zbb hb with ⟨j,u,rfl,e⟩|⟨y,u,rfl,e⟩
   ·exact nomatch e
   ·injection e with e1 _;rw[e1]
 byValue:=λk v h=>by
  rcases Zbb h with ⟨i,t,rfl,rfl⟩|⟨x,t,rfl,rfl⟩ <;> rfl
 pyHash:=λhv h=>by
  rcases Zbb hv with ⟨i,t,rfl,rfl⟩|⟨x,t,rfl,rfl⟩
  ·exact wpAny_pyHash_int h
  ·exact wpAny_pyHash_str h
 eqBool:=λhu hv h=>by
  rcases Zbb hu with ⟨i,t,rfl,rfl⟩|⟨x,t,rfl,rfl⟩
  ·rcases Zbb hv with ⟨j,u,rfl,rfl⟩|⟨y,u,rfl,rfl⟩
   ·rw[Zty]at h;exact wpAny_eqBool_int h
   ·rw[Zth]at h;exact SeqAt.EqAt.int_str i t y u _ _ _ _ h
  ·rcases Zbb hv with ⟨j,u,rfl,rfl⟩|⟨y,u,rfl,rfl⟩
   ·rw[Ztu]at h;exact SeqAt.EqAt.str_int x t j u _ _ _ _ h
   ·rw[Ztz]at h;exact wpAny_eqBool_str h
 «strs»:=λk x t v h=>by
  rcases Zbb h with ⟨i,u,rfl,e⟩|⟨y,u,rfl,e⟩
  ·exact nomatch e
  ·injection e with e1 _
   subst e1;cases v <;> rfl
theorem Zix (prog:Program) (w:World) (i:Int) (t:Tok):(mixKind prog w).is (.inl i) (.int i t)=true:=Zl7 i t
theorem Zip (prog:Program) (w:World) (x:Str) (t:Tok):(mixKind prog w).is (.inr x) (.str x t)=true:=Zmq x t
end L2
namespace L2
open PySem PySem.Spec PyProof.Rows
inductive V where
 |non|bl (b:Bool)|int (i:Int)|str (x:Str)|byt (b:Array UInt8)|flt (b:UInt64)|ref (a:Addr)|ty (n:String)
 deriving DecidableEq
def RelV:V->Value->Prop
 |.non,u=>u=Value.none
 |.bl b,u=>u=Value.bool b
 |.int i,u=>∃t,u=Value.int i t
 |.str x,u=>∃t,u=Value.str x t
 |.byt b,u=>∃t,u=Value.bytes b t
 |.flt b,u=>∃t,u=Value.float b t
 |.ref a,u=>u=Value.ref a
 |.ty n,u=>u=Value.type n
abbrev Vals:List V->List Value->Prop:=Paired RelV
theorem Vals.length {xs:List V}{us:List Value}(r:Vals xs us):xs.length=us.length:=Paired.length r
theorem Vals.get:∀{xs:List V}{us:List Value}{i:Nat}{x:V},Vals xs us->xs[i]?=some x->∃u,us[i]?=some u/\RelV x u
 |_,_,_,_,.nil,e=>by simp at e
 |_,_,0,_,.cons r _,e=>by simp at e;subst e;exact⟨_,rfl,r⟩
 |_,_,i+1,x,.cons _ t,e=>by
  obtain⟨u,h1,h2⟩:=Vals.get (i:=i) (x:=x) t (by simpa using e);exact⟨u,by simpa using h1,h2⟩
theorem Vals.set {x:V}{u:Value}(r:RelV x u):∀{xs:List V}{us:List Value}(i:Nat),Vals xs us->Vals (xs.set i x) (us.set i u)
 |_,_,_,.nil=>.nil
 |_,_,0,.cons _ t=>.cons r t
 |_,_,i+1,.cons q t=>.cons q (Vals.set r i t)
theorem Vals.append:∀{xs ys:List V}{us ws:List Value},Vals xs us->Vals ys ws->Vals (xs++ys) (us++ws)
 |_,_,_,_,.nil,s=>s
 |_,_,_,_,.cons r t,s=>.cons r (Vals.append t s)
theorem Vals.take:∀{xs:List V}{us:List Value}(n:Nat),Vals xs us->Vals (xs.take n) (us.take n)
 |_,_,0,_=>.nil
 |_,_,_+1,.nil=>.nil
 |_,_,n+1,.cons r t=>.cons r (Vals.take n t)
theorem Vals.drop:∀{xs:List V}{us:List Value}(n:Nat),Vals xs us->Vals (xs.drop n) (us.drop n)
 |_,_,0,r=>r
 |_,_,_+1,.nil=>.nil
 |_,_,n+1,.cons _ t=>Vals.drop n t
def RelO:Option V->Option Value->Prop
 |some v,some u=>RelV v u
 |none,none=>True
 |_,_=>False
def KV {κ:Type}:List (κ × V)->List (κ × Value)->Prop:=Paired λ(p:κ × V) (q:κ × Value)=>p.1=q.1/\RelV p.2 q.2
def kV:Key->V
 |.inl i=>.int i
 |.inr x=>.str x
inductive HO where
 /-- a list -/
 |lst (xs:List V)
 /-- a tuple (never changes) -/
 |tup (xs:List V)
 /-- a dict whose keys are ints and texts;one whose keys are tuples of ints and texts (the empty one is both) -/
 |dK (kvs:List (Key × V))|dT (kvs:List (List Key × V))
 /-- a set of ints: its members,its size -/
 |set (S:Int->Bool) (n:Nat)
 /-- an instance of the class at C,its dict at dx,its attributes -/
 |ins (C dx:Addr) (fs:List (Str × V))
 /-- the dict of the instance at x -/
 |own (x:Addr)
 /-- the dict of an exception -/
 |xd (fs:List (Str × V))
 /-- a bound method,f of x -/
 |met (f x:Addr)
 /-- a range object lo,lo+1,.. below hi -/
 |rng (lo hi:Int)
 /-- a thing that is known to the object (the script;a dict while a loop walks it): read,never written while it is so -/
 |frz (o:Obj) (u:HO)
 /-- a code object's table -/
 |tbl (ps:Array Value)
 /-- any other thing,by what is true of its one object (a def of one's own: SetO a S n:=HO.ext λh=>..) -/
 |ext (φ:Heap->Prop)
abbrev Hp:=Addr->Option HO
def upd (H:Hp) (a:Addr) (o:HO):Hp:=λb=>if b=a then some o else H b
theorem Zam {H:Hp}{a:Addr}{o:HO}:upd H a o a=some o:=by unfold upd;rw[if_pos rfl]
theorem Zaj {H:Hp}{a b:Addr}{o:HO}(h:b≠a):upd H a o b=H b:=by unfold upd;rw[if_neg h]
theorem Zq0 {H:Hp}{a:Addr}{o u:HO}:upd (upd H a o) a u=upd H a u:=by
 funext b;unfold upd;split <;> rfl
theorem Zt8 {H:Hp}{a b:Addr}{o u:HO}(h:H a=some o) (h':H b=some u) (d:o≠u):a≠b:=by
 intro e;subst e;rw[h]at h';exact d (Wbd.inj h')
theorem Zal {H:Hp}{a b:Addr}{o:HO}(h:H a=some o) (h':H b=none):a≠b:=by
 intro e;subst e;rw[h]at h';cases h'
def IsTupN (h:Heap) (a:Addr) (its:Array Value):Prop:=∃o,h.get? a=some o/\(o.cls=.type "tuple" /\ ∃n,o.data=.seq its n)/\o.dict=none
theorem IsTupN.tup {h:Heap}{a:Addr}{its:Array Value}(x:IsTupN h a its):IsTup h a its:=let ⟨o,e,c,_⟩:=x; ⟨o,e,c⟩
theorem IsTupN.new (h:Heap) (items:Array Value):IsTupN (h.push { cls:=.type "tuple",data:=.seq items }) h.objs.size items:=⟨_,Wao _ rfl,⟨rfl,_,rfl⟩,rfl⟩
section
variable (P:Program) (w:World)
def ObjOk (H:Hp) (h:Heap) (a:Addr):HO->Prop
 |.lst xs=>xs.length<=sizeLine/\∃(its:List Value) (n:Nat),Vals xs its/\h.get? a=some { cls:=.type "list",data:=.seq its.toArray n }
 |.tup xs=>xs.length<=sizeLine/\∃its:List Value,Vals xs its/\IsTupN h a its.toArray
 |.dK kvs=>kvs.length<=sizeLine/\(a == sysModules)=false/\∃vs,KV kvs vs/\h.DictOf (mixKind P w) a vs
 |.dT kvs=>kvs.length<=sizeLine/\(a == sysModules)=false/\∃xs:List (List Key × Addr × Value),
   Paired (λ(p:List Key × V) (q:List Key × Addr × Value)=>p.1=q.1/\H q.2.1=some (.tup (p.1.map kV))/\RelV p.2 q.2.2) kvs xs ∧
   ∃o es ep,h.get? a=some o/\o.ExactDict/\o.data=.dict es ep/\es.toList=xs.map (entryOfKey (tupleKind (mixKind P w)))/\(xs.map (·.1)).Nodup
 |.set S n=>h.SetOf (intKind P w) a S n
 |.ins C dx fs=>H dx=some (.own a)/\fs.length<=1000/\dx≠a/\h.get? a=some (PySem.W.instObj C dx) ∧
   ∃mA,h.Ns1 dx mA/\(∀f,RelO (fs.lookup f) (mA f))/\PySem.Within mA (fs.map (·.1))
 |.own _=>∃o,h.get? a=some o
 |.xd fs=>∃mA,h.Ns1 a mA/\∀f,RelO (fs.lookup f) (mA f)
 |.rng lo hi=>∃t u v,h.get? a=some { cls:=.type "range",data:=.fields #[.int lo t,.int hi u,.int 1 v] }
 |.frz o u=>h.get? a=some o/\ObjOk H h a u
 |.tbl ps=>h.get? a=some { cls:=.none,data:=.fields ps }
 |.met f x=>h.get? a=some (PySem.W.methodObj (.ref f) (.ref x))
 |.ext φ=>φ h/\(∃o,h.get? a=some o)/\∀h1 h2:Heap,φ h1->(∀o,h1.get? a=some o->h2.get? a=some o) -> φ h2
def HOk (H:Hp) (h:Heap):Prop:=∀a o,H a=some o->ObjOk P w H h a o
end
section
variable {P:Program}{w:World}{H H':Hp}{h h':Heap}{a:Addr}{o:HO}
theorem ObjOk.lt (x:ObjOk P w H h a o):a<h.objs.size:=by
 cases o with
 |lst xs=>obtain⟨_,_,_,_,e⟩:=x;exact War e
 |tup xs=>obtain⟨_,_,_,p⟩:=x;exact p.tup.lt
 |dK kvs=>obtain⟨_,_,_,_,o,_,_,e,_⟩:=x;exact War e
 |dT kvs=>obtain⟨_,_,_,_,o,_,_,e,_⟩:=x;exact War e
 |set S n=>obtain⟨o,_,_,_,e,_⟩:=x;exact War e
 |ins C dx fs=>obtain⟨_,_,_,e,_⟩:=x;exact War e
 |own y=>obtain⟨_,e⟩:=x;exact War e
 |xd fs=>obtain⟨_,⟨_,_,_,e,_⟩,_⟩:=x;exact War e
 |rng lo hi=>obtain⟨_,_,_,e⟩:=x;exact War e
 |frz ob u=>obtain⟨e,_⟩:=x;exact War e
 |tbl ps=>exact War (show h.get? a=some _ from x)
 |met f y=>exact War (show h.get? a=some _ from x)
 |ext φ=>obtain⟨_,⟨_,e⟩,_⟩:=x;exact War e
theorem Paired.mapP {α β:Type}{F G:α -> β -> Prop}:∀{l₁:List α}{l₂:List β},Paired F l₁ l₂ -> (∀a b,F a b->G a b)->Paired G l₁ l₂
 |_,_,.nil,_=>.nil
 |_,_,.cons r t,f=>.cons (f _ _ r) (Paired.mapP t f)
theorem ObjOk.stay (x:ObjOk P w H h a o) (k:∀b u,(b=a\/H b=some (.own a))->h.get? b=some u->h'.get? b=some u)
  (ho:∀b,H b=some (.own a)->H' b=some (.own a)) (ht:∀b xs,H b=some (.tup xs)->H' b=some (.tup xs)):ObjOk P w H' h' a o:=by
 induction o with
 |lst xs=>obtain⟨z,its,n,r,e⟩:=x;exact⟨z,its,n,r,k _ _ (.inl rfl) e⟩
 |tup xs=>obtain⟨z,its,r,ob,e,c⟩:=x;exact⟨z,its,r,ob,k _ _ (.inl rfl) e,c⟩
 |dK kvs=>obtain⟨z,y,vs,r,ob,es,ep,e,c⟩:=x;exact⟨z,y,vs,r,ob,es,ep,k _ _ (.inl rfl) e,c⟩
 |dT kvs=>
  obtain⟨z,y,xs,r,ob,es,ep,e,c⟩:=x;exact⟨z,y,xs,Paired.mapP r λp q z=>⟨z.1,ht _ _ z.2.1,z.2.2⟩,ob,es,ep,k _ _ (.inl rfl) e,c⟩
 |set S n=>obtain⟨ob,es,ep,t,e,c⟩:=x;exact⟨ob,es,ep,t,k _ _ (.inl rfl) e,c⟩
 |ins C dx fs=>
  obtain⟨d,z,ne,e,mA,⟨od,es,ep,e2,c⟩,r⟩:=x;exact⟨ho _ d,z,ne,k _ _ (.inl rfl) e,mA,⟨od,es,ep,k _ _ (.inr d) e2,c⟩,r⟩
 |own y=>obtain⟨ob,e⟩:=x;exact⟨ob,k _ _ (.inl rfl) e⟩
 |xd fs=>obtain⟨mA,⟨od,es,ep,e,c⟩,r⟩:=x;exact⟨mA,⟨od,es,ep,k _ _ (.inl rfl) e,c⟩,r⟩
 |rng lo hi=>obtain⟨t,u,v,e⟩:=x;exact⟨t,u,v,k _ _ (.inl rfl) e⟩
 |frz ob u ih=>obtain⟨e,q⟩:=x;exact⟨k _ _ (.inl rfl) e,ih q⟩
 |tbl ps=>
  have e:h.get? a=some { cls:=.none,data:=.fields ps }:=x;show h'.get? a=some { cls:=.none,data:=.fields ps };exact k a _ (.inl rfl) e
 |met f y=>
  have e:h.get? a=some (PySem.W.methodObj (.ref f) (.ref y)):=x;show h'.get? a=some (PySem.W.methodObj (.ref f) (.ref y));exact k a _ (.inl rfl) e
 |ext φ=>obtain⟨p,⟨o,e⟩,st⟩:=x;exact⟨st _ _ p λo q=>k _ _ (.inl rfl) q,⟨o,k _ _ (.inl rfl) e⟩,st⟩
theorem HOk.lt (x:HOk P w H h) (e:H a=some o):a<h.objs.size:=(x a o e).lt
theorem HOk.fresh (x:HOk P w H h) (e:h.objs.size<=a):H a=none:=by
 cases q:H a with
 |none=>rfl
 |some u=>exact absurd (Wa9 (x.lt q) e) (Wc0 _)
theorem HOk.kept (x:HOk P w H h) (k:∀b u,h.get? b=some u->h'.get? b=some u):HOk P w H h':=λa o e=>
 (x a o e).stay (λb u _ q=>k b u q) (λ_ q=>q) λ_ _ q=>q
theorem HOk.laid (x:HOk P w H h) (k:∀b u,h.get? b=some u->h'.get? b=some u) (hp:h.objs.size<=a) (new:ObjOk P w (upd H a o) h' a o):HOk P w (upd H a o) h':=λb u e=>by
 have hn:=x.fresh hp;by_cases hb:b=a
 ·subst hb;rw[Zam]at e;cases e;exact new
 ·rw[Zaj hb]at e
  exact(x b u e).stay (λc v _ q=>k c v q) (λc q=>by rw[Zaj (Zal q hn)];exact q) λc xs q=>by rw[Zaj (Zal q hn)];exact q
end
def Rd (H:Hp) (a:Addr) (u:HO):Prop:=H a=some u\/∃o,H a=some (.frz o u)
theorem Rd.ok {P:Program}{w:World}{H:Hp}{h:Heap}{a:Addr}{u:HO}(r:Rd H a u) (x:HOk P w H h):ObjOk P w H h a u:=by
 rcases r with r|⟨o,r⟩
 ·exact x a u r
 ·obtain⟨_,q⟩:=x a _ r
  exact q
def Mut:Option HO->Prop
 |some (.lst _)=>True
 |some (.dK _)=>True
 |some (.dT _)=>True
 |some (.set _ _)=>True
 |some (.ins _ _ _)=>True
 |some (.ext _)=>True
 |_=>False
section
variable {P:Program}{w:World}{H:Hp}{h h':Heap}{x e:Addr}{o':HO}
theorem HOk.write (ok:HOk P w H h) (mu:Mut (H x)) (he:e=x\/H e=some (.own x)) (k:∀b u,b≠e->h.get? b=some u->h'.get? b=some u) (heo:∃u,h'.get? e=some u)
  (new:ObjOk P w (upd H x o') h' x o'):HOk P w (upd H x o') h':=λb u q=>by
 have nown:∀c y,H c=some (.own y)->c≠x:=λc y r z=>by subst z;rw[r]at mu;exact mu
 have ntup:∀c xs,H c=some (.tup xs)->c≠x:=λc xs r z=>by subst z;rw[r]at mu;exact mu
 by_cases hb:b=x
 ·subst hb;rw[Zam]at q;cases q;exact new
 ·rw[Zaj hb]at q
  by_cases hbe:b=e
  ·have q':H b=some (.own x):=by
    rcases he with z|z
    ·exact absurd (hbe.trans z) hb
    ·rw[hbe];exact z
   rw[q]at q';cases q';obtain⟨v,hv⟩:=heo;exact⟨v,by rw[hbe];exact hv⟩
  ·refine(ok b u q).stay (λc v hc r=>k c v ?_ r) (λc r=>by rw[Zaj (nown c b r)];exact r) λc xs r=>by rw[Zaj (ntup c xs r)];exact r
   rcases hc with rfl|hc
   ·exact hbe
   ·rintro rfl
    rcases he with z|z
    ·exact nown c b hc z
    ·rw[hc]at z;cases z;exact hb rfl
end
structure Un (fs ex:List Addr) (H H':Hp) (h h':Heap):Prop where
 keep:∀b o,h.get? b=some o->H b=none->b ∉ fs->b ∉ ex->h'.get? b=some o
 slot:∀b o,h.get? b=some o->H b=none->b∈fs->b ∉ ex->∃sl,h'.get? b=some { o with slots:=sl }
 free:∀b o,h.get? b=some o->H b=none->b ∉ ex->H' b=none
 there:∀b o,h.get? b=some o->b ∉ ex->∃o',h'.get? b=some o'
 tups:∀b xs,H b=some (.tup xs)->H' b=some (.tup xs)
 frzs:∀b o u,H b=some (.frz o u)->H' b=some (.frz o u)
 tbls:∀b ps,H b=some (.tbl ps)->∃more,H' b=some (.tbl (ps++more))
section
variable {fs fs' ex ex':List Addr}{H H1 H2:Hp}{h h1 h2 h':Heap}{a x e:Addr}{o:HO}
theorem Un.any (u:Un fs ex H H1 h h1) {b:Addr}{ob:Obj}(q:h.get? b=some ob) (n:H b=none) (hx:b ∉ ex):∃sl,h1.get? b=some { ob with slots:=sl }:=by
 by_cases hb:b∈fs
 ·exact u.slot b ob q n hb hx
 ·exact⟨ob.slots,u.keep b ob q n hb hx⟩
theorem Un.kept (k:∀b u,h.get? b=some u->h'.get? b=some u):Un fs ex H H h h':=
 ⟨λb ob q _ _ _=>k b ob q,λb ob q _ _ _=>⟨ob.slots,k b ob q⟩,λ_ _ _ n _=>n,λb ob q _=>⟨ob,k b ob q⟩,λ_ _ q=>q,λ_ _ _ q=>q,λ_ ps q=>⟨#[],by rw[q];simp⟩⟩
theorem Un.refl:Un fs ex H H h h:=Un.kept λ_ _ q=>q
theorem Un.laid (k:∀b u,h.get? b=some u->h'.get? b=some u) (hp:h.objs.size<=a) (hn:H a=none):Un fs ex H (upd H a o) h h' where
 keep:=λb u q _ _ _=>k b u q
 slot:=λb u q _ _ _=>⟨u.slots,k b u q⟩
 free:=λb u q n _=>by rw[Zaj (Way (Wa9 (War q) hp))];exact n
 there:=λb u q _=>⟨u,k b u q⟩
 tups:=λb xs q=>by rw[Zaj (Zal q hn)];exact q
 frzs:=λb u xs q=>by rw[Zaj (Zal q hn)];exact q
 tbls:=λb ps q=>⟨#[],by rw[Zaj (Zal q hn),q];simp⟩
theorem Un.write (mu:Mut (H x)) (he:e=x\/H e=some (.own x)) (k:∀b u,b≠e->h.get? b=some u->h'.get? b=some u) (heo:∃u,h'.get? e=some u):Un fs ex H (upd H x o) h h':=by
 have hx:∀b,H b=none->b≠x:=λb n z=>by subst z;rw[n]at mu;exact mu
 have hb:∀b,H b=none->b≠e:=λb n z=>by
  subst z;rcases he with r|r
  ·exact hx b n r
  ·rw[n]at r;cases r
 have hm:∀b u,H b=some u->¬ Mut (some u)->b≠x:=λb u q nm z=>by subst z;rw[q]at mu;exact nm mu
 refine⟨λb u q n _ _=>k b u (hb b n) q,λb u q n _ _=>⟨u.slots,k b u (hb b n) q⟩,λb u q n _=>by rw[Zaj (hx b n)];exact n,λb u q _=>?_,
  λb xs q=>by rw[Zaj (hm b _ q λz=>z)];exact q,λb u xs q=>by rw[Zaj (hm b _ q λz=>z)];exact q,λb ps q=>⟨#[],by rw[Zaj (hm b _ q λz=>z),q];simp⟩⟩
 by_cases hbe:b=e
 ·subst hbe;exact heo
 ·exact⟨u,k b u hbe q⟩
end
def trk (h:Heap) (H:Hp):List Addr:=(Wa1 h.objs.size).filter λa=>(H a).isSome
def hidT (h:Heap) (H:Hp):Heap:=PySem.W.hideAll h (trk h H)
theorem Zk6 (h:Heap) (H:Hp):(hidT h H).objs.size=h.objs.size:=PySem.W.hideAll_size _ _
theorem Zny {h:Heap}{H:Hp}{b:Addr}{o:Obj}(e:h.get? b=some o) (n:H b=none):(hidT h H).get? b=some o:=
 PySem.W.hideAll_get _ e λhm=>by
  have q:(H b).isSome=true:=(Wa5.mp hm).2;rw[n]at q;simp at q
theorem Zqg {h:Heap}{H:Hp}{b:Addr}{o:Obj}(e:(hidT h H).get? b=some o):h.get? b=some o/\H b=none:=by
 have e':h.get? b=some o:=PySem.W.of_hideAll (trk h H) e;refine⟨e',?_⟩;cases q:H b with
 |none=>rfl
 |some x=>
  have hm:b∈trk h H:=Wa5.mpr ⟨Wat.mpr (War e'),by simp[q]⟩;have z:(hidT h H).get? b=none:=PySem.W.hideAll_none (trk h H) hm;rw[z]at e;cases e
def allNews (g h:Heap) (L:Addr):List (Addr × Obj):=(Wa1 h.objs.size).filterMap λa=>if a=L\/(g.get? a).isSome=true then none else (h.get? a).map λo=>(a,o)
def rest (g h:Heap) (L d:Addr):List (Addr × Obj):=(allNews g h L).filter λp=>decide (p.1≠d)
end L2
namespace L2
open PySem PySem.Spec PyProof.Rows
structure Mod (K:W.Frag) (mg:Str->Option Value) (base:Heap):Prop where
 kin:K.In base
 glob:base.Ns mainGlobals mg
 blt:∃mb,base.Ns builtinsNs mb/\∀x:Str,x ≠ "__name__" -> mb x=bootBuiltins x
 nolimit:base.NoLimit
structure Cx where
 prog:Program
 w:World
 K:W.Frag
 mg:Str->Option Value
 base:Heap
 A:Around
 N:List Str
 s₀:Shared
 H₀:Hp
 env:Env
 outer:List Env
 stack:List Env
 ex:List Addr
 fn:Str->Bool
 calm:Bool
 pn:List (Addr × Obj)
 xe:Value->Shared->Prop
def frs (l:List Env):List Addr:=l.filterMap (·.frame)
abbrev Cx.fs (X:Cx):List Addr:=frs X.outer
def Vis (sc:Scope) (x:Str):Prop:=sc.names.lookup x=some .local\/sc.names.lookup x=some .cell\/sc.names.lookup x=some .free
def Loc (sc:Scope) (x:Str):Prop:=sc.names.lookup x=some .local\/sc.names.lookup x=some .cell
def Look (env:Env) (h:Heap) (m:Str->Option Value) (x:Str) (u:Value):Prop:=
 (env.kindOf x=some .local/\m x=some u)\/((env.kindOf x=some .cell\/env.kindOf x=some .free)/\∃c,env.cells.lookup x=some c/\h.IsCell c (some u))
structure Cx.Ok (X:Cx):Prop where
 mod:Mod X.K X.mg X.base
 kind:X.env.scope.kind=.function
 glob:X.env.globals=mainGlobals
 blt:X.env.builtins=builtinsNs
 above:X.s₀.heap.objs.size<=X.env.locals
 inj:∀x y c,X.env.cells.lookup x=some c->X.env.cells.lookup y=some c->x=y
 has:∀x,(X.env.kindOf x=some .cell\/X.env.kindOf x=some .free)->∃c,X.env.cells.lookup x=some c
 cab:∀x c,X.fn x=true->X.env.cells.lookup x=some c->X.s₀.heap.objs.size<=c
 hd:X.calm=true->X.A.handled=none
 frames:X.A.frames=some X.stack
 stk:X.stack=X.outer\/(X.stack=X.env::X.outer/\X.env.frame=some X.env.locals)
 exf:∀b∈X.ex,b≠X.env.locals/\∀x c,X.env.cells.lookup x=some c->c≠b
 bs:∀b o,X.base.get? b=some o->X.s₀.heap.get? b=some o/\X.H₀ b=none
 bsz:X.base.objs.size<=X.s₀.heap.objs.size
 noex:∀b o,X.base.get? b=some o->b ∉ X.ex
 exfs:∀b∈X.ex,b ∉ X.fs
 funs:X.s₀.heap.FunFrames X.base X.outer
 frf:∀b∈X.fs,X.H₀ b=none
structure Inv (X:Cx) (pins:List (Addr × Obj)) (σ:List (Option V)) (H:Hp) (s:Shared):Prop where
 ok:X.Ok
 os:s.os=X.s₀.os
 bare:AllBare s.gens
 base:Un X.fs X.ex X.H₀ H X.s₀.heap s.heap
 loc:∃m,s.heap.Ns X.env.locals m/\∀(i:Nat) (x:Str) (v:V),X.N[i]?=some x -> σ[i]?=some (some v)->Vis X.env.scope x->∃u,RelV v u/\Look X.env s.heap m x u
 cell:∀x c,X.env.cells.lookup x=some c->∃v,s.heap.IsCell c v
 free:H X.env.locals=none
 freeC:∀x c,X.env.cells.lookup x=some c->H c=none
 pin:∀p∈X.pn++pins,s.heap.get? p.1=some p.2/\H p.1=none/\p.1≠X.env.locals/\p.1 ∉ X.fs/\∀v,p.2.data≠.cell v
 hok:HOk X.prog X.w H s.heap
 len:σ.length=X.N.length
section
variable {X:Cx}{pins:List (Addr × Obj)}{σ:List (Option V)}{H H':Hp}{s:Shared}{h':Heap}
theorem Cx.Ok.nofr (ok:X.Ok) {b:Addr}{o:Obj}(e:X.base.get? b=some o):b ∉ X.fs:=λhb=>by
 have:=(ok.funs.mem hb).1;rw[e]at this;cases this
theorem Inv.bs (I:Inv X pins σ H s):∀b o,X.base.get? b=some o->s.heap.get? b=some o/\H b=none:=λb o e=>
 ⟨I.base.keep b o (I.ok.bs b o e).1 (I.ok.bs b o e).2 (I.ok.nofr e) (I.ok.noex b o e),I.base.free b o (I.ok.bs b o e).1 (I.ok.bs b o e).2 (I.ok.noex b o e)⟩
theorem Inv.bk (I:Inv X pins σ H s):∀b o,X.base.get? b=some o->s.heap.get? b=some o:=λb o e=>(I.bs b o e).1
theorem Inv.mod (I:Inv X pins σ H s):Mod X.K X.mg X.base:=I.ok.mod
theorem Inv.kIn (I:Inv X pins σ H s):X.K.In s.heap:=I.ok.mod.kin.keeps I.bk
theorem Inv.lt (I:Inv X pins σ H s):X.env.locals<s.heap.objs.size:=let ⟨_,hn,_⟩:=I.loc;hn.lt
theorem Inv.sz (I:Inv X pins σ H s):X.s₀.heap.objs.size<=s.heap.objs.size:=Wbq I.ok.above (Wb1 I.lt)
theorem Inv.nofs (I:Inv X pins σ H s) {a:Addr}(h:s.heap.objs.size<=a):a ∉ X.fs:=λhb=>by
 obtain⟨_,o,ho,_⟩:=I.ok.funs.mem hb;exact absurd (Wa9 (War ho) (Wbq I.sz h)) (Wc0 _)
theorem Inv.cne (I:Inv X pins σ H s):∀x c,X.env.cells.lookup x=some c->c≠X.env.locals:=λx c e z=>by
 obtain⟨v,o,ho,hd⟩:=I.cell x c e;obtain⟨m,⟨o',es,ep,ho',hd',_⟩,_⟩:=I.loc;rw[z,ho']at ho;cases ho;rw[hd']at hd;cases hd
theorem Inv.funs (I:Inv X pins σ H s):s.heap.FunFrames X.base X.outer:=by
 have all:∀(l:List Env),(∀b∈frs l,b∈X.fs)->X.s₀.heap.FunFrames X.base l->s.heap.FunFrames X.base l:=by
  intro l
  induction l with
  |nil=>intro _ _;trivial
  |cons env r ih=>
   intro hs hl;obtain⟨hk,⟨L,o,hf,hn,ho,hd⟩,hr⟩:=hl;have hL:L∈X.fs:=hs L (by unfold frs;rw[Wdv,hf];exact Waw);obtain⟨sl,e⟩:=I.base.slot L o ho (I.ok.frf L hL) hL λz=>I.ok.exfs L z hL;exact⟨hk,⟨L,_,hf,hn,e,hd⟩,ih (λb hb=>hs b (by unfold frs;rw[Wdv,hf];exact Wav _ hb)) hr⟩
 exact all X.outer (λ_ hb=>hb) I.ok.funs
theorem Inv.stack (I:Inv X pins σ H s):s.heap.FunFrames X.base X.stack:=by
 rcases I.ok.stk with e|⟨e,hf⟩
 ·rw[e];exact I.funs
 ·rw[e]
  obtain⟨m,hn,_⟩:=I.loc;refine .cons (by rw[I.ok.kind];decide) hf hn ?_ I.funs;exact Heap.get?_none_of_le (Wbq I.ok.bsz I.ok.above)
theorem Inv.stkSub (I:Inv X pins σ H s):∀b∈frs X.stack,b∈X.env.locals::X.fs:=λb hb=>by
 rcases I.ok.stk with e|⟨e,hf⟩
 ·rw[e]at hb;exact Wav _ hb
 ·rw[e]at hb
  unfold frs at hb;rw[Wdv,hf]at hb;exact hb
theorem Inv.stkFree (I:Inv X pins σ H s):∀b∈frs X.stack,H b=none:=λb hb=>by
 rcases Wan.mp (I.stkSub b hb) with e|hb
 ·rw[e];exact I.free
 ·obtain⟨_,o,ho,_⟩:=I.ok.funs.mem hb
  exact I.base.free b o ho (I.ok.frf b hb) λz=>I.ok.exfs b z hb
theorem Inv.step {g':Array GenState}{t':Nat}{d':Drawn}{ch:List Addr}(I:Inv X pins σ H s)
  (hch:∀b∈ch,(b∈X.ex\/X.s₀.heap.objs.size<=b)/\b≠X.env.locals/\(∀x c,X.env.cells.lookup x=some c->c≠b)/\∀p∈X.pn++pins,p.1≠b)
  (keep:∀b o,b≠X.env.locals->b ∉ X.fs->b ∉ ch->s.heap.get? b=some o->H b=none->h'.get? b=some o)
  (slot:∀b o,b≠X.env.locals->b∈X.fs->b ∉ ch->s.heap.get? b=some o->H b=none->∃sl,h'.get? b=some { o with slots:=sl }) (free:∀b o,b ∉ ch->s.heap.get? b=some o->H b=none->H' b=none)
  (there:∀b o,b ∉ ch->s.heap.get? b=some o->∃o',h'.get? b=some o')
  (tups:∀b xs,H b=some (.tup xs)->H' b=some (.tup xs)) (frzs:∀b o u,H b=some (.frz o u)->H' b=some (.frz o u)) (tbls:∀b ps,H b=some (.tbl ps)->∃more,H' b=some (.tbl (ps++more)))
  (ns:∀m,s.heap.Ns X.env.locals m->h'.Ns X.env.locals m) (hok:HOk X.prog X.w H' h') (hg:AllBare g') :
  Inv X pins σ H' { s with heap:=h',gens:=g',drawn:=d',toks:=t' }:=by
 have neL:∀b o,X.s₀.heap.get? b=some o->b≠X.env.locals:=λb o e=>Way (Wa9 (War e) I.ok.above);have neC:∀b o,X.s₀.heap.get? b=some o->b ∉ X.ex->b ∉ ch:=λb o e hx hb=>by
  rcases(hch b hb).1 with z|z
  ·exact hx z
  ·exact absurd (Wa9 (War e) z) (Wc0 _)
 have cellK:∀x c,X.env.cells.lookup x=some c->∀v,s.heap.IsCell c v->h'.IsCell c v:=λx c e v hq_=>by
  obtain⟨o,ho,hd⟩:=hq_;have nch:c ∉ ch:=λz=>(hch c z).2.2.1 x c e rfl;by_cases hc:c∈X.fs
  ·obtain⟨sl,q⟩:=slot c o (I.cne x c e) hc nch ho (I.freeC x c e)
   exact⟨_,q,hd⟩
  ·exact⟨o,keep c o (I.cne x c e) hc nch ho (I.freeC x c e),hd⟩
 refine⟨I.ok,I.os,hg,⟨λb o e n hb hx=>?_,λb o e n hb hx=>?_,λb o e n hx=>?_,λb o e hx=>?_,λb xs e=>tups b xs (I.base.tups b xs e),λb o xs e=>frzs b o xs (I.base.frzs b o xs e),λb ps e=>?_⟩,?_,λx c e=>?_,?_,λx c e=>?_,λp hp=>?_,hok,I.len⟩
 ·exact keep b o (neL b o e) hb (neC b o e hx) (I.base.keep b o e n hb hx) (I.base.free b o e n hx)
 ·obtain⟨sl,e1⟩:=I.base.slot b o e n hb hx
  obtain⟨sl',e2⟩:=slot b _ (neL b o e) hb (neC b o e hx) e1 (I.base.free b o e n hx);exact⟨sl',e2⟩
 ·obtain⟨o',e1⟩:=I.base.there b o e hx
  exact free b o' (neC b o e hx) e1 (I.base.free b o e n hx)
 ·obtain⟨o',e1⟩:=I.base.there b o e hx
  exact there b o' (neC b o e hx) e1
 ·obtain⟨m1,e1⟩:=I.base.tbls b ps e
  obtain⟨m2,e2⟩:=tbls b _ e1;exact⟨m1++m2,by rw[e2,Array.append_assoc]⟩
 ·obtain⟨m,hn,hl⟩:=I.loc
  refine⟨m,ns m hn,λi x v e1 e2 e3=>?_⟩;obtain⟨u,r,l⟩:=hl i x v e1 e2 e3;refine⟨u,r,?_⟩;rcases l with l|⟨k,c,e,z⟩
  ·exact .inl l
  ·exact .inr ⟨k,c,e,cellK x c e _ z⟩
 ·obtain⟨v,z⟩:=I.cell x c e
  exact⟨v,cellK x c e v z⟩
 ·obtain⟨m,⟨o,_,_,ho,_⟩,_⟩:=I.loc
  exact free _ o (λz=>(hch _ z).2.1 rfl) ho I.free
 ·obtain⟨v,o,ho,hd⟩:=I.cell x c e
  exact free c o (λz=>(hch c z).2.2.1 x c e rfl) ho (I.freeC x c e)
 ·obtain⟨e,n,ne,nf,d⟩:=I.pin p hp
  have nch:p.1 ∉ ch:=λz=>(hch p.1 z).2.2.2 p hp rfl;exact⟨keep p.1 p.2 ne nf nch e n,free p.1 p.2 nch e n,ne,nf,d⟩
theorem Inv.un {t':Nat}(I:Inv X pins σ H s) (u:Un X.fs [] H H' s.heap h') (hok:HOk X.prog X.w H' h'):Inv X pins σ H' { s with heap:=h',toks:=t' }:=by
 obtain⟨m,⟨o,es,ep,ho,r⟩,_⟩:=id I.loc;obtain⟨sl,hL⟩:=u.any ho I.free (by simp);exact I.step (g':=s.gens) (d':=s.drawn) (ch:=[]) (λ_ z=>nomatch z) (λb o _ hb _ e n=>u.keep b o e n hb (by simp)) (λb o _ hb _ e n=>u.slot b o e n hb (by simp)) (λb o _ e n=>u.free b o e n (by simp)) (λb o _ e=>u.there b o e (by simp)) u.tups u.frzs u.tbls (λm' hm=>by
  obtain⟨o',es',ep',ho',r'⟩:=hm;rw[ho]at ho';cases ho';exact⟨_,es',ep',hL,r'⟩) hok I.bare
theorem Inv.call {g':Array GenState}{t':Nat}{d':Drawn}{ch:List Addr}(I:Inv X pins σ H s) (u:Un (frs X.stack) ch H H' s.heap h') (hok:HOk X.prog X.w H' h') (hg:AllBare g')
  (hch:∀b∈ch,(b∈X.ex\/X.s₀.heap.objs.size<=b)/\b≠X.env.locals/\(∀x c,X.env.cells.lookup x=some c->c≠b)/\∀p∈X.pn++pins,p.1≠b) :
  Inv X pins σ H' { s with heap:=h',gens:=g',drawn:=d',toks:=t' }:=by
 obtain⟨m,⟨o,es,ep,ho,r⟩,_⟩:=id I.loc;obtain⟨sl,hL⟩:=u.any ho I.free λz=>(hch _ z).2.1 rfl;exact I.step (ch:=ch) hch (λb o hL hb hc e n=>u.keep b o e n (λz=>(Wan.mp (I.stkSub b z)).elim hL hb) hc) (λb o _ _ hc e n=>u.any e n hc) (λb o hc e n=>u.free b o e n hc) (λb o hc e=>u.there b o e hc) u.tups u.frzs u.tbls (λm' hm=>by
  obtain⟨o',es',ep',ho',r'⟩:=hm;rw[ho]at ho';cases ho';exact⟨_,es',ep',hL,r'⟩) hok hg
theorem Inv.turned {t':Nat}{it:Addr}(I:Inv X pins σ H s) (k:∀b o,b≠it->s.heap.get? b=some o->h'.get? b=some o) (hn:H it=none) (hL:it≠X.env.locals)
  (h1:it∈X.ex\/X.s₀.heap.objs.size<=it) (h2:∀x c,X.env.cells.lookup x=some c->c≠it) (h3:∀p∈X.pn++pins,p.1≠it):Inv X pins σ H { s with heap:=h',toks:=t' }:=by
 have nit:∀b u,H b=some u->b≠it:=λb u e z=>by rw[z,hn]at e;cases e
 refine I.step (g':=s.gens) (d':=s.drawn) (ch:=[it]) (λb hb=>?_) (λb o _ _ hc e _=>k b o (λz=>hc (by simp[z])) e) (λb o _ _ hc e _=>⟨o.slots,k b o (λz=>hc (by simp[z])) e⟩) (λ_ _ _ _ n=>n)
  (λb o hc e=>⟨o,k b o (λz=>hc (by simp[z])) e⟩) (λ_ _ e=>e) (λ_ _ _ e=>e) (λb ps e=>⟨#[],by rw[e];simp⟩) (λm hm=>?_) (λb u e=>?_) I.bare
 ·have e:b=it:=by simpa using hb
  subst e;exact⟨h1,hL,h2,h3⟩
 ·obtain⟨o,es,ep,ho,r⟩:=hm
  exact⟨o,es,ep,k _ o (Ne.symm hL) ho,r⟩
 ·refine(I.hok b u e).stay (λc v hc q=>k c v ?_ q) (λ_ q=>q) λ_ _ q=>q
  rcases hc with z|z
  ·rw[z];exact nit b u e
  ·exact nit c _ z
theorem Inv.tok (I:Inv X pins σ H s) (t:Nat):Inv X pins σ H { s with toks:=t }:=I.un (h':=s.heap) (t':=t) Un.refl I.hok
theorem Inv.kept {t':Nat}(I:Inv X pins σ H s) (k:∀b u,s.heap.get? b=some u->h'.get? b=some u):Inv X pins σ H { s with heap:=h',toks:=t' }:=I.un (Un.kept k) (I.hok.kept k)
theorem Inv.laid {a:Addr}{o:HO}{t':Nat}(I:Inv X pins σ H s) (k:∀b u,s.heap.get? b=some u->h'.get? b=some u) (hp:s.heap.objs.size<=a) (new:ObjOk X.prog X.w (upd H a o) h' a o) :
  Inv X pins σ (upd H a o) { s with heap:=h',toks:=t' }:=I.un (Un.laid k hp (I.hok.fresh hp)) (I.hok.laid k hp new)
theorem Inv.write {x e:Addr}{o:HO}{t':Nat}(I:Inv X pins σ H s) (mu:Mut (H x)) (he:e=x\/H e=some (.own x)) (k:∀b u,b≠e->s.heap.get? b=some u->h'.get? b=some u) (heo:∃u,h'.get? e=some u)
  (new:ObjOk X.prog X.w (upd H x o) h' x o):Inv X pins σ (upd H x o) { s with heap:=h',toks:=t' }:=I.un (Un.write mu he k heo) (I.hok.write mu he k heo new)
theorem Inv.pins_of {pins':List (Addr × Obj)}(I:Inv X pins σ H s) (h:∀p∈pins',s.heap.get? p.1=some p.2/\H p.1=none/\p.1≠X.env.locals/\p.1 ∉ X.fs/\∀v,p.2.data≠.cell v):Inv X pins' σ H s:=
 ⟨I.ok,I.os,I.bare,I.base,I.loc,I.cell,I.free,I.freeC,λp hp=>(Wbo.mp hp).elim (λz=>I.pin p (Wcj _ z)) (h p),I.hok,I.len⟩
theorem Zho {N:List Str}(hN:N.Nodup) {i j:Nat}{x:Str}(a:N[i]?=some x) (b:N[j]?=some x):i=j:=by
 obtain⟨h1,e1⟩:=Wae.mp a;obtain⟨h2,e2⟩:=Wae.mp b;exact(Wda hN).mp (e1.trans e2.symm)
theorem Zfj {M:Model}{A:Around}{E:Value->Shared->Prop}{i:Nat}{x:Str}{v:V}{u:Value}{Q:Unit->Shared->Prop}(I:Inv X pins σ H s) (hN:X.N.Nodup) (hi:X.N[i]?=some x) (hx:Loc X.env.scope x) (r:RelV v u)
  (h:∀s',Inv X pins (σ.set i (some v)) H s' -> (∃a,Heap.SameBut a s.heap s'.heap/\(a=X.env.locals\/X.env.cells.lookup x=some a))->Q () s') (hf:X.fn x=true\/X.env.scope.names.lookup x=some .local:=by first|exact .inl rfl|exact .inr rfl|assumption):wpAny M A (storeName X.env x u) Q E s:=by
 obtain⟨m,hn,hl⟩:=id I.loc;have hcls:(X.env.scope.kind == .class || (X.env.scope.kind == .module && X.env.locals != X.env.globals))=false:=by rw[I.ok.kind];rfl
 have hiσ:i < σ.length:=by rw[I.len];exact(Wae.mp hi).1
 have cne:=I.cne;have tracked:∀{a:Addr}{h':Heap},(∃o,s.heap.get? a=some o/\H a=none)->Heap.SameBut a s.heap h' -> HOk X.prog X.w H h':=λ{a h'} ha hs b ob e=>by
  obtain⟨_,_,hfree⟩:=ha;refine(I.hok b ob e).stay (λc w' hc q=>(hs.2 c ?_).trans q) (λ_ q=>q) λ_ _ q=>q;rintro rfl;rcases hc with rfl|hc
  ·rw[hfree]at e;cases e
  ·rw[hfree]at hc;cases hc
 rcases hx with hk|hk
 ·refine wpAny_storeName_local hk hn (λh' hn' hs=>?_) hcls
  obtain⟨oL,_,_,hoL,_⟩:=id hn;refine h _ ⟨I.ok,I.os,I.bare,⟨λb o e n hb hx=>?_,λb o e n hb hx=>?_,I.base.free,λb o e hx=>?_,I.base.tups,I.base.frzs,I.base.tbls⟩,⟨_,hn',λj y v' e1 e2 e3=>?_⟩,λy c e=>?_,I.free,I.freeC,λp hp=>?_,tracked ⟨oL,hoL,I.free⟩ hs,by simpa using I.len⟩ ⟨_,hs,.inl rfl⟩
  ·exact(hs.2 b (Way (Wa9 (War e) I.ok.above))).trans (I.base.keep b o e n hb hx)
  ·obtain⟨sl,e1⟩:=I.base.slot b o e n hb hx
   exact⟨sl,(hs.2 b (Way (Wa9 (War e) I.ok.above))).trans e1⟩
  ·obtain⟨o',e1⟩:=I.base.there b o e hx
   exact⟨o',(hs.2 b (Way (Wa9 (War e) I.ok.above))).trans e1⟩
  ·by_cases hj:j=i
   ·subst hj
    rw[hi]at e1;cases e1;rw[Waq hiσ]at e2;cases e2;exact⟨u,r,.inl ⟨hk,by simp⟩⟩
   ·rw[Was (Ne.symm hj)]at e2
    obtain⟨u',r',q⟩:=hl j y v' e1 e2 e3;refine⟨u',r',?_⟩;rcases q with ⟨k,e⟩|⟨k,c,e,z⟩
    ·refine .inl ⟨k,?_⟩
     have:y≠x:=λe=>hj (Zho hN e1 (e ▸ hi));simp[this,e]
    ·exact .inr ⟨k,c,e,z.sameBut hs (cne y c e)⟩
  ·obtain⟨w',z⟩:=I.cell y c e
   exact⟨w',z.sameBut hs (cne y c e)⟩
  ·obtain⟨e,n,ne,nf,d⟩:=I.pin p hp
   exact⟨(hs.2 p.1 ne).trans e,n,ne,nf,d⟩
 ·have hfn:X.fn x=true:=by
   rcases hf with z|z
   ·exact z
   ·rw[z]at hk;cases hk
  obtain⟨c,hc⟩:=I.ok.has x (.inl hk);obtain⟨w',z⟩:=I.cell x c hc;refine wpAny_storeName_cell I.ok.kind hk hc z (λh' hc' hs=>?_);obtain⟨oc,hoc,hocd⟩:=id z;refine h { s with heap:=h' } ⟨I.ok,I.os,I.bare,⟨λb o e n hb hx=>?_,λb o e n hb hx=>?_,I.base.free,λb o e hx=>?_,I.base.tups,I.base.frzs,I.base.tbls⟩,⟨m,hn.sameBut hs (Ne.symm (cne x c hc)),λj y v' e1 e2 e3=>?_⟩,λy c' e=>?_,I.free,I.freeC,λp hp=>?_,tracked ⟨oc,hoc,I.freeC x c hc⟩ hs,by simpa using I.len⟩ ⟨c,hs,.inr hc⟩
  ·exact(hs.2 b (Way (Wa9 (War e) (I.ok.cab x c hfn hc)))).trans (I.base.keep b o e n hb hx)
  ·obtain⟨sl,e1⟩:=I.base.slot b o e n hb hx
   exact⟨sl,(hs.2 b (Way (Wa9 (War e) (I.ok.cab x c hfn hc)))).trans e1⟩
  ·obtain⟨o',e1⟩:=I.base.there b o e hx
   exact⟨o',(hs.2 b (Way (Wa9 (War e) (I.ok.cab x c hfn hc)))).trans e1⟩
  ·by_cases hj:j=i
   ·subst hj
    rw[hi]at e1;cases e1;rw[Waq hiσ]at e2;cases e2;exact⟨u,r,.inr ⟨.inl hk,c,hc,hc'⟩⟩
   ·rw[Was (Ne.symm hj)]at e2
    obtain⟨u',r',q⟩:=hl j y v' e1 e2 e3;refine⟨u',r',?_⟩;rcases q with q|⟨k,c',e,z'⟩
    ·exact .inl q
    ·refine .inr ⟨k,c',e,z'.sameBut hs ?_⟩
     rintro rfl;exact hj (Zho hN e1 (I.ok.inj _ _ _ e hc ▸ hi))
  ·by_cases hcc:c'=c
   ·subst hcc;exact⟨_,hc'⟩
   ·obtain⟨w2,z2⟩:=I.cell y c' e
    exact⟨w2,z2.sameBut hs hcc⟩
  ·obtain⟨e,n,ne,nf,d⟩:=I.pin p hp
   refine⟨(hs.2 p.1 ?_).trans e,n,ne,nf,d⟩;intro q;rw[q,hoc]at e;have q':oc=p.2:=Wbd.inj e;exact d w' (by rw[<- q'];exact hocd)
theorem Zdn {M:Model}{A:Around}{E:Value->Shared->Prop}{i:Nat}{x:Str}{v:V}{u:Value}{Q:Unit->Shared->Prop}(I:Inv X pins σ H s) (hN:X.N.Nodup) (hi:X.N[i]?=some x) (hx:Loc X.env.scope x) (r:RelV v u)
  (h:∀s',Inv X pins (σ.set i (some v)) H s' -> Q () s') (hf:X.fn x=true\/X.env.scope.names.lookup x=some .local:=by first|exact .inl rfl|exact .inr rfl|assumption):wpAny M A (storeName X.env x u) Q E s:=
 Zfj I hN hi hx r (λs' I' _=>h s' I') hf
theorem Inv.call' {s':Shared}{ch:List Addr}(I:Inv X pins σ H s) (ho:s'.os=s.os) (u:Un (frs X.stack) ch H H' s.heap s'.heap) (hok:HOk X.prog X.w H' s'.heap) (hg:AllBare s'.gens)
  (hch:∀b∈ch,(b∈X.ex\/X.s₀.heap.objs.size<=b)/\b≠X.env.locals/\(∀x c,X.env.cells.lookup x=some c->c≠b)/\∀p∈X.pn++pins,p.1≠b):Inv X pins σ H' s':=by
 obtain⟨h',g',d',t',o'⟩:=s';have e:o'=s.os:=ho;subst e;exact I.call (g':=g') (t':=t') (d':=d') u hok hg hch
end
abbrev XK:=Value->Option Addr->Hp->Prop
abbrev St:=List (Option V)
abbrev VK:=V->Hp->Prop
abbrev TE:=St->Hp->VK->Prop
abbrev TT:=St->Hp->(Bool->Hp->Prop)->Prop
abbrev TA:=St->Hp->(List V->Hp->Prop)->Prop
structure Ends where
 nx:St->Hp->Prop
 rt:VK
 bk:St->Hp->Prop:=λ_ _=>False
 ct:St->Hp->Prop:=λ_ _=>False
abbrev TS:=Ends->St->Hp->Prop
def EP (X:Cx) (pins:List (Addr × Obj)) (σ:St) (Q:VK) (u:Value) (s':Shared):Prop:=∃v H',Inv X pins σ H' s' /\ RelV v u/\Q v H'
def TP (X:Cx) (pins:List (Addr × Obj)) (σ:St) (Q:Bool->Hp->Prop) (b:Bool) (s':Shared):Prop:=∃H',Inv X pins σ H' s' /\ Q b H'
def AP (X:Cx) (pins:List (Addr × Obj)) (σ:St) (Q:List V->Hp->Prop) (us:List Value) (s':Shared):Prop:=∃vs H',Inv X pins σ H' s' /\ Vals vs us/\Q vs H'
def SP (X:Cx) (pins:List (Addr × Obj)) (D:Ends) (f:Flow) (s':Shared):Prop:=
 match f with
 |.next=>∃σ' H',Inv X pins σ' H' s' /\ D.nx σ' H'
 |.brk=>∃σ' H',Inv X pins σ' H' s' /\ D.bk σ' H'
 |.cont=>∃σ' H',Inv X pins σ' H' s' /\ D.ct σ' H'
 |.ret u=>∃v σ' H',Inv X pins σ' H' s' /\ RelV v u/\D.rt v H'
def PE (X:Cx) (e:Expr) (t:TE):Prop:=
 ∀(pins:List (Addr × Obj)) (s:Shared) (σ:St) (H:Hp) (Q:VK),Inv X pins σ H s->t σ H Q->wpAny (model X.prog X.w) X.A (eval e X.env) (EP X pins σ Q) X.xe s
def PT (X:Cx) (e:Expr) (t:TT):Prop:=
 ∀(pins:List (Addr × Obj)) (s:Shared) (σ:St) (H:Hp) (Q:Bool->Hp->Prop),Inv X pins σ H s->t σ H Q->wpAny (model X.prog X.w) X.A (isTrue e X.env (eval e X.env)) (TP X pins σ Q) X.xe s
def PW (X:Cx) (e:Expr) (t:TT):Prop:=
 ∀(whole:Sem Value) (pins:List (Addr × Obj)) (s:Shared) (σ:St) (H:Hp) (Q:Bool->Hp->Prop),Inv X pins σ H s->t σ H Q->wpAny (model X.prog X.w) X.A (isTrue e X.env whole) (TP X pins σ Q) X.xe s
theorem PW.pt {X:Cx}{e:Expr}{t:TT}(h:PW X e t):PT X e t:=h _
def PA (X:Cx) (es:List Expr) (t:TA):Prop:=
 ∀(pos:Pos) (pins:List (Addr × Obj)) (s:Shared) (σ:St) (H:Hp) (Q:List V->Hp->Prop),Inv X pins σ H s->t σ H Q->wpAny (model X.prog X.w) X.A (spliced (backTo pos (starEach es X.env))) (AP X pins σ Q) X.xe s
def PS (X:Cx) (st:Stmt) (t:TS):Prop:=
 ∀(pins:List (Addr × Obj)) (s:Shared) (σ:St) (H:Hp) (D:Ends),Inv X pins σ H s->t D σ H->wpAny (model X.prog X.w) X.A (exec st X.env) (SP X pins D) X.xe s
def PSs (X:Cx) (st:List Stmt) (t:TS):Prop:=
 ∀(pins:List (Addr × Obj)) (s:Shared) (σ:St) (H:Hp) (D:Ends),Inv X pins σ H s->t D σ H->wpAny (model X.prog X.w) X.A (execs st X.env) (SP X pins D) X.xe s
theorem thn {α:Type}{t:Sem α}{Q Q':α -> Shared->Prop}{M:Model}{A:Around}{E:Value->Shared->Prop}{s:Shared}(h:wpAny M A t Q E s) (hQ:∀a s,Q a s->Q' a s):wpAny M A t Q' E s:=wpAny_mono h hQ λ_ _ x=>x
end L2
namespace L2
open PySem PySem.Spec PyProof.Rows
section
variable {X:Cx}
def tVar (i:Nat):TE:=λσ H Q=>∃v,σ[i]?=some (some v)/\Q v H
def tC (v:V):TE:=λ_ H Q=>Q v H
theorem Zt0 {i:Nat}{x:Str}{pos:Pos}(hN:X.N[i]?=some x) (hv:Vis X.env.scope x) (hd:(x == ("__debug__":Str))=false:=by decide) (hcd:(x == ("__classdict__":Str))=false:=by decide):PE X (.Name x pos) (tVar i):=by
 intro pins s σ H Q I h;obtain⟨v,e,h⟩:=h;obtain⟨m,hn,hl⟩:=I.loc;obtain⟨u,r,l⟩:=hl i x v hN e hv;have fin:EP X pins σ Q u s:=⟨v,H,I,r,h⟩;rcases l with ⟨hk,hm⟩|⟨hk,c,hc,hcell⟩
 ·exact wpAny_Name (wpAny_loadName_local I.ok.kind hk hn hm fin) hd
 ·rcases hk with hk|hk
  ·exact wpAny_Name (wpAny_loadName_cell I.ok.kind hk hc hcell fin) hd
  ·exact wpAny_Name (wpAny_loadName_free I.ok.kind hk hc hcell fin hcd) hd
theorem Zag {i j pos}:PE X (.Constant (.int i) j pos) (tC (.int i)):=λ_ _ _ H _ I h=>wpAny_Constant_int ⟨.int i,H,I.tok _,⟨_,rfl⟩,h⟩
theorem Zlz {b j pos}:PE X (.Constant (.bool b) j pos) (tC (.bl b)):=λ_ _ _ H _ I h=>Constant_bool ⟨.bl b,H,I,rfl,h⟩
theorem Zs6 {j pos}:PE X (.Constant .none j pos) (tC .non):=λ_ _ _ H _ I h=>Constant_none ⟨.non,H,I,rfl,h⟩
def Gl (X:Cx) (x:Str):Prop:=X.env.kindOf x=some .globalImplicit
theorem Zeq {E:Value->Shared->Prop}{pins:List (Addr × Obj)}{s:Shared}{σ:St}{H:Hp}{x:Str}{u:Value}{pos:Pos}{Q:Value->Shared->Prop}(I:Inv X pins σ H s) (hg:Gl X x) (hm:X.mg x=some u) (h:Q u s)
  (hd:(x == ("__debug__":Str))=false:=by decide):wpAny (model X.prog X.w) X.A (eval (.Name x pos) X.env) Q E s:=
 Calls.Name_function_global I.ok.kind hg (Calls.loadGlobal_global (by rw[I.ok.glob];exact I.mod.glob.keeps I.bk) hm h) hd
theorem Zdu {E:Value->Shared->Prop}{pins:List (Addr × Obj)}{s:Shared}{σ:St}{H:Hp}{x:Str}{u:Value}{pos:Pos}{Q:Value->Shared->Prop}(I:Inv X pins σ H s) (hg:Gl X x) (hm:X.mg x=none) (hv:bootBuiltins x=some u) (h:Q u s)
  (hn:x ≠ "__name__":=by decide) (hd:(x == ("__debug__":Str))=false:=by decide):wpAny (model X.prog X.w) X.A (eval (.Name x pos) X.env) Q E s:=by
 obtain⟨mb,h1,h2⟩:=I.mod.blt;exact Calls.Name_function_global I.ok.kind hg (Calls.loadGlobal_builtin (by rw[I.ok.glob];exact I.mod.glob.keeps I.bk) hm (by rw[I.ok.blt];exact h1.keeps I.bk) ((h2 x hn).trans hv) h) hd
theorem Zft {x:Str}{v:V}{u:Value}{pos:Pos}(hg:Gl X x) (hm:X.mg x=some u) (r:RelV v u) (hd:(x == ("__debug__":Str))=false:=by decide):PE X (.Name x pos) (tC v):=
 λ_ _ _ H _ I h=>Zeq I hg hm ⟨v,H,I,r,h⟩ hd
theorem Zce {x:Str}{v:V}{u:Value}{pos:Pos}(hg:Gl X x) (hm:X.mg x=none) (hv:bootBuiltins x=some u) (r:RelV v u) (hn:x ≠ "__name__":=by decide) (hd:(x == ("__debug__":Str))=false:=by decide):PE X (.Name x pos) (tC v):=
 λ_ _ _ H _ I h=>Zdu I hg hm hv ⟨v,H,I,r,h⟩ hn hd
variable {a b:Expr}{ta tb:TE}{pos:Pos}
variable {tA tB':TT}{rest:List Expr}
def tAnd (t u:TT):TT:=λσ H Q=>t σ H λc H1=>if c=true then u σ H1 Q else Q false H1
def tOr (t u:TT):TT:=λσ H Q=>t σ H λc H1=>if c=true then Q true H1 else u σ H1 Q
def tNot (t:TT):TT:=λσ H Q=>t σ H λc H1=>Q (!c) H1
theorem pw_and1 (ha:PT X a tA):PW X (.BoolOp .And [a] pos) tA:=by
 intro wh pins s σ H Q I h;refine isTrue_and (thn (ha pins s σ H Q I h) λc s1 e=>?_);cases c with
 |true=>exact isTrue_and_nil e
 |false=>exact e
theorem pw_or1 (ha:PT X a tA):PW X (.BoolOp .Or [a] pos) tA:=by
 intro wh pins s σ H Q I h;refine isTrue_or (thn (ha pins s σ H Q I h) λc s1 e=>?_);cases c with
 |false=>exact isTrue_or_nil e
 |true=>exact e
theorem pw_and (ha:PT X a tA) (hb:PW X (.BoolOp .And (b::rest) pos) tB'):PW X (.BoolOp .And (a::b::rest) pos) (tAnd tA tB'):=by
 intro wh pins s σ H Q I h;refine isTrue_and (thn (ha pins s σ H _ I h) λc s1 ⟨H1,I1,q1⟩=>?_);cases c with
 |true=>exact hb wh pins s1 σ H1 Q I1 q1
 |false=>exact⟨H1,I1,q1⟩
theorem pw_or (ha:PT X a tA) (hb:PW X (.BoolOp .Or (b::rest) pos) tB'):PW X (.BoolOp .Or (a::b::rest) pos) (tOr tA tB'):=by
 intro wh pins s σ H Q I h;refine isTrue_or (thn (ha pins s σ H _ I h) λc s1 ⟨H1,I1,q1⟩=>?_);cases c with
 |true=>exact⟨H1,I1,q1⟩
 |false=>exact hb wh pins s1 σ H1 Q I1 q1
theorem Zdv (ha:PT X a tA):PT X (.UnaryOp .Not a pos) (tNot tA):=by
 intro pins s σ H Q I h;exact isTrue_not (ha pins s σ H (λc H1=>Q (!c) H1) I h)
def tAndV (ta tb:TE):TE:=λσ H Q=>ta σ H λx H1=>∃c,x=.bl c/\if c=true then tb σ H1 Q else Q (.bl false) H1
def tOrV (ta tb:TE):TE:=λσ H Q=>ta σ H λx H1=>∃c,x=.bl c/\if c=true then Q (.bl true) H1 else tb σ H1 Q
def tNotV (ta:TE):TE:=λσ H Q=>ta σ H λx H1=>∃c,x=.bl c/\Q (.bl (!c)) H1
theorem Zgd {op} {t:TE}(h:PE X a t):PE X (.BoolOp op [a] pos) t:=λpins s σ H Q I hw=>BoolOp_one (h pins s σ H Q I hw)
theorem Zfa (ha:PE X a ta) (hb:PE X (.BoolOp .And (b::rest) pos) tb):PE X (.BoolOp .And (a::b::rest) pos) (tAndV ta tb):=by
 intro pins s σ H Q I h;refine BoolOp_and (thn (ha pins s σ H _ I h) λv s1 ⟨x,H1,I1,r1,q1⟩=>?_);obtain⟨c,rfl,q1⟩:=q1;cases r1;refine wpAny_truthy_bool ?_;cases c with
 |true=>exact hb pins s1 σ H1 Q I1 q1
 |false=>exact⟨.bl false,H1,I1,rfl,q1⟩
theorem Zka (ha:PE X a ta):PE X (.UnaryOp .Not a pos) (tNotV ta):=by
 intro pins s σ H Q I h;refine UnaryOp_ (thn (ha pins s σ H _ I h) λv s1 ⟨x,H1,I1,r1,q1⟩=>?_);obtain⟨c,rfl,q1⟩:=q1;cases r1;exact not_of (wpAny_truthy_bool ⟨.bl (!c),H1,I1,rfl,q1⟩)
end
end L2
namespace L2
open PySem PySem.Spec PyProof.Rows
def SqL (K:W.Frag) (H:Hp) (a:Addr) (xs:List V):Prop:=
 Rd H a (.lst xs) ∨
  ∃(o:Obj) (its:Array Value) (n:Nat),K.lookup a=some o/\o.cls=.type "list" /\ o.dict=none/\o.data=.seq its n/\its.size<=sizeLine/\Vals xs its.toList
def SqT (K:W.Frag) (H:Hp) (a:Addr) (xs:List V):Prop:=
 Rd H a (.tup xs) ∨
  ∃(o:Obj) (its:Array Value) (n:Nat),K.lookup a=some o/\o.cls=.type "tuple" /\ o.data=.seq its n/\its.size<=sizeLine/\Vals xs its.toList
def absV:Value->Option V
 |.none=>some .non
 |.bool b=>some (.bl b)
 |.int i _=>some (.int i)
 |.str x _=>some (.str x)
 |.bytes b _=>some (.byt b)
 |.float b _=>some (.flt b)
 |.ref a=>some (.ref a)
 |.type n=>some (.ty n)
 |_=>none
theorem RelV.abs {x:V}{u:Value}(r:RelV x u):absV u=some x:=by
 cases x with
 |non=>cases r;rfl
 |bl _=>cases r;rfl
 |int _=>obtain⟨t,rfl⟩:=r;rfl
 |str _=>obtain⟨t,rfl⟩:=r;rfl
 |byt _=>obtain⟨t,rfl⟩:=r;rfl
 |flt _=>obtain⟨t,rfl⟩:=r;rfl
 |ref _=>cases r;rfl
 |ty _=>cases r;rfl
theorem RelV.inj {x y:V}{u:Value}(r:RelV x u) (q:RelV y u):x=y:=Wbd.inj (r.abs.symm.trans q.abs)
theorem Vals.inj:∀{xs ys:List V}{us:List Value},Vals xs us->Vals ys us->xs=ys
 |_,_,_,.nil,.nil=>rfl
 |_,_,_,.cons r t,.cons r' t'=>by rw[r.inj r',Vals.inj t t']
section
variable {X:Cx}{pins:List (Addr × Obj)}{σ:St}{H:Hp}{s:Shared}{a:Addr}{xs ys:List V}
theorem SqL.of {K:W.Frag}(h:H a=some (.lst xs)):SqL K H a xs:=.inl (.inl h)
theorem SqT.of {K:W.Frag}(h:H a=some (.tup xs)):SqT K H a xs:=.inl (.inl h)
theorem Inv.list (I:Inv X pins σ H s) (h:SqL X.K H a xs):∃its:List Value,Vals xs its/\PlainL s.heap a its.toArray/\xs.length<=sizeLine:=by
 rcases h with h|⟨o,its,n,hk,hc,hd,hs,hz,r⟩
 ·obtain⟨z,its,n,r,e⟩:=h.ok I.hok
  exact⟨its,r,⟨_,n,e,rfl,rfl,rfl⟩,z⟩
 ·refine⟨its.toList,r,⟨o,n,I.kIn a o hk,hc,hd,by simpa using hs⟩,?_⟩
  have e:=r.length;simp only[Array.length_toList]at e;omega
theorem Inv.tuple (I:Inv X pins σ H s) (h:SqT X.K H a xs):∃its:List Value,Vals xs its/\IsTup s.heap a its.toArray/\xs.length<=sizeLine:=by
 rcases h with h|⟨o,its,n,hk,hc,hs,hz,r⟩
 ·obtain⟨z,its,r,p⟩:=h.ok I.hok
  exact⟨its,r,p.tup,z⟩
 ·refine⟨its.toList,r,⟨o,I.kIn a o hk,hc,n,by simpa using hs⟩,?_⟩
  have e:=r.length;simp only[Array.length_toList]at e;omega
theorem Inv.list_inj (I:Inv X pins σ H s) (h:SqL X.K H a xs) (h':SqL X.K H a ys):xs=ys:=by
 obtain⟨its,r,⟨o,n,e,_,_,d⟩,_⟩:=I.list h;obtain⟨its',r',⟨o',n',e',_,_,d'⟩,_⟩:=I.list h';rw[e]at e';cases e';rw[d]at d';injection d' with d1 _
 have:its=its':=by simpa using congrArg Array.toList d1
 subst this;exact r.inj r'
theorem Inv.tuple_inj (I:Inv X pins σ H s) (h:SqT X.K H a xs) (h':SqT X.K H a ys):xs=ys:=by
 obtain⟨its,r,⟨o,e,_,n,d⟩,_⟩:=I.tuple h;obtain⟨its',r',⟨o',e',_,n',d'⟩,_⟩:=I.tuple h';rw[e]at e';cases e';rw[d]at d';injection d' with d1 _
 have:its=its':=by simpa using congrArg Array.toList d1
 subst this;exact r.inj r'
end
abbrev Cx.wish (X:Cx) (E:Value->Shared->Prop):Cx:={ X with xe:=E }
abbrev Cx.nox (X:Cx):Cx:=X.wish λ_ _=>False
theorem Cx.Ok.wish {X:Cx}(ok:X.Ok) (E:Value->Shared->Prop):(X.wish E).Ok:=
 ⟨ok.mod,ok.kind,ok.glob,ok.blt,ok.above,ok.inj,ok.has,ok.cab,ok.hd,ok.frames,ok.stk,ok.exf,ok.bs,ok.bsz,ok.noex,ok.exfs,ok.funs,ok.frf⟩
theorem Cx.Ok.unwish {X:Cx}{E:Value->Shared->Prop}(ok:(X.wish E).Ok):X.Ok:=
 ⟨ok.mod,ok.kind,ok.glob,ok.blt,ok.above,ok.inj,ok.has,ok.cab,ok.hd,ok.frames,ok.stk,ok.exf,ok.bs,ok.bsz,ok.noex,ok.exfs,ok.funs,ok.frf⟩
section
variable {X:Cx}{pins:List (Addr × Obj)}{σ:St}{H:Hp}{s:Shared}{E:Value->Shared->Prop}
theorem Inv.wish (I:Inv X pins σ H s) (E:Value->Shared->Prop):Inv (X.wish E) pins σ H s:=⟨I.ok.wish E,I.os,I.bare,I.base,I.loc,I.cell,I.free,I.freeC,I.pin,I.hok,I.len⟩
theorem Inv.unwish (I:Inv (X.wish E) pins σ H s):Inv X pins σ H s:=⟨I.ok.unwish,I.os,I.bare,I.base,I.loc,I.cell,I.free,I.freeC,I.pin,I.hok,I.len⟩
theorem SP.unwish {D:Ends}{f:Flow}{s':Shared}(h:SP (X.wish E) pins D f s'):SP X pins D f s':=by
 cases f with
 |next=>obtain⟨σ',H',I,q⟩:=h;exact⟨σ',H',I.unwish,q⟩
 |brk=>obtain⟨σ',H',I,q⟩:=h;exact⟨σ',H',I.unwish,q⟩
 |cont=>obtain⟨σ',H',I,q⟩:=h;exact⟨σ',H',I.unwish,q⟩
 |ret u=>obtain⟨v,σ',H',I,r,q⟩:=h;exact⟨v,σ',H',I.unwish,r,q⟩
theorem PSs.nox {st:List Stmt}{t:TS}(h:PSs X.nox st t):PSs X st t:=λpins s σ H D I hw=>
 wpAny_mono (h pins s σ H D (I.wish _) hw) (λ_ _ q=>q.unwish) λ_ _ z=>False.elim z
end
section
variable {X:Cx}{st:Stmt}{rest:List Stmt}{t u:TS}{e:Expr}{te:TE}{pos:Pos}
def tNext:TS:=λD σ H=>D.nx σ H
def tSeq (t u:TS):TS:=λD σ H=>t { D with nx:=u D } σ H
theorem Zav:PSs X [] tNext:=λ_ _ σ H _ I h=>wpAny_execs_nil ⟨σ,H,I,h⟩
theorem Zae (h1:PS X st t) (h2:PSs X rest u):PSs X (st::rest) (tSeq t u):=by
 intro pins s σ H D I h;refine wpAny_execs_cons (thn (h1 pins s σ H { D with nx:=u D } I h) λf s1 q=>?_);cases f with
 |next=>
  obtain⟨σ',H',I',q⟩:=q;exact h2 pins s1 σ' H' D I' q
 |ret v=>exact q
 |brk=>exact q
 |cont=>exact q
theorem Zai (h1:PS X st t):PSs X [st] t:=by
 intro pins s σ H D I h;refine wpAny_execs_cons (thn (h1 pins s σ H D I h) λf s1 q=>?_);cases f with
 |next=>exact wpAny_execs_nil q
 |ret v=>exact q
 |brk=>exact q
 |cont=>exact q
theorem Inv.quiet {pins:List (Addr × Obj)}{σ:St}{H:Hp}{s:Shared}(I:Inv X pins σ H s):interactive X.env=false:=by simp[interactive,I.ok.kind]
def tDrop (te:TE):TS:=λD σ H=>te σ H λ_ H1=>D.nx σ H1
theorem Zcr (he:PE X e te) (hs:swapsWith e none pos.line X.env=pure false:=by rfl):PS X (.Expr e pos) (tDrop te):=by
 intro pins s σ H D I h;exact wpAny_Expr_any (thn (he pins s σ H _ I h) λv s1 ⟨x,H1,I1,r1,q1⟩=>⟨σ,H1,I1,q1⟩) I.quiet hs
def tRet (te:TE):TS:=λD σ H=>te σ H D.rt
theorem Zau (he:PE X e te):PS X (.Return (some e) pos) (tRet te):=by
 intro pins s σ H D I h;exact wpAny_Return_some (thn (he pins s σ H _ I h) λv s1 ⟨x,H1,I1,r1,q1⟩=>⟨x,σ,H1,I1,r1,q1⟩)
def tIfS (c:TT) (t u:TS):TS:=λD σ H=>c σ H λb H1=>if b=true then t D σ H1 else u D σ H1
theorem Zbw {c:Expr}{a b:List Stmt}{tc:TT}(hc:PT X c tc) (ha:PSs X a t) (hb:PSs X b u):PS X (.If c a b pos) (tIfS tc t u):=by
 intro pins s σ H D I h;refine wpAny_If (thn (hc pins s σ H _ I h) λd s1 ⟨H1,I1,q1⟩=>?_);cases d with
 |true=>exact ha pins s1 σ H1 D I1 q1
 |false=>exact hb pins s1 σ H1 D I1 q1
def tNever:TS:=λ_ _ _=>False
theorem Zfr {sts:List Stmt}:PSs X sts tNever:=λ_ _ _ _ _ _ h=>h.elim
end
abbrev TG:=V->St->Hp->(St->Hp->Prop)->Prop
abbrev TGs:=List V->St->Hp->(St->Hp->Prop)->Prop
def PG (X:Cx) (target:Expr) (t:TG):Prop:=
 ∀(pins:List (Addr × Obj)) (s:Shared) (σ:St) (H:Hp) (v:V) (u:Value) (Q:St->Hp->Prop),Inv X pins σ H s->RelV v u->t v σ H Q →
  wpAny (model X.prog X.w) X.A (assign target X.env u) (λ_ s'=>∃σ' H',Inv X pins σ' H' s' /\ Q σ' H') X.xe s
def PGs (X:Cx) (ts:List Expr) (t:TGs):Prop:=
 ∀(pins:List (Addr × Obj)) (s:Shared) (σ:St) (H:Hp) (vs:List V) (us:List Value) (Q:St->Hp->Prop),Inv X pins σ H s->Vals vs us->t vs σ H Q →
  wpAny (model X.prog X.w) X.A (assignInOrder ((assignEach ts X.env).map (·.2)) us) (λ_ s'=>∃σ' H',Inv X pins σ' H' s' /\ Q σ' H') X.xe s
abbrev TSet:=V->V->V->Hp->(Hp->Prop)->Prop
def PSet (X:Cx) (t:TSet):Prop:=
 ∀(pins:List (Addr × Obj)) (s:Shared) (σ:St) (H:Hp) (o i v:V) (ov iv u:Value) (Q:Hp->Prop),Inv X pins σ H s->RelV o ov->RelV i iv->RelV v u->t o i v H Q →
  wpAny (model X.prog X.w) X.A (setItem ov iv u) (λ_ s'=>∃H',Inv X pins σ H' s' /\ Q H') X.xe s
section
variable {X:Cx}{pos:Pos}
def gName (i:Nat):TG:=λv σ H Q=>Q (σ.set i (some v)) H
theorem Zap {i:Nat}{x:Str}(hN:X.N.Nodup) (hi:X.N[i]?=some x) (hx:Loc X.env.scope x) (hf:X.fn x=true\/X.env.scope.names.lookup x=some .local:=by first|exact .inl rfl|exact .inr rfl|assumption):PG X (.Name x pos) (gName i):=by
 intro pins s σ H v u Q I r h;exact wpAny_assign_Name (Zdn I hN hi hx r (λs' I'=>⟨_,H,I',h⟩) hf)
def gNil:TGs:=λvs σ H Q=>vs=[]/\Q σ H
def gCons (t:TG) (u:TGs):TGs:=λvs σ H Q=>∃v r,vs=v::r/\t v σ H λσ' H'=>u r σ' H' Q
theorem Zg7:PGs X [] gNil:=by
 intro pins s σ H vs us Q I r h;obtain⟨e,h⟩:=h;subst e;cases r;exact assignInOrder_nil ⟨σ,H,I,h⟩
theorem Zco {e:Expr}{es:List Expr}{t:TG}{u:TGs}(h1:PG X e t) (h2:PGs X es u)
  (hs:(assignEach (e::es) X.env).map (·.2)=assign e X.env::(assignEach es X.env).map (·.2):=by rfl):PGs X (e::es) (gCons t u):=by
 intro pins s σ H vs us Q I r h;obtain⟨v,vr,e1,h⟩:=h;subst e1;cases r with
 |cons r rr=>
  rw[hs];refine assignInOrder_cons (thn (h1 pins s σ H _ _ _ I r h) λ_ s1 ⟨σ1,H1,I1,q1⟩=>?_);exact h2 pins s1 σ1 H1 _ _ Q I1 rr q1
def gTup (K:W.Frag) (n:Nat) (t:TGs):TG:=λv σ H Q=>∃a xs,v=.ref a/\SqT K H a xs/\xs.length=n/\t xs σ H Q
theorem Zsc {es:List Expr}{k:Nat}{t:TGs}{n:Nat}(hc:X.calm=true) (h:PGs X es t)
  (hn:(assignEach es X.env).length=n:=by rfl) (hst:(assignEach es X.env).findIdx? (·.1)=none:=by rfl):PG X (.Tuple es k pos) (gTup X.K n t):=by
 intro pins s σ H v u Q I r hw;obtain⟨a,xs,e1,hq,hl,hw⟩:=hw;subst e1;cases r;obtain⟨its,rv,ht,hz⟩:=I.tuple hq;refine assign_Tuple_tuple (I.ok.hd hc) ht (by simp[hn,<- hl,rv.length]) hst λh' hx=>?_;have I1:Inv X pins σ H { s with heap:=h' }:=I.kept (t':=s.toks) λb o e=>hx b o (Way (War e)) e;exact h pins _ σ H xs _ Q I1 (by simpa using rv) hw
def gSub (to ti:TE) (t:TSet):TG:=λv σ H Q=>to σ H λo H1=>ti σ H1 λi H2=>t o i v H2 λH3=>Q σ H3
theorem Zgl {o i:Expr}{to ti:TE}{t:TSet}(ho:PE X o to) (hi:PE X i ti) (hs:PSet X t)
  (ha:∀v,assign (.Subscript o i pos) X.env v=(do
   let ov ← holding [v] (eval o X.env)
   let iv ← holding [v,ov] (eval i X.env)
   standAt pos
   holding [v,ov,iv] (setItem ov iv v)
   release [v,ov,iv] []):=by intro _;rfl):PG X (.Subscript o i pos) (gSub to ti t):=by
 intro pins s σ H v u Q I r h;rw[ha];refine wpAny_bind (wpAny_holding (thn (ho pins s σ H _ I h) λov s1 ⟨x,H1,I1,r1,q1⟩=>?_));refine wpAny_bind (wpAny_holding (thn (hi pins s1 σ H1 _ I1 q1) λiv s2 ⟨y,H2,I2,r2,q2⟩=>?_));refine wpAny_bind (wpAny_standAt (wpAny_bind (wpAny_holding (thn (hs pins s2 σ H2 x y v ov iv u _ I2 r1 r2 r q2) λ_ s3 ⟨H3,I3,q3⟩=>?_))));exact wpAny_release ⟨σ,H3,I3,q3⟩
def tAsg (te:TE) (g:TG):TS:=λD σ H=>te σ H λx H1=>g x σ H1 D.nx
theorem Zfc {tg e:Expr}{te:TE}{g:TG}(he:PE X e te) (hg:PG X tg g) (hs:swapsWithSole [tg] e pos.line X.env=pure false:=by rfl) (hw:swappedStores [tg] e X.env=pure none:=by rfl)
  (h1:(assignEach [tg] X.env).map (·.2)=[assign tg X.env]:=by rfl):PS X (.Assign [tg] e pos) (tAsg te g):=by
 intro pins s σ H D I h;refine wpAny_Assign_stores (thn (he pins s σ H _ I h) λv s1 ⟨x,H1,I1,r1,q1⟩=>?_) hs hw;rw[h1];exact thn (hg pins s1 σ H1 x v _ I1 r1 q1) λ_ s2 q=>q
theorem Zan {i:Nat}{x:Str}{e:Expr}{te:TE}{pos':Pos}(hN:X.N.Nodup) (hi:X.N[i]?=some x) (hx:Loc X.env.scope x) (he:PE X e te) (hs:swapsWith e (some (.Name x pos')) pos.line X.env=pure false:=by rfl) (hf:X.fn x=true\/X.env.scope.names.lookup x=some .local:=by first|exact .inl rfl|exact .inr rfl|assumption) :
  PS X (.Assign [.Name x pos'] e pos) (tAsg te (gName i)):=by
 intro pins s σ H D I h;refine wpAny_Assign_Name (thn (he pins s σ H _ I h) λv s1 ⟨y,H1,I1,r1,q1⟩=>?_) hs;exact Zdn I1 hN hi hx r1 (λs2 I2=>⟨_,H1,I2,q1⟩) hf
def tPar (i j:Nat) (ta:TA):TS:=λD σ H=>ta σ H λvs H1=>∃v w,vs=[v,w]/\D.nx ((σ.set i (some v)).set j (some w)) H1
theorem Zjv {i j:Nat}{x y:Str}{a b:Expr}{ta:TA}{px py pt:Pos}{kt k2 pt2} (hc:X.calm=true) (hN:X.N.Nodup) (hi:X.N[i]?=some x) (hj:X.N[j]?=some y) (hij:i≠j)
  (hx:X.env.scope.names.lookup x=some .local) (hy:X.env.scope.names.lookup y=some .local) (ha:PA X [a,b] ta)
  (hw:swappedStores [.Tuple [.Name x px,.Name y py] kt pt] (.Tuple [a,b] k2 pt2) X.env=pure (some [x,y]))
  (hs:swapsWithSole [.Tuple [.Name x px,.Name y py] kt pt] (.Tuple [a,b] k2 pt2) pos.line X.env=pure false:=by rfl) :
  PS X (.Assign [.Tuple [.Name x px,.Name y py] kt pt] (.Tuple [a,b] k2 pt2) pos) (tPar i j ta):=by
 intro pins s σ H D I h;rw[exec_Assign_arm];refine wpAny_bind (wpAny_standAt ?_);rw[hs];refine wpAny_bind (wpAny_pure ?_);rw[if_neg (by decide)];refine wpAny_bind (Tuple_ (thn (ha _ pins s σ H _ I h) λus s1 ⟨vs,H1,I1,r1,q1⟩=>?_));obtain⟨v,w,e1,q1⟩:=q1;subst e1;obtain⟨u1,u2,rfl,rv,rw'⟩:∃u1 u2,us=[u1,u2]/\RelV v u1/\RelV w u2:=by
  cases r1 with
  |cons p q=>
   cases q with
   |cons p' q'=>
    cases q';exact⟨_,_,rfl,p,p'⟩
 refine wpAny_newObj_type ?_ (by show 2<=sizeLine;decide);have I2:Inv X pins σ H1 { s1 with heap:=s1.heap.push { cls:=.type "tuple",data:=.seq [u1,u2].toArray } }:=I1.kept (t':=s1.toks) λb o e=>Wac _ e;rw[hw];refine wpAny_bind (wpAny_pure ?_);show wpAny (model X.prog X.w) X.A (do rule "assign.swapped-stores";let items ← unpackItems (.ref s1.heap.objs.size) 2 none;assignInOrder [λv=>bindName X.env y v,λv=>bindName X.env x v] items.reverse;pure Flow.next) _ _ _;refine wpAny_bind (wpAny_rule (wpAny_bind (unpackItems_tuple (items:=#[u1,u2]) (I.ok.hd hc) (IsTup.new s1.heap _) λh' hx'=>?_)));have I3:=I2.kept (h':=h') (t':=s1.toks) λb o e=>hx' b o (Way (War e)) e;show wpAny _ _ (assignInOrder [λv=>bindName X.env y v,λv=>bindName X.env x v] [u2,u1] >>= λ_=>pure Flow.next) _ _ _;refine wpAny_bind (assignInOrder_cons (wpAny_bindName (Zdn I3 hN hj (.inl hy) rw' (λs2 I4=>?_) (.inr hy))));refine assignInOrder_cons (wpAny_bindName (Zdn I4 hN hi (.inl hx) rv (λs3 I5=>assignInOrder_nil (wpAny_pure ?_)) (.inr hx)));rw[List.set_comm _ _ (Ne.symm hij)]at I5;exact⟨_,H1,I5,q1⟩
def tWhile (c:TT) (tb:TS):TS:=λD σ H=>∃W:Nat->St->Hp->Prop,(∃m,W m σ H)/\∀m σ H,W m σ H →
 c σ H λb H1=>if b=true then ∃N:St->Hp->Prop,(∀σ' H',N σ' H' -> ∃m',m'<m/\W m' σ' H')/\tb { D with nx:=N,ct:=N,bk:=D.nx } σ H1 else D.nx σ H1
theorem Zj0 {c:Expr}{body:List Stmt}{tc:TT}{tb:TS}(hp:PassesOwn (model X.prog X.w) X.A X.env X.xe) (hc:PT X c tc) (hb:PSs X body tb):PS X (.While c body [] pos) (tWhile tc tb):=by
 intro pins s σ H D I h;obtain⟨W,⟨m0,w0⟩,turn⟩:=h;refine wpAny_While (codeAny_whileLoop (λn s'=>∃σ' H',Inv X pins σ' H' s' /\ W n σ' H') ?_ m0 ⟨σ,H,I,w0⟩);rintro n s1 ⟨σ1,H1,I1,w1⟩;refine wpAny_passesOwn hp (thn (hc pins s1 σ1 H1 _ I1 (turn n σ1 H1 w1)) λb s2 ⟨H2,I2,q2⟩=>?_);cases b with
 |true=>
  obtain⟨N,hN,q2⟩:=q2;rw[if_pos rfl];refine wpAny_passesOwn hp (thn (hb pins s2 σ1 H2 _ I2 q2) λf s3 q3=>?_);cases f with
  |next=>
   obtain⟨σ3,H3,I3,n3⟩:=q3;obtain⟨m',hm,w3⟩:=hN σ3 H3 n3;exact⟨m',hm,σ3,H3,I3,w3⟩
  |cont=>
   obtain⟨σ3,H3,I3,n3⟩:=q3;obtain⟨m',hm,w3⟩:=hN σ3 H3 n3;exact⟨m',hm,σ3,H3,I3,w3⟩
  |brk=>exact q3
  |ret v=>exact q3
 |false=>
  rw[if_neg Waj];exact wpAny_execs_nil ⟨σ1,H2,I2,q2⟩
end
structure It where
 go:Nat->Hp->Prop
 yld:Nat->Hp->V->Hp->Prop
 stop:Nat->Hp->Prop
def FpOk (X:Cx) (pins:List (Addr × Obj)) (H:Hp) (b:Addr):Prop:=
 H b=none/\b≠X.env.locals/\b ∉ X.fs/\(b∈X.ex\/X.s₀.heap.objs.size<=b)/\(∀x c,X.env.cells.lookup x=some c->c≠b)/\∀p∈X.pn++pins,p.1≠b
theorem Inv.fpOk {X:Cx}{pins:List (Addr × Obj)}{σ:St}{H H':Hp}{s:Shared}{b:Addr}(I:Inv X pins σ H s) (hb:s.heap.objs.size<=b) (hn:H' b=none):FpOk X pins H' b:=by
 refine⟨hn,Wdh (Wa9 I.lt hb),I.nofs hb,.inr (Wbq I.sz hb),λx c e z=>?_,λp hp z=>?_⟩
 ·obtain⟨v,q⟩:=I.cell x c e
  exact absurd (Wa9 q.lt (by rw[z];exact hb)) (Wc0 _)
 ·exact absurd (Wa9 (War (I.pin p hp).1) (by rw[z];exact hb)) (Wc0 _)
structure TurnG (Cm:Cx->Prop) (P:Program) (w:World) (K:W.Frag) (tg:Expr) (J:It) (fp:List Addr) (it:Addr) (tn:Nat->Heap->Prop):Prop where
 mem:it∈fp
 obj:∀i h,tn i h->∀b∈fp,∃o,h.get? b=some o/\∀v,o.data≠.cell v
 keep:∀i h h',tn i h->(∀b∈fp,∀o,h.get? b=some o->h'.get? b=some o)->tn i h'
 item:∀(X:Cx),X.prog=P->X.w=w->X.K=K->Cm X->∀(i:Nat) (pins:List (Addr × Obj)) (s:Shared) (σ:St) (H:Hp) (E:Value->Shared->Prop),Inv X pins σ H s->(∀b∈fp,FpOk X pins H b)->tn i s.heap->J.go i H →
  wpAny (model P w) X.A (pyNext (.ref it)) (λr s1=>∃u,r=some u ∧
   wpAny (model P w) X.A (letOwnedTupleGo tg (.ref it) u) (λ_ s2=>∃x H',Inv X pins σ H' s2/\RelV x u/\J.yld i H x H' /\ tn (i+1) s2.heap/\∀b∈fp,H' b=none) E s1) E s
 done:∀(X:Cx),X.prog=P->X.w=w->X.K=K->Cm X->∀(i:Nat) (pins:List (Addr × Obj)) (s:Shared) (σ:St) (H:Hp) (E:Value->Shared->Prop),Inv X pins σ H s->(∀b∈fp,FpOk X pins H b)->tn i s.heap->J.stop i H →
  wpAny (model P w) X.A (pyNext (.ref it)) (λr s1=>r=none/\Inv X pins σ H s1) E s
 self:∀(A:Around) (i:Nat) (s:Shared) (Q:Value->Shared->Prop) (E:Value->Shared->Prop),tn i s.heap->Q (.ref it) s->wpAny (model P w) A (pyIter (.ref it)) Q E s
abbrev Turn:=TurnG λX=>X.calm=true
abbrev TI:=St->Hp->(It->Hp->Prop)->Prop
def PIEG (Cm:Cx->Prop) (X:Cx) (pins:List (Addr × Obj)) (σ:St) (tg:Expr) (R:It->Hp->Prop) (itv:Value) (s2:Shared):Prop:=
 ∃(it:Addr) (fp:List Addr) (tn:Nat->Heap->Prop) (J:It) (H':Hp),itv=.ref it/\Inv X pins σ H' s2/\TurnG Cm X.prog X.w X.K tg J fp it tn/\tn 0 s2.heap/\(∀b∈fp,FpOk X pins H' b)/\R J H'
def PIG (Cm:Cx->Prop) (X:Cx) (tg iter:Expr) (wi:TI):Prop:=
 ∀(pins:List (Addr × Obj)) (s:Shared) (σ:St) (H:Hp) (R:It->Hp->Prop),Inv X pins σ H s->wi σ H R →
  wpAny (model X.prog X.w) X.A (eval iter X.env) (λv s1=>wpAny (model X.prog X.w) X.A (pyIter v) (PIEG Cm X pins σ tg R) X.xe s1) X.xe s
abbrev PIE:=PIEG λX=>X.calm=true
abbrev PI:=PIG λX=>X.calm=true
theorem Zoy {M:Model}{A:Around}{E:Value->Shared->Prop}{s:Shared}{tg:Expr}{it:Addr}{u:Value}{o:Obj}{n:String}{vs:Array Value}{Q:Unit->Shared->Prop}(ho:s.heap.get? it=some o) (hc:o.cls=.type n) (hd:o.data=.fields vs)
  (hn:["enumerate","zip","dict_itemiterator","dict_reverseitemiterator","odict_iterator","itertools.zip_longest","itertools.pairwise"].contains n=false) (hQ:Q () s):wpAny M A (letOwnedTupleGo tg (.ref it) u) Q E s:=by
 unfold letOwnedTupleGo;cases tg <;> first
  |exact wpAny_pure hQ
  | (cases u <;> first
      |exact wpAny_pure hQ
      | (refine wpAny_bind (wpAny_load ho ?_)
         rw[hc,hd];show wpAny M A (if (["enumerate","zip","dict_itemiterator","dict_reverseitemiterator","odict_iterator","itertools.zip_longest","itertools.pairwise"].contains n && vs[0]? == some (rawInt _))=true then _ else _) Q E s;rw[if_neg (by intro h;rw[hn,Bool.false_and]at h;cases h)];exact wpAny_pure hQ))
def Itl (K:W.Frag) (a:Addr):It:=
 ⟨λi H=>∃xs x,SqL K H a xs/\xs[i]?=some x,λi H x H'=>H'=H/\∀xs,SqL K H a xs->xs[i]?=some x,λi H=>∃xs,SqL K H a xs/\xs.length<=i⟩
def Itt (K:W.Frag) (a:Addr):It:=
 ⟨λi H=>∃xs x,SqT K H a xs/\xs[i]?=some x,λi H x H'=>H'=H/\∀xs,SqT K H a xs->xs[i]?=some x,λi H=>∃xs,SqT K H a xs/\xs.length<=i⟩
def Itr (lo:Int) (n:Nat):It:=⟨λi _=>i<n,λi H x H'=>H'=H/\x=.int (lo+i),λi _=>n<=i⟩
theorem Znf {P:Program}{w:World}{K:W.Frag}{tg:Expr}(a it:Addr):Turn P w K tg (Itl K a) [it] it (λi h=>h.IsListIter it a i) where
 mem:=by simp
 obj:=λi h st b hb=>by
  have e:b=it:=by simpa using hb
  subst e;obtain⟨o,e,c,d⟩:=st;exact⟨o,e,λv z=>by rw[d]at z;cases z⟩
 keep:=λi h h' st k=>st.at λo e=>k it (by simp) o e
 item:=by
  intro X hP hw hK hc i pins s σ H E I hf st hg;subst hP hw hK;obtain⟨xs,x,hq,hx⟩:=hg;obtain⟨its,rv,p,hz⟩:=I.list hq;obtain⟨u,hu,ru⟩:=rv.get hx;obtain⟨f0,f1,f2,f3,f4,f5⟩:=hf it (by simp);refine wpAny_pyNext_list_item st p.isList (x:=u) (by simpa using hu) λh' st' sb=>?_;have I1:Inv X pins σ H { s with heap:=h' }:=I.turned (t':=s.toks) (λb o hb e=>(sb.2 b hb).trans e) f0 f1 f3 f4 f5;obtain⟨o,e,c,d⟩:=id st';exact⟨u,rfl,Zoy (s:={ s with heap:=h' }) e c d (by decide) ⟨x,H,I1,ru,⟨rfl,λys hy=>by rw[I.list_inj hy hq];exact hx⟩,st',λb hb=>(hf b hb).1⟩⟩
 done:=by
  intro X hP hw hK hc i pins s σ H E I hf st hg;subst hP hw hK;obtain⟨xs,hq,hx⟩:=hg;obtain⟨its,rv,p,hz⟩:=I.list hq;obtain⟨f0,f1,f2,f3,f4,f5⟩:=hf it (by simp);have hl:=rv.length;exact wpAny_pyNext_list_end (I.ok.hd hc) st p.isList (by simp;omega) λh' eb=>⟨rfl,I.turned (t':=s.toks) (λb o hb e=>eb b o hb e) f0 f1 f3 f4 f5⟩
 self:=λ_ _ _ _ _ st h=>wpAny_pyIter_listiter st h
theorem Zkp {P:Program}{w:World}{K:W.Frag}{tg:Expr}(a it:Addr):Turn P w K tg (Itt K a) [it] it (λi h=>h.IsTupleIter it a i) where
 mem:=by simp
 obj:=λi h st b hb=>by
  have e:b=it:=by simpa using hb
  subst e;obtain⟨o,e,c,d⟩:=st;exact⟨o,e,λv z=>by rw[d]at z;cases z⟩
 keep:=λi h h' st k=>st.at λo e=>k it (by simp) o e
 item:=by
  intro X hP hw hK hc i pins s σ H E I hf st hg;subst hP hw hK;obtain⟨xs,x,hq,hx⟩:=hg;obtain⟨its,rv,p,hz⟩:=I.tuple hq;obtain⟨u,hu,ru⟩:=rv.get hx;obtain⟨f0,f1,f2,f3,f4,f5⟩:=hf it (by simp);refine wpAny_pyNext_tuple_item st (show s.heap.IsTuple a its.toArray from p) (x:=u) (by simpa using hu) λh' st' sb=>?_;have I1:Inv X pins σ H { s with heap:=h' }:=I.turned (t':=s.toks) (λb o hb e=>(sb.2 b hb).trans e) f0 f1 f3 f4 f5;obtain⟨o,e,c,d⟩:=id st';exact⟨u,rfl,Zoy (s:={ s with heap:=h' }) e c d (by decide) ⟨x,H,I1,ru,⟨rfl,λys hy=>by rw[I.tuple_inj hy hq];exact hx⟩,st',λb hb=>(hf b hb).1⟩⟩
 done:=by
  intro X hP hw hK hc i pins s σ H E I hf st hg;subst hP hw hK;obtain⟨xs,hq,hx⟩:=hg;obtain⟨its,rv,p,hz⟩:=I.tuple hq;obtain⟨f0,f1,f2,f3,f4,f5⟩:=hf it (by simp);have hl:=rv.length;exact wpAny_pyNext_tuple_end (I.ok.hd hc) st (show s.heap.IsTuple a its.toArray from p) (by simp;omega) λh' eb=>⟨rfl,I.turned (t':=s.toks) (λb o hb e=>eb b o hb e) f0 f1 f3 f4 f5⟩
 self:=λ_ _ _ _ _ st h=>wpAny_pyIter_tupleiter st h
theorem Zkj {P:Program}{w:World}{K:W.Frag}{tg:Expr}(it:Addr) (lo:Int) (n:Nat):Turn P w K tg (Itr lo n) [it] it (λi h=>IsRangeIter h it (lo+(i:Nat)*1) ((n:Int)-(i:Nat)) 1) where
 mem:=by simp
 obj:=λi h st b hb=>by
  have e:b=it:=by simpa using hb
  subst e;exact⟨_,st,λv z=>by
   have z':Data.fields _=Data.cell v:=z;cases z'⟩
 keep:=λi h h' st k=>k it (by simp) _ st
 item:=by
  intro X hP hw hK hc i pins s σ H E I hf st hg;subst hP hw hK;obtain⟨f0,f1,f2,f3,f4,f5⟩:=hf it (by simp);have W:=Walks.range (prog:=X.prog) (w:=X.w) (I.ok.hd hc) it lo 1 n;refine W.item i s _ _ hg st λv h' tk hv st' kk=>?_;obtain⟨t,rfl⟩:=hv;have I1:Inv X pins σ H { s with heap:=h',toks:=tk }:=I.turned (λb o hb e=>kk b o (by simpa using hb) e) f0 f1 f3 f4 f5;refine⟨_,rfl,Zoy (s:={ s with heap:=h',toks:=tk }) (n:="range_iterator") st' rfl rfl (by decide) ⟨.int (lo+i),H,I1,⟨t,?_⟩,⟨rfl,rfl⟩,st',λb hb=>(hf b hb).1⟩⟩;rw[Int.mul_one]
 done:=by
  intro X hP hw hK hc i pins s σ H E I hf st hg;subst hP hw hK;obtain⟨f0,f1,f2,f3,f4,f5⟩:=hf it (by simp);exact wpAny_pyNext_range_end (I.ok.hd hc) st (by have:n<=i:=hg;omega) λh' eb=>⟨rfl,I.turned (t':=s.toks) (λb o hb e=>eb b o hb e) f0 f1 f3 f4 f5⟩
 self:=λ_ _ _ _ _ st h=>wpAny_pyIter_rangeiter st h
end L2
namespace L2
open PySem PySem.Spec PyProof.Rows
section
variable {X:Cx}{tg:Expr}
def iList (K:W.Frag) (tl:TE):TI:=λσ H R=>tl σ H λx H1=>∃a,x=.ref a/\(∃xs,SqL K H1 a xs)/\R (Itl K a) H1
def iTup (K:W.Frag) (tl:TE):TI:=λσ H R=>tl σ H λx H1=>∃a,x=.ref a/\(∃xs,SqT K H1 a xs)/\R (Itt K a) H1
theorem Zri {l:Expr}{tl:TE}(hl:PE X l tl):PI X tg l (iList X.K tl):=by
 intro pins s σ H R I h;refine thn (hl pins s σ H _ I h) λv s1 ⟨x,H1,I1,r1,q1⟩=>?_;obtain⟨a,e,⟨xs,hq⟩,q⟩:=q1;subst e;cases r1;obtain⟨its,rv,p,hz⟩:=I1.list hq;refine wpAny_pyIter_list p.isList ?_;refine⟨s1.heap.objs.size,[s1.heap.objs.size],_,_,H1,rfl,I1.kept (t':=s1.toks) λb o e=>Wac _ e,Znf a _,⟨_,Wao _ rfl,rfl,rfl⟩,λb hb=>?_,q⟩;have e:b=s1.heap.objs.size:=by simpa using hb
 subst e;exact I1.fpOk (Wah _) (I1.hok.fresh (Wah _))
theorem Ztl {l:Expr}{tl:TE}(hl:PE X l tl):PI X tg l (iTup X.K tl):=by
 intro pins s σ H R I h;refine thn (hl pins s σ H _ I h) λv s1 ⟨x,H1,I1,r1,q1⟩=>?_;obtain⟨a,e,⟨xs,hq⟩,q⟩:=q1;subst e;cases r1;obtain⟨its,rv,p,hz⟩:=I1.tuple hq;refine wpAny_pyIter_tuple (show s1.heap.IsTuple a its.toArray from p) ?_;refine⟨s1.heap.objs.size,[s1.heap.objs.size],_,_,H1,rfl,I1.kept (t':=s1.toks) λb o e=>Wac _ e,Zkp a _,⟨_,Wao _ rfl,rfl,rfl⟩,λb hb=>?_,q⟩;have e:b=s1.heap.objs.size:=by simpa using hb
 subst e;exact I1.fpOk (Wah _) (I1.hok.fresh (Wah _))
theorem range_it {pins:List (Addr × Obj)}{σ:St}{H:Hp}{s:Shared}{R:It->Hp->Prop}{E:Value->Shared->Prop}{lo hi:Int}{t u v:Tok}{tk:Nat}(I:Inv X pins σ H s) (h1:-(2 ^ 62)<=lo) (h2:lo<2 ^ 62) (h3:-(2 ^ 62)<=hi) (h4:hi<2 ^ 62)
  (q:R (Itr lo (hi-lo).toNat) H):wpAny (model X.prog X.w) X.A (pyIter (.ref s.heap.objs.size)) (PIE X pins σ tg R) E { s with heap:=s.heap.push { cls:=.type "range",data:=.fields #[.int lo t,.int hi u,.int 1 v] },toks:=tk }:=by
 refine wpAny_pyIter_range (IsRange.new ..) (small_one h1 h2 h3 h4) ?_;have I1:Inv X pins σ H { s with heap:=s.heap.push { cls:=.type "range",data:=.fields #[.int lo t,.int hi u,.int 1 v] },toks:=tk }:=I.kept λb o e=>Wac _ e;refine⟨(s.heap.push { cls:=.type "range",data:=.fields #[.int lo t,.int hi u,.int 1 v] }).objs.size,[(s.heap.push { cls:=.type "range",data:=.fields #[.int lo t,.int hi u,.int 1 v] }).objs.size],_,_,H,rfl,
  I1.kept (t':=tk) λb o e=>Wac _ e,Zkj _ lo (hi-lo).toNat,?_,λb hb=>?_,q⟩
 ·have e1:lo+((0:Nat):Int)*1=lo:=by simp
  have e2:(((hi-lo).toNat:Nat):Int)-((0:Nat):Int)=Builtin.Range.rangeSize lo hi 1:=by rw[rangeSize_one];split <;> omega
  show IsRangeIter _ _ (lo+((0:Nat):Int)*1) ((((hi-lo).toNat:Nat):Int)-((0:Nat):Int)) 1;rw[e1,e2];exact Wao _ rfl
 ·have e:b=(s.heap.push { cls:=.type "range",data:=.fields #[.int lo t,.int hi u,.int 1 v] }).objs.size:=by simpa using hb
  subst e;exact I1.fpOk (Wah _) (I1.hok.fresh (Wah _))
def iRng1 (ta:TA):TI:=λσ H R=>ta σ H λvs H1=>∃j:Int,vs=[.int j] /\ -(2 ^ 62)<=j/\j<2 ^ 62/\R (Itr 0 j.toNat) H1
theorem Zbj {a:Expr}{ta:TA}{p pos:Pos}(hg:Gl X "range") (hm:X.mg "range" = none) (ha:PA X [a] ta) (hs:starEach [a] X.env=[(false,eval a X.env)]:=by rfl):PI X tg (.Call (.Name "range" p) [a] [] pos) (iRng1 ta):=by
 intro pins s σ H R I h;refine Call_ (Zdu I hg hm boot_range (PyProof.Rows.callWith_type1 (thn (ha pos pins s σ H _ I h) λus s1 ⟨vs,H1,I1,r1,q1⟩=>?_) hs rfl));obtain⟨j,e,q1,q2,q⟩:=q1;subst e;cases r1 with
 |cons r rr=>
  cases rr;obtain⟨t,rfl⟩:=r;exact call_range_1 (range_it I1 (by omega) (by omega) q1 q2 (by simpa using q))
def tFor (wi:TI) (g:TG) (tb:TS):TS:=λD σ H=>wi σ H λJ H1=>∃W:Nat->Nat->St->Hp->Prop,(∃m,W 0 m σ H1)/\∀i m σ H,W i m σ H →
 (J.stop i H/\D.nx σ H)\/(J.go i H/\∃N:St->Hp->Prop,(∀σ' H',N σ' H' -> ∃m',m'<m/\W (i+1) m' σ' H')/\∀x H',J.yld i H x H' -> g x σ H' λσ2 H2=>tb { D with nx:=N,ct:=N,bk:=D.nx } σ2 H2)
def pinsAt (fp:List Addr) (h:Heap):List (Addr × Obj):=fp.filterMap λb=>(h.get? b).map λo=>(b,o)
theorem Zcd {fp:List Addr}{h:Heap}{b:Addr}{o:Obj}(hb:b∈fp) (e:h.get? b=some o):(b,o)∈pinsAt fp h:=List.mem_filterMap.mpr ⟨b,hb,by rw[e];rfl⟩
theorem Zm9 {fp:List Addr}{h:Heap}{p:Addr × Obj}(hp:p∈pinsAt fp h):p.1∈fp/\h.get? p.1=some p.2:=by
 obtain⟨b,hb,e⟩:=List.mem_filterMap.mp hp;cases q:h.get? b with
 |none=>rw[q]at e;cases e
 |some o=>
  rw[q]at e;have e':(b,o)=p:=Wbd.inj e;subst e';exact⟨hb,q⟩
theorem Inv.pinned {pins:List (Addr × Obj)}{σ:St}{H:Hp}{s:Shared}{fp:List Addr}(I:Inv X pins σ H s) (hf:∀b∈fp,FpOk X pins H b) (ho:∀b∈fp,∃o,s.heap.get? b=some o/\∀v,o.data≠.cell v):Inv X (pins++pinsAt fp s.heap) σ H s:=
 I.pins_of λp hp=>(Wbo.mp hp).elim (λz=>I.pin p (Wa0 _ z)) λz=>by
  obtain⟨hb,e⟩:=Zm9 z;obtain⟨f0,f1,f2,_⟩:=hf p.1 hb;obtain⟨o,e',d⟩:=ho p.1 hb;rw[e]at e';cases e';exact⟨e,f0,f1,f2,d⟩
theorem Inv.unpinned {pins pl:List (Addr × Obj)}{σ:St}{H:Hp}{s:Shared}(I:Inv X (pins++pl) σ H s):Inv X pins σ H s:=I.pins_of λp hp=>I.pin p (Wa0 _ (Wcj _ hp))
theorem Zde {iter:Expr}{body:List Stmt}{wi:TI}{g:TG}{tb:TS}{pos:Pos}(hp:PassesOwn (model X.prog X.w) X.A X.env X.xe) (hc:X.calm=true) (hi:PI X tg iter wi) (hg:PG X tg g) (hb:PSs X body tb)
  (hs:∀x,foldedSetIterable iter X.env x=pure x:=by intro _;rfl):PS X (.For tg iter body [] pos) (tFor wi g tb):=by
 intro pins s σ H D I h;refine wpAny_For (thn (hi pins s σ H _ I h) λv s1 h1=>thn h1 λitv s2 h2=>?_) hs;obtain⟨it,fp,tn,J,H2,e,I2,T,st2,f2,W,⟨m0,w0⟩,turn⟩:=h2;subst e
 -- what stays true of the iterator's objects through the loop
 have stat:∀{H':Hp},(∀b∈fp,H' b=none)->∀b∈fp,FpOk X pins H' b:=λhn b hb=>⟨hn b hb,(f2 b hb).2⟩;refine codeAny_forLoop_any (λn s'=>∃i σ' H',Inv X pins σ' H' s' /\ tn i s'.heap/\(∀b∈fp,H' b=none)/\W i n σ' H') ?_ m0 ⟨0,σ,H2,I2,st2,λb hb=>(f2 b hb).1,w0⟩;rintro n s3 ⟨i,σ3,H3,I3,st3,fr3,w3⟩;rcases turn i n σ3 H3 w3 with ⟨stop,qn⟩|⟨go,N,hN,step⟩
 ·refine wpAny_passesOwn hp (thn (T.done X rfl rfl rfl hc i pins s3 σ3 H3 X.xe I3 (stat fr3) st3 stop) λr s4 ⟨hr,I4⟩=>?_)
  subst hr;exact wpAny_execs_nil ⟨σ3,H3,I4,qn⟩
 ·refine wpAny_passesOwn hp (thn (T.item X rfl rfl rfl hc i pins s3 σ3 H3 X.xe I3 (stat fr3) st3 go) λr s4 ⟨u,hr,h4⟩=>?_)
  subst hr;refine wpAny_passesOwn hp (thn h4 λ_ s5 ⟨x,H5,I5,r5,y5,st5,fr5⟩=>?_);have I5':=I5.pinned (stat fr5) (T.obj _ _ st5);refine wpAny_passesOwn hp (thn (hg _ s5 σ3 H5 x u _ I5' r5 (step x H5 y5)) λ_ s6 ⟨σ6,H6,I6,q6⟩=>?_);refine wpAny_passesOwn hp (thn (hb _ s6 σ6 H6 _ I6 q6) λf s7 q7=>?_);have again:∀{σ7:St}{H7:Hp},Inv X (pins++pinsAt fp s5.heap) σ7 H7 s7->N σ7 H7->∃m,m<n/\∃i σ' H',Inv X pins σ' H' s7/\tn i s7.heap/\(∀b∈fp,H' b=none)/\W i m σ' H':=λ{σ7 H7} I7 n7=>by
   obtain⟨m',hm,w7⟩:=hN σ7 H7 n7;refine⟨m',hm,i+1,σ7,H7,I7.unpinned,T.keep _ _ _ st5 λb hb o e=>(I7.pin (b,o) (Wa0 _ (Wa0 _ (Zcd hb e)))).1,λb hb=>?_,w7⟩;obtain⟨o,e,d⟩:=T.obj _ _ st5 b hb;exact(I7.pin (b,o) (Wa0 _ (Wa0 _ (Zcd hb e)))).2.1
  cases f with
  |next=>obtain⟨σ7,H7,I7,n7⟩:=q7;exact again I7 n7
  |cont=>obtain⟨σ7,H7,I7,n7⟩:=q7;exact again I7 n7
  |brk=>obtain⟨σ7,H7,I7,q7⟩:=q7;exact⟨σ7,H7,I7.unpinned,q7⟩
  |ret v=>obtain⟨x7,σ7,H7,I7,r7,q7⟩:=q7;exact⟨x7,σ7,H7,I7.unpinned,r7,q7⟩
end
end L2
namespace L2
open PySem PySem.Spec PyProof.Rows
abbrev R2:=V->V->Hp->VK->Prop
def OpR (X:Cx) (f:Value->Value->Sem Value) (r:R2):Prop:=
 ∀(pins:List (Addr × Obj)) (s:Shared) (σ:St) (H:Hp) (x y:V) (v u:Value) (Q:VK),Inv X pins σ H s->RelV x v->RelV y u->r x y H Q →
  wpAny (model X.prog X.w) X.A (f v u) (EP X pins σ Q) X.xe s
def CallR (X:Cx) (f:Value) (r:List V->Hp->VK->Prop):Prop:=
 ∀(pins:List (Addr × Obj)) (s:Shared) (σ:St) (H:Hp) (xs:List V) (us:List Value) (Q:VK),Inv X pins σ H s->Vals xs us->r xs H Q →
  wpAny (model X.prog X.w) X.A (call f us) (EP X pins σ Q) X.xe s
def TruR (X:Cx) (r:V->Hp->(Bool->Hp->Prop)->Prop):Prop:=
 ∀(pins:List (Addr × Obj)) (s:Shared) (σ:St) (H:Hp) (x:V) (v:Value) (Q:Bool->Hp->Prop),Inv X pins σ H s->RelV x v->r x H Q →
  wpAny (model X.prog X.w) X.A (truthy v) (TP X pins σ Q) X.xe s
def tOp (r:R2) (ta tb:TE):TE:=λσ H Q=>ta σ H λx H1=>tb σ H1 λy H2=>r x y H2 Q
def tUn (r:V->Hp->VK->Prop) (ta:TE):TE:=λσ H Q=>ta σ H λx H1=>r x H1 Q
def rI (C:Int->Int->Prop) (g:Int->Int->V):R2:=λx y H Q=>∃i j,x=.int i/\y=.int j/\C i j/\Q (g i j) H
def rI0 (g:Int->Int->V):R2:=λx y H Q=>∃i j,x=.int i/\y=.int j/\Q (g i j) H
section
variable {X:Cx}{a b c:Expr}{ta tb tc:TE}{pos:Pos}
theorem binT (ha:PE X a ta) (hb:PE X b tb) {pins:List (Addr × Obj)}{s:Shared}{σ:St}{H:Hp}{R:V->V->Hp->Prop}(I:Inv X pins σ H s)
  (h:ta σ H λx H1=>tb σ H1 λy H2=>R x y H2) {Q:Value->Shared->Prop}{f:Value->Value->Sem Value}
  (hf:∀v u s2 x y H2,Inv X pins σ H2 s2->RelV x v->RelV y u->R x y H2->wpAny (model X.prog X.w) X.A (f v u) Q X.xe s2) :
  wpAny (model X.prog X.w) X.A (eval a X.env) (λv s₁=>wpAny (model X.prog X.w) X.A (eval b X.env) (λu s₂=>wpAny (model X.prog X.w) X.A (f v u) Q X.xe s₂) X.xe s₁) X.xe s:=by
 refine thn (ha pins s σ H _ I h) λv s1 ⟨x,H1,I1,r1,q1⟩=>?_;refine thn (hb pins s1 σ H1 _ I1 q1) λu s2 ⟨y,H2,I2,r2,q2⟩=>?_;exact hf v u s2 x y H2 I2 r1 r2 q2
theorem Zaq {op:Operator}{r:R2}(ho:OpR X (binaryOp op) r) (ha:PE X a ta) (hb:PE X b tb):PE X (.BinOp a op b pos) (tOp r ta tb):=by
 intro pins s σ H Q I h;exact wpAny_BinOp (binT ha hb I h λv u s2 x y H2 I2 rx ry q=>ho pins s2 σ H2 x y v u Q I2 rx ry q)
theorem opI {f:Value->Value->Sem Value}{C:Int->Int->Prop}{g:Int->Int->Int}
  (rule:∀(i j:Int) (t u:Tok) (s:Shared) (Q:Value->Shared->Prop) (E:Value->Shared->Prop),C i j->Q (.int (g i j) s.toks) { s with toks:=s.toks+1 } -> wpAny (model X.prog X.w) X.A (f (.int i t) (.int j u)) Q E s) :
  OpR X f (rI C λi j=>.int (g i j)):=by
 intro pins s σ H x y v u Q I rx ry h;obtain⟨i,j,rfl,rfl,hc,q⟩:=h;obtain⟨t,rfl⟩:=rx;obtain⟨t',rfl⟩:=ry;exact rule i j t t' s _ _ hc ⟨.int (g i j),H,I.tok _,⟨_,rfl⟩,q⟩
theorem opI0 {f:Value->Value->Sem Value}{g:Int->Int->Int}
  (rule:∀(i j:Int) (t u:Tok) (s:Shared) (Q:Value->Shared->Prop) (E:Value->Shared->Prop),Q (.int (g i j) s.toks) { s with toks:=s.toks+1 } -> wpAny (model X.prog X.w) X.A (f (.int i t) (.int j u)) Q E s) :
  OpR X f (rI0 λi j=>.int (g i j)):=by
 intro pins s σ H x y v u Q I rx ry h;obtain⟨i,j,rfl,rfl,q⟩:=h;obtain⟨t,rfl⟩:=rx;obtain⟨t',rfl⟩:=ry;exact rule i j t t' s _ _ ⟨.int (g i j),H,I.tok _,⟨_,rfl⟩,q⟩
theorem opB0 {f:Value->Value->Sem Value}{g:Int->Int->Bool}
  (rule:∀(i j:Int) (t u:Tok) (s:Shared) (Q:Value->Shared->Prop) (E:Value->Shared->Prop),Q (.bool (g i j)) s->wpAny (model X.prog X.w) X.A (f (.int i t) (.int j u)) Q E s) :
  OpR X f (rI0 λi j=>.bl (g i j)):=by
 intro pins s σ H x y v u Q I rx ry h;obtain⟨i,j,rfl,rfl,q⟩:=h;obtain⟨t,rfl⟩:=rx;obtain⟨t',rfl⟩:=ry;exact rule i j t t' s _ _ ⟨.bl (g i j),H,I,rfl,q⟩
def CDiv (i j:Int):Prop:=0<j/\j<1073741824
def CPow (i j:Int):Prop:=0<=j/\j<=1000000/\i.natAbs<2 ^ 64
def CMul (i j:Int):Prop:=(-(2 ^ 64)<i/\i<2 ^ 64)\/(-(2 ^ 64)<j/\j<2 ^ 64)
theorem CMul.ok {i j:Int}(h:CMul i j):IntMulOk i j:=by
 rcases h with ⟨h1,h2⟩|⟨h1,h2⟩
 ·exact .of_left (intBits_le_64 h1 h2)
 ·exact .of_right (intBits_le_64 h1 h2)
theorem Zsp:OpR X (binaryOp .Add) (rI0 λi j=>.int (i+j)):=opI0 λ_ _ _ _ _ _ _ q=>add_int q
theorem Zme:OpR X (binaryOp .Sub) (rI0 λi j=>.int (i-j)):=opI0 λ_ _ _ _ _ _ _ q=>sub_int q
theorem Zdf:OpR X (binaryOp .Mult) (rI CMul λi j=>.int (i*j)):=opI λ_ _ _ _ _ _ _ hc q=>mul_int q hc.ok
theorem Zd5:OpR X (binaryOp .FloorDiv) (rI CDiv λi j=>.int (i / j)):=opI λi j _ _ _ _ _ hc q=>by
 have h1:(0:Int)<j:=hc.1;have h2:j<1073741824:=hc.2;exact floordiv_int (by omega) (by rw[Int.fdiv_eq_ediv_of_nonneg i (by omega)];exact q) (.inl (PyProof.noPylong_small (by omega)))
theorem Zby:OpR X (binaryOp .Mod) (rI (λ_ j=>0<j) λi j=>.int (i % j)):=opI λi j _ _ _ _ _ hc q=>by
 have h1:(0:Int)<j:=hc;exact mod_int' (by omega) (by rw[Int.fmod_eq_emod_of_nonneg i (by omega)];exact q)
theorem Zsx:OpR X (binaryOp .Pow) (rI CPow λi j=>.int (i ^ j.toNat)):=opI λ_ _ _ _ _ _ _ hc q=>pow_int_small hc.1 hc.2.1 hc.2.2 q
theorem Zs4:OpR X (binaryOp .BitXor) (rI0 λi j=>.int (Builtin.bitXor i j)):=opI0 λ_ _ _ _ _ _ _ q=>xor_int q
end
def scal:V->V->Bool
 |.non,.non=>true|.non,.int _=>true|.int _,.non=>true|.non,.bl _=>true|.bl _,.non=>true|.non,.str _=>true|.str _,.non=>true
 |.int _,.int _=>true|.bl _,.bl _=>true|.str _,.str _=>true|.byt _,.byt _=>true
 |.int _,.str _=>true|.str _,.int _=>true|.bl _,.str _=>true|.str _,.bl _=>true
 |_,_=>false
def rEq:R2:=λx y H Q=>scal x y=true/\Q (.bl (decide (x=y))) H
def rNe:R2:=λx y H Q=>scal x y=true/\Q (.bl (!decide (x=y))) H
theorem Zg2 {i j:Int}:decide (V.int i=V.int j)=(i == j):=by
 rw[Wde];simp
theorem Zpo {i j:Bool}:decide (V.bl i=V.bl j)=(i == j):=by
 rw[Wde];simp
theorem Zlr {i j:Str}:decide (V.str i=V.str j)=(i == j):=by
 rw[Wde];simp
theorem Zm5 {i j:Array UInt8}:decide (V.byt i=V.byt j)=(i.toList == j.toList):=by
 rw[Wde];cases i;cases j;simp
section
variable {X:Cx}{a b c:Expr}{ta tb tc:TE}{pos:Pos}
theorem Za2 {pins:List (Addr × Obj)}{σ:St}{H:Hp}{s:Shared}{Q:VK}{k k':Bool}(I:Inv X pins σ H s) (q:Q (.bl k) H) (e:k=k'):EP X pins σ Q (.bool k') s:=by
 subst e;exact⟨.bl k,H,I,rfl,q⟩
theorem Zuc:OpR X (compareOp .Eq) rEq:=by
 intro pins s σ H x y v u Q I rx ry h;obtain⟨hs,q⟩:=h;cases x with
 |non=>
  cases rx;cases y with
  |non=>cases ry;exact PySem.EqNone.eq_none_none (Za2 I q (by simp))
  |bl j=>cases ry;exact PySem.EqNone.eq_none_bool (Za2 I q (by simp))
  |int j=>obtain⟨t',rfl⟩:=ry;exact PySem.EqNone.eq_none_int (Za2 I q (by simp))
  |str j=>obtain⟨t',rfl⟩:=ry;exact PySem.EqNone.eq_none_str (Za2 I q (by simp))
  |_=>exact absurd (show false=true from hs) Waj
 |bl i=>
  cases rx;cases y with
  |non=>cases ry;exact PySem.EqNone.eq_bool_none (Za2 I q (by simp))
  |bl j=>cases ry;exact eq_bool (Za2 I q Zpo)
  |str j=>obtain⟨t',rfl⟩:=ry;exact PySem.EqMixed.eq_bool_str (Za2 I q (by simp))
  |_=>exact absurd (show false=true from hs) Waj
 |int i=>
  obtain⟨t,rfl⟩:=rx;cases y with
  |non=>cases ry;exact PySem.EqNone.eq_int_none (Za2 I q (by simp))
  |int j=>obtain⟨t',rfl⟩:=ry;exact eq_int (Za2 I q Zg2)
  |str j=>obtain⟨t',rfl⟩:=ry;exact PySem.EqMixed.eq_int_str (Za2 I q (by simp))
  |_=>exact absurd (show false=true from hs) Waj
 |str i=>
  obtain⟨t,rfl⟩:=rx;cases y with
  |non=>cases ry;exact PySem.EqNone.eq_str_none (Za2 I q (by simp))
  |bl j=>cases ry;exact PySem.EqMixed.eq_str_bool (Za2 I q (by simp))
  |int j=>obtain⟨t',rfl⟩:=ry;exact PySem.EqMixed.eq_str_int (Za2 I q (by simp))
  |str j=>obtain⟨t',rfl⟩:=ry;exact eq_str (Za2 I q Zlr)
  |_=>exact absurd (show false=true from hs) Waj
 |byt i=>
  obtain⟨t,rfl⟩:=rx;cases y with
  |byt j=>obtain⟨t',rfl⟩:=ry;exact PySem.W.eq_bytes (Za2 I q Zm5)
  |_=>exact absurd (show false=true from hs) Waj
 |_=>cases y <;> exact absurd (show false=true from hs) Waj
theorem Zud:OpR X (compareOp .NotEq) rNe:=by
 intro pins s σ H x y v u Q I rx ry h;obtain⟨hs,q⟩:=h;cases x with
 |non=>
  cases rx;cases y with
  |non=>cases ry;exact PySem.EqNone.ne_none_none (Za2 I q (by simp))
  |bl j=>cases ry;exact PySem.EqNone.ne_none_bool (Za2 I q (by simp))
  |int j=>obtain⟨t',rfl⟩:=ry;exact PySem.EqNone.ne_none_int (Za2 I q (by simp))
  |str j=>obtain⟨t',rfl⟩:=ry;exact PySem.EqNone.ne_none_str (Za2 I q (by simp))
  |_=>exact absurd (show false=true from hs) Waj
 |bl i=>
  cases rx;cases y with
  |non=>cases ry;exact PySem.EqNone.ne_bool_none (Za2 I q (by simp))
  |bl j=>cases ry;exact ne_bool (Za2 I q (congrArg not Zpo))
  |str j=>obtain⟨t',rfl⟩:=ry;exact PySem.EqMixed.ne_bool_str (Za2 I q (by simp))
  |_=>exact absurd (show false=true from hs) Waj
 |int i=>
  obtain⟨t,rfl⟩:=rx;cases y with
  |non=>cases ry;exact PySem.EqNone.ne_int_none (Za2 I q (by simp))
  |int j=>obtain⟨t',rfl⟩:=ry;exact ne_int (Za2 I q (congrArg not Zg2))
  |str j=>obtain⟨t',rfl⟩:=ry;exact PySem.EqMixed.ne_int_str (Za2 I q (by simp))
  |_=>exact absurd (show false=true from hs) Waj
 |str i=>
  obtain⟨t,rfl⟩:=rx;cases y with
  |non=>cases ry;exact PySem.EqNone.ne_str_none (Za2 I q (by simp))
  |bl j=>cases ry;exact PySem.EqMixed.ne_str_bool (Za2 I q (by simp))
  |int j=>obtain⟨t',rfl⟩:=ry;exact PySem.EqMixed.ne_str_int (Za2 I q (by simp))
  |str j=>obtain⟨t',rfl⟩:=ry;exact ne_str (Za2 I q (congrArg not Zlr))
  |_=>exact absurd (show false=true from hs) Waj
 |byt i=>
  obtain⟨t,rfl⟩:=rx;cases y with
  |byt j=>obtain⟨t',rfl⟩:=ry;exact PySem.W.ne_bytes (Za2 I q (congrArg not Zm5))
  |_=>exact absurd (show false=true from hs) Waj
 |_=>cases y <;> exact absurd (show false=true from hs) Waj
theorem Zt9:OpR X (compareOp .Lt) (rI0 λi j=>.bl (decide (i<j))):=opB0 λ_ _ _ _ _ _ _ q=>lt_int q
theorem Zta:OpR X (compareOp .LtE) (rI0 λi j=>.bl (decide (i<=j))):=opB0 λ_ _ _ _ _ _ _ q=>le_int q
theorem Zml:OpR X (compareOp .Gt) (rI0 λi j=>.bl (decide (j<i))):=opB0 λ_ _ _ _ _ _ _ q=>gt_int q
theorem Zt1:OpR X (compareOp .GtE) (rI0 λi j=>.bl (decide (j<=i))):=opB0 λ_ _ _ _ _ _ _ q=>ge_int q
theorem OpR.or {f:Value->Value->Sem Value}{r r':R2}(h:OpR X f r) (h':OpR X f r'):OpR X f (λx y H Q=>r x y H Q\/r' x y H Q):=by
 intro pins s σ H x y v u Q I rx ry q;rcases q with q|q
 ·exact h pins s σ H x y v u Q I rx ry q
 ·exact h' pins s σ H x y v u Q I rx ry q
theorem nomark (b:Expr) {op:CmpOp}(h:op≠.In:=by decide) (h2:op≠.NotIn:=by decide):behindInMarks op b=false:=by
 have e1:(op == CmpOp.In)=false:=by cases op <;> first|rfl|exact absurd rfl h
 have e2:(op == CmpOp.NotIn)=false:=by cases op <;> first|rfl|exact absurd rfl h2
 cases b <;> simp[behindInMarks,e1,e2]
theorem Zmh {op:CmpOp}{r:R2}(ho:OpR X (compareOp op) r) (ha:PE X a ta) (hb:PE X b tb) (hm:behindInMarks op b=false):PE X (.Compare a [op] [b] pos) (tOp r ta tb):=by
 intro pins s σ H Q I h;exact wpAny_Compare1 (binT ha hb I h λv u s2 x y H2 I2 rx ry q=>ho pins s2 σ H2 x y v u Q I2 rx ry q) hm
def tTest (t:TE):TT:=λσ H Q=>t σ H λx H'=>∃k,x=.bl k/\Q k H'
theorem Zaw {op:CmpOp}{r:R2}(ho:OpR X (compareOp op) r) (ha:PE X a ta) (hb:PE X b tb) (hm:behindInMarks op b=false):PT X (.Compare a [op] [b] pos) (tTest (tOp r ta tb)):=by
 intro pins s σ H Q I h;refine wpAny_isTrue_Compare1 (thn (ha pins s σ H _ I h) λv s1 ⟨x,H1,I1,r1,q1⟩=>thn (hb pins s1 σ H1 _ I1 q1) λu s2 ⟨y,H2,I2,r2,q2⟩=>
  thn (ho pins s2 σ H2 x y v u _ I2 r1 r2 q2) λc s3 ⟨z,H3,I3,r3,k,e,q3⟩=>?_) hm
 subst e;cases r3;exact wpAny_truthy_bool ⟨H3,I3,q3⟩
def tChain (r r':R2) (ta tb tc:TE):TE:=λσ H Q=>ta σ H λx H1=>tb σ H1 λy H2=>r x y H2 λz H3=>∃k,z=.bl k ∧
 (if k=true then tc σ H3 λw' H4=>r' y w' H4 Q else Q (.bl false) H3)
theorem Zok {op op':CmpOp}{r r':R2}(ho:OpR X (compareOp op) r) (ho':OpR X (compareOp op') r') (ha:PE X a ta) (hb:PE X b tb) (hc:PE X c tc)
  (hm:lastMarks [op,op'] [b,c]=false:=by with_unfolding_all rfl):PT X (.Compare a [op,op'] [b,c] pos) (tTest (tChain r r' ta tb tc)):=by
 intro pins s σ H Q I h;refine isTrue_chain (thn (ha pins s σ H _ I h) λv s1 ⟨x,H1,I1,r1,q1⟩=>test_link (thn (hb pins s1 σ H1 _ I1 q1) λu s2 ⟨y,H2,I2,r2,q2⟩=>
  thn (ho pins s2 σ H2 x y v u _ I2 r1 r2 q2) λd s3 ⟨z,H3,I3,r3,k,e,q3⟩=>?_)) hm
 subst e;cases r3;refine wpAny_truthy_bool ?_;cases k with
 |false=>
  obtain⟨k',e',q'⟩:=q3;cases e';exact ite_ff ⟨H3,I3,q'⟩
 |true=>
  refine ite_tt (test_last (thn (hc pins s3 σ H3 _ I3 q3) λw' s4 ⟨z',H4,I4,r4,q4⟩=>thn (ho' pins s4 σ H4 y z' u w' _ I4 r2 r4 q4) λd' s5 ⟨z2,H5,I5,r5,k2,e2,q5⟩=>?_));subst e2;cases r5;exact wpAny_truthy_bool ⟨H5,I5,q5⟩
def TruV (K:W.Frag) (x:V) (H:Hp) (k:Bool):Prop:=
 match x with
 |.non=>k=false
 |.bl b=>k=b
 |.int i=>k=(i != 0)
 |.str y=>y.length<=sizeLine/\k=((y.length:Int) != 0)
 |.byt y=>y.size<=sizeLine/\k=((y.size:Int) != 0)
 |.ref p=>(∃xs,SqL K H p xs/\k = !xs.isEmpty)\/(∃xs,SqT K H p xs/\k = !xs.isEmpty)\/∃kvs,H p=some (.dK kvs)/\k = !kvs.isEmpty
 |_=>False
theorem Zkx {κ:Type}{kvs:List (κ × V)}{vs:List (κ × Value)}(r:KV kvs vs):(!vs.isEmpty) = !kvs.isEmpty:=by
 cases r <;> rfl
theorem Zgi {xs:List V}{its:List Value}(r:Vals xs its):(!its.toArray.isEmpty) = !xs.isEmpty:=by
 cases r <;> simp
theorem line63:(sizeLine:Nat)<2 ^ 63:=by rw[sizeLine_eq];decide
theorem Zts:TruR X (λx H Q=>∃k,TruV X.K x H k/\Q k H):=by
 intro pins s σ H x v Q I rx h;obtain⟨k,e,q⟩:=h;have hl:=line63;have hs:sizeLine=16777216:=sizeLine_eq;cases x with
 |non=>
  cases rx;have e':k=false:=e;subst e';exact truthy_none ⟨H,I,q⟩
 |bl b=>
  cases rx;have e':k=b:=e;subst e';exact wpAny_truthy_bool ⟨H,I,q⟩
 |int i=>
  obtain⟨t,rfl⟩:=rx;have e':k=(i != 0):=e;subst e';exact PySem.P.truthy_int ⟨H,I,q⟩
 |str y=>
  obtain⟨t,rfl⟩:=rx;obtain⟨hy,e'⟩:y.length<=sizeLine/\k=((y.length:Int) != 0):=e;subst e';exact PySem.P.truthy_str (by omega) ⟨H,I.tok _,q⟩
 |byt y=>
  obtain⟨t,rfl⟩:=rx;obtain⟨hy,e'⟩:y.size<=sizeLine/\k=((y.size:Int) != 0):=e;subst e';exact PySem.W.truthy_bytes (by omega) ⟨H,I.tok _,q⟩
 |ref p=>
  cases rx;have e':(∃xs,SqL X.K H p xs/\k = !xs.isEmpty)\/(∃xs,SqT X.K H p xs/\k = !xs.isEmpty)\/∃kvs,H p=some (.dK kvs)/\k = !kvs.isEmpty:=e;rcases e' with ⟨xs,hx,e'⟩|⟨xs,hx,e'⟩|⟨kvs,hx,e'⟩
  ·subst e'
   obtain⟨its,r,pl,hz⟩:=I.list hx;have hlen:=r.length;exact wpAny_truthy_list pl.isList (by simp only[Wam];omega) ⟨H,I.tok _,by rw[Zgi r];exact q⟩
  ·subst e'
   obtain⟨its,r,pl,hz⟩:=I.tuple hx;have hlen:=r.length;exact truthy_tuple pl (by simp only[Wam];omega) ⟨H,I.tok _,by rw[Zgi r];exact q⟩
  ·subst e'
   obtain⟨hz,hS,vs,r,m⟩:kvs.length<=sizeLine/\(p == sysModules)=false/\∃vs,KV kvs vs/\s.heap.DictOf (mixKind X.prog X.w) p vs:=I.hok p _ hx;have hlen:kvs.length=vs.length:=Paired.length r;exact wpAny_truthy_dict hS m (by omega) ⟨H,I.tok _,by rw[Zkx r];exact q⟩
 |_=>exact(show False from e).elim
theorem Zpa (ha:PE X a ta) (he:∀whole,isTrue a X.env whole=(do let v ← whole;standAt a.pos;holding [v] (truthy v))) :
  PT X a (λσ H Q=>ta σ H λx H'=>∃k,TruV X.K x H' k/\Q k H'):=by
 intro pins s σ H Q I h;exact isTrue_plain (thn (ha pins s σ H _ I h) λv s1 ⟨x,H1,I1,r1,q1⟩=>Zts pins s1 σ H1 x v Q I1 r1 q1) (he _)
theorem vals1 {x:V}{us:List Value}(r:Vals [x] us):∃u,us=[u]/\RelV x u:=by
 cases r with
 |cons r1 r2=>cases r2;exact⟨_,rfl,r1⟩
theorem vals2 {x y:V}{us:List Value}(r:Vals [x,y] us):∃u w',us=[u,w']/\RelV x u/\RelV y w':=by
 cases r with
 |cons r1 r2=>
  cases r2 with
  |cons r3 r4=>cases r4;exact⟨_,_,rfl,r1,r3⟩
theorem Zg9:CallR X (.builtin "abs") (λxs H Q=>∃i,xs=[.int i]/\Q (.int (if i<0 then -i else i)) H):=by
 intro pins s σ H xs us Q I r h;obtain⟨i,rfl,q⟩:=h;obtain⟨u,rfl,t,rfl⟩:=vals1 r;exact call_abs_int λu tk=>⟨.int (if i<0 then -i else i),H,I.tok _,⟨_,rfl⟩,q⟩
theorem Zie (hc:X.calm=true):CallR X (.builtin "max") (λxs H Q=>∃i j,xs=[.int i,.int j]/\Q (.int (if j > i then j else i)) H):=by
 intro pins s σ H xs us Q I r h;obtain⟨i,j,rfl,q⟩:=h;obtain⟨u,w',rfl,⟨t,rfl⟩,⟨t',rfl⟩⟩:=vals2 r;refine max_two_ints (I.ok.hd hc) λh' tk k=>⟨_,H,I.kept k,?_,q⟩;by_cases hj:j > i
 ·rw[if_pos hj,if_pos hj];exact⟨_,rfl⟩
 ·rw[if_neg hj,if_neg hj];exact⟨_,rfl⟩
theorem Zht (hc:X.calm=true):CallR X (.builtin "min") (λxs H Q=>∃i j,xs=[.int i,.int j]/\Q (.int (if j<i then j else i)) H):=by
 intro pins s σ H xs us Q I r h;obtain⟨i,j,rfl,q⟩:=h;obtain⟨u,w',rfl,⟨t,rfl⟩,⟨t',rfl⟩⟩:=vals2 r;refine min_two_ints (I.ok.hd hc) λh' tk k=>⟨_,H,I.kept k,?_,q⟩;by_cases hj:j<i
 ·rw[if_pos hj,if_pos hj];exact⟨_,rfl⟩
 ·rw[if_neg hj,if_neg hj];exact⟨_,rfl⟩
end
end L2
namespace L2
open PySem PySem.Spec PyProof.Rows
structure ObjM (h:Heap) (x dx C:Addr) (mA:Str->Option Value):Prop where
 obj:h.get? x=some (PySem.W.instObj C dx)
 ns:h.Ns1 dx mA
 ne:dx≠x
theorem Zlo {h:Heap}{dx:Addr}{mA:Str->Option Value}(n:h.Ns1 dx mA):∃od,h.get? dx=some od/\∀name,PySem.W.lookIn name od=some (mA name):=by
 obtain⟨o,es,ep,ho,hd,hk,_,hm⟩:=n;refine⟨o,ho,λname=>?_⟩;have e:=hm name;unfold nsFind findBy at e;rw[<- Array.find?_toList]at e;unfold PySem.W.lookIn;rw[hd];dsimp only;split
 ·rename_i y q
  rw[q]at e;exact congrArg some e
 ·rename_i q
  rw[q]at e;have a:es.toList.any (·.refKey)=false:=by
   rw[List.any_eq_false];intro y hy;obtain⟨z,t,hkey⟩:=hk y (Array.mem_toList_iff.mp hy);simp[DictEntry.refKey,hkey]
  have a':¬ es.toList.any (·.refKey)=true:=by rw[a];exact Waj
  rw[if_neg a'];exact congrArg some e
theorem ObjM.look {h:Heap}{x dx C:Addr}{mA:Str->Option Value}(I:ObjM h x dx C mA):∃od,PySem.W.InstAt h x (PySem.W.instObj C dx) C (some od)/\∀name,PySem.W.lookIn name od=some (mA name):=
 let ⟨od,ho,hl⟩:=Zlo I.ns
 ⟨od,⟨I.obj,rfl,rfl,ho⟩,hl⟩
theorem RelO.some_of {v:V}{o:Option Value}(r:RelO (some v) o):∃u,o=some u/\RelV v u:=by
 cases o with
 |none=>exact(show False from r).elim
 |some u=>exact⟨u,rfl,r⟩
section
variable {P:Program}{w:World}{H H':Hp}{h h':Heap}{a C dx:Addr}{fs fs':List (Str × V)}
theorem Zqj (hok:HOk P w H h) (e:H a=some (.ins C dx fs)):∃mA,ObjM h a dx C mA/\(∀f,RelO (fs.lookup f) (mA f))/\PySem.Within mA (fs.map (·.1))/\fs.length<=1000/\H dx=some (.own a):=by
 obtain⟨d,z,ne,ob,mA,n,r,q⟩:=(show ObjOk P w H h a (.ins C dx fs) from hok a _ e);exact⟨mA,⟨ob,n,ne⟩,r,q,z,d⟩
end
structure Cls (K:W.Frag) (C:Addr):Prop where
 pg:PySem.W.plainGet K C Str.empty=true
 hd:PySem.W.hasDictIn K C=true
 po:PySem.W.plainOver K C=true
 sa:PySem.W.findIn K (.ref C) "__setattr__" = some (some (.builtin "object.__setattr__"))
theorem Cls.get {K:W.Frag}{C:Addr}(c:Cls K C) (f:Str):PySem.W.plainGet K C f=true:=c.pg
section
variable {X:Cx}{pins:List (Addr × Obj)}{σ:St}{H:Hp}{s:Shared}{a C dx:Addr}{fs:List (Str × V)}{f:Str}{v:V}{A:Around}{E:Value->Shared->Prop}
end
section
variable {X:Cx}{pins:List (Addr × Obj)}{σ:St}{H:Hp}{s:Shared}{A:Around}{E:Value->Shared->Prop}{Q:Value->Shared->Prop}{c:Value}{b:Bool}
inductive TyOf (K:W.Frag) (H:Hp):V->Value->Prop where
 |non:TyOf K H .non (.type "NoneType")
 |bl (x:Bool):TyOf K H (.bl x) (.type "bool")
 |int (i:Int):TyOf K H (.int i) (.type "int")
 |str (x:Str):TyOf K H (.str x) (.type "str")
 |flt (x:UInt64):TyOf K H (.flt x) (.type "float")
 |lst {a:Addr}{xs:List V}(e:H a=some (.lst xs)):TyOf K H (.ref a) (.type "list")
 |frz {a:Addr}{o:Obj}{xs:List V}(e:H a=some (.frz o (.lst xs))):TyOf K H (.ref a) (.type "list")
 |tup {a:Addr}{xs:List V}(e:H a=some (.tup xs)):TyOf K H (.ref a) (.type "tuple")
 |dK {a:Addr}{kvs:List (Key × V)}(e:H a=some (.dK kvs)):TyOf K H (.ref a) (.type "dict")
 |dT {a:Addr}{kvs:List (List Key × V)}(e:H a=some (.dT kvs)):TyOf K H (.ref a) (.type "dict")
 |ins {a C dx:Addr}{fs:List (Str × V)}(e:H a=some (.ins C dx fs)) (cl:Cls K C) (ha:PySem.W.findIn K (.ref C) "__class__" = some (some (.builtin "object.__class__")))
   (hn:PySem.W.specialIn K (.builtin "object.__class__") "__get__" = some (some (.builtin "getset_descriptor.__get__"))) (htk:PySem.W.takesIn K (.builtin "object.__class__")=some true)
   (hm:PySem.W.mroIn K C (.type "object")=some true):TyOf K H (.ref a) (.ref C)
theorem Zlt {x:V}{u t:Value}(I:Inv X pins σ H s) (rx:RelV x u) (ty:TyOf X.K H x t) (e:PySem.W.kitOne X.K t c=some b) (h:∀tk,Q (.bool b) { s with toks:=tk }) :
  wpAny (model X.prog X.w) A (call (.builtin "isinstance") [u,c]) Q E s:=by
 cases ty with
 |non=>cases (show u=Value.none from rx);exact PySem.W.kia_one PySem.W.kitx_none I.kIn True.intro e (λz=>nomatch z) h
 |bl y=>cases (show u=Value.bool y from rx);exact PySem.W.kia_one PySem.W.kitx_bool I.kIn True.intro e (λz=>nomatch z) h
 |int i=>obtain⟨t,q⟩:=(show ∃t,u=Value.int i t from rx);cases q;exact PySem.W.kia_one PySem.W.kitx_int I.kIn True.intro e (λz=>nomatch z) h
 |str y=>obtain⟨t,q⟩:=(show ∃t,u=Value.str y t from rx);cases q;exact PySem.W.kia_one PySem.W.kitx_str I.kIn True.intro e (λz=>nomatch z) h
 |flt y=>obtain⟨t,q⟩:=(show ∃t,u=Value.float y t from rx);cases q;exact PySem.W.kia_one PySem.W.kitx_float I.kIn True.intro e (λz=>nomatch z) h
 |@lst a xs ea=>
  cases (show u=Value.ref a from rx);obtain⟨_,_,n,_,h1⟩:=(show ObjOk X.prog X.w H s.heap a (.lst xs) from I.hok a _ ea);exact PySem.W.kia_one PySem.W.kitx_list I.kIn ⟨_,h1,rfl⟩ e (λz=>nomatch z) h
 |@frz a ob xs ea=>
  cases (show u=Value.ref a from rx);obtain⟨_,_,_,n,_,h1⟩:=(show ObjOk X.prog X.w H s.heap a (.frz ob (.lst xs)) from I.hok a _ ea);exact PySem.W.kia_one PySem.W.kitx_list I.kIn ⟨_,h1,rfl⟩ e (λz=>nomatch z) h
 |@tup a xs ea=>
  cases (show u=Value.ref a from rx);obtain⟨_,_,_,p⟩:=(show ObjOk X.prog X.w H s.heap a (.tup xs) from I.hok a _ ea);obtain⟨o,h1,⟨h2,_⟩,_⟩:=p;exact PySem.W.kia_one PySem.W.kitx_tuple I.kIn ⟨o,h1,h2⟩ e (λz=>nomatch z) h
 |@dK a kvs ea=>
  cases (show u=Value.ref a from rx);obtain⟨_,_,vs,_,p⟩:=(show ObjOk X.prog X.w H s.heap a (.dK kvs) from I.hok a _ ea);obtain⟨o,es,ep,h1,h2,_⟩:=p;exact PySem.W.kia_one PySem.W.kitx_dict I.kIn ⟨o,h1,h2.1⟩ e (λz=>nomatch z) h
 |@dT a kvs ea=>
  cases (show u=Value.ref a from rx);obtain⟨_,_,xs,_,o,es,ep,h1,h2,_⟩:=(show ObjOk X.prog X.w H s.heap a (.dT kvs) from I.hok a _ ea);exact PySem.W.kia_one PySem.W.kitx_dict I.kIn ⟨o,h1,h2.1⟩ e (λz=>nomatch z) h
 |@ins a C dx fs ea cl ha hn htk hm=>
  cases (show u=Value.ref a from rx);obtain⟨mA,O,_⟩:=Zqj I.hok ea;obtain⟨od,J,_⟩:=O.look;exact PySem.W.kia_one (PySem.W.kitx_own (cl.get _) cl.hd ha hn htk hm) I.kIn J e (λz=>nomatch z) h
end
end L2
namespace L2
open PySem PySem.Spec PyProof.Rows
structure Room (k:Nat) (A:Around):Prop where
 hd:A.handled=none
 dp:A.depth+3*k+5<recursionLimit
 un:A.units+16*k+200<cLine
 gd:A.guards=some []
theorem Room.mono {j k:Nat}{A:Around}(r:Room k A) (h:j<=k):Room j A:=⟨r.hd,by have:=r.dp;omega,by have:=r.un;omega,r.gd⟩
theorem Room.deeper {k:Nat}{A:Around}(r:Room (k+1) A) (env:Env):Room k (A.deeper env):=
 ⟨r.hd,by have:=r.dp;show A.depth+1+3*k+5<_;omega,by have:=r.un;show A.units+3+16*k+200<_;omega,r.gd⟩
theorem Room.depth {k:Nat}{A:Around}(r:Room k A):A.depth<recursionLimit:=by have:=r.dp;omega
theorem Room.units {k:Nat}{A:Around}(r:Room k A):A.units+64<cLine:=by have:=r.un;omega
def tNil:TA:=λ_ H Q=>Q [] H
def tCons (ta:TE) (tr:TA):TA:=λσ H Q=>ta σ H λx H1=>tr σ H1 λxs H2=>Q (x::xs) H2
section
variable {X:Cx}{e:Expr}{es:List Expr}{te:TE}{t:TA}{pos:Pos}
theorem Zad:PA X [] tNil:=λ_ _ _ _ H Q I h=>Calls.spliced_nil ⟨[],H,I,.nil,h⟩
theorem Zaa (ha:PE X e te) (hr:PA X es t) (hs:starEach (e::es) X.env=(false,eval e X.env)::starEach es X.env:=by rfl):PA X (e::es) (tCons te t):=by
 intro pos pins s σ H Q I h;rw[hs];show wpAny _ _ (spliced ((false,eval e X.env)::backTo pos (starEach es X.env))) _ _ s;refine Calls.spliced_cons (thn (ha pins s σ H _ I h) λu s1 ⟨x,H1,I1,r1,q1⟩=>?_);exact thn (hr pos pins s1 σ H1 _ I1 q1) λus s2 ⟨xs,H2,I2,r2,q2⟩=>⟨x::xs,H2,I2,.cons r1 r2,q2⟩
def tTup (t:TA):TE:=λσ H Q=>t σ H λxs H1=>xs.length<=sizeLine/\∀p,H1 p=none->Q (.ref p) (upd H1 p (.tup xs))
def tLst (t:TA):TE:=λσ H Q=>t σ H λxs H1=>xs.length<=sizeLine/\∀p,H1 p=none->Q (.ref p) (upd H1 p (.lst xs))
theorem Zbn {x1} (h:PA X es t):PE X (.Tuple es x1 pos) (tTup t):=by
 intro pins s σ H Q I hq;refine wpAny_Tuple_spliced (thn (h pos pins s σ H _ I hq) λus s1 ⟨xs,H1,I1,r,z,q⟩=>⟨by rw[<- r.length];exact z,?_⟩);have hf:H1 s1.heap.objs.size=none:=I1.hok.fresh (Wah _);refine⟨.ref s1.heap.objs.size,upd H1 s1.heap.objs.size (.tup xs),I1.laid (t':=s1.toks) (λb u e=>Wac _ e) (Wah _) ?_,rfl,q _ hf⟩;exact⟨z,us,r,⟨_,Wao _ rfl,⟨rfl,_,rfl⟩,rfl⟩⟩
theorem Zes (h:PA X es t):PE X (.List es pos) (tLst t):=by
 intro pins s σ H Q I hq;refine wpAny_List_spliced (thn (h pos pins s σ H _ I hq) λus s1 ⟨xs,H1,I1,r,z,q⟩=>⟨by rw[<- r.length];exact z,?_⟩);have hf:H1 s1.heap.objs.size=none:=I1.hok.fresh (Wah _);refine⟨.ref s1.heap.objs.size,upd H1 s1.heap.objs.size (.lst xs),I1.laid (t':=s1.toks) (λb u e=>Wac _ e) (Wah _) ?_,rfl,q _ hf⟩;exact⟨z,us,0,r,Wao _ rfl⟩
end
abbrev Sp:=List V->Hp->VK->XK->Prop
abbrev CXT:=List Env->Hp->Shared->XK->Value->Shared->Prop
structure Env0 (P:Program) (w:World) (K:W.Frag) (mg:Str->Option Value) (base:Heap) (A:Around) (outer:List Env) (s:Shared) (H:Hp):Prop where
 frames:A.frames=some outer
 mod:Mod K mg base
 bs:∀b o,base.get? b=some o->s.heap.get? b=some o/\H b=none
 bsz:base.objs.size<=s.heap.objs.size
 funs:s.heap.FunFrames base outer
 frf:∀b∈frs outer,H b=none
 hok:HOk P w H s.heap
 bare:AllBare s.gens
def CE (outer:List Env) (P:Program) (w:World) (H:Hp) (s:Shared) (Q:VK) (u:Value) (s':Shared):Prop:=
 ∃v H',s'.os=s.os/\AllBare s'.gens/\Un (frs outer) [] H H' s.heap s'.heap/\HOk P w H' s'.heap/\RelV v u/\Q v H'
def CR (CX:CXT) (outer:List Env) (P:Program) (w:World) (H:Hp) (s:Shared) (Q:VK) (E:XK) (r:Result) (s':Shared):Prop:=
 match r with
 |.ok (.ret u)=>CE outer P w H s Q u s'
 |.ok _=>False
 |.error e=>CX outer H s E e s'
structure FnOk (P:Program) (w:World) (K:W.Frag) (mg:Str->Option Value) (base:Heap) (CX:CXT) (k:Nat) (f:Addr) (fd:FuncData) (ps:List Str) (sp:Sp):Prop where
 len:∀vs H Q E,sp vs H Q E->vs.length=ps.length
 run:∀(A:Around) (outer:List Env) (s:Shared) (H:Hp) (args:Args) (us:List Value) (vs:List V) (Q:VK) (E:XK),Room k A->Env0 P w K mg base A outer s H->BindsTo s fd args (ps.zip us)->Vals vs us->sp vs H Q E →
  codeAny (model P w) A (.call (.ref f) args) (CR CX outer P w H s Q E) s
theorem FnOk.imp {P:Program}{w:World}{K:W.Frag}{mg:Str->Option Value}{base:Heap}{CX:CXT}{k:Nat}{f:Addr}{fd:FuncData}{ps:List Str}{sp sp':Sp}(F:FnOk P w K mg base CX k f fd ps sp)
  (h:∀vs H Q E,sp' vs H Q E->sp vs H Q E):FnOk P w K mg base CX k f fd ps sp':=
 ⟨λvs H Q E q=>F.len vs H Q E (h _ _ _ _ q),λA outer s H args us vs Q E hr he hb hv hs=>F.run A outer s H args us vs Q E hr he hb hv (h _ _ _ _ hs)⟩
section
variable {X:Cx}{pins:List (Addr × Obj)}{σ:St}{H:Hp}{s s':Shared}
theorem Inv.env0 (I:Inv X pins σ H s):Env0 X.prog X.w X.K X.mg X.base X.A X.stack s H:=
 ⟨I.ok.frames,I.ok.mod,I.bs,Wbq I.ok.bsz I.sz,I.stack,I.stkFree,I.hok,I.bare⟩
theorem Inv.after {Q:VK}{u:Value}(I:Inv X pins σ H s) (h:CE X.stack X.prog X.w H s Q u s'):EP X pins σ Q u s':=by
 obtain⟨v,H',os,bare,un,hok,r,q⟩:=h;obtain⟨hh,g,d,t,os'⟩:=s';obtain rfl:os'=s.os:=os;exact⟨v,H',I.call (h':=hh) (g':=g) (d':=d) (t':=t) (ch:=[]) un hok bare (λb z=>absurd z (by simp)),r,q⟩
end
def tCall (sp:Sp) (dvs:List V) (E:XK) (t:TA):TE:=λσ H Q=>t σ H λvs H1=>sp (vs++dvs) H1 Q E
def Binds (K:W.Frag) (fd:FuncData) (ps:List Str) (ds:List Value):Prop:=
 ∀(s:Shared) (us:List Value),K.In s.heap->(us++ds).length=ps.length->BindsTo s fd ⟨us,[]⟩ (ps.zip (us++ds))
theorem Binds.all {K:W.Frag}{fd:FuncData}{ps:List Str}(h:∀us:List Value,us.length=ps.length->bindArgs fd ⟨us,[]⟩=pure (ps.zip us)):Binds K fd ps []:=λs us _ hl=>by
 rw[Wa3]at hl ⊢;exact .of_eq (h us hl)
def Passes (CX:CXT) (X:Cx) (E:XK):Prop:=∀(pins:List (Addr × Obj)) (σ:St) (H:Hp) (s:Shared) (e:Value) (s':Shared),Inv X pins σ H s->CX X.stack H s E e s' -> X.xe e s'
section
variable {X:Cx}{CX:CXT}{k:Nat}{f C:Addr}{fd:FuncData}{ps:List Str}{sp:Sp}{dvs:List V}{ds:List Value}{E:XK}{x m:Str}{p pos apos:Pos}{e o:Expr}{es:List Expr}{ta:TE}{t:TA}
theorem Zto {pins:List (Addr × Obj)}{σ:St}{H:Hp}{s:Shared}{Q:VK}{us:List Value}{vs:List V}(F:FnOk X.prog X.w X.K X.mg X.base CX k f fd ps sp) (hr:Room k X.A) (hb:Binds X.K fd ps ds) (hd:Vals dvs ds) (hx:Passes CX X E)
  (I:Inv X pins σ H s) (r:Vals vs us) (h:sp (vs++dvs) H Q E):wpAny (model X.prog X.w) X.A (call (.ref f) us) (EP X pins σ Q) X.xe s:=by
 have r2:Vals (vs++dvs) (us++ds):=r.append hd;have hl:(us++ds).length=ps.length:=by rw[<- r2.length];exact F.len _ _ _ _ h
 refine wpAny_call (codeAny_mono (F.run X.A X.stack s H ⟨us,[]⟩ (us++ds) (vs++dvs) Q E hr I.env0 (hb s us I.kIn hl) r2 h) λr s' hq=>?_);cases r with
 |error e=>exact hx pins σ H s e s' I hq
 |ok fl=>
  cases fl with
  |ret u=>exact I.after hq
  |next=>exact False.elim hq
  |brk=>exact False.elim hq
  |cont=>exact False.elim hq
theorem Zqd (F:FnOk X.prog X.w X.K X.mg X.base CX k f fd ps sp) (hr:Room k X.A) (hg:Gl X x) (hm:X.mg x=some (.ref f)) (hk:W.keepIn X.K (.ref f)=true) (hb:Binds X.K fd ps ds) (hd:Vals dvs ds) (hx:Passes CX X E)
  (ha:PA X (e::es) t) (hdb:(x == ("__debug__":Str))=false:=by decide) (he:starEach (e::es) X.env=(false,eval e X.env)::starEach es X.env:=by rfl) (hpl:(backTo pos (starEach es X.env)).any (·.1)=false:=by rfl) :
  PE X (.Call (.Name x p) (e::es) [] pos) (tCall sp dvs E t):=by
 intro pins s σ H Q I h;refine wpAny_Call_Name_kw (Zeq I hg hm ?_ hdb);refine PySem.W.callWith_K (h₀:=X.base) I.ok.mod.kin hk (thn (ha pos pins s σ H _ I h) λus s1 ⟨vs,H1,I1,r,q⟩=>⟨I1.kIn,?_⟩) he hpl;exact Zto F hr hb hd hx I1 r q
end
section
variable {X:Cx}{CX:CXT}{k:Nat}{f C:Addr}{fd:FuncData}{ps ks:List Str}{sp:Sp}{E:XK}{x m:Str}{p pos apos kpos:Pos}{e o:Expr}{es:List Expr}{kws:List Keyword}{te ta:TE}{t tk:TA}{nm:Option Str}
variable {g:List Value->List Value->List Value}{gV:List V->List V->List V}
end
structure FnScope (N P:List Str) (sc:Scope):Prop where
 kind:sc.kind=.function
 co:sc.isCoroutine=false
 gen:sc.isGenerator=false
 nd:N.Nodup
 pre:N.take P.length=P
 par:∀x∈P,sc.names.lookup x=some .local\/sc.names.lookup x=some .cell
 nofree:∀y∈sc.names,y.2≠.free
theorem Zid {kindOf:Str->Option NameKind}{x:Str}:∀{binds:List (Str × Value)}{m:Str->Option Value},(∀v,(x,v) ∉ binds)->bindL kindOf binds m x=m x
 |[],_,_=>rfl
 | (n,v)::r,m,h=>by
  unfold bindL;rw[Zid λw hw=>h w (Wav _ hw)];split
  ·have:x≠n:=by rintro rfl;exact h v Waw
   simp[this]
  ·rfl
theorem Zhs {kindOf:Str->Option NameKind}{x:Str}:∀{binds:List (Str × Value)}{m:Str->Option Value},(∀v,(x,v) ∉ binds)->bindC kindOf binds m x=m x
 |[],_,_=>rfl
 | (n,v)::r,m,h=>by
  unfold bindC;rw[Zhs λw hw=>h w (Wav _ hw)];split
  ·rfl
  ·have:x≠n:=by rintro rfl;exact h v Waw
   simp[this]
theorem Zin {kindOf:Str->Option NameKind}{x:Str}{v:Value}:∀{P:List Str}{vs:List Value}{i:Nat}{m:Str->Option Value},P.Nodup->P[i]?=some x->vs[i]?=some v->kindOf x=some .local →
  bindL kindOf (P.zip vs) m x=some v
 |[],_,_,_,_,h,_,_=>by simp at h
 |_::_,[],_,_,_,_,h,_=>by simp at h
 |p::P,w::vs,0,m,nd,h1,h2,hk=>by
  simp at h1 h2;subst h1;subst h2;show bindL kindOf ((p,w)::P.zip vs) m p=_;unfold bindL;rw[Zid λv hv=>(Wcb.mp nd).1 (List.of_mem_zip hv).1,if_pos hk];simp
 |p::P,w::vs,i+1,m,nd,h1,h2,hk=>by
  show bindL kindOf ((p,w)::P.zip vs) m x=_;unfold bindL;exact Zin (i:=i) (Wcb.mp nd).2 (by simpa using h1) (by simpa using h2) hk
theorem Zil {kindOf:Str->Option NameKind}{x:Str}{v:Value}:∀{P:List Str}{vs:List Value}{i:Nat}{m:Str->Option Value},P.Nodup->P[i]?=some x->vs[i]?=some v->kindOf x≠some .local →
  bindC kindOf (P.zip vs) m x=some v
 |[],_,_,_,_,h,_,_=>by simp at h
 |_::_,[],_,_,_,_,h,_=>by simp at h
 |p::P,w::vs,0,m,nd,h1,h2,hk=>by
  simp at h1 h2;subst h1;subst h2;show bindC kindOf ((p,w)::P.zip vs) m p=_;unfold bindC;rw[Zhs λv hv=>(Wcb.mp nd).1 (List.of_mem_zip hv).1,if_neg hk];simp
 |p::P,w::vs,i+1,m,nd,h1,h2,hk=>by
  show bindC kindOf ((p,w)::P.zip vs) m x=_;unfold bindC;exact Zil (i:=i) (Wcb.mp nd).2 (by simpa using h1) (by simpa using h2) hk
def start (N:List Str) (vs:List V):St:=vs.map some++Wad (N.length-vs.length) none
def cxOf (CX:CXT) (P:Program) (w:World) (K:W.Frag) (mg:Str->Option Value) (base:Heap) (N:List Str) (qual:Str) (scope:Scope) (f:Addr) (cd:Value) (A:Around) (outer:List Env) (s:Shared) (H:Hp) (E:XK):Cx where
 prog:=P
 w:=w
 K:=K
 mg:=mg
 base:=base
 A:=A.deeper (envOfC qual scope s.heap.objs.size f cd)
 N:=N
 s₀:=s
 H₀:=H
 env:=envOfC qual scope s.heap.objs.size f cd
 outer:=outer
 stack:=envOfC qual scope s.heap.objs.size f cd::outer
 ex:=[]
 calm:=true
 fn:=λ_=>true
 pn:=[]
 xe:=λe s'=>wpAny (model P w) (A.deeper (envOfC qual scope s.heap.objs.size f cd)) (leaving (envOfC qual scope s.heap.objs.size f cd) e) (λ_ s''=>CX outer H s E e s'') (λe' s''=>CX outer H s E e' s'') s'
theorem Zj3 {sc:Scope}{n:Nat}{x:Str}(h:sc.names.lookup x=some .cell):∃c,(cellsFrom n sc.names []).lookup x=some c:=by
 have q:=PySem.W.cellsFrom_some sc.names n [] (.inl h);exact Option.isSome_iff_exists.mp q
theorem Zmc {CX:CXT}{P:Program}{w:World}{K:W.Frag}{mg:Str->Option Value}{base:Heap}{N ps:List Str}{qual:Str}{scope:Scope}{f:Addr}{cd:Value}{A:Around}{outer:List Env}{s s1:Shared}{H:Hp}{E:XK}{us:List Value}{vs:List V}
  (S:FnScope N ps scope) (hd:A.handled=none) (e0:Env0 P w K mg base A outer s H) (hl:vs.length=ps.length) (r:Vals vs us)
  (x:InCallC s s.heap.objs.size (bindL (envOfC qual scope s.heap.objs.size f cd).kindOf (ps.zip us) λ_=>none) (cellsFrom (s.heap.objs.size+1) scope.names []) (bindC (envOfC qual scope s.heap.objs.size f cd).kindOf (ps.zip us) λ_=>none) s1) :
  Inv (cxOf CX P w K mg base N qual scope f cd A outer s H E) [] (start N vs) H s1:=by
 have hpl:ps.length<=N.length:=by have:=congrArg Wba S.pre;rw[Wbk]at this;omega
 obtain⟨h1,tk,rfl,hk⟩:=x.done;have noA:∀b:Addr,b ∉ (cxOf CX P w K mg base N qual scope f cd A outer s H E).ex:=λb z=>absurd (show b∈([]:List Addr) from z) (by simp);refine⟨⟨e0.mod,S.kind,rfl,rfl,Wah _,λy z c h1 h2=>?_,λy hy=>?_,λy c _ h=>?_,λ_=>hd,Around.frames_deeper e0.frames,.inr ⟨rfl,rfl⟩,λb z=>absurd z (noA b),e0.bs,e0.bsz,λb _ _=>noA b,λb z=>absurd z (noA b),e0.funs,e0.frf⟩,
  rfl,e0.bare,Un.kept hk,⟨_,x.toInCall.ns,λi y v h1 h2 h3=>?_⟩,λy c h=>⟨_,x.cell y c h⟩,e0.hok.fresh (Wah _),λy c h=>?_,λp hp=>absurd (show p∈([]:List (Addr × Obj)) from hp) (by simp),e0.hok.kept hk,?_⟩
 ·exact name_of_addr x.apart (PySem.mem_of_lookup h1) (PySem.mem_of_lookup h2)
 ·have hy:scope.names.lookup y=some .cell\/scope.names.lookup y=some .free:=hy
  rcases hy with hy|hy
  ·exact Zj3 hy
  ·exact absurd rfl (S.nofree _ (PySem.mem_of_lookup hy))
 ·exact Wb1 (x.above y c (PySem.mem_of_lookup h))
 ·have hi:i<vs.length:=by
   unfold start at h2;by_cases hi:i<vs.length
   ·exact hi
   ·rw[Waz (by simpa using hi)]at h2
    rw[Wb8]at h2;split at h2 <;> cases h2
  have ha:vs[i]?=some v:=by
   unfold start at h2;rw[Wa8 (by simpa using hi),Wag]at h2;cases e:vs[i]? with
   |none=>rw[e]at h2;cases h2
   |some a=>rw[e]at h2;cases h2;rfl
  obtain⟨u,hu,rv⟩:=r.get ha;have hp:ps[i]?=some y:=by
   rw[<- S.pre,List.getElem?_take_of_lt (by omega)];exact h1
  have ndP:ps.Nodup:=by rw[<- S.pre];exact S.nd.sublist (List.take_sublist _ _)
  refine⟨u,rv,?_⟩;rcases S.par y (Wak hp) with k|k
  ·exact .inl ⟨k,Zin ndP hp hu k⟩
  ·obtain⟨c,e⟩:=Zj3 (n:=s.heap.objs.size+1) k
   refine .inr ⟨.inl k,c,e,?_⟩;have q:=x.cell y c e;rw[Zil ndP hp hu (by show scope.names.lookup y≠_;rw[k];decide)]at q;exact q
 ·exact e0.hok.fresh (Wb1 (x.above y c (PySem.mem_of_lookup h)))
 ·unfold start
  show _=N.length;rw[Wai,Waa,Wal];omega
theorem Zsz {CX:CXT}{P:Program}{w:World}{K:W.Frag}{mg:Str->Option Value}{base:Heap}{k:Nat}{f:Addr}{name qual:Str}{params:Arguments}{body:List Stmt}{scope:Scope}{dV kV doc pm cdv ct oc:Value}{an od:Option Addr}
  {osl:Array (Option Value)}{N ps:List Str}{sp:Sp}(lk:K.lookup f=some ⟨oc,od,.func (W.fnOf name qual params body scope dV kV doc pm an cdv ct),osl⟩) (hcd:W.codeIn K cdv qual=true) (S:FnScope N ps scope)
  (len:∀vs H Q E,sp vs H Q E->vs.length=ps.length)
  (hbody:∀(A:Around) (outer:List Env) (s:Shared) (H:Hp) (vs:List V) (Q:VK) (E:XK),Room k (A.deeper (envOfC qual scope s.heap.objs.size f cdv))->sp vs H Q E →
   ∃t,PSs (cxOf CX P w K mg base N qual scope f cdv A outer s H E) body t/\t { nx:=λ_ H'=>Q .non H',rt:=Q } (start N vs) H) :
  FnOk P w K mg base CX (k+1) f (W.fnOf name qual params body scope dV kV doc pm an cdv ct) ps sp:=by
 refine⟨len,λA outer s H args us vs Q E hr e0 hb r hsp=>?_⟩;have hl:=len _ _ _ _ hsp;have KX:K.In s.heap:=e0.mod.kin.keeps λb o e=>(e0.bs b o e).1;have lim:s.heap.NoLimit:=e0.mod.nolimit.keeps λb o e=>(e0.bs b o e).1;have hkind:∀y∈ps.zip us,scope.names.lookup y.1=some .local\/(scope.names.lookup y.1=some .cell/\((cellsFrom (s.heap.objs.size+1) scope.names []).lookup y.1).isSome=true):=λ⟨n,v⟩ hy=>by
  rcases S.par n (List.of_mem_zip hy).1 with q|q
  ·exact .inl q
  ·exact .inr ⟨q,PySem.W.cellsFrom_some _ _ _ (.inl q)⟩
 refine codeAny_call_function hr.depth (KX _ _ lk) rfl S.co S.gen rfl (PySem.W.codeRec_of KX hcd) (hb _ _ _ _ ?_);refine wpAny_newFunctionEnv_cells S.kind hkind λenv he s1 x=>?_;subst he;refine⟨lim.keeps x.toInCall.keep,codeAny_func ?_⟩;obtain⟨t,ht,hq⟩:=hbody A outer s H vs Q E (hr.deeper _) hsp;have I:Inv (cxOf CX P w K mg base N qual scope f cdv A outer s H E) [] (start N vs) H s1:=Zmc S hr.hd e0 hl r x;refine wpAny_mono (ht [] s1 (start N vs) H _ I hq) (λfl s' hs=>?_) λe s' hs=>hs;have fin:∀{σ':St}{H':Hp}{v:V}{u:Value},Inv (cxOf CX P w K mg base N qual scope f cdv A outer s H E) [] σ' H' s' -> RelV v u->Q v H' -> CE outer P w H s Q u s':=
  λ{σ' H' v u} J rv q=>⟨v,H',J.os,J.bare,J.base,J.hok,rv,q⟩
 cases fl with
 |ret u=>
  obtain⟨v,σ',H',J,rv,q⟩:=hs;exact fin J rv q
 |next=>
  obtain⟨σ',H',J,q⟩:=hs;exact fin (v:=V.non) (u:=Value.none) J rfl q
 |brk=>
  obtain⟨_,_,_,q⟩:=hs;exact False.elim q
 |cont=>
  obtain⟨_,_,_,q⟩:=hs;exact False.elim q
end L2
namespace L2
open PySem PySem.Spec PyProof.Rows
section
variable {X:Cx}{x:Str}{p pos:Pos}{e:Expr}{es:List Expr}{t:TA}{id T:String}{r:List V->Hp->VK->Prop}
def tCB (r:List V->Hp->VK->Prop) (t:TA):TE:=λσ H Q=>t σ H λvs H1=>r vs H1 Q
theorem Zah (hc:CallR X (.builtin id) r) (hg:Gl X x) (hm:X.mg x=none) (hv:bootBuiltins x=some (.builtin id)) (ha:PA X (e::es) t) (hn:x ≠ "__name__":=by decide) (hdb:(x == ("__debug__":Str))=false:=by decide)
  (he:starEach (e::es) X.env=(false,eval e X.env)::starEach es X.env:=by rfl) (hpl:(backTo pos (starEach es X.env)).any (·.1)=false:=by rfl):PE X (.Call (.Name x p) (e::es) [] pos) (tCB r t):=by
 intro pins s σ H Q I h;refine wpAny_Call_Name_kw (Zdu I hg hm hv ?_ hn hdb);exact PyProof.Rows.callWith_builtin1 (thn (ha pos pins s σ H _ I h) λus s1 ⟨vs,H1,I1,r1,q1⟩=>hc pins s1 σ H1 vs us Q I1 r1 q1) he hpl
theorem Za0 (hc:CallR X (.type T) r) (hg:Gl X x) (hm:X.mg x=none) (hv:bootBuiltins x=some (.type T)) (ha:PA X (e::es) t) (hn:x ≠ "__name__":=by decide) (hdb:(x == ("__debug__":Str))=false:=by decide)
  (he:starEach (e::es) X.env=(false,eval e X.env)::starEach es X.env:=by rfl) (hpl:(backTo pos (starEach es X.env)).any (·.1)=false:=by rfl):PE X (.Call (.Name x p) (e::es) [] pos) (tCB r t):=by
 intro pins s σ H Q I h;refine wpAny_Call_Name_kw (Zdu I hg hm hv ?_ hn hdb);exact PyProof.Rows.callWith_type1 (thn (ha pos pins s σ H _ I h) λus s1 ⟨vs,H1,I1,r1,q1⟩=>hc pins s1 σ H1 vs us Q I1 r1 q1) he hpl
theorem Zkk (hc:CallR X (.type T) r) (hg:Gl X x) (hm:X.mg x=none) (hv:bootBuiltins x=some (.type T)) (hn:x ≠ "__name__":=by decide) (hdb:(x == ("__debug__":Str))=false:=by decide) :
  PE X (.Call (.Name x p) [] [] pos) (tCB r tNil):=by
 intro pins s σ H Q I h;refine wpAny_Call_Name_kw (Zdu I hg hm hv ?_ hn hdb);exact PyProof.Rows.callWith_type0 (hc pins s σ H [] [] Q I .nil h)
end
end L2
namespace HT
open PySem PyProof.Rows
def lexLt:List Int->List Int->Bool
 |[],[]=>false
 |[],_::_=>true
 |_::_,[]=>false
 |x::xs,y::ys=>if x=y then lexLt xs ys else decide (x<y)
theorem Zko (x y:Int) (xs ys:List Int):lexLt (x::xs) (y::ys)=if x=y then lexLt xs ys else decide (x<y):=rfl
theorem Zhd:lexLt [] []=false:=rfl
theorem Zfz (y:Int) (ys:List Int):lexLt [] (y::ys)=true:=rfl
theorem Zf2 (x:Int) (xs:List Int):lexLt (x::xs) []=false:=rfl
theorem Zn8 (A:Around) (s:Shared) (a:Int) (t:Tok) (c:Int) (u:Tok):∃e,SeqAt.EqAt A s (.int a t) (.int c u) e/\(e=true↔a=c):=
 ⟨(a == c),SeqAt.EqAt.int_int a t c u,by simp⟩
theorem Zn1 (A:Around) (s:Shared) (a:Int) (t:Tok) (c:Int) (u:Tok) (prog:Program) (w:World) (E:Value->Shared->Prop) (Q:Value->Shared->Prop) (h:Q (.bool (decide (a<c))) s) :
  wpAny (model prog w) A (richCompare .Lt (.int a t) (.int c u)) Q E s:=
 (PyProof.Rows.lt_int h:wpAny (model prog w) A (compareOp .Lt (.int a t) (.int c u)) Q E s)
section
open PySem.SeqAt
open PySem.AutoSeq1 (wpAny_loadPart')
open PySem.MeetsSeq PySem.MeetsSeq2 PySem.MeetsSeq3
theorem tuple_lt_ints (l b:Addr) (items items2:Array Value) (n n2:Nat) (dd dd2:Option Addr) (sl sl2:Array (Option Value)) (ns ms:List Int) (hi:IntsAre items.toList ns) (hj:IntsAre items2.toList ms) :
  Meets (Builtin.«tuple.__lt__» ⟨[.ref l,.ref b],[]⟩)
   (λ_ R s=>s.heap.get? l=some { cls:=.type "tuple",dict:=dd,data:=.seq items n,slots:=sl } /\ s.heap.get? b=some { cls:=.type "tuple",dict:=dd2,data:=.seq items2 n2,slots:=sl2 } ∧
    R (.ok (.ret (.bool (lexLt ns ms)))) s):=
 .of_wp λprog w A R s h=>by
  obtain⟨hp,g,d,tk,os⟩:=s;obtain⟨hl,hb,h⟩:=h;have f2:=AutoSeq1.sub_tuple_tuple;have z1:items.size=ns.length:=by rw[<- hi.length];simp
  have z2:items2.size=ms.length:=by rw[<- hj.length];simp
  wp_walk using wpAny_loadPart' hl,wpAny_loadPart' hb,wpAny_forIn_list _ (λrest b s'=>b.1=none/\s'=⟨hp,g,d,tk,os⟩ /\ ∃(vs ws:List Value) (ns' ms':List Int),rest=vs.zip ws ∧
   IntsAre vs ns' /\ IntsAre ws ms' /\ ns'.length+items2.size=ms'.length+items.size/\R (.ok (.ret (.bool (lexLt ns' ms')))) ⟨hp,g,d,tk,os⟩) _
  case turn=>
   rintro⟨y,x⟩ rest b s' ⟨hb',rfl,vs,ws,ns',ms',hz,hvi,hwi,hlen,hR⟩;cases hvi with
   |nil=>rw[List.zip_nil_left]at hz;cases hz
   |cons a t hvi'=>
    cases hwi with
    |nil=>rw[Wdx]at hz;cases hz
    |cons c u hwi'=>
     rw[Wcf]at hz;injection hz with hyx hrest
     injection hyx with hy hx
     subst hy hx;rw[Zko]at hR;simp only[Wap]at hlen;obtain⟨e,he,hiff⟩:=Zn8 A.in1 ⟨hp,g,d,tk,os⟩ a t c u;refine wpAny_bind (he prog w _ _ ?_);cases e with
     |true=>
      rw[if_pos (hiff.mp rfl)]at hR
      wp_walk
      exact⟨rfl,rfl,_,_,_,_,hrest,hvi',hwi',by omega,hR⟩
     |false=>
      rw[if_neg (λq=>absurd (hiff.mpr q) Waj)]at hR;have hri:=Zn1 A.in1 ⟨hp,g,d,tk,os⟩ a t c u prog w
      wp_walk using hri
      exact⟨_,rfl,by simpa using hR⟩
  case fin=>
   rintro⟨b1,b2⟩ s' ⟨hb',rfl,vs,ws,ns',ms',hz,hvi,hwi,hlen,hR⟩;simp only at hb';subst hb';have hv:lexLt ns' ms'=decide (items.size<items2.size):=by
    cases hvi with
    |nil=>
     cases hwi with
     |nil=>
      simp only[Wcq]at hlen;rw[Zhd];exact(decide_eq_false (by omega)).symm
     |cons c u hw=>
      simp only[Wcq,Wap]at hlen;rw[Zfz];exact(decide_eq_true (by omega)).symm
    |cons a t hv=>
     cases hwi with
     |nil=>
      simp only[Wcq,Wap]at hlen;rw[Zf2];exact(decide_eq_false (by omega)).symm
     |cons c u hw=>
      rw[Wcf]at hz;cases hz
   rw[hv]at hR
   wp_walk
   exact⟨_,rfl,by simpa [Builtin.Tuple.tupleCompareSizes] using hR⟩
  case h=>
   exact⟨rfl,rfl,items.toList,items2.toList,ns,ms,rfl,hi,hj,by omega,h⟩
end
section
variable {prog:Program}{w:World}{A:Around}{E:Value->Shared->Prop}{s:Shared}
theorem cat_tup {t b:Addr}{vs ws:List Value}{Q:Value->Shared->Prop}(ht:IsTup s.heap t vs.toArray) (hb:IsTup s.heap b ws.toArray) (hv:vs≠[])
  (h1:ws=[]->Q (.ref t) s) (h2:ws≠[]->Q (.ref s.heap.objs.size) { s with heap:=s.heap.push { cls:=.type "tuple",data:=.seq (vs++ws).toArray } })
  (hsz:vs.length+ws.length<=sizeLine):wpAny (model prog w) A (binaryOp .Add (.ref t) (.ref b)) Q E s:=by
 obtain⟨⟨cls,dd,data,sl⟩,ho,hc,n,hd⟩:=id ht;obtain⟨⟨cls2,dd2,data2,sl2⟩,ho2,hc2,n2,hd2⟩:=id hb;simp only at hc hd hc2 hd2;subst hc hd hc2 hd2;have e:vs.toArray++ws.toArray=(vs++ws).toArray:=by simp
 by_cases hw:ws=[]
 ·exact concat_meets ⟨_,ho,rfl⟩ ⟨_,ho2,rfl⟩ noFill_tuple_add seq_tuple_add PySem.F.slot_tuple_add PySem.F.entry_tuple_add (PySem.F.args_tuple_add_2 _ _)
   (tuple_addW1 t b vs.toArray ws.toArray n n2 dd dd2 sl sl2 (by simpa using hv) (by simp[hw])) ⟨ho,ho2,h1 hw⟩
 ·refine concat_meets ⟨_,ho,rfl⟩ ⟨_,ho2,rfl⟩ noFill_tuple_add seq_tuple_add PySem.F.slot_tuple_add PySem.F.entry_tuple_add (PySem.F.args_tuple_add_2 _ _)
   (tuple_addW2 t b vs.toArray ws.toArray n n2 dd dd2 sl sl2 (by simpa using hv) (by simpa using hw) (by rw[Wam,Wam];exact hsz)) ⟨ho,ho2,?_⟩
  rw[e];exact h2 hw
def sIx (n d:Nat):Option Int->Nat
 |none=>d
 |some v=>if v<0 then (v+(n:Int)).toNat else min v.toNat n
theorem sIx_none (n d:Nat):sIx n d none=d:=rfl
theorem sIx_nat (n d k:Nat):sIx n d (some (k:Int))=min k n:=by
 show (if (k:Int)<0 then ((k:Int)+(n:Int)).toNat else min (k:Int).toNat n)=min k n;rw[if_neg (by omega),Wa7]
theorem Ztc (n d:Nat) (hd:d<=n) (o:Option Int):sIx n d o<=n:=by
 cases o with
 |none=>exact hd
 |some v=>
  show (if v<0 then (v+(n:Int)).toNat else min v.toNat n)<=n;by_cases hv:v<0
  ·rw[if_pos hv];omega
  ·rw[if_neg hv];exact Nat.min_le_right _ _
theorem Zln (v:Int) (n d:Nat):(if v<0 then max (v+(n:Int)) 0 else min v (n:Int))=((sIx n d (some v):Nat):Int):=by
 show (if v<0 then max (v+(n:Int)) 0 else min v (n:Int))=(((if v<0 then (v+(n:Int)).toNat else min v.toNat n):Nat):Int);by_cases hv:v<0
 ·simp only[if_pos hv];omega
 ·simp only[if_neg hv];omega
theorem Zkw (lo hi:Option Int) (n:Nat):Builtin.Slice.sliceAdjust lo hi 1 (n:Int)=(((sIx n 0 lo:Nat):Int),((sIx n n hi:Nat):Int)):=by
 have h1:¬ ((1:Int)<0):=by omega
 unfold Builtin.Slice.sliceAdjust;simp only[h1,if_false];refine Prod.ext ?_ ?_
 ·cases lo with
  |none=>rfl
  |some v=>exact Zln v n 0
 ·cases hi with
  |none=>rfl
  |some v=>exact Zln v n n
theorem Zkq (i j:Nat):Builtin.Slice.slicePlaces (i:Int) (j:Int) 1=j-i:=by
 unfold Builtin.Slice.slicePlaces;have h1:(1:Int) > 0:=by omega
 simp only[h1,if_true,Int.ediv_one];split <;> omega
theorem Zf8 {v:Value}{o:Option Int}{Q:Option Int->Shared->Prop}(p:IsPart v o) (h:Q o s):wpAny (model prog w) A (Builtin.Slice.slicePartIndex v) Q E s:=by
 cases p with
 |none=>exact slicePart_none h
 |int i t=>exact slicePart_int h
theorem Zdg {sl:Addr}{vl vu:Value}{lo hi:Option Int}{n:Nat}{Q:Int × Int × Nat->Shared->Prop}(hs:s.heap.IsSliceOf sl vl vu .none) (pl:IsPart vl lo) (pu:IsPart vu hi)
  (h:Q (((sIx n 0 lo:Nat):Int),1,sIx n n hi-sIx n 0 lo) s):wpAny (model prog w) A (Builtin.Slice.sliceApplied (.ref sl) (pure (n:Int))) Q E s:=by
 obtain⟨os,hos,hcs,hds⟩:=id hs;unfold Builtin.Slice.sliceApplied Builtin.Slice.sliceFields;refine wpAny_bind (wpAny_bind (wpAny_field hos hds (x:=vl) rfl (wpAny_bind (wpAny_field hos hds (x:=vu) rfl (wpAny_bind (wpAny_field hos hds (x:=.none) rfl (wpAny_pure ?_)))))));refine wpAny_bind (slicePart_none ?_);show wpAny _ _ (if ((1:Int) == 0)=true then _ else _) _ _ s;rw[if_neg (by decide)];refine wpAny_bind (Zf8 pl (wpAny_bind (Zf8 pu (wpAny_bind (wpAny_pure ?_)))));show wpAny _ _ (match Builtin.Slice.sliceAdjust lo hi 1 (n:Int) with|(lo,hi)=>pure (lo,(1:Int),Builtin.Slice.slicePlaces lo hi 1)) _ _ s;rw[Zkw lo hi n];show wpAny _ _ (pure (((sIx n 0 lo:Nat):Int),(1:Int),Builtin.Slice.slicePlaces ((sIx n 0 lo:Nat):Int) ((sIx n n hi:Nat):Int) 1)) _ _ s;rw[Zkq];exact wpAny_pure h
theorem Zn5 (xs:Array Value) (i k:Nat):((Wa1 k).filterMap λ(m:Nat)=>xs[((i:Int)+(m:Int)*1).toNat]?).toArray=((xs.toList.drop i).take k).toArray:=by
 have e:(λ(m:Nat)=>xs[((i:Int)+(m:Int)*1).toNat]?)=λm=>xs[i+m]?:=by
  funext m
  have:((i:Int)+(m:Int)*1).toNat=i+m:=by omega
  rw[this]
 rw[e];have:=pick_run xs i k;rw[List.filterMap_map]at this;have e2:((λx=>xs[x]?)∘λx=>i+x)=λm=>xs[i+m]?:=rfl;rw[e2]at this;rw[this]
theorem getItem_tuple_cut {t sl:Addr}{items:Array Value}{vl vu:Value}{lo hi:Option Int}{Q:Value->Shared->Prop}(ht:IsTup s.heap t items) (hs:s.heap.IsSliceOf sl vl vu .none) (pl:IsPart vl lo) (pu:IsPart vu hi)
  (hw:¬ (sIx items.size 0 lo=0/\sIx items.size items.size hi=items.size))
  (h:Q (.ref s.heap.objs.size) { s with heap:=s.heap.push { cls:=.type "tuple",data:=.seq ((items.toList.drop (sIx items.size 0 lo)).take (sIx items.size items.size hi-sIx items.size 0 lo)).toArray } })
  (hsz:items.size<=sizeLine):wpAny (model prog w) A (getItem (.ref t) (.ref sl)) Q E s:=by
 have htake:sizeOk (.seq ((items.toList.drop (sIx items.size 0 lo)).take (sIx items.size items.size hi-sIx items.size 0 lo)).toArray):=by
  show ((items.toList.drop (sIx items.size 0 lo)).take (sIx items.size items.size hi-sIx items.size 0 lo)).toArray.size<=sizeLine;rw[Wam,Wbk,Wb5,Array.length_toList];omega
 have hj:sIx items.size items.size hi<=items.size:=Ztc _ _ (Wah _) hi;obtain⟨os,hos,hcs,hds⟩:=id hs;have hTs:s.TypeIs (.ref sl) "slice":=⟨os,hos,hcs⟩;unfold getItem
 try with_reducible refine wpAny_holding ?_
 first|refine wpAny_bind (wpAny_pure ?_)|skip
 refine wpAny_bind (wpAny_sequenceKey ht.typeIs (by decide) ?_);refine wpAny_bind (wpAny_callSpecial?_slot (name:=Str.ofString "__getitem__") ht.typeIs PyProof.Rows.slot_tuple_getitem
  (wpAny_call_entry PyProof.Rows.slot_tuple_getitem ht.typeIs entry_tuple_getitem ?_ (args_tuple_getitem _ _)))
 show wpAny _ _ (Builtin.Tuple.tupleItemsOf (.ref t) >>= _) _ _ s;refine wpAny_bind (tupleItemsOf_ ht ?_);refine wpAny_bind (wpAny_typeOf hTs ?_);rw[if_pos (by decide)];refine wpAny_bind (Zdg hs pl pu ?_);have hno:¬ ((((sIx items.size 0 lo:Nat):Int) == 0 && (1:Int) == 1 && (sIx items.size items.size hi-sIx items.size 0 lo) == items.size)=true):=by
  intro q;rw[Wbh,Wbh]at q;have q1:((sIx items.size 0 lo:Nat):Int)=0:=eq_of_beq q.1.1;have q2:sIx items.size items.size hi-sIx items.size 0 lo=items.size:=eq_of_beq q.2;exact hw ⟨by omega,by omega⟩
 show wpAny _ _ (if (((sIx items.size 0 lo:Nat):Int) == 0 && (1:Int) == 1 && (sIx items.size items.size hi-sIx items.size 0 lo) == items.size)=true then _ else _) _ _ s;rw[if_neg hno,Zn5]
 first
  |exact wpAny_bind (m:=Builtin.Tuple.tupleExact _) (wpAny_newObj_type (wpAny_pure ⟨_,rfl,wpAny_pure h⟩) htake)
  |exact wpAny_bind (m:=Builtin.Tuple.tupleExact _) (wpAny_newObj_type (wpAny_bind (wpAny_pure (wpAny_pure ⟨_,rfl,wpAny_pure h⟩))) htake)
  |exact wpAny_bind (wpAny_bind (m:=Builtin.Tuple.tupleExact _) (wpAny_newObj_type (wpAny_pure (wpAny_pure ⟨_,rfl,wpAny_pure h⟩)) htake))
  |exact wpAny_bind (wpAny_bind (m:=Builtin.Tuple.tupleExact _) (wpAny_newObj_type (wpAny_pure ⟨_,rfl,wpAny_pure h⟩) htake))
end
end HT
namespace L2
open PySem PySem.Spec PyProof.Rows
abbrev TO:=St->Hp->(Option Int->Hp->Prop)->Prop
def PO (X:Cx) (e:Option Expr) (t:TO):Prop:=
 ∀(pins:List (Addr × Obj)) (s:Shared) (σ:St) (H:Hp) (Q:Option Int->Hp->Prop),Inv X pins σ H s->t σ H Q →
  wpAny (model X.prog X.w) X.A (evalPart e X.env) (λu s'=>∃o H',Inv X pins σ H' s' /\ IsPart u o/\Q o H') X.xe s
def tNoPart:TO:=λ_ H Q=>Q none H
def tPart (t:TE):TO:=λσ H Q=>t σ H λx H1=>∃i,x=.int i/\Q (some i) H1
theorem Zct {ns:List Int}:∀{us:List Value},Vals (ns.map V.int) us->IntsAre us ns:=by
 induction ns with
 |nil=>intro us r;rw[List.map_nil]at r;cases r;exact .nil
 |cons n ns ih=>
  intro us r;rw[Wa4]at r;cases r with
  |cons r1 r2=>
   obtain⟨t,e⟩:=r1;subst e;exact .cons n t (ih r2)
section
variable {X:Cx}{e:Expr}{te:TE}{lo hi:Option Expr}{tl th:TO}{pos p2:Pos}
theorem Zc4:PO X none tNoPart:=by
 intro pins s σ H Q I h;rw[evalPart_none];exact wpAny_pure ⟨none,H,I,.none,h⟩
theorem Zda (h:PE X e te):PO X (some e) (tPart te):=by
 intro pins s σ H Q I hw;rw[evalPart_some];refine thn (h pins s σ H _ I hw) λu s1 ⟨x,H1,I1,r1,q1⟩=>?_;obtain⟨i,rfl,q⟩:=q1;obtain⟨t,rfl⟩:=r1;exact⟨some i,H1,I1,.int i t,q⟩
def SlR (X:Cx) (r:V->Option Int->Option Int->Hp->VK->Prop):Prop:=
 ∀(pins:List (Addr × Obj)) (s:Shared) (σ:St) (H:Hp) (x:V) (v vl vu:Value) (lo hi:Option Int) (sl:Addr) (Q:VK),Inv X pins σ H s->RelV x v->s.heap.IsSliceOf sl vl vu .none->IsPart vl lo->IsPart vu hi->r x lo hi H Q →
  ∃T id,typeLookup (.type T) "__getitem__" = pure (some (.builtin id))/\s.TypeIs v T/\wpAny (model X.prog X.w) X.A (getItem v (.ref sl)) (EP X pins σ Q) X.xe s
theorem SlR.or {r r':V->Option Int->Option Int->Hp->VK->Prop}(h:SlR X r) (h':SlR X r'):SlR X (λx lo hi H Q=>r x lo hi H Q\/r' x lo hi H Q):=by
 intro pins s σ H x v vl vu lo hi sl Q I rx hs pl pu q;rcases q with q|q
 ·exact h pins s σ H x v vl vu lo hi sl Q I rx hs pl pu q
 ·exact h' pins s σ H x v vl vu lo hi sl Q I rx hs pl pu q
def tSl (r:V->Option Int->Option Int->Hp->VK->Prop) (te:TE) (tl th:TO):TE:=λσ H Q=>te σ H λx H1=>tl σ H1 λl H2=>th σ H2 λu H3=>r x l u H3 Q
theorem Zca {r:V->Option Int->Option Int->Hp->VK->Prop}(hr:SlR X r) (he:PE X e te) (hl:PO X lo tl) (hu:PO X hi th):PE X (.Subscript e (.Slice lo hi none p2) pos) (tSl r te tl th):=by
 intro pins s σ H Q I h;refine Subscript_ (thn (he pins s σ H _ I h) λv s1 ⟨x,H1,I1,r1,q1⟩=>?_);refine wpAny_Slice (thn (hl pins s1 σ H1 _ I1 q1) λvl s2 ⟨l,H2,I2,pl,q2⟩=>thn (hu pins s2 σ H2 _ I2 q2) λvu s3 ⟨u,H3,I3,pu,q3⟩=>?_);rw[evalPart_none];refine wpAny_pure ?_;have I4:Inv X pins σ H3 { s3 with heap:=s3.heap.push { cls:=.type "slice",data:=.fields #[vl,vu,.none] } }:=I3.kept (t':=s3.toks) λb ob q=>Wac _ q;obtain⟨T,id,hT,ht,hg⟩:=hr pins { s3 with heap:=s3.heap.push { cls:=.type "slice",data:=.fields #[vl,vu,.none] } } σ H3 x v vl vu l u s3.heap.objs.size Q I4 r1 (Heap.IsSliceOf.new ..) pl pu q3;show wpAny (model X.prog X.w) X.A (subscriptTail e (.Slice lo hi none p2) v (.ref s3.heap.objs.size)) (EP X pins σ Q) X.xe { s3 with heap:=s3.heap.push { cls:=.type "slice",data:=.fields #[vl,vu,.none] } };exact tail_any (ops:=[.ref s3.heap.objs.size,v]) ht hT hg (by with_unfolding_all rfl)
def cutV (xs:List V) (lo hi:Option Int):List V:=(xs.drop (HT.sIx xs.length 0 lo)).take (HT.sIx xs.length xs.length hi-HT.sIx xs.length 0 lo)
theorem Zfq (xs:List V) (lo hi:Option Int):(cutV xs lo hi).length<=xs.length:=by
 unfold cutV;rw[Wbk,Wb5];omega
def rSlT (K:W.Frag):V->Option Int->Option Int->Hp->VK->Prop:=λx lo hi H Q=>∃a xs,x=.ref a/\SqT K H a xs ∧
 ¬ (HT.sIx xs.length 0 lo=0/\HT.sIx xs.length xs.length hi=xs.length)/\∀p,H p=none->Q (.ref p) (upd H p (.tup (cutV xs lo hi)))
theorem Zs0:SlR X (rSlT X.K):=by
 intro pins s σ H x v vl vu lo hi sl Q I rx hs pl pu h;obtain⟨a,xs,rfl,hx,hw,q⟩:=h;cases rx;obtain⟨its,r,ht,hz⟩:=I.tuple hx;have hlen:its.toArray.size=xs.length:=by rw[Wam];exact r.length.symm
 refine⟨"tuple",_,PyProof.Rows.slot_tuple_getitem.lookup,ht.typeIs,?_⟩;refine HT.getItem_tuple_cut ht hs pl pu (by rw[hlen];exact hw) ?_ (by rw[hlen];exact hz);rw[hlen];refine⟨.ref s.heap.objs.size,_,I.laid (t':=s.toks) (o:=.tup (cutV xs lo hi)) (λb ob q=>Wac _ q) (Wah _) ?_,rfl,q _ (I.hok.fresh (Wah _))⟩;exact⟨Wbq (Zfq xs lo hi) hz,_,(r.drop (HT.sIx xs.length 0 lo)).take (HT.sIx xs.length xs.length hi-HT.sIx xs.length 0 lo),IsTupN.new _ _⟩
def rCatT (K:W.Frag):R2:=λx y H Q=>∃a b xs ys,x=.ref a/\y=.ref b/\SqT K H a xs/\SqT K H b ys/\xs≠[]/\xs.length+ys.length<=sizeLine ∧
 (ys=[]->Q (.ref a) H)/\(ys≠[]->∀p,H p=none->Q (.ref p) (upd H p (.tup (xs++ys))))
theorem Vals.nil_iff {xs:List V}{us:List Value}(r:Vals xs us):us=[]↔xs=[]:=by
 cases r with
 |nil=>simp
 |cons _ _=>simp
theorem Zq6:OpR X (binaryOp .Add) (rCatT X.K):=by
 intro pins s σ H x y v u Q I rx ry h;obtain⟨a,b,xs,ys,rfl,rfl,ha,hb,hx,hz,q1,q2⟩:=h;cases rx;cases ry;obtain⟨its,r1,p1,_⟩:=I.tuple ha;obtain⟨its2,r2,p2,_⟩:=I.tuple hb;refine HT.cat_tup p1 p2 (λz=>hx (r1.nil_iff.mp z)) (λz=>⟨.ref a,H,I,rfl,q1 (r2.nil_iff.mp z)⟩) (λz=>?_) (by rw[<- r1.length,<- r2.length];exact hz);refine⟨.ref s.heap.objs.size,_,I.laid (t':=s.toks) (o:=.tup (xs++ys)) (λb ob q=>Wac _ q) (Wah _) ?_,rfl,q2 (λw=>z (r2.nil_iff.mpr w)) _ (I.hok.fresh (Wah _))⟩;exact⟨by rw[Wai];exact hz,_,r1.append r2,IsTupN.new _ _⟩
end
end L2
namespace L2
open PySem PySem.Spec PyProof.Rows
def ixN (n:Nat) (i:Int):Option Nat:=if 0<=i then (if i<n then some i.toNat else none) else if -(n:Int)<=i then some (i+n).toNat else none
def atI {α:Type}(xs:List α) (i:Int):Option α:=(ixN xs.length i).bind λj=>xs[j]?
theorem Zlh {n:Nat}{i:Int}{j:Nat}(h:ixN n i=some j):seqIndex? i n=some j/\j<n /\ -(n:Int)<=i/\i<n:=by
 unfold ixN at h;by_cases h0:0<=i
 ·rw[if_pos h0]at h
  by_cases h1:i<n
  ·rw[if_pos h1]at h
   have e:i.toNat=j:=Wbd.inj h;exact⟨by rw[seqIndex_of h0 h1,e],by omega,by omega,h1⟩
  ·rw[if_neg h1]at h;cases h
 ·rw[if_neg h0]at h
  by_cases h1:-(n:Int)<=i
  ·rw[if_pos h1]at h
   have e:(i+n).toNat=j:=Wbd.inj h;exact⟨by rw[seqIndex_neg (by omega) h1,e],by omega,h1,by omega⟩
  ·rw[if_neg h1]at h;cases h
theorem Zit {α:Type}{xs:List α}{i:Int}{v:α}(h:atI xs i=some v):∃j,seqIndex? i xs.length=some j/\xs[j]?=some v/\j<xs.length /\ -(xs.length:Int)<=i/\i<xs.length:=by
 unfold atI at h;cases e:ixN xs.length i with
 |none=>rw[e]at h;cases h
 |some j=>
  rw[e]at h;obtain⟨h1,h2,h3,h4⟩:=Zlh e;exact⟨j,h1,h,h2,h3,h4⟩
theorem Zc6 {α:Type}{xs:List α}{j:Nat}{v:α}(h:xs[j]?=some v):atI xs (j:Int)=some v:=by
 have hj:j<xs.length:=(Wae.mp h).1;have e:ixN xs.length (j:Int)=some j:=by
  unfold ixN;rw[if_pos (by omega),if_pos (by omega)];simp
 unfold atI;rw[e];exact h
def PlainIx (b:Expr):Prop:=∀o i,subscripted b false o i=operate [o,i] (getItem o i)
def IxR (X:Cx) (r:R2):Prop:=
 ∀(value slice:Expr) (pins:List (Addr × Obj)) (s:Shared) (σ:St) (H:Hp) (x y:V) (v u:Value) (Q:VK),Inv X pins σ H s->RelV x v->RelV y u->r x y H Q →
  subscripted slice false v u=operate [v,u] (getItem v u)->wpAny (model X.prog X.w) X.A (subscriptTail value slice v u) (EP X pins σ Q) X.xe s
def MtR (X:Cx) (id:String) (r:V->List V->Hp->VK->Prop):Prop:=
 ∀(pins:List (Addr × Obj)) (s:Shared) (σ:St) (H:Hp) (x:V) (xs:List V) (v:Value) (us:List Value) (Q:VK),Inv X pins σ H s->RelV x v->Vals xs us->r x xs H Q →
  wpAny (model X.prog X.w) X.A (call (.builtin id) (v::us)) (EP X pins σ Q) X.xe s
section
variable {X:Cx}{a b:Expr}{ta tb:TE}{pos:Pos}
theorem IxR.or {r r':R2}(h:IxR X r) (h':IxR X r'):IxR X (λx y H Q=>r x y H Q\/r' x y H Q):=by
 intro value slice pins s σ H x y v u Q I rx ry q hs;rcases q with q|q
 ·exact h value slice pins s σ H x y v u Q I rx ry q hs
 ·exact h' value slice pins s σ H x y v u Q I rx ry q hs
theorem Zbo {r:R2}(hr:IxR X r) (ha:PE X a ta) (hb:PE X b tb) (hs:PlainIx b):PE X (.Subscript a b pos) (tOp r ta tb):=by
 intro pins s σ H Q I h;exact Subscript_ (binT ha hb I h λv u s2 x y H2 I2 rx ry q=>hr a b pins s2 σ H2 x y v u Q I2 rx ry q (hs _ _))
def rIxL (K:W.Frag):R2:=λx y H Q=>∃p xs i v,x=.ref p/\y=.int i/\SqL K H p xs/\atI xs i=some v/\Q v H
def rIxT (K:W.Frag):R2:=λx y H Q=>∃p xs i v,x=.ref p/\y=.int i/\SqT K H p xs/\atI xs i=some v/\Q v H
def rIxS:R2:=λx y H Q=>∃z i c,x=.str z/\y=.int i/\z.length<=sizeLine/\atI z.cps.toList i=some c/\Q (.str ⟨#[c]⟩) H
theorem Zrs:IxR X (rIxL X.K):=by
 intro value slice pins s σ H x y v u Q I rx ry h hs;obtain⟨p,xs,i,z,rfl,rfl,hq,he,q⟩:=h;cases rx;obtain⟨t,rfl⟩:=ry;obtain⟨its,r,pl,hz⟩:=I.list hq;obtain⟨j,h1,h2,h3,h4,h5⟩:=Zit he;obtain⟨w,ew,rw'⟩:=r.get h2;have hl:=r.length;have hn:=line63;have fin:EP X pins σ Q w s:=⟨z,H,I,rw',q⟩;by_cases h0:0<=i
 ·have hj:i.toNat=j:=by
   rw[seqIndex_of h0 h5]at h1;exact Wbd.inj h1
  exact item_listR pl.isList h0 (by omega) (by rw[hj];simpa using ew) fin hs
 ·have hj:(i+(its.toArray.size:Int)).toNat=j:=by
   rw[seqIndex_neg (by omega) h4]at h1;rw[Wam,<- hl];exact Wbd.inj h1
  exact subscriptTail_builtinR (x:=w) pl.isList.typeIs slot_list_getitem.lookup
   (wpAny_getItem_list_neg (Q:=λr s'=>r=w/\EP X pins σ Q r s') pl.isList (by omega) (by rw[Wam] <;> omega) (by omega) (by rw[hj];simpa using ew) ⟨rfl,fin⟩) hs
theorem Ztt:IxR X (rIxT X.K):=by
 intro value slice pins s σ H x y v u Q I rx ry h hs;obtain⟨p,xs,i,z,rfl,rfl,hq,he,q⟩:=h;cases rx;obtain⟨t,rfl⟩:=ry;obtain⟨its,r,pl,hz⟩:=I.tuple hq;obtain⟨j,h1,h2,h3,h4,h5⟩:=Zit he;obtain⟨w,ew,rw'⟩:=r.get h2;have hl:=r.length;have hn:=line63;have fin:EP X pins σ Q w s:=⟨z,H,I,rw',q⟩;exact subscriptTail_builtinR (x:=w) pl.typeIs slot_tuple_getitem.lookup
  (getItem_tuple (j:=j) (Q:=λr s'=>r=w/\EP X pins σ Q r s') pl (by omega) (by omega) (by rw[Wam,<- hl];exact h1) (by simpa using ew) ⟨rfl,fin⟩) hs
theorem Zr7:IxR X rIxS:=by
 intro value slice pins s σ H x y v u Q I rx ry h hs;obtain⟨z,i,c,rfl,rfl,hz,he,q⟩:=h;obtain⟨t,rfl⟩:=rx;obtain⟨t',rfl⟩:=ry;obtain⟨j,h1,h2,h3,h4,h5⟩:=Zit he;have hl:z.cps.toList.length=z.length:=by simp[Str.length]
 rw[hl]at h1 h4 h5;have hn:=line63;exact tail_any (typeIs_str s z t) slot_str_getitem.lookup (getItem_str (c:=c) (by
  have e1:decide (i < -(2 ^ 63:Int))=false:=decide_eq_false (by omega);have e2:decide (i ≥ 2 ^ 63)=false:=decide_eq_false (by omega);rw[e1,e2,Bool.or_false]) (by rw[h1];simpa using h2) ⟨.str ⟨#[c]⟩,H,I.tok _,⟨_,rfl⟩,q⟩) hs
def rIx (K:W.Frag):R2:=λx y H Q=>rIxL K x y H Q\/rIxT K x y H Q\/rIxS x y H Q
theorem Ztq:IxR X (rIx X.K):=Zrs.or (Ztt.or Zr7)
theorem Zkv (its:List Value) (n j:Nat) (u:Value):Obj.mapSeq (·.setIfInBounds j u) { cls:=.type "list",data:=.seq its.toArray n } = { cls:=.type "list",data:=.seq (its.set j u).toArray n }:=by
 simp[Obj.mapSeq]
theorem Inv.lst {pins:List (Addr × Obj)}{σ:St}{H:Hp}{s:Shared}{p:Addr}{xs:List V}(I:Inv X pins σ H s) (h:H p=some (.lst xs)) :
  ∃(its:List Value) (n:Nat),Vals xs its/\s.heap.get? p=some { cls:=.type "list",data:=.seq its.toArray n } /\ xs.length<=sizeLine:=by
 obtain⟨z,its,n,r,e⟩:=I.hok p _ h;exact⟨its,n,r,e,z⟩
theorem Inv.lstUpd {pins:List (Addr × Obj)}{σ:St}{H:Hp}{s:Shared}{p:Addr}{xs ys:List V}{its its':List Value}{n n':Nat}{f:Obj->Obj}(I:Inv X pins σ H s) (h:H p=some (.lst xs))
  (ho:s.heap.get? p=some { cls:=.type "list",data:=.seq its.toArray n }) (hf:f { cls:=.type "list",data:=.seq its.toArray n } = { cls:=.type "list",data:=.seq its'.toArray n' }) (r:Vals ys its') (hz:ys.length<=sizeLine) (t:Nat) :
  Inv X pins σ (upd H p (.lst ys)) { s with heap:=s.heap.update p f,toks:=t }:=by
 have e:(s.heap.update p f).get? p=some { cls:=.type "list",data:=.seq its'.toArray n' }:=by
  rw[Wcg f ho (by rw[hf] <;> rfl),hf]
 refine I.write (x:=p) (e:=p) (by rw[h];trivial) (.inl rfl) (λb u hb q=>(Wbr _ _ (Ne.symm hb)).trans q) ⟨_,e⟩ ?_;exact⟨hz,its',n',r,e⟩
def rSetL:V->V->V->Hp->(Hp->Prop)->Prop:=λo i v H Q=>∃p xs k j,o=.ref p/\i=.int k/\H p=some (.lst xs)/\ixN xs.length k=some j/\Q (upd H p (.lst (xs.set j v)))
theorem Zn6:PSet X rSetL:=by
 intro pins s σ H o i v ov iv u Q I ro ri rv h;obtain⟨p,xs,k,j,rfl,rfl,hp,hj,q⟩:=h;cases ro;obtain⟨t,rfl⟩:=ri;obtain⟨its,n,r,ho,hz⟩:=I.lst hp;obtain⟨h1,h2,h3,h4⟩:=Zlh hj;have hl:=r.length;have hn:=line63;have I':Inv X pins σ (upd H p (.lst (xs.set j v))) { s with heap:=s.heap.update p (Obj.mapSeq (·.setIfInBounds j u)) }:=
  I.lstUpd hp ho (Zkv its n j u) (r.set rv j) (by rw[Wcx];exact hz) s.toks
 by_cases h0:0<=k
 ·have hk:k.toNat=j:=by
   rw[seqIndex_of h0 h4]at h1;exact Wbd.inj h1
  exact PySem.W.ki_setAt ho h0 (by omega) (by rw[Wam,<- hl];exact h4) (by rw[hk];exact⟨_,I',q⟩)
 ·have hk:(k+(its.toArray.size:Int)).toNat=j:=by
   rw[seqIndex_neg (by omega) h3]at h1;rw[Wam,<- hl];exact Wbd.inj h1
  exact PySem.W.ki_setBack ho (by omega) (by rw[Wam,<- hl];exact h3) (by omega) (by rw[hk];exact⟨_,I',q⟩)
theorem Zh9 (lo hi:Option Int) (n:Nat):(sliceBounds lo hi none n).1=((HT.sIx n 0 lo:Nat):Int)/\(sliceBounds lo hi none n).2.1=((HT.sIx n n hi:Nat):Int)/\(sliceBounds lo hi none n).2.2=1:=by
 refine⟨?_,?_,rfl⟩
 ·cases lo with
  |none=>simp[sliceBounds,HT.sIx]
  |some i=>
   simp only[sliceBounds,HT.sIx,Option.getD_none,show (1:Int) > 0 by decide,if_true];by_cases h:i<0
   ·simp only[h,if_true] <;> omega
   ·simp only[h,if_false] <;> omega
 ·cases hi with
  |none=>simp[sliceBounds,HT.sIx]
  |some i=>
   simp only[sliceBounds,HT.sIx,Option.getD_none,show (1:Int) > 0 by decide,if_true];by_cases h:i<0
   ·simp only[h,if_true] <;> omega
   ·simp only[h,if_false] <;> omega
theorem Zg1 (its:List Value) (lo hi:Option Int):slicePick its.toArray lo hi none=((its.drop (HT.sIx its.length 0 lo)).take (HT.sIx its.length its.length hi-HT.sIx its.length 0 lo)).toArray:=by
 obtain⟨h1,h2,h3⟩:=Zh9 lo hi its.toArray.size;unfold slicePick;rw[h1,h2,h3];simp only[sliceRange_one,pick_run,Wam] <;> rfl
def rSlL (K:W.Frag):V->Option Int->Option Int->Hp->VK->Prop:=λx lo hi H Q=>∃a xs,x=.ref a/\SqL K H a xs/\∀p,H p=none->Q (.ref p) (upd H p (.lst (cutV xs lo hi)))
theorem Zqq:SlR X (rSlL X.K):=by
 intro pins s σ H x v vl vu lo hi sl Q I rx hs pl pu h;obtain⟨a,xs,rfl,hx,q⟩:=h;cases rx;obtain⟨its,r,ht,hz⟩:=I.list hx;have hlen:=r.length;refine⟨"list",_,slot_list_getitem.lookup,ht.isList.typeIs,?_⟩;refine wpAny_getItem_list_slice ht.isList hs pl pu .none (by simp) ?_ (by rw[Wam] <;> omega)
 rw[Zg1,<- hlen];refine⟨.ref s.heap.objs.size,_,I.laid (t':=s.toks) (o:=.lst (cutV xs lo hi)) (λb ob q=>Wac _ q) (Wah _) ?_,rfl,q _ (I.hok.fresh (Wah _))⟩;exact⟨Wbq (Zfq xs lo hi) hz,_,0,(r.drop (HT.sIx xs.length 0 lo)).take (HT.sIx xs.length xs.length hi-HT.sIx xs.length 0 lo),Wao _ rfl⟩
def flatV:V->Bool
 |.non=>true
 |.bl _=>true
 |.int _=>true
 |.str _=>true
 |_=>false
def eqV:V->V->Bool
 |.non,.non=>true
 |.bl a,.bl b=>a == b
 |.bl a,.int b=>(if a then 1 else 0) == b
 |.int a,.bl b=>a == (if b then 1 else 0)
 |.int a,.int b=>a == b
 |.str a,.str b=>a == b
 |_,_=>false
theorem Zpq {A:Around}{s:Shared}{y x:V}{u v:Value}(ry:RelV y u) (rx:RelV x v) (fy:flatV y=true) (fx:flatV x=true):SeqAt.EqAt A s u v (eqV y x):=by
 cases y with
 |non=>
  cases ry;cases x with
  |non=>cases rx;exact SeqAt.EqAt.same _
  |bl b=>cases rx;exact SeqAt.EqAt.none_bool b
  |int b=>obtain⟨t,rfl⟩:=rx;exact SeqAt.EqAt.none_int b t
  |str b=>obtain⟨t,rfl⟩:=rx;exact SeqAt.EqAt.none_str b t
  |_=>exact absurd (show false=true from fx) Waj
 |bl a=>
  cases ry;cases x with
  |non=>cases rx;exact SeqAt.EqAt.bool_none a
  |bl b=>cases rx;exact SeqAt.EqAt.bool_bool a b
  |int b=>obtain⟨t,rfl⟩:=rx;exact SeqAt.EqAt.bool_int a b t
  |str b=>obtain⟨t,rfl⟩:=rx;exact SeqAt.EqAt.bool_str a b t
  |_=>exact absurd (show false=true from fx) Waj
 |int a=>
  obtain⟨t',rfl⟩:=ry;cases x with
  |non=>cases rx;exact SeqAt.EqAt.int_none a t'
  |bl b=>cases rx;exact SeqAt.EqAt.int_bool a t' b
  |int b=>obtain⟨t,rfl⟩:=rx;exact SeqAt.EqAt.int_int a t' b t
  |str b=>obtain⟨t,rfl⟩:=rx;exact SeqAt.EqAt.int_str a t' b t
  |_=>exact absurd (show false=true from fx) Waj
 |str a=>
  obtain⟨t',rfl⟩:=ry;cases x with
  |non=>cases rx;exact SeqAt.EqAt.str_none a t'
  |bl b=>cases rx;exact SeqAt.EqAt.str_bool a t' b
  |int b=>obtain⟨t,rfl⟩:=rx;exact SeqAt.EqAt.str_int a t' b t
  |str b=>obtain⟨t,rfl⟩:=rx;exact SeqAt.EqAt.str_str a t' b t
  |_=>exact absurd (show false=true from fx) Waj
 |_=>exact absurd (show false=true from fy) Waj
def eqU (x:V) (u:Value):Bool:=match u with
 |.none=>eqV .non x
 |.bool b=>eqV (.bl b) x
 |.int i _=>eqV (.int i) x
 |.str z _=>eqV (.str z) x
 |_=>false
theorem Zjt {x y:V}{u:Value}(r:RelV y u) (f:flatV y=true):eqU x u=eqV y x:=by
 cases y with
 |non=>cases r;rfl
 |bl b=>cases r;rfl
 |int i=>obtain⟨t,rfl⟩:=r;rfl
 |str z=>obtain⟨t,rfl⟩:=r;rfl
 |_=>exact absurd (show false=true from f) Waj
theorem Zjc {x:V}:∀{xs:List V}{us:List Value},Vals xs us->xs.all flatV=true->us.any (eqU x)=xs.any λy=>eqV y x
 |_,_,.nil,_=>rfl
 |y::xs,u::us,.cons r t,f=>by
  rw[List.all_cons,Wbh]at f;rw[Wcz,Wcz,Zjt r f.1,Zjc t f.2]
theorem Zhl {A:Around}{s:Shared}{x:V}{v:Value}(rx:RelV x v) (fx:flatV x=true):∀{xs:List V}{us:List Value},Vals xs us->xs.all flatV=true->∀u∈us,SeqAt.EqAt A s u v (eqU x u)
 |_,_,.nil,_=>λu hu=>by cases hu
 |y::xs,u::us,.cons r t,f=>λu' hu=>by
  rw[List.all_cons,Wbh]at f;rcases Wan.mp hu with rfl|hu
  ·rw[Zjt r f.1];exact Zpq r rx f.1 fx
  ·exact Zhl rx fx t f.2 u' hu
def inV (x:V) (xs:List V):Bool:=xs.any λy=>eqV y x
def rIn (K:W.Frag) (neg:Bool):R2:=λx y H Q=>∃p xs,y=.ref p/\(SqL K H p xs\/SqT K H p xs)/\flatV x=true/\xs.all flatV=true/\Q (.bl (if neg then !inV x xs else inV x xs)) H
theorem Zhr:OpR X (compareOp .NotIn) (rIn X.K true):=by
 intro pins s σ H x y v u Q I rx ry h;obtain⟨p,xs,rfl,hq,fx,fs,q⟩:=h;cases ry;rcases hq with hq|hq
 ·obtain⟨its,r,pl,hz⟩:=I.list hq
  refine SeqAt.notIn_listAt (eqU x) pl.isList (λw hw=>Zhl rx fx r fs w (by simpa using hw)) ⟨.bl _,H,I,rfl,?_⟩;rw[show its.toArray.any (eqU x)=its.any (eqU x) by simp,Zjc r fs];exact q
 ·obtain⟨its,r,pl,hz⟩:=I.tuple hq
  refine SeqAt.notIn_tupleAt (eqU x) pl (λw hw=>Zhl rx fx r fs w (by simpa using hw)) ⟨.bl _,H,I,rfl,?_⟩;rw[show its.toArray.any (eqU x)=its.any (eqU x) by simp,Zjc r fs];exact q
theorem Zh5:CallR X (.builtin "len") (λxs H Q=>∃p ys,xs=[.ref p]/\(SqL X.K H p ys\/SqT X.K H p ys)/\Q (.int ys.length) H):=by
 intro pins s σ H xs us Q I r h;obtain⟨p,ys,rfl,hq,q⟩:=h;obtain⟨u,rfl,rx⟩:=vals1 r;cases rx;have hn:=line63;rcases hq with hq|hq
 ·obtain⟨its,r',pl,hz⟩:=I.list hq
  have hlen:=r'.length;exact Calls.call_len_list pl.isList (by simp only[Wam] <;> omega) ⟨.int ys.length,H,I.tok _,⟨s.toks+1,by rw[Wam,hlen]⟩,q⟩
 ·obtain⟨its,r',pl,hz⟩:=I.tuple hq
  have hlen:=r'.length;exact len_tuple pl (by simp only[Wam] <;> omega) ⟨.int ys.length,H,I.tok _,⟨s.toks+1,by rw[Wam,hlen]⟩,q⟩
theorem CallR.or {f:Value}{r r':List V->Hp->VK->Prop}(h:CallR X f r) (h':CallR X f r'):CallR X f (λxs H Q=>r xs H Q\/r' xs H Q):=by
 intro pins s σ H xs us Q I rs q;rcases q with q|q
 ·exact h pins s σ H xs us Q I rs q
 ·exact h' pins s σ H xs us Q I rs q
theorem Zhw:CallR X (.type "list") (λxs H Q=>∃p ys,xs=[.ref p]/\(SqL X.K H p ys\/SqT X.K H p ys)/\∀l,H l=none->Q (.ref l) (upd H l (.lst ys))):=by
 intro pins s σ H xs us Q I r h;obtain⟨p,ys,rfl,hq,q⟩:=h;obtain⟨u,rfl,rx⟩:=vals1 r;cases rx;have fin:∀(its:List Value),Vals ys its->ys.length<=sizeLine->∀(h':Heap) (c':Nat),(∀b o',s.heap.get? b=some o' -> h'.get? b=some o') →
   h'.get? s.heap.objs.size=some { cls:=.type "list",dict:=none,data:=.seq its.toArray c',slots:=#[] } -> EP X pins σ Q (.ref s.heap.objs.size) { s with heap:=h' }:=λits r' hz h' c' kp e=>
  ⟨.ref s.heap.objs.size,_,I.laid (t':=s.toks) kp (Wah _) (show ObjOk X.prog X.w _ h' _ (.lst ys) from ⟨hz,its,c',r',e⟩),rfl,q _ (I.hok.fresh (Wah _))⟩
 rcases hq with hq|hq
 ·obtain⟨its,r',pl,hz⟩:=I.list hq
  have hlen:=r'.length;obtain⟨o,ho,hc,n,hd⟩:=pl.isList;exact call_list_seq p (.inl rfl) ho hc hd (λh' c' kp e=>fin its r' hz h' c' kp e) (by simp only[Wam] <;> omega)
 ·obtain⟨its,r',pl,hz⟩:=I.tuple hq
  have hlen:=r'.length;obtain⟨o,ho,hc,n,hd⟩:=pl;exact call_list_seq p (.inr rfl) ho hc hd (λh' c' kp e=>fin its r' hz h' c' kp e) (by simp only[Wam] <;> omega)
theorem Zhf:CallR X (.type "tuple") (λxs H Q=>∃p ys,xs=[.ref p]/\((SqL X.K H p ys/\∀l,H l=none->Q (.ref l) (upd H l (.tup ys)))\/(SqT X.K H p ys/\Q (.ref p) H))):=by
 intro pins s σ H xs us Q I r h;obtain⟨p,ys,rfl,h⟩:=h;obtain⟨u,rfl,rx⟩:=vals1 r;cases rx;rcases h with ⟨hq,q⟩|⟨hq,q⟩
 ·obtain⟨its,r',pl,hz⟩:=I.list hq
  have hlen:=r'.length;refine call_tuple_list pl.isList (λh' kp=>?_) (by simp only[Wam] <;> omega)
  have I1:Inv X pins σ H { s with heap:=h' }:=I.kept (t':=s.toks) kp;have I2:Inv X pins σ (upd H h'.objs.size (.tup ys)) { s with heap:=h'.push { cls:=.type "tuple",data:=.seq its.toArray } }:=
   I1.laid (t':=s.toks) (λb o e=>Wac _ e) (Wah _) (show ObjOk X.prog X.w _ _ _ (.tup ys) from ⟨hz,its,r',IsTupN.new _ _⟩)
  exact⟨.ref h'.objs.size,_,I2,rfl,q _ (I1.hok.fresh (Wah _))⟩
 ·obtain⟨its,r',pl,hz⟩:=I.tuple hq
  exact call_tuple_same pl ⟨.ref p,H,I,rfl,q⟩
def tyV (K:W.Frag) (T:String) (x:V) (H:Hp):Prop:=match x with
 |.str _=>T = "str"
 |.int _=>T = "int"
 |.ref p=>(T = "list" /\ ∃xs,SqL K H p xs)\/(T = "tuple" /\ ((∃o,K.lookup p=some o/\o.cls=.type "tuple" /\ o.dict=none)\/∃xs,H p=some (.tup xs))) ∨
   (T = "dict" /\ ((∃kvs,H p=some (.dK kvs))\/∃kvs,H p=some (.dT kvs)))\/(T = "set" /\ ∃S n,H p=some (.set S n))
 |_=>False
theorem Ztd {pins:List (Addr × Obj)}{σ:St}{H:Hp}{s:Shared}{T:String}{x:V}{v:Value}(I:Inv X pins σ H s) (r:RelV x v) (ty:tyV X.K T x H) :
  s.TypeIs v T/\∀a,v=.ref a->∃ob,s.heap.get? a=some ob/\ob.dict=none:=by
 cases x with
 |str z=>
  obtain⟨t,rfl⟩:=r;cases (show T = "str" from ty);exact⟨typeIs_str s z t,λ_ e=>nomatch e⟩
 |int i=>
  obtain⟨t,rfl⟩:=r;cases (show T = "int" from ty);exact⟨typeIs_int s i t,λ_ e=>nomatch e⟩
 |ref p=>
  cases r;rcases ty with ⟨rfl,xs,hq⟩|⟨rfl,(⟨o,hk,hc,hd⟩|⟨xs,hk⟩)⟩|⟨rfl,hk⟩|⟨rfl,S,n,hk⟩
  ·obtain⟨its,_,pl,_⟩:=I.list hq
   refine⟨pl.isList.typeIs,λa e=>?_⟩;cases e;obtain⟨o,n,e,c,hd,_⟩:=pl;exact⟨o,e,hd⟩
  ·refine⟨⟨o,I.kIn p o hk,hc⟩,λa e=>?_⟩
   cases e;exact⟨o,I.kIn _ o hk,hd⟩
  ·obtain⟨_,_,_,o,e,⟨hc,_⟩,hd⟩:=I.hok p _ hk
   refine⟨⟨o,e,hc⟩,λa e2=>?_⟩;cases e2;exact⟨o,e,hd⟩
  ·have z:∃o,s.heap.get? p=some o/\o.ExactDict:=by
    rcases hk with ⟨kvs,hk⟩|⟨kvs,hk⟩
    ·obtain⟨_,_,_,_,o,_,_,e,ex,_⟩:=I.hok p _ hk
     exact⟨o,e,ex⟩
    ·obtain⟨_,_,_,_,o,_,_,e,ex,_⟩:=I.hok p _ hk
     exact⟨o,e,ex⟩
   obtain⟨o,e,ex⟩:=z;refine⟨⟨o,e,ex.1⟩,λa e2=>?_⟩;cases e2;exact⟨o,e,ex.2.1⟩
  ·obtain⟨o,_,_,_,e,ex,_⟩:=I.hok p _ hk
   refine⟨⟨o,e,ex.1⟩,λa e2=>?_⟩;cases e2;exact⟨o,e,ex.2.1⟩
 |_=>exact False.elim ty
def tBM (K:W.Frag) (T:String) (r:V->List V->Hp->VK->Prop) (to:TE) (t:TA):TE:=λσ H Q=>to σ H λx H1=>tyV K T x H1/\t σ H1 λxs H2=>r x xs H2 Q
variable {o e:Expr}{es:List Expr}{to:TE}{t:TA}{name:Str}{apos cpos:Pos}{T id:String}{r:V->List V->Hp->VK->Prop}
theorem Zt5 (pa:PlainAttrs T) (slot:Slot T name id) (hty:typeOf (.builtin id)=pure (.type "method_descriptor")) (hm:MtR X id r) (ho:PE X o to) (ha:PA X (e::es) t)
  (hbase:attributeBase o name X.env (eval o X.env)=eval o X.env:=by rfl)
  (hfew:((backTo cpos (starEach (e::es) X.env)).all (λx=>!x.1) && (backToKw cpos (keywordEach [] X.env)).all (λx=>x.1.isSome)
   && decide ((e::es).length+([]:List Keyword).length+(if ([]:List Keyword).isEmpty then 0 else 1)<30))=true:=by rfl)
  (hline:(apos.endLine == cpos.line)=true:=by rfl) (hs:starEach (e::es) X.env=(false,eval e X.env)::starEach es X.env:=by rfl) (hplain:(backTo cpos (starEach es X.env)).any (·.1)=false:=by rfl) :
  PE X (.Call (.Attribute o name apos) (e::es) [] cpos) (tBM X.K T r to t):=by
 intro pins s σ H Q I h;refine wpAny_Call_method_late hbase hfew hline rfl (thn (ho pins s σ H _ I h) λv s1 ⟨x,H1,I1,r1,ty,q1⟩=>?_);obtain⟨h1,h2⟩:=Ztd I1 r1 ty;refine⟨T,id,pa,slot,hty,h1,h2,?_⟩;have hA:=ha cpos pins s1 σ H1 _ I1 q1;rw[hs]at hA ⊢;refine Calls.callWith_builtin (by show (false || (backTo cpos (starEach es X.env)).any (·.1))=false;rw[hplain] <;> rfl) (Calls.evalArgs_plain ?_)
 exact thn hA λus s2 ⟨vs,H2,I2,r2,q2⟩=>hm pins s2 σ H2 x vs v us Q I2 r1 r2 q2
end
end L2
namespace L2
open PySem PySem.Spec PyProof.Rows
def MtM (X:Cx) (id:String) (r:V->List V->Hp->VK->Prop):Prop:=
 ∀(pins:List (Addr × Obj)) (s:Shared) (σ:St) (H:Hp) (x:V) (xs:List V) (v:Value) (us:List Value) (Q:VK),Inv X pins σ H s->RelV x v->Vals xs us->r x xs H Q →
  wpAny (model X.prog X.w) X.A (call (.builtin id) (v::us)) (EP X pins σ Q) X.xe s
theorem Vals.one:∀{x:V}{us:List Value},Vals [x] us->∃u,us=[u]/\RelV x u:=by
 intro x us h;cases h with|cons r t=>cases t;exact⟨_,rfl,r⟩
theorem Vals.two:∀{x y:V}{us:List Value},Vals [x,y] us->∃u v,us=[u,v]/\RelV x u/\RelV y v:=by
 intro x y us h;cases h with|cons r t=>cases t with|cons q t=>cases t;exact⟨_,_,rfl,r,q⟩
section
variable {X:Cx}{pins:List (Addr × Obj)}{σ:St}{H:Hp}{s:Shared}{l b:Addr}{xs ys zs:List V}
theorem Inv.lset {its its':List Value}{n:Nat}{f:Array Value->Array Value}{t':Nat}(I:Inv X pins σ H s) (hH:H l=some (.lst xs))
  (e:s.heap.get? l=some { cls:=.type "list",data:=.seq its.toArray n }) (hf:f its.toArray=its'.toArray) (hv:Vals ys its') (hz:ys.length<=sizeLine) :
  Inv X pins σ (upd H l (.lst ys)) { s with heap:=s.heap.update l (Obj.mapSeq f),toks:=t' }:=by
 have q:=PySem.IsL.update e f;rw[hf]at q;refine I.write (x:=l) (e:=l) (by rw[hH];exact trivial) (.inl rfl) (λb' u hb hu=>(Wbr s.heap (Obj.mapSeq f) (Ne.symm hb)).trans hu) ⟨_,q⟩ ?_;exact⟨hz,its',_,hv,q⟩
theorem Inv.lnew {its:List Value}{t':Nat}(I:Inv X pins σ H s) (hv:Vals ys its) (hz:ys.length<=sizeLine) :
  Inv X pins σ (upd H s.heap.objs.size (.lst ys)) { s with heap:=s.heap.push { cls:=.type "list",data:=.seq its.toArray },toks:=t' }:=
 I.laid (λ_ _ q=>Wac _ q) (Wah _) ⟨hz,its,0,hv,Wao _ rfl⟩
theorem Inv.fresh (I:Inv X pins σ H s):H s.heap.objs.size=none:=I.hok.fresh (Wah _)
theorem Inv.lstM (I:Inv X pins σ H s) (hH:H l=some (.lst xs)):xs.length<=sizeLine/\∃(its:List Value) (n:Nat),Vals xs its/\xs.length=its.length/\s.heap.get? l=some { cls:=.type "list",data:=.seq its.toArray n }:=by
 obtain⟨z,its,n,r,e⟩:=I.hok l _ hH;exact⟨z,its,n,r,r.length,e⟩
end
section
variable {X:Cx}
def rAppend:V->List V->Hp->VK->Prop:=λx vs H Q=>∃l xs y,x=.ref l/\vs=[y]/\H l=some (.lst xs)/\xs.length<sizeLine/\Q .non (upd H l (.lst (xs++[y])))
theorem Zbv:MtM X "list.append" rAppend:=by
 intro pins s σ H x vs v us Q I rx rv h;obtain⟨l,xs,y,rfl,rfl,hH,hz,q⟩:=h;cases rx;obtain⟨u,rfl,ru⟩:=rv.one;obtain⟨z,its,n,r,hl,e⟩:=I.lstM hH;refine call_meets F.slot_list_append ⟨_,e,rfl⟩ F.entry_list_append (F.args_list_append_2 _ _) (PySem.list_append l its.toArray n u (by rw[Wam];omega)) ⟨e,?_⟩;refine⟨.non,_,I.lset (its':=its++[u]) hH e (by simp) (r.append (.cons ru .nil)) ?_,rfl,q⟩;rw[Wai,Wc7];omega
def rCat:R2:=λx y H Q=>∃l b xs zs,x=.ref l/\y=.ref b/\H l=some (.lst xs)/\H b=some (.lst zs)/\xs.length+zs.length<=sizeLine/\∀p,H p=none->Q (.ref p) (upd H p (.lst (xs++zs)))
theorem Ztn:OpR X (binaryOp .Add) rCat:=by
 intro pins s σ H x y v u Q I rx ry h;obtain⟨l,b,xs,zs,rfl,rfl,hH,hB,hz,q⟩:=h;cases rx;cases ry;obtain⟨z,its,n,r,hl,e⟩:=I.lstM hH;obtain⟨z2,its2,n2,r2,hl2,e2⟩:=I.lstM hB;refine PySem.P.add_list e e2 ?_ (by rw[Wam,Wam];omega);have ea:its.toArray++its2.toArray=(its++its2).toArray:=by simp
 rw[ea];exact⟨.ref _,_,I.lnew (t':=s.toks) (r.append r2) (by rw[Wai];omega),rfl,q _ I.fresh⟩
end
end L2
namespace Att
open PySem PySem.W PySem.Calls PyProof.Rows
theorem Zff {P:Params}{h:Heap}:∀(ns:List Int) (vs:List Value),WellAll P h vs (ns.map WData.int)->IntsAre vs ns:=by
 intro ns
 induction ns with
 |nil=>
  intro vs w;rw[List.map_nil]at w;cases w;exact .nil
 |cons n ns ih=>
  intro vs w;rw[Wa4]at w;cases w with
  |cons a b=>
   cases a;exact .cons _ _ (ih _ b)
theorem Zll {l:OpenLaw}{n:Nat}(hn:l.most=some n) {P:Params}{h:Heap}{args:List WData}{vals:List Value}
  (hpre:l.row.toRowW.claim.pre args=true) (hwl:WellAll P h vals args) :
  ∃a vs ns,vals=[Value.ref a]/\args=[WData.list (ns.map WData.int)]/\h.get? a=some { cls:=.type "list",data:=.seq vs.toArray } /\ IntsAre vs ns/\ns.length<=n:=by
 have hsh:WShape.hasAll [] args [.list .int]=true:=(pre_splitW hpre).1;have hc:l.pre.holds [] { args:=args } = true:=(pre_splitW hpre).2;obtain⟨d,r,rfl,h1,h2⟩:=hasAllW_cons hsh;obtain rfl:=hasAllW_nil h2;obtain⟨xs,rfl,h3⟩:=hasW_list h1;obtain⟨ns,rfl⟩:=items_int h3;have hlen:ns.length<=n:=by
  unfold OpenLaw.pre at hc;have h4:(WTm.not (.lt (.lit (.int (n:Int))) (.len (.arg 0)))).holds [] { args:=[.list (ns.map .int)] } = true:=by
   have h4:=(holds_andW hc).1;rw[hn]at h4;exact h4
  have h5:=condW_of h4 (w_not (w_lt w_lit (w_len_list (w_arg rfl))));rw[Waa]at h5;refine Nat.le_of_not_lt λq=>?_;have q':(n:Int)<((ns.length:Nat):Int):=by omega
  first
   | (rw[decide_eq_true q']at h5;exact absurd h5 (by decide))
   | (simp at h5;omega)
 cases hwl with
 |cons w1 w2=>
  cases w2;cases w1 with
  |list ho hall=>exact⟨_,_,ns,rfl,rfl,ho,Zff ns _ hall,hlen⟩
theorem Zk5 (l:OpenLaw) (args:List WData):l.row.toRowW.claim.post args (.bool true) args=true:=
 postW_of (r:=l.row.toRowW) (X:=(true == true))
  (show WShape.has [] (.bool true) .bool=true by first|rfl|decide|simp[WShape.has,WShape.arms,WShape.armsAll])
  (show (WTm.eq .res (.lit (.bool true))).value [] { args:=args,res:=some (.bool true),after:=args } = some (.bool (true == true)) from w_eq_bool (w_res rfl) w_lit) rfl
theorem attach_call {l:OpenLaw}{n:Nat}{q:Program}{loose:List Str}{XP:(Str->Option Value)->Heap->Prop}{YP:World->Heap->Prop}{d:DefRec}
  (hn:l.most=some n) (hdf:d.params.defaults=[])
  (call:∀(w:World) (s₀ s₁:Shared) (mg mb:Str->Option Value) (fa:Addr) (o:Obj) (pm cd doc:Value) (a:Addr) (vs:List Value) (ns:List Int),
   Ground q loose [] XP w s₀ mg mb s₁.heap->YP w s₁.heap →
   s₁.heap.get? fa=some o->o.data=.func (docDef d.name d.params d.body d.scope pm cd doc)->s₁.heap.CodeRec cd d.name->mg d.name=some (.ref fa) →
   s₁.heap.get? a=some { cls:=.type "list",data:=.seq vs.toArray } -> IntsAre vs ns->ns.length<=n->s₁.gens = #[] →
   codeAny (model l.prog w) callerA (.call (.ref fa) ⟨[.ref a],[]⟩) (λr s'=>r=.ok (.ret (.bool true))/\OldK s₁.heap s'.heap/\s'.os=s₁.os/\AllBare s'.gens) s₁) :
  WalkO q loose XP YP l.row.toRowW d [] (λf vs=>PySem.call f vs):=by
 intro w s₀ s₁ mg mb G Y fa o pm cd doc dV kV ho hd hcd hD hmg hg args vals as hpre hlay hrd hwl hlo;obtain rfl:dV=.none:=Dflts.none hD hdf;obtain rfl:kV=.none:=Dflts.noKw hD;obtain⟨a,vs,ns,rfl,rfl,hobj,hints,hlen⟩:=Zll hn hpre hwl;refine enter_call (codeAny_mono (call w s₀ s₁ mg mb fa o pm cd doc a vs ns G Y ho (fd_plain hd) hcd hmg hobj hints hlen hg) λr s' hq=>?_);obtain⟨rfl,h2,h3,h4⟩:=hq;exact⟨.inl ⟨.bool true,.bool true,[],rfl,λ_=>rfl,.bool true,Zk5 l _,λ_=>⟨List.Pairwise.nil,λ_ hm=>(nomatch hm)⟩⟩,h2,h3,h4⟩
end Att
namespace L2
open PySem PySem.Spec PyProof.Rows
theorem Zeh:∀{vs:List Value}{ns:List Int},IntsAre vs ns->Vals (ns.map V.int) vs
 |_,_,.nil=>.nil
 |_,_,.cons n t h=>.cons ⟨t,rfl⟩ (Zeh h)
def Only (H:Hp):Prop:=∀b,H b=none\/∃o xs,H b=some (.frz o (.lst xs))
theorem Zor {P:Program}{w:World}{K:W.Frag}{mg mb:Str->Option Value}{CX:CXT}{k:Nat}{fa a:Addr}{fd:FuncData}{x:Str}{sp:Sp}{s₁:Shared}{vs:List Value}{ns:List Int}
  (KX:K.In s₁.heap) (hns:s₁.heap.Ns mainGlobals mg) (hb:s₁.heap.Ns builtinsNs mb) (hbb:∀x:Str,x ≠ "__name__" -> mb x=bootBuiltins x) (hlim:s₁.heap.NoLimit) (hg:s₁.gens = #[])
  (ha:s₁.heap.get? a=some { cls:=.type "list",data:=.seq vs.toArray }) (hi:IntsAre vs ns) (hl:ns.length<=sizeLine) (hr:Room k callerA)
  (F:∀base:Heap,K.In base->base.Ns mainGlobals mg->FnOk P w K mg base CX k fa fd [x] sp) (hbind:∀(s:Shared) (u:Value),BindsTo s fd ⟨[u],[]⟩ [(x,u)])
  (hsp:∀H:Hp,Only H->SqL K H a (ns.map V.int)->sp [.ref a] H (λv _=>v=.bl true) λ_ _ _=>False)
  (hCX:∀H e s',CX [] H s₁ (λ_ _ _=>False) e s' -> False) :
  codeAny (model P w) callerA (.call (.ref fa) ⟨[.ref a],[]⟩) (λr s'=>r=.ok (.ret (.bool true))/\OldK s₁.heap s'.heap/\s'.os=s₁.os/\AllBare s'.gens) s₁:=by
 have rv:=Zeh hi;have lenV:=hi.length
 -- from an abstract heap in which nothing but the script may be tracked
 have core:∀H:Hp,Only H->SqL K H a (ns.map V.int)->HOk P w H s₁.heap->(∀b,H b≠none->b=a)->(H a≠none->K.lookup a=none) →
   codeAny (model P w) callerA (.call (.ref fa) ⟨[.ref a],[]⟩) (λr s'=>r=.ok (.ret (.bool true))/\OldK s₁.heap s'.heap/\s'.os=s₁.os/\AllBare s'.gens) s₁:=by
  intro H hO hS hok hA hK;have base_of:∀{b:Addr}{o:Obj},s₁.heap.get? b=some o->H b=none->(hidT s₁.heap H).get? b=some o:=λe n=>Zny e n;have noA:∀{b:Addr}{o:Obj}{es:Array DictEntry}{ep:Nat},s₁.heap.get? b=some o->o.data=.dict es ep->H b=none:=λ{b o es ep} e d=>by
   cases q:H b with
   |none=>rfl
   |some u=>
    have e':b=a:=hA b (by rw[q];simp);subst e';rw[ha]at e;cases e;have d':Data.seq vs.toArray _=Data.dict es ep:=d;cases d'
  have nsK:∀{b:Addr}{m:Str->Option Value},s₁.heap.Ns b m->(hidT s₁.heap H).Ns b m:=λ{b m} ⟨o,es,ep,e,d,r⟩=>⟨o,es,ep,base_of e (noA e d),d,r⟩;have hKb:K.In (hidT s₁.heap H):=λb o e=>base_of (KX b o e) (by
   cases q:H b with
   |none=>rfl
   |some u=>
    have e':b=a:=hA b (by rw[q];simp);subst e';rw[hK (by rw[q];simp)]at e;cases e)
  have hM:Mod K mg (hidT s₁.heap H):=⟨hKb,nsK hns,⟨mb,nsK hb,hbb⟩,let ⟨mc,h1,h2⟩:=hlim; ⟨mc,nsK h1,h2⟩⟩;have e0:Env0 P w K mg (hidT s₁.heap H) callerA [] s₁ H:=⟨rfl,hM,λb o e=>Zqg e,Nat.le_of_eq (Zk6 _ _),trivial,λb hb=>absurd (show b∈([]:List Addr) from hb) (by simp),hok,.of_eq hg⟩;refine codeAny_mono ((F _ hKb (nsK hns)).run callerA [] s₁ H ⟨[.ref a],[]⟩ [.ref a] [.ref a] _ _ hr e0 (hbind s₁ (.ref a)) (.cons rfl .nil) (hsp H hO hS)) λr s' h=>?_;cases r with
  |error e=>exact(hCX H e s' h).elim
  |ok fl=>
   cases fl with
   |next=>exact False.elim h
   |brk=>exact False.elim h
   |cont=>exact False.elim h
   |ret u=>
    obtain⟨v,H',os,bare,un,hok',r',q⟩:=h;have q':v=.bl true:=q;subst q';obtain rfl:u=Value.bool true:=r';refine⟨rfl,OldK.of_keep λb o e=>?_,os,bare⟩;cases q:H b with
    |none=>exact un.keep b o e q (by intro z;exact absurd (show b∈([]:List Addr) from z) (by simp)) (by simp)
    |some u=>
     rcases hO b with z|⟨ob,xs,z⟩
     ·rw[q]at z;cases z
     ·have z2:=un.frzs b ob _ z
      obtain⟨e1,_⟩:=hok b _ z;obtain⟨e2,_⟩:=hok' b _ z2;rw[e]at e1;cases e1;exact e2
 cases hk:K.lookup a with
 |some o=>
  -- the script is one of the module's own objects
  have e:=KX a o hk;rw[ha]at e;cases e;refine core (λ_=>none) (λ_=>.inl rfl) (.inr ⟨_,vs.toArray,_,hk,rfl,rfl,rfl,by rw[Wam,lenV];exact hl,by simpa using rv⟩) (λb u z=>by have z':(none:Option HO)=some u:=z;cases z') (λb z=>absurd rfl z) λz=>absurd rfl z
 |none=>
  refine core (λb=>if b=a then some (.frz { cls:=.type "list",data:=.seq vs.toArray } (.lst (ns.map V.int))) else none) (λb=>?_) (.inl (.inr ⟨{ cls:=.type "list",data:=.seq vs.toArray },if_pos rfl⟩)) (λb u z=>?_) (λb z=>?_) λ_=>hk
  ·by_cases hb:b=a
   ·exact .inr ⟨_,_,if_pos hb⟩
   ·exact .inl (if_neg hb)
  ·by_cases hb:b=a
   ·have z':=(if_pos hb).symm.trans z
    cases z';subst hb;exact⟨ha,by rw[Waa];exact hl,vs,_,rv,ha⟩
   ·have z':=(if_neg hb).symm.trans z
    cases z'
  ·by_cases hb:b=a
   ·exact hb
   ·exact absurd (if_neg hb) z
end L2
namespace L2
open PySem PySem.Spec PyProof.Rows
theorem walk_of {l:PySem.W.OpenLaw}{n k:Nat}{q:Program}{loose:List Str}{XP:(Str->Option Value)->Heap->Prop}{YP:World->Heap->Prop}{d:DefRec}{K:Params->W.Frag}{CX:World->CXT}{sp:World->Sp}{x:Str}
  (hn:l.most=some n) (hn2:n<=sizeLine) (hdf:d.params.defaults=[]) (hr:Room k callerA)
  (hY:∀(w:World) (h:Heap),YP w h->(K w.params).In h)
  (F:∀(w:World) (mg:Str->Option Value) (fa:Addr) (h:Heap),(K w.params).In h->h.Ns mainGlobals mg->mg d.name=some (.ref fa) →
   ∃fd:FuncData,(∀(s:Shared) (u:Value),BindsTo s fd ⟨[u],[]⟩ [(x,u)]) ∧
    ∀base:Heap,(K w.params).In base->base.Ns mainGlobals mg->FnOk l.prog w (K w.params) mg base (CX w) k fa fd [x] (sp w))
  (hsp:∀(w:World) (H:Hp) (a:Addr) (ns:List Int),ns.length<=n->Only H->SqL (K w.params) H a (ns.map V.int)->sp w [.ref a] H (λv _=>v=.bl true) λ_ _ _=>False)
  (hCX:∀(w:World) (H:Hp) (s:Shared) (e:Value) (s':Shared),CX w [] H s (λ_ _ _=>False) e s' -> False) :
  PySem.W.WalkO q loose XP YP l.row.toRowW d [] (λf vs=>PySem.call f vs):=by
 refine Att.attach_call hn hdf λw s₀ s₁ mg mb fa o pm cd doc a vs ns G Y ho hd hcd hmg hobj hints hlen hg=>?_;have KX:=hY w _ Y;obtain⟨fd,hb,hF⟩:=F w mg fa _ KX G.T.g hmg;exact Zor KX G.T.g G.T.b G.T.builtins G.T.nolimit hg hobj hints (Wbq hlen hn2) hr hF hb (λH hO hS=>hsp w H a ns hlen hO hS) λH e s'=>hCX w H s₁ e s'
end L2
namespace L2
open PySem PySem.Spec PyProof.Rows
def defArgs (s:Stmt):Arguments:=match s with
 |.FunctionDef _ a _ _ _ _ _ _ _ _=>a
 |_=>{ posonlyargs:=[],args:=[],vararg:=none,kwonlyargs:=[],kw_defaults:=[],kwarg:=none,defaults:=[] }
def defBody (s:Stmt):List Stmt:=match s with
 |.FunctionDef _ _ b _ _ _ _ _ _ _=>b
 |_=>[]
def defScope (s:Stmt):Scope:=match s with
 |.FunctionDef _ _ _ _ _ _ sc _ _ _=>sc
 |_=>{ kind:=.function,names:=[],isGenerator:=false,isCoroutine:=false }
abbrev CX0:CXT:=λ_ _ _ _ _ _=>False
abbrev E0:XK:=λ_ _ _=>False
theorem pass0 {X:Cx}:Passes CX0 X E0:=λ_ _ _ _ _ _ _ h=>h.elim
structure Fun (K:W.Frag) (x qual:Str) (st:Stmt) (f:Addr) (fd:FuncData):Prop where
 ex:∃(oc:Value) (od:Option Addr) (kV doc pm:Value) (an:Option Addr) (cdv ct:Value) (osl:Array (Option Value)),
  fd=W.fnOf x qual (defArgs st) (defBody st) (defScope st) .none kV doc pm an cdv ct/\K.lookup f=some ⟨oc,od,.func fd,osl⟩ /\ W.codeIn K cdv qual=true
 kp:W.keepIn K (.ref f)=true
section
variable {P:Program}{w:World}{K:W.Frag}{mg:Str->Option Value}{base:Heap}
theorem Fun.ok {x qual:Str}{st:Stmt}{f:Addr}{fd:FuncData}{N ps:List Str}{k:Nat}{sp:Sp}(F:Fun K x qual st f fd) (S:FnScope N ps (defScope st)) (len:∀vs H Q E,sp vs H Q E->vs.length=ps.length)
  (hbody:∀(cdv:Value) (A:Around) (outer:List Env) (s:Shared) (H:Hp) (vs:List V) (Q:VK) (E:XK),Room k (A.deeper (envOfC qual (defScope st) s.heap.objs.size f cdv))->sp vs H Q E →
   ∃t,PSs (cxOf CX0 P w K mg base N qual (defScope st) f cdv A outer s H E).nox (defBody st) t/\t { nx:=λ_ H'=>Q .non H',rt:=Q } (start N vs) H):FnOk P w K mg base CX0 (k+1) f fd ps sp:=by
 obtain⟨oc,od,kV,doc,pm,an,cdv,ct,osl,rfl,lk,hcd⟩:=F.ex;refine Zsz lk hcd S len λA outer s H vs Q E hr hsp=>?_;obtain⟨t,h,q⟩:=hbody cdv A outer s H vs Q E hr hsp;exact⟨t,h.nox,q⟩
theorem Fun.binds {x qual:Str}{st:Stmt}{f:Addr}{fd:FuncData}{ps:List Str}(F:Fun K x qual st f fd)
  (h:∀(kV doc pm:Value) (an:Option Addr) (cdv ct:Value) (us:List Value),us.length=ps.length->bindArgs (W.fnOf x qual (defArgs st) (defBody st) (defScope st) .none kV doc pm an cdv ct) ⟨us,[]⟩=pure (ps.zip us)):Binds K fd ps []:=by
 obtain⟨oc,od,kV,doc,pm,an,cdv,ct,osl,rfl,lk,hcd⟩:=F.ex;exact .all (h kV doc pm an cdv ct)
theorem Za7 {x qual:Str}{st:Stmt}{f:Addr}{oc:Value}{od an:Option Addr}{osl:Array (Option Value)}{kV doc pm cdv ct:Value}(l:K.lookup f=some ⟨oc,od,.func (W.fnOf x qual (defArgs st) (defBody st) (defScope st) .none kV doc pm an cdv ct),osl⟩)
  (c:W.codeIn K cdv qual=true) (k:W.keepIn K (.ref f)=true):Fun K x qual st f (W.fnOf x qual (defArgs st) (defBody st) (defScope st) .none kV doc pm an cdv ct):=⟨⟨oc,od,kV,doc,pm,an,cdv,ct,osl,rfl,l,c⟩,k⟩
end
theorem Zbx {A:Around}{k:Nat}(hr:Room k A):A.units+1<cLine:=Wb3 (Wdw (by decide:1<=64) _) hr.units
theorem small1000 {n:Nat}(h:n<=1000):n<sizeLine:=Wb3 h (by decide)
section
variable {X:Cx}
theorem pv (i:Nat) {x:Str}{pos:Pos}(hN:X.N[i]?=some x:=by rfl) (hv:Vis X.env.scope x:=by first|exact Or.inl rfl|exact Or.inr (Or.inl rfl)|exact Or.inr (Or.inr rfl)) (hd:(x == ("__debug__":Str))=false:=by decide)
  (hcd:(x == ("__classdict__":Str))=false:=by decide):PE X (.Name x pos) (tVar i):=Zt0 hN hv hd hcd
end
theorem iteF {A B:Prop}(h:B):if false=true then A else B:=by
 rw[if_neg Waj];exact h
theorem iteT {A B:Prop}(h:A):if true=true then A else B:=by
 rw[if_pos rfl];exact h
theorem ite2 {c A B:Prop}[Decidable c] (h1:c->A) (h2:¬ c->B):if c then A else B:=by
 by_cases h:c
 ·rw[if_pos h]
  exact h1 h
 ·rw[if_neg h]
  exact h2 h
def Same (H H':Hp):Prop:=∀b o,H b=some o->H' b=some o
theorem Same.refl (H:Hp):Same H H:=λ_ _ h=>h
theorem Same.trans {H H1 H2:Hp}(a:Same H H1) (b:Same H1 H2):Same H H2:=λc o h=>b c o (a c o h)
theorem Same.seq {K:W.Frag}{H H':Hp}{a:Addr}{xs:List V}(e:Same H H') (h:SqL K H a xs):SqL K H' a xs:=by
 rcases h with (h|⟨o,h⟩)|h
 ·exact .inl (.inl (e _ _ h))
 ·exact .inl (.inr ⟨o,e _ _ h⟩)
 ·exact .inr h
end L2
namespace L2
open PySem PySem.Spec PyProof.Rows
section
variable {κ:Type}[DecidableEq κ]
def valV (kvs:List (κ × V)) (k:κ):Option V:=(kvs.find? λkv=>decide (kv.1=k)).map (·.2)
def putK (kvs:List (κ × V)) (k:κ) (v:V):List (κ × V):=
 if (kvs.any λkv=>decide (kv.1=k))=true then kvs.map (λkv=>if kv.1=k then (kv.1,v) else kv) else kvs++[(k,v)]
theorem Zez {p:κ × V}{r:List (κ × V)}{k:κ}(e:p.1=k):valV (p::r) k=some p.2:=by simp[valV,Wck,e]
theorem Ze3 {p:κ × V}{r:List (κ × V)}{k:κ}(e:¬ p.1=k):valV (p::r) k=valV r k:=by simp[valV,Wck,e]
theorem Zjw (k:κ):∀kvs:List (κ × V),(kvs.any λkv=>decide (kv.1=k))=(valV kvs k).isSome
 |[]=>rfl
 |p::r=>by
  rw[Wcz];by_cases e:p.1=k
  ·simp only[Zez e,decide_eq_true e,Bool.true_or,Option.isSome_some]
  ·rw[Ze3 e,decide_eq_false e,Bool.false_or];exact Zjw k r
theorem Zd6 (kvs:List (κ × V)) (k:κ) (v:V):(putK kvs k v).length<=kvs.length+1:=by
 unfold putK;split
 ·rw[Waa];omega
 ·rw[Wai,Wap,Wcq];omega
theorem RelO.isSome_eq {o:Option V}{u:Option Value}(r:RelO o u):o.isSome=u.isSome:=by
 cases o with
 |none=>cases u with
  |none=>rfl
  |some _=>exact(show False from r).elim
 |some _=>cases u with
  |none=>exact(show False from r).elim
  |some _=>rfl
theorem KV.val {kvs:List (κ × V)}{vs:List (κ × Value)}(r:KV kvs vs) (k:κ):RelO (valV kvs k) (valueAt vs k):=by
 unfold KV at r
 induction r with
 |nil=>exact True.intro
 |@cons p q ps qs h t ih=>
  obtain⟨h1,h2⟩:=h;by_cases e:p.1=k
  ·have e':q.1=k:=h1.symm.trans e
   have b:valueAt (q::qs) k=some q.2:=by simp[valueAt,Wck,e']
   rw[Zez e,b];exact h2
  ·have e':¬ q.1=k:=λz=>e (h1.trans z)
   have b:valueAt (q::qs) k=valueAt qs k:=by simp[valueAt,Wck,e']
   rw[Ze3 e,b];exact ih
theorem KV.any {kvs:List (κ × V)}{vs:List (κ × Value)}(r:KV kvs vs) (k:κ):(kvs.any λkv=>decide (kv.1=k))=vs.any λkv=>decide (kv.1=k):=by
 unfold KV at r
 induction r with
 |nil=>rfl
 |cons h t ih=>rw[Wcz,Wcz,ih,h.1]
theorem KV.repl {kvs:List (κ × V)}{vs:List (κ × Value)}(r:KV kvs vs) (k:κ) {y:V}{u:Value}(ry:RelV y u) :
  KV (kvs.map λkv=>if kv.1=k then (kv.1,y) else kv) (vs.map λkv=>if kv.1=k then (kv.1,u) else kv):=by
 unfold KV at r ⊢
 induction r with
 |nil=>exact .nil
 |@cons p q ps qs h t ih=>
  rw[Wa4,Wa4];refine .cons ?_ ih;obtain⟨h1,h2⟩:=h;by_cases e:p.1=k
  ·rw[if_pos e,if_pos (h1.symm.trans e)];exact⟨h1,ry⟩
  ·rw[if_neg e,if_neg (λz=>e (h1.trans z))];exact⟨h1,h2⟩
theorem KV.put {kvs:List (κ × V)}{vs:List (κ × Value)}(r:KV kvs vs) (k:κ) {y:V}{u:Value}(ry:RelV y u):KV (putK kvs k y) (stored vs k u):=by
 unfold putK stored;rw[r.any k];by_cases e:(vs.any λkv=>decide (kv.1=k))=true
 ·rw[if_pos e,if_pos e];exact r.repl k ry
 ·rw[if_neg e,if_neg e];exact Paired.snoc r ⟨rfl,ry⟩
theorem KV.length {kvs:List (κ × V)}{vs:List (κ × Value)}(r:KV kvs vs):kvs.length=vs.length:=Paired.length r
end
theorem Zmb {P:Program}{w:World}{k:Key}{u:Value}(r:RelV (kV k) u):(mixKind P w).is k u=true:=by
 cases k with
 |inl i=>obtain⟨t,e⟩:=(show ∃t,u=Value.int i t from r);subst e;exact Zix P w i t
 |inr x=>obtain⟨t,e⟩:=(show ∃t,u=Value.str x t from r);subst e;exact Zip P w x t
theorem Zig {P:Program}{w:World}:∀{ks:List Key}{us:List Value},Vals (ks.map kV) us->ItemsAre (mixKind P w) ks us
 |[],_,r=>by rw[List.map_nil]at r;cases r;exact .nil
 |k::ks,_,r=>by
  rw[Wa4]at r;cases r with
  |cons h t=>exact .cons (Zmb h) (Zig t)
abbrev KT (H:Hp):List (List Key × V)->List (List Key × Addr × Value)->Prop:=Paired λp q=>p.1=q.1/\H q.2.1=some (.tup (p.1.map kV))/\RelV p.2 q.2.2
theorem KT.val {H:Hp}{kvs:List (List Key × V)}{xs:List (List Key × Addr × Value)}(r:KT H kvs xs) (k:List Key):RelO (valV kvs k) ((atKey xs k).map (·.2)):=by
 induction r with
 |nil=>exact True.intro
 |@cons p q ps qs h t ih=>
  obtain⟨h1,_,h2⟩:=h;by_cases e:p.1=k
  ·have e':q.1=k:=h1.symm.trans e
   have b:atKey (q::qs) k=some q.2:=by simp[atKey,Wck,e']
   rw[Zez e,b];exact h2
  ·have e':¬ q.1=k:=λz=>e (h1.trans z)
   have b:atKey (q::qs) k=atKey qs k:=by simp[atKey,Wck,e']
   rw[Ze3 e,b];exact ih
theorem KT.repl {H:Hp}{kvs:List (List Key × V)}{xs:List (List Key × Addr × Value)}(r:KT H kvs xs) (k:List Key) {y:V}{u:Value}(ry:RelV y u) :
  KT H (kvs.map λkv=>if kv.1=k then (kv.1,y) else kv) (xs.map (putAt k u)):=by
 induction r with
 |nil=>exact .nil
 |@cons p q ps qs h t ih=>
  rw[Wa4,Wa4];refine .cons ?_ ih;obtain⟨h1,h2,h3⟩:=h;unfold putAt;by_cases e:p.1=k
  ·rw[if_pos e,if_pos (h1.symm.trans e)];exact⟨h1,h2,ry⟩
  ·rw[if_neg e,if_neg (λz=>e (h1.trans z))];exact⟨h1,h2,h3⟩
theorem KT.put {H:Hp}{kvs:List (List Key × V)}{xs:List (List Key × Addr × Value)}(r:KT H kvs xs) (k:List Key) {b:Addr}{y:V}{u:Value}(hb:H b=some (.tup (k.map kV))) (ry:RelV y u) :
  KT H (putK kvs k y) (storedH xs k b u):=by
 have e:(kvs.any λkv=>decide (kv.1=k))=(atKey xs k).isSome:=by
  rw[Zjw,(r.val k).isSome_eq,Option.isSome_map]
 unfold putK storedH;rw[e];by_cases q:(atKey xs k).isSome=true
 ·rw[if_pos q,if_pos q];exact r.repl k ry
 ·rw[if_neg q,if_neg q];exact Paired.snoc r ⟨rfl,hb,ry⟩
theorem KT.keeps {H H':Hp}{kvs:List (List Key × V)}{xs:List (List Key × Addr × Value)}(r:KT H kvs xs) (ht:∀b ys,H b=some (.tup ys)->H' b=some (.tup ys)):KT H' kvs xs:=
 Paired.mapP r λ_ _ z=>⟨z.1,ht _ _ z.2.1,z.2.2⟩
section
variable {P:Program}{w:World}{H:Hp}{h:Heap}{a:Addr}
theorem Zs5 {u:HO}(ok:HOk P w H h) (e:Rd H a u):ObjOk P w H h a u:=e.ok ok
theorem Zly {kvs:List (Key × V)}(ok:HOk P w H h) (e:Rd H a (.dK kvs)):kvs.length<=sizeLine/\(a == sysModules)=false/\∃vs,KV kvs vs/\h.DictOf (mixKind P w) a vs:=
 show ObjOk P w H h a (.dK kvs) from Zs5 ok e
theorem Zrn {kvs:List (Key × V)}(ok:HOk P w H h) (e:H a=some (.dK kvs)):kvs.length<=sizeLine/\(a == sysModules)=false/\∃vs,KV kvs vs/\h.DictOf (mixKind P w) a vs:=Zly ok (.inl e)
theorem Zjj {ks:List Key}(ok:HOk P w H h) (e:H a=some (.tup (ks.map kV))):(tupleKind (mixKind P w)).is h ks a:=by
 obtain⟨_,its,r,o,h1,⟨h2,n,h3⟩,_⟩:=(show ObjOk P w H h a (.tup (ks.map kV)) from ok a _ e);exact⟨o,its.toArray,n,h1,h2,h3,by simpa using Zig r⟩
theorem Zoi {kvs:List (List Key × V)}(ok:HOk P w H h) (e:Rd H a (.dT kvs)):kvs.length<=sizeLine/\(a == sysModules)=false ∧
  ∃xs,KT H kvs xs/\h.DictOfH (tupleKind (mixKind P w)) a xs:=by
 obtain⟨z,y,xs,r,o,es,ep,h1,h2,h3,h4,h5⟩:=(show ObjOk P w H h a (.dT kvs) from Zs5 ok e);refine⟨z,y,xs,r,o,es,ep,h1,h2,h3,h4,λx hx=>?_,h5⟩;have all:∀{l:List (List Key × V)}{m:List (List Key × Addr × Value)},KT H l m->∀x∈m,(tupleKind (mixKind P w)).is h x.1 x.2.1:=by
  intro l m q
  induction q with
  |nil=>intro x hx;exact nomatch hx
  |@cons p q ps qs hq t ih=>
   intro x hx;rcases Wan.mp hx with e|hx
   ·subst e
    exact Zjj ok (by rw[<- hq.1];exact hq.2.1)
   ·exact ih x hx
 exact all r x hx
theorem Zt3 {kvs:List (List Key × V)}(ok:HOk P w H h) (e:H a=some (.dT kvs)):kvs.length<=sizeLine/\(a == sysModules)=false ∧
  ∃xs,KT H kvs xs/\h.DictOfH (tupleKind (mixKind P w)) a xs:=Zoi ok (.inl e)
end
def DGet (H:Hp) (a:Addr) (y:V) (r:Option V):Prop:=
 (∃kvs k,Rd H a (.dK kvs)/\y=kV k/\r=valV kvs k)\/∃kvs k b,Rd H a (.dT kvs)/\y=.ref b/\H b=some (.tup (k.map kV))/\r=valV kvs k
def DPut (H:Hp) (a:Addr) (y v:V) (H':Hp):Prop:=
 (∃kvs k,H a=some (.dK kvs)/\y=kV k/\kvs.length<sizeLine/\H'=upd H a (.dK (putK kvs k v))) ∨
 ∃kvs k b,H a=some (.dT kvs)/\y=.ref b/\H b=some (.tup (k.map kV))/\kvs.length<sizeLine/\H'=upd H a (.dT (putK kvs k v))
theorem DGet.k {H:Hp}{a:Addr}{kvs:List (Key × V)}{k:Key}(e:H a=some (.dK kvs)):DGet H a (kV k) (valV kvs k):=.inl ⟨kvs,k,.inl e,rfl,rfl⟩
theorem DPut.k {H:Hp}{a:Addr}{kvs:List (Key × V)}{k:Key}{v:V}(e:H a=some (.dK kvs)) (hl:kvs.length<sizeLine):DPut H a (kV k) v (upd H a (.dK (putK kvs k v))):=.inl ⟨kvs,k,e,rfl,hl,rfl⟩
section
variable {X:Cx}{pins:List (Addr × Obj)}{σ:St}{H:Hp}{s:Shared}{a:Addr}{y v:V}{u r:Value}{o:Option V}{A:Around}{E:Value->Shared->Prop}
theorem Inv.big (I:Inv X pins σ H s):sysModules<s.heap.objs.size:=by
 have h:mainGlobals<s.heap.objs.size:=(I.mod.glob.keeps I.bk).lt;exact Nat.lt_trans (by decide) h
theorem Zmk {Q:Value->Shared->Prop}(hu:A.units+1<cLine) (I:Inv X pins σ H s) (g:DGet H a y (some v)) (ry:RelV y u) (h:∀w' s',Inv X pins σ H s' -> RelV v w' -> Q w' s') :
  wpAny (model X.prog X.w) A (getItem (.ref a) u) Q E s:=by
 rcases g with ⟨kvs,k,e,ey,l⟩|⟨kvs,k,b,e,ey,eb,l⟩
 ·subst ey
  obtain⟨z,hd,vs,rel,dd⟩:=Zly I.hok e;obtain⟨w',hw,rw'⟩:=RelO.some_of (v:=v) (o:=valueAt vs k) (by rw[l];exact rel.val k);exact wpAny_getItem_of (Zmb ry) dd.mapOf hw (h w' _ (I.tok _) rw')
 ·subst ey
  cases (show u=Value.ref b from ry);obtain⟨z,hd,xs,rel,dd⟩:=Zoi I.hok e;obtain⟨w',hw,rw'⟩:=RelO.some_of (v:=v) (o:=(atKey xs k).map (·.2)) (by rw[l];exact rel.val k);obtain⟨p,hp,hp2⟩:=Option.map_eq_some_iff.mp hw;refine wpAny_getItem_heap (tupleKind_room_in1 hu) (Zjj I.hok eb) dd hp ?_;rw[hp2];exact h w' _ (I.tok _) rw'
theorem Zq7 {Q:Value->Shared->Prop}(hu:A.units+1<cLine) (I:Inv X pins σ H s) (g:DGet H a y o) (ry:RelV y u) (h:∀s',Inv X pins σ H s' -> Q (.bool (!o.isSome)) s') :
  wpAny (model X.prog X.w) A (compareOp .NotIn u (.ref a)) Q E s:=by
 rcases g with ⟨kvs,k,e,ey,l⟩|⟨kvs,k,b,e,ey,eb,l⟩
 ·subst ey
  obtain⟨z,hd,vs,rel,dd⟩:=Zly I.hok e;refine wpAny_notIn_of (Zmb ry) hd dd.mapOf ?_;rw[<- (rel.val k).isSome_eq,<- l];exact h _ (I.tok _)
 ·subst ey
  cases (show u=Value.ref b from ry);obtain⟨z,hd,xs,rel,dd⟩:=Zoi I.hok e;refine wpAny_notIn_heap (tupleKind_room_in1 hu) (Zjj I.hok eb) hd dd ?_;have q:=(rel.val k).isSome_eq;rw[Option.isSome_map]at q;rw[<- q,<- l];exact h _ (I.tok _)
theorem Zgu {h':Heap}{t':Nat}{ob:HO}(I:Inv X pins σ H s) (mu:Mut (H a)) (hs:Heap.SameBut a s.heap h') (he:∃q,h'.get? a=some q) (new:ObjOk X.prog X.w (upd H a ob) h' a ob) :
  Inv X pins σ (upd H a ob) { s with heap:=h',toks:=t' }:=
 I.write (x:=a) (e:=a) mu (.inl rfl) (λb q hb z=>(hs.2 b hb).trans z) he new
theorem Zp2 {P:Program}{w:World}{H':Hp}{h':Heap}{kvs:List (Key × V)}{vs:List (Key × Value)}(z:kvs.length<=sizeLine) (hd:(a == sysModules)=false) (rel:KV kvs vs) (dd:h'.DictOf (mixKind P w) a vs) :
  ObjOk P w H' h' a (.dK kvs):=⟨z,hd,vs,rel,dd⟩
theorem Zl9 {H':Hp}{Q:Unit->Shared->Prop}(hu:A.units+1<cLine) (I:Inv X pins σ H s) (g:DPut H a y v H') (ry:RelV y u) (rv:RelV v r) (h:∀s',Inv X pins σ H' s' -> Q () s') :
  wpAny (model X.prog X.w) A (setItem (.ref a) u r) Q E s:=by
 rcases g with ⟨kvs,k,e,ey,l,eH⟩|⟨kvs,k,b,e,ey,eb,l,eH⟩
 ·subst ey eH
  obtain⟨z,hd,vs,rel,dd⟩:=Zrn I.hok e;have hz:vs.length<=sizeLine:=by rw[<- rel.length];exact z
  have hl:(putK kvs k v).length<=sizeLine:=by have:=Zd6 kvs k v;omega
  refine wpAny_setItem_pairs (hsz:=hz) (Zmb ry) dd λh' dd' hs=>h _ ?_;have he:∃q,h'.get? a=some q:=let ⟨q,_,_,hq,_⟩:=dd'; ⟨q,hq⟩
  exact Zgu I (by rw[e];exact True.intro) hs he (Zp2 hl hd (rel.put k rv) dd')
 ·subst ey eH
  cases (show u=Value.ref b from ry);obtain⟨z,hd,xs,rel,dd⟩:=Zt3 I.hok e;have hz:xs.length<=sizeLine:=by rw[<- Paired.length rel];exact z
  have hl:(putK kvs k v).length<=sizeLine:=by have:=Zd6 kvs k v;omega
  refine wpAny_setItem_heap (hsz:=hz) (tupleKind_room_in1 hu) (Zjj I.hok eb) dd λh' dd' hs=>h _ ?_;obtain⟨q,es,ep,hq,h2,h3,h4,_,h5⟩:=dd';refine Zgu I (by rw[e];exact True.intro) hs ⟨q,hq⟩ ⟨hl,hd,_,(rel.put k eb rv).keeps λc ys ec=>?_,q,es,ep,hq,h2,h3,h4,h5⟩;rw[Zaj (Zt8 ec e (λz=>nomatch z))];exact ec
end
section
variable {X:Cx}{pins:List (Addr × Obj)}{σ:St}{H:Hp}{s:Shared}{a:Addr}{kvs:List (Key × V)}{k:Key}{u:Value}{A:Around}{E:Value->Shared->Prop}
theorem Zt2 {Q:Value->Shared->Prop}(I:Inv X pins σ H s) (e:Rd H a (.dK kvs)) (h:∀t s',Inv X pins σ H s' -> Q (.int kvs.length t) s'):wpAny (model X.prog X.w) A (call (.builtin "len") [.ref a]) Q E s:=by
 obtain⟨z,hd,vs,rel,dd⟩:=Zly I.hok e;refine call_len_dict hd dd (by rw[<- rel.length];rw[sizeLine_eq]at z;omega) ?_;rw[<- rel.length];exact h _ _ (I.tok _)
end
theorem Zi6 {X:Cx}{pins:List (Addr × Obj)}{σ:St}{H:Hp}{s:Shared}{a:Addr}{y:V}{o:Option V}(I:Inv X pins σ H s) (g:DGet H a y o):s.TypeIs (.ref a) "dict":=by
 rcases g with ⟨kvs,k,e,_,_⟩|⟨kvs,k,b,e,_,_,_⟩
 ·obtain⟨_,_,vs,_,dd⟩:=Zly I.hok e
  exact dd.typeIs
 ·obtain⟨_,_,xs,_,dd⟩:=Zoi I.hok e
  exact dd.typeIs
theorem Zkc {P:Program}{w:World}{H:Hp}(h:Heap) (hb:sysModules<h.objs.size):ObjOk P w H (h.push { cls:=.type "dict",data:=.dict #[] }) h.objs.size (.dK []):=
 ⟨Wbw _,beq_eq_false_iff_ne.mpr (Ne.symm (Way hb)),[],.nil,Heap.DictOf.new h⟩
def tDNewK:TE:=λ_ H Q=>∀p,H p=none->Q (.ref p) (upd H p (.dK []))
section
variable {X:Cx}{pos:Pos}
theorem Zg5:PE X (.Dict [] [] pos) tDNewK:=λpins s σ H Q I h=>
 wpAny_Dict_empty ⟨.ref s.heap.objs.size,_,I.laid (a:=s.heap.objs.size) (o:=.dK []) (t':=s.toks) (λ_ _ q=>Wac _ q) (Wah _) (Zkc s.heap I.big),rfl,h _ (I.hok.fresh (Wah _))⟩
end
section
variable {X:Cx}{o e f:Expr}{apos cpos:Pos}{td ty tx:TE}
end
section
variable {X:Cx}{pins:List (Addr × Obj)}{σ:St}{H:Hp}{s:Shared}{a:Addr}{y:V}{u:Value}{A:Around}{E:Value->Shared->Prop}
end
end L2
namespace L2
open PySem PySem.Spec PyProof.Rows
section
variable {X:Cx}
theorem Zlf:CallR X (.builtin "len") (λxs H Q=>∃a kvs,xs=[V.ref a]/\H a=some (.dK kvs)/\Q (.int kvs.length) H):=by
 intro pins s σ H xs us Q I r h;obtain⟨a,kvs,rfl,ha,q⟩:=h;obtain⟨u,rfl,ru⟩:=vals1 r;cases ru;exact Zt2 I (.inl ha) λt s' I'=>⟨.int kvs.length,H,I',⟨t,rfl⟩,q⟩
end
def clOf (env:Env):List (Str × NameKind)->List (Str × Addr)->List (Str × Addr)
 |[],cs=>cs
 | (n,k)::r,cs=>if k == .free then (match env.cells.lookup n with
     |some a=>clOf env r ((n,a)::cs)
     |none=>clOf env r cs) else clOf env r cs
theorem Zfe {env:Env}:∀(names:List (Str × NameKind)) (cs:List (Str × Addr)),(∀n,(n,NameKind.free)∈names->∃a,env.cells.lookup n=some a) →
  (forIn names cs λ(x:Str × NameKind) (cs:List (Str × Addr))=>if (x.2 == .free)=true then (do let a ← cellOf env x.1;pure (ForInStep.yield ((x.1,a)::cs))) else pure (ForInStep.yield cs):Sem (List (Str × Addr)))=pure (clOf env names cs)
 |[],cs,_=>rfl
 | (n,k)::r,cs,h=>by
  rw[List.forIn_cons];have hr:∀m,(m,NameKind.free)∈r->∃a,env.cells.lookup m=some a:=λm hm=>h m (Wav _ hm);cases hk:k == NameKind.free with
  |false=>
   have e:clOf env ((n,k)::r) cs=clOf env r cs:=by simp[clOf,hk]
   rw[e,<- Zfe r cs hr];simp only[hk,Wbi,if_false];rfl
  |true=>
   have hk':k=.free:=by simpa using hk
   subst hk';obtain⟨a,ha⟩:=h n Waw;have e:clOf env ((n,.free)::r) cs=clOf env r ((n,a)::cs):=by simp[clOf,ha]
   have ec:cellOf env n=pure a:=by simp[cellOf,ha]
   rw[e,<- Zfe r ((n,a)::cs) hr];simp only[hk,if_true,ec];rfl
theorem Zbs {env:Env}{scope:Scope}(h:∀n,(n,NameKind.free)∈scope.names->∃a,env.cells.lookup n=some a):closureFor scope env=pure (clOf env scope.names []):=by
 rw[<- Zfe scope.names [] h];simp only[closureFor];exact Eq.trans (bind_pure _) rfl
theorem Zbg {env:Env}:∀(names:List (Str × NameKind)) (cs:List (Str × Addr)) {x:Str}{c:Addr},(∀y d,cs.lookup y=some d->env.cells.lookup y=some d)->(clOf env names cs).lookup x=some c->env.cells.lookup x=some c
 |[],cs,x,c,h,e=>h x c e
 | (n,k)::r,cs,x,c,h,e=>by
  unfold clOf at e;split at e
  ·split at e
   ·rename_i a ha
    refine Zbg r ((n,a)::cs) (λy d q=>?_) e;rw[Wce]at q;split at q
    ·rename_i hy
     have hy':y=n:=by simpa using hy
     cases q;rw[hy'];exact ha
    ·exact h y d q
   ·exact Zbg r cs h e
  ·exact Zbg r cs h e
theorem Zei {env:Env}:∀(names:List (Str × NameKind)) (cs:List (Str × Addr)) {x:Str},(∃c,cs.lookup x=some c)->∃c,(clOf env names cs).lookup x=some c
 |[],cs,x,h=>h
 | (n,k)::r,cs,x,h=>by
  have h2:∀a,∃c,((n,a)::cs).lookup x=some c:=λa=>by
   rw[Wce];split
   ·exact⟨_,rfl⟩
   ·exact h
  unfold clOf;split
  ·split
   ·exact Zei r _ (h2 _)
   ·exact Zei r cs h
  ·exact Zei r cs h
theorem Zeg {env:Env}:∀(names:List (Str × NameKind)) (cs:List (Str × Addr)) {x:Str},(x,NameKind.free)∈names->(∃a,env.cells.lookup x=some a)->∃c,(clOf env names cs).lookup x=some c
 |[],_,_,h,_=>by simp at h
 | (n,k)::r,cs,x,h,⟨a,ha⟩=>by
  rcases Wan.mp h with e|hm
  ·have e1:n=x:=(congrArg Prod.fst e).symm
   have e2:k=.free:=(congrArg Prod.snd e).symm;subst e1;subst e2;have e:clOf env ((n,.free)::r) cs=clOf env r ((n,a)::cs):=by simp[clOf,ha]
   rw[e];exact Zei r _ ⟨a,by simp⟩
  ·unfold clOf
   split
   ·split
    ·exact Zeg r _ hm ⟨a,ha⟩
    ·exact Zeg r _ hm ⟨a,ha⟩
   ·exact Zeg r _ hm ⟨a,ha⟩
def relab (osc scope:Scope):Scope:=
 { scope with names:=scope.names.map λ(n,k)=>if (k == .free && osc.kind == .function && osc.names.lookup n == some .cell) then (n,.cell) else (n,k) }
theorem Zhu {osc scope:Scope}{x:Str}{k:NameKind}(hk:k=.cell\/k=.free) (hc:∀y∈scope.names,y.2≠.cell) (h:(relab osc scope).names.lookup x=some k):(x,NameKind.free)∈scope.names:=by
 have hm:=PySem.mem_of_lookup h;obtain⟨⟨n,j⟩,hy,e⟩:=Wau.mp hm;dsimp only at e;split at e
 ·rename_i hj
  have e1:n=x:=congrArg Prod.fst e;have hj':j=.free:=by
   simp only[Wbh,beq_iff_eq]at hj;exact hj.1.1
  rw[<- e1,<- hj'];exact hy
 ·have e1:n=x:=congrArg Prod.fst e
  have e2:j=k:=congrArg Prod.snd e;rcases hk with z|z
  ·exact absurd (show ((n,j):Str × NameKind).2=.cell from e2.trans z) (hc _ hy)
  ·rw[<- e1,<- z,<- e2];exact hy
theorem Zgj {osc:Scope}{x:Str}:∀{names:List (Str × NameKind)},names.lookup x=some .free →
  (names.map λ(n,k)=>if (k == NameKind.free && osc.kind == .function && osc.names.lookup n == some .cell) then (n,NameKind.cell) else (n,k)).lookup x=some .cell ∨
  (names.map λ(n,k)=>if (k == NameKind.free && osc.kind == .function && osc.names.lookup n == some .cell) then (n,NameKind.cell) else (n,k)).lookup x=some .free
 |[],h=>by simp at h
 | (n,k)::r,h=>by
  have ih:=@Zgj osc x r;rw[Wa4];cases hx:x == n with
  |true=>
   simp only[Wce,hx]at h;cases h;dsimp only;split
   ·left;simp[Wce,hx]
   ·right;simp[Wce,hx]
  |false=>
   simp only[Wce,hx]at h;dsimp only;split
   ·simpa only[Wce,hx] using ih h
   ·simpa only[Wce,hx] using ih h
structure CompSc (osc:Scope) (oN:List Str) (scope:Scope) (fvs:List Str) (sel:List Nat):Prop where
 kind:scope.kind=.function
 nocell:∀y∈scope.names,y.2≠.cell
 names:∀y∈scope.names,y.2=.local->scope.names.lookup y.1=some .local
 free:∀y∈scope.names,y.2=.free->osc.names.lookup y.1=some .cell\/osc.names.lookup y.1=some .free
 len:fvs.length=sel.length
 fv:∀p∈fvs.zip sel,oN[p.2]?=some p.1/\scope.names.lookup p.1=some .free
def compCx (X:Cx) (scope:Scope) (N:List Str) (C:Addr) (s:Shared) (H:Hp) (ex:List Addr) (pn:List (Addr × Obj)):Cx where
 prog:=X.prog
 w:=X.w
 K:=X.K
 mg:=X.mg
 base:=X.base
 A:=X.A
 N:=N
 s₀:=s
 H₀:=H
 env:=compEnvC scope (clOf X.env scope.names []) C X.env
 outer:=X.stack
 stack:=X.stack
 ex:=ex
 fn:=λ_=>false
 calm:=X.calm
 pn:=pn
 xe:=λ_ _=>False
def compSt (n:Nat) (sel:List Nat) (σ:St):St:=Wad n none++sel.map λi=>(σ[i]?).getD none
section
variable {X:Cx}{pins:List (Addr × Obj)}{σ:St}{H:Hp}{s:Shared}{fp:List Addr}{scope:Scope}{tgs fvs:List Str}{sel:List Nat}
theorem Zcx (S:CompSc X.env.scope X.N scope fvs sel) (ok:X.Ok):∀n,(n,NameKind.free)∈scope.names->∃a,X.env.cells.lookup n=some a:=λn hn=>
 ok.has n (S.free _ hn rfl)
theorem Zrk (S:CompSc X.env.scope X.N scope fvs sel) (N:List Str) (I:Inv X pins σ H s) (hf:∀b∈fp,FpOk X pins H b) (hlt:∀b∈fp,b<s.heap.objs.size):(compCx X scope N s.heap.objs.size s H fp (X.pn++pins)).Ok where
 mod:=I.ok.mod
 kind:=S.kind
 glob:=I.ok.glob
 blt:=I.ok.blt
 above:=Wah _
 inj:=λx y c h1 h2=>I.ok.inj x y c (Zbg _ _ (λ_ _ z=>by simp at z) h1) (Zbg _ _ (λ_ _ z=>by simp at z) h2)
 has:=λx hx=>by
  have hm:(x,NameKind.free)∈scope.names:=by
   rcases hx with z|z
   ·exact Zhu (osc:=X.env.scope) (.inl rfl) S.nocell z
   ·exact Zhu (osc:=X.env.scope) (.inr rfl) S.nocell z
  exact Zeg scope.names [] hm (Zcx S I.ok x hm)
 cab:=λx c h _=>by cases h
 hd:=I.ok.hd
 frames:=I.ok.frames
 stk:=.inl rfl
 exf:=λb hb=>⟨Way (hlt b hb),λx c e=>(hf b hb).2.2.2.2.1 x c (Zbg _ _ (λ_ _ z=>by simp at z) e)⟩
 bs:=I.bs
 bsz:=Wbq I.ok.bsz I.sz
 noex:=λb o e hb=>by
  rcases(hf b hb).2.2.2.1 with z|z
  ·exact I.ok.noex b o e z
  ·exact absurd (Wa9 (War e) (Wbq I.ok.bsz z)) (Wc0 _)
 exfs:=λb hb z=>by
  rcases Wan.mp (I.stkSub b z) with e|z
  ·exact(hf b hb).2.1 e
  ·exact(hf b hb).2.2.1 z
 funs:=I.stack
 frf:=I.stkFree
theorem Zkb (S:CompSc X.env.scope X.N scope fvs sel) (I:Inv X pins σ H s) (hf:∀b∈fp,FpOk X pins H b) (hlt:∀b∈fp,b<s.heap.objs.size) {h':Heap}{tk:Nat}{m:Str->Option Value}
  (hns:h'.Ns s.heap.objs.size m) (old:∀b o,s.heap.get? b=some o->h'.get? b=some o) :
  Inv (compCx X scope (tgs++fvs) s.heap.objs.size s H fp (X.pn++pins)) [] (compSt tgs.length sel σ) H { s with heap:=h',toks:=tk } where
 ok:=Zrk S _ I hf hlt
 os:=rfl
 bare:=I.bare
 base:=Un.kept old
 loc:=by
  refine⟨m,hns,λi x v h1 h2 h3=>?_⟩;have h1:(tgs++fvs)[i]?=some x:=h1;unfold compSt at h2;by_cases hi:i<tgs.length
  ·rw[Wa8 (by simpa using hi),Wb8,if_pos hi]at h2
   cases h2
  ·have hi':tgs.length<=i:=Nat.le_of_not_lt hi
   rw[Waz (by simpa using hi'),Wag,Wal]at h2;rw[Waz hi']at h1;cases hj:sel[i-tgs.length]? with
   |none=>rw[hj]at h2;cases h2
   |some j=>
    rw[hj]at h2;have h2:(σ[j]?).getD none=some v:=by simpa using h2
    have hz:(x,j)∈fvs.zip sel:=by
     refine Wak (i:=i-tgs.length) ?_;rw[Wby];exact⟨h1,hj⟩
    obtain⟨hN,hfr⟩:=S.fv _ hz;have hσ:σ[j]?=some (some v):=by
     cases q:σ[j]? with
     |none=>rw[q]at h2;cases h2
     |some o=>rw[q]at h2;exact congrArg some h2
    have hko:X.env.scope.names.lookup x=some .cell\/X.env.scope.names.lookup x=some .free:=S.free (x,.free) (PySem.mem_of_lookup hfr) rfl;obtain⟨m0,hn0,hl0⟩:=I.loc;obtain⟨u,r,l⟩:=hl0 j x v hN hσ (.inr hko);refine⟨u,r,.inr ⟨Zgj hfr,?_⟩⟩;rcases l with ⟨hk,_⟩|⟨_,c,hc,hcell⟩
    ·have hk:X.env.scope.names.lookup x=some .local:=hk
     rcases hko with z|z <;> (rw[hk]at z;cases z)
    ·obtain⟨c',hc'⟩:=Zeg scope.names [] (PySem.mem_of_lookup hfr) ⟨c,hc⟩
     have e:=Zbg scope.names [] (λ_ _ z=>by simp at z) hc';rw[hc]at e;cases e;obtain⟨o,ho,hd⟩:=hcell;exact⟨c,hc',o,old _ _ ho,hd⟩
 cell:=λx c e=>by
  obtain⟨v,o,ho,hd⟩:=I.cell x c (Zbg _ _ (λ_ _ z=>by simp at z) e);exact⟨v,o,old _ _ ho,hd⟩
 free:=I.hok.fresh (Wah _)
 freeC:=λx c e=>I.freeC x c (Zbg _ _ (λ_ _ z=>by simp at z) e)
 pin:=λp hp=>by
  have hp:p∈(X.pn++pins)++[]:=hp;rw[Wa3]at hp;obtain⟨e,n,ne,nf,d⟩:=I.pin p hp;refine⟨old _ _ e,n,Way (War e),λz=>?_,d⟩;rcases Wan.mp (I.stkSub p.1 z) with q|q
  ·exact ne q
  ·exact nf q
 hok:=I.hok.kept old
 len:=by
  unfold compSt;show _=(tgs++fvs).length;rw[Wai,Wai,Wal,Waa,S.len]
theorem Zim {N:List Str}{σ':St}{H':Hp}{s':Shared}{h':Heap}(I:Inv X pins σ H s) (hf:∀b∈fp,FpOk X pins H b)
  (J:Inv (compCx X scope N s.heap.objs.size s H fp (X.pn++pins)) [] σ' H' s') (sb:Heap.SameBut s.heap.objs.size s'.heap h'):Inv X pins σ H' { s' with heap:=h' }:=by
 have B:Un (frs X.stack) fp H H' s.heap s'.heap:=J.base;have ne:∀b o,s.heap.get? b=some o->b≠s.heap.objs.size:=λb o e=>Way (War e);have fr:H' s.heap.objs.size=none:=J.free;refine I.call' (s':={ s' with heap:=h' }) (ch:=fp) J.os ⟨λb o e n h1 h2=>?_,λb o e n h1 h2=>?_,B.free,λb o e h2=>?_,B.tups,B.frzs,B.tbls⟩ (λb ob e=>?_) J.bare λb hb=>?_
 ·exact(sb.2 b (ne b o e)).trans (B.keep b o e n h1 h2)
 ·obtain⟨sl,q⟩:=B.slot b o e n h1 h2
  exact⟨sl,(sb.2 b (ne b o e)).trans q⟩
 ·obtain⟨o',q⟩:=B.there b o e h2
  exact⟨o',(sb.2 b (ne b o e)).trans q⟩
 ·refine(J.hok b ob e).stay (λc w' hc q=>(sb.2 c ?_).trans q) (λ_ q=>q) λ_ _ q=>q
  intro z;rcases hc with hc|hc
  ·rw[<- hc,z,fr]at e;cases e
  ·rw[z,fr]at hc;cases hc
 ·exact⟨(hf b hb).2.2.2.1,(hf b hb).2.1,(hf b hb).2.2.2.2.1,(hf b hb).2.2.2.2.2⟩
end
def PTs (X:Cx) (ifs:List Expr) (t:TT):Prop:=
 ∀(pins:List (Addr × Obj)) (s:Shared) (σ:St) (H:Hp) (Q:Bool->Hp->Prop),Inv X pins σ H s->t σ H Q →
  wpAny (model X.prog X.w) X.A (forIn ifs true λc r=>if r=true then do let ok ← isTrue c X.env (eval c X.env);pure (ForInStep.yield ok) else pure (ForInStep.yield r)) (TP X pins σ Q) X.xe s
def tTrue:TT:=λ_ H Q=>Q true H
theorem Zch {X:Cx}:PTs X [] tTrue:=λpins s σ H Q I h=>wpAny_tests_nil ⟨H,I,h⟩
theorem Zni {X:Cx}{c:Expr}{t:TT}(h:PT X c t):PTs X [c] t:=λpins s σ H Q I hq=>wpAny_tests_one (h pins s σ H Q I hq)
def tComp (n:Nat) (sel:List Nat) (wi:TI) (g:TG) (tc:TT) (te:TE):TE:=λσ H Q=>wi σ H λJ H1=>∀acc,H1 acc=none->∃W:Nat->Nat->St->Hp->Prop,
 (∃m,W 0 m (compSt n sel σ) (upd H1 acc (.lst [])))/\∀i m σ' H',W i m σ' H' →
  (J.stop i H' /\ Q (.ref acc) H')\/(J.go i H' /\ ∃N:St->Hp->Prop,(∀σ2 H2,N σ2 H2->∃m',m'<m/\W (i+1) m' σ2 H2) ∧
   ∀x H2,J.yld i H' x H2->g x σ' H2 λσ2 H3=>tc σ2 H3 λb H4=>if b=true then te σ2 H4 λy H5=>∃ys,H5 acc=some (.lst ys)/\ys.length<sizeLine/\N σ2 (upd H5 acc (.lst (ys++[y]))) else N σ2 H4)
section
variable {X:Cx}
theorem Zh7 {elt tg iter:Expr}{ifs:List Expr}{scope:Scope}{pos:Pos}{tgs fvs:List Str}{sel:List Nat}{g:TG}{tc:TT}{te:TE}(S:CompSc X.env.scope X.N scope fvs sel) {Cm:Cx->Prop}(hc:∀C s H ex pn,Cm (compCx X scope (tgs++fvs) C s H ex pn))
  (hg:∀C s H ex pn,PG (compCx X scope (tgs++fvs) C s H ex pn) tg g) (ht:∀C s H ex pn,PTs (compCx X scope (tgs++fvs) C s H ex pn) ifs tc) (he:∀C s H ex pn,PE (compCx X scope (tgs++fvs) C s H ex pn) elt te)
  {pins:List (Addr × Obj)}{σ:St}{s:Shared}{itv:Value}{Q:VK}{E:Value->Shared->Prop}{RR:Value->Addr->Result->Shared->Prop}
  (h2:PIEG Cm X pins σ tg (λJ H1=>∀acc,H1 acc=none->∃W:Nat->Nat->St->Hp->Prop,
   (∃m,W 0 m (compSt tgs.length sel σ) (upd H1 acc (.lst [])))/\∀i m σ' H',W i m σ' H' →
   (J.stop i H' /\ Q (.ref acc) H')\/(J.go i H' /\ ∃N:St->Hp->Prop,(∀σ2 H2,N σ2 H2->∃m',m'<m/\W (i+1) m' σ2 H2) ∧
   ∀x H2,J.yld i H' x H2->g x σ' H2 λσ2 H3=>tc σ2 H3 λb H4=>if b=true then te σ2 H4 λy H5=>∃ys,H5 acc=some (.lst ys)/\ys.length<sizeLine/\N σ2 (upd H5 acc (.lst (ys++[y]))) else N σ2 H4)) itv s)
  (fin:∀(s':Shared) (C acc:Addr) (H':Hp) (m:Str->Option Value),s'.heap.Ns C m->FpOk X pins H' C->(∀h',Heap.SameBut C s'.heap h' -> Inv X pins σ H' { s' with heap:=h' })->Q (.ref acc) H' -> RR (.ref acc) C (.ok .next) s') :
  wpAny (model X.prog X.w) X.A (newList []) (λacc s3=>wpAny (model X.prog X.w) X.A (newFunctionEnv scope X.env.globals (clOf X.env scope.names []) [] X.env.qual none .none (some X.env)) (λcenv s4=>
   codeAny (model X.prog X.w) X.A (.compStart (.ListComp elt [⟨tg,iter,ifs,0⟩] scope pos) 0 itv acc { cenv with scope:=relabel scope X.env }) (RR acc cenv.locals) s4) E s3) E s:=by
 obtain⟨it,fp,tn,J,H1,e,I,T,st,f2,h2⟩:=h2;subst e;have hlt:∀b∈fp,b<s.heap.objs.size:=λb hb=>let ⟨o,ho,_⟩:=T.obj 0 _ st b hb; War ho
 refine wpAny_newObj_type (wpAny_newFunctionEnv S.nocell (by intro y hy;simp at hy) (λh1 hns hsb=>?_) S.kind);dsimp only at hns hsb ⊢;have I3:Inv X pins σ (upd H1 s.heap.objs.size (.lst [])) { s with heap:=s.heap.push { cls:=.type "list",data:=.seq ([]:List Value).toArray },toks:=s.toks }:=I.lnew (its:=[]) .nil (by decide);have hacc:H1 s.heap.objs.size=none:=I.hok.fresh (Wah _);obtain⟨W,⟨m0,w0⟩,turn⟩:=h2 s.heap.objs.size hacc;generalize hs3:({ s with heap:=s.heap.push { cls:=.type "list",data:=.seq ([]:List Value).toArray },toks:=s.toks }:Shared)=s3 at I3;have hh3:s3.heap=s.heap.push { cls:=.type "list",data:=.seq ([]:List Value).toArray }:=by rw[<- hs3]
 have old3:∀b o,s.heap.get? b=some o->s3.heap.get? b=some o:=λb o q=>by rw[hh3];exact Wac _ q
 have hf3:∀b∈fp,FpOk X pins (upd H1 s.heap.objs.size (.lst [])) b:=λb hb=>⟨by rw[Zaj (Way (hlt b hb))];exact(f2 b hb).1,(f2 b hb).2⟩;have hlt3:∀b∈fp,b<s3.heap.objs.size:=λb hb=>by rw[hh3,Wch];exact Wbz (hlt b hb)
 have tn3:tn 0 s3.heap:=T.keep 0 _ _ st λb hb o q=>old3 b o q;have old4:∀b o,s3.heap.get? b=some o->h1.get? b=some o:=λb o q=>by
  have hb:b≠s3.heap.objs.size:=Way (War q);rw[hh3]at hb q;exact(hsb.2 b hb).trans (Wac _ q)
 have tn4:tn 0 h1:=T.keep 0 _ _ tn3 λb hb o q=>old4 b o q;have hC:(s.heap.push { cls:=.type "list",data:=.seq ([]:List Value).toArray }).objs.size=s3.heap.objs.size:=by rw[hh3]
 rw[hC]at hns;have J0:=Zkb (tgs:=tgs) (tk:=s.toks+([]:List (Str × Value)).length) S I3 hf3 hlt3 hns old4;have es:({ s3 with heap:=h1,toks:=s.toks+([]:List (Str × Value)).length }:Shared) = { s with heap:=h1,toks:=s.toks+([]:List (Str × Value)).length }:=by rw[<- hs3]
 rw[es]at J0;generalize hY:compCx X scope (tgs++fvs) s3.heap.objs.size s3 (upd H1 s.heap.objs.size (.lst [])) fp (X.pn++pins)=Y at J0;have hYp:Y.prog=X.prog:=by rw[<- hY];rfl
 have hYw:Y.w=X.w:=by rw[<- hY];rfl
 have hYK:Y.K=X.K:=by rw[<- hY];rfl
 have hYA:Y.A=X.A:=by rw[<- hY];rfl
 have hYc:Cm Y:=by rw[<- hY];exact hc _ _ _ _ _
 have hYx:Y.xe=λ_ _=>False:=by rw[<- hY];rfl
 have hYe:Y.env=compEnvC scope (clOf X.env scope.names []) s3.heap.objs.size X.env:=by rw[<- hY];rfl
 have stat:∀{H':Hp},(∀b∈fp,H' b=none)->∀b∈fp,FpOk Y [] H' b:=λhn b hb=>by
  rw[<- hY];refine⟨hn b hb,Way (hlt3 b hb),λz=>?_,.inl hb,λx c e=>?_,λp hp z=>?_⟩
  ·rcases Wan.mp (I3.stkSub b z) with q|q
   ·exact(hf3 b hb).2.1 q
   ·exact(hf3 b hb).2.2.1 q
  ·exact(hf3 b hb).2.2.2.2.1 x c (Zbg _ _ (λ_ _ z=>by simp at z) e)
  ·have hp:p∈(X.pn++pins)++[]:=hp
   rw[Wa3]at hp;exact(hf3 b hb).2.2.2.2.2 p hp z
 have loop:codeAny (model X.prog X.w) X.A (.compLoop (.ListComp elt [⟨tg,iter,ifs,0⟩] scope pos) 0 (.ref it) (.ref s.heap.objs.size) Y.env) (RR (.ref s.heap.objs.size) s3.heap.objs.size)
   { s with heap:=h1,toks:=s.toks+([]:List (Str × Value)).length }:=by
  refine codeAny_loop rfl (λn s'=>∃i σ' H',Inv Y [] σ' H' s' /\ tn i s'.heap/\(∀b∈fp,H' b=none)/\W i n σ' H') ?_ m0 ⟨0,_,_,J0,tn4,λb hb=>(hf3 b hb).1,w0⟩;rintro n s5 ⟨i,σ5,H5,I5,st5,fr5,w5⟩;show wpAny _ X.A ((compTurn (.ListComp elt [⟨tg,iter,ifs,0⟩] scope pos) 0 (.ref it) (.ref s.heap.objs.size) Y.env).onRaise (λx=>do noteFrame x Y.env;theTreesLotGoes x)) _ _ s5;refine wpAny_noted (wpAny_mono (E:=λ_ _=>False) ?_ (λ_ _ q=>q) λ_ _ z=>z.elim);rw[compTurn_list];refine wpAny_bind (wpAny_standAt (wpAny_bind ?_));rcases turn i n σ5 H5 w5 with ⟨stop,qn⟩|⟨go,N,hN,step⟩
  ·have D:=T.done Y hYp hYw hYK hYc i [] s5 σ5 H5 (λ_ _=>False) I5 (stat fr5) st5 stop
   rw[hYA]at D;refine thn D λr s6 ⟨hr,I6⟩=>?_;subst hr;refine wpAny_pure ?_;obtain⟨m6,hn6,_⟩:=I6.loc;rw[hYe]at hn6;refine fin s6 _ _ H5 m6 hn6 (I3.fpOk (Wah _) (by have z:=I6.free;rw[hYe]at z;exact z)) (λh' sb=>?_) qn;have I6':Inv (compCx X scope (tgs++fvs) s3.heap.objs.size s3 (upd H1 s.heap.objs.size (.lst [])) fp (X.pn++pins)) [] σ5 H5 s6:=by rw[hY];exact I6
   exact Zim I3 hf3 I6' sb
  ·have D:=T.item Y hYp hYw hYK hYc i [] s5 σ5 H5 (λ_ _=>False) I5 (stat fr5) st5 go
   rw[hYA]at D;refine thn D λr s6 ⟨u,hr,h6⟩=>?_;subst hr;refine wpAny_bind (thn h6 λ_ s7 ⟨x,H7,I7,r7,y7,st7,fr7⟩=>?_);have I7':=I7.pinned (stat fr7) (T.obj _ _ st7);have G:=hg s3.heap.objs.size s3 (upd H1 s.heap.objs.size (.lst [])) fp (X.pn++pins);have TT:=ht s3.heap.objs.size s3 (upd H1 s.heap.objs.size (.lst [])) fp (X.pn++pins);have EE:=he s3.heap.objs.size s3 (upd H1 s.heap.objs.size (.lst [])) fp (X.pn++pins);rw[hY]at G TT EE;have G1:=G _ s7 σ5 H7 x u _ I7' r7 (step x H7 y7);rw[hYp,hYw,hYA,hYx]at G1;refine wpAny_bind (thn G1 λ_ s8 ⟨σ8,H8,I8,q8⟩=>?_);have T1:=TT _ s8 σ8 H8 _ I8 q8;rw[hYp,hYw,hYA,hYx]at T1;refine wpAny_bind (thn T1 λok s9 ⟨H9,I9,q9⟩=>?_);have again:∀{s':Shared}{σ':St}{H':Hp},Inv Y ([]++pinsAt fp s7.heap) σ' H' s' -> N σ' H' -> ∃m,m<n/\∃i σ' H',Inv Y [] σ' H' s' /\ tn i s'.heap/\(∀b∈fp,H' b=none)/\W i m σ' H':=λ{s' σ' H'} K7 n7=>by
    obtain⟨m',hm,w7⟩:=hN σ' H' n7;refine⟨m',hm,i+1,σ',H',K7.unpinned,T.keep _ _ _ st7 λb hb o e=>(K7.pin (b,o) (Wa0 _ (Wa0 _ (Zcd hb e)))).1,λb hb=>?_,w7⟩;obtain⟨o,e,d⟩:=T.obj _ _ st7 b hb;exact(K7.pin (b,o) (Wa0 _ (Wa0 _ (Zcd hb e)))).2.1
   cases ok with
   |false=>
    have q9:N σ8 H9:=q9;exact wpAny_pure ⟨by rw[hYe],again I9 q9⟩
   |true=>
    have q9:te σ8 H9 λy H5=>∃ys,H5 s.heap.objs.size=some (.lst ys)/\ys.length<sizeLine/\N σ8 (upd H5 s.heap.objs.size (.lst (ys++[y]))):=q9;have E1:=EE _ s9 σ8 H9 _ I9 q9;rw[hYp,hYw,hYA,hYx]at E1;refine wpAny_bind (wpAny_bind (thn E1 λv sa ⟨y,Ha,Ia,ra,ys,ea,za,na⟩=>?_));have M:=Zbv (X:=Y) _ sa σ8 Ha (.ref s.heap.objs.size) [y] (.ref s.heap.objs.size) [v] (λ_ H=>N σ8 H) Ia rfl (.cons ra .nil) ⟨_,ys,y,rfl,rfl,ea,za,na⟩;rw[hYp,hYw,hYA,hYx]at M;refine wpAny_bind (thn M λ_ sb ⟨_,Hb,Ib,_,nb⟩=>wpAny_pure (wpAny_pure ⟨by rw[hYe],again Ib nb⟩))
 have hcs:(relabel scope X.env)=(relabel scope X.env):=rfl;have loop':=loop;rw[hYe]at loop';show codeAny (model X.prog X.w) X.A (.compStart (.ListComp elt [⟨tg,iter,ifs,0⟩] scope pos) 0 (.ref it) (.ref s.heap.objs.size) (compEnvC scope (clOf X.env scope.names []) (s.heap.push { cls:=.type "list",data:=.seq ([]:List Value).toArray }).objs.size X.env)) (RR (.ref s.heap.objs.size) (s.heap.push { cls:=.type "list",data:=.seq ([]:List Value).toArray }).objs.size) _;rw[hC];exact codeAny_compStart_list loop' (T.self _ 0 _ _ _ tn4 loop')
theorem Zc3 {elt tg iter:Expr}{ifs:List Expr}{scope:Scope}{pos:Pos}{fvs:List Str}{sel:List Nat}{wi:TI}{g:TG}{tc:TT}{te:TE}(tgs:List Str) (S:CompSc X.env.scope X.N scope fvs sel) (hc:X.calm=true)
  (hi:PI X tg iter wi) (hg:∀C s H ex pn,PG (compCx X scope (tgs++fvs) C s H ex pn) tg g) (ht:∀C s H ex pn,PTs (compCx X scope (tgs++fvs) C s H ex pn) ifs tc) (he:∀C s H ex pn,PE (compCx X scope (tgs++fvs) C s H ex pn) elt te)
  (hs:∀x,foldedSetIterable iter X.env x=pure x:=by intro _;rfl) :
  PE X (.ListComp elt [⟨tg,iter,ifs,0⟩] scope pos) (tComp tgs.length sel wi g tc te):=by
 intro pins s σ H Q I h;rw[eval_ListComp];refine wpAny_comprehension_free (use:=none) rfl hs (Zbs (Zcx S I.ok)) S.kind S.names (thn (hi pins s σ H _ I h) λv s1 h1=>thn h1 λitv s2 h2=>?_);refine Zh7 (Cm:=λX=>X.calm=true) S (λ_ _ _ _ _=>hc) hg ht he (RR:=λacc C=>compPost (model X.prog X.w) X.A X.xe none (EP X pins σ Q) acc C) (Q:=Q) h2 ?_;intro s' C acc H' m hn _ hI q;exact⟨m,hn,λh' sb=>⟨.ref acc,H',hI h' sb,rfl,q⟩⟩
theorem Zdq {elt tg iter:Expr}{ifs:List Expr}{scope:Scope}{pos spos py:Pos}{fvs:List Str}{sel:List Nat}{wi:TI}{g:TG}{tc:TT}{te:TE}{i:Nat}{y:Str}(tgs:List Str) (S:CompSc X.env.scope X.N scope fvs sel) (hc:X.calm=true)
  (hN:X.N.Nodup) (hiy:X.N[i]?=some y) (hx:Loc X.env.scope y)
  (hi:PI X tg iter wi) (hg:∀C s H ex pn,PG (compCx X scope (tgs++fvs) C s H ex pn) tg g) (ht:∀C s H ex pn,PTs (compCx X scope (tgs++fvs) C s H ex pn) ifs tc) (he:∀C s H ex pn,PE (compCx X scope (tgs++fvs) C s H ex pn) elt te)
  (hs:∀x,foldedSetIterable iter X.env x=pure x:=by intro _;rfl) (hsw:swapsWith (.ListComp elt [⟨tg,iter,ifs,0⟩] scope pos) (some (.Name y py)) spos.line X.env=pure true:=by rfl)
  (hf:X.fn y=true\/X.env.scope.names.lookup y=some .local:=by first|exact .inl rfl|exact .inr rfl|assumption) :
  PS X (.Assign [.Name y py] (.ListComp elt [⟨tg,iter,ifs,0⟩] scope pos) spos) (tAsg (tComp tgs.length sel wi g tc te) (gName i)):=by
 intro pins s σ H D I h;rw[exec_Assign_Name_used _ _ _ _ hsw];refine wpAny_bind (wpAny_standAt (wpAny_bind ?_));show wpAny _ X.A (do let _ ← comprehension (.ListComp elt [⟨tg,iter,ifs,0⟩] scope pos) scope X.env _ (newList []) false (eval iter X.env) (some (assign (.Name y py) X.env))) _ _ s;refine wpAny_bind (wpAny_mono (wpAny_comprehension_free (use:=some (assign (.Name y py) X.env)) (Q:=λ_ s'=>SP X pins D .next s') rfl hs (Zbs (Zcx S I.ok)) S.kind S.names
  (thn (hi pins s σ H _ I h) λv s1 h1=>thn h1 λitv s2 h2=>?_)) (λ_ s' hq=>wpAny_pure (wpAny_pure hq)) λ_ _ e=>e)
 refine Zh7 (Cm:=λX=>X.calm=true) S (λ_ _ _ _ _=>hc) hg ht he (RR:=λacc C=>compPost (model X.prog X.w) X.A X.xe (some (assign (.Name y py) X.env)) (λ_ s'=>SP X pins D .next s') acc C) (Q:=λv H'=>D.nx (σ.set i (some v)) H') h2 ?_;intro s' C acc H' m hn fp hI q;have I0:Inv X pins σ H' s':=hI s'.heap (.refl ..);show wpAny _ X.A (assign (.Name y py) X.env (.ref acc)) _ _ _;refine wpAny_assign_Name (Zfj (v:=.ref acc) I0 hN hiy hx rfl (λs2 I2 hsb=>?_) hf);obtain⟨a,sb,ha⟩:=hsb;have hCa:C≠a:=by
  rcases ha with z|z
  ·rw[z];exact fp.2.1
  ·exact Ne.symm (fp.2.2.2.2.1 y a z)
 refine⟨m,hn.sameBut sb hCa,λh' sb'=>?_⟩;obtain⟨f0,f1,f2,f3,f4,f5⟩:=fp;exact⟨_,H',I2.turned (t':=s2.toks) (it:=C) (λb o hb e=>(sb'.2 b hb).trans e) f0 f1 f3 f4 f5,q⟩
end
def InsC (a C:Addr) (h:Heap):Prop:=∃ox vs,h.get? a=some ox/\ox.cls=.ref C/\ox.data=.fields vs/\vs[2]?=some .none
inductive D where
 |non|bl (b:Bool)|int (i:Int)|str (x:Str)|ty (n:String)|tup (ds:List D)|lst (ds:List D)|scr (ds:List D)|adr (a:Addr)|dct (ks:List Key) (ds:List D)|exc (a C:Addr)
mutual
inductive Rep (K:W.Frag) (G:Hp):V->D->Prop
 |non:Rep K G .non .non
 |bl (b:Bool):Rep K G (.bl b) (.bl b)
 |int (i:Int):Rep K G (.int i) (.int i)
 |str (x:Str):Rep K G (.str x) (.str x)
 |ty (n:String):Rep K G (.ty n) (.ty n)
 |tup {a:Addr}{vs:List V}{ds:List D}:G a=some (.tup vs)->Reps K G vs ds->Rep K G (.ref a) (.tup ds)
 |lst {a:Addr}{vs:List V}{ds:List D}:G a=some (.lst vs)->Reps K G vs ds->Rep K G (.ref a) (.lst ds)
 |scr {a:Addr}{vs:List V}{ds:List D}:SqL K G a vs->Reps K G vs ds->Rep K G (.ref a) (.scr ds)
 |adr (a:Addr):Rep K G (.ref a) (.adr a)
 |dct {a:Addr}{ks:List Key}{vs:List V}{ds:List D}:G a=some (.dK (ks.zip vs))->ks.length=vs.length->Reps K G vs ds->Rep K G (.ref a) (.dct ks ds)
 |exc {a C:Addr}:G a=some (.ext (InsC a C))->Rep K G (.ref a) (.exc a C)
inductive Reps (K:W.Frag) (G:Hp):List V->List D->Prop
 |nil:Reps K G [] []
 |cons {v:V}{d:D}{vs:List V}{ds:List D}:Rep K G v d->Reps K G vs ds->Reps K G (v::vs) (d::ds)
end
def RepI (K:W.Frag) (G:Hp) (v:V):D->Prop
 |.non=>v=.non
 |.bl b=>v=.bl b
 |.int i=>v=.int i
 |.str x=>v=.str x
 |.ty n=>v=.ty n
 |.tup ds=>∃a vs,v=.ref a/\G a=some (.tup vs)/\Reps K G vs ds
 |.lst ds=>∃a vs,v=.ref a/\G a=some (.lst vs)/\Reps K G vs ds
 |.scr ds=>∃a vs,v=.ref a/\SqL K G a vs/\Reps K G vs ds
 |.adr a=>v=.ref a
 |.dct ks ds=>∃a vs,v=.ref a/\G a=some (.dK (ks.zip vs))/\ks.length=vs.length/\Reps K G vs ds
 |.exc a C=>v=.ref a/\G a=some (.ext (InsC a C))
theorem Rep.inv {K:W.Frag}{G:Hp}{v:V}{d:D}(r:Rep K G v d):RepI K G v d:=by
 cases r with
 |tup h r=>exact⟨_,_,rfl,h,r⟩
 |lst h r=>exact⟨_,_,rfl,h,r⟩
 |scr h r=>exact⟨_,_,rfl,h,r⟩
 |dct h l r=>exact⟨_,_,rfl,h,l,r⟩
 |exc h=>exact⟨rfl,h⟩
 |_=>rfl
def RepsI (K:W.Frag) (G:Hp) (vs:List V):List D->Prop
 |[]=>vs=[]
 |d::ds=>∃v ws,vs=v::ws/\Rep K G v d/\Reps K G ws ds
theorem Reps.inv {K:W.Frag}{G:Hp}{vs:List V}{ds:List D}(r:Reps K G vs ds):RepsI K G vs ds:=by
 cases r with
 |nil=>rfl
 |cons a b=>exact⟨_,_,rfl,a,b⟩
section
variable {K:W.Frag}{G G' H H':Hp}
mutual
theorem Rep.mono (s:Same G G'):∀{v:V}{d:D},Rep K G v d->Rep K G' v d
 |_,_,.non=>.non
 |_,_,.bl b=>.bl b
 |_,_,.int i=>.int i
 |_,_,.str x=>.str x
 |_,_,.ty n=>.ty n
 |_,_,.tup h r=>.tup (s _ _ h) (Reps.mono s r)
 |_,_,.lst h r=>.lst (s _ _ h) (Reps.mono s r)
 |_,_,.scr h r=>.scr (s.seq h) (Reps.mono s r)
 |_,_,.adr a=>.adr a
 |_,_,.dct h l r=>.dct (s _ _ h) l (Reps.mono s r)
 |_,_,.exc h=>.exc (s _ _ h)
theorem Reps.mono (s:Same G G'):∀{vs:List V}{ds:List D},Reps K G vs ds->Reps K G' vs ds
 |_,_,.nil=>.nil
 |_,_,.cons h r=>.cons (Rep.mono s h) (Reps.mono s r)
end
theorem Reps.length:∀{vs:List V}{ds:List D},Reps K G vs ds->vs.length=ds.length
 |_,_,.nil=>rfl
 |_,_,.cons _ r=>by rw[Wap,Wap,r.length]
theorem Reps.get:∀{vs:List V}{ds:List D}{i:Nat}{d:D},Reps K G vs ds->ds[i]?=some d->∃v,vs[i]?=some v/\Rep K G v d
 |_,_,_,_,.nil,e=>by simp at e
 |_,_,0,_,.cons r _,e=>by simp at e;subst e;exact⟨_,rfl,r⟩
 |_,_,i+1,d,.cons _ t,e=>by
  obtain⟨u,h1,h2⟩:=Reps.get (i:=i) (d:=d) t (by simpa using e);exact⟨u,by simpa using h1,h2⟩
theorem Reps.append:∀{vs ws:List V}{ds es:List D},Reps K G vs ds->Reps K G ws es->Reps K G (vs++ws) (ds++es)
 |_,_,_,_,.nil,s=>s
 |_,_,_,_,.cons r t,s=>.cons r (Reps.append t s)
theorem Reps.take:∀{vs:List V}{ds:List D}(n:Nat),Reps K G vs ds->Reps K G (vs.take n) (ds.take n)
 |_,_,0,_=>.nil
 |_,_,_+1,.nil=>.nil
 |_,_,n+1,.cons r t=>.cons r (Reps.take n t)
theorem Reps.drop:∀{vs:List V}{ds:List D}(n:Nat),Reps K G vs ds->Reps K G (vs.drop n) (ds.drop n)
 |_,_,0,r=>r
 |_,_,_+1,.nil=>.nil
 |_,_,n+1,.cons _ t=>Reps.drop n t
theorem Reps.reverse {vs:List V}{ds:List D}(h:Reps K G vs ds):Reps K G vs.reverse ds.reverse:=by
 induction vs generalizing ds with
 |nil=>cases h;exact .nil
 |cons v vs ih=>
  cases h with
  |cons r t=>rw[List.reverse_cons,List.reverse_cons];exact(ih t).append (.cons r .nil)
theorem Reps.set:∀{vs:List V}{ds:List D}{v:V}{d:D}(i:Nat),Reps K G vs ds->Rep K G v d->Reps K G (vs.set i v) (ds.set i d)
 |_,_,_,_,_,.nil,_=>.nil
 |_,_,_,_,0,.cons _ t,q=>.cons q t
 |_,_,_,_,i+1,.cons r t,q=>.cons r (Reps.set i t q)
theorem Reps.ints {vs:List V}:∀{ns:List Int},Reps K G vs (ns.map D.int)->vs=ns.map V.int:=by
 induction vs with
 |nil=>intro ns h;cases ns with
  |nil=>rfl
  |cons n ns=>cases h
 |cons v vs ih=>intro ns h;cases ns with
  |nil=>cases h
  |cons n ns=>
   cases h with
   |cons r t=>cases r.inv;rw[ih t];rfl
theorem Reps.ofInts:∀(ns:List Int),Reps K G (ns.map V.int) (ns.map D.int)
 |[]=>.nil
 |n::ns=>.cons (.int n) (Reps.ofInts ns)
theorem Zgp {vs:List V}{ds:List D}{i:Int}{d:D}(r:Reps K G vs ds) (h:atI ds i=some d):∃v,atI vs i=some v/\Rep K G v d:=by
 unfold atI at h ⊢;rw[<- r.length]at h;cases e:ixN vs.length i with
 |none=>rw[e]at h;cases h
 |some j=>rw[e]at h;exact r.get h
end
inductive OD where
 |lst (ds:List D)|dct (kvs:List (Key × D))|set (S:Int->Bool) (n:Nat)|dtt (kvs:List (List Key × D))
def OwnRep (K:W.Frag) (G:Hp):HO->OD->Prop
 |.lst vs,.lst ds=>Reps K G vs ds
 |.dK kvs,.dct kds=>Paired (λ(p:Key × V) (q:Key × D)=>p.1=q.1/\Rep K G p.2 q.2) kvs kds
 |.set S n,.set S' n'=>S=S' /\ n=n'
 |.dT kvs,.dtt kds=>Paired (λ(p:List Key × V) (q:List Key × D)=>p.1=q.1/\Rep K G p.2 q.2) kvs kds
 |_,_=>False
theorem OwnRep.mono {K:W.Frag}{G G':Hp}(s:Same G G') {o:HO}{od:OD}(h:OwnRep K G o od):OwnRep K G' o od:=by
 cases o <;> cases od <;> first
  |exact h.elim
  |exact Reps.mono s h
  |exact Paired.mapP h λ_ _ z=>⟨z.1,z.2.mono s⟩
  |exact h
inductive Slot where
 |any|val (d:D)|own (o:OD)|bor (o:OD)|ownA (a:Addr) (o:OD)
abbrev Evt:=List Slot
def Slot.od:Slot->Option OD
 |.own o=>some o
 |.bor o=>some o
 |.ownA _ o=>some o
 |_=>none
structure Gm where
 B:Addr->Prop
 F:Hp
 Hz:Hp
 Xo:Hp
def SlotAt (g:Gm) (x:Slot) (a:Addr):Prop:=match x with
 |.own _=>g.Hz a=none
 |.bor _=>g.B a
 |.ownA b _=>b=a/\g.Hz a=none
 |_=>True
structure Ok (K:W.Frag) (g:Gm) (G H:Hp) (σ:St) (Δ:Evt):Prop where
 same:∀b o,¬ g.B b->g.Hz b=some o->H b=some o
 lent:∀b,g.B b->H b≠none
 sub:Same g.F G
 frz:∀b o,G b=some o->H b=some o/\(g.Hz b=none\/g.F b=some o)
 ext:∀b o,g.Xo b=some o->H b=some o/\G b=none/\∀(i:Nat) x od,Δ[i]?=some x->x.od=some od -> σ[i]?≠some (some (.ref b))
 len:Δ.length = σ.length
 val:∀(i:Nat) d,Δ[i]?=some (.val d)->∃v,σ[i]?=some (some v)/\Rep K G v d
 own:∀(i:Nat) x od,Δ[i]?=some x->x.od=some od->∃a o,σ[i]?=some (some (.ref a))/\H a=some o/\OwnRep K G o od/\G a=none/\SlotAt g x a
 dis:∀(i j:Nat) x y od od' a,Δ[i]?=some x->x.od=some od -> Δ[j]?=some y->y.od=some od' -> σ[i]?=some (some (.ref a)) -> σ[j]?=some (some (.ref a))->i=j
section
variable {K:W.Frag}{g:Gm}{G H G' H':Hp}{σ:St}{Δ:Evt}
theorem Ok.live (k:Ok K g G H σ Δ):Same G H:=λb o e=>(k.frz b o e).1
theorem Ok.there (k:Ok K g G H σ Δ) {b:Addr}(h:H b=none):g.Hz b=none:=by
 cases e:g.Hz b with
 |none=>rfl
 |some o=>
  by_cases hb:g.B b
  ·exact absurd h (k.lent b hb)
  ·have:=k.same b o hb e
   rw[h]at this;cases this
theorem Ok.grow (k:Ok K g G H σ Δ) (sg:Same G G') (sh:Same H H') (hg:∀b o,G' b=some o->H' b=some o/\(G b=some o\/H b=none)):Ok K g G' H' σ Δ where
 same:=λb o hb e=>sh b o (k.same b o hb e)
 lent:=λb hb z=>by
  cases e:H b with
  |none=>exact k.lent b hb e
  |some o=>rw[sh b o e]at z;cases z
 sub:=k.sub.trans sg
 frz:=λb o e=>by
  obtain⟨h1,h2⟩:=hg b o e;refine⟨h1,?_⟩;rcases h2 with z|z
  ·exact(k.frz b o z).2
  ·exact .inl (k.there z)
 ext:=λb o e=>by
  obtain⟨h1,h2,h3⟩:=k.ext b o e;refine⟨sh b o h1,?_,h3⟩;cases q:G' b with
  |none=>rfl
  |some o'=>
   rcases(hg b o' q).2 with z|z
   ·rw[h2]at z;cases z
   ·rw[h1]at z;cases z
 len:=k.len
 val:=λi d e=>by
  obtain⟨v,h1,h2⟩:=k.val i d e;exact⟨v,h1,h2.mono sg⟩
 own:=λi x od e1 e2=>by
  obtain⟨a,o,h1,h2,h3,h4,h5⟩:=k.own i x od e1 e2;refine⟨a,o,h1,sh a o h2,h3.mono sg,?_,h5⟩;cases q:G' a with
  |none=>rfl
  |some o'=>
   rcases(hg a o' q).2 with z|z
   ·rw[h4]at z;cases z
   ·rw[h2]at z;cases z
 dis:=k.dis
theorem Ok.laid (k:Ok K g G H σ Δ) {p:Addr}(hp:H p=none) (o:HO):Ok K g (upd G p o) (upd H p o) σ Δ /\ Same G (upd G p o):=by
 have hG:G p=none:=by
  cases e:G p with
  |none=>rfl
  |some u=>rw[k.live p u e]at hp;cases hp
 have sg:Same G (upd G p o):=λb u e=>by rw[Zaj (Zal e hG)];exact e
 refine⟨k.grow sg (λb u e=>by rw[Zaj (Zal e hp)];exact e) λb u e=>?_,sg⟩;by_cases hb:b=p
 ·subst hb;rw[Zam]at e ⊢;exact⟨e,.inr hp⟩
 ·rw[Zaj hb]at e ⊢;exact⟨k.live b u e,.inl e⟩
theorem Ok.lt (k:Ok K g G H σ Δ) {i:Nat}{x:Slot}(h:Δ[i]?=some x):i < σ.length:=by
 rw[<- k.len];exact(Wae.mp h).1
def Pend (K:W.Frag) (g:Gm) (G H:Hp) (σ:St) (Δ:Evt) (a:Addr) (od:OD):Prop:=
 ∃o,H a=some o/\OwnRep K G o od/\G a=none/\g.Hz a=none/\g.Xo a=none/\∀(i:Nat) x od',Δ[i]?=some x->x.od=some od' -> σ[i]?≠some (some (.ref a))
theorem Ok.setVal (k:Ok K g G H σ Δ) {v:V}{d:D}{i:Nat}(hi:i < Δ.length) (r:Rep K G v d):Ok K g G H (σ.set i (some v)) (Δ.set i (.val d)):=by
 have hs:i < σ.length:=by rw[<- k.len];exact hi
 have old:∀(j:Nat) x od,(Δ.set i (.val d))[j]?=some x->x.od=some od->j≠i /\ Δ[j]?=some x/\(σ.set i (some v))[j]? = σ[j]?:=λj x od e1 e2=>by
  by_cases hj:j=i
  ·subst hj
   rw[Waq hi]at e1;cases e1;cases e2
  ·rw[Was (Ne.symm hj)]at e1
   exact⟨hj,e1,Was (Ne.symm hj)⟩
 refine⟨k.same,k.lent,k.sub,k.frz,λb o e=>?_,by simp[k.len],λj e h=>?_,λj x od e1 e2=>?_,λj l x y od od' a e1 e2 e3 e4 e5 e6=>?_⟩
 ·obtain⟨h1,h2,h3⟩:=k.ext b o e
  refine⟨h1,h2,λj x od e1 e2=>?_⟩;obtain⟨_,q1,q2⟩:=old j x od e1 e2;rw[q2];exact h3 j x od q1 e2
 ·by_cases hj:j=i
  ·subst hj
   rw[Waq hi]at h;cases h;exact⟨v,Waq hs,r⟩
  ·rw[Was (Ne.symm hj)]at h ⊢
   exact k.val j e h
 ·obtain⟨_,q1,q2⟩:=old j x od e1 e2
  rw[q2];exact k.own j x od q1 e2
 ·obtain⟨_,q1,q2⟩:=old j x od e1 e2
  obtain⟨_,q3,q4⟩:=old l y od' e3 e4;rw[q2]at e5;rw[q4]at e6;exact k.dis j l x y od od' a q1 e2 q3 e4 e5 e6
theorem Ok.setOwn (k:Ok K g G H σ Δ) {a:Addr}{od:OD}{i:Nat}(hi:i < Δ.length) (p:Pend K g G H σ Δ a od):Ok K g G H (σ.set i (some (.ref a))) (Δ.set i (.own od)):=by
 obtain⟨o,p1,p2,p3,p4,p5,p6⟩:=p;have hs:i < σ.length:=by rw[<- k.len];exact hi
 have old:∀(j:Nat) x,j≠i->(Δ.set i (.own od))[j]?=some x -> Δ[j]?=some x/\(σ.set i (some (.ref a)))[j]? = σ[j]?:=λj x hj e1=>by
  rw[Was (Ne.symm hj)]at e1;exact⟨e1,Was (Ne.symm hj)⟩
 refine⟨k.same,k.lent,k.sub,k.frz,λb ob e=>?_,by simp[k.len],λj e h=>?_,λj x od' e1 e2=>?_,λj l x y od1 od2 c e1 e2 e3 e4 e5 e6=>?_⟩
 ·obtain⟨h1,h2,h3⟩:=k.ext b ob e
  refine⟨h1,h2,λj x od' e1 e2=>?_⟩;by_cases hj:j=i
  ·subst hj
   rw[Waq hs];intro z;cases z;rw[p5]at e;cases e
  ·obtain⟨q1,q2⟩:=old j x hj e1
   rw[q2];exact h3 j x od' q1 e2
 ·by_cases hj:j=i
  ·subst hj
   rw[Waq hi]at h;cases h
  ·rw[Was (Ne.symm hj)]at h ⊢
   exact k.val j e h
 ·by_cases hj:j=i
  ·subst hj
   rw[Waq hi]at e1;cases e1;cases e2;exact⟨a,o,Waq hs,p1,p2,p3,p4⟩
  ·obtain⟨q1,q2⟩:=old j x hj e1
   rw[q2];exact k.own j x od' q1 e2
 ·by_cases hj:j=i
  ·by_cases hl:l=i
   ·rw[hj,hl]
   ·obtain⟨q3,q4⟩:=old l y hl e3
    rw[q4]at e6;rw[hj,Waq hs]at e5;cases e5;exact absurd e6 (p6 l y od2 q3 e4)
  ·obtain⟨q1,q2⟩:=old j x hj e1
   rw[q2]at e5;by_cases hl:l=i
   ·rw[hl,Waq hs]at e6
    cases e6;exact absurd e5 (p6 j x od1 q1 e2)
   ·obtain⟨q3,q4⟩:=old l y hl e3
    rw[q4]at e6;exact k.dis j l x y od1 od2 c q1 e2 q3 e4 e5 e6
def Slot.put:Slot->OD->Slot
 |.own _,o=>.own o
 |.bor _,o=>.bor o
 |.ownA a _,o=>.ownA a o
 |x,_=>x
theorem SlotAt.put {g:Gm}{x:Slot}{a:Addr}{o:OD}(h:SlotAt g x a):SlotAt g (x.put o) a:=by cases x <;> exact h
theorem SlotAt.free {g:Gm}{x:Slot}{a:Addr}{od:OD}(h:SlotAt g x a) (ho:x.od=some od):g.Hz a=none\/g.B a:=by
 cases x with
 |any=>cases ho
 |val d=>cases ho
 |own o=>exact .inl h
 |bor o=>exact .inr h
 |ownA b o=>exact .inl h.2
theorem Slot.put_od {x:Slot}{od o:OD}(h:x.od=some od):(x.put o).od=some o:=by cases x <;> cases h <;> rfl
theorem Ok.write (k:Ok K g G H σ Δ) {a:Addr}{od od':OD}{x:Slot}{i:Nat}{o':HO}(hx:Δ[i]?=some x) (hod:x.od=some od) (ha:σ[i]?=some (some (.ref a))) (r:OwnRep K G o' od'):Ok K g G (upd H a o') σ (Δ.set i (x.put od')):=by
 obtain⟨a',o,q1,q2,q3,q4,q5⟩:=k.own i x od hx hod;rw[ha]at q1;cases q1;have hi:i < Δ.length:=(Wae.mp hx).1;have other:∀(j:Nat) y od2,(Δ.set i (x.put od'))[j]?=some y->y.od=some od2->j≠i -> Δ[j]?=some y:=λj y od2 e1 e2 hj=>by
  rw[Was (Ne.symm hj)]at e1;exact e1
 have anyOd:∀(j:Nat) y od2,(Δ.set i (x.put od'))[j]?=some y->y.od=some od2->∃y' od3,Δ[j]?=some y' /\ y'.od=some od3:=λj y od2 e1 e2=>by
  by_cases hj:j=i
  ·subst hj;exact⟨x,od,hx,hod⟩
  ·exact⟨y,od2,other j y od2 e1 e2 hj,e2⟩
 refine⟨λb u hb e=>?_,λb hb=>?_,k.sub,λb u e=>?_,λb u e=>?_,by simp[k.len],λj e h=>?_,λj y od2 e1 e2=>?_,λj l y z od1 od2 c e1 e2 e3 e4 e5 e6=>?_⟩
 ·have hba:b≠a:=by
   intro z;subst z;rcases q5.free hod with z|z
   ·rw[z]at e;cases e
   ·exact hb z
  rw[Zaj hba];exact k.same b u hb e
 ·by_cases hba:b=a
  ·subst hba;rw[Zam];intro z;cases z
  ·rw[Zaj hba];exact k.lent b hb
 ·have hba:b≠a:=by intro z;subst z;rw[q4]at e;cases e
  rw[Zaj hba];exact k.frz b u e
 ·obtain⟨h1,h2,h3⟩:=k.ext b u e
  have hba:b≠a:=by intro z;subst z;exact h3 i x od hx hod ha
  rw[Zaj hba];refine⟨h1,h2,λj y od2 e1 e2=>?_⟩;obtain⟨y',od3,z1,z2⟩:=anyOd j y od2 e1 e2;exact h3 j y' od3 z1 z2
 ·by_cases hj:j=i
  ·subst hj
   rw[Waq hi]at h;cases x <;> cases hod <;> cases h
  ·rw[Was (Ne.symm hj)]at h
   exact k.val j e h
 ·by_cases hj:j=i
  ·subst hj
   rw[Waq hi]at e1;cases e1;rw[Slot.put_od hod]at e2;cases e2;exact⟨a,o',ha,Zam,r,q4,q5.put⟩
  ·have e1':=other j y od2 e1 e2 hj
   obtain⟨c,oc,w1,w2,w3,w4,w5⟩:=k.own j y od2 e1' e2;have hca:c≠a:=by
    intro z;subst z;exact hj (k.dis j i y x od2 od c e1' e2 hx hod w1 ha)
   exact⟨c,oc,w1,by rw[Zaj hca];exact w2,w3,w4,w5⟩
 ·obtain⟨y',od3,z1,z2⟩:=anyOd j y od1 e1 e2
  obtain⟨y'',od4,z3,z4⟩:=anyOd l z od2 e3 e4;exact k.dis j l y' y'' od3 od4 c z1 z2 z3 z4 e5 e6
theorem Ok.freeze (k:Ok K g G H σ Δ) {a:Addr}{ds:List D}{vs:List V}(p:Pend K g G H σ Δ a (.lst ds)) (hv:H a=some (.lst vs)):Ok K g (upd G a (.lst vs)) H σ Δ /\ Same G (upd G a (.lst vs))/\Rep K (upd G a (.lst vs)) (.ref a) (.lst ds):=by
 obtain⟨o,p1,p2,p3,p4,p5,p6⟩:=p;rw[hv]at p1;cases p1;have p2:Reps K G vs ds:=p2;have sg:Same G (upd G a (.lst vs)):=λb u e=>by rw[Zaj (Zal e p3)];exact e
 refine⟨⟨k.same,k.lent,k.sub.trans sg,λb u e=>?_,λb u e=>?_,k.len,λj d h=>?_,λj x od e1 e2=>?_,k.dis⟩,sg,.lst Zam (p2.mono sg)⟩
 ·by_cases hb:b=a
  ·subst hb;rw[Zam]at e;cases e;exact⟨hv,.inl p4⟩
  ·rw[Zaj hb]at e;exact k.frz b u e
 ·obtain⟨h1,h2,h3⟩:=k.ext b u e
  have hb:b≠a:=by intro z;subst z;rw[p5]at e;cases e
  exact⟨h1,by rw[Zaj hb];exact h2,h3⟩
 ·obtain⟨v,h1,h2⟩:=k.val j d h
  exact⟨v,h1,h2.mono sg⟩
 ·obtain⟨c,o,w1,w2,w3,w4,w5⟩:=k.own j x od e1 e2
  have hc:c≠a:=by intro z;subst z;exact p6 j x od e1 e2 w1
  exact⟨c,o,w1,w2,w3.mono sg,by rw[Zaj hc];exact w4,w5⟩
theorem Ok.drop (k:Ok K g G H σ Δ) (i:Nat):Ok K g G H σ (Δ.set i .any):=by
 have old:∀(j:Nat) x,(Δ.set i .any)[j]?=some x->x=.any\/(Δ[j]?=some x/\j≠i):=λj x e1=>by
  by_cases hj:j=i
  ·subst hj
   rw[Wc4]at e1;simp at e1;exact .inl e1.2.symm
  ·rw[Was (Ne.symm hj)]at e1
   exact .inr ⟨e1,hj⟩
 have oldO:∀(j:Nat) x od,(Δ.set i .any)[j]?=some x->x.od=some od -> Δ[j]?=some x:=λj x od e1 e2=>by
  rcases old j x e1 with z|z
  ·subst z;cases e2
  ·exact z.1
 refine⟨k.same,k.lent,k.sub,k.frz,λb o e=>?_,by simp[k.len],λj e h=>?_,λj x od e1 e2=>k.own j x od (oldO j x od e1 e2) e2,λj l x y od od' a e1 e2 e3 e4=>k.dis j l x y od od' a (oldO j x od e1 e2) e2 (oldO l y od' e3 e4) e4⟩
 ·obtain⟨h1,h2,h3⟩:=k.ext b o e
  exact⟨h1,h2,λj x od e1 e2=>h3 j x od (oldO j x od e1 e2) e2⟩
 ·rcases old j _ h with z|z
  ·cases z
  ·exact k.val j e z.1
theorem Ok.take (k:Ok K g G H σ Δ) {i:Nat}{od:OD}(h:Δ[i]?=some (.own od)):∃a,σ[i]?=some (some (.ref a))/\Pend K g G H σ (Δ.set i .any) a od:=by
 obtain⟨a,o,h1,h2,h3,h4,h5⟩:=k.own i _ od h rfl;have h5:g.Hz a=none:=h5;refine⟨a,h1,o,h2,h3,h4,h5,?_,λj x od' e1 e2 e3=>?_⟩
 ·cases q:g.Xo a with
  |none=>rfl
  |some u=>exact absurd h1 ((k.ext a u q).2.2 i _ od h rfl)
 ·by_cases hj:j=i
  ·subst hj
   rw[Wc4]at e1;simp at e1;obtain⟨_,e1⟩:=e1;subst e1;cases e2
  ·rw[Was (Ne.symm hj)]at e1
   exact hj (k.dis j i x _ od' od a e1 e2 h rfl e3 h1)
end
def Cont (K:W.Frag) (g:Gm) (G:Hp) (σ:St) (P:D->Evt->Prop) (Q:VK):Prop:=
 ∀v d G' H' Δ',Ok K g G' H' σ Δ' -> Same G G' -> Rep K G' v d->P d Δ' -> Q v H'
def JE (K:W.Frag) (t:TE) (Δ:Evt) (P:D->Evt->Prop):Prop:=
 ∀g G H σ Q,Ok K g G H σ Δ -> Cont K g G σ P Q->t σ H Q
def JT (K:W.Frag) (t:TT) (Δ:Evt) (P:Bool->Evt->Prop):Prop:=
 ∀g G H σ Q,Ok K g G H σ Δ -> (∀b G' H' Δ',Ok K g G' H' σ Δ' -> Same G G' -> P b Δ' -> Q b H')->t σ H Q
def JA (K:W.Frag) (t:TA) (Δ:Evt) (P:List D->Evt->Prop):Prop:=
 ∀g G H σ Q,Ok K g G H σ Δ -> (∀vs ds G' H' Δ',Ok K g G' H' σ Δ' -> Same G G' -> Reps K G' vs ds->P ds Δ' -> Q vs H')->t σ H Q
def JO (K:W.Frag) (t:TE) (Δ:Evt) (P:OD->Evt->Prop):Prop:=
 ∀g G H σ Q,Ok K g G H σ Δ -> (∀a od G' H' Δ',Ok K g G' H' σ Δ' -> Same G G' -> Pend K g G' H' σ Δ' a od->P od Δ' -> Q (.ref a) H')->t σ H Q
def JR2 (K:W.Frag) (r:R2) (d e:D) (Δ:Evt) (P:D->Evt->Prop):Prop:=
 ∀g G H σ Q x y,Ok K g G H σ Δ -> Rep K G x d->Rep K G y e->Cont K g G σ P Q->r x y H Q
def JR1 (K:W.Frag) (r:V->Hp->VK->Prop) (d:D) (Δ:Evt) (P:D->Evt->Prop):Prop:=
 ∀g G H σ Q x,Ok K g G H σ Δ -> Rep K G x d->Cont K g G σ P Q->r x H Q
def JC (K:W.Frag) (r:List V->Hp->VK->Prop) (ds:List D) (Δ:Evt) (P:D->Evt->Prop):Prop:=
 ∀g G H σ Q vs,Ok K g G H σ Δ -> Reps K G vs ds->Cont K g G σ P Q->r vs H Q
structure Pst where
 nx:Evt->Prop
 rt:D->Evt->Prop
 bk:Evt->Prop:=λ_=>False
 ct:Evt->Prop:=λ_=>False
 ro:OD->Evt->Prop:=λ_ _=>False
structure SCont (K:W.Frag) (g:Gm) (P:Pst) (E:Ends):Prop where
 nx:∀σ G H Δ,Ok K g G H σ Δ -> P.nx Δ -> E.nx σ H
 rt:∀v d σ G H Δ,Ok K g G H σ Δ -> Rep K G v d->P.rt d Δ -> E.rt v H
 bk:∀σ G H Δ,Ok K g G H σ Δ -> P.bk Δ -> E.bk σ H
 ct:∀σ G H Δ,Ok K g G H σ Δ -> P.ct Δ -> E.ct σ H
 ro:∀a od σ G H Δ,Ok K g G H σ Δ -> Pend K g G H σ Δ a od->P.ro od Δ -> E.rt (.ref a) H
def JS (K:W.Frag) (t:TS) (Δ:Evt) (P:Pst):Prop:=
 ∀g G H σ E,Ok K g G H σ Δ -> SCont K g P E->t E σ H
def JG (K:W.Frag) (t:TG) (d:D) (Δ:Evt) (P:Evt->Prop):Prop:=
 ∀g G H σ v (R:St->Hp->Prop),Ok K g G H σ Δ -> Rep K G v d->(∀σ' G' H' Δ',Ok K g G' H' σ' Δ' -> Same G G' -> P Δ' -> R σ' H')->t v σ H R
def JGs (K:W.Frag) (t:TGs) (ds:List D) (Δ:Evt) (P:Evt->Prop):Prop:=
 ∀g G H σ vs (R:St->Hp->Prop),Ok K g G H σ Δ -> Reps K G vs ds->(∀σ' G' H' Δ',Ok K g G' H' σ' Δ' -> Same G G' -> P Δ' -> R σ' H')->t vs σ H R
section
variable {K:W.Frag}{Δ:Evt}
theorem Cont.up {g:Gm}{G G1:Hp}{σ:St}{P:D->Evt->Prop}{Q:VK}(c:Cont K g G σ P Q) (s:Same G G1):Cont K g G1 σ P Q:=
 λv d G' H' Δ' k s' r p=>c v d G' H' Δ' k (s.trans s') r p
theorem JE.mono {t:TE}{P P':D->Evt->Prop}(h:JE K t Δ P) (hp:∀d Δ,P d Δ -> P' d Δ):JE K t Δ P':=
 λg G H σ Q k c=>h g G H σ Q k λv d G' H' Δ' k' s r p=>c v d G' H' Δ' k' s r (hp d Δ' p)
theorem JS.mono {t:TS}{P P':Pst}(h:JS K t Δ P) (hn:∀Δ,P.nx Δ -> P'.nx Δ) (hr:∀d Δ,P.rt d Δ -> P'.rt d Δ) (hb:∀Δ,P.bk Δ -> P'.bk Δ) (hc:∀Δ,P.ct Δ -> P'.ct Δ) (ho:∀od Δ,P.ro od Δ -> P'.ro od Δ):JS K t Δ P':=
 λg G H σ E k c=>h g G H σ E k ⟨λσ' G' H' Δ' k' p=>c.nx σ' G' H' Δ' k' (hn _ p),λv d σ' G' H' Δ' k' r p=>c.rt v d σ' G' H' Δ' k' r (hr _ _ p),λσ' G' H' Δ' k' p=>c.bk σ' G' H' Δ' k' (hb _ p),λσ' G' H' Δ' k' p=>c.ct σ' G' H' Δ' k' (hc _ p),λa od σ' G' H' Δ' k' r p=>c.ro a od σ' G' H' Δ' k' r (ho _ _ p)⟩
theorem Zac {i:Nat}{d:D}{P:D->Evt->Prop}(h:Δ[i]?=some (.val d)) (p:P d Δ):JE K (tVar i) Δ P:=λg G H σ Q k c=>by
 obtain⟨v,h1,h2⟩:=k.val i d h;exact⟨v,h1,c v d G H Δ k (Same.refl _) h2 p⟩
theorem Zcg {i:Nat}{ds:List D}{P:D->Evt->Prop}(h:Δ[i]?=some (.own (.lst ds))) (p:P (.lst ds) (Δ.set i (.val (.lst ds)))):JE K (tVar i) Δ P:=λg G H σ Q k c=>by
 obtain⟨a,h1,pd⟩:=k.take h;obtain⟨o,q1,q2,_⟩:=id pd;cases o with
 |lst vs=>
  obtain⟨k2,sg,r⟩:=(k.drop i).freeze pd q1;have k3:=k2.setVal (i:=i) (by simpa using (Wae.mp h).1) r;have e1:σ.set i (some (.ref a)) = σ:=by
   apply Wb9;intro j;by_cases hj:j=i
   ·subst hj;rw[Waq (k.lt h),h1]
   ·rw[Was (Ne.symm hj)]
  rw[e1,List.set_set]at k3;exact⟨.ref a,h1,c _ _ _ H _ k3 sg r p⟩
 |_=>exact absurd q2 (λz=>z)
theorem Zao {i:Int}{P:D->Evt->Prop}(p:P (.int i) Δ):JE K (tC (.int i)) Δ P:=λg G H σ Q k c=>c _ _ G H Δ k (Same.refl _) (.int i) p
theorem Zru {b:Bool}{P:D->Evt->Prop}(p:P (.bl b) Δ):JE K (tC (.bl b)) Δ P:=λg G H σ Q k c=>c _ _ G H Δ k (Same.refl _) (.bl b) p
theorem Zpv {P:D->Evt->Prop}(p:P .non Δ):JE K (tC .non) Δ P:=λg G H σ Q k c=>c _ _ G H Δ k (Same.refl _) .non p
theorem Zds {x:String}{P:D->Evt->Prop}(p:P (.ty x) Δ):JE K (tC (.ty x)) Δ P:=λg G H σ Q k c=>c _ _ G H Δ k (Same.refl _) (.ty x) p
theorem Zas {r:R2}{ta tb:TE}{P:D->Evt->Prop}(h:JE K ta Δ λd Δ1=>JE K tb Δ1 λe Δ2=>JR2 K r d e Δ2 P):JE K (tOp r ta tb) Δ P:=λg G H σ Q k c=>
 h g G H σ _ k λx d G1 H1 Δ1 k1 s1 r1 p1=>p1 g G1 H1 σ _ k1 λy e G2 H2 Δ2 k2 s2 r2 p2=>p2 g G2 H2 σ Q x y k2 (r1.mono s2) r2 (c.up (s1.trans s2))
theorem Zt4 {r:V->Hp->VK->Prop}{ta:TE}{P:D->Evt->Prop}(h:JE K ta Δ λd Δ1=>JR1 K r d Δ1 P):JE K (tUn r ta) Δ P:=λg G H σ Q k c=>
 h g G H σ _ k λx d G1 H1 Δ1 k1 s1 r1 p1=>p1 g G1 H1 σ Q x k1 r1 (c.up s1)
theorem Zaf {P:List D->Evt->Prop}(p:P [] Δ):JA K tNil Δ P:=λg G H σ Q k c=>c [] [] G H Δ k (Same.refl _) .nil p
theorem Zab {ta:TE}{tr:TA}{P:List D->Evt->Prop}(h:JE K ta Δ λd Δ1=>JA K tr Δ1 λds Δ2=>P (d::ds) Δ2):JA K (tCons ta tr) Δ P:=λg G H σ Q k c=>
 h g G H σ _ k λx d G1 H1 Δ1 k1 s1 r1 p1=>p1 g G1 H1 σ _ k1 λvs ds G2 H2 Δ2 k2 s2 r2 p2=>c _ _ G2 H2 Δ2 k2 (s1.trans s2) (.cons (r1.mono s2) r2) p2
theorem Zat {r:List V->Hp->VK->Prop}{ta:TA}{P:D->Evt->Prop}(h:JA K ta Δ λds Δ1=>JC K r ds Δ1 P):JE K (tCB r ta) Δ P:=λg G H σ Q k c=>
 h g G H σ _ k λvs ds G1 H1 Δ1 k1 s1 r1 p1=>p1 g G1 H1 σ Q vs k1 r1 (c.up s1)
theorem Zbr {ta:TA}{P:D->Evt->Prop}(h:JA K ta Δ λds Δ1=>ds.length<=sizeLine/\P (.tup ds) Δ1):JE K (tTup ta) Δ P:=λg G H σ Q k c=>
 h g G H σ _ k λvs ds G1 H1 Δ1 k1 s1 r1 ⟨z,p1⟩=>⟨by rw[r1.length];exact z,λp hp=>by
  obtain⟨k2,sg⟩:=k1.laid hp (.tup vs);exact c _ _ _ _ Δ1 k2 (s1.trans sg) (.tup Zam (r1.mono sg)) p1⟩
theorem Ok.fresh {g:Gm}{G H:Hp}{σ:St}(k:Ok K g G H σ Δ) {p:Addr}{o:HO}{od:OD}(hp:H p=none) (r:OwnRep K G o od):Ok K g G (upd H p o) σ Δ /\ Pend K g G (upd H p o) σ Δ p od:=by
 have hG:G p=none:=by
  cases e:G p with
  |none=>rfl
  |some u=>rw[k.live p u e]at hp;cases hp
 refine⟨k.grow (Same.refl _) (λb u e=>by rw[Zaj (Zal e hp)];exact e) λb u e=>⟨?_,.inl e⟩,o,Zam,r,hG,k.there hp,?_,λj x od' e1 e2 e3=>?_⟩
 ·have hb:b≠p:=by intro z;subst z;rw[hG]at e;cases e
  rw[Zaj hb];exact k.live b u e
 ·cases q:g.Xo p with
  |none=>rfl
  |some u=>have z:=(k.ext p u q).1;rw[hp]at z;cases z
 ·obtain⟨a,oo,w1,w2,_⟩:=k.own j x od' e1 e2
  rw[e3]at w1;cases w1;rw[hp]at w2;cases w2
theorem Zew {ta:TA}{P:OD->Evt->Prop}(h:JA K ta Δ λds Δ1=>ds.length<=sizeLine/\P (.lst ds) Δ1):JO K (tLst ta) Δ P:=λg G H σ Q k c=>
 h g G H σ _ k λvs ds G1 H1 Δ1 k1 s1 r1 ⟨z,p1⟩=>⟨by rw[r1.length];exact z,λp hp=>by
  obtain⟨k2,pd⟩:=k1.fresh (od:=.lst ds) hp (show OwnRep K G1 (.lst vs) (.lst ds) from r1);exact c p _ G1 _ Δ1 k2 s1 pd p1⟩
theorem Zcc {t:TE}{P:D->Evt->Prop}(h:JO K t Δ λod Δ1=>∃ds,od=.lst ds/\P (.lst ds) Δ1):JE K t Δ P:=λg G H σ Q k c=>
 h g G H σ Q k λa od G1 H1 Δ1 k1 s1 pd hq_=>by
  obtain⟨ds,e,p1⟩:=hq_;subst e;obtain⟨o,q1,q2,_⟩:=id pd;cases o with
  |lst vs=>
   obtain⟨k2,sg,r⟩:=k1.freeze pd q1;exact c _ _ _ H1 Δ1 k2 (s1.trans sg) r p1
  |_=>exact absurd q2 (λz=>z)
theorem Zbc {t:TE}{P:Bool->Evt->Prop}(h:JE K t Δ λd Δ1=>∃b,d=.bl b/\P b Δ1):JT K (tTest t) Δ P:=λg G H σ Q k c=>
 h g G H σ _ k λv d G1 H1 Δ1 k1 s1 r1 hq_=>by obtain⟨b,e,p1⟩:=hq_;subst e;cases r1.inv;exact⟨b,rfl,c b G1 H1 Δ1 k1 s1 p1⟩
theorem Zij {a b:TT}{P:Bool->Evt->Prop}(h:JT K a Δ λx Δ1=>if x=true then JT K b Δ1 P else P false Δ1):JT K (tAnd a b) Δ P:=λg G H σ Q k c=>
 h g G H σ _ k λx G1 H1 Δ1 k1 s1 p1=>by
  cases x with
  |true=>exact(show JT K b Δ1 P from p1) g G1 H1 σ _ k1 λy G2 H2 Δ2 k2 s2 p2=>c y G2 H2 Δ2 k2 (s1.trans s2) p2
  |false=>exact c false G1 H1 Δ1 k1 s1 p1
theorem Zpe {a b:TT}{P:Bool->Evt->Prop}(h:JT K a Δ λx Δ1=>if x=true then P true Δ1 else JT K b Δ1 P):JT K (tOr a b) Δ P:=λg G H σ Q k c=>
 h g G H σ _ k λx G1 H1 Δ1 k1 s1 p1=>by
  cases x with
  |true=>exact c true G1 H1 Δ1 k1 s1 p1
  |false=>exact(show JT K b Δ1 P from p1) g G1 H1 σ _ k1 λy G2 H2 Δ2 k2 s2 p2=>c y G2 H2 Δ2 k2 (s1.trans s2) p2
theorem Zcs {a:TT}{P:Bool->Evt->Prop}(h:JT K a Δ λx Δ1=>P (!x) Δ1):JT K (tNot a) Δ P:=λg G H σ Q k c=>
 h g G H σ _ k λx G1 H1 Δ1 k1 s1 p1=>c (!x) G1 H1 Δ1 k1 s1 p1
theorem Zb5 {P:Bool->Evt->Prop}(p:P true Δ):JT K tTrue Δ P:=λg G H σ Q k c=>c true G H Δ k (Same.refl _) p
theorem Zlk {P:Pst}(p:P.nx Δ):JS K tNext Δ P:=λg G H σ E k c=>c.nx σ G H Δ k p
theorem Zp0 {t u:TS}{P:Pst}(h:JS K t Δ { P with nx:=λΔ1=>JS K u Δ1 P }):JS K (tSeq t u) Δ P:=λg G H σ E k c=>
 h g G H σ _ k ⟨λσ1 G1 H1 Δ1 k1 p1=>p1 g G1 H1 σ1 E k1 c,c.rt,c.bk,c.ct,c.ro⟩
theorem Ztf {te:TE}{P:Pst}(h:JE K te Δ P.rt):JS K (tRet te) Δ P:=λg G H σ E k c=>
 h g G H σ _ k λv d G1 H1 Δ1 k1 s1 r1 p1=>c.rt v d σ G1 H1 Δ1 k1 r1 p1
theorem Zrh {te:TE}{P:Pst}(h:JO K te Δ P.ro):JS K (tRet te) Δ P:=λg G H σ E k c=>
 h g G H σ _ k λa od G1 H1 Δ1 k1 s1 pd p1=>c.ro a od σ G1 H1 Δ1 k1 pd p1
theorem Zua {c:TT}{t u:TS}{P:Pst}(h:JT K c Δ λb Δ1=>if b=true then JS K t Δ1 P else JS K u Δ1 P):JS K (tIfS c t u) Δ P:=λg G H σ E k q=>
 h g G H σ _ k λb G1 H1 Δ1 k1 s1 p1=>by
  cases b with
  |true=>exact(show JS K t Δ1 P from p1) g G1 H1 σ E k1 q
  |false=>exact(show JS K u Δ1 P from p1) g G1 H1 σ E k1 q
theorem Zr9 {te:TE}{t:TG}{P:Pst}(h:JE K te Δ λd Δ1=>JG K t d Δ1 P.nx):JS K (tAsg te t) Δ P:=λg G H σ E k c=>
 h g G H σ _ k λv d G1 H1 Δ1 k1 s1 r1 p1=>p1 g G1 H1 σ v _ k1 r1 λσ2 G2 H2 Δ2 k2 s2 p2=>c.nx σ2 G2 H2 Δ2 k2 p2
theorem Zi9 {P:Evt->Prop}(p:P Δ):JGs K gNil [] Δ P:=λg G H σ vs R k r c=>by cases r;exact⟨rfl,c σ G H Δ k (Same.refl _) p⟩
theorem Zdl {t:TG}{u:TGs}{d:D}{ds:List D}{P:Evt->Prop}(h:JG K t d Δ λΔ1=>JGs K u ds Δ1 P):JGs K (gCons t u) (d::ds) Δ P:=λg G H σ vs R k r c=>by
 obtain⟨_,_,rfl,r1,rr⟩:=r.inv
 next=>exact⟨_,_,rfl,h g G H σ _ _ k r1 λσ1 G1 H1 Δ1 k1 s1 p1=>p1 g G1 H1 σ1 _ R k1 (rr.mono s1) λσ2 G2 H2 Δ2 k2 s2 p2=>c σ2 G2 H2 Δ2 k2 (s1.trans s2) p2⟩
theorem Zmo {n:Nat}{t:TGs}{ds:List D}{P:Evt->Prop}(hl:ds.length=n) (h:JGs K t ds Δ P):JG K (gTup K n t) (.tup ds) Δ P:=λg G H σ v R k r c=>by
 obtain⟨_,_,rfl,ha,rs⟩:=r.inv
 next=>exact⟨_,_,rfl,SqT.of (k.live _ _ ha),by rw[rs.length];exact hl,h g G H σ _ R k rs c⟩
def ItOk (K:W.Frag) (G:Hp) (J:It) (ds:List D):Prop:=
 ∀G1 H1,Same G G1->Same G1 H1->J.stop ds.length H1/\∀(i:Nat) d,ds[i]?=some d->J.go i H1/\∀x H2,J.yld i H1 x H2->∃G2,Same G1 G2/\Same H1 H2/\(∀b o,G2 b=some o->H2 b=some o/\(G1 b=some o\/H1 b=none))/\Rep K G2 x d
def JI (K:W.Frag) (wi:TI) (Δ:Evt) (P:List D->Evt->Prop):Prop:=
 ∀g G H σ (R:It->Hp->Prop),Ok K g G H σ Δ -> (∀J ds G' H' Δ',Ok K g G' H' σ Δ' -> Same G G' -> ItOk K G' J ds->P ds Δ' -> R J H')->wi σ H R
theorem Zti {tl:TE}{P:List D->Evt->Prop}(h:JE K tl Δ λd Δ1=>∃ds,d=.tup ds/\P ds Δ1):JI K (iTup K tl) Δ P:=λg G H σ R k c=>
 h g G H σ _ k λv d G1 H1 Δ1 k1 s1 r1 hq_=>by
  obtain⟨ds,e,p1⟩:=hq_;subst e;obtain⟨a,vs,rfl,ha,rs⟩:=r1.inv
  next=>
   refine⟨a,rfl,⟨vs,SqT.of (k1.live _ _ ha)⟩,c _ ds G1 H1 Δ1 k1 s1 (λG2 H2 sg sh=>⟨⟨vs,SqT.of (sh _ _ (sg _ _ ha)),by rw[rs.length];exact Wah _⟩,λi d e=>?_⟩) p1⟩;obtain⟨v,hv,rv⟩:=rs.get e;refine⟨⟨vs,v,SqT.of (sh _ _ (sg _ _ ha)),hv⟩,λx H3 ⟨e3,y3⟩=>⟨G2,Same.refl _,by rw[e3];exact Same.refl _,λb o q=>⟨by rw[e3];exact sh b o q,.inl q⟩,?_⟩⟩;have:=y3 vs (SqT.of (sh _ _ (sg _ _ ha)));rw[hv]at this;cases this;exact rv.mono sg
theorem Zqv {tl:TE}{P:List D->Evt->Prop}(h:JE K tl Δ λd Δ1=>∃ds,(d=.lst ds\/d=.scr ds)/\P ds Δ1):JI K (iList K tl) Δ P:=λg G H σ R k c=>
 h g G H σ _ k λv d G1 H1 Δ1 k1 s1 r1 hq_=>by
  obtain⟨ds,e,p1⟩:=hq_;obtain⟨a,vs,ea,hs,rs⟩:∃a vs,v=.ref a/\SqL K G1 a vs/\Reps K G1 vs ds:=by
   rcases e with e|e
   ·subst e;cases r1 with|lst ha rs=>exact⟨_,_,rfl,SqL.of ha,rs⟩
   ·subst e;cases r1 with|scr ha rs=>exact⟨_,_,rfl,ha,rs⟩
  subst ea;refine⟨a,rfl,⟨vs,k1.live.seq hs⟩,c _ ds G1 H1 Δ1 k1 s1 (λG2 H2 sg sh=>⟨⟨vs,sh.seq (sg.seq hs),by rw[rs.length];exact Wah _⟩,λi d e=>?_⟩) p1⟩;obtain⟨v,hv,rv⟩:=rs.get e;refine⟨⟨vs,v,sh.seq (sg.seq hs),hv⟩,λx H3 ⟨e3,y3⟩=>⟨G2,Same.refl _,by rw[e3];exact Same.refl _,λb o q=>⟨by rw[e3];exact sh b o q,.inl q⟩,?_⟩⟩;have:=y3 vs (sh.seq (sg.seq hs));rw[hv]at this;cases this;exact rv.mono sg
def rngD (lo:Int) (n:Nat):List D:=(Wa1 n).map λi:Nat=>D.int (lo+(i:Int))
theorem Zba (lo:Int) (n:Nat):(rngD lo n).length=n:=by simp[rngD]
theorem Zb9 {lo:Int}{n i:Nat}{d:D}(h:(rngD lo n)[i]?=some d):i<n/\d=.int (lo+(i:Int)):=by
 unfold rngD at h;rw[Wag]at h;cases e:(Wa1 n)[i]? with
 |none=>rw[e]at h;cases h
 |some j=>
  rw[e]at h;obtain⟨h1,h2⟩:=Wae.mp e;rw[Wcy]at h2;subst h2;exact⟨by simpa using h1,(Wbd.inj h).symm⟩
theorem Zod {G:Hp}(lo:Int) (n:Nat):ItOk K G (Itr lo n) (rngD lo n):=λG1 H1 sg sh=>by
 refine⟨by show n<=(rngD lo n).length;rw[Zba];exact Wah _,λi d e=>?_⟩;obtain⟨h1,h2⟩:=Zb9 e;subst h2;refine⟨h1,λx H2 ⟨e2,y2⟩=>⟨G1,Same.refl _,by rw[e2];exact Same.refl _,λb o q=>⟨by rw[e2];exact sh b o q,.inl q⟩,?_⟩⟩;subst y2;exact .int _
theorem Zbi {ta:TA}{P:List D->Evt->Prop}(h:JA K ta Δ λds Δ1=>∃n:Int,ds=[.int n] /\ -(2 ^ 62)<=n/\n<2 ^ 62/\P (rngD 0 n.toNat) Δ1):JI K (iRng1 ta) Δ P:=λg G H σ R k c=>
 h g G H σ _ k λvs ds G1 H1 Δ1 k1 s1 r1 hq_=>by
  obtain⟨n,e,h1,h2,p1⟩:=hq_;subst e;obtain⟨_,_,rfl,ra,rr⟩:=r1.inv
  next=>
   cases rr.inv;cases ra.inv;exact⟨n,rfl,h1,h2,c _ _ G1 H1 Δ1 k1 s1 (Zod 0 _) p1⟩
theorem Ztg {wi:TI}{t:TG}{tb:TS}{P:Pst}(h:JI K wi Δ λds Δ1=>∃I:Nat->Evt->Prop,I 0 Δ1/\(∀i d Δ2,ds[i]?=some d->I i Δ2->JG K t d Δ2 λΔ3=>JS K tb Δ3 ⟨I (i+1),P.rt,P.nx,I (i+1),P.ro⟩)/\∀Δ2,I ds.length Δ2->P.nx Δ2) :
  JS K (tFor wi t tb) Δ P:=λg G H σ E k c=>
 h g G H σ _ k λJ ds G1 H1 Δ1 k1 s1 it hq_=>by
  obtain⟨I,h0,ht,he⟩:=hq_;refine⟨λi m σ H=>m=ds.length-i/\i<=ds.length/\∃G Δ,Ok K g G H σ Δ /\ Same G1 G/\I i Δ,⟨ds.length,by simp,Wbw _,G1,Δ1,k1,Same.refl _,h0⟩,?_⟩;rintro i m σ2 H2 ⟨rfl,hi,G2,Δ2,k2,s2,h2⟩;obtain⟨stop,go⟩:=it G2 H2 s2 k2.live;by_cases hlt:i<ds.length
  ·obtain⟨g1,g2⟩:=go i _ (Wab hlt)
   refine .inr ⟨g1,λσ' H'=>i+1<=ds.length/\∃G Δ,Ok K g G H' σ' Δ /\ Same G1 G/\I (i+1) Δ,λσ' H' p'=>⟨ds.length-(i+1),by omega,rfl,p'.1,p'.2⟩,λx H3 y=>?_⟩;obtain⟨G3,a1,a2,a3,a4⟩:=g2 x H3 y;have k3:=k2.grow a1 a2 a3;refine ht i _ Δ2 (Wab hlt) h2 { g with F:=G3,Xo:=g.Xo } G3 H3 σ2 x _ ?_ a4 λσ4 G4 H4 Δ4 k4 s4 p4=>?_
   ·exact⟨k3.same,k3.lent,Same.refl _,λb o q=>⟨(k3.frz b o q).1,.inr q⟩,k3.ext,k3.len,k3.val,k3.own,k3.dis⟩
   ·have cv:∀{G5 H5:Hp}{σ5:St}{Δ5:Evt},Ok K { g with F:=G3,Xo:=g.Xo } G5 H5 σ5 Δ5->Ok K g G5 H5 σ5 Δ5/\Same G1 G5:=λ{G5 H5 σ5 Δ5} k5=>
     ⟨⟨k5.same,k5.lent,k3.sub.trans k5.sub,λb o q=>by
      obtain⟨q1,q2⟩:=k5.frz b o q;refine⟨q1,?_⟩;rcases q2 with z|z
      ·exact .inl z
      ·exact(k3.frz b o z).2,k5.ext,k5.len,k5.val,k5.own,k5.dis⟩,s2.trans (a1.trans k5.sub)⟩
    refine p4 _ G4 H4 σ4 _ k4 ⟨λσ5 G5 H5 Δ5 k5 p5=>?_,λv d σ5 G5 H5 Δ5 k5 r5 p5=>?_,λσ5 G5 H5 Δ5 k5 p5=>?_,λσ5 G5 H5 Δ5 k5 p5=>?_,λa od σ5 G5 H5 Δ5 k5 pd5 p5=>?_⟩
    ·exact⟨hlt,G5,Δ5,(cv k5).1,(cv k5).2,p5⟩
    ·exact c.rt v d σ5 G5 H5 Δ5 (cv k5).1 r5 p5
    ·exact c.nx σ5 G5 H5 Δ5 (cv k5).1 p5
    ·exact⟨hlt,G5,Δ5,(cv k5).1,(cv k5).2,p5⟩
    ·exact c.ro a od σ5 G5 H5 Δ5 (cv k5).1 pd5 p5
  ·have e:i=ds.length:=by omega
   subst e;exact .inl ⟨stop,c.nx σ2 G2 H2 Δ2 k2 (he Δ2 h2)⟩
theorem Zo0 {c:TT}{tb:TS}{P:Pst}(I:Nat->Evt->Prop) (h0:∃m,I m Δ) (ht:∀m Δ1,I m Δ1->JT K c Δ1 λb Δ2=>if b=true then JS K tb Δ2 ⟨λΔ3=>∃m',m'<m/\I m' Δ3,P.rt,P.nx,λΔ3=>∃m',m'<m/\I m' Δ3,P.ro⟩ else P.nx Δ2) :
  JS K (tWhile c tb) Δ P:=λg G H σ E k q=>by
 obtain⟨m,h0⟩:=h0;refine⟨λm σ H=>∃G Δ,Ok K g G H σ Δ /\ I m Δ,⟨m,G,Δ,k,h0⟩,?_⟩;rintro m σ1 H1 ⟨G1,Δ1,k1,h1⟩;refine ht m Δ1 h1 g G1 H1 σ1 _ k1 λb G2 H2 Δ2 k2 s2 p2=>?_;cases b with
 |true=>
  refine⟨λσ' H'=>∃m',m'<m/\∃G Δ,Ok K g G H' σ' Δ /\ I m' Δ,λσ' H' ⟨m',hm,z⟩=>⟨m',hm,z⟩,?_⟩;refine(show JS K tb Δ2 _ from p2) g G2 H2 σ1 _ k2 ⟨λσ5 G5 H5 Δ5 k5 ⟨m',hm,p5⟩=>⟨m',hm,G5,Δ5,k5,p5⟩,q.rt,q.nx,λσ5 G5 H5 Δ5 k5 ⟨m',hm,p5⟩=>⟨m',hm,G5,Δ5,k5,p5⟩,q.ro⟩
 |false=>exact q.nx σ1 G2 H2 Δ2 k2 p2
end
section
variable {K:W.Frag}{Δ:Evt}{P:D->Evt->Prop}
theorem jr_I {C:Int->Int->Prop}{f:Int->Int->Int}{i j:Int}(hc:C i j) (p:P (.int (f i j)) Δ):JR2 K (rI C λi j=>.int (f i j)) (.int i) (.int j) Δ P:=λg G H σ Q x y k rx ry c=>by
 cases rx.inv;cases ry.inv;exact⟨i,j,rfl,rfl,hc,c _ _ G H Δ k (Same.refl _) (.int _) p⟩
theorem Zqp {f:Int->Int->Int}{i j:Int}(p:P (.int (f i j)) Δ):JR2 K (rI0 λi j=>.int (f i j)) (.int i) (.int j) Δ P:=λg G H σ Q x y k rx ry c=>by
 cases rx.inv;cases ry.inv;exact⟨i,j,rfl,rfl,c _ _ G H Δ k (Same.refl _) (.int _) p⟩
theorem Zhx {f:Int->Int->Bool}{i j:Int}(p:P (.bl (f i j)) Δ):JR2 K (rI0 λi j=>.bl (f i j)) (.int i) (.int j) Δ P:=λg G H σ Q x y k rx ry c=>by
 cases rx.inv;cases ry.inv;exact⟨i,j,rfl,rfl,c _ _ G H Δ k (Same.refl _) (.bl _) p⟩
theorem Zex {i j:Int}(p:P (.bl (decide (i=j))) Δ):JR2 K rEq (.int i) (.int j) Δ P:=λg G H σ Q x y k rx ry c=>by
 cases rx.inv;cases ry.inv;refine⟨rfl,?_⟩;have e:decide (V.int i=V.int j)=decide (i=j):=by rw[Zg2];exact(Bool.beq_eq_decide_eq i j)
 rw[e];exact c _ _ G H Δ k (Same.refl _) (.bl _) p
theorem Zsn {i j:Int}(p:P (.bl (!decide (i=j))) Δ):JR2 K rNe (.int i) (.int j) Δ P:=λg G H σ Q x y k rx ry c=>by
 cases rx.inv;cases ry.inv;refine⟨rfl,?_⟩;have e:decide (V.int i=V.int j)=decide (i=j):=by rw[Zg2];exact(Bool.beq_eq_decide_eq i j)
 rw[e];exact c _ _ G H Δ k (Same.refl _) (.bl _) p
theorem Zsk {ds:List D}{i:Int}{d:D}(h:atI ds i=some d) (p:P d Δ):JR2 K (rIxT K) (.tup ds) (.int i) Δ P:=λg G H σ Q x y k rx ry c=>by
 obtain⟨_,_,rfl,ha,rs⟩:=rx.inv
 next=>
  cases ry.inv;obtain⟨v,h1,h2⟩:=Zgp rs h;exact⟨_,_,i,v,rfl,rfl,SqT.of (k.live _ _ ha),h1,c v d G H Δ k (Same.refl _) h2 p⟩
theorem Zsr {ds:List D}{i:Int}{d:D}(h:atI ds i=some d) (p:P d Δ):JR2 K (rIxL K) (.lst ds) (.int i) Δ P:=λg G H σ Q x y k rx ry c=>by
 obtain⟨_,_,rfl,ha,rs⟩:=rx.inv
 next=>
  cases ry.inv;obtain⟨v,h1,h2⟩:=Zgp rs h;exact⟨_,_,i,v,rfl,rfl,SqL.of (k.live _ _ ha),h1,c v d G H Δ k (Same.refl _) h2 p⟩
theorem Zlq {n:Nat}{te:TE}{Pp:Pst}{x:Slot}{od:OD}(hx:Δ[n]?=some x) (ho:x.od=some od) (hod:∃ds,od=.lst ds)
  (h:JE K te Δ λd Δ1=>∃y ds,Δ1[n]?=some y/\y.od=some (.lst ds)/\ds.length<sizeLine/\Pp.nx (Δ1.set n (y.put (.lst (ds++[d]))))) :
  JS K (tDrop (tBM K "list" rAppend (tVar n) (tCons te tNil))) Δ Pp:=λg G H σ E k c=>by
 obtain⟨a,o,h1,h2,h3,h4,h5⟩:=k.own n x _ hx ho;obtain⟨ds0,hod⟩:=hod;subst hod;cases o with
 |lst vs0=>
  refine⟨.ref a,h1,.inl ⟨rfl,_,SqL.of h2⟩,h g G H σ _ k λv d G1 H1 Δ1 k1 s1 r1 ⟨y,ds,q1,q2,q3,p⟩=>?_⟩;obtain⟨a',o',w1,w2,w3,w4,w5⟩:=k1.own n y _ q1 q2;rw[h1]at w1;cases w1;cases o' with
  |lst vs=>
   have w3:Reps K G1 vs ds:=w3;exact⟨a,vs,v,rfl,rfl,w2,by rw[w3.length];exact q3,c.nx σ G1 _ _ (k1.write q1 q2 h1 (show OwnRep K G1 (.lst (vs++[v])) (.lst (ds++[d])) from w3.append (.cons r1 .nil))) p⟩
  |_=>exact absurd w3 (λz=>z)
 |_=>exact absurd h3 (λz=>z)
theorem Zs7 {ds es:List D}(he:ds=[.lst es]\/ds=[.tup es]) (p:P (.int es.length) Δ) :
  JC K (λxs H Q=>∃p ys,xs=[.ref p]/\(SqL K H p ys\/SqT K H p ys)/\Q (.int ys.length) H) ds Δ P:=λg G H σ Q vs k rs c=>by
 rcases he with he|he <;> subst he
 ·obtain⟨_,_,rfl,r,t⟩:=rs.inv
  next=>
   cases t.inv;obtain⟨_,_,rfl,ha,rs⟩:=r.inv
   next=>
    refine⟨_,_,rfl,.inl (SqL.of (k.live _ _ ha)),?_⟩;rw[rs.length];exact c _ _ G H Δ k (Same.refl _) (.int _) p
 ·obtain⟨_,_,rfl,r,t⟩:=rs.inv
  next=>
   cases t.inv;obtain⟨_,_,rfl,ha,rs⟩:=r.inv
   next=>
    refine⟨_,_,rfl,.inr (SqT.of (k.live _ _ ha)),?_⟩;rw[rs.length];exact c _ _ G H Δ k (Same.refl _) (.int _) p
theorem Zrc {n:Nat}{x:Slot}{ds:List D}(hx:Δ[n]?=some x) (ho:x.od=some (.lst ds)) (p:P (.int ds.length) Δ) :
  JE K (tCB (λxs H Q=>∃p ys,xs=[.ref p]/\(SqL K H p ys\/SqT K H p ys)/\Q (.int ys.length) H) (tCons (tVar n) tNil)) Δ P:=λg G H σ Q k c=>by
 obtain⟨a,o,h1,h2,h3,h4,h5⟩:=k.own n x _ hx ho;cases o with
 |lst vs=>
  have h3:Reps K G vs ds:=h3;refine⟨.ref a,h1,a,vs,rfl,.inl (SqL.of h2),?_⟩;rw[h3.length];exact c _ _ G H Δ k (Same.refl _) (.int _) p
 |_=>exact absurd h3 (λz=>z)
theorem Zsi {i:Int}(p:P (.int (if i<0 then -i else i)) Δ):JC K (λxs H Q=>∃i,xs=[.int i]/\Q (.int (if i<0 then -i else i)) H) [.int i] Δ P:=λg G H σ Q vs k rs c=>by
 obtain⟨_,_,rfl,r,t⟩:=rs.inv
 next=>cases t.inv;cases r.inv;exact⟨i,rfl,c _ _ G H Δ k (Same.refl _) (.int _) p⟩
theorem Zji {f:Int->Int->Int}{i j:Int}(p:P (.int (f i j)) Δ):JC K (λxs H Q=>∃i j,xs=[.int i,.int j]/\Q (.int (f i j)) H) [.int i,.int j] Δ P:=λg G H σ Q vs k rs c=>by
 obtain⟨_,_,rfl,r,t⟩:=rs.inv
 next=>
  obtain⟨_,_,rfl,r',t⟩:=t.inv
  next=>cases t.inv;cases r.inv;cases r'.inv;exact⟨i,j,rfl,c _ _ G H Δ k (Same.refl _) (.int _) p⟩
theorem Zob {ds es:List D}(he:ds=[.lst es]\/ds=[.tup es]) (p:P (.tup es) Δ) :
  JC K (λxs H Q=>∃p ys,xs=[.ref p]/\((SqL K H p ys/\∀l,H l=none->Q (.ref l) (upd H l (.tup ys)))\/(SqT K H p ys/\Q (.ref p) H))) ds Δ P:=λg G H σ Q vs k rs c=>by
 rcases he with he|he <;> subst he
 ·obtain⟨_,_,rfl,r,t⟩:=rs.inv
  next=>
   cases t.inv;obtain⟨_,_,rfl,ha,rs⟩:=r.inv
   next=>
    refine⟨_,_,rfl,.inl ⟨SqL.of (k.live _ _ ha),λl hl=>?_⟩⟩;obtain⟨k2,sg⟩:=k.laid hl (.tup _);exact c _ _ _ _ Δ k2 sg (.tup Zam (rs.mono sg)) p
 ·obtain⟨_,_,rfl,r,t⟩:=rs.inv
  next=>
   cases t.inv;obtain⟨_,_,rfl,ha,rs⟩:=r.inv
   next=>exact⟨_,_,rfl,.inr ⟨SqT.of (k.live _ _ ha),c _ _ G H Δ k (Same.refl _) (.tup ha rs) p⟩⟩
def glue (F H H':Hp):Hp:=λb=>match H b with
 |none=>H' b
 |some _=>F b
theorem Zej {F H H':Hp}{b:Addr}(h:H b=none):glue F H H' b=H' b:=by unfold glue;rw[h]
theorem Zc5 {F H H':Hp}{b:Addr}{o:HO}(h:H b=some o):glue F H H' b=F b:=by unfold glue;rw[h]
theorem Ze2 {G H H':Hp}(l:Same G H):Same G (glue G H H'):=λb o e=>by rw[Zc5 (l b o e)];exact e
theorem Zhp {G H H':Hp}(l:Same G H) (sh:∀b o,G b=some o->H b=some o->H' b=some o):∀b o,glue G H H' b=some o->H' b=some o/\(G b=some o\/H b=none):=λb o e=>by
 cases q:H b with
 |none=>rw[Zej q]at e;exact⟨e,.inr rfl⟩
 |some u=>rw[Zc5 q]at e;exact⟨sh b o e (l b o e),.inl e⟩
abbrev DSp:=List D->(D->Prop)->Prop
def spD (K:W.Frag) (f:DSp):Sp:=λvs H Q _=>∃F ds Post,Same F H/\Reps K F vs ds/\f ds Post/\∀r H' d,Same H H' -> Rep K (glue F H H') r d->Post d->Q r H'
theorem Za5 {f:DSp}{ta:TA}{E:XK}(h:JA K ta Δ λds Δ1=>f ds λd=>P d Δ1):JE K (tCall (spD K f) [] E ta) Δ P:=λg G H σ Q k c=>
 h g G H σ _ k λvs ds G1 H1 Δ1 k1 s1 r1 p1=>by
  show spD K f (vs++[]) H1 Q E;rw[Wa3];refine⟨G1,ds,_,k1.live,r1,p1,λr H' d sh rr pd=>?_⟩;have sg:=Ze2 (H':=H') k1.live;exact c r d _ H' Δ1 (k1.grow sg sh (Zhp k1.live λb o _ e=>sh b o e)) (s1.trans sg) rr pd
abbrev BSp:=List D->List D->(D->List D->Prop)->Prop
def spB (K:W.Frag) (f:BSp):Sp:=λvs H Q _=>∃F a us ws ps ds Post,vs=.ref a::ws/\Same F H/\F a=none/\H a=some (.lst us)/\Reps K F us ps/\Reps K F ws ds/\f ps ds Post ∧
 ∀r H' us' ps' d,(∀b o,b≠a->H b=some o->H' b=some o)->H' a=some (.lst us')->Reps K (glue F H H') us' ps' -> Rep K (glue F H H') r d->Post d ps' -> Q r H'
theorem Ok.lend {g:Gm}{G H H':Hp}{σ:St}(k:Ok K g G H σ Δ) {i:Nat}{x:Slot}{ps ps':List D}{us':List V}{a:Addr}(hx:Δ[i]?=some x) (ho:x.od=some (.lst ps)) (ha:σ[i]?=some (some (.ref a)))
  (sh:∀b o,b≠a->H b=some o->H' b=some o) (hn:H' a=some (.lst us')) (r:Reps K (glue G H H') us' ps'):Ok K g (glue G H H') H' σ (Δ.set i (x.put (.lst ps')))/\Same G (glue G H H'):=by
 obtain⟨a',o,h1,h2,h3,h4,h5⟩:=k.own i x _ hx ho;rw[ha]at h1;cases h1;have sg:=Ze2 (H':=H') k.live;have k2:Ok K g (glue G H H') (upd H' a o) σ Δ:=by
  refine k.grow sg (λb u e=>?_) λb u e=>?_
  ·by_cases hb:b=a
   ·subst hb;rw[Zam,<- h2];exact e
   ·rw[Zaj hb];exact sh b u hb e
  ·have hb:b≠a:=by intro z;subst z;rw[Zc5 h2,h4]at e;cases e
   rw[Zaj hb];exact Zhp k.live (λc w e1 e2=>sh c w (λz=>by subst z;rw[h4]at e1;cases e1) e2) b u e
 have k3:=k2.write hx ho ha (show OwnRep K (glue G H H') (.lst us') (.lst ps') from r);rw[Zq0]at k3;have e:upd H' a (.lst us')=H':=by
  funext b
  by_cases hb:b=a
  ·subst hb;rw[Zam,hn]
  ·rw[Zaj hb]
 rw[e]at k3;exact⟨k3,sg⟩
theorem Za4 {f:BSp}{ta:TA}{E:XK}{i:Nat}{x:Slot}{od:OD}(hx:Δ[i]?=some x) (ho:x.od=some od) (h:JA K ta Δ λds Δ1=>∃y ps,Δ1[i]?=some y/\y.od=some (.lst ps)/\f ps ds λd ps'=>P d (Δ1.set i (y.put (.lst ps')))) :
  JE K (tCall (spB K f) [] E (tCons (tVar i) ta)) Δ P:=λg G H σ Q k c=>by
 obtain⟨a,o,h1,h2,h3,h4,h5⟩:=k.own i x _ hx ho;refine⟨.ref a,h1,h g G H σ _ k λvs ds G1 H1 Δ1 k1 s1 r1 ⟨y,ps,q1,q2,p1⟩=>?_⟩;show spB K f ((.ref a::vs)++[]) H1 Q E;rw[Wa3];obtain⟨a',o',w1,w2,w3,w4,w5⟩:=k1.own i y _ q1 q2;rw[h1]at w1;cases w1;cases o' with
 |lst us=>
  refine⟨G1,a,us,vs,ps,ds,_,rfl,k1.live,w4,w2,w3,r1,p1,λr H' us' ps' d sh hn rr rd pd=>?_⟩;obtain⟨k2,sg⟩:=k1.lend q1 q2 h1 sh hn rr;exact c r d _ H' _ k2 (s1.trans sg) rd pd
 |_=>exact absurd w3 (λz=>z)
abbrev NSp:=List D->(List D->Prop)->Prop
def spN (K:W.Frag) (f:NSp):Sp:=λvs H Q _=>∃F ds Post,Same F H/\Reps K F vs ds/\f ds Post ∧
 ∀a H' us ps,Same H H' -> H a=none->H' a=some (.lst us)->Reps K (λb=>if b=a then none else glue F H H' b) us ps->Post ps->Q (.ref a) H'
theorem Zfo {f:NSp}{ta:TA}{E:XK}{Po:OD->Evt->Prop}(h:JA K ta Δ λds Δ1=>f ds λps=>Po (.lst ps) Δ1):JO K (tCall (spN K f) [] E ta) Δ Po:=λg G H σ Q k c=>
 h g G H σ _ k λvs ds G1 H1 Δ1 k1 s1 r1 p1=>by
  show spN K f (vs++[]) H1 Q E;rw[Wa3];refine⟨G1,ds,_,k1.live,r1,p1,λa H' us ps sh ha hn rr pd=>?_⟩;have sg:Same G1 (λb=>if b=a then none else glue G1 H1 H' b):=λb o e=>by
   have hb:b≠a:=by intro z;subst z;rw[k1.live _ _ e]at ha;cases ha
   try dsimp only
   rw[if_neg hb];exact Ze2 k1.live b o e
  have k2:Ok K g (λb=>if b=a then none else glue G1 H1 H' b) H' σ Δ1:=k1.grow sg sh λb o e=>by
   try dsimp only at e
   by_cases hb:b=a
   ·rw[if_pos hb]at e;cases e
   ·rw[if_neg hb]at e;exact Zhp k1.live (λb o _ e=>sh b o e) b o e
  refine c a _ _ H' Δ1 k2 (s1.trans sg) ⟨.lst us,hn,(show OwnRep K _ (.lst us) (.lst ps) from rr),by simp,k1.there ha,?_,λj x od' e1 e2 e3=>?_⟩ pd
  ·cases q:g.Xo a with
   |none=>rfl
   |some u=>have z:=(k1.ext a u q).1;rw[ha]at z;cases z
  ·obtain⟨b,oo,w1,w2,_⟩:=k1.own j x od' e1 e2
   rw[e3]at w1;cases w1;rw[ha]at w2;cases w2
end
def startD (N:List Str) (ds:List D):Evt:=ds.map .val++Wad (N.length-ds.length) .any
section
variable {K:W.Frag}
theorem Ze4 {g:Gm}{G H:Hp}{N:List Str}{vs:List V}{ds:List D}(rs:Reps K G vs ds) (hl:ds.length<=N.length) (same:∀b o,¬ g.B b->g.Hz b=some o->H b=some o) (lent:∀b,g.B b->H b≠none) (sub:Same g.F G)
  (frz:∀b o,G b=some o->H b=some o/\(g.Hz b=none\/g.F b=some o)) (ext:∀b,g.Xo b=none):Ok K g G H (start N vs) (startD N ds):=by
 have noOd:∀(i:Nat) x od,(startD N ds)[i]?=some x->x.od=some od->False:=λi x od e1 e2=>by
  have hm:=Wak e1;rcases Wbo.mp hm with z|z
  ·obtain⟨d,_,rfl⟩:=Wau.mp z;cases e2
  ·rw[Wb2]at z;rw[z.2]at e2;cases e2
 refine⟨same,lent,sub,frz,λb o e=>(by rw[ext b]at e;cases e),?_,λi d e=>?_,λi x od e1 e2=>(noOd i x od e1 e2).elim,λi j x y od od' a e1 e2=>(noOd i x od e1 e2).elim⟩
 ·unfold start startD
  rw[Wai,Wai,Waa,Waa,Wal,Wal,rs.length]
 ·unfold startD at e
  unfold start;by_cases hi:i<ds.length
  ·rw[Wa8 (by simpa using hi),Wag]at e
   cases q:ds[i]? with
   |none=>rw[q]at e;cases e
   |some d'=>
    rw[q]at e;have e:Slot.val d'=Slot.val d:=by simpa using e
    cases e;obtain⟨v,h1,h2⟩:=rs.get q;refine⟨v,?_,h2⟩;rw[Wa8 (by rw[Waa,rs.length];exact hi),Wag,h1];rfl
  ·rw[Waz (by simpa using hi),Wb8]at e
   split at e <;> cases e
theorem Zd0 {f:DSp}{t:TS}{N:List Str}{vs:List V}{H:Hp}{Q:VK}{E:XK}(ht:∀ds Post,f ds Post->ds.length<=N.length/\JS K t (startD N ds) ⟨λ_=>Post .non,λd _=>Post d,λ_=>False,λ_=>False,λ_ _=>False⟩) (h:spD K f vs H Q E) :
  t { nx:=λ_ H'=>Q .non H',rt:=Q } (start N vs) H:=by
 obtain⟨F,ds,Post,l,rs,hf,q⟩:=h;obtain⟨hl,hj⟩:=ht ds Post hf;have fin:∀{v:V}{d:D}{σ:St}{G H':Hp}{Δ:Evt},Ok K ⟨λ_=>False,F,H,λ_=>none⟩ G H' σ Δ -> Rep K G v d->Post d->Q v H':=λ{v d σ G H' Δ} k r p=>by
  refine q v H' d (λb o e=>k.same b o (λz=>z) e) (r.mono λb o e=>?_) p;obtain⟨e1,e2⟩:=k.frz b o e;rcases e2 with z|z
  ·rw[Zej z];exact e1
  ·rw[Zc5 (l b o z)];exact z
 refine hj ⟨λ_=>False,F,H,λ_=>none⟩ F H (start N vs) _ (Ze4 rs hl (λ_ _ _ e=>e) (λ_ z=>z.elim) (Same.refl _) (λb o e=>⟨l b o e,.inr e⟩) λ_=>rfl) ⟨λσ G H' Δ k p=>fin k .non p,λv d σ G H' Δ k r p=>fin k r p,λ_ _ _ _ _ z=>z.elim,λ_ _ _ _ _ z=>z.elim,λ_ _ _ _ _ _ _ _ z=>z.elim⟩
theorem Zmm {f:NSp}{t:TS}{N:List Str}{vs:List V}{H:Hp}{Q:VK}{E:XK}(ht:∀ds Post,f ds Post->ds.length<=N.length/\JS K t (startD N ds) ⟨λ_=>False,λ_ _=>False,λ_=>False,λ_=>False,λod _=>∃ps,od=.lst ps/\Post ps⟩) (h:spN K f vs H Q E) :
  t { nx:=λ_ H'=>Q .non H',rt:=Q } (start N vs) H:=by
 obtain⟨F,ds,Post,l,rs,hf,q⟩:=h;obtain⟨hl,hj⟩:=ht ds Post hf;refine hj ⟨λ_=>False,F,H,λ_=>none⟩ F H (start N vs) _ (Ze4 rs hl (λ_ _ _ e=>e) (λ_ z=>z.elim) (Same.refl _) (λb o e=>⟨l b o e,.inr e⟩) λ_=>rfl) ⟨λ_ _ _ _ _ z=>z.elim,λ_ _ _ _ _ _ _ _ z=>z.elim,λ_ _ _ _ _ z=>z.elim,λ_ _ _ _ _ z=>z.elim,λa od σ G H' Δ k pd ⟨ps,e,p⟩=>?_⟩;subst e;obtain⟨o,h1,h2,h3,h4,h5,h6⟩:=pd;cases o with
 |lst us=>
  refine q a H' us ps (λb o e=>k.same b o (λz=>z) e) h4 h1 (Reps.mono (λb o e=>?_) (show Reps K G us ps from h2)) p;have hb:b≠a:=by intro z;subst z;rw[h3]at e;cases e
  try dsimp only
  rw[if_neg hb];obtain⟨e1,e2⟩:=k.frz b o e;rcases e2 with z|z
  ·rw[Zej z];exact e1
  ·rw[Zc5 (l b o z)];exact z
 |_=>exact absurd h2 (λz=>z)
theorem Zi3 {f:BSp}{t:TS}{N:List Str}{vs:List V}{H:Hp}{Q:VK}{E:XK}(ht:∀ps ds Post,f ps ds Post->ds.length+1<=N.length/\JS K t (.bor (.lst ps)::startD N.tail ds) ⟨λΔ=>∃ps',Δ[0]?=some (.bor (.lst ps'))/\Post .non ps',λd Δ=>∃ps',Δ[0]?=some (.bor (.lst ps'))/\Post d ps',λ_=>False,λ_=>False,λ_ _=>False⟩) (h:spB K f vs H Q E) :
  t { nx:=λ_ H'=>Q .non H',rt:=Q } (start N vs) H:=by
 obtain⟨F,a,us,ws,ps,ds,Post,rfl,l,fa,ha,ru,rs,hf,q⟩:=h;obtain⟨hl,hj⟩:=ht ps ds Post hf;have fin:∀{v:V}{d:D}{σ:St}{G H':Hp}{Δ:Evt}{ps':List D},Ok K ⟨λb=>b=a,F,H,λ_=>none⟩ G H' σ Δ -> Δ[0]?=some (.bor (.lst ps'))->Rep K G v d->Post d ps' -> Q v H':=λ{v d σ G H' Δ ps'} k e0 r p=>by
  obtain⟨a',o,h1,h2,h3,h4,h5⟩:=k.own 0 _ _ e0 rfl;have ea:a'=a:=h5;subst ea;cases o with
  |lst us'=>
   have up:Same G (glue F H H'):=λb o e=>by
    obtain⟨e1,e2⟩:=k.frz b o e;rcases e2 with z|z
    ·rw[Zej z];exact e1
    ·rw[Zc5 (l b o z)];exact z
   exact q v H' us' ps' d (λb o hb e=>k.same b o hb e) h2 (Reps.mono up (show Reps K G us' ps' from h3)) (r.mono up) p
  |_=>exact absurd h3 (λz=>z)
 cases N with
 |nil=>simp at hl
 |cons n0 N=>
  have hl':ds.length<=N.length:=by simpa using hl
  have k0:=Ze4 (K:=K) (H:=H) (g:=⟨λb=>b=a,F,H,λ_=>none⟩) (N:=N) rs hl' (λ_ _ _ e=>e) (λb z=>by subst z;rw[ha];intro w;cases w) (Same.refl _) (λb o e=>⟨l b o e,.inr e⟩) λ_=>rfl;have e1:start (n0::N) (.ref a::ws)=some (.ref a)::start N ws:=by
   unfold start;rw[Wa4,Wap,Wap,Nat.add_sub_add_right];rfl
  rw[e1];have noOd:∀(i:Nat) x od,(startD N ds)[i]?=some x->x.od=some od->False:=λi x od e1 e2=>by
   have hm:=Wak e1;rcases Wbo.mp hm with z|z
   ·obtain⟨d,_,rfl⟩:=Wau.mp z;cases e2
   ·rw[Wb2]at z;rw[z.2]at e2;cases e2
  have k1:Ok K ⟨λb=>b=a,F,H,λ_=>none⟩ F H (some (.ref a)::start N ws) (.bor (.lst ps)::startD N ds):=by
   refine⟨k0.same,k0.lent,k0.sub,k0.frz,λb o e=>(by cases e),(by rw[Wap,Wap,k0.len]),λi d e=>?_,λi x od e1 e2=>?_,λi j x y od od' c e1 e2 e3 e4 _ _=>?_⟩
   ·cases i with
    |zero=>cases e
    |succ i=>exact k0.val i d e
   ·cases i with
    |zero=>cases e1;cases e2;exact⟨a,.lst us,rfl,ha,ru,fa,rfl⟩
    |succ i=>exact(noOd i x od e1 e2).elim
   ·cases i with
    |zero=>cases j with
     |zero=>rfl
     |succ j=>exact(noOd j y od' e3 e4).elim
    |succ i=>exact(noOd i x od e1 e2).elim
  exact hj _ F H _ _ k1 ⟨λσ G H' Δ k ⟨ps',e,p⟩=>fin k e .non p,λv d σ G H' Δ k r ⟨ps',e,p⟩=>fin k e r p,λ_ _ _ _ _ z=>z.elim,λ_ _ _ _ _ z=>z.elim,λ_ _ _ _ _ _ _ _ z=>z.elim⟩
theorem Zbk {f:DSp}{n:Nat}(h:∀ds Post,f ds Post->ds.length=n):∀vs H Q E,spD K f vs H Q E->vs.length=n:=λvs H Q E hq_=>by obtain⟨F,ds,Post,l,rs,hf,q⟩:=hq_;rw[rs.length];exact h ds Post hf
theorem Zfi {f:NSp}{n:Nat}(h:∀ds Post,f ds Post->ds.length=n):∀vs H Q E,spN K f vs H Q E->vs.length=n:=λvs H Q E hq_=>by obtain⟨F,ds,Post,l,rs,hf,q⟩:=hq_;rw[rs.length];exact h ds Post hf
theorem Zd2 {f:BSp}{n:Nat}(h:∀ps ds Post,f ps ds Post->ds.length+1=n):∀vs H Q E,spB K f vs H Q E->vs.length=n:=λvs H Q E hq_=>by obtain⟨F,a,us,ws,ps,ds,Post,e,l,fa,ha,ru,rs,hf,q⟩:=hq_;rw[e,Wap,rs.length];exact h ps ds Post hf
end
def JGn (K:W.Frag) (n:Nat) (t:TG) (d:D) (Δ:Evt) (P:Evt->Prop):Prop:=
 ∀g G H σ v (R:St->Hp->Prop),Ok K g G H σ Δ -> Rep K G v d->(∀σ' G' H' Δ',Ok K g G' H' σ' Δ' -> Same G G' -> (∀j,n<=j -> σ'[j]? = σ[j]?)->P Δ' -> R σ' H')->t v σ H R
def JGsn (K:W.Frag) (n:Nat) (t:TGs) (ds:List D) (Δ:Evt) (P:Evt->Prop):Prop:=
 ∀g G H σ vs (R:St->Hp->Prop),Ok K g G H σ Δ -> Reps K G vs ds->(∀σ' G' H' Δ',Ok K g G' H' σ' Δ' -> Same G G' -> (∀j,n<=j -> σ'[j]? = σ[j]?)->P Δ' -> R σ' H')->t vs σ H R
section
variable {K:W.Frag}{Δ:Evt}
theorem Zoa {n:Nat}{P:Evt->Prop}(p:P Δ):JGsn K n gNil [] Δ P:=λg G H σ vs R k r c=>by cases r;exact⟨rfl,c σ G H Δ k (Same.refl _) (λ_ _=>rfl) p⟩
theorem Zh2 {n:Nat}{t:TG}{u:TGs}{d:D}{ds:List D}{P:Evt->Prop}(h:JGn K n t d Δ λΔ1=>JGsn K n u ds Δ1 P):JGsn K n (gCons t u) (d::ds) Δ P:=λg G H σ vs R k r c=>by
 obtain⟨_,_,rfl,r1,rr⟩:=r.inv
 next=>exact⟨_,_,rfl,h g G H σ _ _ k r1 λσ1 G1 H1 Δ1 k1 s1 e1 p1=>p1 g G1 H1 σ1 _ R k1 (rr.mono s1) λσ2 G2 H2 Δ2 k2 s2 e2 p2=>c σ2 G2 H2 Δ2 k2 (s1.trans s2) (λj hj=>(e2 j hj).trans (e1 j hj)) p2⟩
theorem Zrf {n m:Nat}{t:TGs}{ds:List D}{P:Evt->Prop}(hl:ds.length=m) (h:JGsn K n t ds Δ P):JGn K n (gTup K m t) (.tup ds) Δ P:=λg G H σ v R k r c=>by
 obtain⟨_,_,rfl,ha,rs⟩:=r.inv
 next=>exact⟨_,_,rfl,SqT.of (k.live _ _ ha),by rw[rs.length];exact hl,h g G H σ _ R k rs c⟩
end
def compD (n:Nat) (sel:List Nat) (Δ:Evt):Evt:=Wad n .any++sel.map λi=>(Δ[i]?).getD .any
def backAt (n:Nat) (sel:List Nat) (Δi:Evt) (i:Nat) (x:Slot):Slot:=match x with
 |.val d=>.val d
 |.any=>.any
 |x=>match sel.idxOf? i with
  |none=>x
  |some j=>match Δi[n+j]? with
   |some (.own o)=>.own o
   |some (.bor o)=>.bor o
   |some (.ownA a o)=>.ownA a o
   |_=>.any
def backD (n:Nat) (sel:List Nat) (Δi:Evt):Nat->Evt->Evt
 |_,[]=>[]
 |i,x::r=>backAt n sel Δi i x::backD n sel Δi (i+1) r
theorem Zcz (n:Nat) (sel:List Nat) (Δi:Evt):∀(Δ:Evt) (k i:Nat),(backD n sel Δi k Δ)[i]?=(Δ[i]?).map (backAt n sel Δi (k+i))
 |[],k,i=>by simp[backD]
 |x::r,k,0=>by simp[backD]
 |x::r,k,i+1=>by
  have:=Zcz n sel Δi r (k+1) i;simp only[backD,List.getElem?_cons_succ];rw[this,show k+1+i=k+(i+1) by omega]
theorem Zh0 (n:Nat) (sel:List Nat) (Δi:Evt):∀(Δ:Evt) (k:Nat),(backD n sel Δi k Δ).length = Δ.length
 |[],k=>rfl
 |x::r,k=>by simp[backD,Zh0 n sel Δi r (k+1)]
theorem Zef {sel:List Nat}{i j:Nat}(h:sel.idxOf? i=some j):sel[j]?=some i:=by
 have h2:=List.idxOf?_eq_some_iff.mp h;obtain⟨hj,e,_⟩:=h2;rw[Wab hj,e]
theorem Zne {n:Nat}{sel:List Nat}{Δi:Evt}{i:Nat}{x y:Slot}{od:OD}(h:backAt n sel Δi i x=y) (ho:y.od=some od) :
  (x=y/\sel.idxOf? i=none)\/∃j,sel[j]?=some i /\ Δi[n+j]?=some y/\∃od',x.od=some od':=by
 unfold backAt at h;cases x with
 |any=>subst h;cases ho
 |val d=>subst h;cases ho
 |own o=>
  dsimp only at h;cases q:sel.idxOf? i with
  |none=>rw[q]at h;exact .inl ⟨h,rfl⟩
  |some j=>
   rw[q]at h;dsimp only at h;refine .inr ⟨j,Zef q,?_,o,rfl⟩;cases e:Δi[n+j]? with
   |none=>rw[e]at h;subst h;cases ho
   |some z=>rw[e]at h;cases z <;> (subst h;first|rfl|cases ho)
 |ownA a o=>
  dsimp only at h;cases q:sel.idxOf? i with
  |none=>rw[q]at h;exact .inl ⟨h,rfl⟩
  |some j=>
   rw[q]at h;dsimp only at h;refine .inr ⟨j,Zef q,?_,o,rfl⟩;cases e:Δi[n+j]? with
   |none=>rw[e]at h;subst h;cases ho
   |some z=>rw[e]at h;cases z <;> (subst h;first|rfl|cases ho)
 |bor o=>
  dsimp only at h;cases q:sel.idxOf? i with
  |none=>rw[q]at h;exact .inl ⟨h,rfl⟩
  |some j=>
   rw[q]at h;dsimp only at h;refine .inr ⟨j,Zef q,?_,o,rfl⟩;cases e:Δi[n+j]? with
   |none=>rw[e]at h;subst h;cases ho
   |some z=>rw[e]at h;cases z <;> (subst h;first|rfl|cases ho)
section
variable {K:W.Frag}{Δ:Evt}
open Classical in
noncomputable def aside (g:Gm) (sel:List Nat) (σ:St) (Δ:Evt) (H:Hp) (acc:Addr) (ys:List V):Hp:=λb=>
 if b=acc then some (.lst ys) else if ∃(i:Nat) (x:Slot) (od:OD),Δ[i]?=some x/\x.od=some od/\i ∉ sel /\ σ[i]?=some (some (.ref b)) then H b else g.Xo b
theorem Zcw {n:Nat}{sel:List Nat}{σ:St}{j i:Nat}(h:sel[j]?=some i):(compSt n sel σ)[n+j]?=some ((σ[i]?).getD none):=by
 unfold compSt;rw[Waz (by rw[Wal];omega),Wal,Nat.add_sub_cancel_left,Wag,h];rfl
theorem Zbt {n:Nat}{sel:List Nat}{Δ:Evt}{k:Nat}{x:Slot}(h:(compD n sel Δ)[k]?=some x):x=.any\/∃j i,k=n+j/\sel[j]?=some i /\ Δ[i]?=some x:=by
 unfold compD at h;by_cases hk:k<n
 ·rw[Wa8 (by simpa using hk),Wb8,if_pos hk]at h
  exact .inl (Wbd.inj h).symm
 ·rw[Waz (by simpa using hk),Wal,Wag]at h
  cases e:sel[k-n]? with
  |none=>rw[e]at h;cases h
  |some i=>
   rw[e]at h;have h:(Δ[i]?).getD .any=x:=by simpa using h
   cases q:Δ[i]? with
   |none=>rw[q]at h;exact .inl h.symm
   |some y=>rw[q]at h;cases h;exact .inr ⟨k-n,i,by omega,e,q⟩
theorem Zgc {g:Gm}{G1 H1:Hp}{σ:St}{Δ1:Evt}{n:Nat}{sel:List Nat}{acc:Addr}{X0:Hp}(hsel:sel.Nodup) (k1:Ok K g G1 H1 σ Δ1) (hacc:H1 acc=none)
  (hX:∀b o,X0 b=some o->(b=acc/\o=.lst [])\/(b≠acc/\(((∃(i:Nat) (x:Slot) (od:OD),Δ1[i]?=some x/\x.od=some od/\i ∉ sel /\ σ[i]?=some (some (.ref b)))/\H1 b=some o)\/g.Xo b=some o))):Ok K ⟨g.B,G1,g.Hz,X0⟩ G1 (upd H1 acc (.lst [])) (compSt n sel σ) (compD n sel Δ1):=by
 have hsl:∀{j j' i:Nat},sel[j]?=some i->sel[j']?=some i->j=j':=λ{j j' i} a b=>by
  obtain⟨h1,e1⟩:=Wae.mp a;obtain⟨h2,e2⟩:=Wae.mp b;exact(Wda hsel).mp (e1.trans e2.symm)
 have hGa:G1 acc=none:=by
  cases e:G1 acc with
  |none=>rfl
  |some u=>rw[k1.live _ _ e]at hacc;cases hacc
 have cs:∀{j i:Nat}{a:Addr},sel[j]?=some i->(compSt n sel σ)[n+j]?=some (some (.ref a)) -> σ[i]?=some (some (.ref a)):=λ{j i a} ej e3=>by
  rw[Zcw ej]at e3;cases q:σ[i]? with
  |none=>rw[q]at e3;cases e3
  |some w=>rw[q]at e3;cases e3;rfl
 have oldH:∀b o,H1 b=some o->(upd H1 acc (.lst [])) b=some o:=λb o e=>by rw[Zaj (Zal e hacc)];exact e
 refine⟨λb o hb e=>oldH b o (k1.same b o hb e),λb hb z=>?_,Same.refl _,λb o e=>⟨oldH b o (k1.live b o e),.inr e⟩,λb o e=>?_,?_,λi d e=>?_,λi x od e1 e2=>?_,λi j x y od od' a e1 e2 e3 e4 e5 e6=>?_⟩
 ·cases q:H1 b with
  |none=>exact k1.lent b hb q
  |some u=>rw[oldH b u q]at z;cases z
 ·rcases hX b o e with ⟨rfl,rfl⟩|⟨hb,⟨⟨i0,x0,od0,f1,f2,f3,f4⟩,e⟩|e⟩
  ·refine⟨Zam,hGa,λi x od e1 e2 e3=>?_⟩
   rcases Zbt e1 with z|⟨j,i',ei,ej,z⟩
   ·subst z;cases e2
   ·subst ei
    obtain⟨a,o,w1,w2,_⟩:=k1.own i' x od z e2;rw[cs ej e3]at w1;cases w1;rw[hacc]at w2;cases w2
  ·obtain⟨a,oo,w1,w2,w3,w4,w5⟩:=k1.own i0 x0 od0 f1 f2
   rw[f4]at w1;cases w1;refine⟨oldH b o e,w4,λi x od e1 e2 e3=>?_⟩;rcases Zbt e1 with z|⟨j,i',ei,ej,z⟩
   ·subst z;cases e2
   ·subst ei
    have:=k1.dis i0 i' x0 x od0 od b f1 f2 z e2 f4 (cs ej e3);subst this;exact f3 (Wak ej)
  ·obtain⟨w1,w2,w3⟩:=k1.ext b o e
   refine⟨oldH b o w1,w2,λi x od e1 e2 e3=>?_⟩;rcases Zbt e1 with z|⟨j,i',ei,ej,z⟩
   ·subst z;cases e2
   ·subst ei;exact w3 i' x od z e2 (cs ej e3)
 ·unfold compD compSt
  simp
 ·rcases Zbt e with z|⟨j,i',ei,ej,z⟩
  ·cases z
  ·subst ei
   obtain⟨v,w1,w2⟩:=k1.val i' d z;exact⟨v,by rw[Zcw ej,w1];rfl,w2⟩
 ·rcases Zbt e1 with z|⟨j,i',ei,ej,z⟩
  ·subst z;cases e2
  ·subst ei
   obtain⟨a,o,w1,w2,w3,w4,w5⟩:=k1.own i' x od z e2;exact⟨a,o,by rw[Zcw ej,w1];rfl,oldH a o w2,w3,w4,w5⟩
 ·rcases Zbt e1 with z|⟨j1,i1,ei,ej,z⟩
  ·subst z;cases e2
  ·rcases Zbt e3 with z'|⟨j2,i2,ei',ej',z'⟩
   ·subst z';cases e4
   ·subst ei;subst ei'
    have:=k1.dis i1 i2 x y od od' a z e2 z' e4 (cs ej e5) (cs ej' e6);subst this;rw[hsl ej ej']
theorem Zgt {σ σ2:St}{Δ1 Δ2:Evt}{n:Nat}{sel:List Nat}(hσ:∀j,n<=j -> σ2[j]?=(compSt n sel σ)[j]?) (i:Nat) (y:Slot) (od:OD) (e1:(backD n sel Δ2 0 Δ1)[i]?=some y) (e2:y.od=some od) :
  ∃x od',Δ1[i]?=some x/\x.od=some od' /\ ((x=y/\i ∉ sel)\/∃j,sel[j]?=some i /\ Δ2[n+j]?=some y /\ σ2[n+j]?=some ((σ[i]?).getD none)):=by
 rw[Zcz]at e1;cases q:Δ1[i]? with
 |none=>rw[q]at e1;cases e1
 |some x=>
  rw[q]at e1;have e1:backAt n sel Δ2 i x=y:=by simpa using e1
  rcases Zne e1 e2 with ⟨z1,z2⟩|⟨j,z1,z2,od',z3⟩
  ·refine⟨x,od,rfl,by rw[z1];exact e2,.inl ⟨z1,λhm=>?_⟩⟩
   rw[List.idxOf?_eq_none_iff]at z2;exact z2 hm
  ·exact⟨x,od',rfl,z3,.inr ⟨j,z1,z2,by rw[hσ (n+j) (by omega)];exact Zcw z1⟩⟩
theorem Zfb {g:Gm}{G1 H1 G2 H2 Xv:Hp}{σ σ2:St}{Δ1 Δ2:Evt}{n:Nat}{sel:List Nat}{acc:Addr}(k1:Ok K g G1 H1 σ Δ1) (hacc:H1 acc=none) (k2:Ok K ⟨g.B,G1,g.Hz,Xv⟩ G2 H2 σ2 Δ2) (hσ:∀j,n<=j -> σ2[j]?=(compSt n sel σ)[j]?)
  (hX:∀b o,b≠acc->(∃(i:Nat) (x:Slot) (od:OD),Δ1[i]?=some x/\x.od=some od/\i ∉ sel /\ σ[i]?=some (some (.ref b)))->H1 b=some o->Xv b=some o) (hY:∀b o,b≠acc->¬ (∃(i:Nat) (x:Slot) (od:OD),Δ1[i]?=some x/\x.od=some od/\i ∉ sel /\ σ[i]?=some (some (.ref b)))->g.Xo b=some o->Xv b=some o):Ok K g G2 H2 σ (backD n sel Δ2 0 Δ1):=by
 have s2:Same G1 G2:=k2.sub;have src:=Zgt (Δ1:=Δ1) (Δ2:=Δ2) hσ;refine⟨k2.same,k2.lent,k1.sub.trans s2,λb o e=>?_,λb o e=>?_,by rw[Zh0,k1.len],λi d e=>?_,λi y od e1 e2=>?_,λi j x y od od' a e1 e2 e3 e4 e5 e6=>?_⟩
 ·obtain⟨q1,q2⟩:=k2.frz b o e
  refine⟨q1,?_⟩;rcases q2 with z|z
  ·exact .inl z
  ·exact(k1.frz b o z).2
 ·obtain⟨w1,w2,w3⟩:=k1.ext b o e
  have hne:b≠acc:=by intro z;subst z;rw[hacc]at w1;cases w1
  obtain⟨u1,u2,u3⟩:=k2.ext b o (hY b o hne (λ⟨i,x,od,f1,f2,f3,f4⟩=>w3 i x od f1 f2 f4) e);refine⟨u1,u2,λi y od e1 e2 e3=>?_⟩;obtain⟨x,od',f1,f2,_⟩:=src i y od e1 e2;exact w3 i x od' f1 f2 e3
 ·rw[Zcz]at e
  cases q:Δ1[i]? with
  |none=>rw[q]at e;cases e
  |some x=>
   rw[q]at e;have e:backAt n sel Δ2 (0+i) x=.val d:=by simpa using e
   have ex:x=.val d:=by
    unfold backAt at e;cases x with
    |any=>cases e
    |val d'=>exact e
    |own o=>dsimp only at e;split at e <;> first|cases e|(split at e <;> cases e)
    |bor o=>dsimp only at e;split at e <;> first|cases e|(split at e <;> cases e)
    |ownA a o=>dsimp only at e;split at e <;> first|cases e|(split at e <;> cases e)
   subst ex;obtain⟨v,w1,w2⟩:=k1.val i d q;exact⟨v,w1,w2.mono s2⟩
 ·obtain⟨x,od',f1,f2,f3⟩:=src i y od e1 e2
  rcases f3 with ⟨f3,f4⟩|⟨j,f3,f4,f5⟩
  ·subst f3
   obtain⟨a,o,w1,w2,w3,w4,w5⟩:=k1.own i x od f1 e2;have hne:a≠acc:=by intro z;subst z;rw[hacc]at w2;cases w2
   obtain⟨u1,u2,u3⟩:=k2.ext a o (hX a o hne ⟨i,x,od,f1,e2,f4,w1⟩ w2);exact⟨a,o,w1,u1,w3.mono s2,u2,w5⟩
  ·obtain⟨a,o,w1,w2,w3,w4,w5⟩:=k2.own (n+j) y od f4 e2
   obtain⟨a0,o0,v1,_⟩:=k1.own i x od' f1 f2;rw[f5,v1]at w1;have ea:a0=a:=by cases w1;rfl
   subst ea;exact⟨a0,o,v1,w2,w3,w4,w5⟩
 ·obtain⟨x',od1,f1,f2,_⟩:=src i x od e1 e2
  obtain⟨y',od2,f3,f4,_⟩:=src j y od' e3 e4;exact k1.dis i j x' y' od1 od2 a f1 f2 f3 f4 e5 e6
theorem Ok.base {g:Gm}{G1 F X G5 H5:Hp}{σ5:St}{Δ5:Evt}(sF:Same G1 F) (hF:∀b o,F b=some o->(g.Hz b=none\/G1 b=some o)) (k5:Ok K ⟨g.B,F,g.Hz,X⟩ G5 H5 σ5 Δ5):Ok K ⟨g.B,G1,g.Hz,X⟩ G5 H5 σ5 Δ5:=
 ⟨k5.same,k5.lent,sF.trans k5.sub,λb o q=>by
  obtain⟨q1,q2⟩:=k5.frz b o q;refine⟨q1,?_⟩;rcases q2 with z|z
  ·exact .inl z
  ·exact hF b o z,k5.ext,k5.len,k5.val,k5.own,k5.dis⟩
theorem Zlm {n:Nat}{sel:List Nat}{wi:TI}{t:TG}{tc:TT}{te:TE}{P:OD->Evt->Prop}(hsel:sel.Nodup)
  (h:JI K wi Δ λds Δ1=>ds.length<sizeLine/\∃I:Nat->List D->Evt->Prop,I 0 [] (compD n sel Δ1) ∧
   (∀i d ys Δ2,ds[i]?=some d->I i ys Δ2->JGn K n t d Δ2 λΔ3=>JT K tc Δ3 λb Δ4=>if b=true then JE K te Δ4 λe Δ5=>I (i+1) (ys++[e]) Δ5 else I (i+1) ys Δ4) ∧
   ∀ys Δ2,I ds.length ys Δ2->P (.lst ys) (backD n sel Δ2 0 Δ1)):JO K (tComp n sel wi t tc te) Δ P:=λg G H σ Q k c=>
 h g G H σ _ k λJ ds G1 H1 Δ1 k1 s1 it ⟨hz,I,h0,ht,he⟩ acc hacc=>by
  have nacc:∀(i:Nat) x od,Δ1[i]?=some x->x.od=some od -> σ[i]?≠some (some (.ref acc)):=λi x od e1 e2 e3=>by
   obtain⟨a,o,w1,w2,_⟩:=k1.own i x od e1 e2;rw[e3]at w1;cases w1;rw[hacc]at w2;cases w2
  -- the word at each turn
  let Wd:Nat->St->Hp->Prop:=λi σ' H'=>i<=ds.length/\(∀j,n<=j -> σ'[j]?=(compSt n sel σ)[j]?)/\∃G ys vs Δi,ys.length<=i/\Reps K G vs ys/\Ok K ⟨g.B,G1,g.Hz,aside g sel σ Δ1 H1 acc vs⟩ G H' σ' Δi/\I i ys Δi
  refine⟨λi m σ' H'=>m=ds.length-i/\Wd i σ' H',⟨ds.length,by simp,Wbw _,λ_ _=>rfl,G1,[],[],compD n sel Δ1,Wah _,.nil,?_,h0⟩,?_⟩
  ·refine Zgc hsel k1 hacc λb o e=>?_
   have e:aside g sel σ Δ1 H1 acc [] b=some o:=e;unfold aside at e;by_cases hb:b=acc
   ·rw[if_pos hb]at e;cases e;exact .inl ⟨hb,rfl⟩
   ·rw[if_neg hb]at e
    split at e
    case isTrue hx=>exact .inr ⟨hb,.inl ⟨hx,e⟩⟩
    case isFalse hx=>exact .inr ⟨hb,.inr e⟩
  ·rintro i m σ2 H2 ⟨rfl,hi,hσ,G2,ys,vs,Δ2,hy,ry,k2,h2⟩
   have s2:Same G1 G2:=k2.sub;obtain⟨stop,go⟩:=it G2 H2 s2 k2.live;have hacc2:∀{G' H':Hp}{σ':St}{Δ':Evt}{vs:List V}{F:Hp},Ok K ⟨g.B,F,g.Hz,aside g sel σ Δ1 H1 acc vs⟩ G' H' σ' Δ' -> H' acc=some (.lst vs)/\G' acc=none/\∀(i:Nat) x od,Δ'[i]?=some x->x.od=some od -> σ'[i]?≠some (some (.ref acc)):=λ{G' H' σ' Δ' vs F} kk=>
    kk.ext acc (.lst vs) (by show aside g sel σ Δ1 H1 acc vs acc=_;unfold aside;rw[if_pos rfl])
   by_cases hlt:i<ds.length
   ·obtain⟨g1,g2⟩:=go i _ (Wab hlt)
    refine .inr ⟨g1,λσ' H'=>Wd (i+1) σ' H',λσ' H' p'=>⟨ds.length-(i+1),by omega,rfl,p'⟩,λx H3 y=>?_⟩;obtain⟨G3,a1,a2,a3,a4⟩:=g2 x H3 y;have k3:=k2.grow a1 a2 a3;have hG3:∀b o,G3 b=some o->(g.Hz b=none\/G1 b=some o):=λb o q=>(k3.frz b o q).2;have k3':Ok K ⟨g.B,G3,g.Hz,aside g sel σ Δ1 H1 acc vs⟩ G3 H3 σ2 Δ2:=⟨k3.same,k3.lent,Same.refl _,λb o q=>⟨(k3.frz b o q).1,.inr q⟩,k3.ext,k3.len,k3.val,k3.own,k3.dis⟩;have ry3:Reps K G3 vs ys:=ry.mono a1;have s13:Same G1 G3:=s2.trans a1;refine ht i _ ys Δ2 (Wab hlt) h2 ⟨g.B,G3,g.Hz,aside g sel σ Δ1 H1 acc vs⟩ G3 H3 σ2 x _ k3' a4 λσ4 G4 H4 Δ4 k4 s4 e4 p4=>?_;have hσ4:∀j,n<=j -> σ4[j]?=(compSt n sel σ)[j]?:=λj hj=>(e4 j hj).trans (hσ j hj);refine p4 _ G4 H4 σ4 _ k4 λb G5 H5 Δ5 k5 s5 p5=>?_;cases b with
    |false=>exact⟨hlt,hσ4,G5,ys,vs,Δ5,by omega,ry3.mono (s4.trans s5),k5.base s13 hG3,p5⟩
    |true=>
     refine(show JE K te Δ5 _ from p5) _ G5 H5 σ4 _ k5 λv d G6 H6 Δ6 k6 s6 r6 p6=>?_;have ry6:Reps K G6 vs ys:=ry3.mono (s4.trans (s5.trans s6));obtain⟨b1,b2,b3⟩:=hacc2 k6;refine⟨vs,b1,by rw[ry6.length];omega,hlt,hσ4,G6,ys++[d],vs++[v],Δ6,by rw[Wai,Wc7];omega,ry6.append (.cons r6 .nil),?_,p6⟩;have k7:=k6.base s13 hG3;have oldH:∀b o,b≠acc->H6 b=some o->(upd H6 acc (.lst (vs++[v]))) b=some o:=λb o hb e=>by rw[Zaj hb];exact e
     have aNe:∀b o,b≠acc->aside g sel σ Δ1 H1 acc (vs++[v]) b=some o->aside g sel σ Δ1 H1 acc vs b=some o:=λb o hb e=>by
      unfold aside at e ⊢;rw[if_neg hb]at e ⊢;exact e
     refine⟨λb o hb e=>?_,λb hb=>?_,k7.sub,λb o e=>?_,λb o e=>?_,k7.len,k7.val,λi x od e1 e2=>?_,k7.dis⟩
     ·have hne:b≠acc:=by
       intro z;subst z;have e:g.Hz b=some o:=e;rw[k1.there hacc]at e;cases e
      exact oldH b o hne (k7.same b o hb e)
     ·by_cases hne:b=acc
      ·subst hne;rw[Zam];intro z;cases z
      ·rw[Zaj hne];exact k7.lent b hb
     ·have hne:b≠acc:=by intro z;subst z;rw[b2]at e;cases e
      exact⟨oldH b o hne (k7.frz b o e).1,(k7.frz b o e).2⟩
     ·by_cases hne:b=acc
      ·subst hne
       have e:aside g sel σ Δ1 H1 b (vs++[v]) b=some o:=e;unfold aside at e;rw[if_pos rfl]at e;cases e;exact⟨Zam,b2,b3⟩
      ·obtain⟨w1,w2,w3⟩:=k7.ext b o (aNe b o hne e)
       exact⟨oldH b o hne w1,w2,w3⟩
     ·obtain⟨a,o,w1,w2,w3,w4,w5⟩:=k7.own i x od e1 e2
      have hne:a≠acc:=by intro z;subst z;exact b3 i x od e1 e2 w1
      exact⟨a,o,w1,oldH a o hne w2,w3,w4,w5⟩
   ·have e:i=ds.length:=by omega
    subst e;refine .inl ⟨stop,?_⟩;obtain⟨b1,b2,b3⟩:=hacc2 k2;have src:=Zgt (Δ1:=Δ1) (Δ2:=Δ2) hσ;have k9:Ok K g G2 H2 σ (backD n sel Δ2 0 Δ1):=Zfb k1 hacc k2 hσ (λb o hb hx e=>by show aside g sel σ Δ1 H1 acc vs b=_;unfold aside;rw[if_neg hb,if_pos hx];exact e) (λb o hb hx e=>by show aside g sel σ Δ1 H1 acc vs b=_;unfold aside;rw[if_neg hb,if_neg hx];exact e);refine c acc _ G2 H2 _ k9 (s1.trans s2) ⟨.lst vs,b1,(show OwnRep K G2 (.lst vs) (.lst ys) from ry),b2,k1.there hacc,?_,λi y od e1 e2 e3=>?_⟩ (he ys Δ2 h2)
    ·cases q:g.Xo acc with
     |none=>rfl
     |some u=>have z:=(k1.ext acc u q).1;rw[hacc]at z;cases z
    ·obtain⟨x',od1,f1,f2,_⟩:=src i y od e1 e2
     exact nacc i x' od1 f1 f2 e3
theorem Zrb {n:Nat}{sel:List Nat}{wi:TI}{t:TG}{tc:TT}{te:TE}{P:D->Evt->Prop}(hsel:sel.Nodup)
  (h:JI K wi Δ λds Δ1=>ds.length<sizeLine/\∃I:Nat->List D->Evt->Prop,I 0 [] (compD n sel Δ1) ∧
   (∀i d ys Δ2,ds[i]?=some d->I i ys Δ2->JGn K n t d Δ2 λΔ3=>JT K tc Δ3 λb Δ4=>if b=true then JE K te Δ4 λe Δ5=>I (i+1) (ys++[e]) Δ5 else I (i+1) ys Δ4) ∧
   ∀ys Δ2,I ds.length ys Δ2->P (.lst ys) (backD n sel Δ2 0 Δ1)):JE K (tComp n sel wi t tc te) Δ P:=
 Zcc (Zlm hsel λg G H σ R k c=>h g G H σ R k λJ ds G' H' Δ' k' s' it ⟨z,I,h0,ht,he⟩=>c J ds G' H' Δ' k' s' it ⟨z,I,h0,ht,λys Δ2 q=>⟨ys,rfl,he ys Δ2 q⟩⟩)
theorem Zj8 {n:Nat}{sel:List Nat}{wi:TI}{t:TG}{tc:TT}{te:TE}{P:D->Evt->Prop}(hsel:sel.Nodup)
  (h:JI K wi Δ λds Δ1=>ds.length<sizeLine/\∃(fix:Evt) (p:D->Bool) (f:D->D),compD n sel Δ1=Wad n .any++fix ∧
   (∀(i:Nat) d (ts:Evt),ds[i]?=some d->ts.length=n->JGn K n t d (ts++fix) λΔ3=>JT K tc Δ3 λb Δ4=>b=p d/\if b=true then JE K te Δ4 λe Δ5=>e=f d/\∃ts',ts'.length=n /\ Δ5=ts'++fix else ∃ts',ts'.length=n /\ Δ4=ts'++fix) ∧
   P (.lst ((ds.filter p).map f)) (backD n sel (Wad n .any++fix) 0 Δ1)):JE K (tComp n sel wi t tc te) Δ P:=by
 refine Zrb hsel λg G H σ R k c=>h g G H σ R k λJ ds G' H' Δ' k' s' it ⟨z,fix,p,f,e0,ht,he⟩=>c J ds G' H' Δ' k' s' it ⟨z,λi ys Δ=>ys=((ds.take i).filter p).map f/\∃ts:Evt,ts.length=n /\ Δ = ts++fix,?_,?_,?_⟩
 ·exact⟨by simp,_,by simp,e0⟩
 ·rintro i d ys Δ2 hd ⟨rfl,ts,hts,rfl⟩
  have tk:ds.take (i+1)=ds.take i++[d]:=by
   rw[Wbp,hd];rfl
  intro g G H σ v R k r c;refine ht i d ts hd hts g G H σ v R k r λσ' G' H' Δ' k' s' e' q=>c σ' G' H' Δ' k' s' e' λg G H σ Q k c=>q g G H σ Q k λb G' H' Δ' k' s' ⟨eb,q⟩=>c b G' H' Δ' k' s' ?_;cases b with
  |true=>
   rw[if_pos rfl]at q ⊢;refine q.mono λe Δ5 ⟨e1,ts',h1,h2⟩=>⟨?_,ts',h1,h2⟩;rw[tk,Wbx,Wax,Wbv,<- eb,e1];rfl
  |false=>
   rw[if_neg Waj]at q ⊢;obtain⟨ts',h1,h2⟩:=q;refine⟨?_,ts',h1,h2⟩;rw[tk,Wbx,Wax,Wbv,<- eb];simp
 ·rintro ys Δ2 ⟨rfl,ts,hts,rfl⟩
  rw[Wbn];have e:backD n sel (ts++fix) 0 Δ'=backD n sel (Wad n .any++fix) 0 Δ':=by
   apply Wb9;intro i;rw[Zcz,Zcz];congr 1
   funext x
   unfold backAt;have e2:∀j,(ts++fix)[n+j]?=(Wad n Slot.any++fix)[n+j]?:=λj=>by
    rw[Waz (by omega),Waz (by simp),hts,Wal]
   simp only[e2]
  rw[e];exact he
end
end L2
set_option Elab.async false
set_option linter.all false
set_option maxRecDepth 100000
namespace HT
open PySem PyProof.Rows
section
variable {prog:Program}{w:World}{A:Around}{E:Value->Shared->Prop}{s:Shared}
theorem getItem_tuple_whole {t sl:Addr}{items:Array Value}{vl vu:Value}{lo hi:Option Int}{Q:Value->Shared->Prop}(ht:IsTup s.heap t items) (hs:s.heap.IsSliceOf sl vl vu .none) (pl:IsPart vl lo) (pu:IsPart vu hi)
  (hw:sIx items.size 0 lo=0/\sIx items.size items.size hi=items.size) (h:Q (.ref t) s):wpAny (model prog w) A (getItem (.ref t) (.ref sl)) Q E s:=by
 obtain⟨os,hos,hcs,hds⟩:=id hs;have hTs:s.TypeIs (.ref sl) "slice":=⟨os,hos,hcs⟩;unfold getItem
 try with_reducible refine wpAny_holding ?_
 first|refine wpAny_bind (wpAny_pure ?_)|skip
 refine wpAny_bind (wpAny_sequenceKey ht.typeIs (by decide) ?_);refine wpAny_bind (wpAny_callSpecial?_slot (name:=Str.ofString "__getitem__") ht.typeIs PyProof.Rows.slot_tuple_getitem
  (wpAny_call_entry PyProof.Rows.slot_tuple_getitem ht.typeIs entry_tuple_getitem ?_ (args_tuple_getitem _ _)))
 show wpAny _ _ (Builtin.Tuple.tupleItemsOf (.ref t) >>= _) _ _ s;refine wpAny_bind (tupleItemsOf_ ht ?_);refine wpAny_bind (wpAny_typeOf hTs ?_);rw[if_pos (by decide)];refine wpAny_bind (Zdg hs pl pu ?_);have hyes:(((sIx items.size 0 lo:Nat):Int) == 0 && (1:Int) == 1 && (sIx items.size items.size hi-sIx items.size 0 lo) == items.size)=true:=by
  rw[hw.1,hw.2];simp
 show wpAny _ _ (if (((sIx items.size 0 lo:Nat):Int) == 0 && (1:Int) == 1 && (sIx items.size items.size hi-sIx items.size 0 lo) == items.size)=true then _ else _) _ _ s;rw[if_pos hyes]
 first
  |exact wpAny_pure ⟨_,rfl,wpAny_pure h⟩
  |exact wpAny_pure ⟨_,rfl,h⟩
  |exact wpAny_bind (wpAny_pure (wpAny_pure ⟨_,rfl,wpAny_pure h⟩))
  | (refine wpAny_bind (wpAny_bind (wpAny_typeOf ht.typeIs (wpAny_pure ?_)))
     rw[if_pos (by decide)];exact wpAny_bind (wpAny_rule (wpAny_pure ⟨_,rfl,wpAny_pure h⟩)))
theorem tuple_index {t:Addr}{items:Array Value}{x:Value}{e:Value->Bool}{j:Nat}{Q:Value->Shared->Prop}(ht:IsTup s.heap t items) (he:∀y∈items,PySem.SeqAt.EqAt A.in1 s y x (e y)) (hj:j<items.size)
  (hit:e items[j]=true) (hno:∀m (hm:m<items.size),m<j->e items[m]=false) (h:Q (.int j s.toks) { s with toks:=s.toks+1 }) :
  wpAny (model prog w) A (call (.builtin "tuple.index") [.ref t,x]) Q E s:=by
 refine wpAny_call_entry PySem.F.slot_tuple_index ht.typeIs PySem.F.entry_tuple_index ?_ (PySem.F.args_tuple_index_2 _ _);show wpAny _ _ (Builtin.Tuple.tupleItemsOf (.ref t) >>= _) _ _ s;refine wpAny_bind (tupleItemsOf_ ht ?_);refine wpAny_bind (wpAny_pure (wpAny_bind (wpAny_pure (wpAny_bind ?_))));rw[Wdq];simp only[Std.Legacy.Range.forIn_eq_forIn_range',Std.Legacy.Range.size,Wdp,Nat.add_sub_cancel,Nat.div_one];refine wpAny_mono (Q:=λb s'=>s' = { s with toks:=s.toks+1 } /\ b.1=some (Fin.done (.ret (.int j s.toks)))) ?_ (λb s' hb=>?_) λ_ _ z=>z;refine wpAny_forIn_list _ (λl b s'=>s'=s/\∃i,l=List.range' i (items.size-i)/\i<=j) _ ?_ ?_ _ _ ⟨rfl,0,rfl,Wbw _⟩
 ·rintro i rest b s' ⟨rfl,k,hl,hk⟩
  have hk2:items.size-k=(items.size-k-1)+1:=by omega
  rw[hk2,List.range'_succ]at hl;injection hl with hl1 hl2
  subst hl1;have hi:i<items.size:=by omega
  rw[Array.getElem?_eq_getElem hi];refine wpAny_bind (he _ (Array.getElem_mem hi) prog w _ _ ?_);by_cases hij:i=j
  ·subst hij
   rw[hit,if_pos rfl];exact wpAny_bind (wpAny_bind (wpAny_mkInt (wpAny_pure (wpAny_pure ⟨rfl,rfl⟩))))
  ·rw[hno i hi (by omega),if_neg Waj]
   exact wpAny_pure ⟨rfl,i+1,by rw[hl2,show items.size-i-1=items.size-(i+1) by omega],by omega⟩
 ·rintro b s' ⟨rfl,k,hl,hk⟩
  have:=congrArg Wba hl;simp at this;omega
 ·obtain⟨rfl,e1⟩:=hb
  obtain⟨b1,b2⟩:=b;dsimp only at e1;subst e1;exact wpAny_pure ⟨_,rfl,h⟩
end
end HT
namespace L2
open PySem PySem.Spec PyProof.Rows
section
variable {X:Cx}
def rSlT' (K:W.Frag):V->Option Int->Option Int->Hp->VK->Prop:=λx lo hi H Q=>∃a xs,x=.ref a/\SqT K H a xs ∧
 ((HT.sIx xs.length 0 lo=0/\HT.sIx xs.length xs.length hi=xs.length)->Q (.ref a) H) ∧
 (¬ (HT.sIx xs.length 0 lo=0/\HT.sIx xs.length xs.length hi=xs.length)->∀p,H p=none->Q (.ref p) (upd H p (.tup (cutV xs lo hi))))
theorem Zqh:SlR X (rSlT' X.K):=by
 intro pins s σ H x v vl vu lo hi sl Q I rx hs pl pu h;obtain⟨a,xs,rfl,hx,q1,q2⟩:=h;by_cases hw:HT.sIx xs.length 0 lo=0/\HT.sIx xs.length xs.length hi=xs.length
 ·cases rx
  obtain⟨its,r,ht,hz⟩:=I.tuple hx;have hlen:its.toArray.size=xs.length:=by rw[Wam];exact r.length.symm
  exact⟨"tuple",_,PyProof.Rows.slot_tuple_getitem.lookup,ht.typeIs,HT.getItem_tuple_whole ht hs pl pu (by rw[hlen];exact hw) ⟨.ref a,H,I,rfl,q1 hw⟩⟩
 ·exact Zs0 pins s σ H (.ref a) v vl vu lo hi sl Q I rx hs pl pu ⟨a,xs,rfl,hx,hw,q2 hw⟩
def rSlU (K:W.Frag):V->Option Int->Option Int->Hp->VK->Prop:=λx lo hi H Q=>rSlL K x lo hi H Q\/rSlT' K x lo hi H Q
theorem slU:SlR X (rSlU X.K):=Zqq.or Zqh
def tSlR (K:W.Frag) (te:TE):TE:=λσ H Q=>te σ H λx H1=>∃a xs,x=.ref a/\SqT K H1 a xs/\∀p,H1 p=none->Q (.ref p) (upd H1 p (.tup xs.reverse))
def rCatT' (K:W.Frag):R2:=λx y H Q=>∃a b xs ys,x=.ref a/\y=.ref b/\SqT K H a xs/\SqT K H b ys/\xs.length+ys.length<=sizeLine ∧
 (xs=[]->Q (.ref b) H)/\(xs≠[]->ys=[]->Q (.ref a) H)/\(xs≠[]->ys≠[]->∀p,H p=none->Q (.ref p) (upd H p (.tup (xs++ys))))
theorem Zph:OpR X (binaryOp .Add) (rCatT' X.K):=by
 intro pins s σ H x y v u Q I rx ry h;obtain⟨a,b,xs,ys,rfl,rfl,ha,hb,hz,q0,q1,q2⟩:=h;by_cases hx:xs=[]
 ·cases rx
  cases ry;obtain⟨its,r1,p1,_⟩:=I.tuple ha;obtain⟨its2,r2,p2,_⟩:=I.tuple hb;obtain⟨⟨cls,dd,data,sl⟩,ho,hc,n,hd⟩:=id p1;obtain⟨⟨cls2,dd2,data2,sl2⟩,ho2,hc2,n2,hd2⟩:=id p2;simp only at hc hd hc2 hd2;subst hc hd hc2 hd2;exact concat_meets ⟨_,ho,rfl⟩ ⟨_,ho2,rfl⟩ noFill_tuple_add seq_tuple_add PySem.F.slot_tuple_add PySem.F.entry_tuple_add (PySem.F.args_tuple_add_2 _ _)
   (tuple_addW0 a b its.toArray its2.toArray n n2 dd dd2 sl sl2 (by simp[r1.nil_iff.mpr hx])) ⟨ho,ho2,⟨.ref b,H,I,rfl,q0 hx⟩⟩
 ·exact Zq6 pins s σ H (.ref a) (.ref b) v u Q I rx ry ⟨a,b,xs,ys,rfl,rfl,ha,hb,hx,hz,q1 hx,q2 hx⟩
def rAddU (K:W.Frag):R2:=λx y H Q=>rI0 (λi j=>.int (i+j)) x y H Q\/(rCatT' K x y H Q\/rCat x y H Q)
theorem Zp9:OpR X (binaryOp .Add) (rAddU X.K):=Zsp.or (Zph.or Ztn)
theorem Zb7:OpR X (compareOp .Eq) rEq:=Zuc
theorem Zpy:OpR X (compareOp .NotEq) rNe:=Zud
def rIxD:R2:=λx y H Q=>∃a v,x=.ref a/\DGet H a y (some v)/\Q v H
theorem Zrp (hu:X.A.units+1<cLine):IxR X rIxD:=by
 intro value slice pins s σ H x y v u Q I rx ry h hs;obtain⟨a,w',rfl,g,q⟩:=h;cases rx;exact tail_any (Zi6 I g) PySem.F.slot_dict_getitem.lookup (Zmk hu I g ry λw2 s3 I3 rw'=>⟨w',H,I3,rw',q⟩) hs
def rIxU (K:W.Frag):R2:=λx y H Q=>rIx K x y H Q\/rIxD x y H Q
theorem ixU (hu:X.A.units+1<cLine):IxR X (rIxU X.K):=Ztq.or (Zrp hu)
def rSetD:V->V->V->Hp->(Hp->Prop)->Prop:=λo i v H Q=>∃a H',o=.ref a/\DPut H a i v H' /\ Q H'
theorem Zoj (hu:X.A.units+1<cLine):PSet X rSetD:=by
 intro pins s σ H o i v ov iv u Q I ro ri rv h;obtain⟨a,H',rfl,g,q⟩:=h;cases ro;exact Zl9 hu I g ri rv λs' I'=>⟨H',I',q⟩
theorem PSet.or {t t':TSet}(h:PSet X t) (h':PSet X t'):PSet X (λo i v H Q=>t o i v H Q\/t' o i v H Q):=by
 intro pins s σ H o i v ov iv u Q I ro ri rv q;rcases q with q|q
 ·exact h pins s σ H o i v ov iv u Q I ro ri rv q
 ·exact h' pins s σ H o i v ov iv u Q I ro ri rv q
def rSetU:V->V->V->Hp->(Hp->Prop)->Prop:=λo i v H Q=>rSetL o i v H Q\/rSetD o i v H Q
theorem setU (hu:X.A.units+1<cLine):PSet X rSetU:=Zn6.or (Zoj hu)
def rLenU (K:W.Frag):List V->Hp->VK->Prop:=λxs H Q=>(∃p ys,xs=[.ref p]/\(SqL K H p ys\/SqT K H p ys)/\Q (.int ys.length) H)\/∃a kvs,xs=[V.ref a]/\H a=some (.dK kvs)/\Q (.int kvs.length) H
theorem Zm8:CallR X (.builtin "len") (rLenU X.K):=Zh5.or Zlf
def rIsi (K:W.Frag):List V->Hp->VK->Prop:=λxs H Q=>∃x n t b,xs=[x,.ty n]/\TyOf K H x t/\PySem.W.kitOne K t (.type n)=some b/\Q (.bl b) H
theorem Ziy:CallR X (.builtin "isinstance") (rIsi X.K):=by
 intro pins s σ H xs us Q I r h;obtain⟨x,n,t,b,rfl,ty,e,q⟩:=h;obtain⟨u,u',rfl,rx,rn⟩:=vals2 r;cases (show u'=Value.type n from rn);exact Zlt I rx ty e λtk=>⟨.bl b,H,I.tok _,rfl,q⟩
def insI (n:Nat) (i:Int):Nat:=if i<0 then (i+(n:Int)).toNat else min i.toNat n
def rInsert:V->List V->Hp->VK->Prop:=λx vs H Q=>∃l xs i y,x=.ref l/\vs=[.int i,y]/\H l=some (.lst xs)/\xs.length<sizeLine /\ -(2 ^ 62)<=i/\i<2 ^ 62/\Q .non (upd H l (.lst (xs.take (insI xs.length i)++y::xs.drop (insI xs.length i))))
theorem Zic:MtM X "list.insert" rInsert:=by
 intro pins s σ H x vs v us Q I rx rv h;obtain⟨l,xs,i,y,rfl,rfl,hH,hz,h1,h2,q⟩:=h;cases rx;obtain⟨ui,uy,rfl,⟨t,rfl⟩,ry⟩:=rv.two;obtain⟨z,its,n,r,hl,e⟩:=I.lstM hH;refine call_meets F.slot_list_insert ⟨_,e,rfl⟩ F.entry_list_insert (F.args_list_insert_3 _ _ _) (PySem.AutoSeq1.list_insert_list_int_val_1 l its.toArray n i t uy (by
  have hf:Builtin.List.listFitsIndex i=true:=by
   unfold Builtin.List.listFitsIndex;rw[decide_eq_true (by omega),decide_eq_true (by omega)];rfl
  rw[hf];decide) (by rw[Wam];omega)) ⟨e,?_⟩
 refine⟨.non,_,I.lset (its':=its.take (insI xs.length i)++uy::its.drop (insI xs.length i)) hH e ?_ ((r.take _).append (.cons ry (r.drop _))) ?_,rfl,q⟩
 ·have e1:(if i<0 then (i+(its.toArray.size:Int)).toNat else min i.toNat its.toArray.size)=insI xs.length i:=by
   unfold insI;rw[Wam,hl]
  dsimp only;rw[e1];apply Array.ext';simp;rw[Wc2 (by rw[Wb5];exact Wah _)]
 ·rw[Wai,Wap,Wbk,Wb5]
  omega
def rIndexT (K:W.Frag):V->List V->Hp->VK->Prop:=λx vs H Q=>∃a xs y j,x=.ref a/\vs=[y]/\SqT K H a xs/\flatV y=true/\xs.all flatV=true/\j<xs.length ∧
 (∃z,xs[j]?=some z/\eqV z y=true)/\(∀m z,m<j->xs[m]?=some z->eqV z y=false)/\Q (.int j) H
theorem Zf1:MtM X "tuple.index" (rIndexT X.K):=by
 intro pins s σ H x vs v us Q I rx rv h;obtain⟨a,xs,y,j,rfl,rfl,hx,fy,fx,hj,⟨z,hz1,hz2⟩,hno,q⟩:=h;cases rx;obtain⟨u,rfl,ru⟩:=rv.one;obtain⟨its,r,ht,hz⟩:=I.tuple hx;have hl:its.length=xs.length:=r.length.symm;have key:∀w∈its.toArray,SeqAt.EqAt X.A.in1 s w u (eqU y w):=λw hw=>by
  have hw:w∈its:=by simpa using hw
  obtain⟨k,hk,e⟩:=Wci.mp hw;have hk':k<xs.length:=by omega
  obtain⟨w',hw',rw'⟩:=r.get (Wab hk');have ew:w'=w:=by
   rw[Wab hk]at hw';exact(Wbd.inj hw').symm.trans e
  subst ew;have fk:flatV xs[k]=true:=Wb7.mp fx _ (Wb6 hk');rw[Zjt rw' fk];exact Zpq rw' ru fk fy
 have at_:∀(k:Nat) (hk:k<its.toArray.size) (z:V),xs[k]?=some z->eqU y its.toArray[k]=eqV z y:=λk hk z e=>by
  obtain⟨w',hw',rw'⟩:=r.get e;have hk2:k<its.length:=by simpa using hk
  rw[Wab hk2]at hw';have ew:its.toArray[k]=w':=by simpa using Wbd.inj hw'
  rw[ew];exact Zjt rw' (Wb7.mp fx _ (Wak e))
 have hj':j<its.toArray.size:=by simpa [hl] using hj
 refine HT.tuple_index ht key hj' (by rw[at_ j hj' z hz1];exact hz2) (λm hm hmj=>?_) ⟨.int j,H,I.tok _,⟨_,rfl⟩,q⟩;have hm2:m<xs.length:=by simpa [hl] using hm
 rw[at_ m hm _ (Wab hm2)];exact hno m _ hmj (Wab hm2)
end
end L2
namespace L2
open PySem PySem.Spec PyProof.Rows
section
variable {X:Cx}
theorem PI.or {tg iter:Expr}{w w':TI}(h:PI X tg iter w) (h':PI X tg iter w'):PI X tg iter (λσ H R=>w σ H R\/w' σ H R):=by
 intro pins s σ H R I q;rcases q with q|q
 ·exact h pins s σ H R I q
 ·exact h' pins s σ H R I q
def iSeq (K:W.Frag) (tl:TE):TI:=λσ H R=>iList K tl σ H R\/iTup K tl σ H R
theorem Ztx {tg l:Expr}{tl:TE}(hl:PE X l tl):PI X tg l (iSeq X.K tl):=(Zri hl).or (Ztl hl)
def tTru (K:W.Frag) (ta:TE):TT:=λσ H Q=>ta σ H λx H'=>∃k,TruV K x H' k/\Q k H'
theorem Zsf {a:Expr}{ta:TE}(ha:PE X a ta) (he:∀whole,isTrue a X.env whole=(do let v ← whole;standAt a.pos;holding [v] (truthy v))):PT X a (tTru X.K ta):=Zpa ha he
end
section
variable {K:W.Frag}{Δ:Evt}{P:D->Evt->Prop}
theorem Zcq {i j:Int}(p:P (.int (i+j)) Δ):JR2 K (rAddU K) (.int i) (.int j) Δ P:=λg G H σ Q x y k rx ry c=>by
 cases rx.inv;cases ry.inv;exact .inl ⟨i,j,rfl,rfl,c _ _ G H Δ k (Same.refl _) (.int _) p⟩
theorem Zno {ds es:List D}(hz:ds.length+es.length<=sizeLine) (p:P (.tup (ds++es)) Δ):JR2 K (rAddU K) (.tup ds) (.tup es) Δ P:=λg G H σ Q x y k rx ry c=>by
 cases rx with
 |tup ha ra=>
  cases ry with
  |tup hb rb=>
   refine .inr (.inl ⟨_,_,_,_,rfl,rfl,SqT.of (k.live _ _ ha),SqT.of (k.live _ _ hb),by rw[ra.length,rb.length];exact hz,λe=>?_,λ_ e=>?_,λ_ _ q hq=>?_⟩)
   ·subst e;cases ra;exact c _ _ G H Δ k (Same.refl _) (.tup hb rb) p
   ·subst e;cases rb;rw[Wa3]at p;exact c _ _ G H Δ k (Same.refl _) (.tup ha ra) p
   ·obtain⟨k2,sg⟩:=k.laid hq (.tup _)
    exact c _ _ _ _ Δ k2 sg (.tup Zam ((ra.append rb).mono sg)) p
theorem Zg8 {ds es:List D}(hz:ds.length+es.length<=sizeLine) (p:P (.lst (ds++es)) Δ):JR2 K (rAddU K) (.lst ds) (.lst es) Δ P:=λg G H σ Q x y k rx ry c=>by
 obtain⟨_,_,rfl,ha,ra⟩:=rx.inv
 next=>
  obtain⟨_,_,rfl,hb,rb⟩:=ry.inv
  next=>
   refine .inr (.inr ⟨_,_,_,_,rfl,rfl,k.live _ _ ha,k.live _ _ hb,by rw[ra.length,rb.length];exact hz,λq hq=>?_⟩);obtain⟨k2,sg⟩:=k.laid hq (.lst _);exact c _ _ _ _ Δ k2 sg (.lst Zam ((ra.append rb).mono sg)) p
theorem Zbz {ds:List D}{i:Int}{d:D}(h:atI ds i=some d) (p:P d Δ):JR2 K (rIxU K) (.tup ds) (.int i) Δ P:=λg G H σ Q x y k rx ry c=>
 .inl (.inr (.inl (Zsk h p g G H σ Q x y k rx ry c)))
theorem Zfs {ds:List D}{i:Int}{d:D}(h:atI ds i=some d) (p:P d Δ):JR2 K (rIxU K) (.lst ds) (.int i) Δ P:=λg G H σ Q x y k rx ry c=>
 .inl (.inl (Zsr h p g G H σ Q x y k rx ry c))
theorem Zrz {n:Nat}{tb:TE}{x:Slot}{ds:List D}(hx:Δ[n]?=some x) (ho:x.od=some (.lst ds)) (h:JE K tb Δ λe Δ1=>∃y es i d,Δ1[n]?=some y/\y.od=some (.lst es)/\e=.int i/\atI es i=some d/\P d Δ1):JE K (tOp (rIxU K) (tVar n) tb) Δ P:=λg G H σ Q k c=>by
 obtain⟨a,o,h1,h2,h3,h4,h5⟩:=k.own n x _ hx ho;refine⟨.ref a,h1,h g G H σ _ k λv e G1 H1 Δ1 k1 s1 r1 ⟨y,es,i,d,q1,q2,q3,q4,p⟩=>?_⟩;subst q3;cases r1.inv;obtain⟨a',o',w1,w2,w3,w4,w5⟩:=k1.own n y _ q1 q2;rw[h1]at w1;cases w1;cases o' with
 |lst vs=>
  obtain⟨u,z1,z2⟩:=Zgp (show Reps K G1 vs es from w3) q4;exact .inl (.inl ⟨a,vs,i,u,rfl,rfl,SqL.of w2,z1,c u d G1 H1 Δ1 k1 s1 z2 p⟩)
 |_=>exact absurd w3 (λz=>z)
theorem Zlw {n:Nat}{ti te:TE}{Pp:Pst}(h:JE K te Δ λd Δ1=>(∃x od,Δ1[n]?=some x/\x.od=some od)/\JE K ti Δ1 λe Δ2=>∃x ds i j,Δ2[n]?=some x/\x.od=some (.lst ds)/\e=.int i/\ixN ds.length i=some j/\Pp.nx (Δ2.set n (x.put (.lst (ds.set j d))))) :
  JS K (tAsg te (gSub (tVar n) ti rSetU)) Δ Pp:=λg G H σ E k c=>
 h g G H σ _ k λv d G1 H1 Δ1 k1 s1 r1 hq_=>by
  obtain⟨⟨x,od,hx,ho⟩,p1⟩:=hq_;obtain⟨a,o,h1,h2,h3,h4,h5⟩:=k1.own n x _ hx ho;refine⟨.ref a,h1,p1 g G1 H1 σ _ k1 λu e G2 H2 Δ2 k2 s2 r2 ⟨y,ds,i,j,q1,q2,q3,q4,p⟩=>?_⟩;subst q3;cases r2.inv;obtain⟨a',o',w1,w2,w3,w4,w5⟩:=k2.own n y _ q1 q2;rw[h1]at w1;cases w1;cases o' with
  |lst vs=>
   have w3:Reps K G2 vs ds:=w3;exact .inl ⟨a,vs,i,j,rfl,rfl,w2,by rw[w3.length];exact q4,c.nx σ G2 _ _ (k2.write q1 q2 h1 (show OwnRep K G2 (.lst (vs.set j v)) (.lst (ds.set j d)) from w3.set j (r1.mono s2))) p⟩
  |_=>exact absurd w3 (λz=>z)
def valD (kvs:List (Key × D)) (k:Key):Option D:=(kvs.find? λkv=>decide (kv.1=k)).map (·.2)
def putD (kvs:List (Key × D)) (k:Key) (v:D):List (Key × D):=if (kvs.any λkv=>decide (kv.1=k))=true then kvs.map (λkv=>if kv.1=k then (kv.1,v) else kv) else kvs++[(k,v)]
theorem Zk2 {G:Hp}{k:Key}{d:D}:∀{kvs:List (Key × V)}{kds:List (Key × D)},Paired (λ(p:Key × V) (q:Key × D)=>p.1=q.1/\Rep K G p.2 q.2) kvs kds->valD kds k=some d->∃v,valV kvs k=some v/\Rep K G v d
 |_,_,.nil,h=>by cases h
 | (k1,v1)::kvs,(k2,d2)::kds,.cons ⟨e,r⟩ t,h=>by
  have e:k1=k2:=e;subst e;by_cases hk:k1=k
  ·subst hk
   have h:some d2=some d:=by simpa [valD,Wck] using h
   cases h;exact⟨v1,Zez rfl,r⟩
  ·have h:valD kds k=some d:=by simpa [valD,Wck,hk] using h
   obtain⟨v,h1,h2⟩:=Zk2 t h;exact⟨v,by rw[Ze3 hk];exact h1,h2⟩
theorem Zl1 {G:Hp}{k:Key}:∀{kvs:List (Key × V)}{kds:List (Key × D)},Paired (λ(p:Key × V) (q:Key × D)=>p.1=q.1/\Rep K G p.2 q.2) kvs kds->(kvs.any λkv=>decide (kv.1=k))=(kds.any λkv=>decide (kv.1=k))
 |_,_,.nil=>rfl
 |_::_,_::_,.cons ⟨e,_⟩ t=>by rw[Wcz,Wcz,Zl1 t,e]
theorem Znq {G:Hp}{k:Key}{v:V}{d:D}(rv:Rep K G v d):∀{kvs:List (Key × V)}{kds:List (Key × D)},Paired (λ(p:Key × V) (q:Key × D)=>p.1=q.1/\Rep K G p.2 q.2) kvs kds →
  Paired (λ(p:Key × V) (q:Key × D)=>p.1=q.1/\Rep K G p.2 q.2) (kvs.map λkv=>if kv.1=k then (kv.1,v) else kv) (kds.map λkv=>if kv.1=k then (kv.1,d) else kv)
 |_,_,.nil=>.nil
 | (k1,v1)::kvs,(k2,d2)::kds,.cons ⟨e,r⟩ t=>by
  have e:k1=k2:=e;subst e;rw[Wa4,Wa4];refine .cons ?_ (Znq rv t);by_cases hk:k1=k
  ·rw[if_pos hk,if_pos hk];exact⟨rfl,rv⟩
  ·rw[if_neg hk,if_neg hk];exact⟨rfl,r⟩
theorem Zlb {G:Hp}{k:Key}{v:V}{d:D}{kvs:List (Key × V)}{kds:List (Key × D)}(rv:Rep K G v d) (h:Paired (λ(p:Key × V) (q:Key × D)=>p.1=q.1/\Rep K G p.2 q.2) kvs kds) :
  Paired (λ(p:Key × V) (q:Key × D)=>p.1=q.1/\Rep K G p.2 q.2) (putK kvs k v) (putD kds k d):=by
 unfold putK putD;rw[Zl1 h];split
 ·exact Znq rv h
 ·exact Paired.snoc h ⟨rfl,rv⟩
theorem Ziu {Po:OD->Evt->Prop}(p:Po (.dct []) Δ):JO K tDNewK Δ Po:=λg G H σ Q k c q hq=>by
 obtain⟨k2,pd⟩:=k.fresh (od:=.dct []) hq (show OwnRep K G (.dK []) (.dct []) from .nil);exact c q _ G _ Δ k2 (Same.refl _) pd p
theorem Zfl {n:Nat}{tb:TE}{x:Slot}{od:OD}(hx:Δ[n]?=some x) (ho:x.od=some od) (h:JE K tb Δ λe Δ1=>∃y kvs i d,Δ1[n]?=some y/\y.od=some (.dct kvs)/\e=.int i/\valD kvs (.inl i)=some d/\P d Δ1):JE K (tOp (rIxU K) (tVar n) tb) Δ P:=λg G H σ Q k c=>by
 obtain⟨a,o,h1,h2,h3,h4,h5⟩:=k.own n x _ hx ho;refine⟨.ref a,h1,h g G H σ _ k λv e G1 H1 Δ1 k1 s1 r1 ⟨y,kvs,i,d,q1,q2,q3,q4,p⟩=>?_⟩;subst q3;cases r1.inv;obtain⟨a',o',w1,w2,w3,w4,w5⟩:=k1.own n y _ q1 q2;rw[h1]at w1;cases w1;cases o' with
 |dK vs=>
  obtain⟨u,z1,z2⟩:=Zk2 w3 q4;exact .inr ⟨a,u,rfl,(by have:=DGet.k (k:=Sum.inl i) w2;rw[z1]at this;exact this),c u d G1 H1 Δ1 k1 s1 z2 p⟩
 |_=>exact absurd w3 (λz=>z)
theorem Zqr {n:Nat}{ti te:TE}{Pp:Pst}(h:JE K te Δ λd Δ1=>(∃x od,Δ1[n]?=some x/\x.od=some od)/\JE K ti Δ1 λe Δ2=>∃x kvs i,Δ2[n]?=some x/\x.od=some (.dct kvs)/\e=.int i/\kvs.length<sizeLine/\Pp.nx (Δ2.set n (x.put (.dct (putD kvs (.inl i) d))))) :
  JS K (tAsg te (gSub (tVar n) ti rSetU)) Δ Pp:=λg G H σ E k c=>
 h g G H σ _ k λv d G1 H1 Δ1 k1 s1 r1 hq_=>by
  obtain⟨⟨x,od,hx,ho⟩,p1⟩:=hq_;obtain⟨a,o,h1,h2,h3,h4,h5⟩:=k1.own n x _ hx ho;refine⟨.ref a,h1,p1 g G1 H1 σ _ k1 λu e G2 H2 Δ2 k2 s2 r2 ⟨y,kvs,i,q1,q2,q3,q4,p⟩=>?_⟩;subst q3;cases r2.inv;obtain⟨a',o',w1,w2,w3,w4,w5⟩:=k2.own n y _ q1 q2;rw[h1]at w1;cases w1;cases o' with
  |dK vs=>
   have w3':Paired (λ(p:Key × V) (q:Key × D)=>p.1=q.1/\Rep K G2 p.2 q.2) vs kvs:=w3;exact .inr ⟨a,_,rfl,DPut.k (k:=Sum.inl i) w2 (by rw[Paired.length w3'];exact q4),c.nx σ G2 _ _ (k2.write q1 q2 h1 (show OwnRep K G2 (.dK (putK vs (.inl i) v)) (.dct (putD kvs (.inl i) d)) from Zlb (r1.mono s2) w3')) p⟩
  |_=>exact absurd w3 (λz=>z)
theorem Zbq {ds es:List D}(he:ds=[.lst es]\/ds=[.tup es]) (p:P (.int es.length) Δ):JC K (rLenU K) ds Δ P:=λg G H σ Q vs k rs c=>.inl (Zs7 he p g G H σ Q vs k rs c)
theorem Zhb {n:Nat}{x:Slot}{ds:List D}(hx:Δ[n]?=some x) (ho:x.od=some (.lst ds)) (p:P (.int ds.length) Δ):JE K (tCB (rLenU K) (tCons (tVar n) tNil)) Δ P:=λg G H σ Q k c=>by
 obtain⟨v,h1,h2⟩:=Zrc hx ho p g G H σ Q k c;exact⟨v,h1,.inl h2⟩
def cutD (ds:List D) (lo hi:Option Int):List D:=(ds.drop (HT.sIx ds.length 0 lo)).take (HT.sIx ds.length ds.length hi-HT.sIx ds.length 0 lo)
theorem Zmg {α:Type}(xs:List α) (lo hi:Option Int) (h:HT.sIx xs.length 0 lo=0/\HT.sIx xs.length xs.length hi=xs.length):(xs.drop (HT.sIx xs.length 0 lo)).take (HT.sIx xs.length xs.length hi-HT.sIx xs.length 0 lo)=xs:=by
 rw[h.1,h.2];simp
def JO2 (t:TO) (Δ:Evt) (K:W.Frag) (P:Option Int->Evt->Prop):Prop:=
 ∀g G H σ (Q:Option Int->Hp->Prop),Ok K g G H σ Δ -> (∀o G' H' Δ',Ok K g G' H' σ Δ' -> Same G G' -> P o Δ' -> Q o H')->t σ H Q
theorem Zc1 {P:Option Int->Evt->Prop}(p:P none Δ):JO2 tNoPart Δ K P:=λg G H σ Q k c=>c none G H Δ k (Same.refl _) p
theorem Zc7 {te:TE}{P:Option Int->Evt->Prop}(h:JE K te Δ λd Δ1=>∃i,d=.int i/\P (some i) Δ1):JO2 (tPart te) Δ K P:=λg G H σ Q k c=>
 h g G H σ _ k λv d G1 H1 Δ1 k1 s1 r1 hq_=>by obtain⟨i,e,p⟩:=hq_;subst e;cases r1.inv;exact⟨i,rfl,c (some i) G1 H1 Δ1 k1 s1 p⟩
def slD (d:D) (lo hi:Option Int):Option D:=match d with
 |.lst ds=>some (.lst (cutD ds lo hi))
 |.scr ds=>some (.lst (cutD ds lo hi))
 |.tup ds=>some (.tup (cutD ds lo hi))
 |_=>none
theorem Zg4 {te:TE}{tl th:TO}(h:JE K te Δ λd Δ1=>JO2 tl Δ1 K λlo Δ2=>JO2 th Δ2 K λhi Δ3=>∃e,slD d lo hi=some e/\P e Δ3):JE K (tSl (rSlU K) te tl th) Δ P:=λg G H σ Q k c=>
 h g G H σ _ k λv d G1 H1 Δ1 k1 s1 r1 p1=>p1 g G1 H1 σ _ k1 λlo G2 H2 Δ2 k2 s2 p2=>p2 g G2 H2 σ _ k2 λhi G3 H3 Δ3 k3 s3 hq_=>by
  obtain⟨e,he,p⟩:=hq_;have r3:=r1.mono (s2.trans s3);have cc:=c.up (s1.trans (s2.trans s3));cases r3 with
  |lst ha rs=>
   cases he;refine .inl ⟨_,_,rfl,SqL.of (k3.live _ _ ha),λq hq=>?_⟩;obtain⟨k4,sg⟩:=k3.laid hq (.lst _);refine cc _ _ _ _ Δ3 k4 sg (.lst Zam (Reps.mono sg ?_)) p;unfold cutV cutD;rw[rs.length];exact(rs.drop _).take _
  |scr ha rs=>
   cases he;refine .inl ⟨_,_,rfl,k3.live.seq ha,λq hq=>?_⟩;obtain⟨k4,sg⟩:=k3.laid hq (.lst _);refine cc _ _ _ _ Δ3 k4 sg (.lst Zam (Reps.mono sg ?_)) p;unfold cutV cutD;rw[rs.length];exact(rs.drop _).take _
  |tup ha rs=>
   cases he;refine .inr ⟨_,_,rfl,SqT.of (k3.live _ _ ha),λhw=>?_,λhw q hq=>?_⟩
   ·rw[rs.length]at hw
    refine cc _ _ _ _ Δ3 k3 (Same.refl _) (.tup ha ?_) p;unfold cutD;rw[Zmg _ _ _ hw];exact rs
   ·obtain⟨k4,sg⟩:=k3.laid hq (.tup _)
    refine cc _ _ _ _ Δ3 k4 sg (.tup Zam (Reps.mono sg ?_)) p;unfold cutV cutD;rw[rs.length];exact(rs.drop _).take _
  |_=>cases he
theorem Zsu {te:TE}(h:JE K te Δ λd Δ1=>∃ds,d=.tup ds/\P (.tup ds.reverse) Δ1):JE K (tSlR K te) Δ P:=λg G H σ Q k c=>
 h g G H σ _ k λv d G1 H1 Δ1 k1 s1 r1 hq_=>by
  obtain⟨ds,e,p⟩:=hq_;subst e;obtain⟨_,_,rfl,ha,rs⟩:=r1.inv
  next=>
   refine⟨_,_,rfl,SqT.of (k1.live _ _ ha),λq hq=>?_⟩;obtain⟨k4,sg⟩:=k1.laid hq (.tup _);exact c _ _ _ _ Δ1 k4 (s1.trans sg) (.tup Zam (rs.reverse.mono sg)) p
theorem Zge {tl:TE}{P:List D->Evt->Prop}(h:JE K tl Δ λd Δ1=>∃ds,(d=.lst ds\/d=.scr ds)/\P ds Δ1):JI K (iSeq K tl) Δ P:=λg G H σ R k c=>.inl (Zqv h g G H σ R k c)
theorem Zd1 {tl:TE}{P:List D->Evt->Prop}(h:JE K tl Δ λd Δ1=>∃ds,d=.tup ds/\P ds Δ1):JI K (iSeq K tl) Δ P:=λg G H σ R k c=>.inr (Zti h g G H σ R k c)
def truD:D->Option Bool
 |.non=>some false
 |.bl b=>some b
 |.int i=>some (i != 0)
 |.lst ds=>some !ds.isEmpty
 |.tup ds=>some !ds.isEmpty
 |_=>none
theorem Reps.isEmpty {G:Hp}{vs:List V}{ds:List D}(r:Reps K G vs ds):vs.isEmpty=ds.isEmpty:=by cases r <;> rfl
theorem Zbu {t:TE}{Pb:Bool->Evt->Prop}(h:JE K t Δ λd Δ1=>∃b,truD d=some b/\Pb b Δ1):JT K (tTru K t) Δ Pb:=λg G H σ Q k c=>
 h g G H σ _ k λv d G1 H1 Δ1 k1 s1 r1 hq_=>by
  obtain⟨b,e,p1⟩:=hq_;refine⟨b,?_,c b G1 H1 Δ1 k1 s1 p1⟩;cases r1 with
  |non=>cases e;rfl
  |bl b=>cases e;rfl
  |int i=>cases e;rfl
  |str x=>cases e
  |ty n=>cases e
  |scr ha rs=>cases e
  |adr a=>cases e
  |dct ha hl rs=>cases e
  |exc ha=>cases e
  |lst ha rs=>cases e;exact .inl ⟨_,SqL.of (k1.live _ _ ha),by rw[rs.isEmpty]⟩
  |tup ha rs=>cases e;exact .inr (.inl ⟨_,SqT.of (k1.live _ _ ha),by rw[rs.isEmpty]⟩)
def tyD:D->Option String
 |.non=>some "NoneType"
 |.bl _=>some "bool"
 |.int _=>some "int"
 |.str _=>some "str"
 |.lst _=>some "list"
 |.tup _=>some "tuple"
 |.dct _ _=>some "dict"
 |_=>none
theorem Ztb {d:D}{n T:String}{b:Bool}(ht:tyD d=some T) (e:∀K,PySem.W.kitOne K (.type T) (.type n)=some b) (p:P (.bl b) Δ):JC K (rIsi K) [d,.ty n] Δ P:=λg G H σ Q vs k rs c=>by
 obtain⟨_,_,rfl,r,t⟩:=rs.inv
 next=>
  obtain⟨_,_,rfl,r',t⟩:=t.inv
  next=>
   cases t.inv;cases r'.inv;refine⟨_,n,.type T,b,rfl,?_,e K,c _ _ G H Δ k (Same.refl _) (.bl b) p⟩;cases r with
   |non=>cases ht;exact .non
   |bl b=>cases ht;exact .bl b
   |int i=>cases ht;exact .int i
   |str x=>cases ht;exact .str x
   |ty n=>cases ht
   |scr ha rs=>cases ht
   |adr a=>cases ht
   |dct ha hl rs=>cases ht;exact .dK (k.live _ _ ha)
   |exc ha=>cases ht
   |lst ha rs=>cases ht;exact .lst (k.live _ _ ha)
   |tup ha rs=>cases ht;exact .tup (k.live _ _ ha)
theorem Zci {ta tb:TE}(h:JE K ta Δ λd Δ1=>∃b,d=.bl b/\if b=true then JE K tb Δ1 P else P (.bl false) Δ1):JE K (tAndV ta tb) Δ P:=λg G H σ Q k c=>
 h g G H σ _ k λv d G1 H1 Δ1 k1 s1 r1 hq_=>by
  obtain⟨b,e,p1⟩:=hq_;subst e;cases r1.inv;refine⟨b,rfl,?_⟩;cases b with
  |true=>exact(show JE K tb Δ1 P from p1) g G1 H1 σ Q k1 (c.up s1)
  |false=>exact c _ _ G1 H1 Δ1 k1 s1 (.bl false) p1
theorem Zss {ta tb:TE}(h:JE K ta Δ λd Δ1=>∃b,d=.bl b/\if b=true then P (.bl true) Δ1 else JE K tb Δ1 P):JE K (tOrV ta tb) Δ P:=λg G H σ Q k c=>
 h g G H σ _ k λv d G1 H1 Δ1 k1 s1 r1 hq_=>by
  obtain⟨b,e,p1⟩:=hq_;subst e;cases r1.inv;refine⟨b,rfl,?_⟩;cases b with
  |false=>exact(show JE K tb Δ1 P from p1) g G1 H1 σ Q k1 (c.up s1)
  |true=>exact c _ _ G1 H1 Δ1 k1 s1 (.bl true) p1
theorem Zfm {ta:TE}(h:JE K ta Δ λd Δ1=>∃b,d=.bl b/\P (.bl !b) Δ1):JE K (tNotV ta) Δ P:=λg G H σ Q k c=>
 h g G H σ _ k λv d G1 H1 Δ1 k1 s1 r1 hq_=>by
  obtain⟨b,e,p1⟩:=hq_;subst e;cases r1.inv;exact⟨b,rfl,c _ _ G1 H1 Δ1 k1 s1 (.bl !b) p1⟩
theorem Zhk {to te:TE}(h:JE K to Δ λd Δ1=>∃ns:List Int,d=.tup (ns.map D.int)/\JE K te Δ1 λe Δ2=>∃i j,e=.int i/\ns[j]?=some i/\(∀m,m<j->ns[m]?≠some i)/\P (.int (j:Nat)) Δ2) :
  JE K (tBM K "tuple" (rIndexT K) to (tCons te tNil)) Δ P:=λg G H σ Q k c=>
 h g G H σ _ k λv d G1 H1 Δ1 k1 s1 r1 hq_=>by
  obtain⟨ns,e,p1⟩:=hq_;subst e;obtain⟨a,vs,rfl,ha,rs⟩:=r1.inv
  next=>
   refine⟨.inr (.inl ⟨rfl,.inr ⟨_,k1.live _ _ ha⟩⟩),p1 g G1 H1 σ _ k1 λu e G2 H2 Δ2 k2 s2 r2 ⟨i,j,q1,q2,q3,p⟩=>?_⟩;subst q1;cases r2.inv;have ev:vs=ns.map V.int:=rs.ints;subst ev;have hj:j<ns.length:=(Wae.mp q2).1;refine⟨a,_,.int i,j,rfl,rfl,SqT.of (k2.live _ _ (s2 _ _ ha)),rfl,?_,by simpa using hj,⟨.int i,by rw[Wag,q2];rfl,by simp[eqV]⟩,λm z hm hz=>?_,c _ _ G2 H2 Δ2 k2 (s1.trans s2) (.int _) p⟩
   ·rw[List.all_map];exact Wb7.mpr λ_ _=>rfl
   ·rw[Wag]at hz
    cases e:ns[m]? with
    |none=>rw[e]at hz;cases hz
    |some w=>
     rw[e]at hz;have hz:V.int w=z:=by simpa using hz
     subst hz;have hne:w≠i:=λq=>q3 m hm (by rw[e,q]);show (w == i)=false;exact beq_eq_false_iff_ne.mpr hne
end
section
variable {K:W.Frag}{g:Gm}{G H:Hp}{σ:St}{Δ:Evt}
theorem Ok.setVal' (k:Ok K g G H σ Δ) {v:V}{d:D}(i:Nat) (r:Rep K G v d):Ok K g G H (σ.set i (some v)) (Δ.set i (.val d)):=by
 by_cases hi:i < Δ.length
 ·exact k.setVal hi r
 ·have hl:=k.len
  rw[Wcw (l:=σ) (by omega),Wcw (l:=Δ) (by omega)];exact k
theorem Ok.setOwn' (k:Ok K g G H σ Δ) {a:Addr}{od:OD}(i:Nat) (p:Pend K g G H σ Δ a od):Ok K g G H (σ.set i (some (.ref a))) (Δ.set i (.own od)):=by
 by_cases hi:i < Δ.length
 ·exact k.setOwn hi p
 ·have hl:=k.len
  rw[Wcw (l:=σ) (by omega),Wcw (l:=Δ) (by omega)];exact k
theorem Zs8 {te:TE}{i:Nat}{P:Pst}(h:JE K te Δ λd Δ1=>P.nx (Δ1.set i (.val d))):JS K (tAsg te (gName i)) Δ P:=λg G H σ E k c=>
 h g G H σ _ k λv d G1 H1 Δ1 k1 s1 r1 p1=>c.nx _ G1 H1 _ (k1.setVal' i r1) p1
theorem Zrx {te:TE}{i:Nat}{P:Pst}(h:JO K te Δ λod Δ1=>P.nx (Δ1.set i (.own od))):JS K (tAsg te (gName i)) Δ P:=λg G H σ E k c=>
 h g G H σ _ k λa od G1 H1 Δ1 k1 s1 pd p1=>c.nx _ G1 H1 _ (k1.setOwn' i pd) p1
theorem Zr1 {i j:Nat}{ta:TA}{P:Pst}(h:JA K ta Δ λds Δ1=>∃d e,ds=[d,e]/\P.nx ((Δ1.set i (.val d)).set j (.val e))):JS K (tPar i j ta) Δ P:=λg G H σ E k c=>
 h g G H σ _ k λvs ds G1 H1 Δ1 k1 s1 r1 hq_=>by
  obtain⟨d,e,hd,p1⟩:=hq_;subst hd;obtain⟨_,_,rfl,ra,rr⟩:=r1.inv
  next=>
   obtain⟨_,_,rfl,rb,rr⟩:=rr.inv
   next=>
    cases rr.inv;exact⟨_,_,rfl,c.nx _ G1 H1 _ ((k1.setVal' i ra).setVal' j rb) p1⟩
theorem Zbm {i:Nat}{d:D}{P:Evt->Prop}(p:P (Δ.set i (.val d))):JG K (gName i) d Δ P:=λg G H σ v R k r c=>c _ G H _ (k.setVal' i r) (Same.refl _) p
theorem Zfg {n i:Nat}{d:D}{P:Evt->Prop}(hn:i<n) (p:P (Δ.set i (.val d))):JGn K n (gName i) d Δ P:=λg G H σ v R k r c=>
 c _ G H _ (k.setVal' i r) (Same.refl _) (λj hj=>Was (by omega)) p
theorem Ztp {n:Nat}{te:TE}{Pp:Pst}{x:Slot}{ds0:List D}(hx:Δ[n]?=some x) (ho:x.od=some (.lst ds0))
  (h:JE K te Δ λd Δ1=>∃y ds,Δ1[n]?=some y/\y.od=some (.lst ds)/\ds.length<sizeLine/\Pp.nx (Δ1.set n (y.put (.lst (ds++[d]))))) :
  JS K (tDrop (tBM K "list" rAppend (tVar n) (tCons te tNil))) Δ Pp:=Zlq hx ho ⟨_,rfl⟩ h
end
section
variable {K:W.Frag}{Δ:Evt}{nx bk ct:Evt->Prop}{rt:D->Evt->Prop}{ro:OD->Evt->Prop}
theorem Za1 (p:nx Δ):JS K tNext Δ ⟨nx,rt,bk,ct,ro⟩:=Zlk p
theorem Zak {t u:TS}(h:JS K t Δ ⟨λΔ1=>JS K u Δ1 ⟨nx,rt,bk,ct,ro⟩,rt,bk,ct,ro⟩):JS K (tSeq t u) Δ ⟨nx,rt,bk,ct,ro⟩:=Zp0 h
theorem Zbf {t u:TS}(I:Evt->Prop) (h1:JS K t Δ ⟨I,rt,bk,ct,ro⟩) (h2:∀Δ1,I Δ1->JS K u Δ1 ⟨nx,rt,bk,ct,ro⟩):JS K (tSeq t u) Δ ⟨nx,rt,bk,ct,ro⟩:=
 Zp0 (h1.mono h2 (λ_ _ z=>z) (λ_ z=>z) (λ_ z=>z) λ_ _ z=>z)
theorem Za3 {te:TE}(h:JE K te Δ rt):JS K (tRet te) Δ ⟨nx,rt,bk,ct,ro⟩:=Ztf h
theorem Zfh {te:TE}(h:JO K te Δ ro):JS K (tRet te) Δ ⟨nx,rt,bk,ct,ro⟩:=Zrh h
theorem Zb0 {c:TT}{t u:TS}(h:JT K c Δ λb Δ1=>if b=true then JS K t Δ1 ⟨nx,rt,bk,ct,ro⟩ else JS K u Δ1 ⟨nx,rt,bk,ct,ro⟩):JS K (tIfS c t u) Δ ⟨nx,rt,bk,ct,ro⟩:=Zua h
theorem Zax {te:TE}{i:Nat}(h:JE K te Δ λd Δ1=>nx (Δ1.set i (.val d))):JS K (tAsg te (gName i)) Δ ⟨nx,rt,bk,ct,ro⟩:=Zs8 h
theorem Zbh {te:TE}{i:Nat}(h:JO K te Δ λod Δ1=>nx (Δ1.set i (.own od))):JS K (tAsg te (gName i)) Δ ⟨nx,rt,bk,ct,ro⟩:=Zrx h
theorem Zi1 {i j:Nat}{ta:TA}(h:JA K ta Δ λds Δ1=>∃d e,ds=[d,e]/\nx ((Δ1.set i (.val d)).set j (.val e))):JS K (tPar i j ta) Δ ⟨nx,rt,bk,ct,ro⟩:=Zr1 h
theorem Zsy {te:TE}{t:TG}(h:JE K te Δ λd Δ1=>JG K t d Δ1 nx):JS K (tAsg te t) Δ ⟨nx,rt,bk,ct,ro⟩:=Zr9 h
theorem Zfu {n:Nat}{te:TE}{x:Slot}{ds0:List D}(hx:Δ[n]?=some x) (ho:x.od=some (.lst ds0))
  (h:JE K te Δ λd Δ1=>∃y ds,Δ1[n]?=some y/\y.od=some (.lst ds)/\ds.length<sizeLine/\nx (Δ1.set n (y.put (.lst (ds++[d]))))) :
  JS K (tDrop (tBM K "list" rAppend (tVar n) (tCons te tNil))) Δ ⟨nx,rt,bk,ct,ro⟩:=Ztp hx ho h
theorem Zo9 {n:Nat}{ti te:TE}(h:JE K te Δ λd Δ1=>(∃x ds,Δ1[n]?=some x/\x.od=some (.lst ds))/\JE K ti Δ1 λe Δ2=>∃x ds i j,Δ2[n]?=some x/\x.od=some (.lst ds)/\e=.int i/\ixN ds.length i=some j/\nx (Δ2.set n (x.put (.lst (ds.set j d))))) :
  JS K (tAsg te (gSub (tVar n) ti rSetU)) Δ ⟨nx,rt,bk,ct,ro⟩:=Zlw (h.mono λd Δ1 ⟨⟨x,ds,h1,h2⟩,h3⟩=>⟨⟨x,_,h1,h2⟩,h3⟩)
theorem Zis {n:Nat}{ti te:TE}(h:JE K te Δ λd Δ1=>(∃x kvs,Δ1[n]?=some x/\x.od=some (.dct kvs))/\JE K ti Δ1 λe Δ2=>∃x kvs i,Δ2[n]?=some x/\x.od=some (.dct kvs)/\e=.int i/\kvs.length<sizeLine/\nx (Δ2.set n (x.put (.dct (putD kvs (.inl i) d))))) :
  JS K (tAsg te (gSub (tVar n) ti rSetU)) Δ ⟨nx,rt,bk,ct,ro⟩:=Zqr (h.mono λd Δ1 ⟨⟨x,ds,h1,h2⟩,h3⟩=>⟨⟨x,_,h1,h2⟩,h3⟩)
theorem Zdb {wi:TI}{t:TG}{tb:TS}(h:JI K wi Δ λds Δ1=>∃I:Nat->Evt->Prop,I 0 Δ1/\(∀i d Δ2,ds[i]?=some d->I i Δ2->JG K t d Δ2 λΔ3=>JS K tb Δ3 ⟨I (i+1),rt,nx,I (i+1),ro⟩)/\∀Δ2,I ds.length Δ2->nx Δ2) :
  JS K (tFor wi t tb) Δ ⟨nx,rt,bk,ct,ro⟩:=Ztg h
theorem Zkd {c:TT}{tb:TS}(I:Nat->Evt->Prop) (h0:∃m,I m Δ) (ht:∀m Δ1,I m Δ1->JT K c Δ1 λb Δ2=>if b=true then JS K tb Δ2 ⟨λΔ3=>∃m',m'<m/\I m' Δ3,rt,nx,λΔ3=>∃m',m'<m/\I m' Δ3,ro⟩ else nx Δ2) :
  JS K (tWhile c tb) Δ ⟨nx,rt,bk,ct,ro⟩:=Zo0 I h0 ht
end
theorem Zmi {α β:Type}{f:α -> β}{xs:List α}{i:Int}(h0:0<=i) (h1:i<(xs.length:Int)):∃c,xs[i.toNat]?=some c/\atI (xs.map f) i=some (f c):=by
 have hk:i.toNat<xs.length:=by omega
 have e:i=((i.toNat:Nat):Int):=by omega
 have q:xs[i.toNat]?=some xs[i.toNat]:=Wab hk;generalize xs[i.toNat]=c at q;refine⟨c,q,?_⟩;have z:atI (xs.map f) ((i.toNat:Nat):Int)=some (f c):=Zc6 (by rw[Wag,q];rfl);rw[<- e]at z;exact z
theorem Zld:bootBuiltins "abs" = some (.builtin "abs"):=by decide +kernel
theorem Za9:bootBuiltins "len" = some (.builtin "len"):=by decide +kernel
theorem Zh3:bootBuiltins "min" = some (.builtin "min"):=by decide +kernel
theorem Zpu:bootBuiltins "max" = some (.builtin "max"):=by decide +kernel
theorem Zar:bootBuiltins "isinstance" = some (.builtin "isinstance"):=by decide +kernel
theorem Zl3:bootBuiltins "all" = some (.builtin "all"):=by decide +kernel
theorem Zek:bootBuiltins "sorted" = some (.builtin "sorted"):=by decide +kernel
theorem Za6:bootBuiltins "tuple" = some (.type "tuple"):=by decide +kernel
theorem Zfn:bootBuiltins "list" = some (.type "list"):=by decide +kernel
theorem Zst:bootBuiltins "set" = some (.type "set"):=by decide +kernel
theorem Zpp:bootBuiltins "int" = some (.type "int"):=by decide +kernel
theorem Zmj:bootBuiltins "bool" = some (.type "bool"):=by decide +kernel
theorem Zsl:bootBuiltins "zip" = some (.type "zip"):=by decide +kernel
structure Callee (P:Program) (w:World) (K:W.Frag) (mg:Str->Option Value) (base:Heap) (k:Nat) (x:Str) (ps:List Str) (sp:Sp):Prop where
 ex:∃(f:Addr) (fd:FuncData),FnOk P w K mg base CX0 k f fd ps sp/\Binds K fd ps []/\W.keepIn K (.ref f)=true/\mg x=some (.ref f)
section
variable {X:Cx}{k:Nat}{x:Str}{ps:List Str}{sp:Sp}{e:Expr}{es:List Expr}{t:TA}{p pos:Pos}
theorem Zay (C:Callee X.prog X.w X.K X.mg X.base k x ps sp) (hr:Room k X.A) (ha:PA X (e::es) t) (hg:Gl X x:=by rfl) (hdb:(x == ("__debug__":Str))=false:=by decide)
  (he:starEach (e::es) X.env=(false,eval e X.env)::starEach es X.env:=by rfl) (hpl:(backTo pos (starEach es X.env)).any (·.1)=false:=by rfl):PE X (.Call (.Name x p) (e::es) [] pos) (tCall sp [] E0 t):=by
 obtain⟨f,fd,F,b,kp,m⟩:=C.ex;exact Zqd F hr hg m kp b .nil pass0 ha hdb he hpl
end
def fixD (sel:List Nat) (Δ:Evt):Evt:=sel.map λi=>(Δ[i]?).getD .any
theorem Zdp {n:Nat}{sel:List Nat}{ts Δ:Evt}(ht:ts.length=n):backD n sel (ts++fixD sel Δ) 0 Δ = Δ:=by
 apply Wb9;intro i;rw[Zcz];cases q:Δ[i]? with
 |none=>rfl
 |some x=>
  show some (backAt n sel (ts++fixD sel Δ) (0+i) x)=some x;congr 1;rw[Wdg];have key:∀j,sel.idxOf? i=some j->(ts++fixD sel Δ)[n+j]?=some x:=λj hj=>by
   rw[Waz (by omega),ht,Nat.add_sub_cancel_left];unfold fixD;rw[Wag,Zef hj];show some ((Δ[i]?).getD .any)=_;rw[q];rfl
  unfold backAt;cases x with
  |any=>rfl
  |val d=>rfl
  |own o=>
   dsimp only;cases e:sel.idxOf? i with
   |none=>rfl
   |some j=>dsimp only;rw[key j e]
  |bor o=>
   dsimp only;cases e:sel.idxOf? i with
   |none=>rfl
   |some j=>dsimp only;rw[key j e]
  |ownA a o=>
   dsimp only;cases e:sel.idxOf? i with
   |none=>rfl
   |some j=>dsimp only;rw[key j e]
section
variable {K:W.Frag}{Δ:Evt}{P:D->Evt->Prop}
theorem Zdm {sel:List Nat}{wi:TI}{tc:TT}{te:TE}(hsel:sel.Nodup)
  (h:JI K wi Δ λds Δ1=>ds.length<sizeLine/\∃(p:D->Bool) (f:D->D),
   (∀(i:Nat) d,ds[i]?=some d->JT K tc (.val d::fixD sel Δ1) λb Δ4=>b=p d/\if b=true then JE K te Δ4 λe Δ5=>e=f d/\∃x,Δ5=x::fixD sel Δ1 else ∃x,Δ4=x::fixD sel Δ1) ∧
   P (.lst ((ds.filter p).map f)) Δ1):JE K (tComp 1 sel wi (gName 0) tc te) Δ P:=by
 refine Zj8 hsel λg G H σ R k c=>h g G H σ R k λJ ds G' H' Δ' k' s' it ⟨z,p,f,ht,he⟩=>c J ds G' H' Δ' k' s' it ⟨z,fixD sel Δ',p,f,rfl,λi d ts hd hts=>?_,?_⟩
 ·refine Zfg (by decide) ?_
  obtain⟨x,rfl⟩:∃x,ts=[x]:=by
   match ts,hts with
   |[x],_=>exact⟨x,rfl⟩
  intro g G H σ Q k c;refine ht i d hd g G H σ Q k λb G1 H1 Δ1 k1 s1 ⟨e1,q⟩=>c b G1 H1 Δ1 k1 s1 ⟨e1,?_⟩;cases b with
  |true=>
   rw[if_pos rfl]at q ⊢;exact q.mono λe Δ5 ⟨e2,x,e3⟩=>⟨e2,[x],rfl,e3⟩
  |false=>
   rw[if_neg Waj]at q ⊢;obtain⟨x,e3⟩:=q;exact⟨[x],rfl,e3⟩
 ·rw[Zdp (by simp)];exact he
theorem Zel {sel:List Nat}{wi:TI}{tc:TT}{te:TE}{Po:OD->Evt->Prop}(hsel:sel.Nodup)
  (h:JI K wi Δ λds Δ1=>ds.length<sizeLine/\∃(p:D->Bool) (f:D->D),
   (∀(i:Nat) d,ds[i]?=some d->JT K tc (.val d::fixD sel Δ1) λb Δ4=>b=p d/\if b=true then JE K te Δ4 λe Δ5=>e=f d/\∃x,Δ5=x::fixD sel Δ1 else ∃x,Δ4=x::fixD sel Δ1) ∧
   Po (.lst ((ds.filter p).map f)) Δ1):JO K (tComp 1 sel wi (gName 0) tc te) Δ Po:=by
 refine Zlm hsel λg G H σ R k c=>h g G H σ R k λJ ds G' H' Δ' k' s' it ⟨z,p,f,ht,he⟩=>c J ds G' H' Δ' k' s' it ⟨z,λi ys Δ=>ys=((ds.take i).filter p).map f/\∃x,Δ = x::fixD sel Δ',⟨by simp,.any,rfl⟩,?_,?_⟩
 ·rintro i d ys Δ2 hd ⟨rfl,x,rfl⟩
  have tk:ds.take (i+1)=ds.take i++[d]:=by
   rw[Wbp,hd];rfl
  refine Zfg (by decide) ?_;intro g G H σ Q k c;refine ht i d hd g G H σ Q k λb G1 H1 Δ1 k1 s1 ⟨e1,q⟩=>c b G1 H1 Δ1 k1 s1 ?_;cases b with
  |true=>
   rw[if_pos rfl]at q ⊢;refine q.mono λe Δ5 ⟨e2,x,e3⟩=>⟨?_,x,e3⟩;rw[tk,Wbx,Wax,Wbv,<- e1,e2];rfl
  |false=>
   rw[if_neg Waj]at q ⊢;obtain⟨x,e3⟩:=q;refine⟨?_,x,e3⟩;rw[tk,Wbx,Wax,Wbv,<- e1];simp
 ·rintro ys Δ2 ⟨rfl,x,rfl⟩
  rw[Wbn,show (x::fixD sel Δ')=[x]++fixD sel Δ' from rfl,Zdp (by simp)];exact he
theorem Zjq {sel:List Nat}{wi:TI}{tc:TT}{te:TE}(hsel:sel.Nodup)
  (h:JI K wi Δ λds Δ1=>ds.length<sizeLine/\∃(p:D->Bool) (f:D->D),
   (∀(i:Nat) d,ds[i]?=some d->∃a b,d=.tup [a,b]/\JT K tc (.val a::.val b::fixD sel Δ1) λt Δ4=>t=p d/\if t=true then JE K te Δ4 λe Δ5=>e=f d/\∃x y,Δ5=x::y::fixD sel Δ1 else ∃x y,Δ4=x::y::fixD sel Δ1) ∧
   P (.lst ((ds.filter p).map f)) Δ1):JE K (tComp 2 sel wi (gTup K 2 (gCons (gName 0) (gCons (gName 1) gNil))) tc te) Δ P:=by
 refine Zj8 hsel λg G H σ R k c=>h g G H σ R k λJ ds G' H' Δ' k' s' it ⟨z,p,f,ht,he⟩=>c J ds G' H' Δ' k' s' it ⟨z,fixD sel Δ',p,f,rfl,λi d ts hd hts=>?_,?_⟩
 ·obtain⟨a,b,rfl,hj⟩:=ht i d hd
  refine Zrf rfl (Zh2 (Zfg (by decide) (Zh2 (Zfg (by decide) (Zoa ?_)))));obtain⟨x,y,rfl⟩:∃x y,ts=[x,y]:=by
   match ts,hts with
   |[x,y],_=>exact⟨x,y,rfl⟩
  intro g G H σ Q k c;refine hj g G H σ Q k λb G1 H1 Δ1 k1 s1 ⟨e1,q⟩=>c b G1 H1 Δ1 k1 s1 ⟨e1,?_⟩;cases b with
  |true=>
   rw[if_pos rfl]at q ⊢;exact q.mono λe Δ5 ⟨e2,x,y,e3⟩=>⟨e2,[x,y],rfl,e3⟩
  |false=>
   rw[if_neg Waj]at q ⊢;obtain⟨x,y,e3⟩:=q;exact⟨[x,y],rfl,e3⟩
 ·rw[Zdp (by simp)];exact he
end
def tGhost (base:Nat) (t:TS):TS:=λE σ H=>t { E with nx:=λσ' H'=>∃σ2:St,σ2.length = σ'.length/\(∀i,i<base -> σ2[i]? = σ'[i]?)/\E.nx σ2 H' } σ H
theorem Zov {X:Cx}{st:Stmt}{t:TS}(base:Nat) (hv:∀x∈X.N.drop base,X.env.scope.names.lookup x=none) (h:PS X st t):PS X st (tGhost base t):=by
 intro pins s σ H E I hw;refine thn (h pins s σ H _ I hw) λf s1 q=>?_;cases f with
 |next=>
  obtain⟨σ',H',I',σ2,hl,hs,q⟩:=q;refine⟨σ2,H',⟨I'.ok,I'.os,I'.bare,I'.base,?_,I'.cell,I'.free,I'.freeC,I'.pin,I'.hok,hl.trans I'.len⟩,q⟩;obtain⟨m,hn,hl'⟩:=I'.loc;refine⟨m,hn,λi x v e1 e2 e3=>?_⟩;by_cases hi:i<base
  ·rw[hs i hi]at e2;exact hl' i x v e1 e2 e3
  ·have hm:x∈X.N.drop base:=by
    refine Wak (i:=i-base) ?_;rw[List.getElem?_drop,show base+(i-base)=i by omega];exact e1
   have z:=hv x hm;rcases e3 with w|w|w <;> (rw[z]at w;cases w)
 |ret v=>exact q
 |brk=>exact q
 |cont=>exact q
def Nest (K:W.Frag) (g:Gm) (G H:Hp) (σ:St) (Δ:Evt) (cs:List (Addr × HO)) (ods:List OD):Prop:=
 (cs.map (·.1)).Nodup/\Paired (λ(c:Addr × HO) (od:OD)=>OwnRep K G c.2 od) cs ods/\∀c∈cs,H c.1=some c.2/\G c.1=none/\g.Hz c.1=none/\g.Xo c.1=none/\∀(i:Nat) x od',Δ[i]?=some x->x.od=some od' -> σ[i]?≠some (some (.ref c.1))
def JN (K:W.Frag) (t:TE) (Δ:Evt) (P:List OD->Evt->Prop):Prop:=
 ∀g G H σ Q,Ok K g G H σ Δ -> (∀acc cs ods G' H' Δ',Ok K g G' H' σ Δ' -> Same G G' -> Rep K G' (.ref acc) (.lst (cs.map λ(c:Addr × HO)=>D.adr c.1))->g.Hz acc=none->Nest K g G' H' σ Δ' cs ods->P ods Δ' -> Q (.ref acc) H')->t σ H Q
section
variable {K:W.Frag}{Δ:Evt}
def cellAt (cs:List (Addr × HO)) (b:Addr):Option HO:=(cs.find? λc=>decide (c.1=b)).map (·.2)
theorem Zdz {cs:List (Addr × HO)}{b:Addr}:cellAt cs b=none ↔ ∀c∈cs,c.1≠b:=by
 unfold cellAt;rw[Option.map_eq_none_iff,List.find?_eq_none];constructor
 ·intro h c hc e;exact h c hc (decide_eq_true e)
 ·intro h c hc e;exact h c hc (of_decide_eq_true e)
theorem Zgn {cs:List (Addr × HO)}(nd:(cs.map (·.1)).Nodup) {c:Addr × HO}(hc:c∈cs):cellAt cs c.1=some c.2:=by
 induction cs with
 |nil=>cases hc
 |cons d r ih=>
  rw[Wa4,Wcb]at nd;unfold cellAt;rcases Wan.mp hc with e|hc
  ·subst e;simp
  ·have hne:d.1≠c.1:=λe=>nd.1 (by rw[e];exact Wau.mpr ⟨c,hc,rfl⟩)
   rw[Wcc (by simpa using hne)];exact ih nd.2 hc
open Classical in
noncomputable def asideN (g:Gm) (sel:List Nat) (σ:St) (Δ:Evt) (H:Hp) (acc:Addr) (cs:List (Addr × HO)):Hp:=λb=>
 if b=acc then some (.lst (cs.map λc=>V.ref c.1)) else match cellAt cs b with
  |some o=>some o
  |none=>if ∃(i:Nat) (x:Slot) (od:OD),Δ[i]?=some x/\x.od=some od/\i ∉ sel /\ σ[i]?=some (some (.ref b)) then H b else g.Xo b
theorem Zcy {g:Gm}{sel:List Nat}{σ:St}{Δ:Evt}{H:Hp}{acc:Addr}{cs:List (Addr × HO)}:asideN g sel σ Δ H acc cs acc=some (.lst (cs.map λc=>V.ref c.1)):=by unfold asideN;rw[if_pos rfl]
theorem Zcl {g:Gm}{sel:List Nat}{σ:St}{Δ:Evt}{H:Hp}{acc b:Addr}{o:HO}{cs:List (Addr × HO)}(hb:b≠acc) (e:cellAt cs b=some o):asideN g sel σ Δ H acc cs b=some o:=by unfold asideN;rw[if_neg hb,e]
theorem Zcv {g:Gm}{sel:List Nat}{σ:St}{Δ:Evt}{H:Hp}{acc b:Addr}{cs:List (Addr × HO)}(hb:b≠acc) (e:cellAt cs b=none) (hx:∃(i:Nat) (x:Slot) (od:OD),Δ[i]?=some x/\x.od=some od/\i ∉ sel /\ σ[i]?=some (some (.ref b))):asideN g sel σ Δ H acc cs b=H b:=by
 unfold asideN;rw[if_neg hb,e];exact if_pos hx
theorem Zck {g:Gm}{sel:List Nat}{σ:St}{Δ:Evt}{H:Hp}{acc b:Addr}{cs:List (Addr × HO)}(hb:b≠acc) (e:cellAt cs b=none) (hx:¬ ∃(i:Nat) (x:Slot) (od:OD),Δ[i]?=some x/\x.od=some od/\i ∉ sel /\ σ[i]?=some (some (.ref b))):asideN g sel σ Δ H acc cs b=g.Xo b:=by
 unfold asideN;rw[if_neg hb,e];exact if_neg hx
theorem Zqu {n:Nat}{sel:List Nat}{wi:TI}{t:TG}{tc:TT}{te:TE}{P:List OD->Evt->Prop}(hsel:sel.Nodup)
  (h:JI K wi Δ λds Δ1=>ds.length<sizeLine/\∃I:Nat->List OD->Evt->Prop,I 0 [] (compD n sel Δ1) ∧
   (∀i d ys Δ2,ds[i]?=some d->I i ys Δ2->JGn K n t d Δ2 λΔ3=>JT K tc Δ3 λb Δ4=>if b=true then JO K te Δ4 λe Δ5=>I (i+1) (ys++[e]) Δ5 else I (i+1) ys Δ4) ∧
   ∀ys Δ2,I ds.length ys Δ2->P ys (backD n sel Δ2 0 Δ1)):JN K (tComp n sel wi t tc te) Δ P:=λg G H σ Q k c=>
 h g G H σ _ k λJ ds G1 H1 Δ1 k1 s1 it ⟨hz,I,h0,ht,he⟩ acc hacc=>by
  have nacc:∀(i:Nat) x od,Δ1[i]?=some x->x.od=some od -> σ[i]?≠some (some (.ref acc)):=λi x od e1 e2 e3=>by
   obtain⟨a,o,w1,w2,_⟩:=k1.own i x od e1 e2;rw[e3]at w1;cases w1;rw[hacc]at w2;cases w2
  let Wd:Nat->St->Hp->Prop:=λi σ' H'=>i<=ds.length/\(∀j,n<=j -> σ'[j]?=(compSt n sel σ)[j]?)/\∃G ys cs Δi,cs.length<=i/\(cs.map (·.1)).Nodup/\(∀c∈cs,c.1≠acc/\g.Hz c.1=none/\g.Xo c.1=none/\∀(i:Nat) x od,Δ1[i]?=some x->x.od=some od->i ∉ sel -> σ[i]?≠some (some (.ref c.1)))/\Paired (λ(c:Addr × HO) (od:OD)=>OwnRep K G c.2 od) cs ys ∧
   Ok K ⟨g.B,G1,g.Hz,asideN g sel σ Δ1 H1 acc cs⟩ G H' σ' Δi/\I i ys Δi
  refine⟨λi m σ' H'=>m=ds.length-i/\Wd i σ' H',⟨ds.length,by simp,Wbw _,λ_ _=>rfl,G1,[],[],compD n sel Δ1,Wah _,List.nodup_nil,λc hc=>(nomatch hc),.nil,?_,h0⟩,?_⟩
  ·refine Zgc hsel k1 hacc λb o e=>?_
   have e:asideN g sel σ Δ1 H1 acc [] b=some o:=e;by_cases hb:b=acc
   ·subst hb;rw[Zcy]at e;cases e;exact .inl ⟨rfl,rfl⟩
   ·by_cases hx:∃(i:Nat) (x:Slot) (od:OD),Δ1[i]?=some x/\x.od=some od/\i ∉ sel /\ σ[i]?=some (some (.ref b))
    ·rw[Zcv hb rfl hx]at e;exact .inr ⟨hb,.inl ⟨hx,e⟩⟩
    ·rw[Zck hb rfl hx]at e;exact .inr ⟨hb,.inr e⟩
  ·rintro i m σ2 H2 ⟨rfl,hi,hσ,G2,ys,cs,Δ2,hy,nd,hcs,ry,k2,h2⟩
   have s2:Same G1 G2:=k2.sub;obtain⟨stop,go⟩:=it G2 H2 s2 k2.live;by_cases hlt:i<ds.length
   ·obtain⟨g1,g2⟩:=go i _ (Wab hlt)
    refine .inr ⟨g1,λσ' H'=>Wd (i+1) σ' H',λσ' H' p'=>⟨ds.length-(i+1),by omega,rfl,p'⟩,λx H3 y=>?_⟩;obtain⟨G3,a1,a2,a3,a4⟩:=g2 x H3 y;have k3:=k2.grow a1 a2 a3;have hG3:∀b o,G3 b=some o->(g.Hz b=none\/G1 b=some o):=λb o q=>(k3.frz b o q).2;have k3':Ok K ⟨g.B,G3,g.Hz,asideN g sel σ Δ1 H1 acc cs⟩ G3 H3 σ2 Δ2:=⟨k3.same,k3.lent,Same.refl _,λb o q=>⟨(k3.frz b o q).1,.inr q⟩,k3.ext,k3.len,k3.val,k3.own,k3.dis⟩;have ry3:Paired (λ(c:Addr × HO) (od:OD)=>OwnRep K G3 c.2 od) cs ys:=Paired.mapP ry λ_ _ z=>z.mono a1;have s13:Same G1 G3:=s2.trans a1;refine ht i _ ys Δ2 (Wab hlt) h2 ⟨g.B,G3,g.Hz,asideN g sel σ Δ1 H1 acc cs⟩ G3 H3 σ2 x _ k3' a4 λσ4 G4 H4 Δ4 k4 s4 e4 p4=>?_;have hσ4:∀j,n<=j -> σ4[j]?=(compSt n sel σ)[j]?:=λj hj=>(e4 j hj).trans (hσ j hj);refine p4 _ G4 H4 σ4 _ k4 λb G5 H5 Δ5 k5 s5 p5=>?_;cases b with
    |false=>exact⟨hlt,hσ4,G5,ys,cs,Δ5,by omega,nd,hcs,Paired.mapP ry3 λ_ _ z=>z.mono (s4.trans s5),k5.base s13 hG3,p5⟩
    |true=>
     refine(show JO K te Δ5 _ from p5) _ G5 H5 σ4 _ k5 λa od G6 H6 Δ6 k6 s6 pd p6=>?_;have ry6:Paired (λ(c:Addr × HO) (od:OD)=>OwnRep K G6 c.2 od) cs ys:=Paired.mapP ry3 λ_ _ z=>z.mono (s4.trans (s5.trans s6));obtain⟨b1,b2,b3⟩:=k6.ext acc _ Zcy;obtain⟨oa,d1,d2,d3,d4,d5,d6⟩:=pd;have d5:asideN g sel σ Δ1 H1 acc cs a=none:=d5;have hane:a≠acc:=by intro z;subst z;rw[Zcy]at d5;cases d5
     have hac:cellAt cs a=none:=by
      cases q:cellAt cs a with
      |none=>rfl
      |some o=>rw[Zcl hane q]at d5;cases d5
     have hax:∀(i:Nat) x od,Δ1[i]?=some x->x.od=some od->i ∉ sel -> σ[i]?≠some (some (.ref a)):=λi x od e1 e2 e3 e4=>by
      rw[Zcv hane hac ⟨i,x,od,e1,e2,e3,e4⟩]at d5;obtain⟨a',o',w1,w2,_⟩:=k1.own i x od e1 e2;rw[e4]at w1;cases w1;rw[d5]at w2;cases w2
     have hagx:g.Xo a=none:=by
      rw[Zck hane hac (λ⟨i,x,od,e1,e2,e3,e4⟩=>hax i x od e1 e2 e3 e4)]at d5;exact d5
     have hnm:=Zdz.mp hac;refine⟨cs.map λc=>V.ref c.1,b1,by rw[Waa];omega,hlt,hσ4,G6,ys++[od],cs++[(a,oa)],Δ6,by rw[Wai,Wc7];omega,?_,λc hc=>?_,Paired.snoc ry6 d2,?_,p6⟩
     ·rw[Wax]
      refine Wct.mpr ⟨nd,by simp,λx hx y hy=>?_⟩;rw[List.map_singleton,Wbl]at hy;subst hy;obtain⟨c,hc,rfl⟩:=Wau.mp hx;exact hnm c hc
     ·rcases Wbo.mp hc with hc|hc
      ·exact hcs c hc
      ·rw[Wbl.mp hc];exact⟨hane,d4,hagx,hax⟩
     ·have k7:=k6.base s13 hG3
      have nd':((cs++[(a,oa)]).map (·.1)).Nodup:=by
       rw[Wax];refine Wct.mpr ⟨nd,by simp,λx hx y hy=>?_⟩;rw[List.map_singleton,Wbl]at hy;subst hy;obtain⟨c,hc,rfl⟩:=Wau.mp hx;exact hnm c hc
      have er:(cs++[(a,oa)]).map (λc=>V.ref c.1)=(cs.map λc=>V.ref c.1)++[V.ref a]:=by simp
      have oldH:∀b o,b≠acc->H6 b=some o->(upd H6 acc (.lst ((cs.map λc=>V.ref c.1)++[V.ref a]))) b=some o:=λb o hb e=>by rw[Zaj hb];exact e
      refine⟨λb o hb e=>?_,λb hb=>?_,k7.sub,λb o e=>?_,λb o e=>?_,k7.len,k7.val,λi x od e1 e2=>?_,k7.dis⟩
      ·have hne:b≠acc:=by
        intro z;subst z;have e:g.Hz b=some o:=e;rw[k1.there hacc]at e;cases e
       exact oldH b o hne (k7.same b o hb e)
      ·by_cases hne:b=acc
       ·subst hne;rw[Zam];intro z;cases z
       ·rw[Zaj hne];exact k7.lent b hb
      ·have hne:b≠acc:=by intro z;subst z;rw[b2]at e;cases e
       exact⟨oldH b o hne (k7.frz b o e).1,(k7.frz b o e).2⟩
      ·have e:asideN g sel σ Δ1 H1 acc (cs++[(a,oa)]) b=some o:=e
       by_cases hne:b=acc
       ·subst hne
        rw[Zcy,er]at e;cases e;exact⟨Zam,b2,b3⟩
       ·by_cases hba:b=a
        ·subst hba
         rw[Zcl hne (Zgn nd' (c:=(b,oa)) (Wa0 _ (Wbl.mpr rfl)))]at e;cases e;exact⟨oldH b _ hne d1,d3,d6⟩
        ·have ec:cellAt (cs++[(a,oa)]) b=cellAt cs b:=by
          unfold cellAt;rw[List.find?_append];cases (cs.find? λc=>decide (c.1=b)) with
          |some c=>rfl
          |none=>
           rw[Wcc (by simpa using Ne.symm hba)];rfl
         have e':asideN g sel σ Δ1 H1 acc cs b=some o:=by
          cases q:cellAt cs b with
          |some o'=>rw[Zcl hne (ec.trans q)]at e;rw[Zcl hne q];exact e
          |none=>
           by_cases hx:∃(i:Nat) (x:Slot) (od:OD),Δ1[i]?=some x/\x.od=some od/\i ∉ sel /\ σ[i]?=some (some (.ref b))
           ·rw[Zcv hne (ec.trans q) hx]at e;rw[Zcv hne q hx];exact e
           ·rw[Zck hne (ec.trans q) hx]at e;rw[Zck hne q hx];exact e
         obtain⟨w1,w2,w3⟩:=k7.ext b o e';exact⟨oldH b o hne w1,w2,w3⟩
      ·obtain⟨a',o,w1,w2,w3,w4,w5⟩:=k7.own i x od e1 e2
       have hne:a'≠acc:=by intro z;subst z;exact b3 i x od e1 e2 w1
       exact⟨a',o,w1,oldH a' o hne w2,w3,w4,w5⟩
   ·have e:i=ds.length:=by omega
    subst e;refine .inl ⟨stop,?_⟩;obtain⟨b1,b2,b3⟩:=k2.ext acc _ Zcy;have src:=Zgt (Δ1:=Δ1) (Δ2:=Δ2) hσ;have k9:Ok K g G2 H2 σ (backD n sel Δ2 0 Δ1):=Zfb k1 hacc k2 hσ (λb o hb hx e=>by
      show asideN g sel σ Δ1 H1 acc cs b=_;rw[Zcv hb (Zdz.mpr λc hc z=>?_) hx]
      ·exact e
      ·obtain⟨i0,x0,od0,f1,f2,f3,f4⟩:=hx
       exact(hcs c hc).2.2.2 i0 x0 od0 f1 f2 f3 (by rw[z];exact f4)) (λb o hb hx e=>by
      show asideN g sel σ Δ1 H1 acc cs b=_;rw[Zck hb (Zdz.mpr λc hc z=>?_) hx]
      ·exact e
      ·have:=(hcs c hc).2.2.1;rw[z,e]at this;cases this)
    -- the outer list is frozen
    have nslot:∀(i:Nat) y od,(backD n sel Δ2 0 Δ1)[i]?=some y->y.od=some od -> σ[i]?≠some (some (.ref acc)):=λi y od e1 e2=>by
     obtain⟨x',od1,f1,f2,_⟩:=src i y od e1 e2;exact nacc i x' od1 f1 f2
    have refs:∀{G:Hp}(l:List (Addr × HO)),Reps K G (l.map λc=>V.ref c.1) (l.map λc=>D.adr c.1):=λ{G} l=>by
     induction l with
     |nil=>exact .nil
     |cons c r ih=>exact .cons (.adr _) ih
    have gX:g.Xo acc=none:=by
     cases q:g.Xo acc with
     |none=>rfl
     |some u=>have z:=(k1.ext acc u q).1;rw[hacc]at z;cases z
    obtain⟨kf,sf,rf⟩:=k9.freeze (a:=acc) (ds:=cs.map λ(c:Addr × HO)=>D.adr c.1) (vs:=cs.map λ(c:Addr × HO)=>V.ref c.1) ⟨_,b1,(show Reps K G2 (cs.map λ(c:Addr × HO)=>V.ref c.1) (cs.map λ(c:Addr × HO)=>D.adr c.1) from refs cs),b2,k1.there hacc,gX,nslot⟩ b1;refine c acc cs ys _ H2 _ kf (s1.trans (s2.trans sf)) rf (k1.there hacc) ⟨nd,Paired.mapP ry λ_ _ z=>z.mono sf,λcc hc=>?_⟩ (he ys Δ2 h2);obtain⟨f1,f2,f3,f4⟩:=hcs cc hc;obtain⟨u1,u2,u3⟩:=k2.ext cc.1 cc.2 (Zcl f1 (Zgn nd hc));refine⟨u1,by rw[Zaj f1];exact u2,f2,f3,λi y od e1 e2 e3=>?_⟩;obtain⟨x,od',w1,w2,w3⟩:=src i y od e1 e2;rcases w3 with ⟨w3,w4⟩|⟨j,w3,w4,w5⟩
    ·exact f4 i x od' w1 w2 w4 e3
    ·exact u3 (n+j) y od w4 e2 (by rw[w5,e3];rfl)
def putN:Nat->List (Addr × OD)->Evt->Evt
 |_,[],Δ=>Δ
 |b,c::r,Δ=>putN (b+1) r (Δ.set b (.ownA c.1 c.2))
def putS:Nat->List Addr->St->St
 |_,[],σ=>σ
 |b,a::r,σ=>putS (b+1) r (σ.set b (some (.ref a)))
theorem Zjx:∀(as:List Addr) (b:Nat) (σ:St),(putS b as σ).length = σ.length
 |[],_,_=>rfl
 |a::r,b,σ=>by rw[putS,Zjx r (b+1),Wcx]
theorem Zf7:∀(as:List Addr) (b:Nat) (σ:St) (i:Nat),i<b->(putS b as σ)[i]? = σ[i]?
 |[],_,_,_,_=>rfl
 |a::r,b,σ,i,h=>by rw[putS,Zf7 r (b+1) _ i (by omega),Was (by omega)]
theorem Ok.setOwnA {g:Gm}{G H:Hp}{σ:St}(k:Ok K g G H σ Δ) {a:Addr}{od:OD}{i:Nat}(hi:i < Δ.length) (p:Pend K g G H σ Δ a od):Ok K g G H (σ.set i (some (.ref a))) (Δ.set i (.ownA a od)):=by
 have k1:=k.setOwn hi p;obtain⟨o,p1,p2,p3,p4,p5,p6⟩:=p;have hs:i < σ.length:=by rw[<- k.len];exact hi
 have old:∀(j:Nat) x,j≠i->(Δ.set i (.ownA a od))[j]?=some x->(Δ.set i (.own od))[j]?=some x:=λj x hj e=>by
  rw[Was (Ne.symm hj)]at e ⊢;exact e
 have cv:∀(j:Nat) x od',(Δ.set i (.ownA a od))[j]?=some x->x.od=some od' -> ∃y,(Δ.set i (.own od))[j]?=some y/\y.od=some od':=λj x od' e1 e2=>by
  by_cases hj:j=i
  ·subst hj
   rw[Waq hi]at e1;cases e1;cases e2;exact⟨.own od,Waq hi,rfl⟩
  ·exact⟨x,old j x hj e1,e2⟩
 refine⟨k1.same,k1.lent,k1.sub,k1.frz,λb u e=>?_,by simp[k.len],λj d e=>?_,λj x od' e1 e2=>?_,λj l x y od1 od2 c e1 e2 e3 e4 e5 e6=>?_⟩
 ·obtain⟨h1,h2,h3⟩:=k1.ext b u e
  refine⟨h1,h2,λj x od' e1 e2=>?_⟩;obtain⟨y,f1,f2⟩:=cv j x od' e1 e2;exact h3 j y od' f1 f2
 ·by_cases hj:j=i
  ·subst hj
   rw[Waq hi]at e;cases e
  ·exact k1.val j d (old j _ hj e)
 ·by_cases hj:j=i
  ·subst hj
   rw[Waq hi]at e1;cases e1;cases e2;exact⟨a,o,Waq hs,p1,p2,p3,rfl,p4⟩
  ·exact k1.own j x od' (old j x hj e1) e2
 ·obtain⟨x',f1,f2⟩:=cv j x od1 e1 e2
  obtain⟨y',f3,f4⟩:=cv l y od2 e3 e4;exact k1.dis j l x' y' od1 od2 c f1 f2 f3 f4 e5 e6
theorem Ok.putN {g:Gm}{G H:Hp}:∀(cs:List (Addr × HO)) (ods:List OD) (b:Nat) (σ:St) (Δ:Evt),Ok K g G H σ Δ -> b+ods.length <= Δ.length->Nest K g G H σ Δ cs ods →
  Ok K g G H (putS b (cs.map (·.1)) σ) (L2.putN b ((cs.map (·.1)).zip ods) Δ)
 |[],[],_,_,_,k,_,_=>k
 |[],_::_,_,_,_,_,_,n=>by cases n.2.1
 |_::_,[],_,_,_,_,_,n=>by cases n.2.1
 |c::cs,od::ods,b,σ,Δ,k,hl,⟨nd,pr,al⟩=>by
  cases pr with
  |cons r t=>
   obtain⟨h1,h2,h3,h4,h5⟩:=al c Waw;rw[Wa4,Wcb]at nd;have hb:b < Δ.length:=by rw[Wap]at hl;omega
   have k1:=k.setOwnA hb ⟨c.2,h1,r,h2,h3,h4,h5⟩;refine Ok.putN cs ods (b+1) _ _ k1 (by rw[Wcx];rw[Wap]at hl;omega) ⟨nd.2,t,λd hd=>?_⟩;obtain⟨f1,f2,f3,f4,f5⟩:=al d (Wav _ hd);have hne:d.1≠c.1:=λe=>nd.1 (by rw[<- e];exact Wau.mpr ⟨d,hd,rfl⟩);refine⟨f1,f2,f3,f4,λj x od' e1 e2=>?_⟩;by_cases hj:j=b
   ·subst hj
    rw[Waq (by rw[<- k.len];exact hb)];intro z;have:c.1=d.1:=by
     have z1:=Wbd.inj (Wbd.inj z);injection z1
    exact hne this.symm
   ·rw[Was (Ne.symm hj)]at e1 ⊢
    exact f5 j x od' e1 e2
theorem Znc:∀(l:List (Addr × OD)) (R T:Evt) (m:Nat),l.length<=m->L2.putN R.length l (R++Wad m Slot.any++T)=R++l.map (λc=>Slot.ownA c.1 c.2)++Wad (m-l.length) Slot.any++T
 |[],R,T,m,_=>by simp[L2.putN]
 |c::r,R,T,m,h=>by
  obtain⟨m',rfl⟩:∃m',m=m'+1:=⟨m-1,by rw[Wap]at h;omega⟩;have e:(R++Wad (m'+1) Slot.any++T).set R.length (.ownA c.1 c.2)=(R++[.ownA c.1 c.2])++Wad m' Slot.any++T:=by
   rw[Wcv];simp[List.set_append_right]
  rw[L2.putN,e];have:=Znc r (R++[.ownA c.1 c.2]) T m' (by rw[Wap]at h;omega);rw[Wai,Wc7]at this;rw[this];simp
theorem Zqo {te:TE}{i base:Nat}{nx bk ct:Evt->Prop}{rt:D->Evt->Prop}{ro:OD->Evt->Prop}
  (h:JN K te Δ λods Δ1=>i<base/\base+ods.length <= Δ1.length/\∀as:List Addr,as.length=ods.length->as.Nodup->nx (L2.putN base (as.zip ods) (Δ1.set i (.val (.lst (as.map D.adr)))))) :
  JS K (tGhost base (tAsg te (gName i))) Δ ⟨nx,rt,bk,ct,ro⟩:=λg G H σ E k c=>
 h g G H σ _ k λacc cs ods G1 H1 Δ1 k1 s1 rr _ nn hq_=>by
  obtain⟨hi,hb,p⟩:=hq_;have hl:cs.length=ods.length:=Paired.length nn.2.1;have e0:(cs.map λc=>D.adr c.1)=(cs.map (·.1)).map D.adr:=by rw[Wa2];rfl
  have k2:=k1.setVal' i rr;have n2:Nest K g G1 H1 (σ.set i (some (.ref acc))) (Δ1.set i (.val (.lst (cs.map λc=>D.adr c.1)))) cs ods:=by
   obtain⟨nd,pr,al⟩:=nn;refine⟨nd,pr,λd hd=>?_⟩;obtain⟨f1,f2,f3,f4,f5⟩:=al d hd;refine⟨f1,f2,f3,f4,λj x od' e1 e2=>?_⟩;by_cases hj:j=i
   ·subst hj
    by_cases hlt:j < Δ1.length
    ·rw[Waq hlt]at e1;cases e1;cases e2
    ·rw[Wb0 (by rw[Wcx];omega)]at e1;cases e1
   ·rw[Was (Ne.symm hj)]at e1 ⊢
    exact f5 j x od' e1 e2
  have k3:=Ok.putN cs ods base _ _ k2 (by rw[Wcx];exact hb) n2;refine⟨putS base (cs.map (·.1)) (σ.set i (some (.ref acc))),Zjx _ _ _,λj hj=>Zf7 _ _ _ j hj,?_⟩;rw[e0]at k3;exact c.nx _ G1 H1 _ k3 (p (cs.map (·.1)) (by rw[Waa,hl]) nn.1)
theorem Zmf {n j:Nat}{a:Addr}{ds:List D}{P:D->Evt->Prop}(hx:Δ[n]?=some (.val (.adr a))) (hj:Δ[j]?=some (.ownA a (.lst ds))) (p:P (.int ds.length) Δ):JE K (tCB (rLenU K) (tCons (tVar n) tNil)) Δ P:=λg G H σ Q k c=>by
 obtain⟨v,h1,h2⟩:=k.val n _ hx;cases h2;obtain⟨a',o,w1,w2,w3,w4,w5⟩:=k.own j _ _ hj rfl;obtain⟨rfl,_⟩:=w5;cases o with
 |lst vs=>
  have w3:Reps K G vs ds:=w3;refine⟨_,h1,.inl ⟨_,vs,rfl,.inl (SqL.of w2),?_⟩⟩;rw[w3.length];exact c _ _ G H Δ k (Same.refl _) (.int _) p
 |_=>exact absurd w3 (λz=>z)
theorem Zr3 {n:Nat}{t1 t2:TE}{a:Addr}{j0:Nat}{ds0:List D}{nx bk ct:Evt->Prop}{rt:D->Evt->Prop}{ro:OD->Evt->Prop}(hx:Δ[n]?=some (.val (.adr a))) (hj0:Δ[j0]?=some (.ownA a (.lst ds0)))
  (h:JE K t1 Δ λe1 Δ1=>JE K t2 Δ1 λe2 Δ2=>∃j i ds,e1=.int i /\ Δ2[j]?=some (.ownA a (.lst ds))/\ds.length<sizeLine /\ -(2 ^ 62)<=i/\i<2 ^ 62/\nx (Δ2.set j (.ownA a (.lst (ds.take (insI ds.length i)++e2::ds.drop (insI ds.length i)))))) :
  JS K (tDrop (tBM K "list" rInsert (tVar n) (tCons t1 (tCons t2 tNil)))) Δ ⟨nx,rt,bk,ct,ro⟩:=λg G H σ E k c=>by
 obtain⟨v,h1,h2⟩:=k.val n _ hx;cases h2;obtain⟨a',o,w1,w2,w3,w4,w5⟩:=k.own j0 _ _ hj0 rfl;obtain⟨rfl,_⟩:=w5;cases o with
 |lst vs0=>
  refine⟨_,h1,.inl ⟨rfl,_,SqL.of w2⟩,h g G H σ _ k λv1 e1 G1 H1 Δ1 k1 s1 r1 p1=>p1 g G1 H1 σ _ k1 λv2 e2 G2 H2 Δ2 k2 s2 r2 ⟨j,i,ds,q1,q2,q3,q4,q5,p⟩=>?_⟩;subst q1;cases r1.inv;obtain⟨a2,o2,u1,u2,u3,u4,u5⟩:=k2.own j _ _ q2 rfl;obtain⟨rfl,_⟩:=u5;cases o2 with
  |lst vs=>
   have u3:Reps K G2 vs ds:=u3;refine⟨_,vs,i,v2,rfl,rfl,u2,by rw[u3.length];exact q3,q4,q5,?_⟩;have k3:=k2.write q2 rfl u1 (show OwnRep K G2 (.lst (vs.take (insI vs.length i)++v2::vs.drop (insI vs.length i))) (.lst (ds.take (insI ds.length i)++e2::ds.drop (insI ds.length i))) from by
    rw[u3.length];exact(u3.take _).append (.cons r2 (u3.drop _)))
   exact c.nx σ G2 _ _ k3 p
  |_=>exact absurd u3 (λz=>z)
 |_=>exact absurd w3 (λz=>z)
theorem JS.conv {t:TS}{Δ':Evt}{P:Pst}(hc:∀g G H σ,Ok K g G H σ Δ -> ∃G',Same G G' /\ Ok K g G' H σ Δ') (h:JS K t Δ' P):JS K t Δ P:=λg G H σ E k c=>by
 obtain⟨G',s,k'⟩:=hc g G H σ k;exact h g G' H σ E k' c
theorem Ok.freezeA {g:Gm}{G H:Hp}{σ:St}(k:Ok K g G H σ Δ) {i:Nat}{a:Addr}{ds:List D}(h:Δ[i]?=some (.ownA a (.lst ds))):∃G',Same G G' /\ Ok K g G' H σ (Δ.set i .any)/\Rep K G' (.ref a) (.lst ds):=by
 obtain⟨a',o,w1,w2,w3,w4,w5⟩:=k.own i _ _ h rfl;obtain⟨rfl,w6⟩:=w5;cases o with
 |lst vs=>
  have pd:Pend K g G H σ (Δ.set i .any) a (.lst ds):=by
   refine⟨.lst vs,w2,w3,w4,w6,?_,λj x od' e1 e2 e3=>?_⟩
   ·cases q:g.Xo a with
    |none=>rfl
    |some u=>exact absurd w1 ((k.ext a u q).2.2 i _ _ h rfl)
   ·by_cases hj:j=i
    ·subst hj
     rw[Wc4]at e1;simp at e1;obtain⟨_,e1⟩:=e1;subst e1;cases e2
    ·rw[Was (Ne.symm hj)]at e1
     exact hj (k.dis j i x _ od' _ a e1 e2 h rfl e3 w1)
  obtain⟨k2,sg,r⟩:=(k.drop i).freeze pd w2;exact⟨_,sg,k2,r⟩
 |_=>exact absurd w3 (λz=>z)
theorem Ok.freezeN {g:Gm}{H:Hp}{σ:St}:∀(cs:List (Addr × List D)) (R T:Evt) (G:Hp),Ok K g G H σ (R++cs.map (λc=>Slot.ownA c.1 (.lst c.2))++T) →
  ∃G',Same G G' /\ Ok K g G' H σ (R++Wad cs.length .any++T)/\∀c∈cs,Rep K G' (.ref c.1) (.lst c.2)
 |[],R,T,G,k=>⟨G,Same.refl _,by simpa using k,λc hc=>nomatch hc⟩
 |c::r,R,T,G,k=>by
  have hi:(R++(c::r).map (λc=>Slot.ownA c.1 (.lst c.2))++T)[R.length]?=some (.ownA c.1 (.lst c.2)):=by simp
  obtain⟨G1,s1,k1,r1⟩:=k.freezeA hi;have e:(R++(c::r).map (λc=>Slot.ownA c.1 (.lst c.2))++T).set R.length .any=(R++[.any])++r.map (λc=>Slot.ownA c.1 (.lst c.2))++T:=by
   simp[List.set_append_right]
  rw[e]at k1;obtain⟨G2,s2,k2,r2⟩:=Ok.freezeN r (R++[.any]) T G1 k1;refine⟨G2,s1.trans s2,?_,λd hd=>?_⟩
  ·have e2:(R++[Slot.any])++Wad r.length Slot.any++T=R++Wad (c::r).length Slot.any++T:=by
    rw[Wap,Wcv];simp
   rw[e2]at k2;exact k2
  ·rcases Wan.mp hd with e|hd
   ·subst e;exact r1.mono s2
   ·exact r2 d hd
theorem Ok.thaw {g:Gm}{G H:Hp}{σ:St}{cs:List (Addr × List D)}{R T:Evt}{i:Nat}(k:Ok K g G H σ (R++cs.map (λc=>Slot.ownA c.1 (.lst c.2))++T)) (hi:R[i]?=some (.val (.lst (cs.map λc=>D.adr c.1)))) :
  ∃G',Same G G' /\ Ok K g G' H σ (R.set i (.val (.lst (cs.map λc=>D.lst c.2)))++Wad cs.length .any++T):=by
 have hlt:i<R.length:=(Wae.mp hi).1;obtain⟨v,h1,h2⟩:=k.val i _ (by rw[Wa6,Wa8 hlt];exact hi);obtain⟨G1,s1,k1,r1⟩:=Ok.freezeN cs R T G k;refine⟨G1,s1,?_⟩;have rr:Rep K G1 v (.lst (cs.map λc=>D.lst c.2)):=by
  cases h2 with
  |lst ha rs=>
   refine .lst (s1 _ _ ha) ?_;have key:∀(l:List (Addr × List D)) (vs:List V),(∀c∈l,Rep K G1 (.ref c.1) (.lst c.2))->Reps K G vs (l.map λc=>D.adr c.1)->Reps K G1 vs (l.map λc=>D.lst c.2):=by
    intro l
    induction l with
    |nil=>intro vs _ h;cases h;exact .nil
    |cons c r ih=>
     intro vs hc h;cases h with
     |cons h1 h2=>
      cases h1;exact .cons (hc c Waw) (ih _ (λd hd=>hc d (Wav _ hd)) h2)
   exact key cs _ r1 rs
 have k2:=k1.setVal' i rr;have e1:σ.set i (some v) = σ:=by
  apply Wb9;intro j;by_cases hj:j=i
  ·subst hj;rw[Waq (by obtain⟨z,_⟩:=Wae.mp h1;exact z),h1]
  ·rw[Was (Ne.symm hj)]
 rw[e1]at k2;have e2:(R++Wad cs.length Slot.any++T).set i (.val (.lst (cs.map λc=>D.lst c.2)))=R.set i (.val (.lst (cs.map λc=>D.lst c.2)))++Wad cs.length Slot.any++T:=by
  rw[Wa6,Wa6,List.set_append_left _ _ hlt]
 rw[e2]at k2;exact k2
end
section
variable {X:Cx}(K:W.Frag)
theorem ixK (hu:X.A.units+1<cLine) (hK:X.K=K:=by rfl):IxR X (rIxU K):=hK ▸ ixU hu
theorem slK (hK:X.K=K:=by rfl):SlR X (rSlU K):=hK ▸ slU
theorem addK (hK:X.K=K:=by rfl):OpR X (binaryOp .Add) (rAddU K):=hK ▸ Zp9
theorem lenK (hK:X.K=K:=by rfl):CallR X (.builtin "len") (rLenU K):=hK ▸ Zm8
def rTup (K:W.Frag):List V->Hp->VK->Prop:=λxs H Q=>∃p ys,xs=[.ref p]/\((SqL K H p ys/\∀l,H l=none->Q (.ref l) (upd H l (.tup ys)))\/(SqT K H p ys/\Q (.ref p) H))
theorem tupK (hK:X.K=K:=by rfl):CallR X (.type "tuple") (rTup K):=hK ▸ Zhf
def rLst (K:W.Frag):List V->Hp->VK->Prop:=λxs H Q=>∃p ys,xs=[.ref p]/\(SqL K H p ys\/SqT K H p ys)/\∀l,H l=none->Q (.ref l) (upd H l (.lst ys))
theorem lstK (hK:X.K=K:=by rfl):CallR X (.type "list") (rLst K):=hK ▸ Zhw
theorem idxK (hK:X.K=K:=by rfl):MtM X "tuple.index" (rIndexT K):=hK ▸ Zf1
theorem seqK {tg l:Expr}{tl:TE}(hl:PE X l tl) (hK:X.K=K:=by rfl):PI X tg l (iSeq K tl):=hK ▸ Ztx hl
theorem truK {a:Expr}{ta:TE}(ha:PE X a ta) (he:∀whole,isTrue a X.env whole=(do let v ← whole;standAt a.pos;holding [v] (truthy v))) (hK:X.K=K:=by rfl):PT X a (tTru K ta):=hK ▸ Zsf ha he
theorem gtupK {es:List Expr}{k:Nat}{t:TGs}{n:Nat}{pos:Pos}(hc:X.calm=true) (h:PGs X es t)
  (hn:(assignEach es X.env).length=n:=by rfl) (hst:(assignEach es X.env).findIdx? (·.1)=none:=by rfl) (hK:X.K=K:=by rfl):PG X (.Tuple es k pos) (gTup K n t):=hK ▸ Zsc hc h hn hst
variable {o e:Expr}{es:List Expr}{to:TE}{t:TA}{name:Str}{apos cpos:Pos}{T id:String}{r:V->List V->Hp->VK->Prop}
theorem bmK (pa:PlainAttrs T) (slot:PySem.Slot T name id) (hty:typeOf (.builtin id)=pure (.type "method_descriptor")) (hm:MtR X id r) (ho:PE X o to) (ha:PA X (e::es) t)
  (hbase:attributeBase o name X.env (eval o X.env)=eval o X.env:=by rfl)
  (hfew:((backTo cpos (starEach (e::es) X.env)).all (λx=>!x.1) && (backToKw cpos (keywordEach [] X.env)).all (λx=>x.1.isSome)
   && decide ((e::es).length+([]:List Keyword).length+(if ([]:List Keyword).isEmpty then 0 else 1)<30))=true:=by rfl)
  (hline:(apos.endLine == cpos.line)=true:=by rfl) (hs:starEach (e::es) X.env=(false,eval e X.env)::starEach es X.env:=by rfl) (hplain:(backTo cpos (starEach es X.env)).any (·.1)=false:=by rfl) (hK:X.K=K:=by rfl) :
  PE X (.Call (.Attribute o name apos) (e::es) [] cpos) (tBM K T r to t):=hK ▸ Zt5 pa slot hty hm ho ha hbase hfew hline hs hplain
end
section
variable {K:W.Frag}{Δ:Evt}{P:D->Evt->Prop}
theorem Zb8 {ds es:List D}(he:ds=[.lst es]\/ds=[.tup es]) (p:P (.tup es) Δ):JC K (rTup K) ds Δ P:=Zob he p
theorem Zlv {ds es:List D}(he:ds=[.lst es]\/ds=[.tup es]) (p:P (.lst es) Δ):JC K (rLst K) ds Δ P:=λg G H σ Q vs k rs c=>by
 rcases he with he|he <;> subst he
 ·obtain⟨_,_,rfl,r,t⟩:=rs.inv
  next=>
   cases t.inv;obtain⟨_,_,rfl,ha,rs⟩:=r.inv
   next=>
    refine⟨_,_,rfl,.inl (SqL.of (k.live _ _ ha)),λl hl=>?_⟩;obtain⟨k2,sg⟩:=k.laid hl (.lst _);exact c _ _ _ _ Δ k2 sg (.lst Zam (rs.mono sg)) p
 ·obtain⟨_,_,rfl,r,t⟩:=rs.inv
  next=>
   cases t.inv;obtain⟨_,_,rfl,ha,rs⟩:=r.inv
   next=>
    refine⟨_,_,rfl,.inr (SqT.of (k.live _ _ ha)),λl hl=>?_⟩;obtain⟨k2,sg⟩:=k.laid hl (.lst _);exact c _ _ _ _ Δ k2 sg (.lst Zam (rs.mono sg)) p
theorem Zo6 {sel:List Nat}{wi:TI}{tc:TT}{te:TE}{Po:List OD->Evt->Prop}(hsel:sel.Nodup)
  (h:JI K wi Δ λds Δ1=>ds.length<sizeLine/\∃(p:D->Bool) (f:D->OD),
   (∀(i:Nat) d,ds[i]?=some d->JT K tc (.val d::fixD sel Δ1) λb Δ4=>b=p d/\if b=true then JO K te Δ4 λe Δ5=>e=f d/\∃x,Δ5=x::fixD sel Δ1 else ∃x,Δ4=x::fixD sel Δ1) ∧
   Po ((ds.filter p).map f) Δ1):JN K (tComp 1 sel wi (gName 0) tc te) Δ Po:=by
 refine Zqu hsel λg G H σ R k c=>h g G H σ R k λJ ds G' H' Δ' k' s' it ⟨z,p,f,ht,he⟩=>c J ds G' H' Δ' k' s' it ⟨z,λi ys Δ=>ys=((ds.take i).filter p).map f/\∃x,Δ = x::fixD sel Δ',⟨by simp,.any,rfl⟩,?_,?_⟩
 ·rintro i d ys Δ2 hd ⟨rfl,x,rfl⟩
  have tk:ds.take (i+1)=ds.take i++[d]:=by
   rw[Wbp,hd];rfl
  refine Zfg (by decide) ?_;intro g G H σ Q k c;refine ht i d hd g G H σ Q k λb G1 H1 Δ1 k1 s1 ⟨e1,q⟩=>c b G1 H1 Δ1 k1 s1 ?_;cases b with
  |true=>
   rw[if_pos rfl]at q ⊢;intro g G H σ Q k c;refine q g G H σ Q k λa od G2 H2 Δ2 k2 s2 pd ⟨e2,x,e3⟩=>c a od G2 H2 Δ2 k2 s2 pd ⟨?_,x,e3⟩;rw[tk,Wbx,Wax,Wbv,<- e1,e2];rfl
  |false=>
   rw[if_neg Waj]at q ⊢;obtain⟨x,e3⟩:=q;refine⟨?_,x,e3⟩;rw[tk,Wbx,Wax,Wbv,<- e1];simp
 ·rintro ys Δ2 ⟨rfl,x,rfl⟩
  rw[Wbn,show (x::fixD sel Δ')=[x]++fixD sel Δ' from rfl,Zdp (by simp)];exact he
end
def fLaw:DSp:=λds Post=>∃ns:List Int,ds=[.scr (ns.map .int)]/\ns.length<=63/\Post (.bl true)
def spLaw (K:W.Frag):Sp:=λvs H Q _=>∃(a:Addr) (ns:List Int),vs=[.ref a]/\SqL K H a (ns.map V.int)/\ns.length<=63/\∀H',Q (.bl true) H'
theorem Zn2 {K:W.Frag}{vs:List V}{H:Hp}{Q:VK}{E:XK}(h:spLaw K vs H Q E):spD K fLaw vs H Q E:=by
 obtain⟨a,ns,rfl,hs,hl,q⟩:=h;refine⟨H,[.scr (ns.map .int)],λd=>d=.bl true,Same.refl _,.cons (.scr hs (Reps.ofInts ns)) .nil,⟨ns,rfl,hl,rfl⟩,λr H' d sh rr e=>?_⟩;subst e;cases rr.inv;exact q H'
theorem walk_law {l:PySem.W.OpenLaw}{q:Program}{loose:List Str}{XP:(Str->Option Value)->Heap->Prop}{YP:World->Heap->Prop}{d:DefRec}{K:Params->W.Frag}{k:Nat}{x:Str}(hk:Room k callerA) (hn:l.most=some 63) (hdf:d.params.defaults=[])
  (hY:∀(w:World) (h:Heap),YP w h->(K w.params).In h)
  (F:∀(w:World) (mg:Str->Option Value) (fa:Addr) (h:Heap),(K w.params).In h->h.Ns mainGlobals mg->mg d.name=some (.ref fa) →
   ∃fd:FuncData,(∀(s:Shared) (u:Value),BindsTo s fd ⟨[u],[]⟩ [(x,u)])/\∀base:Heap,(K w.params).In base->base.Ns mainGlobals mg->FnOk l.prog w (K w.params) mg base CX0 k fa fd [x] (spD (K w.params) fLaw)) :
  PySem.W.WalkO q loose XP YP l.row.toRowW d [] (λf vs=>PySem.call f vs):=
 L2.walk_of (n:=63) (k:=k) (x:=x) (CX:=λ_=>CX0) (sp:=λw=>spLaw (K w.params)) hn (by decide) hdf hk hY
  (λw mg fa h h1 h2 h3=>by
   obtain⟨fd,b,f⟩:=F w mg fa h h1 h2 h3;exact⟨fd,b,λbase kb nb=>(f base kb nb).imp λvs H Q E z=>Zn2 z⟩)
  (λ_ _ a ns hl _ hS=>⟨a,ns,rfl,hS,hl,λ_=>rfl⟩) λ_ _ _ _ _ z=>z
def SqB (b:Bool) (K:W.Frag) (H:Hp) (a:Addr) (xs:List V):Prop:=match b with|true=>SqT K H a xs|false=>SqL K H a xs
def ItB (b:Bool) (h:Heap) (j a:Addr) (i:Nat):Prop:=match b with|true=>h.IsTupleIter j a i|false=>h.IsListIter j a i
def HsB (b:Bool) (h:Heap) (a:Addr) (ws:Array Value):Prop:=match b with|true=>h.IsTuple a ws|false=>h.IsList a ws
theorem ItB.at {b:Bool}{h h':Heap}{j a:Addr}{i:Nat}(x:ItB b h j a i) (e:∀o,h.get? j=some o->h'.get? j=some o):ItB b h' j a i:=by
 cases b
 ·exact Heap.IsListIter.at (show h.IsListIter j a i from x) e
 ·exact Heap.IsTupleIter.at (show h.IsTupleIter j a i from x) e
theorem ItB.off {b:Bool}{h h':Heap}{j a c:Addr}{i:Nat}(x:ItB b h j a i) (e:Heap.ExtBut c h h') (n:j≠c):ItB b h' j a i:=x.at λo q=>e j o n q
theorem ItB.obj {b:Bool}{h:Heap}{j a:Addr}{i:Nat}(x:ItB b h j a i):∃o,h.get? j=some o/\o.data=.fields #[.ref a,.int i 0]:=by
 cases b <;> (obtain⟨o,e,_,d⟩:=x;exact⟨o,e,d⟩)
theorem HsB.off {b:Bool}{h h':Heap}{a c:Addr}{ws:Array Value}(x:HsB b h a ws) (e:Heap.ExtBut c h h') (n:a≠c):HsB b h' a ws:=by
 cases b <;> (obtain⟨o,q,r⟩:=x;exact⟨o,e a o n q,r⟩)
theorem HsB.lt {b:Bool}{h:Heap}{a:Addr}{ws:Array Value}(x:HsB b h a ws):a<h.objs.size:=by
 cases b <;> (obtain⟨o,q,r⟩:=x;exact War q)
theorem Inv.seqB {X:Cx}{pins:List (Addr × Obj)}{σ:St}{H:Hp}{s:Shared}{b:Bool}{a:Addr}{xs:List V}(I:Inv X pins σ H s) (h:SqB b X.K H a xs):∃its:List Value,Vals xs its/\HsB b s.heap a its.toArray:=by
 cases b
 ·obtain⟨its,r,p,_⟩:=I.list h
  exact⟨its,r,p.isList⟩
 ·obtain⟨its,r,p,_⟩:=I.tuple h
  exact⟨its,r,p⟩
theorem Inv.seqB_inj {X:Cx}{pins:List (Addr × Obj)}{σ:St}{H:Hp}{s:Shared}{b:Bool}{a:Addr}{xs ys:List V}(I:Inv X pins σ H s) (h:SqB b X.K H a xs) (h':SqB b X.K H a ys):xs=ys:=by
 cases b
 ·exact I.list_inj h h'
 ·exact I.tuple_inj h h'
section
variable {prog:Program}{w:World}{A:Around}{E:Value->Shared->Prop}{s:Shared}
theorem Zgs {b:Bool}{j a:Addr}{i:Nat}{ws:Array Value}{x:Value}{Q:Value->Shared->Prop}(g:ItB b s.heap j a i) (l:HsB b s.heap a ws) (e:ws[i]?=some x)
  (q:∀h',ItB b h' j a (i+1)->Heap.SameBut j s.heap h' -> Q x { s with heap:=h' }):wpAny (model prog w) A (Builtin.SmallTypes.nextOf (.ref j)) Q E s:=by
 cases b
 ·exact wpAny_nextOf_list_item g l e q
 ·obtain⟨o,g1,g2,g3⟩:=id g
  obtain⟨u,l1,_,n,l2⟩:=l;have ty:s.TypeIs (.ref j) "tuple_iterator":=⟨o,g1,g2⟩;unfold Builtin.SmallTypes.nextOf;refine wpAny_bind (wpAny_callSpecial?_slot (name:=Str.ofString "__next__") ty F.slot_tuple_iterator_next (wpAny_call_entry F.slot_tuple_iterator_next ty F.entry_tuple_iterator_next ?_ (F.args_tuple_iterator_next_1 _)));refine(show wpAny _ _ (field (.ref j) 0 >>= _) _ _ s from wpAny_bind (wpAny_field g1 g3 (x:=.ref a) rfl ?_));refine(show wpAny _ _ (if (Value.ref a == Value.none)=true then _ else _) _ _ s from ?_);rw[if_neg (by exact Waj)];refine(show wpAny _ _ (field (.ref j) 1 >>= _) _ _ s from wpAny_bind (wpAny_field g1 g3 (x:=.int i 0) rfl ?_));refine(show wpAny _ _ (seqItems? (.ref a) >>= _) _ _ s from wpAny_bind (wpAny_seqItems l1 l2 ?_));simp only[Wa7,e];refine wpAny_bind (wpAny_setField g1 g3 (by simp) (wpAny_pure ⟨x,rfl,wpAny_pure (q _ ⟨_,Wcg _ g1 (Obj.isFreed_of_fields (Obj.data_mapFields g3 _)),(Obj.cls_mapFields ..).trans g2,?_⟩ (Heap.SameBut.update ..))⟩));rw[Obj.data_mapFields g3];simp[rawInt]
theorem Znd {b:Bool}{j a:Addr}{i:Nat}{ws:Array Value}{Q:Value->Shared->Prop}(hh:A.handled=none) (g:ItB b s.heap j a i) (l:HsB b s.heap a ws) (e:ws[i]?=none)
  (q:∀h' x,Heap.ExtBut j s.heap h' -> (∃o,h'.get? x=some o/\o.cls=.type "StopIteration")->E (.ref x) { s with heap:=h' }):wpAny (model prog w) A (Builtin.SmallTypes.nextOf (.ref j)) Q E s:=by
 cases b
 ·exact wpAny_nextOf_list_end hh g l e q
 ·obtain⟨o,g1,g2,g3⟩:=id g
  obtain⟨u,l1,_,n,l2⟩:=l;have ty:s.TypeIs (.ref j) "tuple_iterator":=⟨o,g1,g2⟩;unfold Builtin.SmallTypes.nextOf;refine wpAny_bind (wpAny_callSpecial?_slot (name:=Str.ofString "__next__") ty F.slot_tuple_iterator_next (wpAny_call_entry F.slot_tuple_iterator_next ty F.entry_tuple_iterator_next ?_ (F.args_tuple_iterator_next_1 _)));refine(show wpAny _ _ (field (.ref j) 0 >>= _) _ _ s from wpAny_bind (wpAny_field g1 g3 (x:=.ref a) rfl ?_));refine(show wpAny _ _ (if (Value.ref a == Value.none)=true then _ else _) _ _ s from ?_);rw[if_neg (by exact Waj)];refine(show wpAny _ _ (field (.ref j) 1 >>= _) _ _ s from wpAny_bind (wpAny_field g1 g3 (x:=.int i 0) rfl ?_));refine(show wpAny _ _ (seqItems? (.ref a) >>= _) _ _ s from wpAny_bind (wpAny_seqItems l1 l2 ?_));simp only[Wa7,e];refine wpAny_bind (wpAny_rule (wpAny_bind (wpAny_setField g1 g3 (by simp) (show wpAny _ _ (newExc (.type "StopIteration") [] >>= _) _ _ _ from wpAny_bind ?_))));simp only[newExc,newTuple];refine wpAny_bind (wpAny_newObj_type (wpAny_bind (m:=firstArgMember _ _) (wpAny_of_eq (a:=Value.none) (by first|rfl|(simp only[firstArgMember];rfl)) (wpAny_newObj_type ?_ (by size_fits)))) (by size_fits));simp only[raiseNew];refine wpAny_bind (wpAny_handled ?_)
  first|rw[show A.in1.handled=none from hh]|rw[hh]
  exact wpAny_bind (wpAny_pure (wpAny_throw (q _ _ (((Heap.SameBut.update ..).extBut.push _).push _) ⟨_,Wao _ rfl,rfl⟩)))
theorem Zqe {b c:Bool}{z U O j1 j2 a1 a2:Addr}{k1 k2:Nat}{vs us:Array Value}{x y p r:Value}{Q:Option Value->Shared->Prop}(D:ZipApart z U O j1 j2 a1 a2)
  (gz:IsZip s.heap z U O .none) (gU:IsPair s.heap U (.ref j1) (.ref j2)) (gO:IsPair s.heap O p r) (g1:ItB b s.heap j1 a1 k1) (g2:ItB c s.heap j2 a2 k2) (l1:HsB b s.heap a1 vs) (l2:HsB c s.heap a2 us) (ex:vs[k1]?=some x) (ey:us[k2]?=some y)
  (q:∀h',IsZip h' z U O (rawInt s.heap.objs.size)->IsPair h' O x y->ItB b h' j1 a1 (k1+1)->ItB c h' j2 a2 (k2+1)->IsPair h' s.heap.objs.size x y->h'.objs.size=s.heap.objs.size+1 →
   (∀d o,d≠z->d≠O->d≠j1->d≠j2->s.heap.get? d=some o->h'.get? d=some o)->Q (some (.ref s.heap.objs.size)) { s with heap:=h' }):wpAny (model prog w) A (pyNext (.ref z)) Q E s:=by
 have ty:s.TypeIs (.ref z) "zip":=⟨_,gz,rfl⟩;unfold pyNext;refine wpAny_bind (wpAny_attempt (wpAny_callSpecial?_slot (name:=Str.ofString "__next__") ty F.slot_zip_next (wpAny_call_entry F.slot_zip_next ty F.entry_zip_next ?_ (F.args_zip_next_1 _))));refine(show wpAny _ _ (field (.ref z) 2 >>= _) _ _ _ from wpAny_bind (wpAny_field gz rfl (x:=.bool false) rfl ?_));refine(show wpAny _ _ (field (.ref z) 3 >>= _) _ _ _ from wpAny_bind (wpAny_field gz rfl (x:=.ref U) rfl (wpAny_bind (wpAny_seqItems gU rfl ?_))));refine(show wpAny _ _ (Builtin.SmallTypes.ownedTupleIsFree (.ref z) >>= _) _ _ _ from wpAny_bind ?_);unfold Builtin.SmallTypes.ownedTupleIsFree;refine wpAny_bind (wpAny_field gz rfl (x:=.none) rfl (wpAny_pure ?_));simp only[if_true];refine wpAny_bind (wpAny_rule (wpAny_bind (wpAny_field gz rfl (x:=.ref O) rfl (wpAny_bind (wpAny_setField_rec gz (by simp) λh₁ z₁ s₁=>wpAny_bind ?_)))))
 replace z₁:IsZip h₁ z U O .ellipsis:=z₁
 simp only[List.zipIdx_cons,List.zipIdx_nil,List.forIn_cons,List.forIn_nil];refine wpAny_bind (wpAny_bind (wpAny_onRaise (show wpAny _ _ (Builtin.SmallTypes.nextOf (.ref j1) >>= _) _ _ _ from wpAny_bind (Zgs (g1.off s₁.extBut D.i1z) (l1.off s₁.extBut D.l1z) ex λh₂ g₂ s₂=>wpAny_pure ?_))));have o₂:IsPair h₂ O p r:=s₂.extBut _ _ D.TOi1 (s₁.extBut _ _ D.TOz gO);refine wpAny_bind (wpAny_seqItems o₂ rfl (wpAny_bind (wpAny_updateSeq_pair o₂ λh₃ o₃ s₃=>wpAny_bind (wpAny_letGo (wpAny_pure ?_)))))
 replace o₃:IsPair h₃ O x r:=o₃
 refine wpAny_bind (wpAny_bind (wpAny_onRaise (show wpAny _ _ (Builtin.SmallTypes.nextOf (.ref j2) >>= _) _ _ _ from wpAny_bind (Zgs (((g2.off s₁.extBut D.i2z).off s₂.extBut D.i12.symm).off s₃.extBut D.TOi2.symm) (((l2.off s₁.extBut D.l2z).off s₂.extBut D.l2i1).off s₃.extBut D.l2TO) ey λh₄ g₄ s₄=>wpAny_pure ?_))));have o₄:IsPair h₄ O x r:=s₄.extBut _ _ D.TOi2 o₃;refine wpAny_bind (wpAny_seqItems o₄ rfl (wpAny_bind (wpAny_updateSeq_pair o₄ λh₅ o₅ s₅=>wpAny_bind (wpAny_letGo (wpAny_pure (wpAny_pure ?_))))))
 replace o₅:IsPair h₅ O x y:=o₅
 refine wpAny_bind (wpAny_seqItems o₅ rfl (wpAny_bind (wpAny_newTuple ?_)));have n5:h₅.objs.size=s.heap.objs.size:=by rw[s₅.1,s₄.1,s₃.1,s₂.1,s₁.1]
 have z₅:IsZip h₅ z U O .ellipsis:=s₅.extBut _ _ D.TOz.symm (s₄.extBut _ _ D.i2z.symm (s₃.extBut _ _ D.TOz.symm (s₂.extBut _ _ D.i1z.symm z₁)));have old:∀d o,d≠z->d≠O->d≠j1->d≠j2->s.heap.get? d=some o->h₅.get? d=some o:=λd o c1 c2 c3 c4 e=>s₅.extBut _ _ c2 (s₄.extBut _ _ c4 (s₃.extBut _ _ c2 (s₂.extBut _ _ c3 (s₁.extBut _ _ c1 e))));have t1:ItB b h₅ j1 a1 (k1+1):=((g₂.off s₃.extBut D.TOi1.symm).off s₄.extBut D.i12).off s₅.extBut D.TOi1.symm;have t2:ItB c h₅ j2 a2 (k2+1):=g₄.off s₅.extBut D.TOi2.symm;have zl:z<h₅.objs.size:=War z₅;refine(show wpAny _ _ (Builtin.SmallTypes.ownedTupleHandOut (.ref z) (.ref h₅.objs.size) >>= _) _ _ _ from wpAny_bind ?_);unfold Builtin.SmallTypes.ownedTupleHandOut;have z₆:IsZip (h₅.push { cls:=.type "tuple",data:=.seq #[x,y] }) z U O .ellipsis:=Wac _ z₅;refine wpAny_bind (wpAny_setField_rec z₆ (by simp) λh₇ z₇ s₇=>?_)
 replace z₇:IsZip h₇ z U O (rawInt h₅.objs.size):=z₇
 refine wpAny_setField_rec z₇ (by simp) λh₈ z₈ s₈=>?_
 replace z₈:IsZip h₈ z U O (rawInt h₅.objs.size):=z₈
 have up:∀d o,d≠z->h₅.get? d=some o->h₈.get? d=some o:=λd o c1 e=>s₈.extBut _ _ c1 (s₇.extBut _ _ c1 (Wac _ e));have new8:IsPair h₈ h₅.objs.size x y:=s₈.extBut _ _ (Wdh zl) (s₇.extBut _ _ (Wdh zl) (Wao _ rfl));have n8:h₈.objs.size=h₅.objs.size+1:=by rw[s₈.1,s₇.1,Wch]
 rw[n5]at z₈ new8 n8;refine wpAny_pure ⟨_,rfl,wpAny_pure ?_⟩;refine(show Q (some (.ref h₅.objs.size)) _ from ?_);rw[n5];exact q h₈ z₈ (up _ _ D.TOz o₅) (t1.at λo e=>up _ o D.i1z e) (t2.at λo e=>up _ o D.i2z e) new8 n8 λd o c1 c2 c3 c4 e=>up d o c1 (old d o c1 c2 c3 c4 e)
theorem Zsd {b c:Bool}{z U O j1 j2 a1 a2:Addr}{k1 k2:Nat}{vs us:Array Value}{p r:Value}{Q:Option Value->Shared->Prop}(hh:A.handled=none) (D:ZipApart z U O j1 j2 a1 a2)
  (gz:IsZip s.heap z U O .none) (gU:IsPair s.heap U (.ref j1) (.ref j2)) (gO:IsPair s.heap O p r) (g1:ItB b s.heap j1 a1 k1) (g2:ItB c s.heap j2 a2 k2) (l1:HsB b s.heap a1 vs) (l2:HsB c s.heap a2 us) (e:vs[k1]?=none\/us[k2]?=none)
  (q:∀h',(∀d o,d≠z->d≠O->d≠j1->d≠j2->s.heap.get? d=some o->h'.get? d=some o)->Q none { s with heap:=h' }):wpAny (model prog w) A (pyNext (.ref z)) Q E s:=by
 have ty:s.TypeIs (.ref z) "zip":=⟨_,gz,rfl⟩;have fin:∀{h':Heap}{x:Addr},(∀d o,d≠z->d≠O->d≠j1->d≠j2->s.heap.get? d=some o->h'.get? d=some o)->(∃o,h'.get? x=some o/\o.cls=.type "StopIteration")->wpAny (model prog w) A (do if (← isInstance (.ref x) (.type "StopIteration")) then pure none else throw (.ref x)) Q E { s with heap:=h' }:=λ{h' x} hk ⟨o,ho,hc⟩=>by
  refine wpAny_bind (wpAny_isInstance (T:="StopIteration") (b:=true) ⟨o,ho,hc⟩ isSubtype_stop ?_);exact wpAny_pure (q _ hk)
 unfold pyNext;refine wpAny_bind (wpAny_attempt (wpAny_callSpecial?_slot (name:=Str.ofString "__next__") ty F.slot_zip_next (wpAny_call_entry F.slot_zip_next ty F.entry_zip_next ?_ (F.args_zip_next_1 _))));refine(show wpAny _ _ (field (.ref z) 2 >>= _) _ _ _ from wpAny_bind (wpAny_field gz rfl (x:=.bool false) rfl ?_));refine(show wpAny _ _ (field (.ref z) 3 >>= _) _ _ _ from wpAny_bind (wpAny_field gz rfl (x:=.ref U) rfl (wpAny_bind (wpAny_seqItems gU rfl ?_))));refine(show wpAny _ _ (Builtin.SmallTypes.ownedTupleIsFree (.ref z) >>= _) _ _ _ from wpAny_bind ?_);unfold Builtin.SmallTypes.ownedTupleIsFree;refine wpAny_bind (wpAny_field gz rfl (x:=.none) rfl (wpAny_pure ?_));simp only[if_true];refine wpAny_bind (wpAny_rule (wpAny_bind (wpAny_field gz rfl (x:=.ref O) rfl (wpAny_bind (wpAny_setField_rec gz (by simp) λh₁ z₁ s₁=>wpAny_bind ?_)))))
 replace z₁:IsZip h₁ z U O .ellipsis:=z₁
 simp only[List.zipIdx_cons,List.zipIdx_nil,List.forIn_cons,List.forIn_nil];refine wpAny_bind (wpAny_bind (wpAny_onRaise (show wpAny _ _ (Builtin.SmallTypes.nextOf (.ref j1) >>= _) _ _ _ from ?_)));cases ex:vs[k1]? with
 |none=>
  refine wpAny_bind (Znd hh (g1.off s₁.extBut D.i1z) (l1.off s₁.extBut D.l1z) ex λh₂ y s₂ ⟨u,u1,u2⟩=>?_);have z₂:IsZip h₂ z U O .ellipsis:=s₂ _ _ D.i1z.symm z₁;have yz:y≠z:=λx=>by subst x;rw[z₂]at u1;cases u1;simp at u2
  exact wpAny_setField_rec z₂ (by simp) λh₃ _ s₃=>fin (λd o c1 _ c3 _ x=>s₃.extBut _ _ c1 (s₂ _ _ c3 (s₁.extBut _ _ c1 x))) ⟨u,s₃.extBut _ _ yz u1,u2⟩
 |some x=>
  have ey:us[k2]?=none:=by rcases e with h|h;rw[ex]at h;cases h;exact h
  refine wpAny_bind (Zgs (g1.off s₁.extBut D.i1z) (l1.off s₁.extBut D.l1z) ex λh₂ g₂ s₂=>wpAny_pure ?_);have o₂:IsPair h₂ O p r:=s₂.extBut _ _ D.TOi1 (s₁.extBut _ _ D.TOz gO);refine wpAny_bind (wpAny_seqItems o₂ rfl (wpAny_bind (wpAny_updateSeq_pair o₂ λh₃ o₃ s₃=>wpAny_bind (wpAny_letGo (wpAny_pure ?_)))));refine wpAny_bind (wpAny_bind (wpAny_onRaise (show wpAny _ _ (Builtin.SmallTypes.nextOf (.ref j2) >>= _) _ _ _ from ?_)));refine wpAny_bind (Znd hh (((g2.off s₁.extBut D.i2z).off s₂.extBut D.i12.symm).off s₃.extBut D.TOi2.symm) (((l2.off s₁.extBut D.l2z).off s₂.extBut D.l2i1).off s₃.extBut D.l2TO) ey λh₄ y s₄ ⟨u,u1,u2⟩=>?_);have z₄:IsZip h₄ z U O .ellipsis:=s₄ _ _ D.i2z.symm (s₃.extBut _ _ D.TOz.symm (s₂.extBut _ _ D.i1z.symm z₁));have yz:y≠z:=λx=>by subst x;rw[z₄]at u1;cases u1;simp at u2
  exact wpAny_setField_rec z₄ (by simp) λh₅ _ s₅=>fin (λd o c1 c2 c3 c4 x=>s₅.extBut _ _ c1 (s₄ _ _ c4 (s₃.extBut _ _ c2 (s₂.extBut _ _ c3 (s₁.extBut _ _ c1 x))))) ⟨u,s₅.extBut _ _ yz u1,u2⟩
end
section
abbrev zt1 (h:Heap) (a:Addr):Heap:=h.push ⟨.type "tuple_iterator",none,.fields #[.ref a,.int 0 0],#[]⟩
abbrev zt2 (h:Heap) (a c:Addr):Heap:=(zt1 h a).push ⟨.type "tuple_iterator",none,.fields #[.ref c,.int 0 0],#[]⟩
abbrev zt3 (h:Heap) (a c:Addr):Heap:=(zt2 h a c).push ⟨.type "tuple",none,.seq #[.ref h.objs.size,.ref (zt1 h a).objs.size],#[]⟩
abbrev zt4 (h:Heap) (a c:Addr):Heap:=(zt3 h a c).push ⟨.type "tuple",none,.seq #[.none,.none],#[]⟩
abbrev zt5 (h:Heap) (a c:Addr):Heap:=(zt4 h a c).push ⟨.type "zip",none,.fields #[.none,.bool false,.bool false,.ref (zt2 h a c).objs.size,.ref (zt3 h a c).objs.size],#[]⟩
theorem Zog (a c:Addr) (vs us:Array Value) :
  Meets (Builtin.«zip.__new__» ⟨[.type "zip",.ref a,.ref c],[]⟩) (λ_ R s=>s.heap.IsTuple a vs/\s.heap.IsTuple c us/\R (.ok (.ret (.ref (zt4 s.heap a c).objs.size))) { s with heap:=zt5 s.heap a c }):=.of_wp λprog w A R s h=>by
 obtain⟨hp,g,d,tk,os⟩:=s;obtain⟨u1,u2,h⟩:=h;have sub0:=sub_zip;have v1:Heap.IsTuple (Shared.heap ⟨hp,g,d,tk,os⟩) a vs:=u1;have v2:Heap.IsTuple (Shared.heap ⟨hp.push { cls:=.type "tuple_iterator",data:=.fields #[.ref a,.int 0 0] },g,d,tk,os⟩) c us:=Heap.IsTuple.push u2 _
 wp_walk using wpAny_pyIter_tuple v1,wpAny_pyIter_tuple v2
 exact⟨_,rfl,h⟩
variable {prog:Program}{w:World}{A:Around}{E:Value->Shared->Prop}{s:Shared}
theorem Zrv {b:Bool}{a c:Addr}{vs us:Array Value}{Q:Value->Shared->Prop}(l1:HsB b s.heap a vs) (l2:HsB b s.heap c us)
  (q:∀h',IsZip h' (s.heap.objs.size+4) (s.heap.objs.size+2) (s.heap.objs.size+3) .none->IsPair h' (s.heap.objs.size+2) (.ref s.heap.objs.size) (.ref (s.heap.objs.size+1))->IsPair h' (s.heap.objs.size+3) .none .none →
   ItB b h' s.heap.objs.size a 0->ItB b h' (s.heap.objs.size+1) c 0->(∀d o,s.heap.get? d=some o->h'.get? d=some o)->Q (.ref (s.heap.objs.size+4)) { s with heap:=h' }):wpAny (model prog w) A (call (.type "zip") [.ref a,.ref c]) Q E s:=by
 cases b
 ·exact call_zip_2 l1 l2 λh' b1 b2 b3 b4 b5 b6 hk=>q h' b1 b2 b3 b4 b5 hk
 ·refine callType_new F.called_zip (by decide) (F.typeCall_zip_2 _ _) (F.newCall_zip_2 _ _) (λobj=>F.args_object_init_3 obj _ _) F.entry_zip_new (Zog a c vs us) ⟨l1,l2,?_⟩
  have z1:(zt1 s.heap a).objs.size=s.heap.objs.size+1:=Wch ..;have z2:(zt2 s.heap a c).objs.size=s.heap.objs.size+2:=by rw[Wch,z1]
  have z3:(zt3 s.heap a c).objs.size=s.heap.objs.size+3:=by rw[Wch,z2]
  have z4:(zt4 s.heap a c).objs.size=s.heap.objs.size+4:=by rw[Wch,z3]
  have p5:(zt5 s.heap a c).get? (zt4 s.heap a c).objs.size=some _:=Wao _ rfl;have p4:(zt5 s.heap a c).get? (zt3 s.heap a c).objs.size=some _:=Wac _ (Wao _ rfl);have p3:(zt5 s.heap a c).get? (zt2 s.heap a c).objs.size=some _:=Wac _ (Wac _ (Wao _ rfl));have p2:(zt5 s.heap a c).get? (zt1 s.heap a).objs.size=some _:=Wac _ (Wac _ (Wac _ (Wao _ rfl)));have p1:(zt5 s.heap a c).get? s.heap.objs.size=some _:=Wac _ (Wac _ (Wac _ (Wac _ (Wao _ rfl))));show _/\_;rw[z2,z3,z4]at p5;rw[z1,z2]at p3;rw[z3]at p4;rw[z1]at p2;rw[z4];exact⟨⟨_,p5,rfl⟩,q _ p5 p3 p4 ⟨_,p1,rfl,rfl⟩ ⟨_,p2,rfl,rfl⟩ λd o e=>Wac _ (Wac _ (Wac _ (Wac _ (Wac _ e))))⟩
end
def Izb (b:Bool) (K:W.Frag) (l1 l2:Addr):It:=
 ⟨λi H=>∃xs ys x y,SqB b K H l1 xs/\SqB b K H l2 ys/\xs[i]?=some x/\ys[i]?=some y,
  λi H v H'=>∃p x y,H p=none/\v=.ref p/\H'=upd H p (.tup [x,y])/\∀xs ys,SqB b K H l1 xs->SqB b K H l2 ys->xs[i]?=some x/\ys[i]?=some y,
  λi H=>∃xs ys,SqB b K H l1 xs/\SqB b K H l2 ys/\(xs.length<=i\/ys.length<=i)⟩
theorem Zqk {b:Bool}{P:Program}{w:World}{K:W.Frag}{es:List Expr}{kk:Nat}{tp:Pos}(l1 l2 z TI TO i1 i2:Addr) (D:ZipApart z TI TO i1 i2 l1 l2):Turn P w K (.Tuple es kk tp) (Izb b K l1 l2) [z,TI,TO,i1,i2] z
  (λi h=>IsZip h z TI TO .none/\IsPair h TI (.ref i1) (.ref i2)/\(∃a b,IsPair h TO a b)/\ItB b h i1 l1 i/\ItB b h i2 l2 i) where
 mem:=by simp
 obj:=λi h st b2 hb=>by
  obtain⟨hz,hTI,⟨a,b',hTO⟩,h1,h2⟩:=st;obtain⟨o1,e1,d1⟩:=h1.obj;obtain⟨o2,e2,d2⟩:=h2.obj;simp only[Wan,Wbu,or_false]at hb;rcases hb with rfl|rfl|rfl|rfl|rfl
  ·exact⟨_,hz,λv q=>by cases q⟩
  ·exact⟨_,hTI,λv q=>by cases q⟩
  ·exact⟨_,hTO,λv q=>by cases q⟩
  ·exact⟨o1,e1,λv q=>by rw[d1]at q;cases q⟩
  ·exact⟨o2,e2,λv q=>by rw[d2]at q;cases q⟩
 keep:=λi h h' st k=>by
  obtain⟨hz,hTI,⟨a,b',hTO⟩,h1,h2⟩:=st;exact⟨k z (by simp) _ hz,k TI (by simp) _ hTI,⟨a,b',k TO (by simp) _ hTO⟩,h1.at λo e=>k i1 (by simp) o e,h2.at λo e=>k i2 (by simp) o e⟩
 item:=by
  intro X hP hw hK hc i pins s σ H E I hf st hg;subst hP hw hK;obtain⟨hz,hTI,⟨a,b',hTO⟩,h1,h2⟩:=st;obtain⟨xs,ys,x,y,hq1,hq2,hx,hy⟩:=hg;obtain⟨its1,r1,p1⟩:=I.seqB hq1;obtain⟨its2,r2,p2⟩:=I.seqB hq2;obtain⟨u1,hu1,ru1⟩:=r1.get hx;obtain⟨u2,hu2,ru2⟩:=r2.get hy;refine Zqe D hz hTI hTO h1 h2 p1 p2 (x:=u1) (y:=u2) (by simpa using hu1) (by simpa using hu2) λh' b1 b2 b3 b4 b5 b6 hk=>?_;refine⟨_,rfl,wpAny_letOwnedTupleGo_zip (s:={ s with heap:=h' }) b1 λh'' hz'' hs''=>?_⟩;have lt:∀{c o},s.heap.get? c=some o->c≠s.heap.objs.size:=λe=>Way (War e);have hTz:s.heap.objs.size≠z:=Ne.symm (lt hz);have hTfree:H s.heap.objs.size=none:=I.hok.fresh (Wah _);have kept:∀c o,c ∉ [z,TI,TO,i1,i2]->s.heap.get? c=some o->h''.get? c=some o:=λc o hc e=>by
   simp only[Wan,Wbu,or_false,not_or]at hc;exact hs''.extBut _ _ hc.1 (hk c o hc.1 hc.2.2.1 hc.2.2.2.1 hc.2.2.2.2 e)
  have hT:h''.get? s.heap.objs.size=some { cls:=.type "tuple",data:=.seq #[u1,u2] }:=hs''.extBut _ _ hTz b5;have ntr:∀c o,H c=some o->c ∉ [z,TI,TO,i1,i2]:=λc o e hc=>by rw[(hf c hc).1]at e;cases e
  have hok:HOk X.prog X.w (upd H s.heap.objs.size (.tup [x,y])) h'':=λc o e=>by
   by_cases hcT:c=s.heap.objs.size
   ·subst hcT
    rw[Zam]at e;cases e;exact⟨by show 2<=sizeLine;decide,[u1,u2],.cons ru1 (.cons ru2 .nil),_,hT,⟨rfl,_,rfl⟩,rfl⟩
   ·rw[Zaj hcT]at e
    refine(I.hok c o e).stay (λd v hd q=>kept d v ?_ q) (λd q=>by rw[Zaj (Zal q hTfree)];exact q) λd zs q=>by rw[Zaj (Zal q hTfree)];exact q
    rcases hd with hd|hd
    ·rw[hd];exact ntr c o e
    ·exact ntr d _ hd
  have I2:Inv X pins σ (upd H s.heap.objs.size (.tup [x,y])) { s with heap:=h'' }:=by
   refine I.call (g':=s.gens) (t':=s.toks) (d':=s.drawn) (ch:=[z,TI,TO,i1,i2]) ⟨λc o e n hc hx=>kept c o hx e,λc o e n hc hx=>⟨o.slots,kept c o hx e⟩,λc o e n hx=>by rw[Zaj (lt e)];exact n,λc o e hx=>⟨o,kept c o hx e⟩,
    λc zs q=>by rw[Zaj (Zal q hTfree)];exact q,λc o zs q=>by rw[Zaj (Zal q hTfree)];exact q,λc zs q=>⟨#[],by rw[Zaj (Zal q hTfree),q];simp⟩⟩ hok I.bare λc hcc=>?_
   obtain⟨f0,f1,f2,f3,f4,f5⟩:=hf c hcc;exact⟨f3,f1,f4,f5⟩
  refine⟨.ref s.heap.objs.size,_,I2,rfl,⟨s.heap.objs.size,x,y,hTfree,rfl,rfl,λxs' ys' q1 q2=>?_⟩,⟨hz'',hs''.extBut _ _ D.TIz (hk _ _ D.TIz D.TITO D.TIi1 D.TIi2 hTI),⟨_,_,hs''.extBut _ _ D.TOz b2⟩,b3.off hs''.extBut D.i1z,b4.off hs''.extBut D.i2z⟩,λc hcc=>?_⟩
  ·rw[I.seqB_inj q1 hq1,I.seqB_inj q2 hq2];exact⟨hx,hy⟩
  ·have hcl:c≠s.heap.objs.size:=by
    simp only[Wan,Wbu,or_false]at hcc;obtain⟨_,e1,_⟩:=h1.obj;obtain⟨_,e2,_⟩:=h2.obj;rcases hcc with rfl|rfl|rfl|rfl|rfl
    ·exact lt hz
    ·exact lt hTI
    ·exact lt hTO
    ·exact lt e1
    ·exact lt e2
   rw[Zaj hcl];exact(hf c hcc).1
 done:=by
  intro X hP hw hK hc i pins s σ H E I hf st hg;subst hP hw hK;obtain⟨hz,hTI,⟨a,b',hTO⟩,h1,h2⟩:=st;obtain⟨xs,ys,hq1,hq2,hend⟩:=hg;obtain⟨its1,r1,p1⟩:=I.seqB hq1;obtain⟨its2,r2,p2⟩:=I.seqB hq2;have l1':=r1.length;have l2':=r2.length;refine Zsd (I.ok.hd hc) D hz hTI hTO h1 h2 p1 p2 ?_ λh' hk=>⟨rfl,?_⟩
  ·rcases hend with q|q
   ·left;simp;omega
   ·right;simp;omega
  ·have kept:∀c o,c ∉ [z,TI,TO,i1,i2]->s.heap.get? c=some o->h'.get? c=some o:=λc o hc e=>by
    simp only[Wan,Wbu,or_false,not_or]at hc;exact hk c o hc.1 hc.2.2.1 hc.2.2.2.1 hc.2.2.2.2 e
   have ntr:∀c o,H c=some o->c ∉ [z,TI,TO,i1,i2]:=λc o e hc=>by rw[(hf c hc).1]at e;cases e
   refine I.call (g':=s.gens) (t':=s.toks) (d':=s.drawn) (ch:=[z,TI,TO,i1,i2]) ⟨λc o e n hc hx=>kept c o hx e,λc o e n hc hx=>⟨o.slots,kept c o hx e⟩,λc o e n hx=>n,λc o e hx=>⟨o,kept c o hx e⟩,
    λc zs q=>q,λc o zs q=>q,λc zs q=>⟨#[],by rw[q];simp⟩⟩ (λc o e=>?_) I.bare λc hcc=>?_
   ·refine(I.hok c o e).stay (λd v hd q=>kept d v ?_ q) (λd q=>q) λd zs q=>q
    rcases hd with hd|hd
    ·rw[hd];exact ntr c o e
    ·exact ntr d _ hd
   ·obtain⟨f0,f1,f2,f3,f4,f5⟩:=hf c hcc
    exact⟨f3,f1,f4,f5⟩
 self:=λ_ _ _ _ _ st h=>wpAny_pyIter_zip st.1 h
section
variable {X:Cx}
def iZip (K:W.Frag) (ta:TA):TI:=λσ H R=>ta σ H λvs H1=>∃b l1 l2,vs=[.ref l1,.ref l2]/\(∃xs,SqB b K H1 l1 xs)/\(∃ys,SqB b K H1 l2 ys)/\R (Izb b K l1 l2) H1
theorem Zso (K:W.Frag) {es:List Expr}{kk:Nat}{tp:Pos}{a b:Expr}{ta:TA}{p pos:Pos}(hg:Gl X "zip") (hm:X.mg "zip" = none) (ha:PA X [a,b] ta) (hs:starEach [a,b] X.env=[(false,eval a X.env),(false,eval b X.env)]:=by rfl) (hs2:starEach [b] X.env=[(false,eval b X.env)]:=by rfl) (hK:X.K=K:=by rfl) :
  PI X (.Tuple es kk tp) (.Call (.Name "zip" p) [a,b] [] pos) (iZip K ta):=by
 subst hK;intro pins s σ H R I h;refine Call_ (Zdu I hg hm (Zsl) (PyProof.Rows.callWith_type1 (thn (ha pos pins s σ H _ I h) λus s1 ⟨vs,H1,I1,r1,q1⟩=>?_) (by rw[hs,hs2]) (by rw[hs2];rfl)));obtain⟨b,l1,l2,e,⟨xs,hx⟩,⟨ys,hy⟩,q⟩:=q1;subst e;obtain⟨u1,u2,rfl,q1,q2⟩:=r1.two;cases (show u1=Value.ref l1 from q1);cases (show u2=Value.ref l2 from q2);obtain⟨its1,w1,p1⟩:=I1.seqB hx;obtain⟨its2,w2,p2⟩:=I1.seqB hy;have lt1:l1<s1.heap.objs.size:=p1.lt;have lt2:l2<s1.heap.objs.size:=p2.lt;refine Zrv p1 p2 λh' b1 b2 b3 b4 b5 hk=>?_;refine wpAny_pyIter_zip b1 ?_;have I2:Inv X pins σ H1 { s1 with heap:=h' }:=I1.kept (t':=s1.toks) hk;refine⟨s1.heap.objs.size+4,[s1.heap.objs.size+4,s1.heap.objs.size+2,s1.heap.objs.size+3,s1.heap.objs.size,s1.heap.objs.size+1],_,_,H1,rfl,I2,Zqk l1 l2 _ _ _ _ _ (zipApart_new lt1 lt2),⟨b1,b2,⟨_,_,b3⟩,b4,b5⟩,λb hb=>?_,q⟩;have hge:s1.heap.objs.size<=b:=by
  simp only[Wan,Wbu,or_false]at hb;rcases hb with rfl|rfl|rfl|rfl|rfl <;> omega
 exact I1.fpOk hge (I1.hok.fresh hge)
def rAll (K:W.Frag):List V->Hp->VK->Prop:=λxs H Q=>∃(p:Addr) (bs:List Bool),xs=[.ref p]/\SqL K H p (bs.map V.bl)/\Q (.bl (bs.all id)) H
theorem allK (K:W.Frag) (hc:X.calm=true) (hK:X.K=K:=by rfl):CallR X (.builtin "all") (rAll K):=by
 subst hK;intro pins s σ H xs us Q I r h;obtain⟨p,bs,rfl,hx,q⟩:=h;obtain⟨u,rfl,ru⟩:=vals1 r;cases (show u=Value.ref p from ru);obtain⟨its,w1,p1,_⟩:=I.list hx;have hlt:p<s.heap.objs.size:=by obtain⟨o,e,_⟩:=p1.isList;exact War e
 have hval:∀(bs:List Bool) (its:List Value),Vals (bs.map V.bl) its->its=bs.map Value.bool:=by
  intro bs
  induction bs with
  |nil=>intro its h;cases h;rfl
  |cons b r ih=>intro its h;cases h with|cons h1 h2=>cases (show _=Value.bool b from h1);rw[ih _ h2];rfl
 have e:=hval bs its w1;subst e;refine call_all_walk (wpAny_pyIter_list p1.isList ?_);refine⟨s.heap.objs.size,_,_,_,_,_,λi=>bs.getD i false,rfl,Walks.list (prog:=X.prog) (w:=X.w) (A:=X.A.in1) (show X.A.in1.handled=none from I.ok.hd hc) s.heap.objs.size p (Way hlt) (bs.map Value.bool).toArray,⟨⟨_,Wao _ rfl,rfl,rfl⟩,p1.isList.push _⟩,?_,λh' tk hk=>?_⟩
 ·intro i v s0 Q0 E0 hv hq
  have hv:(bs.map Value.bool).toArray[i]?=some v:=hv;have hv:(bs.map Value.bool)[i]?=some v:=by simpa using hv
  rw[Wag]at hv;cases z:bs[i]? with
  |none=>rw[z]at hv;cases hv
  |some b=>
   rw[z]at hv;have hv:Value.bool b=v:=by simpa using hv
   subst hv;have e0:bs.getD i false=b:=by rw[Waf,z];rfl
   have hq:Q0 (bs.getD i false) s0:=hq;rw[e0]at hq;exact wpAny_truthy_bool hq
 ·have e:(Wa1 (bs.map Value.bool).toArray.size).all (λi=>bs.getD i false)=bs.all id:=by
   rw[Wam,Waa];rw[Wde,Wb7,Wb7];constructor
   ·intro hh b hb
    obtain⟨i,hi,rfl⟩:=Wci.mp hb;have:=hh i (Wat.mpr hi);rw[Waf,Wab hi]at this;exact this
   ·intro hh i hi
    rw[Wat]at hi;rw[Waf,Wab hi];exact hh _ (Wb6 hi)
  rw[e];have I0:Inv X pins σ H { s with heap:=s.heap.push { cls:=.type "list_iterator",data:=.fields #[.ref p,.int 0 0] },toks:=s.toks }:=I.kept λb o e=>Wac _ e;refine⟨.bl (bs.all id),H,I0.turned (it:=s.heap.objs.size) (λb o hb e=>hk b o (by simpa using hb) e) (I.hok.fresh (Wah _)) (Wdh I.lt) (.inr I.sz) ?_ ?_,rfl,q⟩
  ·have:=I.fpOk (b:=s.heap.objs.size) (H':=H) (Wah _) (I.hok.fresh (Wah _))
   exact this.2.2.2.2.1
  ·have:=I.fpOk (b:=s.heap.objs.size) (H':=H) (Wah _) (I.hok.fresh (Wah _))
   exact this.2.2.2.2.2
def rIsiU (K:W.Frag):List V->Hp->VK->Prop:=λxs H Q=>rIsi K xs H Q\/∃(x:V) (p:Addr) (ns:List String) (T:String) (b:Bool),xs=[x,.ref p]/\H p=some (.tup (ns.map V.ty))/\TyOf K H x (.type T)/\PySem.W.kitAny K (.type T) (ns.map Value.type)=some b/\Q (.bl b) H
theorem Zkz {pins:List (Addr × Obj)}{σ:St}{H:Hp}{s:Shared}{x:V}{u t:Value}(I:Inv X pins σ H s) (rx:RelV x u) (ty:TyOf X.K H x t) (nt:∃T,t=.type T):∃Hh:Heap->Prop,PySem.W.KitX X.K u t Hh/\Hh s.heap/\u≠.builtin "__main__.__loader__#opaque":=by
 cases ty with
 |non=>cases (show u=Value.none from rx);exact⟨_,PySem.W.kitx_none,True.intro,λz=>nomatch z⟩
 |bl y=>cases (show u=Value.bool y from rx);exact⟨_,PySem.W.kitx_bool,True.intro,λz=>nomatch z⟩
 |int i=>obtain⟨t,q⟩:=(show ∃t,u=Value.int i t from rx);cases q;exact⟨_,PySem.W.kitx_int,True.intro,λz=>nomatch z⟩
 |str y=>obtain⟨t,q⟩:=(show ∃t,u=Value.str y t from rx);cases q;exact⟨_,PySem.W.kitx_str,True.intro,λz=>nomatch z⟩
 |flt y=>obtain⟨t,q⟩:=(show ∃t,u=Value.float y t from rx);cases q;exact⟨_,PySem.W.kitx_float,True.intro,λz=>nomatch z⟩
 |@lst a xs ea=>
  cases (show u=Value.ref a from rx);obtain⟨_,_,n,_,h1⟩:=(show ObjOk X.prog X.w H s.heap a (.lst xs) from I.hok a _ ea);exact⟨_,PySem.W.kitx_list,⟨_,h1,rfl⟩,λz=>nomatch z⟩
 |@frz a ob xs ea=>
  cases (show u=Value.ref a from rx);obtain⟨_,_,_,n,_,h1⟩:=(show ObjOk X.prog X.w H s.heap a (.frz ob (.lst xs)) from I.hok a _ ea);exact⟨_,PySem.W.kitx_list,⟨_,h1,rfl⟩,λz=>nomatch z⟩
 |@tup a xs ea=>
  cases (show u=Value.ref a from rx);obtain⟨_,_,_,p⟩:=(show ObjOk X.prog X.w H s.heap a (.tup xs) from I.hok a _ ea);obtain⟨o,h1,⟨h2,_⟩,_⟩:=p;exact⟨_,PySem.W.kitx_tuple,⟨o,h1,h2⟩,λz=>nomatch z⟩
 |@dK a kvs ea=>
  cases (show u=Value.ref a from rx);obtain⟨_,_,vs,_,p⟩:=(show ObjOk X.prog X.w H s.heap a (.dK kvs) from I.hok a _ ea);obtain⟨o,es,ep,h1,h2,_⟩:=p;exact⟨_,PySem.W.kitx_dict,⟨o,h1,h2.1⟩,λz=>nomatch z⟩
 |@dT a kvs ea=>
  cases (show u=Value.ref a from rx);obtain⟨_,_,xs,_,o,es,ep,h1,h2,_⟩:=(show ObjOk X.prog X.w H s.heap a (.dT kvs) from I.hok a _ ea);exact⟨_,PySem.W.kitx_dict,⟨o,h1,h2.1⟩,λz=>nomatch z⟩
 |@ins a C dx fs ea cl ha hn htk hm=>obtain⟨T,e⟩:=nt;cases e
theorem isiUK (K:W.Frag) (hK:X.K=K:=by rfl):CallR X (.builtin "isinstance") (rIsiU K):=by
 subst hK;refine CallR.or Ziy ?_;intro pins s σ H xs us Q I r h;obtain⟨x,p,ns,T,b,rfl,hp,ty,e,q⟩:=h;obtain⟨u,u',rfl,rx,rn⟩:=vals2 r;cases (show u'=Value.ref p from rn);obtain⟨Hh,Z,hz,hne⟩:=Zkz I rx ty ⟨T,rfl⟩;obtain⟨_,its,rv,o,ho,⟨hc,n,hd⟩,hdd⟩:=I.hok p _ hp;have hv:∀(ns:List String) (its:List Value),Vals (ns.map V.ty) its->its=ns.map Value.type:=by
  intro ns
  induction ns with
  |nil=>intro its h;cases h;rfl
  |cons b r ih=>intro its h;cases h with|cons h1 h2=>cases (show _=Value.type b from h1);rw[ih _ h2];rfl
 have e2:=hv ns its rv;subst e2;obtain⟨cls,dd,data,sl⟩:=o;simp only at hc hd hdd;subst hc hd hdd;exact PySem.W.kia_tup Z I.kIn hz ho e hne λtk=>⟨.bl b,H,I.tok _,rfl,q⟩
end
section
variable {K:W.Frag}{Δ:Evt}
theorem Zjf {b:Bool}{G:Hp}{l1 l2:Addr}{xs ys:List V}{ds es:List D}(h1:∀G1 H1,Same G G1->Same G1 H1->SqB b K H1 l1 xs) (h2:∀G1 H1,Same G G1->Same G1 H1->SqB b K H1 l2 ys) (r1:Reps K G xs ds) (r2:Reps K G ys es) (hl:ds.length=es.length) :
  ItOk K G (Izb b K l1 l2) ((ds.zip es).map λp=>D.tup [p.1,p.2]):=λG1 H1 sg sh=>by
 have hl1:=r1.length;have hl2:=r2.length;have e1:=h1 G1 H1 sg sh;have e2:=h2 G1 H1 sg sh;refine⟨⟨xs,ys,e1,e2,.inl (by rw[Waa,Wdo];omega)⟩,λi d hd=>?_⟩;rw[Wag]at hd;cases q:(ds.zip es)[i]? with
 |none=>rw[q]at hd;cases hd
 |some pr=>
  rw[q]at hd;have hd:D.tup [pr.1,pr.2]=d:=by simpa using hd
  subst hd;rw[Wby]at q;obtain⟨u,hu,ru⟩:=r1.get q.1;obtain⟨v,hv,rv⟩:=r2.get q.2;refine⟨⟨xs,ys,u,v,e1,e2,hu,hv⟩,λx H2 ⟨p,a,b',hp,ex,eH,hab⟩=>?_⟩;obtain⟨ha,hb⟩:=hab xs ys e1 e2;rw[hu]at ha;rw[hv]at hb;cases ha;cases hb;subst ex;subst eH;have hG:G1 p=none:=by
   cases z:G1 p with
   |none=>rfl
   |some o=>rw[sh _ _ z]at hp;cases hp
  refine⟨upd G1 p (.tup [u,v]),λc o e=>by rw[Zaj (Zal e hG)];exact e,λc o e=>by rw[Zaj (Zal e hp)];exact e,λc o e=>?_,?_⟩
  ·by_cases hc:c=p
   ·subst hc;rw[Zam]at e ⊢;exact⟨e,.inr hp⟩
   ·rw[Zaj hc]at e ⊢;exact⟨sh c o e,.inl e⟩
  ·have sg2:Same G1 (upd G1 p (.tup [u,v])):=λc o e=>by rw[Zaj (Zal e hG)];exact e
   exact .tup Zam (.cons ((ru.mono sg).mono sg2) (.cons ((rv.mono sg).mono sg2) .nil))
theorem Zs1 {ta:TA}{P:List D->Evt->Prop}(h:JA K ta Δ λds Δ1=>∃as bs,ds=[.lst as,.lst bs]/\as.length=bs.length/\P ((as.zip bs).map λp=>D.tup [p.1,p.2]) Δ1):JI K (iZip K ta) Δ P:=λg G H σ R k c=>
 h g G H σ _ k λvs ds G1 H1 Δ1 k1 s1 r1 hq_=>by
  obtain⟨as,bs,e,hl,p1⟩:=hq_;subst e;obtain⟨_,_,rfl,ra,rr⟩:=r1.inv
  next=>
   obtain⟨_,_,rfl,rb,rr⟩:=rr.inv
   next=>
    cases rr.inv;obtain⟨_,_,rfl,ha,rsa⟩:=ra.inv
    next=>
     obtain⟨_,_,rfl,hb,rsb⟩:=rb.inv
     next=>
      exact⟨false,_,_,rfl,⟨_,SqL.of (k1.live _ _ ha)⟩,⟨_,SqL.of (k1.live _ _ hb)⟩,c _ _ G1 H1 Δ1 k1 s1 (Zjf (λ_ _ sg sh=>SqL.of (sh _ _ (sg _ _ ha))) (λ_ _ sg sh=>SqL.of (sh _ _ (sg _ _ hb))) rsa rsb hl) p1⟩
theorem Zqn {ta:TA}{P:List D->Evt->Prop}(h:JA K ta Δ λds Δ1=>∃as bs,ds=[.tup as,.tup bs]/\as.length=bs.length/\P ((as.zip bs).map λp=>D.tup [p.1,p.2]) Δ1):JI K (iZip K ta) Δ P:=λg G H σ R k c=>
 h g G H σ _ k λvs ds G1 H1 Δ1 k1 s1 r1 hq_=>by
  obtain⟨as,bs,e,hl,p1⟩:=hq_;subst e;obtain⟨_,_,rfl,ra,rr⟩:=r1.inv
  next=>
   obtain⟨_,_,rfl,rb,rr⟩:=rr.inv
   next=>
    cases rr.inv;obtain⟨_,_,rfl,ha,rsa⟩:=ra.inv
    next=>
     obtain⟨_,_,rfl,hb,rsb⟩:=rb.inv
     next=>
      exact⟨true,_,_,rfl,⟨_,SqT.of (k1.live _ _ ha)⟩,⟨_,SqT.of (k1.live _ _ hb)⟩,c _ _ G1 H1 Δ1 k1 s1 (Zjf (λ_ _ sg sh=>SqT.of (sh _ _ (sg _ _ ha))) (λ_ _ sg sh=>SqT.of (sh _ _ (sg _ _ hb))) rsa rsb hl) p1⟩
theorem Zjr {bs:List Bool}{P:D->Evt->Prop}(p:P (.bl (bs.all id)) Δ):JC K (rAll K) [.lst (bs.map D.bl)] Δ P:=λg G H σ Q vs k rs c=>by
 obtain⟨_,_,rfl,r,t⟩:=rs.inv
 next=>
  cases t.inv;obtain⟨a,ws,rfl,ha,rs⟩:=r.inv
  next=>
   have e:∀(bs:List Bool) (ws:List V),Reps K G ws (bs.map D.bl)->ws=bs.map V.bl:=by
    intro bs
    induction bs with
    |nil=>intro ws h;cases h;rfl
    |cons b r ih=>intro ws h;cases h with|cons h1 h2=>cases h1;rw[ih _ h2];rfl
   have:=e bs ws rs;subst this;exact⟨_,bs,rfl,SqL.of (k.live _ _ ha),c _ _ G H Δ k (Same.refl _) (.bl _) p⟩
theorem Zb6 {d:D}{n T:String}{b:Bool}{P:D->Evt->Prop}(ht:tyD d=some T) (e:∀K,PySem.W.kitOne K (.type T) (.type n)=some b) (p:P (.bl b) Δ):JC K (rIsiU K) [d,.ty n] Δ P:=λg G H σ Q vs k rs c=>.inl (Ztb ht e p g G H σ Q vs k rs c)
theorem Zk7 {d:D}{ns:List String}{T:String}{b:Bool}{P:D->Evt->Prop}(ht:tyD d=some T) (e:∀K,PySem.W.kitAny K (.type T) (ns.map Value.type)=some b) (p:P (.bl b) Δ):JC K (rIsiU K) [d,.tup (ns.map D.ty)] Δ P:=λg G H σ Q vs k rs c=>by
 obtain⟨_,_,rfl,r,t⟩:=rs.inv
 next=>
  obtain⟨_,_,rfl,r',t⟩:=t.inv
  next=>
   cases t.inv;obtain⟨a,ws,rfl,ha,rs⟩:=r'.inv
   next=>
    have e1:∀(ns:List String) (ws:List V),Reps K G ws (ns.map D.ty)->ws=ns.map V.ty:=by
     intro ns
     induction ns with
     |nil=>intro ws h;cases h;rfl
     |cons b r ih=>intro ws h;cases h with|cons h1 h2=>cases h1;rw[ih _ h2];rfl
    have:=e1 ns ws rs;subst this;refine .inr ⟨_,a,ns,T,b,rfl,k.live _ _ ha,?_,e K,c _ _ G H Δ k (Same.refl _) (.bl b) p⟩;cases r with
    |non=>cases ht;exact .non
    |bl b=>cases ht;exact .bl b
    |int i=>cases ht;exact .int i
    |str x=>cases ht;exact .str x
    |ty n=>cases ht
    |scr ha rs=>cases ht
    |adr a=>cases ht
    |dct ha hl rs=>cases ht;exact .dK (k.live _ _ ha)
    |exc ha=>cases ht
    |lst ha rs=>cases ht;exact .lst (k.live _ _ ha)
    |tup ha rs=>cases ht;exact .tup (k.live _ _ ha)
end
section
variable {prog:Program}{w:World}{A:Around}{E:Value->Shared->Prop}{s:Shared}
theorem Zqm {b:Bool}{e j a:Addr}{i:Nat}{ws:Array Value}{x old:Value}{Q:Option Value->Shared->Prop}(ge:IsEnum s.heap e j i old) (g:ItB b s.heap j a i) (l:HsB b s.heap a ws) (ex:ws[i]?=some x) (ne:e≠j)
  (q:∀h',IsEnumOut h' e j ((i:Int)+1) x s.heap.objs.size->ItB b h' j a (i+1)->h'.get? s.heap.objs.size=some { cls:=.type "tuple",data:=.seq #[.int i s.toks,x] } →
   (∀c o,c≠e->c≠j->s.heap.get? c=some o->h'.get? c=some o)->Q (some (.ref s.heap.objs.size)) { s with heap:=h',toks:=s.toks+1 }):wpAny (model prog w) A (pyNext (.ref e)) Q E s:=by
 cases b
 ·exact wpAny_pyNext_enum_item ge g l ex ne λh' b1 b2 b3 _ b4=>q h' b1 b2 b3 b4
 obtain⟨hp,g0,d,tk,os⟩:=s;have ty:Shared.TypeIs ⟨hp,g0,d,tk,os⟩ (.ref e) "enumerate":=⟨_,ge,rfl⟩;unfold pyNext;refine wpAny_bind (wpAny_attempt (wpAny_callSpecial?_slot (name:=Str.ofString "__next__") ty F.slot_enumerate_next (wpAny_call_entry F.slot_enumerate_next ty F.entry_enumerate_next ?_ (F.args_enumerate_next_1 _))));refine(show wpAny _ _ (field (.ref e) 2 >>= _) _ _ _ from wpAny_bind (wpAny_field ge rfl (x:=.ref j) rfl (wpAny_bind (Zgs (b:=true) g l ex λh₁ g₁ s₁=>?_))))
 replace s₁:Heap.SameBut j hp h₁:=s₁
 have e₁:IsEnum h₁ e j i old:=(s₁.2 e ne).trans ge;refine(show wpAny _ _ (field (.ref e) 3 >>= _) _ _ ⟨h₁,g0,d,tk,os⟩ from wpAny_bind (wpAny_field e₁ rfl (x:=rawInt i) rfl ?_));refine(show wpAny _ _ (field (.ref e) 4 >>= _) _ _ ⟨h₁,g0,d,tk,os⟩ from wpAny_bind (wpAny_field e₁ rfl (x:=.none) rfl ?_));refine(show wpAny _ _ (mkInt i >>= _) _ _ ⟨h₁,g0,d,tk,os⟩ from wpAny_bind (wpAny_mkInt ?_));refine(show wpAny _ _ (setField (.ref e) 3 (rawInt ((i:Int)+1)) >>= _) _ _ ⟨h₁,g0,d,tk+1,os⟩ from wpAny_bind (wpAny_setField_rec e₁ (by simp) λh₂ e₂ s₂=>?_))
 replace s₂:Heap.SameBut e h₁ h₂:=s₂
 replace e₂:IsEnum h₂ e j ((i:Int)+1) old:=e₂
 refine(show wpAny _ _ (setField (.ref e) 4 .none >>= _) _ _ ⟨h₂,g0,d,tk+1,os⟩ from wpAny_bind (wpAny_setField_rec e₂ (by simp) λh₃ e₃ s₃=>?_))
 replace s₃:Heap.SameBut e h₂ h₃:=s₃
 replace e₃:IsEnum h₃ e j ((i:Int)+1) old:=e₃
 refine(show wpAny _ _ (newTuple [.int i tk,x] >>= _) _ _ ⟨h₃,g0,d,tk+1,os⟩ from wpAny_bind (wpAny_newTuple ?_));have e₄:IsEnum (h₃.push { cls:=.type "tuple",data:=.seq #[.int i tk,x] }) e j ((i:Int)+1) old:=Wac _ e₃;generalize eh₄:h₃.push { cls:=.type "tuple",data:=.seq #[.int i tk,x] } = h₄ at e₄;have n3:h₃.objs.size=hp.objs.size:=by rw[s₃.1,s₂.1,s₁.1]
 have el:e<hp.objs.size:=War ge;have t₄:h₄.get? hp.objs.size=some { cls:=.type "tuple",data:=.seq #[.int i tk,x] }:=by rw[<- eh₄,<- n3];exact Wao _ rfl
 have k₄:∀c o,c≠e->c≠j->hp.get? c=some o->h₄.get? c=some o:=λc o c1 c2 z=>by rw[<- eh₄];exact Wac _ (s₃.extBut c o c1 (s₂.extBut c o c1 (s₁.extBut c o c2 z)))
 have g₄:ItB true h₄ j a (i+1):=by rw[<- eh₄];exact((g₁.off s₂.extBut (Ne.symm ne)).off s₃.extBut (Ne.symm ne)).at λo z=>Wac _ z
 refine(show wpAny _ _ (Builtin.SmallTypes.ownedTupleIsFree (.ref e) >>= _) _ _ ⟨h₄,g0,d,tk+1,os⟩ from ?_);rw[n3];clear eh₄ e₃ s₃ e₂ s₂ e₁ s₁ g₁ n3 h₃ h₂ h₁;refine wpAny_bind ?_;unfold Builtin.SmallTypes.ownedTupleIsFree;refine wpAny_bind (wpAny_field e₄ rfl (x:=.none) rfl (wpAny_pure ?_));simp only[if_true];refine wpAny_bind (wpAny_rule (wpAny_bind (wpAny_field e₄ rfl (x:=old) rfl (wpAny_bind (wpAny_setField_rec e₄ (by simp) λh₅ e₅ s₅=>?_)))))
 replace s₅:Heap.SameBut e h₄ h₅:=s₅
 replace e₅:IsEnum h₅ e j ((i:Int)+1) x:=e₅
 refine(show wpAny _ _ (Builtin.SmallTypes.ownedTupleHandOut (.ref e) (.ref hp.objs.size) >>= _) _ _ ⟨h₅,g0,d,tk+1,os⟩ from wpAny_bind ?_);unfold Builtin.SmallTypes.ownedTupleHandOut;refine wpAny_bind (wpAny_setField_rec e₅ (by simp) λh₆ e₆ s₆=>?_)
 replace s₆:Heap.SameBut e h₅ h₆:=s₆
 replace e₆:IsEnumOut h₆ e j ((i:Int)+1) x hp.objs.size:=e₆
 refine wpAny_setField_rec e₆ (by simp) λh₇ e₇ s₇=>?_
 replace s₇:Heap.SameBut e h₆ h₇:=s₇
 replace e₇:IsEnumOut h₇ e j ((i:Int)+1) x hp.objs.size:=e₇
 have up:∀c o,c≠e->h₄.get? c=some o->h₇.get? c=some o:=λc o c1 z=>s₇.extBut c o c1 (s₆.extBut c o c1 (s₅.extBut c o c1 z));exact wpAny_bind (wpAny_letGo (wpAny_pure ⟨_,rfl,wpAny_pure (q h₇ e₇ (g₄.at λo z=>up j o (Ne.symm ne) z) (up _ _ (Wdh el) t₄) λc o c1 c2 z=>up c o c1 (k₄ c o c1 c2 z))⟩))
theorem Zr6 {b:Bool}{e j a:Addr}{i:Nat}{ws:Array Value}{old:Value}{Q:Option Value->Shared->Prop}(hh:A.handled=none) (ge:IsEnum s.heap e j i old) (g:ItB b s.heap j a i) (l:HsB b s.heap a ws) (ex:ws[i]?=none)
  (q:∀h',Heap.ExtBut j s.heap h' -> Q none { s with heap:=h' }):wpAny (model prog w) A (pyNext (.ref e)) Q E s:=by
 have ty:s.TypeIs (.ref e) "enumerate":=⟨_,ge,rfl⟩;unfold pyNext;refine wpAny_bind (wpAny_attempt (wpAny_callSpecial?_slot (name:=Str.ofString "__next__") ty F.slot_enumerate_next (wpAny_call_entry F.slot_enumerate_next ty F.entry_enumerate_next ?_ (F.args_enumerate_next_1 _))));refine(show wpAny _ _ (field (.ref e) 2 >>= _) _ _ _ from wpAny_bind (wpAny_field ge rfl (x:=.ref j) rfl (wpAny_bind (Znd hh g l ex λh' x e' ⟨o,ho,hc⟩=>?_))));exact wpAny_bind (wpAny_isInstance (T:="StopIteration") (b:=true) ⟨o,ho,hc⟩ isSubtype_stop (wpAny_pure (q _ e')))
theorem Zn4 (a:Addr) (ws:Array Value) (n:Nat) (dct:Option Addr) (sl:Array (Option Value)) :
  Meets (Builtin.«enumerate.__new__» ⟨[.type "enumerate",.ref a],[]⟩) (λ_ R s=>s.heap.get? a=some ⟨.type "tuple",dct,.seq ws n,sl⟩ ∧
   R (.ok (.ret (.ref (zt1 s.heap a).objs.size))) { s with heap:=(zt1 s.heap a).push ⟨.type "enumerate",none,.fields #[.none,.bool false,.ref s.heap.objs.size,rawInt 0,.none,.none],#[]⟩ }):=.of_wp λprog w A R s h=>by
 obtain⟨hp,g,d,tk,os⟩:=s;obtain⟨l,h⟩:=h;have sub0:=sub_enumerate;have t0:Heap.IsTuple (Shared.heap ⟨hp,g,d,tk,os⟩) a ws:=⟨_,l,rfl,n,rfl⟩
 wp_walk using AutoSeq1.wpAny_loadPart' l
 refine wpAny_stack_any λst=>wpAny_pure ?_;split
 ·rename_i c _ _ _ _ _
  cases (c == Value.type "enumerate") <;> (wp_walk using AutoSeq1.wpAny_loadPart' l,wpAny_pyIter_tuple t0;exact⟨_,rfl,h⟩)
 ·wp_walk using AutoSeq1.wpAny_loadPart' l,wpAny_pyIter_tuple t0
  exact⟨_,rfl,h⟩
theorem Zr0 {b:Bool}{a:Addr}{ws:Array Value}{Q:Value->Shared->Prop}(l:HsB b s.heap a ws)
  (q:∀h',IsEnum h' (s.heap.objs.size+1) s.heap.objs.size 0 .none->ItB b h' s.heap.objs.size a 0->(∀c o,s.heap.get? c=some o->h'.get? c=some o)->Q (.ref (s.heap.objs.size+1)) { s with heap:=h' }):wpAny (model prog w) A (call (.type "enumerate") [.ref a]) Q E s:=by
 cases b
 ·exact call_enumerate_list l λh' b1 b2 _ b3=>q h' b1 b2 b3
 ·obtain⟨⟨oc,od,oda,os⟩,l1,hc,n,hd⟩:=l
  dsimp only at hc hd;subst hc hd;refine callType_new F.called_enumerate (by decide) (F.typeCall_enumerate_1 _) (F.newCall_enumerate_1 _) (λobj=>F.args_object_init_2 obj _) F.entry_enumerate_new (Zn4 a ws n od os) ⟨l1,?_⟩;have z1:(zt1 s.heap a).objs.size=s.heap.objs.size+1:=Wch ..;show _/\_;rw[z1];have he:IsEnum ((zt1 s.heap a).push ⟨.type "enumerate",none,.fields #[.none,.bool false,.ref s.heap.objs.size,rawInt 0,.none,.none],#[]⟩) (s.heap.objs.size+1) s.heap.objs.size 0 .none:=by
   rw[<- z1];exact Wao _ rfl
  exact⟨⟨_,he,rfl⟩,q _ he ⟨_,Wac _ (Wao _ rfl),rfl,rfl⟩ λc o z=>Wac _ (Wac _ z)⟩
end
def Ieb (b:Bool) (K:W.Frag) (l:Addr):It:=
 ⟨λi H=>∃xs x,SqB b K H l xs/\xs[i]?=some x,
  λi H v H'=>∃p x,H p=none/\v=.ref p/\H'=upd H p (.tup [.int (i:Int),x])/\∀xs,SqB b K H l xs->xs[i]?=some x,
  λi H=>∃xs,SqB b K H l xs/\xs.length<=i⟩
theorem Zqa {b:Bool}{P:Program}{w:World}{K:W.Frag}{es:List Expr}{kk:Nat}{tp:Pos}(l z j:Addr) (D:z≠j):Turn P w K (.Tuple es kk tp) (Ieb b K l) [z,j] z
  (λi h=>(∃old,IsEnum h z j i old)/\ItB b h j l i) where
 mem:=by simp
 obj:=λi h st b2 hb=>by
  obtain⟨⟨old,hz⟩,h1⟩:=st;obtain⟨o1,e1,d1⟩:=h1.obj;simp only[Wan,Wbu,or_false]at hb;rcases hb with rfl|rfl
  ·exact⟨_,hz,λv q=>by cases q⟩
  ·exact⟨o1,e1,λv q=>by rw[d1]at q;cases q⟩
 keep:=λi h h' st k=>by
  obtain⟨⟨old,hz⟩,h1⟩:=st;exact⟨⟨old,k z (by simp) _ hz⟩,h1.at λo e=>k j (by simp) o e⟩
 item:=by
  intro X hP hw hK hc i pins s σ H E I hf st hg;subst hP hw hK;obtain⟨⟨old,hz⟩,h1⟩:=st;obtain⟨xs,x,hq1,hx⟩:=hg;obtain⟨its1,r1,p1⟩:=I.seqB hq1;obtain⟨u1,hu1,ru1⟩:=r1.get hx;refine Zqm hz h1 p1 (x:=u1) (by simpa using hu1) D λh' b1 b2 b3 hk=>?_;refine⟨_,rfl,wpAny_letOwnedTupleGo_enum (s:={ s with heap:=h',toks:=s.toks+1 }) b1 λh'' hz'' hs''=>?_⟩;have lt:∀{c o},s.heap.get? c=some o->c≠s.heap.objs.size:=λe=>Way (War e);have hTz:s.heap.objs.size≠z:=Ne.symm (lt hz);have hTfree:H s.heap.objs.size=none:=I.hok.fresh (Wah _);have kept:∀c o,c ∉ [z,j]->s.heap.get? c=some o->h''.get? c=some o:=λc o hc e=>by
   simp only[Wan,Wbu,or_false,not_or]at hc;exact hs''.extBut _ _ hc.1 (hk c o hc.1 hc.2 e)
  have hT:h''.get? s.heap.objs.size=some { cls:=.type "tuple",data:=.seq #[.int i s.toks,u1] }:=hs''.extBut _ _ hTz b3;have ntr:∀c o,H c=some o->c ∉ [z,j]:=λc o e hc=>by rw[(hf c hc).1]at e;cases e
  have hok:HOk X.prog X.w (upd H s.heap.objs.size (.tup [.int (i:Int),x])) h'':=λc o e=>by
   by_cases hcT:c=s.heap.objs.size
   ·subst hcT
    rw[Zam]at e;cases e;exact⟨by show 2<=sizeLine;decide,[.int i s.toks,u1],.cons ⟨_,rfl⟩ (.cons ru1 .nil),_,hT,⟨rfl,_,rfl⟩,rfl⟩
   ·rw[Zaj hcT]at e
    refine(I.hok c o e).stay (λd v hd q=>kept d v ?_ q) (λd q=>by rw[Zaj (Zal q hTfree)];exact q) λd zs q=>by rw[Zaj (Zal q hTfree)];exact q
    rcases hd with hd|hd
    ·rw[hd];exact ntr c o e
    ·exact ntr d _ hd
  have I2:Inv X pins σ (upd H s.heap.objs.size (.tup [.int (i:Int),x])) { s with heap:=h'',toks:=s.toks+1 }:=by
   refine I.call (g':=s.gens) (t':=s.toks+1) (d':=s.drawn) (ch:=[z,j]) ⟨λc o e n hc hx=>kept c o hx e,λc o e n hc hx=>⟨o.slots,kept c o hx e⟩,λc o e n hx=>by rw[Zaj (lt e)];exact n,λc o e hx=>⟨o,kept c o hx e⟩,
    λc zs q=>by rw[Zaj (Zal q hTfree)];exact q,λc o zs q=>by rw[Zaj (Zal q hTfree)];exact q,λc zs q=>⟨#[],by rw[Zaj (Zal q hTfree),q];simp⟩⟩ hok I.bare λc hcc=>?_
   obtain⟨f0,f1,f2,f3,f4,f5⟩:=hf c hcc;exact⟨f3,f1,f4,f5⟩
  refine⟨.ref s.heap.objs.size,_,I2,rfl,⟨s.heap.objs.size,x,hTfree,rfl,rfl,λxs' q1=>?_⟩,⟨⟨_,by have:=hz'';push_cast at this ⊢;exact this⟩,b2.off hs''.extBut (Ne.symm D)⟩,λc hcc=>?_⟩
  ·rw[I.seqB_inj q1 hq1];exact hx
  ·have hcl:c≠s.heap.objs.size:=by
    simp only[Wan,Wbu,or_false]at hcc;obtain⟨_,e1,_⟩:=h1.obj;rcases hcc with rfl|rfl
    ·exact lt hz
    ·exact lt e1
   rw[Zaj hcl];exact(hf c hcc).1
 done:=by
  intro X hP hw hK hc i pins s σ H E I hf st hg;subst hP hw hK;obtain⟨⟨old,hz⟩,h1⟩:=st;obtain⟨xs,hq1,hend⟩:=hg;obtain⟨its1,r1,p1⟩:=I.seqB hq1;have l1':=r1.length;refine Zr6 (I.ok.hd hc) hz h1 p1 (by simp;omega) λh' hk=>⟨rfl,?_⟩;have kept:∀c o,c ∉ [z,j]->s.heap.get? c=some o->h'.get? c=some o:=λc o hc e=>by
   simp only[Wan,Wbu,or_false,not_or]at hc;exact hk c o hc.2 e
  have ntr:∀c o,H c=some o->c ∉ [z,j]:=λc o e hc=>by rw[(hf c hc).1]at e;cases e
  refine I.call (g':=s.gens) (t':=s.toks) (d':=s.drawn) (ch:=[z,j]) ⟨λc o e n hc hx=>kept c o hx e,λc o e n hc hx=>⟨o.slots,kept c o hx e⟩,λc o e n hx=>n,λc o e hx=>⟨o,kept c o hx e⟩,
   λc zs q=>q,λc o zs q=>q,λc zs q=>⟨#[],by rw[q];simp⟩⟩ (λc o e=>?_) I.bare λc hcc=>?_
  ·refine(I.hok c o e).stay (λd v hd q=>kept d v ?_ q) (λd q=>q) λd zs q=>q
   rcases hd with hd|hd
   ·rw[hd];exact ntr c o e
   ·exact ntr d _ hd
  ·obtain⟨f0,f1,f2,f3,f4,f5⟩:=hf c hcc
   exact⟨f3,f1,f4,f5⟩
 self:=λ_ _ _ _ _ st h=>by
  obtain⟨⟨old,hz⟩,_⟩:=st;exact wpAny_pyIter_enum hz h
theorem Zik:bootBuiltins "enumerate" = some (.type "enumerate"):=by kernel_rfl
section
variable {X:Cx}
def iEnum (K:W.Frag) (ta:TA):TI:=λσ H R=>ta σ H λvs H1=>∃b l,vs=[.ref l]/\(∃xs,SqB b K H1 l xs)/\R (Ieb b K l) H1
theorem Zeu (K:W.Frag) {es:List Expr}{kk:Nat}{tp:Pos}{a:Expr}{ta:TA}{p pos:Pos}(hg:Gl X "enumerate") (hm:X.mg "enumerate" = none) (ha:PA X [a] ta) (hs:starEach [a] X.env=[(false,eval a X.env)]:=by rfl) (hs2:starEach [] X.env=[]:=by rfl) (hK:X.K=K:=by rfl) :
  PI X (.Tuple es kk tp) (.Call (.Name "enumerate" p) [a] [] pos) (iEnum K ta):=by
 subst hK;intro pins s σ H R I h;refine Call_ (Zdu I hg hm (Zik) (PyProof.Rows.callWith_type1 (thn (ha pos pins s σ H _ I h) λus s1 ⟨vs,H1,I1,r1,q1⟩=>?_) (by rw[hs,hs2]) (by rw[hs2];rfl)));obtain⟨b,l1,e,⟨xs,hx⟩,q⟩:=q1;subst e;obtain⟨u1,rfl,q1⟩:=vals1 r1;cases (show u1=Value.ref l1 from q1);obtain⟨its1,w1,p1⟩:=I1.seqB hx;refine Zr0 p1 λh' b1 b2 hk=>?_;refine wpAny_pyIter_enum b1 ?_;have I2:Inv X pins σ H1 { s1 with heap:=h' }:=I1.kept (t':=s1.toks) hk;refine⟨s1.heap.objs.size+1,[s1.heap.objs.size+1,s1.heap.objs.size],_,_,H1,rfl,I2,Zqa l1 _ _ (Nat.succ_ne_self _),⟨⟨_,b1⟩,b2⟩,λb hb=>?_,q⟩;have hge:s1.heap.objs.size<=b:=by
  simp only[Wan,Wbu,or_false]at hb;rcases hb with rfl|rfl <;> omega
 exact I1.fpOk hge (I1.hok.fresh hge)
def rMin1 (K:W.Frag):List V->Hp->VK->Prop:=λxs H Q=>∃(b:Bool) (p:Addr) (ns:List Int),xs=[.ref p]/\SqB b K H p (ns.map V.int)/\0<ns.length/\∀m,m∈ns->(∀a∈ns,m<=a)->Q (.int m) H
theorem minK (K:W.Frag) (hc:X.calm=true) (hK:X.K=K:=by rfl):CallR X (.builtin "min") (rMin1 K):=by
 subst hK;intro pins s σ H xs us Q I r h;obtain⟨b,p,ns,rfl,hx,hne,q⟩:=h;obtain⟨u,rfl,ru⟩:=vals1 r;cases (show u=Value.ref p from ru);obtain⟨its,w1,p1⟩:=I.seqB hx;have hlt:=p1.lt;have hl:=w1.length;rw[Waa]at hl;have hv:∀(i:Nat) v,its.toArray[i]?=some v->∃t,v=Value.int (ns.getD i 0) t:=λi v e=>by
  have hi:i<its.length:=by simpa using (Array.getElem?_eq_some_iff.mp e).1
  obtain⟨v',e1,t,e2⟩:=w1.get (i:=i) (x:=.int (ns.getD i 0)) (by rw[Wag,Waf,Wab (by omega)];rfl);rw[List.getElem?_toArray,e1]at e;cases e;exact⟨t,e2⟩
 have fin:∀{h':Heap}{tk:Nat}{v:Value},its.toArray[argBest (λi j=>decide (ns.getD i 0<ns.getD j 0)) (its.toArray.size-1)]?=some v->(∀c o,s.heap.get? c=some o->h'.get? c=some o)->EP X pins σ Q v { s with heap:=h',toks:=tk }:=λ{h' tk v} hP hk=>by
  obtain⟨t,rfl⟩:=hv _ _ hP;obtain⟨h1,h2⟩:=argBest_lt (λi=>ns.getD i 0) (its.toArray.size-1);have hz:its.toArray.size=ns.length:=by simp[hl]
  rw[hz]at h1 h2 ⊢;refine⟨.int (ns.getD (argBest (λi j=>decide (ns.getD i 0<ns.getD j 0)) (ns.length-1)) 0),H,I.kept hk,⟨_,rfl⟩,q _ ?_ λa ha=>?_⟩
  ·rw[Waf,Wab (by omega)];exact Wb6 _
  ·obtain⟨j,hj,rfl⟩:=Wci.mp ha
   have:=h2 j (by omega);rw[Waf (l:=ns) (i:=j),Wab hj]at this;exact this
 have old:∀{o:Obj}{h':Heap},(∀c u,c ∉ [s.heap.objs.size]->(s.heap.push o).get? c=some u->h'.get? c=some u)->∀c u,s.heap.get? c=some u->h'.get? c=some u:=λhk c u e=>hk c u (λhm=>by
  have:c=s.heap.objs.size:=by simpa using hm
  exact absurd (this ▸ War e) (Wc0 _)) (Wac _ e)
 have fp:∀o:Obj,∀c∈[s.heap.objs.size,p],c<(s.heap.push o).objs.size:=λo c hc=>by
  rw[Wch];simp only[Wan,Wbu,or_false]at hc;rcases hc with rfl|rfl
  ·exact Nat.lt_succ_self _
  ·exact Wbz hlt
 cases b
 ·refine call_min_walk (wpAny_pyIter_list p1 ?_)
  exact⟨_,_,_,_,_,_,_,rfl,Walks.list (A:=X.A.in1) (I.ok.hd hc) _ p (Way hlt) its.toArray,⟨⟨_,Wao _ rfl,rfl,rfl⟩,Heap.IsList.push p1 _⟩,fp _,by simp;omega,CmpOf.ints_lt (λi=>ns.getD i 0) hv,λv h' tk hP hk=>fin hP (old hk)⟩
 ·refine call_min_walk (wpAny_pyIter_tuple p1 ?_)
  exact⟨_,_,_,_,_,_,_,rfl,Walks.tuple (A:=X.A.in1) (I.ok.hd hc) _ p (Way hlt) its.toArray,⟨⟨_,Wao _ rfl,rfl,rfl⟩,Heap.IsTuple.push p1 _⟩,fp _,by simp;omega,CmpOf.ints_lt (λi=>ns.getD i 0) hv,λv h' tk hP hk=>fin hP (old hk)⟩
end
section
variable {K:W.Frag}{Δ:Evt}
theorem Zi5 {ns:List Int}{m:Int}{d:D}{P:D->Evt->Prop}(hd:d=.lst (ns.map .int)\/d=.tup (ns.map .int)) (hm:m∈ns) (hle:∀a∈ns,m<=a) (p:P (.int m) Δ):JC K (rMin1 K) [d] Δ P:=λg G H σ Q vs k rs c=>by
 have fin:∀m',m'∈ns->(∀a∈ns,m' <= a)->Q (.int m') H:=λm' h1 h2=>by
  have:m'=m:=Int.le_antisymm (h2 m hm) (hle m' h1);subst this;exact c _ _ G H Δ k (Same.refl _) (.int _) p
 have pos:0<ns.length:=List.length_pos_of_mem hm;obtain⟨_,_,rfl,r,t⟩:=rs.inv
 next=>
  cases t.inv;rcases hd with hd|hd <;> subst hd
  ·obtain⟨_,_,rfl,ha,rs⟩:=r.inv
   next=>have:=rs.ints;subst this;exact⟨false,_,ns,rfl,SqL.of (k.live _ _ ha),pos,fin⟩
  ·obtain⟨_,_,rfl,ha,rs⟩:=r.inv
   next=>have:=rs.ints;subst this;exact⟨true,_,ns,rfl,SqT.of (k.live _ _ ha),pos,fin⟩
def enD (ds:List D):List D:=ds.zipIdx.map λp=>D.tup [.int (p.2:Int),p.1]
theorem Ziz (ds:List D):(enD ds).length=ds.length:=by unfold enD;rw[Waa,List.length_zipIdx]
theorem Zi4 {ds:List D}{i:Nat}{e:D}(h:(enD ds)[i]?=some e):∃d,ds[i]?=some d/\e=.tup [.int (i:Int),d]:=by
 unfold enD at h;rw[Wag,List.getElem?_zipIdx]at h;cases q:ds[i]? with
 |none=>rw[q]at h;cases h
 |some d=>rw[q]at h;refine⟨d,rfl,?_⟩;simpa using h.symm
theorem Zh8 {b:Bool}{G:Hp}{l1:Addr}{xs:List V}{ds:List D}(h1:∀G1 H1,Same G G1->Same G1 H1->SqB b K H1 l1 xs) (r1:Reps K G xs ds):ItOk K G (Ieb b K l1) (enD ds):=λG1 H1 sg sh=>by
 have hl1:=r1.length;have e1:=h1 G1 H1 sg sh;refine⟨⟨xs,e1,by rw[Ziz];omega⟩,λi d hd=>?_⟩;obtain⟨d0,q,rfl⟩:=Zi4 hd;obtain⟨u,hu,ru⟩:=r1.get q;refine⟨⟨xs,u,e1,hu⟩,λx H2 ⟨p,a,hp,ex,eH,hab⟩=>?_⟩;have ha:=hab xs e1;rw[hu]at ha;cases ha;subst ex;subst eH;have hG:G1 p=none:=by
  cases z:G1 p with
  |none=>rfl
  |some o=>rw[sh _ _ z]at hp;cases hp
 refine⟨upd G1 p (.tup [.int (i:Int),u]),λc o e=>by rw[Zaj (Zal e hG)];exact e,λc o e=>by rw[Zaj (Zal e hp)];exact e,λc o e=>?_,?_⟩
 ·by_cases hc:c=p
  ·subst hc;rw[Zam]at e ⊢;exact⟨e,.inr hp⟩
  ·rw[Zaj hc]at e ⊢;exact⟨sh c o e,.inl e⟩
 ·have sg2:Same G1 (upd G1 p (.tup [.int (i:Int),u])):=λc o e=>by rw[Zaj (Zal e hG)];exact e
  exact .tup Zam (.cons (.int _) (.cons ((ru.mono sg).mono sg2) .nil))
theorem Zms {ta:TA}{P:List D->Evt->Prop}(h:JA K ta Δ λds Δ1=>∃as,(ds=[.lst as]\/ds=[.tup as])/\P (enD as) Δ1):JI K (iEnum K ta) Δ P:=λg G H σ R k c=>
 h g G H σ _ k λvs ds G1 H1 Δ1 k1 s1 r1 hq_=>by
  obtain⟨as,e,p1⟩:=hq_;rcases e with e|e
  ·subst e
   obtain⟨_,_,rfl,ra,rr⟩:=r1.inv
   next=>
    cases rr.inv;obtain⟨_,_,rfl,ha,rsa⟩:=ra.inv
    next=>exact⟨false,_,rfl,⟨_,SqL.of (k1.live _ _ ha)⟩,c _ _ G1 H1 Δ1 k1 s1 (Zh8 (λ_ _ sg sh=>SqL.of (sh _ _ (sg _ _ ha))) rsa) p1⟩
  ·subst e
   obtain⟨_,_,rfl,ra,rr⟩:=r1.inv
   next=>
    cases rr.inv;obtain⟨_,_,rfl,ha,rsa⟩:=ra.inv
    next=>exact⟨true,_,rfl,⟨_,SqT.of (k1.live _ _ ha)⟩,c _ _ G1 H1 Δ1 k1 s1 (Zh8 (λ_ _ sg sh=>SqT.of (sh _ _ (sg _ _ ha))) rsa) p1⟩
end
open PySem PySem.Spec PyProof.Rows PySem.SeqAt
theorem Zkh (l b:Addr) (items items2:Array Value) (n n2:Nat) (dd dd2:Option Addr) (sl sl2:Array (Option Value)) :
  Meets (Builtin.«tuple.__lt__» ⟨[.ref l,.ref b],[]⟩)
   (λA R s=>s.heap.get? l=some { cls:=.type "tuple",dict:=dd,data:=.seq items n,slots:=sl } /\ s.heap.get? b=some { cls:=.type "tuple",dict:=dd2,data:=.seq items2 n2,slots:=sl2 } ∧
    (items2.size=0\/∃(y x:Int) (ty tx:Tok) (ys xs:List Value),items.toList=.int y ty::ys/\items2.toList=.int x tx::xs/\x<y) ∧
    R (.ok (.ret (.bool false))) s):=
 .of_wp λprog w A R s h=>by
  obtain⟨hp,g,d,tk,os⟩:=s;obtain⟨hl,hb,he,h⟩:=h;have f2:=AutoSeq1.sub_tuple_tuple
  wp_walk using wpAny_loadPart' hl,wpAny_loadPart' hb,wpAny_forIn_list _ (λrest b s'=>b.1=none/\s'=⟨hp,g,d,tk,os⟩ /\ rest=items.toList.zip items2.toList) _
  case turn=>
   rintro⟨y,x⟩ rest b s' ⟨hb',rfl,hz⟩;rcases he with he|⟨y',x',ty,tx,ys,xs,e1,e2,hlt⟩
   ·have:items2.toList=[]:=by rw[Array.toList_eq_nil_iff];exact Array.eq_empty_of_size_eq_zero he
    rw[this,Wdx]at hz;cases hz
   ·rw[e1,e2,Wcf]at hz
    injection hz with hz1 hz2
    injection hz1 with hy hx
    subst hy hx;refine wpAny_bind (EqAt.int_int y' ty x' tx prog w _ _ ?_);have e:(y' == x')=false:=by rw[beq_eq_false_iff_ne];omega
    rw[e];simp only[Bool.not_false,if_true];refine wpAny_bind (wpAny_rule (wpAny_bind ?_));refine PyProof.Rows.lt_int ?_;rw[decide_eq_false (show ¬ y'<x' by omega)];exact wpAny_bind (wpAny_pure (wpAny_pure (wpAny_pure ⟨_,rfl,h⟩)))
  case fin=>
   rintro⟨b1,b2⟩ s' ⟨hb',rfl,hz⟩;simp only at hb';subst hb';have hz2:items2.size=0:=by
    rcases he with he|⟨y',x',ty,tx,ys,xs,e1,e2,hlt⟩
    ·exact he
    ·rw[e1,e2,Wcf]at hz;cases hz
   refine wpAny_pure ⟨_,rfl,?_⟩;rw[hz2];exact h
  case h=>
   exact⟨rfl,rfl,rfl⟩
theorem Zl4:∀n:Nat,n<200->minRun' n n 0<=n:=by decide +kernel
section
variable {prog:Program}{w:World}{A:Around}{E:Value->Shared->Prop}{s:Shared}
theorem Zr4 {st:SortSt}{nrem a:Nat}{Q:AscSt->SortSt->Prop}(hc:∀i,1<=i->i<nrem->∀Q:Option Bool->SortSt->Prop,Q (some false) st->wpS (model prog w) A E s (ltAt' i (i-1)) Q st) (ha:1<=a) (han:a<=nrem) (h:Q (none,nrem) st) :
  wpS (model prog w) A E s (ascLoop a nrem) Q st:=by
 unfold ascLoop;refine wpS_forRange (I:=λx c st'=>st'=st/\c=(none,x)) ?step ?fin ⟨rfl,rfl⟩
 case fin=>
  rintro c st' ⟨rfl,rfl⟩;rw[show max a nrem=nrem by omega];exact h
 case step=>
  rintro x c st' hax hxn ⟨rfl,rfl⟩;dsimp only;refine wpS_bind (hc x (by omega) hxn _ ?_);simp only[Wbi,if_false];exact wpS_pure ⟨rfl,rfl⟩
theorem Zo7 {st:SortSt}{n:Nat}{Q:Unit->SortSt->Prop}(hs:(arrOf st).size=n) (hp:pendingOf st = #[]) (h2:2<=n) (hn:n<200) (hc:∀i,1<=i->i<n->∀Q:Option Bool->SortSt->Prop,Q (some false) st->wpS (model prog w) A E s (ltAt' i (i-1)) Q st)
  (h:∀st',arrOf st'=arrOf st->failedOf st'=failedOf st->Q () st'):wpS (model prog w) A E s sortRuns' Q st:=by
 have hmr:=Zl4 n hn;rw[sortRuns'_eq];refine wpS_bind (wpS_get ?_);dsimp only;simp only[hs];refine wpS_bind (wpS_mono (wpS_forRange
  (I:=λx c st'=>(x=0/\c=(none,0)/\st'=st)\/(1<=x/\c=(none,n)/\st'=setPending st #[(0,n,0)]))
  (Q:=λc st'=>c=(none,n)/\st'=setPending st #[(0,n,0)]) ?step ?fin (.inl ⟨rfl,rfl,rfl⟩)) ?post)
 case fin=>
  rintro c st' (⟨hx,_,_⟩|⟨_,hc,hD⟩)
  ·omega
  ·exact⟨hc,hD⟩
 case step=>
  rintro x c st' _ hx (⟨rfl,rfl,rfl⟩|⟨hx1,rfl,rfl⟩)
  ·dsimp only
   rw[if_neg (by omega)];simp only[Wdp,Wdg];rw[countRun0_eq];refine wpS_bind (wpS_bind (Zr4 hc (Wah 1) (by omega) ?_));dsimp only;rw[if_pos (by simp)];refine wpS_pure ?_;dsimp only;rw[if_neg (by omega)];refine wpS_bind (wpS_get ?_);rw[hp];refine wpS_bind (wpS_modify (wpS_pure (.inr ⟨by omega,rfl,?_⟩)));rw[hp];rfl
  ·dsimp only
   rw[if_pos (Wah _)];exact wpS_pure ⟨rfl,rfl⟩
 case post=>
  rintro c st' ⟨rfl,rfl⟩;dsimp only;refine wpS_bind (wpS_mono (wpS_forRange (I:=λ_ c st''=>st''=setPending st #[(0,n,0)]/\c=(none,())) (Q:=λc st''=>st''=setPending st #[(0,n,0)]/\c=(none,())) ?_ (λ_ _ hh=>hh) ⟨rfl,rfl⟩) ?_)
  ·rintro x c st'' _ _ ⟨rfl,rfl⟩
   refine wpS_bind (wpS_get ?_);rw[if_pos (show (pendingOf (setPending st #[(0,n,0)])).size<=1 from Wah 1)];exact wpS_pure ⟨rfl,rfl⟩
  ·rintro c st'' ⟨rfl,rfl⟩
   exact wpS_pure (h _ rfl rfl)
def KeepBut (a:Addr) (h h':Heap):Prop:=∀b o,b≠a->h.get? b=some o->h'.get? b=some o
theorem Zhi {a:Addr}{vs:List Value}{n:Nat}{κ:SortKind}{P:Fin->Shared->Prop}(ho:s.heap.get? a=some (seqObj "list" vs.toArray n)) (hz:vs.length<200)
  (hk:2<=vs.length->∀h',KeepBut a s.heap h' -> ∀Q:SortKind->Shared->Prop,Q κ { s with heap:=h' } -> wpAny (model prog w) A (keyKind' vs.toArray) Q E { s with heap:=h' })
  (hc:∀h',KeepBut a s.heap h' -> ∀i,1<=i->i<vs.length->∀(E:Value->Shared->Prop) (Q:Bool->Shared->Prop),Q false { s with heap:=h' } -> wpAny (model prog w) A (keyLt' κ (vs.getD i .none) (vs.getD (i-1) .none)) Q E { s with heap:=h' })
  (h:P (.done (.ret .none)) { s with heap:=sortedHeap s.heap a vs vs.toArray }):wpAny (model prog w) A (Builtin.«list.sort» ⟨[.ref a],[]⟩) P E s:=by
 rw[list_sort_plain];have ha:a<s.heap.objs.size:=War ho;have hsz:vs.toArray.size=vs.length:=by simp
 have hline:vs.length<=sizeLine:=by rw[sizeLine_eq];omega
 refine wpAny_bind (listItems_at ho rfl ?_);refine wpAny_bind (listUpdate_at ho rfl ?_ (by rw[hsz];exact hline) (Wbw _));obtain⟨e1,ho1⟩:∃e1,(s.heap.update a (Obj.mapSeq λ_=>#[])).get? a=some (seqObj "list" #[] e1):=⟨_,get?_update_seq ho (λ_=>#[])⟩;refine wpAny_bind (seqEpoch_at ho1 rfl ?_);refine wpAny_bind (wpAny_newTuple ?_ hline);refine wpAny_bind (wpAny_newList ?_ (Wbw _));refine wpAny_holding ?_;have ho6:(((s.heap.update a (Obj.mapSeq λ_=>#[])).push (seqObj "tuple" vs.toArray 0)).push (seqObj "list" #[] 0)).get? a=some (seqObj "list" #[] e1):=by
  rw[Wca _ _ _ (by rw[size_push',Wcu];exact Way (Wbz ha)),Wca _ _ _ (by rw[Wcu];exact Way ha)];exact ho1
 have keep:KeepBut a s.heap (((s.heap.update a (Obj.mapSeq λ_=>#[])).push (seqObj "tuple" vs.toArray 0)).push (seqObj "list" #[] 0)):=λb o hb q=>
  Wac _ (Wac _ ((Wdd _ _ _ _ hb).trans q))
 show wpAny (model prog w) A _ P E { s with heap:=((s.heap.update a (Obj.mapSeq λ_=>#[])).push (seqObj "tuple" vs.toArray 0)).push (seqObj "list" #[] 0) };dsimp only;have out:((vs.toArray.zip vs.toArray).map (·.2))=vs.toArray:=by
  apply Array.toList_inj.mp;rw[Array.toList_map,Array.toList_zip];exact Wc9 (Wah _)
 by_cases h2:vs.toArray.size<2
 ·rw[if_pos h2,if_pos h2]
  refine wpAny_bind (wpAny_pure ?_);rw[StateT.run_pure];refine wpAny_bind (wpAny_pure ?_);dsimp only;refine wpAny_bind (seqEpoch_at ho6 rfl ?_);rw[show arrOf (SortSt.mk' general' (vs.toArray.zip vs.toArray) #[] 7 none)=vs.toArray.zip vs.toArray from rfl,out];refine wpAny_bind (listUpdate_at ho6 rfl ?_ (Wbw _) (by rw[hsz];exact Wdj hline));simp only[bne_self_eq_false,Wbi,if_false];exact wpAny_pure h
 ·rw[if_neg h2,if_neg h2]
  refine wpAny_bind (hk (by omega) _ keep _ ?_);refine wpAny_bind (wpAny_mono (Zo7 (n:=vs.length) (st:=SortSt.mk' κ (vs.toArray.zip vs.toArray) #[] 7 none) (Q:=λ_ st'=>arrOf st'=vs.toArray.zip vs.toArray/\failedOf st'=none) ?_ rfl (by omega) hz ?_ ?_) ?_ λ_ _ e=>e)
  ·show (vs.toArray.zip vs.toArray).size=_
   rw[Array.size_zip,hsz,Wdq]
  ·intro i h1 hi Q hq
   have g:∀j,j<vs.length->(arrOf (SortSt.mk' κ (vs.toArray.zip vs.toArray) #[] 7 none))[j]?=some (vs.getD j .none,vs.getD j .none):=λj hj=>by
    show (vs.toArray.zip vs.toArray)[j]?=_;rw[<- Array.getElem?_toList,Array.toList_zip];show (vs.zip vs)[j]?=_;rw[Wby,Waf,Wab hj];exact⟨rfl,rfl⟩
   rw[ltAt'_eq];refine wpS_bind (wpS_get ?_);show wpS _ _ _ _ (do let x ← elem' (arrOf (SortSt.mk' κ (vs.toArray.zip vs.toArray) #[] 7 none)) i;let y ← elem' (arrOf (SortSt.mk' κ (vs.toArray.zip vs.toArray) #[] 7 none)) (i-1);lt' x y) Q _;rw[elem'_eq,elem'_eq,g i hi,g (i-1) (by omega)];refine wpS_bind (wpS_pure (wpS_bind (wpS_pure ?_)));rw[lt'_eq];refine wpS_bind (wpS_get ?_);refine wpS_bind (wpS_lift (wpAny_attempt (hc _ keep i h1 hi _ _ ⟨rfl,?_⟩)));exact wpS_pure hq
  ·exact λst' a1 a2=>⟨a1,a2⟩
  rintro⟨⟨⟩,st'⟩ s' ⟨rfl,har,hf⟩;dsimp only;refine wpAny_bind (seqEpoch_at ho6 rfl ?_);rw[har,out];refine wpAny_bind (listUpdate_at ho6 rfl ?_ (Wbw _) (by rw[hsz];exact Wdj hline));rw[hf];simp only[bne_self_eq_false,Wbi,if_false];exact wpAny_pure h
theorem Zf5 {l:Addr}{vs:List Value}{κ:SortKind}{Q:Value->Shared->Prop}(hl:s.heap.IsList l vs.toArray) (hz:vs.length<200)
  (hk:2<=vs.length->∀h',(∀b o,s.heap.get? b=some o->h'.get? b=some o)->∀(E:Value->Shared->Prop) (Q:SortKind->Shared->Prop),Q κ { s with heap:=h' } -> wpAny (model prog w) A.in1.in1 (keyKind' vs.toArray) Q E { s with heap:=h' })
  (hc:∀h',(∀b o,s.heap.get? b=some o->h'.get? b=some o)->∀i,1<=i->i<vs.length->∀(E:Value->Shared->Prop) (Q:Bool->Shared->Prop),Q false { s with heap:=h' } -> wpAny (model prog w) A.in1.in1 (keyLt' κ (vs.getD i .none) (vs.getD (i-1) .none)) Q E { s with heap:=h' })
  (h:Q (.ref (s.heap.objs.size+1)) { s with heap:=sortedAll s.heap vs vs.toArray }):wpAny (model prog w) A (call (.builtin "sorted") [.ref l]) Q E s:=by
 have hline:vs.length<=sizeLine:=by rw[sizeLine_eq];omega
 refine Calls.call_function_entry kind_sorted plain_sorted entry_sorted (args_sorted1 _) ?_;unfold Builtin.«sorted»;refine wpAny_bind (m:=checkCount "sorted" 1 1 _) (wpAny_pure ?_);refine wpAny_bind (collect_list hl ?_ hline);refine wpAny_bind (wpAny_newList ?_ hline);have hsz:((s.heap.push (seqObj "list" #[] 0)).update s.heap.objs.size (Obj.mapSeq (· ++ vs.toArray))).objs.size=s.heap.objs.size+1:=by
  rw[Wcu,size_push']
 have hoL:(((s.heap.push (seqObj "list" #[] 0)).update s.heap.objs.size (Obj.mapSeq (· ++ vs.toArray))).push (seqObj "list" vs.toArray 0)).get? (s.heap.objs.size+1)=some (seqObj "list" vs.toArray 0):=by
  rw[<- hsz];exact Wao _ rfl
 have keep:∀b o,s.heap.get? b=some o->(((s.heap.push (seqObj "list" #[] 0)).update s.heap.objs.size (Obj.mapSeq (· ++ vs.toArray))).push (seqObj "list" vs.toArray 0)).get? b=some o:=λb o q=>by
  have hlt:b<s.heap.objs.size:=War q;rw[Wca _ _ _ (by rw[hsz];exact Way (Wbz hlt)),Wdd _ _ _ _ (Way hlt),Wca _ _ _ (Way hlt)];exact q
 have up:∀h',KeepBut (s.heap.objs.size+1) (((s.heap.push (seqObj "list" #[] 0)).update s.heap.objs.size (Obj.mapSeq (· ++ vs.toArray))).push (seqObj "list" vs.toArray 0)) h' -> ∀b o,s.heap.get? b=some o->h'.get? b=some o:=λh' k b o q=>
  k b o (Way (Wbz (War q))) (keep b o q)
 show wpAny _ _ _ _ _ { s with heap:=((s.heap.push (seqObj "list" #[] 0)).update s.heap.objs.size (Obj.mapSeq (· ++ vs.toArray))).push (seqObj "list" vs.toArray 0) };rw[hsz];refine wpAny_bind (wpAny_holding (wpAny_call_entry slot_list_sort ⟨_,hoL,rfl⟩ entry_list_sort (Zhi (κ:=κ) hoL hz (λh2 h' k Q q=>hk h2 h' (up h' k) _ Q q) (λh' k i h1 hi E Q q=>hc h' (up h' k) i h1 hi E Q q) ⟨_,rfl,?_⟩) (args_list_sort _)));exact wpAny_pure ⟨_,rfl,h⟩
end
def rowLe (a b:List Int):Prop:=a=[]\/∃x y s t,a=x::s/\b=y::t/\x<y
def Asc (rs:List (List Int)):Prop:=∀i a b,rs[i]?=some a->rs[i+1]?=some b->rowLe a b
def RowAt (h:Heap) (v:Value) (r:List Int):Prop:=∃(a:Addr) (its:List Value),v=.ref a/\IsTup h a its.toArray/\IntsAre its r
theorem RowAt.keep {h h':Heap}{v:Value}{r:List Int}(x:RowAt h v r) (k:∀b o,h.get? b=some o->h'.get? b=some o):RowAt h' v r:=by
 obtain⟨a,its,e,⟨o,ho,hc⟩,i⟩:=x;exact⟨a,its,e,⟨o,k a o ho,hc⟩,i⟩
theorem Zbl {its:List Value}{x:Int}{r:List Int}(h:IntsAre its (x::r)):∃t us,its=.int x t::us/\IntsAre us r:=by
 cases its with
 |nil=>have:=h.length;simp at this
 |cons v us=>
  cases h with
  |cons _ _ b=>exact⟨_,_,rfl,b⟩
theorem Zfx {its:List Value}(h:IntsAre its []):its=[]:=by
 cases its with
 |nil=>rfl
 |cons v us=>have:=h.length;simp at this
section
variable {prog:Program}{w:World}{A:Around}{E:Value->Shared->Prop}{s:Shared}
theorem Zd3:∀(vs:List Value) (rs:List (List Int)) {Q:List (Option Value)->Shared->Prop},Paired (RowAt s.heap) vs rs →
  (∀fs:List (Option Value),Paired (λ(f:Option Value) (r:List Int)=>(r=[]/\f=none)\/∃x t l,r=x::l/\f=some (.int x t)) fs rs->Q fs s)->wpAny (model prog w) A (vs.mapM firstOfTuple') Q E s
 |[],[],_,_,h=>by rw[List.mapM_nil];exact wpAny_pure (h [] .nil)
 |v::vs,r::rs,Q,.cons p t,h=>by
  obtain⟨a,its,rfl,⟨o,ho,hc,n,hd⟩,hi⟩:=p;rw[List.mapM_cons];refine wpAny_bind ?_;rw[PySem.W.kas_first_eq];refine wpAny_bind (PySem.W.Looks.here (show PySem.W.Looks (model prog w) s.heap (typeOf (.ref a)) o.cls from (PySem.W.Looks.ld ho).andThen .now) ?_);rw[hc,if_neg (by first|decide|simp)];refine wpAny_bind (listItems_at ho hd (wpAny_pure ?_));refine wpAny_bind (Zd3 vs rs (Q:=λbs s'=>wpAny _ A (pure (its.toArray[0]?::bs)) Q E s') t λfs pf=>wpAny_pure (h _ (.cons ?_ pf)));cases r with
  |nil=>rw[Zfx hi];exact .inl ⟨rfl,rfl⟩
  |cons x l=>
   obtain⟨t,us,rfl,_⟩:=Zbl hi;exact .inr ⟨x,t,l,rfl,by simp⟩
theorem Zkn {vs:List Value}{rs:List (List Int)}(p:Paired (RowAt s.heap) vs rs):∀v∈vs,PySem.W.Looks (model prog w) s.heap (typeOf v) (.type "tuple"):=by
 intro v hv
 induction p with
 |nil=>cases hv
 |cons q t ih=>
  rcases Wan.mp hv with e|hv
  ·subst e
   obtain⟨a,its,rfl,⟨o,ho,hc,_⟩,_⟩:=q;have z:PySem.W.Looks (model prog w) s.heap (typeOf (.ref a)) o.cls:=(PySem.W.Looks.ld ho).andThen .now;rw[hc]at z;exact z
  ·exact ih hv
theorem Zgf {vs:List Value}{rs:List (List Int)}{Q:SortKind->Shared->Prop}(p:Paired (RowAt s.heap) vs ([]::rs)) (h:Q oneType' s):wpAny (model prog w) A (keyKind' vs.toArray) Q E s:=by
 have hT:=Zkn (prog:=prog) (w:=w) p;rw[keyKind'_eq,Wdy,map_eq_pure_bind];refine wpAny_bind (wpAny_bind (Zd3 vs _ p λfs pf=>wpAny_pure ?_));cases pf with
 |@cons f _ fs _ hf _=>
  have hf:f=none:=by
   rcases hf with z|⟨x,t,l,z,_⟩
   ·exact z.2
   ·cases z
  subst hf;rw[if_neg (by simp),if_neg (by simp)];rw[oneTypeOnly'_eq,Wdy,map_eq_pure_bind];refine wpAny_bind (wpAny_bind (wpAny_bind (PySem.W.kas_mapM (r:=.type "tuple") _ (λv hv Q' hq=>(hT v hv).here hq) (wpAny_pure ?_))));cases p with
  |@cons v _ vs _ _ _=>
   have hall:((Wbs (λ_=>Value.type "tuple") (v::vs)).toArray.all λx=>x == Value.type "tuple")=true:=by
    simp only[List.all_toArray,List.all_map,Wb7];intro _ _;exact(by decide:(Value.type "tuple" == Value.type "tuple")=true)
   have h0:(Wbs (λ_=>Value.type "tuple") (v::vs)).toArray[0]?=some (Value.type "tuple"):=by simp
   rw[h0];simp only[hall,if_true];exact wpAny_pure (wpAny_pure h)
theorem Zf9 {vs:List Value}{rs:List (List Int)}{Q:SortKind->Shared->Prop}(p:Paired (RowAt s.heap) vs rs) (hne:∀r∈rs,r≠[]) (h1:rs≠[]) (h:Q (tuples' true) s):wpAny (model prog w) A (keyKind' vs.toArray) Q E s:=by
 have ex:∃fs:List Value,PySem.W.KatTups s.heap vs fs/\fs.length=rs.length/\∀v∈fs,PySem.W.Looks (model prog w) s.heap (typeOf v) (.type "int"):=by
  clear h h1
  induction p with
  |nil=>exact⟨[],trivial,rfl,λ_ h=>nomatch h⟩
  |@cons v r vs rs q t ih=>
   obtain⟨fs,k1,k2,k3⟩:=ih λr hr=>hne r (Wav _ hr);obtain⟨a,its,rfl,⟨o,ho,hc,n,hd⟩,hi⟩:=q;cases r with
   |nil=>exact absurd rfl (hne [] Waw)
   |cons x l=>
    obtain⟨tk,us,rfl,_⟩:=Zbl hi;refine⟨.int x tk::fs,.cons ho hc hd (by simp) k1,by rw[Wap,Wap,k2],λv hv=>?_⟩;rcases Wan.mp hv with e|hv
    ·subst e;exact .now
    ·exact k3 v hv
 obtain⟨fs,k1,k2,k3⟩:=ex;have hpos:0<rs.length:=Wdt.mpr h1;exact PySem.W.kat_kind k1 (by omega) k3 (by decide) h
theorem Zow {v u:Value}{a b:List Int}{Q:Bool->Shared->Prop}(hu:A.units<cLine) (pa:RowAt s.heap u a) (pb:RowAt s.heap v b) (hle:rowLe a b) (h:Q false s):wpAny (model prog w) A (keyLt' oneType' v u) Q E s:=by
 obtain⟨l,its,rfl,⟨⟨c1,d1,dt1,sl1⟩,ho,hc,n,hd⟩,hi⟩:=pb;obtain⟨k,its2,rfl,⟨⟨c2,d2,dt2,sl2⟩,ho2,hc2,n2,hd2⟩,hi2⟩:=pa;simp only at hc hd hc2 hd2;subst hc hd hc2 hd2;rw[keyLt'_oneType,oneLt'_eq];simp only[if_true];refine wpAny_bind (wpAny_cRoomFor hu ?_);refine wpAny_bind (wpAny_callSpecialIfBound?_slot (T:="tuple") ⟨_,ho,rfl⟩ F.slot_tuple_lt (call_meets F.slot_tuple_lt ⟨_,ho,rfl⟩ F.entry_tuple_lt (F.args_tuple_lt_2 _ _) (Zkh l k its.toArray its2.toArray n n2 d1 d2 sl1 sl2) ⟨ho,ho2,?_,?_⟩))
 ·rcases hle with z|⟨x,y,s',t',rfl,rfl,hlt⟩
  ·subst z;rw[Zfx hi2];exact .inl rfl
  ·obtain⟨t1,us1,rfl,_⟩:=Zbl hi
   obtain⟨t2,us2,rfl,_⟩:=Zbl hi2;exact .inr ⟨y,x,t1,t2,us1,us2,rfl,rfl,hlt⟩
 ·exact wpAny_truthy_bool h
theorem Zoc {v u:Value}{a b:List Int}{Q:Bool->Shared->Prop}(pa:RowAt s.heap u a) (pb:RowAt s.heap v b) (hne:a≠[]) (hle:rowLe a b) (h:Q false s):wpAny (model prog w) A (keyLt' (tuples' true) v u) Q E s:=by
 obtain⟨l,its,rfl,⟨o1,ho,hc,n,hd⟩,hi⟩:=pb;obtain⟨k,its2,rfl,⟨o2,ho2,hc2,n2,hd2⟩,hi2⟩:=pa;rcases hle with z|⟨x,y,s',t',rfl,rfl,hlt⟩
 ·exact absurd z hne
 ·obtain⟨t1,us1,rfl,_⟩:=Zbl hi
  obtain⟨t2,us2,rfl,_⟩:=Zbl hi2;refine PySem.W.kat_lt ho hd ho2 hd2 ?_;show PySem.W.KatLex prog w A true _ Q ((Value.int y t1,Value.int x t2)::us1.zip us2) 0 s;refine PySem.W.kat_cons (EqAt.int_int y t1 x t2 prog w _ _ ?_);have e:(y == x)=false:=by rw[beq_eq_false_iff_ne];omega
  rw[e];refine PySem.W.kat_no ?_;refine oneLt_int ?_;rw[decide_eq_false (show ¬ y<x by omega)];exact h
end
section
variable {X:Cx}
def rInU (K:W.Frag) (neg:Bool):R2:=λx y H Q=>rIn K neg x y H Q\/(∃a o,y=.ref a/\DGet H a x o/\Q (.bl (if neg then !o.isSome else o.isSome)) H) ∨
 ∃a S n i,y=.ref a/\x=.int i/\H a=some (.set S n)/\Q (.bl (if neg then !S i else S i)) H
theorem notinK (K:W.Frag) (hu:X.A.units+1<cLine) (hK:X.K=K:=by rfl):OpR X (compareOp .NotIn) (rInU K true):=by
 subst hK;intro pins s σ H x y v u Q I rx ry h;rcases h with h|⟨a,o,rfl,hd,q⟩|⟨a,S,n,i,rfl,rfl,hs,q⟩
 ·exact Zhr pins s σ H x y v u Q I rx ry h
 ·cases ry
  exact Zq7 hu I hd rx λs' I'=>⟨.bl _,H,I',rfl,q⟩
 ·cases ry
  obtain⟨t,rfl⟩:=rx;exact wpAny_notInSet_of (knd:=intKind X.prog X.w) (k:=i) (by simp[intKind,Value.isInt]) rfl (I.hok a _ hs) ⟨.bl _,H,I.tok _,rfl,q⟩
def rSet0:List V->Hp->VK->Prop:=λxs H Q=>xs=[]/\∀p,H p=none->Q (.ref p) (upd H p (.set (λ_=>false) 0))
theorem Zk4:CallR X (.type "set") rSet0:=by
 intro pins s σ H xs us Q I r h;obtain⟨rfl,q⟩:=h;cases r;refine call_set_0 λled=>⟨.ref s.heap.objs.size,_,I.laid (t':=s.toks) (λ_ _ z=>Wac _ z) (Wah _) ?_,rfl,q _ (I.hok.fresh (Wah _))⟩;exact(setObjOf_fresh (knd:=intKind X.prog X.w) led).setOf (Wao _ rfl) (by decide)
def rSAdd:V->List V->Hp->VK->Prop:=λx vs H Q=>∃a S n i,x=.ref a/\vs=[.int i]/\H a=some (.set S n)/\n+1<4096/\Q .non (upd H a (.set (λk=>S k || decide (k=i)) (if S i then n else n+1)))
theorem Zq9:MtM X "set.add" rSAdd:=by
 intro pins s σ H x vs v us Q I rx rv h;obtain⟨a,S,n,i,rfl,rfl,hs,hn,q⟩:=h;cases rx;obtain⟨u,rfl,ru⟩:=rv.one;obtain⟨t,rfl⟩:=ru;have hS:s.heap.SetOf (intKind X.prog X.w) a S n:=I.hok a _ hs;refine call_set_add (knd:=intKind X.prog X.w) (k:=i) (by simp[intKind,Value.isInt]) rfl hS hn λh' sb hS'=>?_;refine⟨.non,_,Zgu I (by rw[hs];trivial) sb ?_ ?_,rfl,q⟩
 ·obtain⟨o,_,_,_,ho,_⟩:=hS';exact⟨o,ho⟩
 ·exact hS'
def rIndexL (K:W.Frag):V->List V->Hp->VK->Prop:=λx vs H Q=>∃(a:Addr) (ns:List Int) (i:Int),x=.ref a/\vs=[.int i]/\SqL K H a (ns.map V.int)/\ns.length<=1000/\i∈ns/\Q (.int (ns.idxOf i:Nat)) H
theorem idxLK (K:W.Frag) (hK:X.K=K:=by rfl):MtM X "list.index" (rIndexL K):=by
 subst hK;intro pins s σ H x vs v us Q I rx rv h;obtain⟨a,ns,i,rfl,rfl,hx,hl,hm,q⟩:=h;cases rx;obtain⟨u,rfl,ru⟩:=rv.one;obtain⟨t,rfl⟩:=ru;obtain⟨its,r,pl,hz⟩:=I.list hx;have hi:=Zct r;have hlen:=hi.length;obtain⟨⟨cls,dd,data,sl⟩,ho,hc,n,hd⟩:=pl.isList;simp only at hc hd;subst hc hd;have hj:ns.idxOf i<ns.length:=List.idxOf_lt_length_iff.mpr hm;refine call_meets PySem.F.slot_list_index ⟨_,ho,rfl⟩ PySem.F.entry_list_index (PySem.F.args_list_index_2 _ _)
  (list_indexAt a its.toArray n dd sl (.int i t) (isInt i) (ns.idxOf i) (by simpa [hlen] using hj) (by omega) ?_ ?_) ⟨ho,λy hy=>(eq_isInt i t hi y (by simpa using hy)).at _ _,⟨.int _,H,I.tok _,⟨_,rfl⟩,q⟩⟩
 ·show isInt i its[ns.idxOf i]=true
  rw[isInt_at i hi _ (by omega) hj];simpa using List.getElem_idxOf hj
 ·intro j hjs hlt
  show isInt i its[j]=false;rw[isInt_at i hi j (by simpa using hjs) (by omega)];exact ne_of_lt_idxOf hlt _
def rSortR (K:W.Frag):List V->Hp->VK->Prop:=λxs H Q=>∃p us rs,xs=[.ref p]/\SqL K H p us/\us.length<200/\Paired (λ(u:V) (r:List Int)=>∃a,u=.ref a/\SqT K H a (r.map V.int)) us rs/\Asc rs/\∀l,H l=none->Q (.ref l) (upd H l (.lst us))
theorem Zgw {pins:List (Addr × Obj)}{σ:St}{H:Hp}{s:Shared}(I:Inv X pins σ H s):∀{us:List V}{its:List Value}{rs:List (List Int)},Vals us its->Paired (λ(u:V) (r:List Int)=>∃a,u=.ref a/\SqT X.K H a (r.map V.int)) us rs->Paired (RowAt s.heap) its rs
 |_,_,_,.nil,.nil=>.nil
 |_,_,_,.cons r t,.cons p q=>by
  obtain⟨a,rfl,hs⟩:=p;cases r;obtain⟨its,r',pl,_⟩:=I.tuple hs;exact .cons ⟨a,its,rfl,pl,Zct r'⟩ (Zgw I t q)
theorem Paired.getD {R:Value->List Int->Prop}:∀{vs:List Value}{rs:List (List Int)}{i:Nat},Paired R vs rs->i<vs.length->∃r,rs[i]?=some r/\R (vs.getD i .none) r
 |_,_,0,.cons p _,_=>⟨_,rfl,p⟩
 |_,_,i+1,.cons _ t,h=>by
  obtain⟨r,h1,h2⟩:=Paired.getD (i:=i) t (by simpa using h);exact⟨r,by simpa using h1,by simpa using h2⟩
theorem Paired.len {R:Value->List Int->Prop}:∀{vs:List Value}{rs:List (List Int)},Paired R vs rs->vs.length=rs.length
 |_,_,.nil=>rfl
 |_,_,.cons _ t=>by rw[Wap,Wap,Paired.len t]
theorem Paired.up {R R':Value->List Int->Prop}(f:∀v r,R v r->R' v r):∀{vs:List Value}{rs:List (List Int)},Paired R vs rs->Paired R' vs rs
 |_,_,.nil=>.nil
 |_,_,.cons p t=>.cons (f _ _ p) (Paired.up f t)
theorem Zsm {rs:List (List Int)}(h:Asc rs) (h0:∀r,rs[0]?=some r->r≠[]):∀r∈rs,r≠[]:=by
 have all:∀(i:Nat) r,rs[i]?=some r->r≠[]:=by
  intro i
  induction i with
  |zero=>exact h0
  |succ i ih=>
   intro b hb;have hi:i<rs.length:=by have:=(Wae.mp hb).1;omega
   have ha:=Wab hi;rcases h i _ b ha hb with z|⟨x,y,s,t,_,e,_⟩
   ·exact absurd z (ih _ ha)
   ·rw[e];exact List.cons_ne_nil _ _
 intro r hr;obtain⟨i,hi⟩:=Wbc.mp hr;exact all i r hi
theorem sortRK (K:W.Frag) (hu:X.A.units+8<cLine) (hK:X.K=K:=by rfl):CallR X (.builtin "sorted") (rSortR K):=by
 subst hK;intro pins s σ H xs us Q I r h;obtain⟨p,ys,rs,rfl,hx,hl,hp,ha,q⟩:=h;obtain⟨u,rfl,ru⟩:=vals1 r;cases (show u=Value.ref p from ru);obtain⟨its,w1,p1,hz⟩:=I.list hx;have pr:=Zgw I w1 hp;have hlen:=w1.length;have hrl:=Paired.len pr;have fin:EP X pins σ Q (.ref (s.heap.objs.size+1)) { s with heap:=sortedAll s.heap its its.toArray }:=by
  obtain⟨e,he⟩:=sortedAll_at s.heap its its.toArray;refine⟨.ref (s.heap.objs.size+1),_,I.laid (t':=s.toks) (λ_ _ z=>sortedAll_old z) (Wdm _) (show ObjOk X.prog X.w _ _ _ (.lst ys) from ⟨hz,its,e,w1,he⟩),rfl,q _ (I.hok.fresh (Wdm _))⟩
 have hu2:X.A.in1.in1.units<cLine:=Wb3 (by show X.A.units+1+1<=X.A.units+8;omega) hu;have cmp:∀i,1<=i->i<its.length->∃a b,rs[i-1]?=some a/\RowAt s.heap (its.getD (i-1) .none) a/\RowAt s.heap (its.getD i .none) b/\rowLe a b:=λi h1 hi=>by
  obtain⟨a,ha1,ha2⟩:=Paired.getD (i:=i-1) pr (by omega);obtain⟨b,hb1,hb2⟩:=Paired.getD (i:=i) pr hi;exact⟨a,b,ha1,ha2,hb2,ha (i-1) a b ha1 (by rw[show i-1+1=i by omega];exact hb1)⟩
 by_cases h0:rs[0]?=some []
 ·refine Zf5 (κ:=oneType') p1.isList (by omega) (λ_ h' k E Q hq=>?_) (λh' k i h1 hi E Q hq=>?_) fin
  ·cases rs with
   |nil=>cases h0
   |cons r0 rs=>
    have:r0=[]:=by simpa using h0
    subst this;exact Zgf (s:={ s with heap:=h' }) (Paired.up (λv r z=>z.keep k) pr) hq
  ·obtain⟨a,b,_,c1,c2,c3⟩:=cmp i h1 hi
   exact Zow (s:={ s with heap:=h' }) hu2 (c1.keep k) (c2.keep k) c3 hq
 ·have hne:∀r∈rs,r≠[]:=Zsm ha λr hr e=>h0 (by rw[hr,e])
  refine Zf5 (κ:=tuples' true) p1.isList (by omega) (λh2 h' k E Q hq=>?_) (λh' k i h1 hi E Q hq=>?_) fin
  ·exact Zf9 (s:={ s with heap:=h' }) (Paired.up (λv r z=>z.keep k) pr) hne (by intro z;subst z;rw[Wcq]at hrl;omega) hq
  ·obtain⟨a,b,c0,c1,c2,c3⟩:=cmp i h1 hi
   exact Zoc (s:={ s with heap:=h' }) (c1.keep k) (c2.keep k) (hne a (Wak c0)) c3 hq
end
section
variable {K:W.Frag}{Δ:Evt}{P:D->Evt->Prop}
theorem Zh4 {G:Hp}{k:Key}:∀{kvs:List (Key × V)}{kds:List (Key × D)},Paired (λ(p:Key × V) (q:Key × D)=>p.1=q.1/\Rep K G p.2 q.2) kvs kds->(valV kvs k).isSome=(valD kds k).isSome
 |_,_,.nil=>rfl
 | (k1,v1)::kvs,(k2,d2)::kds,.cons ⟨e,r⟩ t=>by
  have e:k1=k2:=e;subst e;have ih:=Zh4 (k:=k) t;unfold valV valD at ih ⊢;by_cases h:k1=k
  ·rw[Wc3 (by simpa using h),Wc3 (by simpa using h)];rfl
  ·rw[Wcc (by simpa using h),Wcc (by simpa using h)];exact ih
theorem Zsb {neg:Bool}{n:Nat}{ta:TE}(h:JE K ta Δ λd Δ1=>∃x kvs i,Δ1[n]?=some x/\x.od=some (.dct kvs)/\d=.int i/\P (.bl (if neg then !(valD kvs (.inl i)).isSome else (valD kvs (.inl i)).isSome)) Δ1):JE K (tOp (rInU K neg) ta (tVar n)) Δ P:=λg G H σ Q k c=>
 h g G H σ _ k λv d G1 H1 Δ1 k1 s1 r1 hq_=>by
  obtain⟨x,kvs,i,q1,q2,q3,p⟩:=hq_;subst q3;cases r1.inv;obtain⟨a,o,w1,w2,w3,w4,w5⟩:=k1.own n x _ q1 q2;cases o with
  |dK vs=>
   refine⟨.ref a,w1,.inr (.inl ⟨a,_,rfl,DGet.k (k:=Sum.inl i) w2,?_⟩)⟩;rw[Zh4 (K:=K) (G:=G1) w3];exact c _ _ G1 H1 Δ1 k1 s1 (.bl _) p
  |_=>exact absurd w3 (λz=>z)
theorem Zsw {neg:Bool}{n:Nat}{ta:TE}(h:JE K ta Δ λd Δ1=>∃x S m i,Δ1[n]?=some x/\x.od=some (.set S m)/\d=.int i/\P (.bl (if neg then !S i else S i)) Δ1):JE K (tOp (rInU K neg) ta (tVar n)) Δ P:=λg G H σ Q k c=>
 h g G H σ _ k λv d G1 H1 Δ1 k1 s1 r1 hq_=>by
  obtain⟨x,S,m,i,q1,q2,q3,p⟩:=hq_;subst q3;cases r1.inv;obtain⟨a,o,w1,w2,w3,w4,w5⟩:=k1.own n x _ q1 q2;cases o with
  |set S' m'=>
   obtain⟨e1,e2⟩:S'=S/\m'=m:=w3;subst e1 e2;exact⟨.ref a,w1,.inr (.inr ⟨a,S',m',i,rfl,rfl,w2,c _ _ G1 H1 Δ1 k1 s1 (.bl _) p⟩)⟩
  |_=>exact absurd w3 (λz=>z)
theorem Zqz {Po:OD->Evt->Prop}(p:Po (.set (λ_=>false) 0) Δ):JO K (tCB rSet0 tNil) Δ Po:=λg G H σ Q k c=>by
 refine⟨rfl,λl hl=>?_⟩;obtain⟨k2,pd⟩:=k.fresh (od:=.set (λ_=>false) 0) hl (show OwnRep K G (.set (λ_=>false) 0) (.set (λ_=>false) 0) from ⟨rfl,rfl⟩);exact c l _ G _ Δ k2 (Same.refl _) pd p
theorem Zp6 {n:Nat}{te:TE}{x:Slot}{S0:Int->Bool}{n0:Nat}{nx bk ct:Evt->Prop}{rt:D->Evt->Prop}{ro:OD->Evt->Prop}(hx:Δ[n]?=some x) (ho:x.od=some (.set S0 n0))
  (h:JE K te Δ λd Δ1=>∃y S m i,Δ1[n]?=some y/\y.od=some (.set S m)/\d=.int i/\m+1<4096/\nx (Δ1.set n (y.put (.set (λk=>S k || decide (k=i)) (if S i then m else m+1))))) :
  JS K (tDrop (tBM K "set" rSAdd (tVar n) (tCons te tNil))) Δ ⟨nx,rt,bk,ct,ro⟩:=λg G H σ E k c=>by
 obtain⟨a,o,h1,h2,h3,h4,h5⟩:=k.own n x _ hx ho;cases o with
 |set S1 n1=>
  refine⟨.ref a,h1,.inr (.inr (.inr ⟨rfl,_,_,h2⟩)),h g G H σ _ k λv d G1 H1 Δ1 k1 s1 r1 ⟨y,S,m,i,q1,q2,q3,q4,p⟩=>?_⟩;subst q3;cases r1.inv;obtain⟨a',o',w1,w2,w3,w4,w5⟩:=k1.own n y _ q1 q2;rw[h1]at w1;cases w1;cases o' with
  |set S' m'=>
   obtain⟨e1,e2⟩:S'=S/\m'=m:=w3;subst e1 e2;exact⟨a,S',m',i,rfl,rfl,w2,q4,c.nx σ G1 _ _ (k1.write q1 q2 h1 (show OwnRep K G1 (.set _ _) (.set _ _) from ⟨rfl,rfl⟩)) p⟩
  |_=>exact absurd w3 (λz=>z)
 |_=>exact absurd h3 (λz=>z)
theorem Zh6 {to te:TE}(h:JE K to Δ λd Δ1=>∃ns:List Int,d=.lst (ns.map D.int)/\ns.length<=1000/\JE K te Δ1 λe Δ2=>∃i,e=.int i/\i∈ns/\P (.int (ns.idxOf i:Nat)) Δ2) :
  JE K (tBM K "list" (rIndexL K) to (tCons te tNil)) Δ P:=λg G H σ Q k c=>
 h g G H σ _ k λv d G1 H1 Δ1 k1 s1 r1 hq_=>by
  obtain⟨ns,e,hl,p1⟩:=hq_;subst e;obtain⟨a,vs,rfl,ha,rs⟩:=r1.inv
  next=>
   refine⟨.inl ⟨rfl,_,SqL.of (k1.live _ _ ha)⟩,p1 g G1 H1 σ _ k1 λu e G2 H2 Δ2 k2 s2 r2 ⟨i,q1,q2,p⟩=>?_⟩;subst q1;cases r2.inv;have ev:vs=ns.map V.int:=rs.ints;subst ev;exact⟨a,ns,i,rfl,rfl,SqL.of (k2.live _ _ (s2 _ _ ha)),hl,q2,c _ _ G2 H2 Δ2 k2 (s1.trans s2) (.int _) p⟩
def rowD (r:List Int):D:=.tup (r.map D.int)
theorem Zgx {G H:Hp}(l:Same G H):∀{vs:List V}{rs:List (List Int)},Reps K G vs (rs.map rowD)->Paired (λ(u:V) (r:List Int)=>∃a,u=.ref a/\SqT K H a (r.map V.int)) vs rs
 |[],[],_=>.nil
 |[],_::_,h=>by cases h
 |_::_,[],h=>by cases h
 |v::vs,r::rs,h=>by
  cases h with
  |cons r1 t=>
   obtain⟨a,us,rfl,ha,rr⟩:=r1.inv
   next=>
    have ev:=rr.ints;subst ev;exact .cons ⟨a,rfl,SqT.of (l _ _ ha)⟩ (Zgx l t)
theorem Zju {ta:TA}{Po:OD->Evt->Prop}(h:JA K ta Δ λds Δ1=>∃rs:List (List Int),ds=[.lst (rs.map rowD)]/\rs.length<200/\Asc rs/\Po (.lst (rs.map rowD)) Δ1):JO K (tCB (rSortR K) ta) Δ Po:=λg G H σ Q k c=>
 h g G H σ _ k λvs ds G1 H1 Δ1 k1 s1 r1 hq_=>by
  obtain⟨rs,e,hl,ha,p⟩:=hq_;subst e;obtain⟨_,_,rfl,r,t⟩:=r1.inv
  next=>
   cases t.inv;obtain⟨a,us,rfl,ha',rr⟩:=r.inv
   next=>
    have hlen:=rr.length;rw[Waa]at hlen;refine⟨a,us,rs,rfl,SqL.of (k1.live _ _ ha'),by omega,Zgx k1.live rr,ha,λl hl=>?_⟩;obtain⟨k2,pd⟩:=k1.fresh (od:=.lst (rs.map rowD)) hl (show OwnRep K G1 (.lst us) (.lst (rs.map rowD)) from rr);exact c l _ G1 _ Δ1 k2 s1 pd p
end
theorem Zom {A:Around}{k:Nat}(hr:Room k A):A.units+8<cLine:=Wb3 (Wdw (by decide:8<=64) _) hr.units
open PySem PySem.Spec PyProof.Rows PySem.SeqAt
section
variable {X:Cx}
def rSortI (K:W.Frag):List V->Hp->VK->Prop:=λxs H Q=>∃(p:Addr) (ns:List Int),xs=[.ref p]/\SqL K H p (ns.map V.int)/\ns.length<64/\∀(l:Addr) (ms:List Int),ms.Perm ns->ms.Pairwise (· <= ·)->H l=none->Q (.ref l) (upd H l (.lst (ms.map V.int)))
theorem Zdx:∀{vs:List Value}{ns:List Int},vs.length=ns.length->(∀(i:Nat) v,vs[i]?=some v->∃t,v=.int (ns.getD i 0) t)->IntsAre vs ns
 |[],[],_,_=>.nil
 |[],_::_,h,_=>by simp at h
 |_::_,[],h,_=>by simp at h
 |v::vs,n::ns,h,g=>by
  obtain⟨t,rfl⟩:=g 0 v rfl;exact .cons n t (Zdx (by simpa using h) λi u e=>by simpa using g (i+1) u (by simpa using e))
theorem sortIK (K:W.Frag) (hK:X.K=K:=by rfl):CallR X (.builtin "sorted") (rSortI K):=by
 subst hK;intro pins s σ H xs us Q I r h;obtain⟨p,ns,rfl,hx,hl,q⟩:=h;obtain⟨u,rfl,ru⟩:=vals1 r;cases (show u=Value.ref p from ru);obtain⟨its,w1,p1,hz⟩:=I.list hx;have hi:=Zct w1;have hlen:=hi.length;refine sorted_ints p1.isList hi (by omega) λout ms o1 o2 o3=>?_;obtain⟨e,he⟩:=sortedAll_at s.heap its out;have hml:=o2.length_eq;refine⟨.ref (s.heap.objs.size+1),_,I.laid (t':=s.toks) (λ_ _ z=>sortedAll_old z) (Wdm _) (show ObjOk X.prog X.w _ _ _ (.lst (ms.map V.int)) from ⟨?_,out.toList,e,Zeh o1,?_⟩),rfl,q _ ms o2 o3 (I.hok.fresh (Wdm _))⟩
 ·rw[Waa];exact Wb1 (small1000 (by omega))
 ·rw[Array.toArray_toList];exact he
def tLR (ta:TA):TE:=λσ H Q=>ta σ H λvs H1=>∃n:Nat,vs=[.int (n:Int)]/\n<=1000/\∀l,H1 l=none->Q (.ref l) (upd H1 l (.lst ((Wa1 n).map λi:Nat=>V.int (i:Int))))
theorem Zev {a:Expr}{ta:TA}{p p2 pos pos2:Pos}(hc:X.calm=true) (hgL:Gl X "list") (hmL:X.mg "list" = none) (hgR:Gl X "range") (hmR:X.mg "range" = none) (ha:PA X [a] ta) (hs:starEach [a] X.env=[(false,eval a X.env)]:=by rfl)
  (he:starEach [.Call (.Name "range" p2) [a] [] pos2] X.env=[(false,eval (.Call (.Name "range" p2) [a] [] pos2) X.env)]:=by rfl) :
  PE X (.Call (.Name "list" p) [.Call (.Name "range" p2) [a] [] pos2] [] pos) (tLR ta):=by
 intro pins s σ H Q I h;refine wpAny_Call_Name_kw (Zdu I hgL hmL Zfn ?_);refine PyProof.Rows.callWith_type1 ?_ he rfl;rw[he];show wpAny _ _ (spliced ((false,eval (.Call (.Name "range" p2) [a] [] pos2) X.env)::backTo pos [])) _ _ s;refine Calls.spliced_cons ?_;refine Call_ (Zdu I hgR hmR boot_range (PyProof.Rows.callWith_type1 (thn (ha pos2 pins s σ H _ I h) λus s1 ⟨vs,H1,I1,r1,q1⟩=>?_) hs rfl));obtain⟨n,e,hn,q⟩:=q1;subst e;cases r1 with
 |cons r rr=>
  cases rr;obtain⟨t,rfl⟩:=r;refine call_range_1 (Calls.spliced_nil ?_);have I2:Inv X pins σ H1 { s1 with heap:=s1.heap.push { cls:=.type "range",data:=.fields #[.int 0 s1.toks,.int (n:Int) t,.int 1 (s1.toks+1)] },toks:=s1.toks+1+1 }:=I1.kept λb o e=>Wac _ e;refine call_list_range (a:=0) (b:=(n:Int)) (c:=1) (n:=n) (I1.ok.hd hc) (IsRange.new ..) (small_one (by decide) (by decide) (by omega) (by omega)) (by rw[rangeSize_one];split <;> omega) (by omega) λh' tk acc c' hk hD hI=>?_
  have hl:acc.size=n:=hI.1;refine⟨.ref _,_,I2.laid (t':=tk) hk (Wah _) (show ObjOk X.prog X.w _ h' _ (.lst ((Wa1 n).map λi:Nat=>V.int (i:Int))) from ⟨?_,acc.toList,c',?_,?_⟩),rfl,q _ (I2.hok.fresh (Wah _))⟩
  ·rw[Waa,Wbb];exact Wb1 (small1000 hn)
  ·have:IntsAre acc.toList ((Wa1 n).map λi:Nat=>(i:Int)):=by
    refine Zdx (by rw[Array.length_toList,hl,Waa,Wbb]) λi v e=>?_;have hi:i<n:=by
     have:=(Wae.mp e).1;rw[Array.length_toList,hl]at this;exact this
    obtain⟨t',rfl⟩:=hI.2 i v (by rw[<- Array.getElem?_toList];exact e);refine⟨t',?_⟩;rw[Waf,Wag,Wcl hi];show Value.int (0+(i:Int)*1) t'=Value.int (i:Int) t';rw[Wcr,Int.mul_one]
   have:=Zeh this;rw[Wa2]at this;exact this
  ·rw[Array.toArray_toList];exact hD
end
section
variable {K:W.Frag}{Δ:Evt}{P:D->Evt->Prop}
theorem Zoo {ta:TA}{Po:OD->Evt->Prop}(h:JA K ta Δ λds Δ1=>∃ns:List Int,ds=[.lst (ns.map .int)]/\ns.length<64/\∀ms:List Int,ms.Perm ns->ms.Pairwise (· <= ·)->Po (.lst (ms.map .int)) Δ1):JO K (tCB (rSortI K) ta) Δ Po:=λg G H σ Q k c=>
 h g G H σ _ k λvs ds G1 H1 Δ1 k1 s1 r1 hq_=>by
  obtain⟨ns,e,hl,p⟩:=hq_;subst e;obtain⟨_,_,rfl,r,t⟩:=r1.inv
  next=>
   cases t.inv;obtain⟨a,us,rfl,ha,rr⟩:=r.inv
   next=>
    have ev:=rr.ints;subst ev;refine⟨a,ns,rfl,SqL.of (k1.live _ _ ha),hl,λl ms o1 o2 hl=>?_⟩;obtain⟨k2,pd⟩:=k1.fresh (od:=.lst (ms.map .int)) hl (show OwnRep K G1 (.lst (ms.map V.int)) (.lst (ms.map .int)) from Reps.ofInts ms);exact c l _ G1 _ Δ1 k2 s1 pd (p ms o1 o2)
theorem Zr8 {ta:TA}{Po:OD->Evt->Prop}(h:JA K ta Δ λds Δ1=>∃n:Nat,ds=[.int (n:Int)]/\n<=1000/\Po (.lst ((Wa1 n).map λi:Nat=>D.int (i:Int))) Δ1):JO K (tLR ta) Δ Po:=λg G H σ Q k c=>
 h g G H σ _ k λvs ds G1 H1 Δ1 k1 s1 r1 hq_=>by
  obtain⟨n,e,hl,p⟩:=hq_;subst e;obtain⟨_,_,rfl,r,t⟩:=r1.inv
  next=>
   cases t.inv;cases r.inv;refine⟨n,rfl,hl,λl hl=>?_⟩;obtain⟨k2,pd⟩:=k1.fresh (od:=.lst ((Wa1 n).map λi:Nat=>D.int (i:Int))) hl (show OwnRep K G1 (.lst ((Wa1 n).map λi:Nat=>V.int (i:Int))) (.lst ((Wa1 n).map λi:Nat=>D.int (i:Int))) from by
    have:=Reps.ofInts (K:=K) (G:=G1) ((Wa1 n).map λi:Nat=>(i:Int));rw[Wa2,Wa2]at this;exact this)
   exact c l _ G1 _ Δ1 k2 s1 pd p
theorem Zqx {n:Nat}{t1 t2:TE}{x:Slot}{ds0:List D}{nx bk ct:Evt->Prop}{rt:D->Evt->Prop}{ro:OD->Evt->Prop}(hx:Δ[n]?=some x) (ho:x.od=some (.lst ds0))
  (h:JE K t1 Δ λe1 Δ1=>JE K t2 Δ1 λe2 Δ2=>∃y i ds,e1=.int i /\ Δ2[n]?=some y/\y.od=some (.lst ds)/\ds.length<sizeLine /\ -(2 ^ 62)<=i/\i<2 ^ 62/\nx (Δ2.set n (y.put (.lst (ds.take (insI ds.length i)++e2::ds.drop (insI ds.length i)))))) :
  JS K (tDrop (tBM K "list" rInsert (tVar n) (tCons t1 (tCons t2 tNil)))) Δ ⟨nx,rt,bk,ct,ro⟩:=λg G H σ E k c=>by
 obtain⟨a,o,h1,h2,h3,h4,h5⟩:=k.own n x _ hx ho;cases o with
 |lst vs0=>
  refine⟨.ref a,h1,.inl ⟨rfl,_,SqL.of h2⟩,h g G H σ _ k λv1 e1 G1 H1 Δ1 k1 s1 r1 p1=>p1 g G1 H1 σ _ k1 λv2 e2 G2 H2 Δ2 k2 s2 r2 ⟨y,i,ds,q1,q2,q2',q3,q4,q5,p⟩=>?_⟩;subst q1;cases r1.inv;obtain⟨a2,o2,u1,u2,u3,u4,u5⟩:=k2.own n y _ q2 q2';rw[h1]at u1;cases u1;cases o2 with
  |lst vs=>
   have u3:Reps K G2 vs ds:=u3;refine⟨_,vs,i,v2,rfl,rfl,u2,by rw[u3.length];exact q3,q4,q5,?_⟩;have k3:=k2.write q2 q2' h1 (show OwnRep K G2 (.lst (vs.take (insI vs.length i)++v2::vs.drop (insI vs.length i))) (.lst (ds.take (insI ds.length i)++e2::ds.drop (insI ds.length i))) from by
    rw[u3.length];exact(u3.take _).append (.cons r2 (u3.drop _)))
   exact c.nx σ G2 _ _ k3 p
  |_=>exact absurd u3 (λz=>z)
 |_=>exact absurd h3 (λz=>z)
end
open PySem PySem.Spec PyProof.Rows PySem.SeqAt
section
variable {prog:Program}{w:World}
end
section
variable {prog:Program}{w:World}{A:Around}{E:Value->Shared->Prop}{s:Shared}
end
end L2
namespace L2
open PySem PySem.Spec PyProof.Rows PySem.SeqAt
end L2
namespace L2
open PySem PySem.Spec PyProof.Rows PySem.SeqAt
section
variable {prog:Program}{w:World}{A:Around}{E:Value->Shared->Prop}{s:Shared}
end
end L2
namespace L2
open PySem PySem.Spec PyProof.Rows PySem.SeqAt
end L2
namespace L2
open PySem PySem.Spec PyProof.Rows PySem.SeqAt
end L2
namespace L2
open PySem PySem.Spec PyProof.Rows PySem.SeqAt
section
variable {K:W.Frag}{Δ:Evt}
end
section
variable {X:Cx}
end
open PySem PySem.Spec PyProof.Rows PySem.SeqAt
section
variable {X:Cx}
theorem intsAt {its:List Value}{ns:List Int}(hi:IntsAre its ns):∀j (h:j<its.length),∃t,its[j]=.int (ns.getD j 0) t:=by
 induction hi with
 |nil=>intro j h;simp at h
 |cons n t _ ih=>
  intro j h;cases j with
  |zero=>exact⟨t,rfl⟩
  |succ j=>simpa using ih j (by simpa using h)
def rNeI (K:W.Frag):R2:=λx y H Q=>∃(a b:Addr) (ns:List Int),x=.ref a/\y=.ref b/\SqL K H a (ns.map V.int)/\SqL K H b (ns.map V.int)/\Q (.bl false) H
theorem neIK (K:W.Frag) (hv:X.A.units+8<cLine) (hK:X.K=K:=by rfl):OpR X (compareOp .NotEq) (rNeI K):=by
 subst hK;intro pins s σ H x y v u Q I rx ry h;obtain⟨a,b,ns,rfl,rfl,ha,hb,q⟩:=h;cases rx;cases ry;obtain⟨its,w1,p1,_⟩:=I.list ha;obtain⟨its2,w2,p2,_⟩:=I.list hb;have i1:=Zct w1;have i2:=Zct w2;have l1:=i1.length;have l2:=i2.length;have hsz:its.toArray.size=its2.toArray.size:=by rw[Wam,Wam];omega
 refine RcNeAt.lists (A:=X.A) (s:=s) (e:=λ_=>true) p1.isList p2.isList hsz (by omega) (λj h1 h2=>?_) X.prog X.w _ _ ?_
 ·rw[Wam]at h1 h2
  obtain⟨t1,e1⟩:=intsAt i1 j h1;obtain⟨t2,e2⟩:=intsAt i2 j h2;rw[List.getElem_toArray,List.getElem_toArray,e1,e2];have:=EqAt.int_int (A:=X.A.in1) (s:=s) (ns.getD j 0) t1 (ns.getD j 0) t2;rw[beq_self_eq_true]at this;exact this
 ·have:(!(Wa1 its.toArray.size).all λ_=>true)=false:=by
   rw[Wb7.mpr (λ_ _=>rfl)];rfl
  rw[this];exact⟨.bl false,H,I,rfl,q⟩
end
section
variable {K:W.Frag}{Δ:Evt}{P:D->Evt->Prop}
theorem Zsq {ns:List Int}(p:P (.bl false) Δ):JR2 K (rNeI K) (.lst (ns.map .int)) (.lst (ns.map .int)) Δ P:=λg G H σ Q x y k rx ry c=>by
 obtain⟨a,vs,rfl,ha,rs⟩:=rx.inv
 next=>
  obtain⟨b,us,rfl,hb,rt⟩:=ry.inv
  next=>
   have e1:=rs.ints;have e2:=rt.ints;subst e1 e2;exact⟨a,b,ns,rfl,rfl,SqL.of (k.live _ _ ha),SqL.of (k.live _ _ hb),c _ _ G H Δ k (Same.refl _) (.bl _) p⟩
theorem Zpg {r r':R2}{ta tb tc:TE}(h:JE K ta Δ λd Δ1=>JE K tb Δ1 λe Δ2=>JR2 K r d e Δ2 λz Δ3=>∃k,z=.bl k/\if k=true then JE K tc Δ3 λu Δ4=>JR2 K r' e u Δ4 P else P (.bl false) Δ3):JE K (tChain r r' ta tb tc) Δ P:=λg G H σ Q k c=>
 h g G H σ _ k λx d G1 H1 Δ1 k1 s1 r1 p1=>p1 g G1 H1 σ _ k1 λy e G2 H2 Δ2 k2 s2 r2 p2=>p2 g G2 H2 σ _ x y k2 (r1.mono s2) r2 λz dz G3 H3 Δ3 k3 s3 r3 hq_=>by
  obtain⟨b,eb,p3⟩:=hq_;subst eb;cases r3.inv;refine⟨b,rfl,?_⟩;cases b with
  |true=>
   rw[if_pos rfl]at p3 ⊢;exact p3 g G3 H3 σ _ k3 λu du G4 H4 Δ4 k4 s4 r4 p4=>p4 g G4 H4 σ Q y u k4 (r2.mono (s3.trans s4)) r4 (c.up (s1.trans (s2.trans (s3.trans s4))))
  |false=>
   rw[if_neg Waj]at p3 ⊢;exact c _ _ G3 H3 Δ3 k3 (s1.trans (s2.trans s3)) (.bl false) p3
end
section
variable {K:W.Frag}{Δ:Evt}
theorem Zgr {i:Nat}{d:D}{ds:List D}{P:List D->Evt->Prop}(h:Δ[i]?=some (.val d)) (hd:d=.tup ds\/d=.lst ds) (p:P ds Δ):JI K (iSeq K (tVar i)) Δ P:=by
 rcases hd with rfl|rfl
 ·exact Zd1 (Zac h ⟨_,rfl,p⟩)
 ·exact Zge (Zac h ⟨_,Or.inl rfl,p⟩)
end
open PySem PySem.Spec PyProof.Rows PySem.SeqAt
section
variable {K:W.Frag}{Δ:Evt}{P:D->Evt->Prop}
end
section
variable {K:W.Frag}{Δ:Evt}
end
section
variable {prog:Program}{w:World}{A:Around}{E:Value->Shared->Prop}{s:Shared}
theorem Ziq {l:Addr}{vs:List Value}{Q:List Value->Shared->Prop}(hl:s.heap.IsTuple l vs.toArray)
  (h:Q vs { s with heap:=(s.heap.push (seqObj "list" #[] 0)).update s.heap.objs.size (Obj.mapSeq (· ++ vs.toArray)) }) (hsz:vs.length<=sizeLine) :
  wpAny (model prog w) A (collect (.ref l)) Q E s:=by
 obtain⟨o,ho,hc,n,hd⟩:=id hl;unfold collect;refine wpAny_bind (wpAny_runValue (codeAny_builtin entry_proto_collect' ?_));show wpAny _ _ (do again (.builtin "list.__iadd__" ⟨[← newList [],.ref l],[]⟩)) _ _ s;refine wpAny_bind (wpAny_newList (wpAny_pure ⟨Code.quiet_builtin _ (by decide +kernel),codeAny_builtin entry_list_iadd' ?_⟩));show wpAny _ _ (Builtin.List.listExtendWith (.ref s.heap.objs.size) (.ref l) (.ref s.heap.objs.size)) _ _ { s with heap:=s.heap.push (seqObj "list" #[] 0) };unfold Builtin.List.listExtendWith;have ho':(s.heap.push (seqObj "list" #[] 0)).get? l=some o:=Wac _ ho;refine wpAny_bind (wpAny_typeOf (T:="tuple") ⟨o,ho',hc⟩ ?_);have ht:(Value.type "tuple" == Value.type "tuple")=true:=by rfl
 rw[if_pos (by rw[ht];simp)];refine wpAny_bind (listItems_at ho' hd ?_);refine wpAny_bind (listItems_at (xs:=#[]) (n:=0) (Wao _ rfl) rfl ?_);rw[if_neg (by simp)];refine wpAny_bind (listUpdate_at (xs:=#[]) (n:=0) (Wao _ rfl) rfl ?_ (Wbw _) (by show (#[]++vs.toArray).size<=sizeLine+1;simp only[Array.size_append,Wam,Wcq];omega));refine wpAny_pure ?_;show wpAny (model prog w) A (do
   let o ← load s.heap.objs.size
   match o.data with
   |.seq xs _=>pure xs.toList
   |_=>unsupported "internal:collect") Q E { s with heap:=(s.heap.push (seqObj "list" #[] 0)).update s.heap.objs.size (Obj.mapSeq (· ++ vs.toArray)) }
 refine wpAny_bind (wpAny_load (get?_update_seq (Wao _ rfl) _) ?_);show wpAny _ _ (pure ((#[]:Array Value)++vs.toArray).toList) Q E _;rw[show ((#[]:Array Value)++vs.toArray).toList=vs by simp];exact wpAny_pure h
end
section
variable {K:W.Frag}{Δ:Evt}{P:D->Evt->Prop}
end
section
variable {X:Cx}
end
section
variable {K:W.Frag}{Δ:Evt}{P:D->Evt->Prop}
theorem Zs9 {x:Str}(p:P (.bl false) Δ):JR2 K rNe (.str x) (.str x) Δ P:=λg G H σ Q u v k rx ry c=>by
 cases rx.inv;cases ry.inv;refine⟨rfl,?_⟩;rw[decide_eq_true rfl];exact c _ _ G H Δ k (Same.refl _) (.bl _) p
end
structure GB (kd:SortKind) (a0:Array Keyed) (t:SortSt):Prop where
 pm:(arrOf t).Perm a0
 kd:kindOf t=kd
 fl:failedOf t=none
 pd:pendingOf t = #[]
theorem GB.sz {kd:SortKind}{a0:Array Keyed}{t:SortSt}(g:GB kd a0 t):(arrOf t).size=a0.size:=g.pm.size_eq
theorem GB.put {kd:SortKind}{a0:Array Keyed}{t:SortSt}(g:GB kd a0 t) {xs:Array Keyed}(hp:xs.Perm (arrOf t)):GB kd a0 (setArr t xs):=⟨hp.trans g.pm,g.kd,g.fl,g.pd⟩
section
variable {prog:Program}{w:World}{A:Around}{E:Value->Shared->Prop}{s:Shared}{a0:Array Keyed}{κ:KeyKind}{kd:SortKind}
def Orc (prog:Program) (w:World) (A:Around) (E:Value->Shared->Prop) (s:Shared) (κ:KeyKind) (kd:SortKind) (a0:Array Keyed):Prop:=
 ∀t,GB kd a0 t->∀i j,i<a0.size->j<a0.size->∀Q:Option Bool->SortSt->Prop,Q (some (κ.blt (KK κ (arrOf t) i) (KK κ (arrOf t) j))) t->wpS (model prog w) A E s (ltAt' i j) Q t
theorem Zsv {xs:Array Keyed}{m:Nat}(h:SortedToK κ xs m) (hl:m=0 \/ κ.kle (KK κ xs (m-1)) (KK κ xs m)):SortedToK κ xs (m+1):=λi j hij hj=>by
 rcases Wdr j m with z|z
 ·exact h i j hij z
 ·have e:j=m:=by omega
  subst e;rcases Wdr i j with y|y
  ·rcases hl with q|q
   ·omega
   ·exact KeyOrd.kle_trans (h i (j-1) (by omega) (by omega)) q
  ·have e:i=j:=by omega
   subst e;exact KeyOrd.kle_refl _
theorem Zd9 {xs:Array Keyed}{m:Nat}(h:NonIncK κ xs m) (hl:m=0 \/ κ.kle (KK κ xs m) (KK κ xs (m-1))):NonIncK κ xs (m+1):=λi j hij hj=>by
 rcases Wdr j m with z|z
 ·exact h i j hij z
 ·have e:j=m:=by omega
  subst e;rcases Wdr i j with y|y
  ·rcases hl with q|q
   ·omega
   ·exact KeyOrd.kle_trans q (h i (j-1) (by omega) (by omega))
  ·have e:i=j:=by omega
   subst e;exact KeyOrd.kle_refl _
theorem Zub (O:Orc prog w A E s κ kd a0) {t:SortSt}{n ok:Nat}{Q:Bool->SortSt->Prop}(hn:n<=a0.size) (hok:ok<=n) (g:GB kd a0 t) (hs:SortedToK κ (arrOf t) ok)
  (h:∀u,GB kd a0 u->SortedToK κ (arrOf u) n->Q true u):wpS (model prog w) A E s (binarySort' 0 n ok) Q t:=by
 rw[binarySort'_eq];simp only[Wdg];refine wpS_bind (wpS_mono (wpS_forRange (I:=λk c u=>c=(none,())/\GB kd a0 u/\SortedToK κ (arrOf u) (min k n)) (Q:=λc u=>c=(none,())/\GB kd a0 u/\SortedToK κ (arrOf u) n) ?st ?fi ?be) ?po)
 case po=>
  rintro c u ⟨rfl,g',h'⟩;exact wpS_pure (h u g' h')
 case be=>
  refine⟨rfl,g,λi j hij hj=>?_⟩;rcases Nat.eq_zero_or_pos ok with z|z
  ·have e:i=j:=by omega
   subst e;exact KeyOrd.kle_refl _
  ·exact hs i j hij (by omega)
 case fi=>
  rintro c u ⟨hc,g',h'⟩;rw[show min (max (max ok 1) n) n=n by omega]at h';exact⟨hc,g',h'⟩
 case st=>
  rintro k c u hak hkn ⟨rfl,g',h'⟩;rw[show min k n=k by omega]at h';have hk:k<a0.size:=by omega
  refine wpS_bind (wpS_mono (wpS_forRange
   (I:=λx c v=>v=u/\∃l r,c=(none,l,r)/\l<=r/\r<=k/\r-l<=k-x/\(∀i,i<l -> κ.kle (KK κ (arrOf u) i) (KK κ (arrOf u) k))/\∀i,r<=i->i<k -> κ.klt (KK κ (arrOf u) k) (KK κ (arrOf u) i))
   (Q:=λc v=>v=u/\∃l r,c=(none,l,r)/\l<=k/\(∀i,i<l -> κ.kle (KK κ (arrOf u) i) (KK κ (arrOf u) k))/\∀i,l<=i->i<k -> κ.klt (KK κ (arrOf u) k) (KK κ (arrOf u) i)) ?ist ?ifi ?ibe) ?ipo)
  case ibe=>exact⟨rfl,0,k,rfl,by omega,by omega,by omega,λi z=>by omega,λi z y=>by omega⟩
  case ifi=>
   rintro c v ⟨rfl,l,r,rfl,z1,z2,z3,lo,hi⟩;obtain rfl:l=r:=by omega
   exact⟨rfl,l,l,rfl,z2,lo,hi⟩
  case ist=>
   rintro x c v _ hx ⟨rfl,l,r,rfl,z1,z2,z3,lo,hi⟩;dsimp only;by_cases hge:l ≥ r
   ·obtain rfl:l=r:=by omega
    rw[if_pos hge];exact wpS_pure ⟨rfl,l,l,rfl,z2,lo,hi⟩
   ·rw[if_neg hge]
    refine wpS_bind (O v g' _ _ hk (by omega) _ ?_);cases e:κ.blt (KK κ (arrOf v) k) (KK κ (arrOf v) ((l+r) / 2)) with
    |true=>
     simp only[if_true];exact wpS_pure ⟨rfl,l,(l+r) / 2,rfl,by omega,by omega,by omega,lo,λi y1 y2=>KeyOrd.klt_of_klt_of_kle e (h' _ _ y1 y2)⟩
    |false=>
     simp only[Wbi,if_false];exact wpS_pure ⟨rfl,(l+r) / 2+1,r,rfl,by omega,by omega,by omega,λi y1=>KeyOrd.kle_trans (h' i ((l+r) / 2) (by omega) (by omega)) e,hi⟩
  case ipo=>
   rintro c v ⟨rfl,l,r,rfl,hl,lo,hi⟩;show wpS _ _ _ _ (do moveDown' k l;pure (ForInStep.yield (none,()))) _ _;rw[moveDown'_eq];refine wpS_bind (wpS_modify (wpS_pure ⟨rfl,g'.put (bubble_perm _ _ _),?_⟩));rw[show min (k+1) n=k+1 by omega];have hz:k<(arrOf v).size:=by rw[g'.sz];exact hk
   intro i j hij hj;show κ.kle (KK κ (bubble (arrOf v) k (k-l)) i) (KK κ (bubble (arrOf v) k (k-l)) j);rw[KK_bubble hz (by omega),KK_bubble hz (by omega),show k-(k-l)=l by omega];by_cases i1:i=l
   ·rw[if_pos i1]
    by_cases j1:j=l
    ·rw[if_pos j1];exact KeyOrd.kle_refl _
    ·rw[if_neg j1,if_pos (by omega)]
     exact KeyOrd.kle_of_klt (hi _ (by omega) (by omega))
   ·rw[if_neg i1]
    by_cases j1:j=l
    ·rw[if_pos j1,if_neg (by omega)]
     exact lo _ (by omega)
    ·rw[if_neg j1]
     by_cases i2:l<i/\i<=k
     ·rw[if_pos i2,if_pos (by omega)]
      exact h' _ _ (by omega) (by omega)
     ·rw[if_neg i2]
      by_cases j2:l<j/\j<=k
      ·rw[if_pos j2]
       exact h' _ _ (by omega) (by omega)
      ·rw[if_neg j2]
       exact h' _ _ (by omega) (by omega)
theorem Zr5 (O:Orc prog w A E s κ kd a0) {t:SortSt}{a nr:Nat}{Q:AscSt->SortSt->Prop}(hn:nr<=a0.size) (ha:1<=a) (han:a<=nr) (g:GB kd a0 t) (hs:SortedToK κ (arrOf t) a)
  (h:∀n,a<=n->n<=nr->SortedToK κ (arrOf t) n->(n=nr \/ κ.klt (KK κ (arrOf t) n) (KK κ (arrOf t) (n-1)))->Q (none,n) t):wpS (model prog w) A E s (ascLoop a nr) Q t:=by
 unfold ascLoop;refine wpS_forRange (I:=λx c u=>u=t/\c=(none,x)/\SortedToK κ (arrOf t) x) ?st ?fi ⟨rfl,rfl,hs⟩
 case fi=>
  rintro c u ⟨rfl,rfl,h'⟩;rw[show max a nr=nr by omega]at h' ⊢;exact h nr han (Wah _) h' (Or.inl rfl)
 case st=>
  rintro x c u hax hxn ⟨rfl,rfl,h'⟩;dsimp only;refine wpS_bind (O u g _ _ (by omega) (by omega) _ ?_);cases e:κ.blt (KK κ (arrOf u) x) (KK κ (arrOf u) (x-1)) with
  |true=>
   simp only[if_true];exact wpS_pure (h x hax (by omega) h' (Or.inr e))
  |false=>
   simp only[Wbi,if_false];exact wpS_pure ⟨rfl,rfl,Zsv h' (Or.inr e)⟩
theorem Zpr (O:Orc prog w A E s κ kd a0) {t:SortSt}{n nr:Nat}{Q:Option Nat->SortSt->Prop}(hn:nr<=a0.size) (h1:1<=n) (hnn:n<=nr) (g:GB kd a0 t) (hs:NonIncK κ (arrOf t) n)
  (h:∀m u,GB kd a0 u->1<=m->m<=nr->SortedToK κ (arrOf u) m->Q (some m) u):wpS (model prog w) A E s (tail3 n nr) Q t:=by
 unfold tail3;have hz:n<=(arrOf t).size:=by rw[g.sz];omega
 refine wpS_bind (wpS_reverse ?_);have g2:GB kd a0 (setArr t (mirror (arrOf t) 0 n ((n-0) / 2))):=g.put (mirror_perm _ _ _ _);refine wpS_bind (Zr5 O hn h1 hnn g2 (λi j hij hj=>?_) λm m1 m2 m3 _=>wpS_pure (h m _ g2 (by omega) m2 m3));show κ.kle (KK κ (mirror (arrOf t) 0 n ((n-0) / 2)) i) (KK κ (mirror (arrOf t) 0 n ((n-0) / 2)) j);rw[KK_mirror hz,KK_mirror hz,if_pos (by omega),if_pos (by omega)];exact hs _ _ (by omega) (by omega)
theorem Ztk (O:Orc prog w A E s κ kd a0) {t:SortSt}{n nr:Nat}{Q:DescSt->SortSt->Prop}(hn:nr<=a0.size) (h1:1<=n) (hnn:n<=nr) (g:GB kd a0 t) (hs:NonIncK κ (arrOf t) n)
  (h:∀m q u,GB kd a0 u->n<=m->m<=nr->NonIncK κ (arrOf u) m->q+1<=m->(∀i,m-(q+1)<=i->i<m->KK κ (arrOf u) i=KK κ (arrOf u) (m-1))->Q (none,m,q) u):wpS (model prog w) A E s (descLoop n nr) Q t:=by
 unfold descLoop;refine wpS_forRange (I:=λx c u=>∃q,c=(none,x,q)/\GB kd a0 u/\NonIncK κ (arrOf u) x/\q+1<=x/\∀i,x-(q+1)<=i->i<x->KK κ (arrOf u) i=KK κ (arrOf u) (x-1)) ?st ?fi ⟨0,rfl,g,hs,by omega,λi y1 y2=>by rw[show i=n-1 by omega]⟩
 case fi=>
  rintro c u ⟨q,rfl,g',h',q1,q2⟩;rw[show max n nr=nr by omega]at h' q1 q2 ⊢;exact h nr q u g' hnn (Wah _) h' q1 q2
 case st=>
  rintro x c u hax hxn ⟨q,rfl,g',h',q1,q2⟩;dsimp only;have hz:x<=(arrOf u).size:=by rw[g'.sz];omega
  refine wpS_bind (O u g' _ _ (by omega) (by omega) _ ?_);cases e:κ.blt (KK κ (arrOf u) x) (KK κ (arrOf u) (x-1)) with
  |true=>
   simp only[if_true];by_cases hq:q > 0
   ·rw[if_pos hq]
    have same:=KK_mirror_equal hz q2;refine wpS_bind (wpS_reverse (wpS_pure ⟨0,rfl,g'.put (mirror_perm _ _ _ _),?_,by omega,λi y1 y2=>by rw[show i=x+1-1 by omega]⟩));refine Zd9 (λi j hij hj=>?_) (Or.inr ?_)
    ·show κ.kle (KK κ (mirror (arrOf u) _ _ _) j) (KK κ (mirror (arrOf u) _ _ _) i)
     rw[same,same];exact h' i j hij hj
    ·show κ.kle (KK κ (mirror (arrOf u) _ _ _) x) (KK κ (mirror (arrOf u) _ _ _) (x-1))
     rw[same,same];exact KeyOrd.kle_of_klt e
   ·rw[if_neg hq]
    exact wpS_pure ⟨0,rfl,g',Zd9 h' (Or.inr (KeyOrd.kle_of_klt e)),by omega,λi y1 y2=>by rw[show i=x+1-1 by omega]⟩
  |false=>
   simp only[Wbi,if_false];refine wpS_bind (O u g' _ _ (by omega) (by omega) _ ?_);cases e2:κ.blt (KK κ (arrOf u) (x-1)) (KK κ (arrOf u) x) with
   |true=>
    simp only[if_true];exact wpS_pure (h x q u g' hax (by omega) h' q1 q2)
   |false=>
    simp only[Wbi,if_false];have ex:KK κ (arrOf u) x=KK κ (arrOf u) (x-1):=KeyOrd.kle_antisymm e2 e;refine wpS_pure ⟨q+1,rfl,g',Zd9 h' (Or.inr e2),by omega,λi y1 y2=>?_⟩;show _=KK κ (arrOf u) x;rcases Wdr i x with y|y
    ·rw[ex];exact q2 i (by omega) y
    ·rw[show i=x by omega]
theorem Zgk (O:Orc prog w A E s κ kd a0) {t:SortSt}{n nr:Nat}{Q:Option Nat->SortSt->Prop}(hn:nr<=a0.size) (hnn:n+1<=nr) (g:GB kd a0 t) (hs:NonIncK κ (arrOf t) (n+1))
  (h:∀m u,GB kd a0 u->1<=m->m<=nr->SortedToK κ (arrOf u) m->Q (some m) u):wpS (model prog w) A E s (descPart n nr) Q t:=by
 unfold descPart;refine wpS_bind (wpS_lift (wpAny_rule ⟨rfl,?_⟩));refine wpS_bind (Ztk O hn (by omega) hnn g hs λm q u g' m1 m2 h' q1 q2=>?_);dsimp only;have hz:m<=(arrOf u).size:=by rw[g'.sz];omega
 by_cases hq:q > 0
 ·rw[if_pos hq]
  have same:=KK_mirror_equal hz q2;refine wpS_bind (wpS_reverse (Zpr O hn (by omega) m2 (g'.put (mirror_perm _ _ _ _)) (λi j hij hj=>?_) h));show κ.kle (KK κ (mirror (arrOf u) _ _ _) j) (KK κ (mirror (arrOf u) _ _ _) i);rw[same,same];exact h' i j hij hj
 ·rw[if_neg hq]
  exact Zpr O hn (by omega) m2 g' h' h
theorem Zrq (O:Orc prog w A E s κ kd a0) {t:SortSt}{nr:Nat}{Q:Option Nat->SortSt->Prop}(hn:nr<=a0.size) (h1:1<=nr) (g:GB kd a0 t)
  (h:∀m u,GB kd a0 u->1<=m->m<=nr->SortedToK κ (arrOf u) m->Q (some m) u):wpS (model prog w) A E s (countRun' 0 nr) Q t:=by
 rw[countRun0_eq];refine wpS_bind (Zr5 O hn (Wah 1) h1 g (λi j hij hj=>by have e:i=j:=(by omega);subst e;exact KeyOrd.kle_refl _) λn n1 n2 n3 n4=>?_);dsimp only;by_cases hnn:n=nr
 ·rw[if_pos (by simpa using hnn)]
  exact wpS_pure (h n t g n1 n2 n3)
 ·rw[if_neg (by simpa using hnn)]
  have lt:=n4.resolve_left hnn;by_cases hg:n > 1
  ·rw[if_pos hg]
   refine wpS_bind (O t g _ _ (by omega) (by omega) _ ?_);cases e:κ.blt (KK κ (arrOf t) 0) (KK κ (arrOf t) (n-1)) with
   |true=>
    simp only[if_true];exact wpS_pure (h n t g n1 n2 n3)
   |false=>
    simp only[Wbi,if_false];have hz:n<=(arrOf t).size:=by rw[g.sz];omega
    have all:∀k,0<=k->k<n->KK κ (arrOf t) k=KK κ (arrOf t) (n-1):=λk _ hk=>
     KeyOrd.kle_antisymm (n3 k (n-1) (by omega) (by omega)) (KeyOrd.kle_trans e (n3 0 k (by omega) hk))
    have same:=KK_mirror_equal hz all;refine wpS_bind (wpS_reverse (Zgk O hn (by omega) (g.put (mirror_perm _ _ _ _)) (Zd9 (λi j hij hj=>?_) (Or.inr ?_)) h))
    ·show κ.kle (KK κ (mirror (arrOf t) _ _ _) j) (KK κ (mirror (arrOf t) _ _ _) i)
     rw[same,same,all i (by omega) (by omega),all j (by omega) hj];exact KeyOrd.kle_refl _
    ·show κ.kle (KK κ (mirror (arrOf t) _ _ _) n) (KK κ (mirror (arrOf t) _ _ _) (n-1))
     rw[same,same];exact KeyOrd.kle_of_klt lt
  ·rw[if_neg hg]
   obtain rfl:n=1:=by omega
   refine Zgk O hn (by omega) g (Zd9 (λi j hij hj=>?_) (Or.inr (KeyOrd.kle_of_klt lt))) h;obtain rfl:i=j:=by omega
   exact KeyOrd.kle_refl _
theorem Zs2 (O:Orc prog w A E s κ kd a0) {t:SortSt}{Q:Unit->SortSt->Prop}(g:GB kd a0 t) (h2:2<=a0.size) (h64:a0.size<64)
  (h:∀u,(arrOf u).Perm a0->failedOf u=none->SortedToK κ (arrOf u) a0.size->Q () u):wpS (model prog w) A E s sortRuns' Q t:=by
 have hmr:minRun' a0.size a0.size 0=a0.size:=by
  obtain⟨f,hf⟩:∃f,a0.size=f+1:=⟨a0.size-1,by omega⟩;have:=minRun'_succ f a0.size 0;rw[if_pos h64,<- hf]at this;exact this
 rw[sortRuns'_eq];refine wpS_bind (wpS_get ?_);dsimp only;simp only[g.sz,hmr];refine wpS_bind (wpS_mono (wpS_forRange
  (I:=λx c u=>(x=0/\c=(none,0)/\GB kd a0 u)\/(1<=x/\c=(none,a0.size)/\(arrOf u).Perm a0/\failedOf u=none/\pendingOf u = #[(0,a0.size,0)]/\SortedToK κ (arrOf u) a0.size))
  (Q:=λc u=>c=(none,a0.size)/\(arrOf u).Perm a0/\failedOf u=none/\pendingOf u = #[(0,a0.size,0)]/\SortedToK κ (arrOf u) a0.size) ?st ?fi (Or.inl ⟨rfl,rfl,g⟩)) ?po)
 case fi=>
  rintro c u (⟨z,_,_⟩|⟨_,z⟩)
  ·omega
  ·exact z
 case st=>
  rintro x c u _ hx (⟨rfl,rfl,g'⟩|⟨x1,rfl,z⟩)
  ·dsimp only
   rw[if_neg (by omega)];simp only[Wdp,Wdq,Wdg];refine wpS_bind (Zrq O (Wah _) (by omega) g' λm v gv m1 m2 m3=>?_);have fin:∀v',GB kd a0 v' -> SortedToK κ (arrOf v') a0.size->(arrOf (setPending v' ((pendingOf v').push (0,a0.size,0)))).Perm a0/\failedOf (setPending v' ((pendingOf v').push (0,a0.size,0)))=none/\pendingOf (setPending v' ((pendingOf v').push (0,a0.size,0))) = #[(0,a0.size,0)]/\SortedToK κ (arrOf (setPending v' ((pendingOf v').push (0,a0.size,0)))) a0.size:=λv' gw sw=>
    ⟨gw.pm,gw.fl,by show (pendingOf v').push _=_;rw[gw.pd];rfl,sw⟩
   dsimp only;by_cases hlt:m<a0.size
   ·rw[if_pos hlt]
    refine wpS_bind (wpS_lift (wpAny_rule ⟨rfl,?_⟩));refine wpS_bind (Zub O (Wah _) m2 gv m3 λv' gw sw=>?_);simp only[Bool.not_true,Wbi,if_false];refine wpS_bind (wpS_get ?_);rw[show (pendingOf v').back?=none by rw[gw.pd];rfl];dsimp only;exact wpS_bind (wpS_modify (wpS_pure (Or.inr ⟨by omega,rfl,fin v' gw sw⟩)))
   ·rw[if_neg hlt]
    obtain rfl:m=a0.size:=by omega
    refine wpS_bind (wpS_get ?_);rw[show (pendingOf v).back?=none by rw[gv.pd];rfl];dsimp only;exact wpS_bind (wpS_modify (wpS_pure (Or.inr ⟨by omega,rfl,fin v gv m3⟩)))
  ·dsimp only
   rw[if_pos (Wah _)];exact wpS_pure ⟨rfl,z⟩
 case po=>
  rintro c u ⟨rfl,z1,z2,z3,z4⟩;dsimp only;refine wpS_bind (wpS_mono (wpS_forRange (I:=λ_ c v=>v=u/\c=(none,())) (Q:=λc v=>v=u/\c=(none,())) ?_ (λ_ _ q=>q) ⟨rfl,rfl⟩) ?_)
  ·rintro x c v _ _ ⟨rfl,rfl⟩
   refine wpS_bind (wpS_get ?_);rw[if_pos (by rw[z3];exact Wah 1)];exact wpS_pure ⟨rfl,rfl⟩
  ·rintro c v ⟨rfl,rfl⟩
   exact wpS_pure (h _ z1 z2 z4)
end
abbrev rlt:=HT.lexLt
theorem Zet (x y:Int) (xs ys:List Int):rlt (x::xs) (y::ys)=if x=y then rlt xs ys else decide (x<y):=rfl
theorem Zlu:∀a:List Int,rlt a a=false
 |[]=>rfl
 |x::a=>by rw[Zet,if_pos rfl];exact Zlu a
theorem Zpz:∀a b c:List Int,rlt a b=true->rlt b c=true->rlt a c=true
 |[],[],_,h,_=>by cases h
 |[],_::_,[],_,h=>by cases h
 |[],_::_,_::_,_,_=>rfl
 |_::_,[],_,h,_=>by cases h
 |_::_,_::_,[],_,h=>by cases h
 |x::a,y::b,z::c,h1,h2=>by
  rw[Zet]at h1 h2 ⊢;by_cases e1:x=y
  ·by_cases e2:y=z
   ·rw[if_pos e1]at h1;rw[if_pos e2]at h2;rw[if_pos (e1.trans e2)]
    exact Zpz a b c h1 h2
   ·rw[if_neg e2,decide_eq_true_eq]at h2
    rw[if_neg (by omega),decide_eq_true_eq];omega
  ·rw[if_neg e1,decide_eq_true_eq]at h1
   by_cases e2:y=z
   ·rw[if_neg (by omega),decide_eq_true_eq];omega
   ·rw[if_neg e2,decide_eq_true_eq]at h2
    rw[if_neg (by omega),decide_eq_true_eq];omega
theorem Zm6:∀a b c:List Int,rlt a c=true->rlt a b=true\/rlt b c=true
 |[],[],_,h=>Or.inr h
 |[],_::_,_,_=>Or.inl rfl
 |_::_,_,[],h=>by cases h
 |_::_,[],_::_,_=>Or.inr rfl
 |x::a,y::b,z::c,h=>by
  rw[Zet]at h;rw[Zet,Zet];by_cases e:x=z
  ·subst e
   rw[if_pos rfl]at h;by_cases e1:x=y
   ·subst e1;rw[if_pos rfl,if_pos rfl];exact Zm6 a b c h
   ·rw[if_neg e1,if_neg (Ne.symm e1),decide_eq_true_eq,decide_eq_true_eq];omega
  ·rw[if_neg e,decide_eq_true_eq]at h
   by_cases e1:x=y
   ·subst e1;right;rw[if_neg e,decide_eq_true_eq];exact h
   ·rw[if_neg e1]
    by_cases e2:y=z
    ·left;rw[decide_eq_true_eq];omega
    ·rw[if_neg e2,decide_eq_true_eq,decide_eq_true_eq];omega
theorem Zi8:∀a b:List Int,rlt a b=false->rlt b a=false->a=b
 |[],[],_,_=>rfl
 |[],_::_,h,_=>by cases h
 |_::_,[],_,h=>by cases h
 |x::a,y::b,h1,h2=>by
  rw[Zet]at h1 h2;by_cases e:x=y
  ·subst e
   rw[if_pos rfl]at h1 h2;rw[Zi8 a b h1 h2]
  ·rw[if_neg e,decide_eq_false_iff_not]at h1
   rw[if_neg (Ne.symm e),decide_eq_false_iff_not]at h2;omega
theorem RowAt.inj {h:Heap}{v:Value}{a b:List Int}(x:RowAt h v a) (y:RowAt h v b):a=b:=by
 obtain⟨p,its,rfl,⟨o,ho,hc,n,hd⟩,hi⟩:=x;obtain⟨q,its2,e,⟨o2,ho2,hc2,n2,hd2⟩,hi2⟩:=y;cases e;rw[ho]at ho2;cases ho2;rw[hd]at hd2;have e:its=its2:=by
  have:=Data.seq.inj hd2;simpa using this.1
 subst e;clear hd hd2
 induction hi generalizing b with
 |nil=>cases hi2;rfl
 |cons n t _ ih=>cases hi2 with|cons _ _ r=>rw[ih r]
open Classical in
noncomputable def rowKey (h:Heap):PyProof.Rows.KeyKind where
 α:=List Int
 blt:=rlt
 irrefl:=Zlu
 trans:=Zpz
 negTrans:=Zm6
 total:=Zi8
 keyOf:=λv=>if e:∃r,RowAt h v r then some (Classical.choose e) else none
 dflt:=[]
open Classical in
theorem Zfk {h:Heap}{v:Value}{r:List Int}(x:RowAt h v r):(rowKey h).keyOf v=some r:=by
 show (if e:∃r,RowAt h v r then some (Classical.choose e) else none)=some r;rw[dif_pos ⟨r,x⟩];exact congrArg some ((Classical.choose_spec (⟨r,x⟩:∃r,RowAt h v r)).inj x)
section
variable {prog:Program}{w:World}{A:Around}{E:Value->Shared->Prop}{s:Shared}
theorem Zjz {Q:Bool->Shared->Prop}:∀{us vs:List Value}{as bs:List Int}(i:Nat),IntsAre us as->IntsAre vs bs->Q (rlt as bs) s->PySem.W.KatLex prog w A true (decide (as.length<bs.length)) Q (us.zip vs) i s
 |_,_,[],[],i,.nil,.nil,h=>h
 |_,_,[],b::bs,i,.nil,.cons _ _ _,h=>by
  rw[List.zip_nil_left];refine PySem.W.kat_nil ?_;rw[decide_eq_true (by simp)];exact h
 |_,_,a::as,[],i,.cons _ _ _,.nil,h=>by
  rw[Wdx];refine PySem.W.kat_nil ?_;rw[decide_eq_false (by simp)];exact h
 |_,_,a::as,b::bs,i,.cons _ t x,.cons _ t' y,h=>by
  rw[Wcf];refine PySem.W.kat_cons (SeqAt.EqAt.int_int a t b t' prog w _ _ ?_);rw[Zet]at h;by_cases e:a=b
  ·rw[if_pos e]at h
   rw[show (a == b)=true by simp[e]];refine PySem.W.kat_yes ?_;have:=Zjz (Q:=Q) (i+1) x y h;rw[Wap,Wap,show decide (as.length+1<bs.length+1)=decide (as.length<bs.length) by simp];exact this
  ·rw[if_neg e]at h
   rw[show (a == b)=false by simp[e]];refine PySem.W.kat_no ?_;cases z:(true && i == 0) with
   |true=>exact oneLt_int h
   |false=>exact PySem.W.kat_one _ _ (lt_int h)
theorem Zn3 {v u:Value}{a b:List Int}{Q:Bool->Shared->Prop}(pa:RowAt s.heap v a) (pb:RowAt s.heap u b) (h:Q (rlt a b) s):wpAny (model prog w) A (keyLt' (tuples' true) v u) Q E s:=by
 obtain⟨l,its,rfl,⟨o1,ho,hc,n,hd⟩,hi⟩:=pa;obtain⟨k,its2,rfl,⟨o2,ho2,hc2,n2,hd2⟩,hi2⟩:=pb;refine PySem.W.kat_lt ho hd ho2 hd2 ?_;have:=Zjz (prog:=prog) (w:=w) (A:=A) (Q:=Q) 0 hi hi2 h;rw[<- hi.length,<- hi2.length]at this;simpa using this
theorem Zpc {v u:Value}{a b:List Int}{Q:Bool->Shared->Prop}(hu:A.units<cLine) (pa:RowAt s.heap v a) (pb:RowAt s.heap u b) (h:Q (rlt a b) s):wpAny (model prog w) A (keyLt' oneType' v u) Q E s:=by
 obtain⟨l,its,rfl,⟨⟨c1,d1,dt1,sl1⟩,ho,hc,n,hd⟩,hi⟩:=pa;obtain⟨k,its2,rfl,⟨⟨c2,d2,dt2,sl2⟩,ho2,hc2,n2,hd2⟩,hi2⟩:=pb;simp only at hc hd hc2 hd2;subst hc hd hc2 hd2;rw[keyLt'_oneType,oneLt'_eq];simp only[if_true];refine wpAny_bind (wpAny_cRoomFor hu ?_);refine wpAny_bind (wpAny_callSpecialIfBound?_slot (T:="tuple") ⟨_,ho,rfl⟩ F.slot_tuple_lt (call_meets F.slot_tuple_lt ⟨_,ho,rfl⟩ F.entry_tuple_lt (F.args_tuple_lt_2 _ _) (HT.tuple_lt_ints l k its.toArray its2.toArray n n2 d1 d2 sl1 sl2 a b (by simpa using hi) (by simpa using hi2)) ⟨ho,ho2,?_⟩));exact wpAny_truthy_bool h
theorem Zoe {v u:Value}{a b:List Int}{Q:Bool->Shared->Prop}(hu:A.units<cLine) (pa:RowAt s.heap v a) (pb:RowAt s.heap u b) (h:Q (rlt a b) s):wpAny (model prog w) A (keyLt' general' v u) Q E s:=by
 obtain⟨l,its,rfl,⟨⟨c1,d1,dt1,sl1⟩,ho,hc,n,hd⟩,hi⟩:=pa;obtain⟨k,its2,rfl,⟨⟨c2,d2,dt2,sl2⟩,ho2,hc2,n2,hd2⟩,hi2⟩:=pb;simp only at hc hd hc2 hd2;subst hc hd hc2 hd2;refine PySem.W.kat_one _ _ ?_;exact richCompare_meets_room (op:=.Lt) ⟨_,ho,rfl⟩ ⟨_,ho2,rfl⟩ PySem.F.slot_tuple_lt PySem.F.entry_tuple_lt (PySem.F.args_tuple_lt_2 _ _) (HT.tuple_lt_ints l k its.toArray its2.toArray n n2 d1 d2 sl1 sl2 a b (by simpa using hi) (by simpa using hi2))
  ⟨ho,ho2,show Value.bool (HT.lexLt a b)≠Value.notImplemented/\_ from ⟨(λx=>nomatch x),h⟩⟩ hu
theorem Zk0 {vs:List Value}{r:List Int}{rs:List (List Int)}{Q:SortKind->Shared->Prop}(p:Paired (RowAt s.heap) vs (r::rs)) (hr:r≠[]) (he:[]∈rs) (h:Q general' s):wpAny (model prog w) A (keyKind' vs.toArray) Q E s:=by
 rw[keyKind'_eq,Wdy,map_eq_pure_bind];refine wpAny_bind (wpAny_bind (Zd3 vs _ p λfs pf=>wpAny_pure ?_));cases pf with
 |@cons f _ fs _ hf pt=>
  obtain⟨x,t,l,e1,rfl⟩:=hf.resolve_left λz=>hr z.1;have no:none∈fs:=by
   clear p h hf
   induction pt with
   |nil=>cases he
   |@cons f r' fs rs q t' ih=>
    rcases Wan.mp he with z|z
    ·subst z
     rcases q with ⟨_,y⟩|⟨_,_,_,y,_⟩
     ·subst y;exact Waw
     ·cases y
    ·exact Wav _ (ih z)
  have:((some (Value.int x t)::fs).toArray.all λx=>x.isSome)=false:=by
   rw[List.all_toArray,Wc5];intro z;rw[Wb7]at z;have:=z none (Wav _ no);cases this
  rw[this,if_neg (by simp),if_pos (by simp)];exact wpAny_pure h
end
def keyD (κ:PyProof.Rows.KeyKind) (v:Value):κ.α:=(κ.keyOf v).getD κ.dflt
def Sortd (κ:PyProof.Rows.KeyKind) (out:List Value):Prop:=out.Pairwise λa b=>κ.kle (keyD κ a) (keyD κ b)
theorem twins {vs:List Value}{xs:Array Keyed}(hp:xs.Perm (vs.toArray.zip vs.toArray)):∀p∈xs.toList,p.1=p.2/\p.1∈vs:=λp hm=>by
 have h1:p∈(vs.toArray.zip vs.toArray).toList:=(Array.perm_iff_toList_perm.mp hp).mem_iff.mp hm;rw[Array.toList_zip]at h1;have h1:p∈vs.zip vs:=h1;obtain⟨i,hi⟩:=Wbc.mp h1;rw[Wby]at hi;exact⟨Wbd.inj (hi.1.symm.trans hi.2),Wak hi.1⟩
theorem Zop {κ:PyProof.Rows.KeyKind}{vs:List Value}{xs:Array Keyed}(hp:xs.Perm (vs.toArray.zip vs.toArray)) (hs:SortedToK κ xs (vs.toArray.zip vs.toArray).size):(xs.map (·.2)).toList.Perm vs/\Sortd κ (xs.map (·.2)).toList:=by
 have hsz:=hp.size_eq;refine⟨?_,?_⟩
 ·rw[Array.toList_map]
  have:=(Array.perm_iff_toList_perm.mp hp).map (·.2);rw[Array.toList_zip]at this;refine this.trans ?_;rw[show (vs.toArray.toList.zip vs.toArray.toList)=vs.zip vs from rfl,Wc9 (Wah _)]
 ·unfold Sortd
  rw[Wbj];intro i j hi hj hij;rw[Array.length_toList,Array.size_map]at hi hj;have key:∀k (hk:k<xs.size),KK κ xs k=keyD κ (xs.map (·.2)).toList[k]!:=λk hk=>by
   unfold KK keyD;have e:xs[k]?=some xs[k]:=getElem?_pos xs k hk;rw[e];have e2:(xs.map (·.2)).toList[k]! = xs[k].2:=by simp[hk]
   rw[e2,<- (twins hp xs[k] (by simp)).1]
  have:=hs i j (Wb1 hij) (by omega);rw[key i hi,key j hj]at this;simpa [hi,hj] using this
section
variable {prog:Program}{w:World}{A:Around}{E:Value->Shared->Prop}{s:Shared}
theorem Zg3 {a:Addr}{vs:List Value}{n:Nat}{kd:SortKind}{κ:PyProof.Rows.KeyKind}{P:Fin->Shared->Prop}(ho:s.heap.get? a=some (seqObj "list" vs.toArray n)) (hz:vs.length<64)
  (hk:2<=vs.length->∀h',KeepBut a s.heap h' -> ∀Q:SortKind->Shared->Prop,Q kd { s with heap:=h' } -> wpAny (model prog w) A (keyKind' vs.toArray) Q E { s with heap:=h' })
  (hc:∀h',KeepBut a s.heap h' -> ∀x∈vs,∀y∈vs,∀(E:Value->Shared->Prop) (Q:Bool->Shared->Prop),Q (κ.blt (keyD κ x) (keyD κ y)) { s with heap:=h' } -> wpAny (model prog w) A (keyLt' kd x y) Q E { s with heap:=h' })
  (h:∀out:List Value,out.Perm vs->Sortd κ out->P (.done (.ret .none)) { s with heap:=sortedHeap s.heap a vs out.toArray }):wpAny (model prog w) A (Builtin.«list.sort» ⟨[.ref a],[]⟩) P E s:=by
 rw[list_sort_plain];have ha:a<s.heap.objs.size:=War ho;have hsz:vs.toArray.size=vs.length:=by simp
 have hline:vs.length<=sizeLine:=by rw[sizeLine_eq];omega
 refine wpAny_bind (listItems_at ho rfl ?_);refine wpAny_bind (listUpdate_at ho rfl ?_ (by rw[hsz];exact hline) (Wbw _));obtain⟨e1,ho1⟩:∃e1,(s.heap.update a (Obj.mapSeq λ_=>#[])).get? a=some (seqObj "list" #[] e1):=⟨_,get?_update_seq ho (λ_=>#[])⟩;refine wpAny_bind (seqEpoch_at ho1 rfl ?_);refine wpAny_bind (wpAny_newTuple ?_ hline);refine wpAny_bind (wpAny_newList ?_ (Wbw _));refine wpAny_holding ?_;have ho6:(((s.heap.update a (Obj.mapSeq λ_=>#[])).push (seqObj "tuple" vs.toArray 0)).push (seqObj "list" #[] 0)).get? a=some (seqObj "list" #[] e1):=by
  rw[Wca _ _ _ (by rw[size_push',Wcu];exact Way (Wbz ha)),Wca _ _ _ (by rw[Wcu];exact Way ha)];exact ho1
 have keep:KeepBut a s.heap (((s.heap.update a (Obj.mapSeq λ_=>#[])).push (seqObj "tuple" vs.toArray 0)).push (seqObj "list" #[] 0)):=λb o hb q=>
  Wac _ (Wac _ ((Wdd _ _ _ _ hb).trans q))
 show wpAny (model prog w) A _ P E { s with heap:=((s.heap.update a (Obj.mapSeq λ_=>#[])).push (seqObj "tuple" vs.toArray 0)).push (seqObj "list" #[] 0) };dsimp only;have zsz:(vs.toArray.zip vs.toArray).size=vs.length:=by rw[Array.size_zip,hsz,Wdq]
 by_cases h2:vs.toArray.size<2
 ·have out:((vs.toArray.zip vs.toArray).map (·.2))=vs.toArray:=by
   apply Array.toList_inj.mp;rw[Array.toList_map,Array.toList_zip];exact Wc9 (Wah _)
  rw[if_pos h2,if_pos h2];refine wpAny_bind (wpAny_pure ?_);rw[StateT.run_pure];refine wpAny_bind (wpAny_pure ?_);dsimp only;refine wpAny_bind (seqEpoch_at ho6 rfl ?_);rw[show arrOf (SortSt.mk' general' (vs.toArray.zip vs.toArray) #[] 7 none)=vs.toArray.zip vs.toArray from rfl,out];refine wpAny_bind (listUpdate_at ho6 rfl ?_ (Wbw _) (by rw[hsz];exact Wdj hline));simp only[bne_self_eq_false,Wbi,if_false];refine wpAny_pure (h vs (List.Perm.refl _) ?_);unfold Sortd
  match vs,h2 with
  |[],_=>exact .nil
  |[_],_=>exact List.pairwise_singleton _ _
  |_::_::_,z=>simp at z;omega
 ·rw[if_neg h2,if_neg h2]
  refine wpAny_bind (hk (by omega) _ keep _ ?_);have O:Orc prog w A E { s with heap:=((s.heap.update a (Obj.mapSeq λ_=>#[])).push (seqObj "tuple" vs.toArray 0)).push (seqObj "list" #[] 0) } κ kd (vs.toArray.zip vs.toArray):=λt g i j hi hj Q hq=>by
   have at':∀k,k<(vs.toArray.zip vs.toArray).size->∃p,(arrOf t)[k]?=some p/\p.1∈vs/\KK κ (arrOf t) k=keyD κ p.1:=λk hk=>by
    have hk':k<(arrOf t).size:=by rw[g.sz];exact hk
    have e:(arrOf t)[k]?=some (arrOf t)[k]:=getElem?_pos _ k hk';refine⟨_,e,(twins g.pm (arrOf t)[k] (by simp)).2,?_⟩;unfold KK keyD;rw[e]
   obtain⟨p,p1,p2,p3⟩:=at' i hi;obtain⟨q,q1,q2,q3⟩:=at' j hj;rw[p3,q3]at hq;rw[ltAt'_eq];refine wpS_bind (wpS_get ?_);show wpS _ _ _ _ (do let x ← elem' (arrOf t) i;let y ← elem' (arrOf t) j;lt' x y) Q _;rw[elem'_eq,elem'_eq,p1,q1];refine wpS_bind (wpS_pure (wpS_bind (wpS_pure ?_)));rw[lt'_eq];refine wpS_bind (wpS_get ?_);rw[g.kd];refine wpS_bind (wpS_lift (wpAny_attempt (hc _ keep p.1 p2 q.1 q2 _ _ ⟨rfl,?_⟩)));exact wpS_pure hq
  refine wpAny_bind (wpAny_mono (Zs2 (t:=SortSt.mk' kd (vs.toArray.zip vs.toArray) #[] 7 none) O (Q:=λ_ u=>(arrOf u).Perm (vs.toArray.zip vs.toArray)/\failedOf u=none/\SortedToK κ (arrOf u) (vs.toArray.zip vs.toArray).size) ⟨Array.Perm.refl _,rfl,rfl,rfl⟩ (by rw[zsz];omega) (by rw[zsz];exact hz) λu u1 u2 u3=>⟨u1,u2,u3⟩) ?_ λ_ _ e=>e);rintro⟨⟨⟩,u⟩ s' ⟨rfl,hp,hf,hs⟩;dsimp only;obtain⟨o1,o2⟩:=Zop hp hs;have hfin:=h _ o1 o2;rw[Array.toArray_toList]at hfin;refine wpAny_bind (seqEpoch_at ho6 rfl ?_);refine wpAny_bind (listUpdate_at ho6 rfl ?_ (Wbw _) (by rw[Array.size_map,hp.size_eq,zsz];exact Wdj hline));rw[hf];simp only[bne_self_eq_false,Wbi,if_false];exact wpAny_pure hfin
theorem Zen {l:Addr}{b:Bool}{vs:List Value}{kd:SortKind}{κ:PyProof.Rows.KeyKind}{Q:Value->Shared->Prop}(hl:HsB b s.heap l vs.toArray) (hz:vs.length<64)
  (hk:2<=vs.length->∀h',(∀b o,s.heap.get? b=some o->h'.get? b=some o)->∀(E:Value->Shared->Prop) (Q:SortKind->Shared->Prop),Q kd { s with heap:=h' } -> wpAny (model prog w) A.in1.in1 (keyKind' vs.toArray) Q E { s with heap:=h' })
  (hc:∀h',(∀b o,s.heap.get? b=some o->h'.get? b=some o)->∀x∈vs,∀y∈vs,∀(E:Value->Shared->Prop) (Q:Bool->Shared->Prop),Q (κ.blt (keyD κ x) (keyD κ y)) { s with heap:=h' } -> wpAny (model prog w) A.in1.in1 (keyLt' kd x y) Q E { s with heap:=h' })
  (h:∀out:List Value,out.Perm vs->Sortd κ out->Q (.ref (s.heap.objs.size+1)) { s with heap:=sortedAll s.heap vs out.toArray }):wpAny (model prog w) A (call (.builtin "sorted") [.ref l]) Q E s:=by
 have hline:vs.length<=sizeLine:=by rw[sizeLine_eq];omega
 refine Calls.call_function_entry kind_sorted plain_sorted entry_sorted (args_sorted1 _) ?_;unfold Builtin.«sorted»;refine wpAny_bind (m:=checkCount "sorted" 1 1 _) (wpAny_pure ?_);refine wpAny_bind (show wpAny (model prog w) A.in1 (collect (.ref l)) _ _ s from ?_);have go:∀{Q':List Value->Shared->Prop}{E':Value->Shared->Prop},Q' vs { s with heap:=(s.heap.push (seqObj "list" #[] 0)).update s.heap.objs.size (Obj.mapSeq (· ++ vs.toArray)) } -> wpAny (model prog w) A.in1 (collect (.ref l)) Q' E' s:=λ{Q' E'} q=>by
  cases b with
  |true=>exact Ziq hl q hline
  |false=>exact collect_list hl q hline
 refine go ?_;refine wpAny_bind (wpAny_newList ?_ hline);have hsz:((s.heap.push (seqObj "list" #[] 0)).update s.heap.objs.size (Obj.mapSeq (· ++ vs.toArray))).objs.size=s.heap.objs.size+1:=by
  rw[Wcu,size_push']
 have hoL:(((s.heap.push (seqObj "list" #[] 0)).update s.heap.objs.size (Obj.mapSeq (· ++ vs.toArray))).push (seqObj "list" vs.toArray 0)).get? (s.heap.objs.size+1)=some (seqObj "list" vs.toArray 0):=by
  rw[<- hsz];exact Wao _ rfl
 have keep:∀b o,s.heap.get? b=some o->(((s.heap.push (seqObj "list" #[] 0)).update s.heap.objs.size (Obj.mapSeq (· ++ vs.toArray))).push (seqObj "list" vs.toArray 0)).get? b=some o:=λb o q=>by
  have hlt:b<s.heap.objs.size:=War q;rw[Wca _ _ _ (by rw[hsz];exact Way (Wbz hlt)),Wdd _ _ _ _ (Way hlt),Wca _ _ _ (Way hlt)];exact q
 have up:∀h',KeepBut (s.heap.objs.size+1) (((s.heap.push (seqObj "list" #[] 0)).update s.heap.objs.size (Obj.mapSeq (· ++ vs.toArray))).push (seqObj "list" vs.toArray 0)) h' -> ∀b o,s.heap.get? b=some o->h'.get? b=some o:=λh' k b o q=>
  k b o (Way (Wbz (War q))) (keep b o q)
 show wpAny _ _ _ _ _ { s with heap:=((s.heap.push (seqObj "list" #[] 0)).update s.heap.objs.size (Obj.mapSeq (· ++ vs.toArray))).push (seqObj "list" vs.toArray 0) };rw[hsz];refine wpAny_bind (wpAny_holding (wpAny_call_entry slot_list_sort ⟨_,hoL,rfl⟩ entry_list_sort (Zg3 (kd:=kd) (κ:=κ) hoL hz (λh2 h' k Q q=>hk h2 h' (up h' k) _ Q q) (λh' k x hx y hy E Q q=>hc h' (up h' k) x hx y hy E Q q) λout o1 o2=>⟨_,rfl,?_⟩) (args_list_sort _)));exact wpAny_pure ⟨_,rfl,h out o1 o2⟩
end
section
variable {X:Cx}
def SqU (K:W.Frag) (H:Hp) (p:Addr) (us:List V):Prop:=SqL K H p us\/SqT K H p us
def IsRows (K:W.Frag) (H:Hp) (us:List V) (rs:List (List Int)):Prop:=Paired (λ(u:V) (r:List Int)=>∃a,u=.ref a/\SqT K H a (r.map V.int)) us rs
def rSortG (K:W.Frag):List V->Hp->VK->Prop:=λxs H Q=>∃p us rs,xs=[.ref p]/\SqU K H p us/\us.length<64/\IsRows K H us rs ∧
 ∀(l:Addr) (ps:List (V × List Int)),ps.Perm (us.zip rs)->(ps.map (·.2)).Pairwise (λa b=>rlt b a=false)->H l=none->Q (.ref l) (upd H l (.lst (ps.map (·.1))))
theorem Paired.mem {R:Value->List Int->Prop}:∀{vs:List Value}{rs:List (List Int)},Paired R vs rs->∀v∈vs,∃r∈rs,R v r
 |_,_,.nil,v,h=>by cases h
 |_,_,.cons p t,v,h=>by
  rcases Wan.mp h with e|e
  ·subst e;exact⟨_,Waw,p⟩
  ·obtain⟨r,h1,h2⟩:=Paired.mem t v e
   exact⟨r,Wav _ h1,h2⟩
theorem Zfw {R:V->List Int->Prop}{us:List V}{its:List Value}{rs:List (List Int)}{out:List Value}(hv:Vals us its) (hp:Paired R us rs) (ho:out.Perm its):∃ps:List (V × List Int),Vals (ps.map (·.1)) out/\Paired R (ps.map (·.1)) (ps.map (·.2))/\ps.Perm (us.zip rs):=by
 suffices key:∀{out its:List Value},out.Perm its->∀ps:List (V × List Int),Vals (ps.map (·.1)) its->Paired R (ps.map (·.1)) (ps.map (·.2))->∃qs:List (V × List Int),Vals (qs.map (·.1)) out/\Paired R (qs.map (·.1)) (qs.map (·.2))/\qs.Perm ps by
  have hl:us.length=rs.length:=by
   clear key hv ho
   induction hp with
   |nil=>rfl
   |cons _ _ ih=>rw[Wap,Wap,ih]
  refine key ho (us.zip rs) ?_ ?_
  ·rw[List.map_fst_zip (by omega)];exact hv
  ·rw[List.map_fst_zip (by omega),Wc9 (by omega)];exact hp
 intro out its ho
 induction ho with
 |nil=>
  intro ps hv hp;cases ps with
  |nil=>exact⟨[],.nil,.nil,.refl _⟩
  |cons _ _=>cases hv
 |cons x h ih=>
  intro ps hv hp;cases ps with
  |nil=>cases hv
  |cons a ps=>
   cases hv with
   |cons r t=>
    cases hp with
    |cons p q=>
     obtain⟨qs,a1,a2,a3⟩:=ih ps t q;exact⟨a::qs,.cons r a1,.cons p a2,a3.cons _⟩
 |swap x y l=>
  intro ps hv hp;cases ps with
  |nil=>cases hv
  |cons a ps=>
   cases ps with
   |nil=>cases hv with|cons _ t=>cases t
   |cons b ps=>
    cases hv with
    |cons r t=>
     cases t with
     |cons r2 t=>
      cases hp with
      |cons p q=>
       cases q with
       |cons p2 q=>exact⟨b::a::ps,.cons r2 (.cons r t),.cons p2 (.cons p q),.swap _ _ _⟩
 |trans h1 h2 ih1 ih2=>
  intro ps hv hp;obtain⟨qs,a1,a2,a3⟩:=ih2 ps hv hp;obtain⟨qs2,b1,b2,b3⟩:=ih1 qs a1 a2;exact⟨qs2,b1,b2,b3.trans a3⟩
theorem Paired.get2 {R:Value->List Int->Prop}:∀{vs:List Value}{rs:List (List Int)}{i:Nat}{r:List Int},Paired R vs rs->rs[i]?=some r->∃v,vs[i]?=some v/\R v r
 |_,_,_,_,.nil,h=>by simp at h
 |_,_,0,_,.cons p _,h=>by simp at h;subst h;exact⟨_,rfl,p⟩
 |_,_,i+1,r,.cons _ t,h=>by
  obtain⟨v,h1,h2⟩:=Paired.get2 (i:=i) (r:=r) t (by simpa using h);exact⟨v,by simpa using h1,h2⟩
theorem sortGK (K:W.Frag) (hu:X.A.units+8<cLine) (hK:X.K=K:=by rfl):CallR X (.builtin "sorted") (rSortG K):=by
 subst hK;intro pins s σ H xs us Q I r h;obtain⟨p,ys,rs,rfl,hx,hl,hp,q⟩:=h;obtain⟨u,rfl,ru⟩:=vals1 r;cases (show u=Value.ref p from ru);obtain⟨b,hx⟩:∃b,SqB b X.K H p ys:=by
  rcases hx with z|z
  ·exact⟨false,z⟩
  ·exact⟨true,z⟩
 obtain⟨its,w1,p1⟩:=I.seqB hx;have pr:=Zgw I w1 hp;have hlen:=w1.length;have hrl:=Paired.len pr;have hu2:X.A.in1.in1.units<cLine:=Wb3 (by show X.A.units+1+1<=X.A.units+8;omega) hu;have fin:∀out:List Value,out.Perm its->Sortd (rowKey s.heap) out->EP X pins σ Q (.ref (s.heap.objs.size+1)) { s with heap:=sortedAll s.heap its out.toArray }:=λout o1 o2=>by
  obtain⟨ps,a1,a2,a3⟩:=Zfw w1 hp o1;have pr':=Zgw I a1 a2;obtain⟨e,he⟩:=sortedAll_at s.heap its out.toArray;have hs:(ps.map (·.2)).Pairwise (λa b=>rlt b a=false):=by
   rw[Wbj];intro i j hi hj hij;obtain⟨v,v1,v2⟩:=Paired.get2 pr' (Wab hi);obtain⟨u,u1,u2⟩:=Paired.get2 pr' (Wab hj);obtain⟨g1,g2⟩:=Wae.mp v1;obtain⟨g3,g4⟩:=Wae.mp u1;have:=(Wbj.mp o2) i j g1 g3 hij;rw[g2,g4]at this;unfold keyD at this;rw[Zfk v2,Zfk u2]at this;exact this
  have hl':=a1.length;have ho':=o1.length_eq;refine⟨.ref (s.heap.objs.size+1),_,I.laid (t':=s.toks) (λ_ _ z=>sortedAll_old z) (Wdm _) (show ObjOk X.prog X.w _ _ _ (.lst (ps.map (·.1))) from ⟨Wb1 (small1000 (by omega)),out,e,a1,he⟩),rfl,q _ ps a3 hs (I.hok.fresh (Wdm _))⟩
 have cmp:∀h',(∀b o,s.heap.get? b=some o->h'.get? b=some o)->∀x∈its,∃a,RowAt h' x a/\keyD (rowKey s.heap) x=a:=λh' k x hx=>by
  obtain⟨a,_,ha⟩:=Paired.mem pr x hx;refine⟨a,ha.keep k,?_⟩;unfold keyD;rw[Zfk ha];rfl
 by_cases hne:∀r∈rs,r≠[]
 ·refine Zen (b:=b) (kd:=tuples' true) (κ:=rowKey s.heap) p1 (by omega) (λh2 h' k E Q hq=>?_) (λh' k x hx y hy E Q hq=>?_) fin
  ·exact Zf9 (s:={ s with heap:=h' }) (Paired.up (λv r z=>z.keep k) pr) hne (by intro z;subst z;rw[Wcq]at hrl;omega) hq
  ·obtain⟨a,a1,a2⟩:=cmp h' k x hx
   obtain⟨c,c1,c2⟩:=cmp h' k y hy;rw[a2,c2]at hq;exact Zn3 (s:={ s with heap:=h' }) a1 c1 hq
 ·cases rs with
  |nil=>exact absurd (λr h=>nomatch h) hne
  |cons r0 rs=>
   by_cases h0:r0=[]
   ·subst h0
    refine Zen (b:=b) (kd:=oneType') (κ:=rowKey s.heap) p1 (by omega) (λh2 h' k E Q hq=>?_) (λh' k x hx y hy E Q hq=>?_) fin
    ·exact Zgf (s:={ s with heap:=h' }) (Paired.up (λv r z=>z.keep k) pr) hq
    ·obtain⟨a,a1,a2⟩:=cmp h' k x hx
     obtain⟨c,c1,c2⟩:=cmp h' k y hy;rw[a2,c2]at hq;exact Zpc (s:={ s with heap:=h' }) hu2 a1 c1 hq
   ·have he:[]∈rs:=by
     apply Classical.byContradiction;intro z;refine hne λr hr e=>?_;subst e;rcases Wan.mp hr with y|y
     ·exact h0 y.symm
     ·exact z y
    refine Zen (b:=b) (kd:=general') (κ:=rowKey s.heap) p1 (by omega) (λh2 h' k E Q hq=>?_) (λh' k x hx y hy E Q hq=>?_) fin
    ·exact Zk0 (s:={ s with heap:=h' }) (Paired.up (λv r z=>z.keep k) pr) h0 he hq
    ·obtain⟨a,a1,a2⟩:=cmp h' k x hx
     obtain⟨c,c1,c2⟩:=cmp h' k y hy;rw[a2,c2]at hq;exact Zoe (s:={ s with heap:=h' }) hu2 a1 c1 hq
end
section
variable {K:W.Frag}{Δ:Evt}
theorem Zj5 {G:Hp}:∀{us:List V}{ds:List D},Reps K G us ds->∀p∈us.zip ds,Rep K G p.1 p.2
 |_,_,.nil,p,h=>by cases h
 |_,_,.cons r t,p,h=>by
  rcases Wan.mp h with e|e
  ·subst e;exact r
  ·exact Zj5 t p e
theorem Zga {G:Hp}:∀ps:List (V × List Int),(∀p∈ps,Rep K G p.1 (rowD p.2))->Reps K G (ps.map (·.1)) ((ps.map (·.2)).map rowD)
 |[],_=>.nil
 |p::ps,h=>.cons (h p Waw) (Zga ps λq hq=>h q (Wav _ hq))
theorem Zo2 {ta:TA}{Po:OD->Evt->Prop}(h:JA K ta Δ λds Δ1=>∃rs:List (List Int),(ds=[.lst (rs.map rowD)]\/ds=[.tup (rs.map rowD)])/\rs.length<64/\∀ms:List (List Int),ms.Perm rs->ms.Pairwise (λa b=>rlt b a=false)->Po (.lst (ms.map rowD)) Δ1):JO K (tCB (rSortG K) ta) Δ Po:=λg G H σ Q k c=>
 h g G H σ _ k λvs ds G1 H1 Δ1 k1 s1 r1 hq_=>by
  obtain⟨rs,e,hl,p⟩:=hq_;obtain⟨a,us,ea,hs,rr⟩:∃a us,vs=[.ref a]/\SqU K H1 a us/\Reps K G1 us (rs.map rowD):=by
   rcases e with e|e <;> subst e
   ·obtain⟨_,_,rfl,r,t⟩:=r1.inv
    next=>cases t.inv;cases r with|lst ha' rr=>exact⟨_,_,rfl,.inl (SqL.of (k1.live _ _ ha')),rr⟩
   ·obtain⟨_,_,rfl,r,t⟩:=r1.inv
    next=>cases t.inv;cases r with|tup ha' rr=>exact⟨_,_,rfl,.inr (SqT.of (k1.live _ _ ha')),rr⟩
  subst ea;have hlen:=rr.length;rw[Waa]at hlen;refine⟨a,us,rs,rfl,hs,by omega,Zgx k1.live rr,λl ps a1 a2 hl=>?_⟩;have hr:Reps K G1 (ps.map (·.1)) ((ps.map (·.2)).map rowD):=Zga ps λp hp=>by
   have h1:=a1.mem_iff.mp hp;refine Zj5 rr (p.1,rowD p.2) ?_;obtain⟨i,hi⟩:=Wbc.mp h1;rw[Wby]at hi;refine Wbc.mpr ⟨i,?_⟩;rw[Wby,Wag,hi.2];exact⟨hi.1,rfl⟩
  have hp2:(ps.map (·.2)).Perm rs:=by
   have:=a1.map (·.2);rw[Wc9 (by omega)]at this;exact this
  obtain⟨k2,pd⟩:=k1.fresh (od:=.lst ((ps.map (·.2)).map rowD)) hl (show OwnRep K G1 (.lst (ps.map (·.1))) (.lst ((ps.map (·.2)).map rowD)) from hr);exact c l _ G1 _ Δ1 k2 s1 pd (p _ hp2 a2)
end
abbrev TB:=St->Hp->(St->Hp->Prop)->Prop
def LoopR (g:TG) (tb:TB) (R:St->Hp->Prop) (σ0:St):It->Hp->Prop:=λJ H1=>∃W:Nat->Nat->St->Hp->Prop,(∃m,W 0 m σ0 H1)/\∀i m σ H,W i m σ H →
 (J.stop i H/\R σ H)\/(J.go i H/\∃N:St->Hp->Prop,(∀σ' H',N σ' H' -> ∃m',m'<m/\W (i+1) m' σ' H')/\∀x H',J.yld i H x H' -> g x σ H' λσ2 H2=>tb σ2 H2 N)
def tLoop (wi:TI) (g:TG) (tb:TB):TB:=λσ H R=>wi σ H (LoopR g tb R σ)
def PB (Y:Cx) (body:Sem Unit) (tb:TB):Prop:=∀(pins:List (Addr × Obj)) (s:Shared) (σ:St) (H:Hp) (N:St->Hp->Prop),Inv Y pins σ H s->tb σ H N →
 wpAny (model Y.prog Y.w) Y.A body (λ_ s'=>∃σ' H',Inv Y pins σ' H' s' /\ N σ' H') (λ_ _=>False) s
def PBT (Y:Cx) (rest:Sem Fin) (c:Code) (tb:TB):Prop:=∀(pins:List (Addr × Obj)) (s:Shared) (σ:St) (H:Hp) (N:St->Hp->Prop),Inv Y pins σ H s->tb σ H N →
 wpAny (model Y.prog Y.w) Y.A rest (λf s'=>f=.again c/\∃σ' H',Inv Y pins σ' H' s' /\ N σ' H') (λ_ _=>False) s
theorem PB.rest {Y:Cx}{body:Sem Unit}{c:Code}{tb:TB}(h:PB Y body tb):PBT Y (do body;again c) c tb:=λpins s σ H N I q=>
 wpAny_bind (thn (h pins s σ H N I q) λ_ s' z=>wpAny_pure ⟨rfl,z⟩)
structure Plain (e:Expr):Prop where
 tu:∀(P:Program) (w:World) (A:Around) (d:Nat) (it acc:Value) (env:Env),A.under (.compLoop e d it acc env)=A/\(model P w).den (.compLoop e d it acc env)=(compTurn e d it acc env).onRaise (λx=>do noteFrame x env;theTreesLotGoes x)
 su:∀(P:Program) (w:World) (A:Around) (d:Nat) (it acc:Value) (env:Env),A.under (.compStart e d it acc env)=A/\(model P w).den (.compStart e d it acc env)=(compStart e d it acc env).onRaise (λx=>do noteFrame x env;standAt theWindowsPlace)
theorem Zf6 (elt:Expr) (gs:List Comprehension) (sc:Scope) (pos:Pos):Plain (.ListComp elt gs sc pos):=⟨λ_ _ _ _ _ _ _=>⟨rfl,rfl⟩,λ_ _ _ _ _ _ _=>⟨rfl,rfl⟩⟩
theorem Zgo (k v:Expr) (gs:List Comprehension) (sc:Scope) (pos:Pos):Plain (.DictComp k v gs sc pos):=⟨λ_ _ _ _ _ _ _=>⟨rfl,rfl⟩,λ_ _ _ _ _ _ _=>⟨rfl,rfl⟩⟩
theorem Zhq {Y:Cx}{e tg:Expr}{d:Nat}{p:Pos}{acc:Value}{rest:Value->Sem Fin}{g:TG}{tb:TB}(hpl:Plain e) (hc:Y.calm=true) (hx:Y.xe=λ_ _=>False)
  (hct:∀it,compTurn e d it acc Y.env=(do
   standAt p
   match ← pyNext it with
   |none=>pure (.done .next)
   |some v=>
    letOwnedTupleGo tg it v
    assign tg Y.env v
    rest it))
  (hg:PG Y tg g) (hb:∀it,PBT Y (rest it) (.compLoop e d it acc Y.env) tb) {pins:List (Addr × Obj)}{σ:St}{s:Shared}{itv:Value}{R:St->Hp->Prop}(h:PIE Y pins σ tg (LoopR g tb R σ) itv s) :
  codeAny (model Y.prog Y.w) Y.A (.compLoop e d itv acc Y.env) (λr s'=>r=.ok .next/\∃σ' H',Inv Y pins σ' H' s' /\ R σ' H') s:=by
 obtain⟨it,fp,tn,J,H2,e0,I2,T,st2,f2,W,⟨m0,w0⟩,turn⟩:=h;subst e0;have stat:∀{H':Hp},(∀b∈fp,H' b=none)->∀b∈fp,FpOk Y pins H' b:=λhn b hb=>⟨hn b hb,(f2 b hb).2⟩;refine codeAny_loop rfl (λn s'=>∃i σ' H',Inv Y pins σ' H' s' /\ tn i s'.heap/\(∀b∈fp,H' b=none)/\W i n σ' H') ?_ m0 ⟨0,σ,H2,I2,st2,λb hb=>(f2 b hb).1,w0⟩;rintro n s3 ⟨i,σ3,H3,I3,st3,fr3,w3⟩;obtain⟨z1,z2⟩:=hpl.tu Y.prog Y.w Y.A d (.ref it) acc Y.env;rw[z1,z2];refine wpAny_noted (wpAny_mono (E:=λ_ _=>False) ?_ (λ_ _ q=>q) λ_ _ z=>z.elim);rw[hct];refine wpAny_bind (wpAny_standAt (wpAny_bind ?_));rcases turn i n σ3 H3 w3 with ⟨stop,qn⟩|⟨go,N,hN,step⟩
 ·refine thn (T.done Y rfl rfl rfl hc i pins s3 σ3 H3 (λ_ _=>False) I3 (stat fr3) st3 stop) λr s4 ⟨hr,I4⟩=>?_
  subst hr;exact wpAny_pure ⟨rfl,σ3,H3,I4,qn⟩
 ·refine thn (T.item Y rfl rfl rfl hc i pins s3 σ3 H3 (λ_ _=>False) I3 (stat fr3) st3 go) λr s4 ⟨u,hr,h4⟩=>?_
  subst hr;refine wpAny_bind (thn h4 λ_ s5 ⟨x,H5,I5,r5,y5,st5,fr5⟩=>?_);have I5':=I5.pinned (stat fr5) (T.obj _ _ st5);have G1:=hg _ s5 σ3 H5 x u _ I5' r5 (step x H5 y5);rw[hx]at G1;refine wpAny_bind (thn G1 λ_ s6 ⟨σ6,H6,I6,q6⟩=>?_);refine thn (hb _ _ s6 σ6 H6 N I6 q6) λfn s7 ⟨hfn,σ7,H7,I7,n7⟩=>?_;subst hfn;refine⟨rfl,?_⟩;obtain⟨m',hm,w7⟩:=hN σ7 H7 n7;refine⟨m',hm,i+1,σ7,H7,I7.unpinned,T.keep _ _ _ st5 λb hb o e=>(I7.pin (b,o) (Wa0 _ (Wa0 _ (Zcd hb e)))).1,λb hb=>?_,w7⟩;obtain⟨o,e,_⟩:=T.obj _ _ st5 b hb;exact(I7.pin (b,o) (Wa0 _ (Wa0 _ (Zcd hb e)))).2.1
theorem Zf3 {Y:Cx}{e tg it0:Expr}{ifs:List Expr}{d:Nat}{acc:Value}{pins:List (Addr × Obj)}{σ:St}{s:Shared}{itv:Value}{RR:It->Hp->Prop}{R:Result->Shared->Prop}(hpl:Plain e) (hcl:(clausesOf e)[d]?=some ⟨tg,it0,ifs,0⟩)
  (h:PIE Y pins σ tg RR itv s) (h0:codeAny (model Y.prog Y.w) Y.A (.compLoop e d itv acc Y.env) R s):codeAny (model Y.prog Y.w) Y.A (.compStart e d itv acc Y.env) R s:=by
 obtain⟨it,fp,tn,J,H2,e0,I2,T,st2,f2,_⟩:=h;subst e0;refine codeAny_of_tree ?_;obtain⟨z1,z2⟩:=hpl.su Y.prog Y.w Y.A d (.ref it) acc Y.env;rw[z1,z2];refine wpAny_notedAt ?_;unfold compStart;rw[hcl];show wpAny _ _ (ask >>= _) _ _ s;refine wpAny_bind (wpAny_askSetting (wpAny_ite ?_));split
 ·first
   |exact wpAny_bind (wpAny_pure (wpAny_pure (And.intro rfl h0)))
   |exact wpAny_pure (And.intro rfl h0)
 ·refine wpAny_bind (wpAny_rule ?_)
  show wpAny _ _ (standAt it0.pos >>= _) _ _ s;exact wpAny_bind (wpAny_standAt (wpAny_bind (T.self _ 0 _ _ _ st2 (wpAny_pure (And.intro rfl h0)))))
theorem Zj9 {Y:Cx}{e tg it2:Expr}{acc:Value}{wi:TI}{g:TG}{tb:TB}{rest:Value->Sem Fin}{c:Code}(hpl:Plain e) (hc:Y.calm=true) (hx:Y.xe=λ_ _=>False) (hcl:(clausesOf e)[1]?=some ⟨tg,it2,[],0⟩)
  (hct:∀it,compTurn e 1 it acc Y.env=(do
   standAt it2.pos
   match ← pyNext it with
   |none=>pure (.done .next)
   |some v=>
    letOwnedTupleGo tg it v
    assign tg Y.env v
    rest it))
  (hi:PI Y tg it2 wi) (hg:PG Y tg g) (hb:∀it,PBT Y (rest it) (.compLoop e 1 it acc Y.env) tb) (hs:∀x,foldedSetIterable it2 Y.env x=pure x) :
  PBT Y (do
   let x ← eval it2 Y.env
   standAt it2.pos
   let x ← foldedSetIterable it2 Y.env x
   let _ ← runOwn (.compStart e 1 (← holding [x] (pyIter x)) acc Y.env) Y.env
   again c) c (tLoop wi g tb):=λpins s σ H N I h=>by
 have h1:=hi pins s σ H _ I h;rw[hx]at h1;refine wpAny_bind (thn h1 λv s1 h2=>wpAny_bind (wpAny_standAt (wpAny_bind (wpAny_of_eq (hs v) (wpAny_bind (wpAny_holding (thn h2 λitv s2 h3=>?_)))))));refine wpAny_bind (wpAny_runOwn ?_);refine codeAny_mono (Zf3 hpl hcl h3 (Zhq hpl hc hx hct hg hb h3)) λr s' ⟨hr,q⟩=>?_;subst hr;exact wpAny_pure ⟨rfl,q⟩
section
variable {X:Cx}
def tPutK (tk tv:TE) (D:Addr):TB:=λσ H N=>tk σ H λx H1=>tv σ H1 λy H2=>∃kvs k,x=kV k/\H2 D=some (.dK kvs)/\kvs.length<sizeLine/\N σ (upd H2 D (.dK (putK kvs k y)))
def tComp2 (n:Nat) (sel:List Nat) (wi1:TI) (g1:TG) (wi2:TI) (g2:TG) (ho:HO) (tem:Addr->TB):TE:=λσ H Q=>wi1 σ H λJ H1=>∀acc,H1 acc=none->LoopR g1 (tLoop wi2 g2 (tem acc)) (λ_ H'=>Q (.ref acc) H') (compSt n sel σ) J (upd H1 acc ho)
theorem Zhe (k v gens scope pos) (env:Env):eval (.DictComp k v gens scope pos) env=comprehension (.DictComp k v gens scope pos) scope env (firstIterPos gens pos) newDict (firstAsync gens) (firstIter gens env):=by rfl
theorem Zsg {Y:Cx}{kx vx:Expr}{tk tv:TE}{p:Pos}(hx:Y.xe=λ_ _=>False) (hk:PE Y kx tk) (hv:PE Y vx tv) (D:Addr):PB Y (do
   let kv ← eval kx Y.env
   let vv ← holding [kv] (eval vx Y.env)
   standAt p
   holding [kv,vv] (dictSet D kv vv)) (tPutK tk tv D):=λpins s σ H N I h=>by
 have h1:=hk pins s σ H _ I h;rw[hx]at h1;refine wpAny_bind (thn h1 λu s1 ⟨x,H1,I1,rx,h2⟩=>?_);have h3:=hv pins s1 σ H1 _ I1 h2;rw[hx]at h3;refine wpAny_bind (wpAny_holding (thn h3 λr s2 ⟨y,H2,I2,ry,kvs,k,ex,hD,hl,hN⟩=>wpAny_bind (wpAny_standAt (wpAny_holding ?_))));subst ex;obtain⟨z,hd,vs,rel,dd⟩:=Zrn I2.hok hD;have hz:vs.length<=sizeLine:=by rw[<- rel.length];exact z
 have hl':(putK kvs k y).length<=sizeLine:=by have:=Zd6 kvs k y;omega
 refine wpAny_dictSet_pairs (hsz:=hz) (Zmb rx) dd λh' dd' hs=>⟨σ,_,?_,hN⟩;have he:∃q,h'.get? D=some q:=let ⟨q,_,_,hq,_⟩:=dd'; ⟨q,hq⟩
 exact Zgu I2 (by rw[hD];exact True.intro) hs he (Zp2 hl' hd (rel.put k ry) dd')
end
section
variable {K:W.Frag}{Δ:Evt}
def KD (K:W.Frag) (G:Hp):List (Key × V)->List (Key × D)->Prop:=Paired (λ(p:Key × V) (q:Key × D)=>p.1=q.1/\Rep K G p.2 q.2)
theorem KD.len {G:Hp}{vs:List (Key × V)}{ds:List (Key × D)}(h:KD K G vs ds):vs.length=ds.length:=Paired.length h
end
def Itc (lo c:Int) (n:Nat):It:=⟨λi _=>i<n,λi H x H'=>H'=H/\x=.int (lo+(i:Nat)*c),λi _=>n<=i⟩
theorem Znb {P:Program}{w:World}{K:W.Frag}{tg:Expr}(it:Addr) (lo c:Int) (n:Nat):Turn P w K tg (Itc lo c n) [it] it (λi h=>IsRangeIter h it (lo+(i:Nat)*c) ((n:Int)-(i:Nat)) c) where
 mem:=by simp
 obj:=λi h st b hb=>by
  have e:b=it:=by simpa using hb
  subst e;exact⟨_,st,λv z=>by
   have z':Data.fields _=Data.cell v:=z;cases z'⟩
 keep:=λi h h' st k=>k it (by simp) _ st
 item:=by
  intro X hP hw hK hc i pins s σ H E I hf st hg;subst hP hw hK;obtain⟨f0,f1,f2,f3,f4,f5⟩:=hf it (by simp);have W:=Walks.range (prog:=X.prog) (w:=X.w) (I.ok.hd hc) it lo c n;refine W.item i s _ _ hg st λv h' tk hv st' kk=>?_;obtain⟨t,rfl⟩:=hv;have I1:Inv X pins σ H { s with heap:=h',toks:=tk }:=I.turned (λb o hb e=>kk b o (by simpa using hb) e) f0 f1 f3 f4 f5;exact⟨_,rfl,Zoy (s:={ s with heap:=h',toks:=tk }) (n:="range_iterator") st' rfl rfl (by decide) ⟨.int (lo+(i:Nat)*c),H,I1,⟨t,rfl⟩,⟨rfl,rfl⟩,st',λb hb=>(hf b hb).1⟩⟩
 done:=by
  intro X hP hw hK hc i pins s σ H E I hf st hg;subst hP hw hK;obtain⟨f0,f1,f2,f3,f4,f5⟩:=hf it (by simp);exact wpAny_pyNext_range_end (I.ok.hd hc) st (by have:n<=i:=hg;omega) λh' eb=>⟨rfl,I.turned (t':=s.toks) (λb o hb e=>eb b o hb e) f0 f1 f3 f4 f5⟩
 self:=λ_ _ _ _ _ st h=>wpAny_pyIter_rangeiter st h
def stepN (a b c:Int):Nat:=(Builtin.Range.rangeSize a b c).toNat
def iRng3 (ta:TA):TI:=λσ H R=>ta σ H λvs H1=>∃a b c:Int,vs=[.int a,.int b,.int c]/\(-1000<=a/\a<=1000 /\ -1000<=b/\b<=1000/\(c=2\/c = -1))/\R (Itc a c (stepN a b c)) H1
theorem Ze9 (a b:Int):Builtin.Range.rangeSize a b 2=if a<b then (b-a-1) / 2+1 else 0:=by
 unfold Builtin.Range.rangeSize;rw[if_pos (by decide)]
theorem Zoz (a b:Int):Builtin.Range.rangeSize a b (-1)=if a > b then a-b else 0:=by
 unfold Builtin.Range.rangeSize;rw[if_neg (by decide)];split <;> simp
theorem Zku {a b c:Int}(h:-1000<=a/\a<=1000 /\ -1000<=b/\b<=1000/\(c=2\/c = -1)):Builtin.Range.small a b c=true/\0<=Builtin.Range.rangeSize a b c/\Builtin.Range.rangeSize a b c<=4000:=by
 obtain⟨h1,h2,h3,h4,h5⟩:=h;unfold Builtin.Range.small;simp only[Builtin.Range.rangeFitsLong,Wbh,Bool.or_eq_true,decide_eq_true_eq,beq_iff_eq];rcases h5 with rfl|rfl
 ·rw[Ze9];split <;> (refine⟨?_,?_,?_⟩ <;> (try split) <;> (try simp) <;> omega)
 ·rw[Zoz];split <;> (refine⟨?_,?_,?_⟩ <;> (try split) <;> (try simp) <;> omega)
section
variable {X:Cx}{tg:Expr}
theorem Znp {a b c:Expr}{ta:TA}{p pos:Pos}(hg:Gl X "range") (hm:X.mg "range" = none) (ha:PA X [a,b,c] ta) (hs:starEach [a,b,c] X.env=[(false,eval a X.env),(false,eval b X.env),(false,eval c X.env)]:=by rfl) (hs2:starEach [b,c] X.env=[(false,eval b X.env),(false,eval c X.env)]:=by rfl) :
  PI X tg (.Call (.Name "range" p) [a,b,c] [] pos) (iRng3 ta):=by
 intro pins s σ H R I h;refine Call_ (Zdu I hg hm boot_range (PyProof.Rows.callWith_type1 (thn (ha pos pins s σ H _ I h) λus s1 ⟨vs,H1,I1,r1,q1⟩=>?_) (by rw[hs,hs2]) (by rw[hs2];rfl)));obtain⟨i,j,k,e,hb,q⟩:=q1;subst e;cases r1 with
 |cons r rr=>
  cases rr with
  |cons r' rr=>
   cases rr with
   |cons r2 rr=>
    cases rr;obtain⟨t,rfl⟩:=r;obtain⟨t',rfl⟩:=r';obtain⟨t2,rfl⟩:=r2;obtain⟨z1,z2,z3⟩:=Zku hb;refine call_range_3 (by omega) ?_ (Or.inl (PyProof.noPylong_small (by omega)));refine wpAny_pyIter_range (IsRange.new ..) z1 ?_;have I2:Inv X pins σ H1 { s1 with heap:=s1.heap.push { cls:=.type "range",data:=.fields #[.int i t,.int j t',.int k t2] },toks:=s1.toks }:=I1.kept λb o e=>Wac _ e;refine⟨(s1.heap.push { cls:=.type "range",data:=.fields #[.int i t,.int j t',.int k t2] }).objs.size,[(s1.heap.push { cls:=.type "range",data:=.fields #[.int i t,.int j t',.int k t2] }).objs.size],_,_,H1,rfl,
     I2.kept (t':=s1.toks) λb o e=>Wac _ e,Znb _ i k (stepN i j k),?_,λb hb=>?_,q⟩
    ·show IsRangeIter _ _ (i+((0:Nat):Int)*k) (((stepN i j k:Nat):Int)-((0:Nat):Int)) k
     have e1:i+((0:Nat):Int)*k=i:=by simp
     have e2:((stepN i j k:Nat):Int)-((0:Nat):Int)=Builtin.Range.rangeSize i j k:=by unfold stepN;omega
     rw[e1,e2];exact Wao _ rfl
    ·have e:b=(s1.heap.push { cls:=.type "range",data:=.fields #[.int i t,.int j t',.int k t2] }).objs.size:=by simpa using hb
     subst e;exact I2.fpOk (Wah _) (I2.hok.fresh (Wah _))
end
section
variable {K:W.Frag}{Δ:Evt}{P:D->Evt->Prop}
def stpD (lo c:Int) (n:Nat):List D:=(Wa1 n).map λi:Nat=>D.int (lo+(i:Int)*c)
theorem Zke (lo c:Int) (n:Nat):(stpD lo c n).length=n:=by simp[stpD]
theorem Zjn {lo c:Int}{n i:Nat}{d:D}(h:(stpD lo c n)[i]?=some d):i<n/\d=.int (lo+(i:Int)*c):=by
 unfold stpD at h;rw[Wag]at h;by_cases hi:i<n
 ·rw[Wcl hi]at h
  exact⟨hi,(Wbd.inj h).symm⟩
 ·rw[Wb0 (by rw[Wbb];omega)]at h;cases h
theorem Zo4 {G:Hp}(lo c:Int) (n:Nat):ItOk K G (Itc lo c n) (stpD lo c n):=λG1 H1 sg sh=>by
 refine⟨by show n<=(stpD lo c n).length;rw[Zke];exact Wah _,λi d e=>?_⟩;obtain⟨h1,h2⟩:=Zjn e;subst h2;refine⟨h1,λx H2 ⟨e2,y2⟩=>⟨G1,Same.refl _,by rw[e2];exact Same.refl _,λb o q=>⟨by rw[e2];exact sh b o q,.inl q⟩,?_⟩⟩;subst y2;exact .int _
theorem Zlg {ta:TA}{P:List D->Evt->Prop}(h:JA K ta Δ λds Δ1=>∃a b c:Int,ds=[.int a,.int b,.int c]/\(-1000<=a/\a<=1000 /\ -1000<=b/\b<=1000/\(c=2\/c = -1))/\P (stpD a c (stepN a b c)) Δ1):JI K (iRng3 ta) Δ P:=λg G H σ R k c=>
 h g G H σ _ k λvs ds G1 H1 Δ1 k1 s1 r1 hq_=>by
  obtain⟨x,y,z,e,hb,p1⟩:=hq_;subst e;obtain⟨_,_,rfl,ra,rr⟩:=r1.inv
  next=>
   obtain⟨_,_,rfl,rb,rr⟩:=rr.inv
   next=>
    obtain⟨_,_,rfl,rc,rr⟩:=rr.inv
    next=>
     cases rr.inv;cases ra.inv;cases rb.inv;cases rc.inv;exact⟨x,y,z,rfl,hb,c _ _ G1 H1 Δ1 k1 s1 (Zo4 x z _) p1⟩
end
theorem ObjOk.has {P:Program}{w:World}{H:Hp}{h:Heap}{a:Addr}{o:HO}(x:ObjOk P w H h a o):∃ob,h.get? a=some ob:=by
 cases o with
 |lst xs=>obtain⟨_,_,_,_,e⟩:=x;exact⟨_,e⟩
 |tup xs=>obtain⟨_,_,_,o,e,_⟩:=x;exact⟨_,e⟩
 |dK kvs=>obtain⟨_,_,_,_,o,_,_,e,_⟩:=x;exact⟨_,e⟩
 |dT kvs=>obtain⟨_,_,_,_,o,_,_,e,_⟩:=x;exact⟨_,e⟩
 |set S n=>obtain⟨o,_,_,_,e,_⟩:=x;exact⟨_,e⟩
 |ins C dx fs=>obtain⟨_,_,_,e,_⟩:=x;exact⟨_,e⟩
 |own y=>exact x
 |xd fs=>obtain⟨_,⟨_,_,_,e,_⟩,_⟩:=x;exact⟨_,e⟩
 |rng lo hi=>obtain⟨_,_,_,e⟩:=x;exact⟨_,e⟩
 |frz ob u=>obtain⟨e,_⟩:=x;exact⟨_,e⟩
 |tbl ps=>exact⟨_,x⟩
 |met f y=>exact⟨_,x⟩
 |ext φ=>exact x.2.1
theorem HOk.noneAt {P:Program}{w:World}{H:Hp}{h:Heap}{a:Addr}(x:HOk P w H h) (e:h.get? a=none):H a=none:=by
 cases q:H a with
 |none=>rfl
 |some o=>obtain⟨ob,z⟩:=(x a o q).has;rw[e]at z;cases z
structure Nw (X:Cx) (pins:List (Addr × Obj)) (H:Hp) (b:Addr):Prop where
 old:X.s₀.heap.get? b=none
 trk:H b=none
 loc:b≠X.env.locals
 cel:∀x c,X.env.cells.lookup x=some c->c≠b
 pin:∀p∈X.pn++pins,p.1≠b
section
variable {X:Cx}{pins:List (Addr × Obj)}{σ:St}{H H':Hp}{s:Shared}{h':Heap}{b:Addr}
theorem Nw.of (I:Inv X pins σ H s) (hex:X.ex=[]) (e:s.heap.get? b=none):Nw X pins H b where
 old:=by
  cases q:X.s₀.heap.get? b with
  |none=>rfl
  |some o=>obtain⟨o',z⟩:=I.base.there b o q (by rw[hex];simp);rw[e]at z;cases z
 trk:=I.hok.noneAt e
 loc:=by rintro rfl;obtain⟨m,⟨o,_,_,ho,_⟩,_⟩:=I.loc;rw[e]at ho;cases ho
 cel:=λx c hc z=>by subst z;obtain⟨v,o,ho,_⟩:=I.cell x c hc;rw[e]at ho;cases ho
 pin:=λp hp z=>by have:=(I.pin p hp).1;rw[z,e]at this;cases this
theorem Nw.at (n:Nw X pins H b) (h:H' b=none):Nw X pins H' b:=⟨n.old,h,n.loc,n.cel,n.pin⟩
theorem Inv.moved {hid:List Addr}(I:Inv X pins σ H s) (hex:X.ex=[]) (new:∀b∈hid,Nw X pins H b) (kp:∀b o,s.heap.get? b=some o->b ∉ hid->b ∉ frs X.stack->h'.get? b=some o) (up:s.heap.UpToSlots h'):Inv X pins σ H { s with heap:=h' }:=by
 have nst:∀b,b≠X.env.locals->b ∉ X.fs->b ∉ frs X.stack:=λb h1 h2 z=>(Wan.mp (I.stkSub b z)).elim h1 h2;have neL:∀b o,X.s₀.heap.get? b=some o->b≠X.env.locals:=λb o e=>Way (Wa9 (War e) I.ok.above);have nhd:∀b o,X.s₀.heap.get? b=some o->b ∉ hid:=λb o e z=>by rw[(new b z).old]at e;cases e
 have nx:∀b,b ∉ X.ex:=λb=>by rw[hex];simp
 have cellK:∀c v,s.heap.IsCell c v->h'.IsCell c v:=λc v hq=>by
  obtain⟨o,ho,hd⟩:=hq;obtain⟨sl,e⟩:=up c o ho (λvs q=>by rw[hd]at q;cases q);exact⟨_,e,hd⟩
 refine⟨I.ok,I.os,I.bare,⟨λb o e n hb hx=>?_,λb o e n hb hx=>?_,I.base.free,λb o e hx=>?_,I.base.tups,I.base.frzs,I.base.tbls⟩,?_,λx c e=>?_,I.free,I.freeC,λp hp=>?_,λb u e=>?_,I.len⟩
 ·exact kp b o (I.base.keep b o e n hb hx) (nhd b o e) (nst b (neL b o e) hb)
 ·obtain⟨sl,e1⟩:=I.base.slot b o e n hb hx
  obtain⟨_,o',ho',hd⟩:=I.funs.mem hb;rw[e1]at ho';cases ho';obtain⟨sl',e2⟩:=up b _ e1 hd;exact⟨sl',e2⟩
 ·obtain⟨o',e1⟩:=I.base.there b o e hx
  by_cases hb:b∈frs X.stack
  ·obtain⟨_,o2,ho',hd⟩:=I.stack.mem hb
   obtain⟨sl',e2⟩:=up b _ ho' hd;exact⟨_,e2⟩
  ·exact⟨o',kp b o' e1 (nhd b o e) hb⟩
 ·obtain⟨m,hn,hl⟩:=I.loc
  refine⟨m,up.ns hn,λi x v e1 e2 e3=>?_⟩;obtain⟨u,r,l⟩:=hl i x v e1 e2 e3;refine⟨u,r,?_⟩;rcases l with l|⟨k,c,e,z⟩
  ·exact .inl l
  ·exact .inr ⟨k,c,e,cellK c _ z⟩
 ·obtain⟨v,z⟩:=I.cell x c e
  exact⟨v,cellK c v z⟩
 ·obtain⟨e,n,ne,nf,d⟩:=I.pin p hp
  exact⟨kp p.1 p.2 e (λz=>(new _ z).pin p hp rfl) (nst _ ne nf),n,ne,nf,d⟩
 ·refine(I.hok b u e).stay (λc v hc q=>kp c v q (λz=>?_) λz=>?_) (λ_ q=>q) λ_ _ q=>q
  ·have n:=(new c z).trk
   rcases hc with rfl|hc
   ·rw[e]at n;cases n
   ·rw[hc]at n;cases n
  ·have n:=I.stkFree c z
   rcases hc with rfl|hc
   ·rw[e]at n;cases n
   ·rw[hc]at n;cases n
end
def Trc (h:Heap) (a C T:Addr):Prop:=
 ∃oe vs oT ts,h.get? a=some oe/\oe.cls=.ref C/\oe.data=.fields vs/\vs[1]?=some (.ref T)/\vs[2]?=some .none/\T≠a/\h.get? T=some oT/\oT.data=.fields ts/\ts[3]?=some .none
section
variable {M:Model}{A:Around}{E:Value->Shared->Prop}{s:Shared}{Q:Unit->Shared->Prop}{env:Env}{outer:List Env}{base:Heap}{L e:Addr}{oe:Obj}{vs:Array Value}
theorem Zsh (hl:s.heap.FunFrames base (env::outer)) (he:s.heap.get? e=some oe) (hd:oe.data=.fields vs):e ∉ frs (env::outer):=λhm=>by
 obtain⟨_,o,ho,hn⟩:=hl.mem hm;rw[he]at ho;exact hn vs (Wbd.inj ho ▸ hd)
structure Noted (h h':Heap) (l:List Env) (e:Addr) (oe:Obj) (T:Addr):Prop where
 keep:∀b o,h.get? b=some o->b≠e->b ∉ frs l->h'.get? b=some o
 up:∀b o,h.get? b=some o->b≠e->(∀ws,o.data≠.fields ws)->∃sl,h'.get? b=some { o with slots:=sl }
 new:h.get? T=none
 exc:h'.get? e=some (oe.mapFields (·.setIfInBounds 1 (.ref T)))
 tb:∃oT ts,h'.get? T=some oT/\oT.data=.fields ts/\3<ts.size
theorem entryX {head:Value}{hadNext:Bool}(hfr:A.frames=some (env::outer)) (hl:s.heap.FunFrames base (env::outer)) (hf:env.frame=some L) (he:s.heap.get? e=some oe) (hd:oe.data=.fields vs) (hsz:1<vs.size)
  (h:∀h' T,Noted s.heap h' (env::outer) e oe T->Q () { s with heap:=h' }) :
  wpAny M A (do let a ← frameOf env;let pl ← entryPlaceOf L hadNext;let b ← EntryCells.newEntry head a .none (rawInt L) .none pl;setField (.ref e) 1 b) Q E s:=by
 have hene:=Zsh hl he hd;refine wpAny_bind (wpAny_frameOf_fun hfr hl hf λg1 hg=>?_);refine wpAny_bind (wpAny_entryPlaceOf λpl hp=>?_);unfold EntryCells.newEntry newFields;refine wpAny_bind (wpAny_newObj_type ?_ (hp.sizeOk5 _ _ _ _ _));have he1:g1.get? e=some oe:=(hg.2.1 e hene).trans he;have he2:=Wac (h:=g1) { cls:=.type "traceback",dict:=none,data:=.fields ([head,.ref L,.none,rawInt L,.none]++(if pl.isEmpty then Wad 6 Value.none else pl)).toArray } he1;refine wpAny_setField he2 hd hsz (h _ g1.objs.size ?_);have nT:g1.objs.size≠e:=Wdh (War he1);have hd3:=Obj.data_mapFields hd (·.setIfInBounds 1 (Value.ref g1.objs.size));have hT3:=(Wbr (g1.push { cls:=.type "traceback",dict:=none,data:=.fields ([head,.ref L,.none,rawInt L,.none]++(if pl.isEmpty then Wad 6 Value.none else pl)).toArray }) (Obj.mapFields (·.setIfInBounds 1 (Value.ref g1.objs.size))) (Ne.symm nT)).trans (Wao g1 rfl);refine⟨λb o hb h1 h2=>?_,λb o hb h1 hn=>?_,?_,?_,⟨_,_,hT3,rfl,?_⟩⟩
 ·rw[Wbr _ _ (Ne.symm h1)]
  exact Wac _ ((hg.2.1 b h2).trans hb)
 ·obtain⟨sl,q⟩:=hg.2.2 b o hb
  exact⟨sl,by rw[Wbr _ _ (Ne.symm h1)];exact Wac _ q⟩
 ·exact Heap.get?_none_of_le (by rw[hg.1];exact Wah _)
 ·exact Wcg _ he2 (Obj.isFreed_of_fields hd3)
 ·rw[Wam,Wai,Wap,Wap,Wap,Wap]
  omega
theorem noteN (hfr:A.frames=some (env::outer)) (hl:s.heap.FunFrames base (env::outer)) (hf:env.frame=some L) (he:s.heap.get? e=some oe) (hd:oe.data=.fields vs) (h1:vs[1]?=some .none)
  (h:∀h' T,Noted s.heap h' (env::outer) e oe T->Q () { s with heap:=h' }):wpAny M A (noteFrame (.ref e) env) Q E s:=by
 unfold noteFrame;simp only[hf];refine wpAny_bind (wpAny_field he hd h1 ?_);rw[if_neg (by decide)];exact entryX hfr hl hf he hd (Array.getElem?_eq_some_iff.mp h1).1 h
theorem noteT {T:Addr}{oT:Obj}{ts:Array Value}(hfr:A.frames=some (env::outer)) (hl:s.heap.FunFrames base (env::outer)) (hf:env.frame=some L) (he:s.heap.get? e=some oe) (hd:oe.data=.fields vs) (h1:vs[1]?=some (.ref T)) (hTe:T≠e)
  (hT:s.heap.get? T=some oT) (hdT:oT.data=.fields ts) (h3:ts[3]?=some .none) (h:∀h' T',Noted (s.heap.update T (Obj.mapFields (·.setIfInBounds 3 .none))) h' (env::outer) e oe T' -> Q () { s with heap:=h' }):wpAny M A (noteFrame (.ref e) env) Q E s:=by
 unfold noteFrame;simp only[hf];refine wpAny_bind (wpAny_field he hd h1 ?_);rw[if_pos (show (Value.ref T != Value.none)=true from by simp)];refine wpAny_bind (wpAny_field hT hdT h3 ?_);rw[if_neg (show ¬ ((Value.none == rawInt L)=true) from by simp[rawInt])];refine wpAny_bind (wpAny_setField hT hdT (Array.getElem?_eq_some_iff.mp h3).1 ?_);have ot:∀b,b≠T->(s.heap.update T (Obj.mapFields (·.setIfInBounds 3 Value.none))).get? b=s.heap.get? b:=λb hb=>Wbr _ _ (Ne.symm hb);refine entryX (s:={ s with heap:=s.heap.update T (Obj.mapFields (·.setIfInBounds 3 .none)) }) hfr (hl.of_keeps λb o hb hn=>⟨o,(ot b λq=>?_).trans hb,rfl⟩) hf ((ot e (Ne.symm hTe)).trans he) hd (Array.getElem?_eq_some_iff.mp h1).1 λh' T' n=>h h' T' n;rw[q,hT]at hb;exact hn ts (Wbd.inj hb ▸ hdT)
end
section
variable {X:Cx}{pins:List (Addr × Obj)}{σ:St}{H H':Hp}{s:Shared}{h':Heap}{a C T:Addr}
theorem Inv.noted {h0:Heap}{oe:Obj}{vs:Array Value}{hid:List Addr}{T':Addr}(I:Inv X pins σ H s) (hex:X.ex=[]) (na:Nw X pins H a) (new:∀b∈hid,Nw X pins H b) (he:s.heap.get? a=some oe) (hc:oe.cls=.ref C) (hd:oe.data=.fields vs) (h2:vs[2]?=some .none)
  (k0:∀b,b ∉ hid->h0.get? b=s.heap.get? b) (hf0:∀b∈hid,∀o,s.heap.get? b=some o->∃ws,o.data=.fields ws) (hn0:∀b,h0.get? b=none->s.heap.get? b=none) (n:Noted h0 h' X.stack a oe T') {h3:Heap}(e3:h3=h'.update T' (Obj.mapFields (·.setIfInBounds 3 .none))) :
  Inv X pins σ H { s with heap:=h3 } /\ Trc h3 a C T' /\ Nw X pins H T':=by
 subst e3;have nT:=Nw.of I hex (hn0 _ n.new);have ot:∀b,b≠T' -> (h'.update T' (Obj.mapFields (·.setIfInBounds 3 Value.none))).get? b=h'.get? b:=λb hb=>Wbr _ _ (Ne.symm hb);have hTa:T'≠a:=by rintro rfl;have z:=hn0 _ n.new;rw[he]at z;cases z
 have ne:∀b o,s.heap.get? b=some o->b≠T':=λb o e z=>by subst z;rw[hn0 _ n.new]at e;cases e
 have fl:∀b,b∈a::hid->∀o,s.heap.get? b=some o->∃ws,o.data=.fields ws:=λb hb o e=>by
  rcases Wan.mp hb with rfl|hb
  ·rw[he]at e;cases e;exact⟨vs,hd⟩
  ·exact hf0 b hb o e
 refine⟨I.moved (hid:=a::hid) hex (λb hb=>(Wan.mp hb).elim (λz=>by subst z;exact na) (new b)) (λb o e h1 h2=>?_) (λb o e hnf=>?_),?_,nT⟩
 ·have h1a:b≠a:=λz=>h1 (by simp[z])
  have h1b:b ∉ hid:=λz=>h1 (Wav _ z);rw[ot b (ne b o e)];exact n.keep b o ((k0 b h1b).trans e) h1a h2
 ·have hb:b ∉ a::hid:=λz=>by obtain⟨ws,q⟩:=fl b z o e;exact hnf ws q
  have h1a:b≠a:=λz=>hb (by simp[z]);have h1b:b ∉ hid:=λz=>hb (Wav _ z);obtain⟨sl,q⟩:=n.up b o ((k0 b h1b).trans e) h1a hnf;exact⟨sl,(ot b (ne b o e)).trans q⟩
 ·obtain⟨oT,ts,t1,t2,t3⟩:=n.tb
  have sz:2<vs.size:=(Array.getElem?_eq_some_iff.mp h2).1;refine⟨_,_,_,_,(ot a (Ne.symm hTa)).trans n.exc,(Obj.cls_mapFields _ _).trans hc,Obj.data_mapFields hd _,?_,?_,hTa,Wcg _ t1 (Obj.isFreed_of_fields (Obj.data_mapFields t2 _)),Obj.data_mapFields t2 _,?_⟩
  ·simp[show 1<vs.size by omega]
  ·rw[Array.getElem?_setIfInBounds_ne (by decide)];exact h2
  ·simp[t3]
variable {M:Model}{E:Value->Shared->Prop}{Q:Unit->Shared->Prop}
theorem Zjl {h h':Heap}{l:List Env}{e T:Addr}{oe:Obj}{vs:Array Value}{A:Around}{s:Shared}(hd:oe.data=.fields vs) (sz:1<vs.size) (n:Noted h h' l e oe T) (h:Q () { s with heap:=h'.update T (Obj.mapFields (·.setIfInBounds 3 .none)) }) :
  wpAny M A (setFlight (.ref e) none) Q E { s with heap:=h' }:=by
 obtain⟨oT,ts,t1,t2,t3⟩:=n.tb;exact wpAny_setFlight_none (s:={ s with heap:=h' }) n.exc (Obj.data_mapFields hd _) (by simp[sz]) t1 t2 t3 h
theorem Zrj (I:Inv X pins σ H s) (hex:X.ex=[]) (hst:X.stack=X.env::X.outer) (hf:X.env.frame=some X.env.locals) (tr:Trc s.heap a C T) (na:Nw X pins H a) (nT:Nw X pins H T)
  (h:∀h' T',Inv X pins σ H { s with heap:=h' } -> Trc h' a C T' -> Nw X pins H T' -> Q () { s with heap:=h' }):wpAny M X.A (noteFrame (.ref a) X.env) (λ_ s2=>wpAny M X.A (setFlight (.ref a) none) Q E s2) E s:=by
 obtain⟨oe,vs,oT,ts,h1,h2,h3,h4,h5,h6,h7,h8,h9⟩:=tr;have hfr:=I.ok.frames;have hl:=I.stack;rw[hst]at hfr hl;have ot:∀b,b≠T->(s.heap.update T (Obj.mapFields (·.setIfInBounds 3 Value.none))).get? b=s.heap.get? b:=λb hb=>Wbr _ _ (Ne.symm hb);refine noteT hfr hl hf h1 h3 h4 h6 h7 h8 h9 λh' T' n=>?_;refine Zjl h3 (Array.getElem?_eq_some_iff.mp h4).1 n ?_;rw[<- hst]at n;obtain⟨J,t1,t2⟩:=I.noted (hid:=[T]) hex na (λb hb=>by rcases Wan.mp hb with rfl|hb;exact nT;cases hb) h1 h2 h3 h5 (λb hb=>ot b (by simpa using hb)) (λb hb o e=>by
  have hb:b=T:=by simpa using hb
  subst hb;rw[h7]at e;cases e;exact⟨ts,h8⟩) (λb e=>by
   by_cases hb:b=T
   ·subst hb
    rw[Wcg _ h7 (Obj.isFreed_of_fields (Obj.data_mapFields h8 _))]at e;cases e
   ·exact(ot b hb).symm.trans e) n rfl
 exact h _ T' J t1 t2
theorem Zma {h1:Heap}{args:List Value}(I:Inv X pins σ H s) (hex:X.ex=[]) (hst:X.stack=X.env::X.outer) (hf:X.env.frame=some X.env.locals) (hm:Heap.MadeExcOf s.heap h1 a (.ref C) args)
  (h:∀h' T',Inv X pins σ H { s with heap:=h' } -> Trc h' a C T' -> Nw X pins H a->Nw X pins H T' -> Q () { s with heap:=h' }):wpAny M X.A (leaving X.env (.ref a)) Q E { s with heap:=h1 }:=by
 have J:Inv X pins σ H { s with heap:=h1 }:=I.kept (t':=s.toks) hm.keeps;have na:=Nw.of I hex hm.new;obtain⟨t,he,_,_⟩:=hm.there;have hfr:=J.ok.frames;have hl:=J.stack;rw[hst]at hfr hl;unfold leaving;refine wpAny_bind (noteN (s:={ s with heap:=h1 }) hfr hl hf he rfl rfl λh' T' n=>?_);refine Zjl (vs:=#[.ref t,.none,.none,.none,.bool false,.none]) (s:={ s with heap:=h1 }) rfl (show 1<6 by decide) n ?_;rw[<- hst]at n;obtain⟨J2,t1,t2⟩:=J.noted (hid:=[]) hex na (λb hb=>by cases hb) he rfl rfl rfl (λb _=>rfl) (λb hb=>by cases hb) (λb e=>e) n rfl;exact h _ T' J2 t1 na t2
theorem Zon {A:Around}(I:Inv X pins σ H s) (hex:X.ex=[]) (tr:Trc s.heap a C T) (na:Nw X pins H a) (nT:Nw X pins H T)
  (h:∀h' T',Inv X pins σ H { s with heap:=h' } -> Trc h' a C T' -> Nw X pins H T' -> Q () { s with heap:=h' }):wpAny M A (setFlight (.ref a) none) Q E s:=by
 obtain⟨oe,vs,oT,ts,h1,h2,h3,h4,h5,h6,h7,h8,h9⟩:=tr;have sz:=(Array.getElem?_eq_some_iff.mp h9).1;have ot:∀b,b≠T->(s.heap.update T (Obj.mapFields (·.setIfInBounds 3 Value.none))).get? b=s.heap.get? b:=λb hb=>Wbr _ _ (Ne.symm hb);refine wpAny_setFlight_none h1 h3 h4 h7 h8 sz (h _ T ?_ ?_ nT)
 ·refine I.moved (hid:=[T]) hex (λb hb=>by rcases Wan.mp hb with rfl|hb;exact nT;cases hb) (λb o e hb _=>(ot b (by simpa using hb)).trans e) (λb o e hnf=>⟨o.slots,(ot b λz=>?_).trans e⟩)
  subst z;rw[h7]at e;cases e;exact hnf ts h8
 ·exact⟨oe,vs,_,_,(ot a (Ne.symm h6)).trans h1,h2,h3,h4,h5,h6,Wcg _ h7 (Obj.isFreed_of_fields (Obj.data_mapFields h8 _)),Obj.data_mapFields h8 _,by simp[sz]⟩
end
def CXE (P:Program) (w:World):CXT:=λouter H s E e s'=>
 ∃(a C T:Addr) (H':Hp),e=.ref a/\s'.os=s.os/\AllBare s'.gens/\Un (frs outer) [] H H' s.heap s'.heap/\HOk P w H' s'.heap/\H' a=none/\s.heap.get? a=none/\H' T=none/\s.heap.get? T=none/\Trc s'.heap a C T/\E (.ref C) none H'
def Throws (X:Cx) (E:XK):Prop:=∀(pins:List (Addr × Obj)) (σ:St) (H:Hp) (s:Shared) (h1:Heap) (a C:Addr) (args:List Value),Inv X pins σ H s->Heap.MadeExcOf s.heap h1 a (.ref C) args->E (.ref C) none H->X.xe (.ref a) { s with heap:=h1 }
section
variable {P:Program}{w:World}{K:W.Frag}{mg:Str->Option Value}{base:Heap}{N:List Str}{qual:Str}{scope:Scope}{f:Addr}{cd:Value}{A:Around}{outer:List Env}{s0:Shared}{H0:Hp}{E:XK}
theorem Zo1:Throws (cxOf (CXE P w) P w K mg base N qual scope f cd A outer s0 H0 E) E:=λpins σ H s h1 a C args I hm hE=>by
 refine Zma I rfl rfl rfl hm λh' T' J2 t1 na t2=>?_;exact⟨a,C,T',H,rfl,J2.os,J2.bare,J2.base,J2.hok,na.trk,na.old,t2.trk,t2.old,t1,hE⟩
end
abbrev ExcC (K:W.Frag) (C:Addr):Prop:=PySem.W.excIn K C [.type "ValueError",.type "Exception",.type "BaseException",.type "object"] "ValueError.__new__" = true
def ExcO (h:Heap) (C:Addr) (bm:List Value):Prop:=∃N nm qn bs hd sn sub ab col dd k0 k1 k2 k3 k5 mN,h.get? C=some (excClassObj nm qn C N bs bm hd sn sub ab col dd k0 k1 k2 k3 k5 "ValueError.__new__")/\h.Ns N mN/\mN "__init__" = none/\OwnTail h [.type "ValueError",.type "Exception",.type "BaseException",.type "object"] bm
theorem Zep {K:W.Frag}{h:Heap}{C:Addr}(X:K.In h) (q:ExcC K C):∃bm,ExcO h C bm/\∀v b,PySem.W.mroIn K C v=some b->(Value.ref C::bm).contains v=b:=by
 unfold ExcC PySem.W.excIn at q;split at q
 next dd cd sl e=>
  split at q
  next C' bm k0 k1 k2 k3 n k5 e1 e2=>
   rw[Wbh,Wbh,Wbh,Wbh,Wbh]at q;obtain⟨⟨⟨⟨⟨q1,q2⟩,q3⟩,q4⟩,q5⟩,q6⟩:=q;have q1:=beq_iff_eq.mp q1;have q2:=beq_iff_eq.mp q2;rw[Bool.not_eq_true']at q3;subst q1;cases cd with
   |mk nm bs mro ns qn hd sn sub ab col del=>
    dsimp only at e1 q3 q5 q6;have q7:=beq_iff_eq.mp q6;subst e1;subst q3;have e3:sl = #[k0,k1,k2,k3,some (.builtin n),k5]:=by
     cases sl with
     |mk l=>exact congrArg Array.mk e2
    subst e3;subst q2;refine⟨bm,⟨ns,nm,qn,bs,hd,sn,sub,ab,col,dd,k0,k1,k2,k3,k5,_,X _ _ e,.of_isNs (PySem.W.isNs_of_in X q5),PySem.W.nsMap_none_of_in X q5 q7,PySem.W.tail_of_in X q4⟩,λv b hv=>?_⟩;unfold PySem.W.mroIn PySem.W.clsIn at hv;rw[e]at hv;have hv:some ((Value.ref C'::bm).contains v)=some b:=hv;exact Wbd.inj hv
  next=>cases q
 next=>cases q
def tRaise (C:Addr) (E:XK) (t:TA):TS:=λ_ σ H=>t σ H λvs H1=>vs.length<=sizeLine/\E (.ref C) none H1
section
variable {X:Cx}{x:Str}{C:Addr}{np cpos pos:Pos}{e:Expr}{es:List Expr}{t:TA}{E:XK}
theorem Zol (cl:ExcC X.K C) (hg:Gl X x) (hm:X.mg x=some (.ref C)) (hh:X.A.handled=none) (hr:Throws X E) (ha:PA X (e::es) t) (hdb:(x == ("__debug__":Str))=false:=by decide)
  (he:starEach (e::es) X.env=(false,eval e X.env)::starEach es X.env:=by rfl) (hpl:(backTo cpos (starEach (e::es) X.env)).any (·.1)=false:=by rfl):PS X (.Raise (some (.Call (.Name x np) (e::es) [] cpos)) none pos) (tRaise C E t):=by
 intro pins s σ H D I h;obtain⟨bm,⟨N,nm,qn,bs,hd,sn,sub,ab,col,dd,k0,k1,k2,k3,k5,mN,o1,o2,o3,o4⟩,_⟩:=Zep I.ok.mod.kin cl;refine wpAny_Raise_call_subT (C:=C) (nm:=nm) (q:=qn) (N:=N) (bs:=bs) (bm:=bm) (hdct:=hd) (sn:=sn) (sub:=sub) (ab:=ab) (col:=col) (dd:=dd) (k0:=k0) (k1:=k1) (k2:=k2) (k3:=k3) (k5:=k5) (mN:=mN) F.excBase_ValueError (o4.hasType rfl) hh hpl o3 ?_;refine Zeq I hg hm ⟨rfl,?_⟩ hdb;have e1:backTo cpos (starEach (e::es) X.env)=(false,eval e X.env)::backTo cpos (starEach es X.env):=by rw[he];rfl
 rw[e1];refine Calls.evalArgs_plain ?_;rw[<- e1];refine thn (ha cpos pins s σ H _ I h) λus s1 ⟨vs,H1,I1,r,z,q⟩=>?_;exact⟨rfl,by rw[<- r.length];exact z,I1.bk _ _ o1,o2.keeps I1.bk,o4.keeps I1.bk,λh' a hm'=>hr pins σ H1 s1 h' a C us I1 hm' q⟩
end
structure ExcI (K:W.Frag) (C:Addr):Prop where
 cl:ExcC K C
 ga:PySem.W.findIn K (.ref C) "__getattribute__" = some (some (.builtin "BaseException.__getattribute__"))
 gt:PySem.W.findIn K (.ref C) "__getattr__" = some none
 ca:PySem.W.findIn K (.ref C) "__class__" = some (some (.builtin "object.__class__"))
 gs:PySem.W.specialIn K (.builtin "object.__class__") "__get__" = some (some (.builtin "getset_descriptor.__get__"))
 tk:PySem.W.takesIn K (.builtin "object.__class__")=some true
 ob:PySem.W.mroIn K C (.type "object")=some true
 be:PySem.W.mroIn K C (.type "BaseException")=some true
theorem InsC.ty {a C:Addr}{h:Heap}{M:Model}(I:InsC a C h):PySem.W.Looks M h (typeOf (.ref a)) (.ref C):=by
 obtain⟨o,_,h1,h2,_⟩:=I;exact h2 ▸ (PySem.W.Looks.ld h1).andThen .now
section
variable {prog:Program}{w:World}{A:Around}{E:Value->Shared->Prop}{K:W.Frag}{s:Shared}{a C:Addr}
theorem Zm0 {M:Model}{nameV:Value}{Q:Unit->Shared->Prop}(X:K.In s.heap) (Z:ExcI K C) (I:InsC a C s.heap) (hq:Q () s):wpAny M A (checkBuiltinCall "BaseException.__getattribute__" ⟨[.ref a,nameV],[]⟩) Q E s:=by
 obtain⟨h,g,d,t,os⟩:=s;have hk:builtinKind "BaseException.__getattribute__" = some .slot:=by decide +kernel
 have hs:splitId "BaseException.__getattribute__" = some ("BaseException","__getattribute__"):=by decide +kernel
 obtain⟨bm,⟨N,nm,qn,bs,hd,sn,sub,ab,col,dd,k0,k1,k2,k3,k5,mN,hC,o2,o3,o4⟩,hmro⟩:=Zep X Z.cl;have hB:=hmro _ _ Z.be;obtain⟨ox,_,hx,hc,_⟩:=I;have ha:=F.args_bexc_ga (.ref a) nameV;simp only[checkBuiltinCall,hk,hs];refine wpAny_bind ?_;unfold isInstance
 repeat (first|(with_reducible refine wpAny_loadPart_at hx ?_;rw[hc])|(with_reducible refine wpAny_isSubtype_exc hC ?_;rw[hB])|wp_step)
 exact hq
theorem Zki {R:Result->Shared->Prop}{tp:Value}(X:K.In s.heap) (I:InsC a C s.heap) (hm:PySem.W.mroIn K C (.type "object")=some true) (h:R (.ok (.ret (.ref C))) s) :
  codeAny (model prog w) A (.call (.builtin "getset_descriptor.__get__") ⟨[.builtin "object.__class__",.ref a,tp],[]⟩) R s:=by
 obtain⟨h0,g,d,t,os⟩:=s;have l0:=I.ty (M:=model prog w);have l1:=PySem.W.looks_mroIn (M:=model prog w) X hm;have ht:(⟨h0,g,d,t,os⟩:Shared).TypeIs (.builtin "object.__class__") "getset_descriptor":=PySem.W.KF.type_class;refine codeAny_call_builtin PySem.W.KF.slot_gs.plain PySem.W.KF.entry_gs (PySem.W.KF.slot_gs.check _ _ _ _ _ _ _ _ ht (PySem.W.KF.args_gs _ _ _) ?_);unfold Builtin.«getset_descriptor.__get__» Builtin.Getset_descriptor.descrGet;rw[PySem.W.dga_obj];refine wpAny_bind (m:=pure _) (wpAny_pure ?_);unfold Builtin.Getset_descriptor.descrGetter Builtin.Getset_descriptor.descrCheckInstance Builtin.Getset_descriptor.descrNameAndClass isInstance;simp only[PySem.W.KF.owner_class]
 repeat lk
 refine⟨Code.quiet_builtin _ (by decide +kernel),codeAny_builtin PySem.W.KF.entry_class ?_⟩;unfold Builtin.«object.__class__» shownTypeOf
 repeat lk
 exact h
theorem Zmu {Q:Option Value->Shared->Prop}(X:K.In s.heap) (Z:ExcI K C) (I:InsC a C s.heap) (h:Q (some (.ref C)) { s with toks:=s.toks+1 }):wpAny (model prog w) A (getAttr? (.ref a) "__class__") Q E s:=by
 obtain⟨hh,g,d,t,os⟩:=s;have L0:=I.ty (M:=model prog w);have L1:=PySem.W.looks_findIn (M:=model prog w) X Z.ga;have L2:=PySem.W.looks_findIn (M:=model prog w) X Z.gt;have L3:PySem.W.Looks (model prog w) hh (Builtin.ObjectAttr.find (.ref a) (.ref C) "__class__") (.bind (.builtin "getset_descriptor.__get__") (.builtin "object.__class__")):=by
  unfold Builtin.ObjectAttr.find;refine(PySem.W.looks_findIn X Z.ca).andThen ((show PySem.W.Looks (model prog w) hh (Builtin.ObjectAttr.getOf (some (.builtin "object.__class__"))) _ from PySem.W.looks_specialIn X Z.gs).andThen ?_);have q:PySem.W.Looks (model prog w) hh (Builtin.ObjectAttr.dataDescriptor? (some (.builtin "object.__class__")) (some (.builtin "getset_descriptor.__get__"))) (some (.builtin "getset_descriptor.__get__",.builtin "object.__class__")):=(PySem.W.looks_takesIn X Z.tk).andThen .now;exact q.andThen (PySem.W.Looks.tag .now)
 have f3:=F.excAttr_ValueError.ga.bind (.ref a);have hx2:(Value.builtin "BaseException.__getattribute__" == Value.builtin "object.__getattribute__")=false:=by decide +kernel
 have hx1:(onTheHeap (Value.ref C) && Value.builtin "BaseException.__getattribute__" == Value.builtin "object.__getattribute__")=false:=by rw[hx2];rfl
 unfold getAttr? getAttrBy? getAttrBy;refine wpAny_bind (wpAny_mkText (wpAny_bind (wpAny_attempt (wpAny_holding (wpAny_bind (L0.at (wpAny_bind (L1.at ?_))))))));dsimp only;rw[hx1];rw[if_neg Waj];unfold getAttrByItsOwn hookBefore;rw[if_pos (show onTheHeap (Value.ref C)=true from rfl)];refine wpAny_bind (L2.at (wpAny_bind (wpAny_attempt (wpAny_holding ?_))));unfold callGetattribute;rw[Bool.false_and,if_neg Waj];unfold boundAndCalled;refine wpAny_bind (wpAny_of_eq f3 ?_);refine wpAny_call (codeAny_call_builtin F.excAttr_ValueError.ga.plain F.entry_bexc_ga (Zm0 X Z I ?_));unfold Builtin.«object.__getattribute__»;refine wpAny_bind (m:=slotArgs _ _ _) (wpAny_pure ?_);dsimp only;refine wpAny_bind (m:=Builtin.ObjectAttr.attrName _) (wpAny_pure ?_);refine wpAny_bind (L0.at (wpAny_bind (L3.at ?_)));dsimp only;unfold Builtin.ObjectAttr.bindTo;dsimp only;refine wpAny_bind (wpAny_holding (wpAny_call (Zki (s:=⟨hh,g,d,t+1,os⟩) X I Z.ob (wpAny_pure ?_))));exact PySem.W.handed_on rfl (wpAny_pure h)
theorem Zhc (Z:ExcI K C):PySem.W.KitX K (.ref a) (.ref C) (InsC a C) where
 ty:=λ_ _ _ I=>I.ty
 it:=λ_ h X _=>by
  obtain⟨bm,⟨N,nm,qn,bs,hd,sn,sub,ab,col,dd,k0,k1,k2,k3,k5,mN,hC,_⟩,_⟩:=Zep X Z.cl;intro A' Q' E' s' k q;unfold isType loadHead;exact wpAny_bind (wpAny_loadPart (k _ _ hC) (wpAny_pure q))
 ne:=λh tp dd its n sl X htp=>by
  obtain⟨bm,⟨N,nm,qn,bs,hd,sn,sub,ab,col,dd',k0,k1,k2,k3,k5,mN,hC,_⟩,_⟩:=Zep X Z.cl;refine Wc5.mpr λq=>?_;have e:C=tp:=Value.ref.inj (beq_iff_eq.mp q);subst e;rw[hC]at htp;exact absurd (congrArg Obj.cls (Wbd.inj htp)) (by intro z;injection z with z;exact absurd z (by decide))
 ca:=λX I k=>Zmu X Z I k
end
theorem Zfy {M:Model}{A:Around}{E:Value->Shared->Prop}{K:W.Frag}{s:Shared}{a C FE:Addr}{Q:Bool->Shared->Prop}(X:K.In s.heap) (cF:ExcC K FE) (cC:ExcC K C) (hm:PySem.W.mroIn K C (.ref FE)=some true) (I:InsC a C s.heap) (hq:Q true s) :
  wpAny M A (excMatches (.ref a) (.ref FE)) Q E s:=by
 obtain⟨h,g,d,t,os⟩:=s;obtain⟨bm,⟨N,nm,qn,bs,hd,sn,sub,ab,col,dd,k0,k1,k2,k3,k5,mN,hC,_⟩,hmro⟩:=Zep X cC;obtain⟨bm',⟨N',nm',qn',bs',hd',sn',sub',ab',col',dd',k0',k1',k2',k3',k5',mN',hF,_,_,oF⟩,_⟩:=Zep X cF;have hA:=hmro _ _ hm;have hB:(Value.ref FE::bm').contains (.type "BaseException")=true:=by rw[List.contains_cons,oF.hasType (X:="BaseException") (b:=true) rfl,Bool.or_true]
 obtain⟨ox,_,hx,hc,_⟩:=I;have f:=tc_notTuple;unfold excMatches
 repeat (first|(with_reducible refine wpAny_loadPart_at hx ?_;rw[hc])|with_reducible refine wpAny_loadPart_at hF ?_|(with_reducible refine wpAny_isSubtype_exc hF ?_;rw[hB])|(with_reducible refine wpAny_isSubtype_exc hC ?_;rw[hA])|wp_step)
 exact hq
abbrev XC (X:Cx) (e:Addr):Cx:={ X with A:=X.A.mark (some (.ref e)),calm:=false,xe:=λ_ _=>False }
theorem Cx.Ok.suite {X:Cx}(ok:X.Ok) (e:Addr):(XC X e).Ok:=
 ⟨ok.mod,ok.kind,ok.glob,ok.blt,ok.above,ok.inj,ok.has,ok.cab,(λz=>nomatch z),ok.frames,ok.stk,ok.exf,ok.bs,ok.bsz,ok.noex,ok.exfs,ok.funs,ok.frf⟩
abbrev XT (X:Cx) (pn:List (Addr × Obj)) (xe:Value->Shared->Prop):Cx:={ X with pn:=pn,xe:=xe }
theorem Cx.Ok.try_ {X:Cx}(ok:X.Ok) (pn:List (Addr × Obj)) (xe:Value->Shared->Prop):(XT X pn xe).Ok:=
 ⟨ok.mod,ok.kind,ok.glob,ok.blt,ok.above,ok.inj,ok.has,ok.cab,ok.hd,ok.frames,ok.stk,ok.exf,ok.bs,ok.bsz,ok.noex,ok.exfs,ok.funs,ok.frf⟩
section
variable {X:Cx}{pins:List (Addr × Obj)}{σ:St}{H:Hp}{s:Shared}{a C:Addr}
theorem Inv.suite (I:Inv X pins σ H s) (e:Addr):Inv (XC X e) pins σ H s:=⟨I.ok.suite e,I.os,I.bare,I.base,I.loc,I.cell,I.free,I.freeC,I.pin,I.hok,I.len⟩
theorem Inv.unsuite {e:Addr}(ok:X.Ok) (I:Inv (XC X e) pins σ H s):Inv X pins σ H s:=⟨ok,I.os,I.bare,I.base,I.loc,I.cell,I.free,I.freeC,I.pin,I.hok,I.len⟩
theorem Inv.into {xe:Value->Shared->Prop}(I:Inv X pins σ H s):Inv (XT X (X.pn++pins) xe) [] σ H s:=⟨I.ok.try_ _ _,I.os,I.bare,I.base,I.loc,I.cell,I.free,I.freeC,λp hp=>I.pin p (by simpa using hp),I.hok,I.len⟩
theorem Inv.outof {xe:Value->Shared->Prop}{pins1:List (Addr × Obj)}(ok:X.Ok) (I:Inv (XT X (X.pn++pins) xe) pins1 σ H s):Inv X pins σ H s:=⟨ok,I.os,I.bare,I.base,I.loc,I.cell,I.free,I.freeC,λp hp=>I.pin p (Wcj _ hp),I.hok,I.len⟩
theorem Inv.held (I:Inv X pins σ H s) (n:Nw X pins H a) (hi:InsC a C s.heap):Inv X pins σ (upd H a (.ext (InsC a C))) s:=by
 have keep:∀b,b≠a->upd H a (.ext (InsC a C)) b=H b:=λb hb=>Zaj hb;have nn:∀b u,H b=some u->b≠a:=λb u e z=>by subst z;rw[n.trk]at e;cases e
 refine⟨I.ok,I.os,I.bare,⟨I.base.keep,I.base.slot,λb o e q hx=>?_,I.base.there,λb xs e=>?_,λb o u e=>?_,λb ps e=>?_⟩,I.loc,I.cell,?_,λx c e=>?_,λp hp=>?_,λb u e=>?_,I.len⟩
 ·rw[keep b (λz=>by subst z;rw[n.old]at e;cases e)];exact I.base.free b o e q hx
 ·have q:=I.base.tups b xs e
  rw[keep b (nn b _ q)];exact q
 ·have q:=I.base.frzs b o u e
  rw[keep b (nn b _ q)];exact q
 ·obtain⟨m,q⟩:=I.base.tbls b ps e
  exact⟨m,by rw[keep b (nn b _ q)];exact q⟩
 ·rw[keep _ (Ne.symm n.loc)];exact I.free
 ·rw[keep _ (n.cel x c e)];exact I.freeC x c e
 ·obtain⟨e,q,r⟩:=I.pin p hp
  exact⟨e,by rw[keep _ (n.pin p hp)];exact q,r⟩
 ·by_cases hb:b=a
  ·subst hb
   rw[Zam]at e;cases e;obtain⟨ox,vs,h1,h2⟩:=hi;exact⟨⟨ox,vs,h1,h2⟩,⟨ox,h1⟩,λh1' h2' ⟨o,ws,z1,z2⟩ k=>⟨o,ws,k o z1,z2⟩⟩
  ·rw[keep b hb]at e
   refine(I.hok b u e).stay (λc v _ q=>q) (λc q=>?_) λc xs q=>?_
   ·rw[keep c (nn c _ q)];exact q
   ·rw[keep c (nn c _ q)];exact q
theorem Inv.gone {M:Model}{A:Around}{E:Value->Shared->Prop}{i:Nat}{x:Str}{pos:Pos}{Q:Unit->Shared->Prop}(I:Inv X pins σ H s) (hN:X.N.Nodup) (hi:X.N[i]?=some x) (hk:X.env.scope.names.lookup x=some .local)
  (h:∀s',Inv X pins (σ.set i none) H s' -> Q () s'):wpAny M A (do bindName X.env x .none;unbindBehindTheSuite X.env x pos) Q E s:=by
 obtain⟨m,hn,hl⟩:=id I.loc;have hcls:(X.env.scope.kind == .class || (X.env.scope.kind == .module && X.env.locals != X.env.globals))=false:=by rw[I.ok.kind];rfl
 refine wpAny_nameGoes_keeps (show X.env.kindOf x=some .local from hk) hn hcls λh' v hn' hs=>h _ ?_;have cne:=I.cne;obtain⟨oL,_,_,hoL,_⟩:=id hn;have ltL:∀b o,X.s₀.heap.get? b=some o->b≠X.env.locals:=λb o e=>Way (Wa9 (War e) I.ok.above);refine⟨I.ok,I.os,I.bare,⟨λb o e n hb hx=>?_,λb o e n hb hx=>?_,I.base.free,λb o e hx=>?_,I.base.tups,I.base.frzs,I.base.tbls⟩,⟨_,hn',λj y v' e1 e2 e3=>?_⟩,λy c e=>?_,I.free,I.freeC,λp hp=>?_,λb u e=>?_,by simpa using I.len⟩
 ·exact(hs.2 b (ltL b o e)).trans (I.base.keep b o e n hb hx)
 ·obtain⟨sl,e1⟩:=I.base.slot b o e n hb hx
  exact⟨sl,(hs.2 b (ltL b o e)).trans e1⟩
 ·obtain⟨o',e1⟩:=I.base.there b o e hx
  exact⟨o',(hs.2 b (ltL b o e)).trans e1⟩
 ·have hj:j≠i:=by
   intro z;subst z;rw[Wc4]at e2;split at e2
   ·split at e2 <;> cases e2
   ·rename_i z;exact z rfl
  rw[Was (Ne.symm hj)]at e2;obtain⟨u',r',q⟩:=hl j y v' e1 e2 e3;refine⟨u',r',?_⟩;rcases q with ⟨k,e⟩|⟨k,c,e,z⟩
  ·refine .inl ⟨k,?_⟩
   have hy:y≠x:=λe=>hj (Zho hN e1 (e ▸ hi));show (if y=x then v else m y)=_;rw[if_neg hy];exact e
  ·exact .inr ⟨k,c,e,z.sameBut hs (cne y c e)⟩
 ·obtain⟨w',z⟩:=I.cell y c e
  exact⟨w',z.sameBut hs (cne y c e)⟩
 ·obtain⟨e,n,ne,nf,d⟩:=I.pin p hp
  exact⟨(hs.2 p.1 ne).trans e,n,ne,nf,d⟩
 ·refine(I.hok b u e).stay (λc w' hc q=>(hs.2 c ?_).trans q) (λ_ q=>q) λ_ _ q=>q
  rintro rfl;rcases hc with rfl|hc
  ·rw[I.free]at e;cases e
  ·rw[I.free]at hc;cases hc
end
def PF (X:Cx) (e:Expr) (n:Nat):Prop:=
 ∀(pins:List (Addr × Obj)) (s:Shared) (σ:St) (H:Hp) (Q:Value->Shared->Prop),Inv X pins σ H s->(∀(x:Str) (tk:Tok) s',x.length<=n->Inv X pins σ H s' -> Q (.str x tk) s')->wpAny (model X.prog X.w) X.A (eval e X.env) Q X.xe s
def PFs (X:Cx) (es:List Expr) (n:Nat):Prop:=
 ∀(pins:List (Addr × Obj)) (s:Shared) (σ:St) (H:Hp) (acc:Str) (Q:Str->Shared->Prop),Inv X pins σ H s->acc.length+n<=sizeLine->(∀(x:Str) s',x.length<=acc.length+n->Inv X pins σ H s' -> Q x s')->Joins (model X.prog X.w) X.A X.xe (evalEach es X.env) acc Q s
def tSome:TE:=λ_ H Q=>∀x:Str,Q (.str x) H
section
variable {X:Cx}{x:Str}{j:Option Str}{p pos:Pos}{n m:Nat}{e:Expr}{es:List Expr}{v1 v2:Expr}
theorem Zpw {j} (h:x.length<=n:=by decide):PF X (.Constant (.str x) j pos) n:=λ_ s σ H Q I q=>Calls.Constant_str (q x _ _ h (I.tok _))
theorem Ztv {i:Int}{tk:Tok}(hg:Gl X x) (hm:X.mg x=some (.int i tk)) (hz:i.natAbs.log2<1920:=by decide) (hl:(Str.ofString (toString i)).length<=n:=by decide +kernel) (hd:(x == ("__debug__":Str))=false:=by decide):PF X (.FormattedValue (.Name x p) (-1) none pos) n:=λ_ s σ H Q I q=>
 wpAny_FormattedValue_plain (Zeq I hg hm (wpAny_formatField_int hz (q _ _ _ hl (I.tok _))) hd)
theorem Zrw:PFs X [] 0:=λ_ s σ H acc Q I z q=>q acc s (Wah _) I
theorem Zgq (h:PF X e n) (hs:PFs X es m):PFs X (e::es) (n+m):=λpins s σ H acc Q I z q=>by
 show wpAny _ _ (eval e X.env) _ _ s;refine h pins s σ H _ I λy tk s' hy I'=>⟨y,tk,rfl,?_,hs pins s' σ H _ Q I' ?_ λw s2 hw I2=>q w s2 ?_ I2⟩
 ·rw[Str.length_append];omega
 ·rw[Str.length_append];omega
 ·rw[Str.length_append]at hw;omega
theorem Zq3 (h:PFs X (v1::v2::es) n) (hn:n<=sizeLine:=by decide):PE X (.JoinedStr (v1::v2::es) pos) tSome:=λpins s σ H Q I q=>
 wpAny_JoinedStr (h pins s σ H Str.empty _ I (by show 0+n<=sizeLine;omega) λy s' hy I'=>⟨by have:Str.empty.length=0:=rfl;omega,.str y,H,I'.tok _,⟨_,rfl⟩,q y⟩)
end
def rIsiE (K:W.Frag):List V->Hp->VK->Prop:=λxs H Q=>∃a C b,H a=some (.ext (InsC a C))/\ExcI K C/\Q (.bl b) H ∧
 ((∃c,xs=[.ref a,.ref c]/\PySem.W.kitOne K (.ref C) (.ref c)=some b)\/(∃t,xs=[.ref a,.ty t]/\PySem.W.kitOne K (.ref C) (.type t)=some b) ∨
  ∃(p:Addr) (cs:List Addr),xs=[.ref a,.ref p]/\H p=some (.tup (cs.map V.ref))/\PySem.W.kitAny K (.ref C) (cs.map Value.ref)=some b)
section
variable {X:Cx}
theorem isiEK (K:W.Frag) (hK:X.K=K:=by rfl):CallR X (.builtin "isinstance") (rIsiE K):=by
 subst hK;intro pins s σ H xs us Q I r h;obtain⟨a,C,b,ha,Z,q,h⟩:=h;obtain⟨hi,_⟩:=I.hok a _ ha;rcases h with ⟨c,rfl,e⟩|⟨t,rfl,e⟩|⟨p,cs,rfl,hp,e⟩
 ·obtain⟨u,u',rfl,rx,rn⟩:=vals2 r
  cases (show u=Value.ref a from rx);cases (show u'=Value.ref c from rn);exact PySem.W.kia_one (Zhc Z) I.kIn hi e (λz=>nomatch z) λtk=>⟨.bl b,H,I.tok _,rfl,q⟩
 ·obtain⟨u,u',rfl,rx,rn⟩:=vals2 r
  cases (show u=Value.ref a from rx);cases (show u'=Value.type t from rn);exact PySem.W.kia_one (Zhc Z) I.kIn hi e (λz=>nomatch z) λtk=>⟨.bl b,H,I.tok _,rfl,q⟩
 ·obtain⟨u,u',rfl,rx,rn⟩:=vals2 r
  cases (show u=Value.ref a from rx);cases (show u'=Value.ref p from rn);obtain⟨_,its,rv,o,ho,⟨hc,n,hd⟩,hdd⟩:=I.hok p _ hp;have hv:∀(ns:List Addr) (its:List Value),Vals (ns.map V.ref) its->its=ns.map Value.ref:=by
   intro ns
   induction ns with
   |nil=>intro its h;cases h;rfl
   |cons b r ih=>intro its h;cases h with|cons h1 h2=>cases (show _=Value.ref b from h1);rw[ih _ h2];rfl
  have e2:=hv cs its rv;subst e2;obtain⟨cls,dd,data,sl⟩:=o;simp only at hc hd hdd;subst hc hd hdd;exact PySem.W.kia_tup (Zhc Z) I.kIn hi ho e (λz=>nomatch z) λtk=>⟨.bl b,H,I.tok _,rfl,q⟩
end
structure CalleeX (P:Program) (w:World) (K:W.Frag) (mg:Str->Option Value) (base:Heap) (k:Nat) (x:Str) (ps:List Str) (sp:Sp):Prop where
 ex:∃(f:Addr) (fd:FuncData),FnOk P w K mg base (CXE P w) k f fd ps sp/\Binds K fd ps []/\W.keepIn K (.ref f)=true/\mg x=some (.ref f)
section
variable {P:Program}{w:World}{K:W.Frag}{mg:Str->Option Value}{base:Heap}
theorem Fun.okX {x qual:Str}{st:Stmt}{f:Addr}{fd:FuncData}{N ps:List Str}{k:Nat}{sp:Sp}(F:Fun K x qual st f fd) (S:FnScope N ps (defScope st)) (len:∀vs H Q E,sp vs H Q E->vs.length=ps.length)
  (hbody:∀(cdv:Value) (A:Around) (outer:List Env) (s:Shared) (H:Hp) (vs:List V) (Q:VK) (E:XK),Room k (A.deeper (envOfC qual (defScope st) s.heap.objs.size f cdv))->sp vs H Q E →
   ∃t,PSs (cxOf (CXE P w) P w K mg base N qual (defScope st) f cdv A outer s H E) (defBody st) t/\t { nx:=λ_ H'=>Q .non H',rt:=Q } (start N vs) H):FnOk P w K mg base (CXE P w) (k+1) f fd ps sp:=by
 obtain⟨oc,od,kV,doc,pm,an,cdv,ct,osl,rfl,lk,hcd⟩:=F.ex;exact Zsz lk hcd S len λA outer s H vs Q E hr hsp=>hbody cdv A outer s H vs Q E hr hsp
end
def EW (E:XK) (Xp:Addr->Prop) (g:Gm):Prop:=∀C H',(∀b o,¬ g.B b->g.Hz b=some o->H' b=some o)->(∀b,g.B b->H' b≠none)->Same g.F H' -> (∀b o,g.Xo b=some o->H' b=some o)->Xp C->E (.ref C) none H'
def JX (K:W.Frag) (E:XK) (Xp:Addr->Prop) (t:TS) (Δ:Evt) (P:Pst):Prop:=∀g G H σ D,EW E Xp g->Ok K g G H σ Δ -> SCont K g P D->t D σ H
abbrev XSp:=List D->(D->Prop)->(Addr->Prop)->Prop
def spX (K:W.Frag) (f:XSp):Sp:=λvs H Q E=>∃F ds Post Xp,Same F H/\Reps K F vs ds/\f ds Post Xp/\(∀r H' d,Same H H' -> Rep K (glue F H H') r d->Post d->Q r H')/\∀C H',Same H H' -> Xp C->E (.ref C) none H'
section
variable {K:W.Frag}{Δ:Evt}{E:XK}{Xp:Addr->Prop}{nx bk ct:Evt->Prop}{rt:D->Evt->Prop}{ro:OD->Evt->Prop}
theorem EW.at {g:Gm}{G H H':Hp}{σ:St}{C:Addr}(w:EW E Xp g) (k:Ok K g G H σ Δ) (s:Same H H') (x:Xp C):E (.ref C) none H':=
 w C H' (λb o hb e=>s b o (k.same b o hb e)) (λb hb z=>by
  cases q:H b with
  |none=>exact k.lent b hb q
  |some o=>rw[s b o q]at z;cases z) (λb o e=>s b o (k.live b o (k.sub b o e))) (λb o e=>s b o (k.ext b o e).1) x
theorem Zqy {f:XSp}{n:Nat}(h:∀ds Post Xp,f ds Post Xp->ds.length=n):∀vs H Q E,spX K f vs H Q E->vs.length=n:=λvs H Q E hq=>by
 obtain⟨F,ds,Post,Xp,l,rs,hf,q⟩:=hq;rw[rs.length];exact h ds Post Xp hf
theorem Zt7 {f:XSp}{t:TS}{N:List Str}{vs:List V}{H:Hp}{Q:VK}(ht:∀ds Post Xp,f ds Post Xp->ds.length<=N.length/\JX K E Xp t (startD N ds) ⟨λ_=>Post .non,λd _=>Post d,λ_=>False,λ_=>False,λ_ _=>False⟩) (h:spX K f vs H Q E) :
  t { nx:=λ_ H'=>Q .non H',rt:=Q } (start N vs) H:=by
 obtain⟨F,ds,Post,Xp,l,rs,hf,q,x⟩:=h;obtain⟨hl,hj⟩:=ht ds Post Xp hf;have fin:∀{v:V}{d:D}{σ:St}{G H':Hp}{Δ:Evt},Ok K ⟨λ_=>False,F,H,λ_=>none⟩ G H' σ Δ -> Rep K G v d->Post d->Q v H':=λ{v d σ G H' Δ} k r p=>by
  refine q v H' d (λb o e=>k.same b o (λz=>z) e) (r.mono λb o e=>?_) p;obtain⟨e1,e2⟩:=k.frz b o e;rcases e2 with z|z
  ·rw[Zej z];exact e1
  ·rw[Zc5 (l b o z)];exact z
 refine hj ⟨λ_=>False,F,H,λ_=>none⟩ F H (start N vs) _ (λC H' h1 _ _ _ xc=>x C H' (λb o e=>h1 b o (λz=>z) e) xc) (Ze4 rs hl (λ_ _ _ e=>e) (λ_ z=>z.elim) (Same.refl _) (λb o e=>⟨l b o e,.inr e⟩) λ_=>rfl) ⟨λσ G H' Δ k p=>fin k .non p,λv d σ G H' Δ k r p=>fin k r p,λ_ _ _ _ _ z=>z.elim,λ_ _ _ _ _ z=>z.elim,λ_ _ _ _ _ _ _ _ z=>z.elim⟩
theorem Zq1 {t:TS}{P:Pst}(h:JS K t Δ P):JX K E Xp t Δ P:=λg G H σ D _ k c=>h g G H σ D k c
theorem Zp1 {t u:TS}(h:JX K E Xp t Δ ⟨λΔ1=>JX K E Xp u Δ1 ⟨nx,rt,bk,ct,ro⟩,rt,bk,ct,ro⟩):JX K E Xp (tSeq t u) Δ ⟨nx,rt,bk,ct,ro⟩:=λg G H σ D w k c=>
 h g G H σ _ w k ⟨λσ1 G1 H1 Δ1 k1 p1=>p1 g G1 H1 σ1 D w k1 c,c.rt,c.bk,c.ct,c.ro⟩
theorem Zrt {t u:TS}(h:JS K t Δ ⟨λΔ1=>JX K E Xp u Δ1 ⟨nx,rt,bk,ct,ro⟩,rt,bk,ct,ro⟩):JX K E Xp (tSeq t u) Δ ⟨nx,rt,bk,ct,ro⟩:=Zp1 (Zq1 h)
theorem Zt6 {c:TT}{t u:TS}{P:Pst}(h:JT K c Δ λb Δ1=>if b=true then JX K E Xp t Δ1 P else JX K E Xp u Δ1 P):JX K E Xp (tIfS c t u) Δ P:=λg G H σ D w k q=>
 h g G H σ _ k λb G1 H1 Δ1 k1 s1 p1=>by
  cases b with
  |true=>exact(show JX K E Xp t Δ1 P from p1) g G1 H1 σ D w k1 q
  |false=>exact(show JX K E Xp u Δ1 P from p1) g G1 H1 σ D w k1 q
theorem Zqf {P:Pst}(p:P.nx Δ):JX K E Xp tNext Δ P:=Zq1 (Zlk p)
theorem Zpm {C:Addr}{ta:TA}{P:Pst}(h:JA K ta Δ λds Δ1=>ds.length<=sizeLine/\Xp C):JX K E Xp (tRaise C E ta) Δ P:=λg G H σ D w k q=>
 h g G H σ _ k λvs ds G1 H1 Δ1 k1 s1 r1 ⟨z,x⟩=>⟨by rw[r1.length];exact z,w.at k1 (Same.refl _) x⟩
theorem Zqw {P:D->Evt->Prop}(p:∀x:Str,P (.str x) Δ):JE K tSome Δ P:=λg G H σ Q k c x=>c _ _ G H Δ k (Same.refl _) (.str x) (p x)
theorem Ok.unset {g:Gm}{G H:Hp}{σ:St}(k:Ok K g G H σ Δ) (i:Nat):Ok K g G H (σ.set i none) (Δ.set i .any):=by
 have ne:∀(j:Nat) x,(Δ.set i .any)[j]?=some x->x≠.any->j≠i /\ Δ[j]?=some x/\(σ.set i none)[j]? = σ[j]?:=λj x e h=>by
  by_cases hj:j=i
  ·subst hj
   rw[Wc4]at e;split at e
   ·split at e
    ·cases e;exact absurd rfl h
    ·cases e
   ·rename_i z;exact absurd rfl z
  ·rw[Was (Ne.symm hj)]at e
   exact⟨hj,e,Was (Ne.symm hj)⟩
 have od:∀(x:Slot) o,x.od=some o->x≠.any:=λx o e z=>by subst z;cases e
 refine⟨k.same,k.lent,k.sub,k.frz,λb o e=>?_,by simp[k.len],λj d e=>?_,λj x o e1 e2=>?_,λj l x y o o' a e1 e2 e3 e4 e5 e6=>?_⟩
 ·obtain⟨h1,h2,h3⟩:=k.ext b o e
  refine⟨h1,h2,λj x o e1 e2=>?_⟩;obtain⟨_,q1,q2⟩:=ne j x e1 (od x o e2);rw[q2];exact h3 j x o q1 e2
 ·obtain⟨_,q1,q2⟩:=ne j _ e (by intro z;cases z)
  rw[q2];exact k.val j d q1
 ·obtain⟨_,q1,q2⟩:=ne j x e1 (od x o e2)
  rw[q2];exact k.own j x o q1 e2
 ·obtain⟨_,q1,q2⟩:=ne j x e1 (od x o e2)
  obtain⟨_,q3,q4⟩:=ne l y e3 (od y o' e4);rw[q2]at e5;rw[q4]at e6;exact k.dis j l x y o o' a q1 e2 q3 e4 e5 e6
theorem Zqc {a C c:Addr}{b:Bool}{P:D->Evt->Prop}(Z:ExcI K C) (e:PySem.W.kitOne K (.ref C) (.ref c)=some b) (p:P (.bl b) Δ):JC K (rIsiE K) [.exc a C,.adr c] Δ P:=λg G H σ Q vs k rs q=>by
 obtain⟨_,_,rfl,r,t⟩:=rs.inv
 next=>
  obtain⟨_,_,rfl,r',t⟩:=t.inv
  next=>
   cases t.inv;obtain⟨rfl,ha⟩:=r.inv
   next=>
    cases r'.inv;exact⟨_,C,b,k.live _ _ ha,Z,q _ _ G H Δ k (Same.refl _) (.bl b) p,.inl ⟨c,rfl,e⟩⟩
theorem Zn9 {a C:Addr}{n:String}{b:Bool}{P:D->Evt->Prop}(Z:ExcI K C) (e:PySem.W.kitOne K (.ref C) (.type n)=some b) (p:P (.bl b) Δ):JC K (rIsiE K) [.exc a C,.ty n] Δ P:=λg G H σ Q vs k rs q=>by
 obtain⟨_,_,rfl,r,t⟩:=rs.inv
 next=>
  obtain⟨_,_,rfl,r',t⟩:=t.inv
  next=>
   cases t.inv;obtain⟨rfl,ha⟩:=r.inv
   next=>
    cases r'.inv;exact⟨_,C,b,k.live _ _ ha,Z,q _ _ G H Δ k (Same.refl _) (.bl b) p,.inr (.inl ⟨n,rfl,e⟩)⟩
theorem Zjs {G:Hp}:∀{cs:List Addr}{vs:List V},Reps K G vs (cs.map D.adr)->vs=cs.map V.ref
 |[],_,r=>by cases r;rfl
 |c::cs,_,r=>by
  obtain⟨_,_,rfl,r,t⟩:=r.inv
  next=>cases r.inv;rw[Zjs t];rfl
theorem Zpk {a C:Addr}{cs:List Addr}{b:Bool}{P:D->Evt->Prop}(Z:ExcI K C) (e:PySem.W.kitAny K (.ref C) (cs.map Value.ref)=some b) (p:P (.bl b) Δ):JC K (rIsiE K) [.exc a C,.tup (cs.map D.adr)] Δ P:=λg G H σ Q vs k rs q=>by
 obtain⟨_,_,rfl,r,t⟩:=rs.inv
 next=>
  obtain⟨_,_,rfl,r',t⟩:=t.inv
  next=>
   cases t.inv;obtain⟨rfl,ha⟩:=r.inv
   next=>
    obtain⟨_,_,rfl,hp,rr⟩:=r'.inv
    next=>
     have e2:=Zjs rr;subst e2;exact⟨_,C,b,k.live _ _ ha,Z,q _ _ G H Δ k (Same.refl _) (.bl b) p,.inr (.inr ⟨_,cs,rfl,k.live _ _ hp,e⟩)⟩
theorem Zl8 {a:Addr}{P:D->Evt->Prop}(p:P (.adr a) Δ):JE K (tC (.ref a)) Δ P:=λg G H σ Q k c=>c _ _ G H Δ k (Same.refl _) (.adr a) p
end
theorem Zl0 {K:W.Frag}{C c:Addr}{b:Bool}(h1:PySem.W.isClsIn K c=true) (h2:PySem.W.typeIn K (.ref c)=some (.type "type")) (h3:PySem.W.subIn K (.ref C) (.ref c)=some b) (h4:(C == c)=true->b=true):PySem.W.kitOne K (.ref C) (.ref c)=some b:=by
 unfold PySem.W.kitOne PySem.W.kitCls;by_cases e:(Value.ref C == Value.ref c)=true
 ·rw[if_pos e]
  have e':C=c:=Value.ref.inj (beq_iff_eq.mp e);rw[h4 (by rw[e'];exact beq_self_eq_true c)]
 ·rw[if_neg e]
  have h1:(PySem.W.clsIn K c).isSome=true:=h1;simp only[h1,h2,beq_self_eq_true,Bool.and_self,if_true,h3]
open PySem PySem.Spec PyProof.Rows PySem.SeqAt
section
variable {K:W.Frag}{Δ:Evt}{P:D->Evt->Prop}
end
theorem Zhh:bootBuiltins "ValueError" = some (.type "ValueError"):=by decide +kernel
theorem Zql {K:W.Frag}{C:Addr}{n:String}{b:Bool}(hm:PySem.W.kitMeta n=true) (h:PySem.W.subIn K (.ref C) (.type n)=some b):PySem.W.kitOne K (.ref C) (.type n)=some b:=by
 unfold PySem.W.kitOne PySem.W.kitCls;have e:¬ (Value.ref C == Value.type n)=true:=λz=>by cases beq_iff_eq.mp z
 rw[if_neg e];simp only[hm,if_true,h]
theorem Zrl {K:W.Frag}{C c d:Addr}(h1:PySem.W.kitOne K (.ref C) (.ref c)=some false) (h2:PySem.W.kitOne K (.ref C) (.ref d)=some false):PySem.W.kitAny K (.ref C) ([c,d].map Value.ref)=some false:=by
 show (match PySem.W.kitOne K (.ref C) (.ref c) with|some true=>some true|some false=>PySem.W.kitAny K (.ref C) [.ref d]|none=>none)=_;rw[h1];show (match PySem.W.kitOne K (.ref C) (.ref d) with|some true=>some true|some false=>PySem.W.kitAny K (.ref C) []|none=>none)=_;rw[h2];rfl
section
variable {K:W.Frag}{Δ:Evt}
end
section
variable {K:W.Frag}{Δ:Evt}{E:XK}{Xp:Addr->Prop}{P:D->Evt->Prop}
end
def keyPd:Key->PyData
 |.inl i=>.int i
 |.inr x=>.str x
mutual
def D.pd:D->PyData
 |.non=>.none
 |.bl b=>.bool b
 |.int i=>.int i
 |.str x=>.str x
 |.tup ds=>.tuple (D.pds ds)
 |.lst ds=>.list (D.pds ds)
 |.dct ks ds=>.dict ((ks.map keyPd).zip (D.pds ds))
 |_=>.none
def D.pds:List D->List PyData
 |[]=>[]
 |d::ds=>D.pd d::D.pds ds
end
mutual
def D.shw:D->Bool
 |.non=>true
 |.bl _=>true
 |.str _=>true
 |.int i=>decide (i.natAbs.log2<1920)
 |.tup ds=>D.shws ds
 |.lst ds=>D.shws ds
 |_=>false
def D.shws:List D->Bool
 |[]=>true
 |d::ds=>D.shw d && D.shws ds
end
def D.shT (d:D):Prop:=d.shw=true\/∃ks ns:List Int,d=.dct (ks.map .inl) (ns.map .int)/\(∀k∈ks,k.natAbs.log2<1920)/\∀n∈ns,n.natAbs.log2<1920
mutual
theorem Zpx:∀d:D,d.shw=true->d.pd.showable=true/\d.pd.hasDict=false
 |.non,_=>⟨rfl,rfl⟩
 |.bl _,_=>⟨rfl,rfl⟩
 |.int i,h=>⟨h,rfl⟩
 |.str _,_=>⟨rfl,rfl⟩
 |.tup ds,h=>Zir ds h
 |.lst ds,h=>Zir ds h
 |.ty _,h=>by cases h
 |.scr _,h=>by cases h
 |.adr _,h=>by cases h
 |.dct _ _,h=>by cases h
 |.exc _ _,h=>by cases h
theorem Zir:∀ds:List D,D.shws ds=true->PyData.showableAll (D.pds ds)=true/\PyData.hasDictAll (D.pds ds)=false
 |[],_=>⟨rfl,rfl⟩
 |d::ds,h=>by
  have h:(d.shw && D.shws ds)=true:=h;rw[Wbh]at h;obtain⟨a1,a2⟩:=Zpx d h.1;obtain⟨b1,b2⟩:=Zir ds h.2;show (d.pd.showable && PyData.showableAll (D.pds ds))=true/\(d.pd.hasDict || PyData.hasDictAll (D.pds ds))=false;rw[a1,a2,b1,b2];exact⟨rfl,rfl⟩
end
section
variable {P:Program}{w:World}{K:W.Frag}{G H:Hp}{h:Heap}
mutual
theorem Zj4 (ok:HOk P w H h) (sg:Same G H):∀{v:V}{d:D}{u:Value},Rep K G v d->d.shw=true->RelV v u->∃as,Reads h u d.pd as
 |_,_,_,.non,_,r=>by cases r;exact⟨_,.none⟩
 |_,_,_,.bl b,_,r=>by cases r;exact⟨_,.bool b⟩
 |_,_,_,.int i,_,r=>by obtain⟨t,rfl⟩:=r;exact⟨_,.int i t⟩
 |_,_,_,.str x,_,r=>by obtain⟨t,rfl⟩:=r;exact⟨_,.str x t⟩
 |_,_,_,.ty _,z,_=>by cases z
 |_,_,_,.tup e rs,z,r=>by
  cases r;obtain⟨_,its,rv,o,ho,⟨hc,n,hd⟩,_⟩:=ok _ _ (sg _ _ e);obtain⟨as,ra⟩:=Zdy ok sg rs z rv;exact⟨_,.tuple ho hc hd ra⟩
 |_,_,_,.lst e rs,z,r=>by
  cases r;obtain⟨_,its,n,rv,ho⟩:=ok _ _ (sg _ _ e);obtain⟨as,ra⟩:=Zdy ok sg rs z rv;exact⟨_,.list ho rfl rfl ra⟩
 |_,_,_,.scr _ _,z,_=>by cases z
 |_,_,_,.adr _,z,_=>by cases z
 |_,_,_,.dct _ _ _,z,_=>by cases z
 |_,_,_,.exc _,z,_=>by cases z
theorem Zdy (ok:HOk P w H h) (sg:Same G H):∀{vs:List V}{ds:List D}{us:List Value},Reps K G vs ds->D.shws ds=true->Vals vs us->∃as,ReadsAll h us (D.pds ds) as
 |_,_,_,.nil,_,r=>by cases r;exact⟨_,.nil⟩
 |_,_,_,.cons (d:=d) (ds:=ds) a b,z,r=>by
  have z:(d.shw && D.shws ds)=true:=z;rw[Wbh]at z;cases r with
  |cons ra rb=>
   obtain⟨as,ha⟩:=Zj4 ok sg a z.1 ra;obtain⟨bs,hb⟩:=Zdy ok sg b z.2 rb;exact⟨_,.cons ha hb⟩
end
theorem Zgh:∀{ks ns:List Int}{kvs:List (Key × Value)}{es:List DictEntry},ks.length=ns.length->KV ((ks.map (Sum.inl:Int->Key)).zip (ns.map V.int)) kvs->Pairs (mixKind P w) es kvs →
  ReadsAll h (es.map (·.key)) (ks.map PyData.int) []/\ReadsAll h (es.map (·.val)) (ns.map PyData.int) []
 |[],[],_,_,_,r,p=>by cases r;cases p;exact⟨.nil,.nil⟩
 |k::ks,n::ns,_,_,l,r,p=>by
  cases r with
  |@cons a b as bs h1 h2=>
   cases p with
   |@cons e kv es kvs q1 q2 q3=>
    obtain⟨i1,i2⟩:=Zgh (ks:=ks) (ns:=ns) (by simpa using l) h2 q3;obtain⟨hk,hv⟩:=h1;obtain⟨t,hv⟩:=hv;have q1:keyIs b.1 e.key=true:=q1;rw[<- hk]at q1;have hk2:∃t,e.key=.int k t:=Value.isInt_shape (k:=k) (v:=e.key) q1;obtain⟨t2,hk2⟩:=hk2;refine⟨?_,?_⟩
    ·rw[Wa4,Wa4,hk2];exact .cons (as:=[]) (.int k t2) i1
    ·rw[Wa4,Wa4,q2,hv];exact .cons (as:=[]) (.int n t) i2
 |[],_::_,_,_,l,_,_=>by cases l
 |_::_,[],_,_,l,_,_=>by cases l
end
theorem Znm:∀{ks ns:List Int},ks.length=ns.length->(((ks.map Sum.inl).map keyPd).zip (D.pds (ns.map D.int))).map (·.1)=ks.map PyData.int/\(((ks.map Sum.inl).map keyPd).zip (D.pds (ns.map D.int))).map (·.2)=ns.map PyData.int
 |[],[],_=>⟨rfl,rfl⟩
 |k::ks,n::ns,l=>by
  obtain⟨h1,h2⟩:=Znm (ks:=ks) (ns:=ns) (by simpa using l);simp only[Wa4,D.pds,Wcf];rw[h1,h2];exact⟨rfl,rfl⟩
 |[],_::_,l=>by cases l
 |_::_,[],l=>by cases l
theorem shkv:∀{ks ns:List Int},(∀k∈ks,k.natAbs.log2<1920)->(∀n∈ns,n.natAbs.log2<1920)->PyData.showableKv (((ks.map Sum.inl).map keyPd).zip (D.pds (ns.map D.int)))=true
 |[],_,_,_=>rfl
 |_::_,[],_,_=>rfl
 |k::ks,n::ns,h1,h2=>by
  have i:=shkv (ks:=ks) (ns:=ns) (λa ha=>h1 a (Wav _ ha)) (λa ha=>h2 a (Wav _ ha));show (decide (k.natAbs.log2<1920) && decide (n.natAbs.log2<1920) && PyData.showableKv _)=true;rw[Wbh,Wbh];exact⟨⟨decide_eq_true (h1 k (Waw ..)),decide_eq_true (h2 n (Waw ..))⟩,i⟩
def rRepr (K:W.Frag):List V->Hp->VK->Prop:=λxs H Q=>∃(G:Hp) (v:V) (d:D),xs=[v]/\Same G H/\Rep K G v d/\d.shT/\d.pd.depth<=20/\d.pd.shown.length<=sizeLine/\Q (.str d.pd.shown) H
section
variable {X:Cx}
theorem reprK (K:W.Frag) (hg:X.A.guards=some []) (hu:X.A.units+30<cLine) (hK:X.K=K:=by rfl):CallR X (.builtin "repr") (rRepr K):=by
 subst hK;intro pins s σ H xs us Q I r h;obtain⟨G,v,d,rfl,sg,rep,sh,dp,sz,q⟩:=h;obtain⟨u,rfl,ru⟩:=vals1 r;have fin:∀(a:Addr),u=.ref a->(∃as,Reads s.heap (.ref a) d.pd as/\d.pd.showable=true/\(d.pd.hasDict=true->sysModules ∉ as))->wpAny (model X.prog X.w) X.A (call (.builtin "repr") [u]) (EP X pins σ Q) X.xe s:=λa e ⟨as,h1,h2,h3⟩=>by
  subst e;exact repr_of_reads' h1 h2 h3 hg (by omega) (λ_ _ e=>e) (λh' t tk hk=>⟨.str _,H,I.kept hk,⟨_,rfl⟩,q⟩) sz
 rcases sh with z|⟨ks,ns,rfl,z1,z2⟩
 ·obtain⟨as,h1⟩:=Zj4 I.hok sg rep z ru
  obtain⟨h2,h3⟩:=Zpx d z;have big:∀a,u=.ref a->wpAny (model X.prog X.w) X.A (call (.builtin "repr") [u]) (EP X pins σ Q) X.xe s:=λa e=>fin a e ⟨as,e ▸ h1,h2,λh4=>by rw[h3]at h4;cases h4⟩;cases rep with
  |non=>cases ru;exact PySem.P.repr_of_none ⟨.str _,H,I.tok _,⟨_,rfl⟩,q⟩
  |bl b=>cases ru;exact PySem.P.repr_of_bool ⟨.str _,H,I.tok _,⟨_,rfl⟩,q⟩
  |int i=>obtain⟨t,rfl⟩:=ru;exact PySem.P.repr_of_int (of_decide_eq_true z) ⟨.str _,H,I.tok _,⟨_,rfl⟩,q⟩
  |str x=>obtain⟨t,rfl⟩:=ru;exact PySem.P.repr_of_str ⟨.str _,H,I.tok _,⟨_,rfl⟩,q⟩ sz
  |tup e rs=>exact big _ ru
  |lst e rs=>exact big _ ru
  |_=>cases z
 ·cases rep with
  |@dct a _ vs _ e l rs=>
   cases (show u=Value.ref a from ru);have ev:=Reps.ints rs;subst ev;have l2:ks.length=ns.length:=by simpa using l
   obtain⟨_,hS,kvs,rk,o,es,ep,ho,hc,hd,_,hp,_⟩:=Zrn I.hok (sg _ _ e);obtain⟨r1,r2⟩:=Zgh (h:=s.heap) l2 rk hp;obtain⟨e1,e2⟩:=Znm l2;rw[<- e1]at r1;rw[<- e2]at r2;have rd:Reads s.heap (.ref a) (D.pd (.dct (ks.map Sum.inl) (ns.map D.int))) (a::[]++[]):=.dict ho hc.1 hd r1 r2;refine fin a rfl ⟨_,rd,shkv z1 z2,λ_ hm=>?_⟩
   ·have hm:sysModules=a:=by simpa using hm
    subst hm;exact absurd hS (by rw[beq_self_eq_true];decide)
end
section
variable {K:W.Frag}{Δ:Evt}{P:D->Evt->Prop}
theorem Zla:bootBuiltins "repr" = some (.builtin "repr"):=by decide +kernel
theorem Zse {A:Around}{k:Nat}(hr:Room k A):A.units+30<cLine:=Wb3 (Wdw (by decide:30<=64) _) hr.units
theorem Zmr {d:D}(h1:d.shT) (h2:d.pd.depth<=20) (h3:d.pd.shown.length<=sizeLine) (p:P (.str d.pd.shown) Δ):JC K (rRepr K) [d] Δ P:=λg G H σ Q vs k rs c=>by
 obtain⟨_,_,rfl,r,t⟩:=rs.inv
 next=>cases t.inv;exact⟨G,_,d,rfl,k.live,r,h1,h2,h3,c _ _ G H Δ k (Same.refl _) (.str _) p⟩
end
section
variable {X:Cx}
end
section
variable {K:W.Frag}{Δ:Evt}
end
open PySem PySem.Spec PyProof.Rows PySem.SeqAt
section
variable {K:W.Frag}{Δ:Evt}{P:D->Evt->Prop}
end
open PySem PySem.Spec PyProof.Rows PySem.SeqAt
section
variable {X:Cx}
theorem Zgm {e tg1 it1:Expr}{scope:Scope}{tgs fvs:List Str}{sel:List Nat}{g1:TG}{ob:Obj}{ho:HO}{newAcc:Sem Value}{rest:Addr->Env->Value->Sem Fin}{tem:Addr->TB}(hpl:Plain e) (hcls:(clausesOf e)[0]?=some ⟨tg1,it1,[],0⟩)
  (hct0:∀(D:Addr) (env:Env) (it:Value),compTurn e 0 it (.ref D) env=(do
   standAt it1.pos
   match ← pyNext it with
   |none=>pure (.done .next)
   |some v=>
    letOwnedTupleGo tg1 it v
    assign tg1 env v
    rest D env it))
  (hnew:∀(s:Shared) (Q:Value->Shared->Prop) (E:Value->Shared->Prop),Q (.ref s.heap.objs.size) { s with heap:=s.heap.push ob } -> wpAny (model X.prog X.w) X.A newAcc Q E s)
  (hok:∀(pins:List (Addr × Obj)) (σ:St) (H:Hp) (s:Shared),Inv X pins σ H s->Inv X pins σ (upd H s.heap.objs.size ho) { s with heap:=s.heap.push ob,toks:=s.toks })
  (S:CompSc X.env.scope X.N scope fvs sel) (hc:X.calm=true)
  (hg1:∀C s H ex pn,PG (compCx X scope (tgs++fvs) C s H ex pn) tg1 g1)
  (hb:∀C s H ex pn D it,PBT (compCx X scope (tgs++fvs) C s H ex pn) (rest D (compCx X scope (tgs++fvs) C s H ex pn).env it) (.compLoop e 0 it (.ref D) (compCx X scope (tgs++fvs) C s H ex pn).env) (tem D))
  {pins:List (Addr × Obj)}{σ:St}{s:Shared}{itv:Value}{Q:VK}{E:Value->Shared->Prop}{RR:Value->Addr->Result->Shared->Prop}
  (h2:PIE X pins σ tg1 (λJ H1=>∀acc,H1 acc=none->LoopR g1 (tem acc) (λ_ H'=>Q (.ref acc) H') (compSt tgs.length sel σ) J (upd H1 acc ho)) itv s)
  (fin:∀(s':Shared) (C acc:Addr) (H':Hp) (m:Str->Option Value),s'.heap.Ns C m->FpOk X pins H' C->(∀h',Heap.SameBut C s'.heap h' -> Inv X pins σ H' { s' with heap:=h' })->Q (.ref acc) H' -> RR (.ref acc) C (.ok .next) s') :
  wpAny (model X.prog X.w) X.A newAcc (λacc s3=>wpAny (model X.prog X.w) X.A (newFunctionEnv scope X.env.globals (clOf X.env scope.names []) [] X.env.qual none .none (some X.env)) (λcenv s4=>
   codeAny (model X.prog X.w) X.A (.compStart e 0 itv acc { cenv with scope:=relabel scope X.env }) (RR acc cenv.locals) s4) E s3) E s:=by
 obtain⟨it,fp,tn,J,H1,e0,I,T,st,f2,h2⟩:=h2;subst e0;have hlt:∀b∈fp,b<s.heap.objs.size:=λb hb=>let ⟨o,ho,_⟩:=T.obj 0 _ st b hb; War ho
 refine hnew s _ _ (wpAny_newFunctionEnv S.nocell (by intro y hy;simp at hy) (λh1 hns hsb=>?_) S.kind);dsimp only at hns hsb ⊢;have I3:=hok pins σ H1 s I;have hacc:H1 s.heap.objs.size=none:=I.hok.fresh (Wah _);have h2:=h2 s.heap.objs.size hacc;generalize hs3:({ s with heap:=s.heap.push ob,toks:=s.toks }:Shared)=s3 at I3;have hh3:s3.heap=s.heap.push ob:=by rw[<- hs3]
 have old3:∀b o,s.heap.get? b=some o->s3.heap.get? b=some o:=λb o q=>by rw[hh3];exact Wac _ q
 have hf3:∀b∈fp,FpOk X pins (upd H1 s.heap.objs.size ho) b:=λb hb=>⟨by rw[Zaj (Way (hlt b hb))];exact(f2 b hb).1,(f2 b hb).2⟩;have hlt3:∀b∈fp,b<s3.heap.objs.size:=λb hb=>by rw[hh3,Wch];exact Wbz (hlt b hb)
 have tn3:tn 0 s3.heap:=T.keep 0 _ _ st λb hb o q=>old3 b o q;have old4:∀b o,s3.heap.get? b=some o->h1.get? b=some o:=λb o q=>by
  have hb:b≠s3.heap.objs.size:=Way (War q);rw[hh3]at hb q;exact(hsb.2 b hb).trans (Wac _ q)
 have tn4:tn 0 h1:=T.keep 0 _ _ tn3 λb hb o q=>old4 b o q;have hC:(s.heap.push ob).objs.size=s3.heap.objs.size:=by rw[hh3]
 rw[hC]at hns;have J0:=Zkb (tgs:=tgs) (tk:=s.toks+([]:List (Str × Value)).length) S I3 hf3 hlt3 hns old4;have es:({ s3 with heap:=h1,toks:=s.toks+([]:List (Str × Value)).length }:Shared) = { s with heap:=h1,toks:=s.toks+([]:List (Str × Value)).length }:=by rw[<- hs3]
 rw[es]at J0;have G1:=hg1 s3.heap.objs.size s3 (upd H1 s.heap.objs.size ho) fp (X.pn++pins);have EM:=hb s3.heap.objs.size s3 (upd H1 s.heap.objs.size ho) fp (X.pn++pins) s.heap.objs.size;generalize hY:compCx X scope (tgs++fvs) s3.heap.objs.size s3 (upd H1 s.heap.objs.size ho) fp (X.pn++pins)=Y at J0 G1 EM;have hYp:Y.prog=X.prog:=by rw[<- hY];rfl
 have hYw:Y.w=X.w:=by rw[<- hY];rfl
 have hYK:Y.K=X.K:=by rw[<- hY];rfl
 have hYA:Y.A=X.A:=by rw[<- hY];rfl
 have hYc:Y.calm=true:=by rw[<- hY];exact hc
 have hYx:Y.xe=λ_ _=>False:=by rw[<- hY];rfl
 have hYe:Y.env=compEnvC scope (clOf X.env scope.names []) s3.heap.objs.size X.env:=by rw[<- hY];rfl
 have stat:∀{H':Hp},(∀b∈fp,H' b=none)->∀b∈fp,FpOk Y [] H' b:=λhn b hb=>by
  rw[<- hY];refine⟨hn b hb,Way (hlt3 b hb),λz=>?_,.inl hb,λx c e=>?_,λp hp z=>?_⟩
  ·rcases Wan.mp (I3.stkSub b z) with q|q
   ·exact(hf3 b hb).2.1 q
   ·exact(hf3 b hb).2.2.1 q
  ·exact(hf3 b hb).2.2.2.2.1 x c (Zbg _ _ (λ_ _ z=>by simp at z) e)
  ·have hp:p∈(X.pn++pins)++[]:=hp
   rw[Wa3]at hp;exact(hf3 b hb).2.2.2.2.2 p hp z
 have T':Turn Y.prog Y.w Y.K tg1 J fp it tn:=by rw[hYp,hYw,hYK];exact T
 have PP:PIE Y [] (compSt tgs.length sel σ) tg1 (LoopR g1 (tem s.heap.objs.size) (λ_ H'=>Q (.ref s.heap.objs.size) H') (compSt tgs.length sel σ)) (.ref it) { s with heap:=h1,toks:=s.toks+([]:List (Str × Value)).length }:=
  ⟨it,fp,tn,J,_,rfl,J0,T',tn4,stat λb hb=>(hf3 b hb).1,h2⟩
 have L:=Zhq (Y:=Y) (e:=e) (d:=0) (acc:=.ref s.heap.objs.size) hpl hYc hYx (hct0 s.heap.objs.size Y.env) G1 (λit=>EM it) PP;have ST:=Zf3 (d:=0) hpl hcls PP L;rw[hYp,hYw,hYA,hYe]at ST;show codeAny (model X.prog X.w) X.A (.compStart e 0 (.ref it) (.ref s.heap.objs.size) (compEnvC scope (clOf X.env scope.names []) (s.heap.push ob).objs.size X.env)) (RR (.ref s.heap.objs.size) (s.heap.push ob).objs.size) _;rw[hC];refine codeAny_mono ST λr s6 ⟨hr,σ5,H5,I6,qn⟩=>?_;subst hr;obtain⟨m6,hn6,_⟩:=I6.loc;rw[hYe]at hn6;refine fin s6 _ _ H5 m6 hn6 (I3.fpOk (Wah _) (by have z:=I6.free;rw[hYe]at z;exact z)) (λh' sb=>?_) qn;have I6':Inv (compCx X scope (tgs++fvs) s3.heap.objs.size s3 (upd H1 s.heap.objs.size ho) fp (X.pn++pins)) [] σ5 H5 s6:=by rw[hY];exact I6
 exact Zim I3 hf3 I6' sb
def tAppL (te:TE) (D:Addr):TB:=λσ H N=>te σ H λy H1=>∃ys,H1 D=some (.lst ys)/\ys.length<sizeLine/\N σ (upd H1 D (.lst (ys++[y])))
theorem Zsa {Y:Cx}{ex:Expr}{te:TE}(hx:Y.xe=λ_ _=>False) (he:PE Y ex te) (D:Addr):PB Y (do
   let _ ← call (.builtin "list.append") [.ref D,<- eval ex Y.env]) (tAppL te D):=λpins s σ H N I h=>by
 have h1:=he pins s σ H _ I h;rw[hx]at h1;refine wpAny_bind (thn h1 λu s1 ⟨y,H1,I1,ry,ys,ea,za,na⟩=>?_);have M:=Zbv (X:=Y) _ s1 σ H1 (.ref D) [y] (.ref D) [u] (λ_ H=>N σ H) I1 rfl (.cons ry .nil) ⟨_,ys,y,rfl,rfl,ea,za,na⟩;rw[hx]at M;exact wpAny_bind (thn M λ_ sb ⟨_,Hb,Ib,_,nb⟩=>wpAny_pure ⟨σ,Hb,Ib,nb⟩)
theorem Zk9 {ex tg1 it1 tg2 it2:Expr}{scope:Scope}{pos spos py:Pos}{fvs:List Str}{sel:List Nat}{wi1 wi2:TI}{g1 g2:TG}{te:TE}{i:Nat}{y:Str}(hN:X.N.Nodup) (hiy:X.N[i]?=some y) (hx:Loc X.env.scope y) (tgs:List Str) (S:CompSc X.env.scope X.N scope fvs sel) (hc:X.calm=true)
  (hi1:PI X tg1 it1 wi1) (hg1:∀C s H ex pn,PG (compCx X scope (tgs++fvs) C s H ex pn) tg1 g1) (hi2:∀C s H ex pn,PI (compCx X scope (tgs++fvs) C s H ex pn) tg2 it2 wi2) (hg2:∀C s H ex pn,PG (compCx X scope (tgs++fvs) C s H ex pn) tg2 g2)
  (he:∀C s H ex' pn,PE (compCx X scope (tgs++fvs) C s H ex' pn) ex te)
  (hs1:∀x,foldedSetIterable it1 X.env x=pure x:=by intro _;rfl) (hs2:∀(env:Env) x,foldedSetIterable it2 env x=pure x:=by intro _ _;rfl)
  (hsw:swapsWith (.ListComp ex [⟨tg1,it1,[],0⟩,⟨tg2,it2,[],0⟩] scope pos) (some (.Name y py)) spos.line X.env=pure true:=by rfl)
  (hf:X.fn y=true\/X.env.scope.names.lookup y=some .local:=by first|exact .inl rfl|exact .inr rfl|assumption) :
  PS X (.Assign [.Name y py] (.ListComp ex [⟨tg1,it1,[],0⟩,⟨tg2,it2,[],0⟩] scope pos) spos) (tAsg (tComp2 tgs.length sel wi1 g1 wi2 g2 (.lst []) (tAppL te)) (gName i)):=by
 intro pins s σ H D I h;rw[exec_Assign_Name_used _ _ _ _ hsw];refine wpAny_bind (wpAny_standAt (wpAny_bind ?_));show wpAny _ X.A (do let _ ← comprehension (.ListComp ex [⟨tg1,it1,[],0⟩,⟨tg2,it2,[],0⟩] scope pos) scope X.env _ (newList []) false (eval it1 X.env) (some (assign (.Name y py) X.env))) _ _ s;refine wpAny_bind (wpAny_mono (wpAny_comprehension_free (use:=some (assign (.Name y py) X.env)) (Q:=λ_ s'=>SP X pins D .next s') rfl hs1 (Zbs (Zcx S I.ok)) S.kind S.names
  (thn (hi1 pins s σ H _ I h) λv s1 h1=>thn h1 λitv s2 h2=>?_)) (λ_ s' hq=>wpAny_pure (wpAny_pure hq)) λ_ _ e=>e)
 refine Zgm (tgs:=tgs) (ob:={ cls:=.type "list",data:=.seq ([]:List Value).toArray }) (ho:=.lst []) (Zf6 _ _ _ _) rfl (λD env it=>rfl) (λs Q E q=>wpAny_newObj_type q) (λpins σ H s I=>I.lnew (its:=[]) .nil (by decide)) S hc hg1 (tem:=λacc=>tLoop wi2 g2 (tAppL te acc)) (λC s H ex pn D it=>Zj9 (Y:=compCx X scope (tgs++fvs) C s H ex pn) (Zf6 _ _ _ _) hc rfl rfl (λit=>rfl) (hi2 C s H ex pn) (hg2 C s H ex pn) (λit=>(Zsa (Y:=compCx X scope (tgs++fvs) C s H ex pn) rfl (he C s H ex pn) D).rest) (hs2 _)) (RR:=λacc C=>compPost (model X.prog X.w) X.A X.xe (some (assign (.Name y py) X.env)) (λ_ s'=>SP X pins D .next s') acc C) (Q:=λv H'=>D.nx (σ.set i (some v)) H') h2 ?_;intro s' C acc H' m hn fp hI q;have I0:Inv X pins σ H' s':=hI s'.heap (.refl ..);show wpAny _ X.A (assign (.Name y py) X.env (.ref acc)) _ _ _;refine wpAny_assign_Name (Zfj (v:=.ref acc) I0 hN hiy hx rfl (λs2 I2 hsb=>?_) hf);obtain⟨a,sb,ha⟩:=hsb;have hCa:C≠a:=by
  rcases ha with z|z
  ·rw[z];exact fp.2.1
  ·exact Ne.symm (fp.2.2.2.2.1 y a z)
 refine⟨m,hn.sameBut sb hCa,λh' sb'=>?_⟩;obtain⟨f0,f1,f2,f3,f4,f5⟩:=fp;exact⟨_,H',I2.turned (t':=s2.toks) (it:=C) (λb o hb e=>(sb'.2 b hb).trans e) f0 f1 f3 f4 f5,q⟩
theorem Znh {kx vx tg1 it1 tg2 it2:Expr}{scope:Scope}{pos:Pos}{fvs:List Str}{sel:List Nat}{wi1 wi2:TI}{g1 g2:TG}{tk tv:TE}(tgs:List Str) (S:CompSc X.env.scope X.N scope fvs sel) (hc:X.calm=true)
  (hi1:PI X tg1 it1 wi1) (hg1:∀C s H ex pn,PG (compCx X scope (tgs++fvs) C s H ex pn) tg1 g1) (hi2:∀C s H ex pn,PI (compCx X scope (tgs++fvs) C s H ex pn) tg2 it2 wi2) (hg2:∀C s H ex pn,PG (compCx X scope (tgs++fvs) C s H ex pn) tg2 g2)
  (hk:∀C s H ex pn,PE (compCx X scope (tgs++fvs) C s H ex pn) kx tk) (hv:∀C s H ex pn,PE (compCx X scope (tgs++fvs) C s H ex pn) vx tv)
  (hs1:∀x,foldedSetIterable it1 X.env x=pure x:=by intro _;rfl) (hs2:∀(env:Env) x,foldedSetIterable it2 env x=pure x:=by intro _ _;rfl) :
  PE X (.DictComp kx vx [⟨tg1,it1,[],0⟩,⟨tg2,it2,[],0⟩] scope pos) (tComp2 tgs.length sel wi1 g1 wi2 g2 (.dK []) (tPutK tk tv)):=by
 intro pins s σ H Q I h;rw[Zhe];refine wpAny_comprehension_free (use:=none) rfl hs1 (Zbs (Zcx S I.ok)) S.kind S.names (thn (hi1 pins s σ H _ I h) λv s1 h1=>thn h1 λitv s2 h2=>?_);refine Zgm (tgs:=tgs) (ob:={ cls:=.type "dict",data:=.dict #[] }) (ho:=.dK []) (Zgo _ _ _ _ _) rfl (λD env it=>rfl) (λs Q E q=>wpAny_newObj_type q) (λpins σ H s I=>?_) S hc hg1 (tem:=λacc=>tLoop wi2 g2 (tPutK tk tv acc)) (λC s H ex pn D it=>Zj9 (Y:=compCx X scope (tgs++fvs) C s H ex pn) (Zgo _ _ _ _ _) hc rfl rfl (λit=>rfl) (hi2 C s H ex pn) (hg2 C s H ex pn) (λit=>(Zsg (Y:=compCx X scope (tgs++fvs) C s H ex pn) rfl (hk C s H ex pn) (hv C s H ex pn) D).rest) (hs2 _)) (RR:=λacc C=>compPost (model X.prog X.w) X.A X.xe none (EP X pins σ Q) acc C) (Q:=Q) h2 ?_
 ·exact I.laid (a:=s.heap.objs.size) (o:=.dK []) (h':=s.heap.push { cls:=.type "dict",data:=.dict #[] }) (t':=s.toks) (λ_ _ q=>Wac _ q) (Wah _) (Zkc s.heap I.big)
 ·intro s' C acc H' m hn _ hI q
  exact⟨m,hn,λh' sb=>⟨.ref acc,H',hI h' sb,rfl,q⟩⟩
def tCompG (n:Nat) (sel:List Nat) (wi1:TI) (g1:TG) (ho:HO) (tem:Addr->TB):TE:=λσ H Q=>wi1 σ H λJ H1=>∀acc,H1 acc=none->LoopR g1 (tem acc) (λ_ H'=>Q (.ref acc) H') (compSt n sel σ) J (upd H1 acc ho)
end
section
variable {K:W.Frag}{Δ:Evt}
def gInO (G H:Hp) (acc:Addr) (o:HO):Gm:=⟨λ_=>False,G,H,λb=>if b=acc then some o else none⟩
theorem Ze0 {G H:Hp}{acc:Addr}{u:HO}{G' H':Hp}{σ:St}{Δ:Evt}(k:Ok K (gInO G H acc u) G' H' σ Δ):H' acc=some u/\G' acc=none/\∀(i:Nat) x od,Δ[i]?=some x->x.od=some od -> σ[i]?≠some (some (.ref acc)):=
 k.ext acc u (by show (if acc=acc then _ else _)=_;rw[if_pos rfl])
theorem Zj1 {G H:Hp}{acc:Addr}{u u':HO}{G' H':Hp}{σ:St}{Δ:Evt}(hH:H acc=none) (k:Ok K (gInO G H acc u) G' H' σ Δ):Ok K (gInO G H acc u') G' (upd H' acc u') σ Δ:=by
 obtain⟨w1,w2,w3⟩:=Ze0 k;have ne:∀{b:Addr}{o:HO},G' b=some o->b≠acc:=λ{b o} e z=>by subst z;rw[w2]at e;cases e
 refine⟨λb o hb e=>?_,λb hb=>hb.elim,k.sub,λb o e=>?_,λb o e=>?_,k.len,k.val,λi x od e1 e2=>?_,k.dis⟩
 ·have hb':b≠acc:=by intro z;subst z;have e:H b=some o:=e;rw[hH]at e;cases e
  rw[Zaj hb'];exact k.same b o (λz=>z) e
 ·rw[Zaj (ne e)];exact k.frz b o e
 ·have e:(if b=acc then some u' else none)=some o:=e
  by_cases hb:b=acc
  ·rw[if_pos hb]at e;cases e;subst hb
   exact⟨Zam,w2,w3⟩
  ·rw[if_neg hb]at e;cases e
 ·obtain⟨a,o,h1,h2,h3,h4,h5⟩:=k.own i x od e1 e2
  have hb:a≠acc:=by intro z;subst z;exact w3 i x od e1 e2 h1
  exact⟨a,o,h1,by rw[Zaj hb];exact h2,h3,h4,h5⟩
def JB (K:W.Frag) (tem:Addr->TB) (Δ:Evt) (od:OD) (P:OD->Evt->Prop):Prop:=∀(G1 H1:Hp) (acc:Addr) (o:HO) (G H:Hp) (σ:St) (N:St->Hp->Prop),H1 acc=none->OwnRep K G o od->Ok K (gInO G1 H1 acc o) G H σ Δ →
 (∀o' od' σ' G' H' Δ',Ok K (gInO G1 H1 acc o') G' H' σ' Δ' -> Same G G' -> OwnRep K G' o' od' -> P od' Δ' -> N σ' H')->tem acc σ H N
theorem Zna {wi:TI}{g2:TG}{tem:Addr->TB}{od:OD}{P:OD->Evt->Prop}(h:JI K wi Δ λes Δ4=>∃I2:Nat->OD->Evt->Prop,I2 0 od Δ4 ∧
   (∀j e od2 Δ5,es[j]?=some e->I2 j od2 Δ5->JG K g2 e Δ5 λΔ6=>JB K tem Δ6 od2 λod3 Δ8=>I2 (j+1) od3 Δ8)/\∀od2 Δ5,I2 es.length od2 Δ5->P od2 Δ5):JB K (λacc=>tLoop wi g2 (tem acc)) Δ od P:=λG1 H1 acc o G H σ N hacc ra k c=>
 h _ G H σ _ k λJ es G5 H5 Δ5 k5 s5 it ⟨I2,i0,i1,i2⟩=>by
  refine⟨λj m σ' H'=>m=es.length-j/\j<=es.length/\∃G6 o6 od6 Δ6,OwnRep K G6 o6 od6/\Ok K (gInO G1 H1 acc o6) G6 H' σ' Δ6/\Same G5 G6/\I2 j od6 Δ6,⟨es.length,by simp,Wbw _,G5,o,od,_,ra.mono s5,k5,Same.refl _,i0⟩,?_⟩;rintro j m σ6 H6 ⟨rfl,hj,G6,o6,od6,Δ6,r6,k6,s6,h6⟩;obtain⟨stop2,go2⟩:=it G6 H6 s6 k6.live;by_cases hjt:j<es.length
  ·obtain⟨c1,c2⟩:=go2 j _ (Wab hjt)
   refine .inr ⟨c1,λσ' H'=>∃G7 o7 od7 Δ7,OwnRep K G7 o7 od7/\Ok K (gInO G1 H1 acc o7) G7 H' σ' Δ7/\Same G5 G7/\I2 (j+1) od7 Δ7,λσ' H' p'=>⟨es.length-(j+1),by omega,rfl,hjt,p'⟩,λx2 H7 y2=>?_⟩;obtain⟨G7,d1,d2,d3,d4⟩:=c2 x2 H7 y2;have k7:=k6.grow d1 d2 d3;refine i1 j _ od6 Δ6 (Wab hjt) h6 _ G7 H7 σ6 x2 _ k7 d4 λσ8 G8 H8 Δ8 k8 s8 p8=>?_;exact p8 G1 H1 acc o6 G8 H8 σ8 _ hacc (r6.mono (d1.trans s8)) k8 λo9 od9 σ9 G9 H9 Δ9 k9 s9 r9 p9=>⟨G9,o9,od9,Δ9,r9,k9,s6.trans (d1.trans (s8.trans s9)),p9⟩
  ·have e:j=es.length:=by omega
   subst e;exact .inl ⟨stop2,c o6 od6 σ6 G6 H6 Δ6 k6 (s5.trans s6) r6 (i2 od6 Δ6 h6)⟩
theorem Zte {te:TE}{ds:List D}{P:OD->Evt->Prop}(h:JE K te Δ λd Δ1=>ds.length<sizeLine/\P (.lst (ds++[d])) Δ1):JB K (tAppL te) Δ (.lst ds) P:=λG1 H1 acc o G H σ N hacc ra k c=>
 h _ G H σ _ k λy d Ga Ha Δa ka sa r ⟨hl,p⟩=>by
  cases o with
  |lst vs=>
   have ra':Reps K Ga vs ds:=Reps.mono sa ra;obtain⟨w1,w2,w3⟩:=Ze0 ka;exact⟨vs,w1,by rw[ra'.length];exact hl,c _ _ σ Ga _ Δa (Zj1 hacc ka) sa (show OwnRep K Ga (.lst (vs++[y])) (.lst (ds++[d])) from Reps.append ra' (.cons r .nil)) p⟩
  |_=>exact absurd ra (λz=>z)
theorem Zj7 {n:Nat}{sel:List Nat}{wi1:TI}{g1:TG}{ho:HO}{od0:OD}{tem:Addr->TB}{Po:OD->Evt->Prop}(h00:∀G,OwnRep K G ho od0)
  (h:JI K wi1 Δ λds Δ1=>(∀i∈sel,∃d,Δ1[i]?=some (.val d))/\∃I:Nat->OD->Evt->Prop,I 0 od0 (compD n sel Δ1) ∧
   (∀i d od Δ2,ds[i]?=some d->I i od Δ2->JG K g1 d Δ2 λΔ3=>JB K tem Δ3 od λod' Δ4=>I (i+1) od' Δ4) ∧
   ∀od Δ2,I ds.length od Δ2->Po od Δ1):JO K (tCompG n sel wi1 g1 ho tem) Δ Po:=λg G H σ Q k c=>
 h g G H σ _ k λJ ds G1 H1 Δ1 k1 s1 it ⟨hval,I,h0,ht,he⟩ acc hacc=>by
  have hGa:G1 acc=none:=by
   cases e:G1 acc with
   |none=>rfl
   |some u=>rw[k1.live _ _ e]at hacc;cases hacc
  have noOd:∀(i:Nat) x od,(compD n sel Δ1)[i]?=some x->x.od=some od->False:=λi x od e1 e2=>by
   rcases Zbt e1 with z|⟨j,i',ei,ej,z⟩
   ·subst z;cases e2
   ·obtain⟨d,hd⟩:=hval i' (Wak ej)
    rw[hd]at z;cases z;cases e2
  refine⟨λi m σ' H'=>m=ds.length-i/\i<=ds.length/\∃G2 o2 od2 Δ2,OwnRep K G2 o2 od2/\Ok K (gInO G1 H1 acc o2) G2 H' σ' Δ2/\Same G1 G2/\I i od2 Δ2,⟨ds.length,by simp,Wbw _,G1,ho,od0,_,h00 _,?_,Same.refl _,h0⟩,?_⟩
  ·refine⟨λb o hb e=>?_,λb hb=>hb.elim,Same.refl _,λb o e=>⟨?_,.inr e⟩,λb o e=>?_,?_,λi d e=>?_,λi x od e1 e2=>(noOd i x od e1 e2).elim,λi j x y od od' a e1 e2=>(noOd i x od e1 e2).elim⟩
   ·have e:H1 b=some o:=e
    rw[Zaj (Zal e hacc)];exact e
   ·rw[Zaj (Zal e hGa)];exact k1.live b o e
   ·have e:(if b=acc then some ho else none)=some o:=e
    by_cases hb:b=acc
    ·rw[if_pos hb]at e;cases e;subst hb
     exact⟨Zam,hGa,λi x od e1 e2=>(noOd i x od e1 e2).elim⟩
    ·rw[if_neg hb]at e;cases e
   ·unfold compD compSt;simp
   ·rcases Zbt e with z|⟨j,i',ei,ej,z⟩
    ·cases z
    ·subst ei
     obtain⟨v,w1,w2⟩:=k1.val i' d z;exact⟨v,by rw[Zcw ej,w1];rfl,w2⟩
  ·rintro i m σ2 H2 ⟨rfl,hi,G2,o2,od2,Δ2,r2,k2,s2,h2⟩
   obtain⟨stop,go⟩:=it G2 H2 s2 k2.live;by_cases hlt:i<ds.length
   ·obtain⟨a1,a2⟩:=go i _ (Wab hlt)
    refine .inr ⟨a1,λσ' H'=>∃G3 o3 od3 Δ3,OwnRep K G3 o3 od3/\Ok K (gInO G1 H1 acc o3) G3 H' σ' Δ3/\Same G1 G3/\I (i+1) od3 Δ3,λσ' H' p'=>⟨ds.length-(i+1),by omega,rfl,hlt,p'⟩,λx H3 y=>?_⟩;obtain⟨G3,b1,b2,b3,b4⟩:=a2 x H3 y;have k3:=k2.grow b1 b2 b3;refine ht i _ od2 Δ2 (Wab hlt) h2 _ G3 H3 σ2 x _ k3 b4 λσ4 G4 H4 Δ4 k4 s4 p4=>?_;exact p4 G1 H1 acc o2 G4 H4 σ4 _ hacc (r2.mono (b1.trans s4)) k4 λo9 od9 σ9 G9 H9 Δ9 k9 s9 r9 p9=>⟨G9,o9,od9,Δ9,r9,k9,s2.trans (b1.trans (s4.trans s9)),p9⟩
   ·have e:i=ds.length:=by omega
    subst e;obtain⟨w1,w2,w3⟩:=Ze0 k2;refine .inl ⟨stop,?_⟩;have k9:Ok K g G2 H2 σ Δ1:=k1.grow s2 (λb o e=>k2.same b o (λz=>z) e) λb o e=>by
     obtain⟨f1,f2⟩:=k2.frz b o e;exact⟨f1,f2.symm⟩
    refine c acc _ G2 H2 Δ1 k9 (s1.trans s2) ⟨o2,w1,r2,w2,k1.there hacc,?_,λi x od e1 e2 e3=>?_⟩ (he od2 Δ2 h2)
    ·cases q:g.Xo acc with
     |none=>rfl
     |some u=>have z:=(k1.ext acc u q).1;rw[hacc]at z;cases z
    ·obtain⟨a,oo,v1,v2,_⟩:=k1.own i x od e1 e2
     rw[e3]at v1;cases v1;rw[hacc]at v2;cases v2
theorem Zro {tk tv:TE}{kvs:List (Key × D)}{P:OD->Evt->Prop}(h:JE K tk Δ λkd Δ1=>JE K tv Δ1 λvd Δ2=>∃ki:Int,kd=.int ki/\kvs.length<sizeLine/\P (.dct (putD kvs (.inl ki) vd)) Δ2):JB K (tPutK tk tv) Δ (.dct kvs) P:=λG1 H1 acc o G H σ N hacc ra k c=>
 h _ G H σ _ k λx kd Ga Ha Δa ka sa r h2=>h2 _ Ga Ha σ _ ka λy vd Gb Hb Δb kb sb rv ⟨ki,ek,hl,p⟩=>by
  subst ek;cases r.inv;cases o with
  |dK kv=>
   have ra':KD K Gb kv kvs:=OwnRep.mono (o:=.dK kv) (od:=.dct kvs) (sa.trans sb) ra;obtain⟨w1,w2,w3⟩:=Ze0 kb;exact⟨kv,.inl ki,rfl,w1,by rw[ra'.len];exact hl,c _ _ σ Gb _ Δb (Zj1 hacc kb) (sa.trans sb) (show OwnRep K Gb (.dK _) (.dct _) from Zlb rv ra') p⟩
  |_=>exact absurd ra (λz=>z)
theorem Zl5 {n:Nat}{sel:List Nat}{wi1 wi2:TI}{g1 g2:TG}{tk tv:TE}{Po:OD->Evt->Prop}
  (h:JI K wi1 Δ λds Δ1=>(∀i∈sel,∃d,Δ1[i]?=some (.val d))/\∃I:Nat->List (Key × D)->Evt->Prop,I 0 [] (compD n sel Δ1) ∧
   (∀i d kvs Δ2,ds[i]?=some d->I i kvs Δ2->JG K g1 d Δ2 λΔ3=>JI K wi2 Δ3 λes Δ4=>∃I2:Nat->List (Key × D)->Evt->Prop,I2 0 kvs Δ4 ∧
    (∀j e kvs2 Δ5,es[j]?=some e->I2 j kvs2 Δ5->JG K g2 e Δ5 λΔ6=>JE K tk Δ6 λkd Δ7=>JE K tv Δ7 λvd Δ8=>∃ki:Int,kd=.int ki/\kvs2.length<sizeLine/\I2 (j+1) (putD kvs2 (.inl ki) vd) Δ8) ∧
    ∀kvs2 Δ5,I2 es.length kvs2 Δ5->I (i+1) kvs2 Δ5) ∧
   ∀kvs Δ2,I ds.length kvs Δ2->Po (.dct kvs) Δ1):JO K (tComp2 n sel wi1 g1 wi2 g2 (.dK []) (tPutK tk tv)) Δ Po:=
 show JO K (tCompG n sel wi1 g1 (.dK []) λacc=>tLoop wi2 g2 (tPutK tk tv acc)) Δ Po from Zj7 (od0:=.dct []) (λ_=>.nil) λg G H σ R k c=>h g G H σ R k λJ ds G' H' Δ' k' s' it ⟨hv,I,h0,ht,he⟩=>c J ds G' H' Δ' k' s' it ⟨hv,λi od Δ=>∃kvs,od=.dct kvs/\I i kvs Δ,⟨[],rfl,h0⟩,by
  rintro i d od Δ2 hd ⟨kvs,rfl,hI⟩ g2' G2 H2 σ2 v R2 k2 r2 c2;refine ht i d kvs Δ2 hd hI g2' G2 H2 σ2 v R2 k2 r2 λσ3 G3 H3 Δ3 k3 s3 p3=>c2 σ3 G3 H3 Δ3 k3 s3 (Zna λg4 G4 H4 σ4 R4 k4 c4=>p3 g4 G4 H4 σ4 R4 k4 λJ5 es G5 H5 Δ5 k5 s5 it5 ⟨I2,i0,i1,i2⟩=>c4 J5 es G5 H5 Δ5 k5 s5 it5 ⟨λj od Δ=>∃kvs,od=.dct kvs/\I2 j kvs Δ,⟨kvs,rfl,i0⟩,?_,?_⟩)
  ·rintro j e od2 Δ6 he2 ⟨kvs2,rfl,hI2⟩ g6 G6 H6 σ6 v6 R6 k6 r6 c6
   exact i1 j e kvs2 Δ6 he2 hI2 g6 G6 H6 σ6 v6 R6 k6 r6 λσ7 G7 H7 Δ7 k7 s7 p7=>c6 σ7 G7 H7 Δ7 k7 s7 (Zro λg8 G8 H8 σ8 Q8 k8 c8=>p7 g8 G8 H8 σ8 Q8 k8 λv9 d9 G9 H9 Δ9 k9 s9 r9 p9=>c8 v9 d9 G9 H9 Δ9 k9 s9 r9 λga Ga Ha σa Qa kka ca=>p9 ga Ga Ha σa Qa kka λvb db Gb Hb Δb kb sb rb ⟨ki,e1,e2,e3⟩=>ca vb db Gb Hb Δb kb sb rb ⟨ki,e1,e2,_,rfl,e3⟩)
  ·rintro od2 Δ6 ⟨kvs2,rfl,hI2⟩
   exact⟨kvs2,rfl,i2 kvs2 Δ6 hI2⟩,by
  rintro od Δ2 ⟨kvs,rfl,hI⟩;exact he kvs Δ2 hI⟩
end
def tTry1 (K:W.Frag) (FE:Addr) (i j:Nat) (sp:Sp) (ta:TA) (th:Addr->TS):TS:=λD σ H=>ta σ H λvs H0=>∃E:XK,sp vs H0 (λv H'=>D.nx (σ.set j (some v)) H') E/\∀C H1,E (.ref C) none H1->(ExcC K C/\PySem.W.mroIn K C (.ref FE)=some true) ∧
 ∀a,H1 a=none->th a ⟨λσ' H'=>D.nx (σ'.set i none) H',D.rt,λσ' H'=>D.bk (σ'.set i none) H',λσ' H'=>D.ct (σ'.set i none) H'⟩ (σ.set i (some (.ref a))) (upd H1 a (.ext (InsC a C)))
section
variable {X:Cx}{x y z fx:Str}{FE:Addr}{np hpos pos zp p cp sps:Pos}{b0:Stmt}{hb:List Stmt}{i j k:Nat}{ps:List Str}{sp:Sp}{e:Expr}{es:List Expr}{t:TA}{th:Addr->TS}
theorem Zq5 (nd:X.N.Nodup) (hi:X.N[i]?=some y) (hj:X.N[j]?=some z) (hk:X.env.scope.names.lookup y=some .local) (hz:Loc X.env.scope z) (hex:X.ex=[]) (hst:X.stack=X.env::X.outer) (hf:X.env.frame=some X.env.locals) (hg:Gl X x) (hm:X.mg x=some (.ref FE)) (cF:ExcC X.K FE)
  (C:CalleeX X.prog X.w X.K X.mg X.base k fx ps sp) (hr:Room k X.A) (ha:∀(pn:List (Addr × Obj)) (xe:Value->Shared->Prop),PA (XT X pn xe) (e::es) t) (hh:∀a,PSs (XC X a) (b0::hb) (th a))
  (hgf:Gl X fx:=by rfl) (hs:swapsWith (.Call (.Name fx p) (e::es) [] cp) (some (.Name z zp)) sps.line X.env=pure false:=by rfl) (hfz:X.fn z=true\/X.env.scope.names.lookup z=some .local:=by exact .inr rfl) (hfn:X.fn y=true\/X.env.scope.names.lookup y=some .local:=by exact .inr rfl)
  (hdb:(x == ("__debug__":Str))=false:=by decide) (hdf:(fx == ("__debug__":Str))=false:=by decide) (he:starEach (e::es) X.env=(false,eval e X.env)::starEach es X.env:=by rfl) (hpl:(backTo cp (starEach es X.env)).any (·.1)=false:=by rfl) :
  PS X (.Try [.Assign [.Name z zp] (.Call (.Name fx p) (e::es) [] cp) sps] [.ExceptHandler (some (.Name x np)) (some y) (b0::hb) hpos] [] [] pos) (tTry1 X.K FE i j sp t th):=by
 intro pins s σ H D I h;obtain⟨fa,fd,F,b,kp,m⟩:=C.ex;refine wpAny_Try_except ?_
 -- what an exception meets
 let xe:Value->Shared->Prop:=λe s1=>wpAny (model X.prog X.w) X.A (noteFrame e X.env) (λ_ s2=>wpAny (model X.prog X.w) X.A (setFlight e none) (λ_ s3=>wpAny (model X.prog X.w) X.A (handleBy e X.env [.ExceptHandler (some (.Name x np)) (some y) (b0::hb) hpos]) (SP X pins D) X.xe s3) X.xe s2) X.xe s1
 have J0:Inv (XT X (X.pn++pins) xe) [] σ H s:=I.into;have body:wpAny (model X.prog X.w) X.A (execs [.Assign [.Name z zp] (.Call (.Name fx p) (e::es) [] cp) sps] X.env) (SP X pins D) xe s:=by
  refine wpAny_execs_cons ?_;have st:wpAny (model X.prog X.w) X.A (exec (.Assign [.Name z zp] (.Call (.Name fx p) (e::es) [] cp) sps) X.env) (SP X pins D) xe s:=by
   refine wpAny_Assign_Name (Q:=SP X pins D) ?_ hs;refine wpAny_Call_Name_kw (Zeq (X:=XT X (X.pn++pins) xe) J0 hgf m ?_ hdf);refine PySem.W.callWith_K (h₀:=X.base) I.ok.mod.kin kp (thn (ha (X.pn++pins) xe cp [] s σ H _ J0 h) λus s1 ⟨vs,H1,I1,r,E,q,hE⟩=>⟨I1.kIn,?_⟩) he hpl;have hl:us.length=ps.length:=by rw[<- r.length];exact F.len _ _ _ _ q
   have bd:=b s1 us I1.kIn (by rw[Wa3];exact hl);rw[Wa3]at bd;refine wpAny_call (codeAny_mono (F.run X.A X.stack s1 H1 ⟨us,[]⟩ us vs _ E hr I1.env0 bd r q) λr s2 hq=>?_);cases r with
   |ok fl=>
    cases fl with
    |ret u=>
     obtain⟨v,H2,I2,r2,q2⟩:=I1.after hq;exact Zdn (Inv.outof I.ok I2) nd hj hz r2 (λs3 I3=>⟨_,H2,I3,q2⟩) hfz
    |next=>exact False.elim hq
    |brk=>exact False.elim hq
    |cont=>exact False.elim hq
   |error ev=>
    obtain⟨a,C,T,H2,rfl,os,bare,un,hok,ha2,hsa,hT,hsT,tr,hE'⟩:=hq;have J1:Inv X pins σ H1 s1:=Inv.outof I.ok I1;have J2:Inv X pins σ H2 s2:=J1.call' (ch:=[]) os un hok bare (λb z=>absurd z (by simp));have na:=(Nw.of J1 hex hsa).at ha2;have nT:=(Nw.of J1 hex hsT).at hT;obtain⟨⟨cC,mC⟩,hth⟩:=hE C H2 hE';refine Zrj J2 hex hst hf tr na nT λh3 T3 K3 t3 n3=>?_;have inC:∀{h:Heap}{T:Addr},Trc h a C T->InsC a C h:=λq=>by
     obtain⟨oe,vs,oT,ts,q1,q2,q3,_,q4,_⟩:=q;exact⟨oe,vs,q1,q2,q3,q4⟩
    refine wpAny_handleBy_cons (codeAny_handlers_test ?_) (by intro q;cases q);refine Zeq (X:=XC X a) (K3.suite a) hg hm ?_ hdb;refine Zfy (K:=X.K) K3.kIn cF cC mC (inC t3) ?_;refine codeAny_handlers_suite_as ?_;refine Zon K3 hex t3 na n3 λh4 T4 K4 t4 n4=>?_;have K5:=(K4.held na (inC t4)).suite a;refine Zdn (X:=XC X a) (v:=.ref a) K5 nd hi (.inl hk) rfl (λs5 K7=>?_) hfn;refine wpAny_mono (hh a pins s5 _ _ _ K7 (hth a ha2)) (λf s6 q=>?_) (λ_ _ z=>z.elim);cases f with
    |next=>
     obtain⟨σ',H',K8,q⟩:=q;exact Inv.gone (K8.unsuite I.ok) nd hi hk λs7 K9=>⟨_,H',K9,q⟩
    |brk=>
     obtain⟨σ',H',K8,q⟩:=q;exact Inv.gone (K8.unsuite I.ok) nd hi hk λs7 K9=>⟨_,H',K9,q⟩
    |cont=>
     obtain⟨σ',H',K8,q⟩:=q;exact Inv.gone (K8.unsuite I.ok) nd hi hk λs7 K9=>⟨_,H',K9,q⟩
    |ret u=>
     obtain⟨v,σ',H',K8,r,q⟩:=q;exact Inv.gone (K8.unsuite I.ok) nd hi hk λs7 K9=>⟨v,_,H',K9,r,q⟩
  refine thn st λf s1 q=>?_;cases f with
  |next=>exact wpAny_execs_nil q
  |ret v=>exact q
  |brk=>exact q
  |cont=>exact q
 refine wpAny_mono body (λf s1 hq=>?_) (λ_ _ z=>z);cases f with
 |next=>exact wpAny_execs_nil hq
 |brk=>exact hq
 |cont=>exact hq
 |ret u=>exact hq
end
section
variable {K:W.Frag}{Δ:Evt}{nx bk ct:Evt->Prop}{rt:D->Evt->Prop}{ro:OD->Evt->Prop}
theorem Zrd {FE:Addr}{i j:Nat}{f:XSp}{ta:TA}{th:Addr->TS}(h:JA K ta Δ λds Δ1=>i < Δ1.length/\f ds (λd=>j < Δ1.length/\nx (Δ1.set j (.val d))) λC=>(ExcC K C/\PySem.W.mroIn K C (.ref FE)=some true)/\∀a,JS K (th a) (Δ1.set i (.val (.exc a C))) ⟨λΔ2=>nx (Δ2.set i .any),rt,λΔ2=>bk (Δ2.set i .any),λΔ2=>ct (Δ2.set i .any),ro⟩) :
  JS K (tTry1 K FE i j (spX K f) ta th) Δ ⟨nx,rt,bk,ct,ro⟩:=λg G H σ D k c=>
 h g G H σ _ k λvs ds G1 H1 Δ1 k1 s1 r1 ⟨hi,hf⟩=>by
  refine⟨λv _ H'=>∃C,v=.ref C/\Same H1 H' /\ (ExcC K C/\PySem.W.mroIn K C (.ref FE)=some true)/\∀a,JS K (th a) (Δ1.set i (.val (.exc a C))) ⟨λΔ2=>nx (Δ2.set i .any),rt,λΔ2=>bk (Δ2.set i .any),λΔ2=>ct (Δ2.set i .any),ro⟩,⟨G1,ds,_,_,k1.live,r1,hf,λr H' d sh rr ⟨hj,pd⟩=>?_,λC H' sh x=>⟨C,rfl,sh,x⟩⟩,?_⟩
  ·have sg:=Ze2 (H':=H') k1.live
   exact c.nx _ _ H' _ ((k1.grow sg sh (Zhp k1.live λb o _ e=>sh b o e)).setVal hj rr) pd
  ·rintro C H2 ⟨C',e,sh,hx,hth⟩
   cases e;refine⟨hx,λa ha=>?_⟩;have k2:Ok K g G1 H2 σ Δ1:=k1.grow (Same.refl _) sh λb o e=>⟨sh b o (k1.live b o e),.inl e⟩;obtain⟨k3,sg⟩:=k2.laid ha (.ext (InsC a C));have k4:=k3.setVal (i:=i) hi (.exc Zam);exact hth a g _ _ _ _ k4 ⟨λσ' G' H' Δ' k' p=>c.nx _ G' H' _ (k'.unset i) p,c.rt,λσ' G' H' Δ' k' p=>c.bk _ G' H' _ (k'.unset i) p,λσ' G' H' Δ' k' p=>c.ct _ G' H' _ (k'.unset i) p,c.ro⟩
end
end L2
set_option Elab.async false
set_option linter.all false
set_option maxRecDepth 100000
set_option maxHeartbeats 4000000
namespace Lw
open PySem L2
def top (i:Nat):Stmt:=PySem.Challenge.pw_holefloor_k41_tables_read.main.body.getD i (.Pass ⟨0,0,0,0⟩)
abbrev s_is_whole:Stmt:=top 6
abbrev s_is_row:Stmt:=top 7
abbrev s_place_of:Stmt:=top 11
abbrev s_least_first:Stmt:=top 13
abbrev s_follower:Stmt:=top 14
abbrev s_onward:Stmt:=top 16
abbrev s_face_of:Stmt:=top 17
abbrev s_faces:Stmt:=top 18
abbrev s_floor_by:Stmt:=top 20
abbrev s_read_table:Stmt:=top 22
abbrev s_faces_of_table:Stmt:=top 23
abbrev s_rows_told_by:Stmt:=top 24
abbrev s_law_pen:Stmt:=top 26
abbrev s_law_draw:Stmt:=top 27
abbrev s_law_web:Stmt:=top 28
abbrev s_law_order:Stmt:=top 29
abbrev s_law_partner:Stmt:=top 30
abbrev s_law_faces:Stmt:=top 31
abbrev s_law_whole:Stmt:=top 32
abbrev s_law_same:Stmt:=top 33
abbrev s_law_mixed:Stmt:=top 34
abbrev s_law_edge:Stmt:=top 35
abbrev s_law_loops:Stmt:=top 36
abbrev s_law_floor:Stmt:=top 37
abbrev s_law_dealt:Stmt:=top 38
abbrev s_law:Stmt:=top 39
theorem sc_is_whole:FnScope ["thing"] ["thing"] (defScope s_is_whole):=⟨rfl,rfl,rfl,by decide +kernel,rfl,by decide +kernel,by decide +kernel⟩
theorem sc_is_row:FnScope ["thing"] ["thing"] (defScope s_is_row):=⟨rfl,rfl,rfl,by decide +kernel,rfl,by decide +kernel,by decide +kernel⟩
theorem sc_place_of:FnScope ["web","end"] ["web","end"] (defScope s_place_of):=⟨rfl,rfl,rfl,by decide +kernel,rfl,by decide +kernel,by decide +kernel⟩
theorem sc_least_first:FnScope ["ends","at"] ["ends"] (defScope s_least_first):=⟨rfl,rfl,rfl,by decide +kernel,rfl,by decide +kernel,by decide +kernel⟩
theorem sc_follower:FnScope ["web","order","end","row"] ["web","order","end"] (defScope s_follower):=⟨rfl,rfl,rfl,by decide +kernel,rfl,by decide +kernel,by decide +kernel⟩
theorem sc_onward:FnScope ["web","order","end"] ["web","order","end"] (defScope s_onward):=⟨rfl,rfl,rfl,by decide +kernel,rfl,by decide +kernel,by decide +kernel⟩
theorem sc_face_of:FnScope ["web","order","end","face","come"] ["web","order","end"] (defScope s_face_of):=⟨rfl,rfl,rfl,by decide +kernel,rfl,by decide +kernel,by decide +kernel⟩
theorem sc_faces:FnScope ["web","order","told","gone","end","face","come"] ["web","order"] (defScope s_faces):=⟨rfl,rfl,rfl,by decide +kernel,rfl,by decide +kernel,by decide +kernel⟩
theorem sc_floor_by:FnScope ["rows","places","ties"] ["rows"] (defScope s_floor_by):=⟨rfl,rfl,rfl,by decide +kernel,rfl,by decide +kernel,by decide +kernel⟩
theorem sc_read_table:FnScope ["table","rows"] ["table"] (defScope s_read_table):=⟨rfl,rfl,rfl,by decide +kernel,rfl,by decide +kernel,by decide +kernel⟩
theorem sc_faces_of_table:FnScope ["table","ends"] ["table"] (defScope s_faces_of_table):=⟨rfl,rfl,rfl,by decide +kernel,rfl,by decide +kernel,by decide +kernel⟩
theorem sc_rows_told_by:FnScope ["told","web","order"] ["told"] (defScope s_rows_told_by):=⟨rfl,rfl,rfl,by decide +kernel,rfl,by decide +kernel,by decide +kernel⟩
theorem sc_law_pen:FnScope ["_law_script"] ["_law_script"] (defScope s_law_pen):=⟨rfl,rfl,rfl,by decide +kernel,rfl,by decide +kernel,by decide +kernel⟩
theorem sc_law_draw:FnScope ["_law_pen_here","_law_many","_law_digit","_law_at","_law_cell","_law_number"] ["_law_pen_here","_law_many"] (defScope s_law_draw):=⟨rfl,rfl,rfl,by decide +kernel,rfl,by decide +kernel,by decide +kernel⟩
theorem sc_law_web:FnScope ["_law_pen_here","_law_places","_law_ties","_law_many","_law_way","_law_count","_law_found","_law_k","_law_a","_law_b"] ["_law_pen_here","_law_places","_law_ties"] (defScope s_law_web):=⟨rfl,rfl,rfl,by decide +kernel,rfl,by decide +kernel,by decide +kernel⟩
theorem sc_law_order:FnScope ["_law_pen_here","_law_web_here","_law_rows","_law_k","_law_row","!0","!1","!2","!3","!4","!5","!6","!7","!8","!9","!10","!11","!12","!13","!14","!15","!16","!17","!18","!19","!20","!21","!22","!23","!24"] ["_law_pen_here","_law_web_here"] (defScope s_law_order):=⟨rfl,rfl,rfl,by decide +kernel,rfl,by decide +kernel,by decide +kernel⟩
theorem sc_law_partner:FnScope ["_law_end"] ["_law_end"] (defScope s_law_partner):=⟨rfl,rfl,rfl,by decide +kernel,rfl,by decide +kernel,by decide +kernel⟩
theorem sc_law_faces:FnScope ["_law_order_here","_law_behind","_law_row","_law_k","_law_found","_law_met","_law_end","_law_walk","_law_at"] ["_law_order_here"] (defScope s_law_faces):=⟨rfl,rfl,rfl,by decide +kernel,rfl,by decide +kernel,by decide +kernel⟩
theorem sc_law_whole:FnScope ["_law_found"] ["_law_found"] (defScope s_law_whole):=⟨rfl,rfl,rfl,by decide +kernel,rfl,by decide +kernel,by decide +kernel⟩
theorem sc_law_same:FnScope ["_law_found","_law_due"] ["_law_found","_law_due"] (defScope s_law_same):=⟨rfl,rfl,rfl,by decide +kernel,rfl,by decide +kernel,by decide +kernel⟩
theorem sc_law_mixed:FnScope ["_law_pen_here","_law_things","_law_found","_law_thing"] ["_law_pen_here","_law_things"] (defScope s_law_mixed):=⟨rfl,rfl,rfl,by decide +kernel,rfl,by decide +kernel,by decide +kernel⟩
theorem sc_law_edge:FnScope ["_law_pen_here","_law_loops_here","_law_many","_law_names"] ["_law_pen_here"] (defScope s_law_edge):=⟨rfl,rfl,rfl,by decide +kernel,rfl,by decide +kernel,by decide +kernel⟩
theorem sc_law_loops:FnScope ["_law_pen_here","_law_many","_law_found","_law_k","_law_place"] ["_law_pen_here"] (defScope s_law_loops):=⟨rfl,rfl,rfl,by decide +kernel,rfl,by decide +kernel,by decide +kernel⟩
theorem sc_law_floor:FnScope ["_law_rows","_law_places","_law_place","_law_row","_law_end","_law_ties"] ["_law_rows"] (defScope s_law_floor):=⟨rfl,rfl,rfl,by decide +kernel,rfl,by decide +kernel,by decide +kernel⟩
theorem sc_law_dealt:FnScope ["_law_pen_here","_law_rows","_law_found","_law_row","_law_at","_law_face"] ["_law_pen_here","_law_rows"] (defScope s_law_dealt):=⟨rfl,rfl,rfl,by decide +kernel,rfl,by decide +kernel,by decide +kernel⟩
theorem sc_law:FnScope ["_law_script","_law_pen_here","_law_web_here","_law_way","_law_order_here","_law_rows","_law_due","_law_lone","_law_table","_law_kept","_law_found","_law_refused","e"] ["_law_script"] (defScope s_law):=⟨rfl,rfl,rfl,by decide +kernel,rfl,by decide +kernel,by decide +kernel⟩
def Mb (mg:Str->Option Value):Prop:=∀x∈["ValueError","abs","all","bool","enumerate","int","isinstance","len","list","max","min","range","repr","set","sorted","tuple","zip"],mg x=none
structure Cl (K:W.Frag) (mg:Str->Option Value) (c_FloorError c_NoOrder c_NoTable c_TooGreat:Addr):Prop where
 n_FloorError:mg "FloorError" = some (.ref c_FloorError)
 e_FloorError:ExcC K c_FloorError
 n_NoOrder:mg "NoOrder" = some (.ref c_NoOrder)
 n_NoTable:mg "NoTable" = some (.ref c_NoTable)
 e_NoTable:ExcC K c_NoTable
 n_TooGreat:mg "TooGreat" = some (.ref c_TooGreat)
 i_NoTable:ExcI K c_NoTable
 m_NoTable:PySem.W.mroIn K c_NoTable (.ref c_FloorError)=some true
 t_NoTable:PySem.W.kitOne K (.ref c_NoTable) (.type "ValueError")=some true
 k_NoTable_NoTable:PySem.W.kitOne K (.ref c_NoTable) (.ref c_NoTable)=some true
 k_NoTable_NoOrder:PySem.W.kitOne K (.ref c_NoTable) (.ref c_NoOrder)=some false
 k_NoTable_TooGreat:PySem.W.kitOne K (.ref c_NoTable) (.ref c_TooGreat)=some false
local macro_rules | `(tactic| walk_at "js")=>`(tactic| first
 |with_reducible refine Zak (t:=tAsg _ _) ?_
 |with_reducible refine Zak (t:=tPar _ _ _) ?_
 |with_reducible refine Zak (t:=tDrop _) ?_
 |with_reducible refine iteF ?_
 |with_reducible refine iteT ?_
 |with_reducible refine Za1 ?_
 |with_reducible refine Za3 ?_
 |with_reducible refine Zb0 ?_
 |with_reducible refine Zi1 ?_
 |with_reducible refine Zax ?_
 |refine Zrz rfl rfl ?_
 |refine Zhb rfl rfl ?_
 |with_reducible refine Zas ?_
 |with_reducible refine Zt4 ?_
 |with_reducible refine Zao ?_
 |with_reducible refine Zru ?_
 |with_reducible refine Zpv ?_
 |with_reducible refine Zds ?_
 |with_reducible refine Zat ?_
 |with_reducible refine Za5 ?_
 |refine je_ld rfl rfl ?_
 |refine Za4 rfl rfl ?_
 |with_reducible refine Zbr ?_
 |with_reducible refine Zci ?_
 |with_reducible refine Zss ?_
 |with_reducible refine Zfm ?_
 |with_reducible refine Zg4 ?_
 |with_reducible refine Zsu ?_
 |with_reducible refine Zhk ?_
 |with_reducible refine Zc1 ?_
 |with_reducible refine Zc7 ?_
 |with_reducible refine Zaf ?_
 |with_reducible refine Zab ?_
 |with_reducible refine Zbc ?_
 |with_reducible refine Zij ?_
 |with_reducible refine Zpe ?_
 |with_reducible refine Zcs ?_
 |with_reducible refine Zbu ?_
 |with_reducible refine Zb5 ?_
 |with_reducible refine Zcq ?_
 |with_reducible refine Zqp ?_
 |with_reducible refine Zhx ?_
 |with_reducible refine Zex ?_
 |with_reducible refine Zsn ?_
 |with_reducible refine Zsi ?_
 |with_reducible refine Zji ?_
 |with_reducible refine Zbm ?_
 |refine Zac rfl ?_
 |refine Zbz rfl ?_
 |refine Zfs rfl ?_
 |refine Zbq (Or.inl rfl) ?_
 |refine Zbq (Or.inr rfl) ?_
 |refine Zb8 (Or.inl rfl) ?_
 |refine Zb8 (Or.inr rfl) ?_
 |refine Zlv (Or.inl rfl) ?_
 |refine Zlv (Or.inr rfl) ?_
 |refine Zo9 ?_
 |refine⟨⟨_,_,rfl,rfl⟩,?_⟩
 |refine⟨_,_,_,_,rfl,rfl,rfl,rfl,?_⟩
 |refine⟨_,rfl,?_⟩
 |refine jr_I (by first|(show (0:Int)<_;omega)|exact⟨by omega,by omega⟩|exact Or.inl ⟨by omega,by omega⟩|exact Or.inr ⟨by omega,by omega⟩|exact⟨by decide,by decide,by decide⟩) ?_)
local macro_rules | `(tactic| walk_at "draw")=>`(tactic| first|refine lq_draw rfl rfl (by assumption) (by omega) (by omega) λ_ _ _ _ _=>?_|refine⟨_,_,rfl,rfl,by assumption,_,rfl,by omega,by omega,λ_ _ _ _ _=>?_⟩)
def Pen (ps:List D):Prop:=∃(cs:List Int) (at_ num:Int),ps=[.lst (cs.map .int),.int at_,.int num]/\0<=at_/\0<=num/\cs.length<=63
def fDraw:BSp:=λps ds Post=>Pen ps/\∃m:Int,ds=[.int m]/\1<=m/\m<1073741824/\∀r ps',Pen ps' -> 0<=r->r<m->Post (.int r) ps'
section
variable {P:Program}{w:World}{K:W.Frag}{mg:Str->Option Value}{base:Heap}{f:Addr}{fd:FuncData}
theorem Zq4 (mb:Mb mg) (F:Fun K "_law_draw" "_law_draw" s_law_draw f fd):FnOk P w K mg base CX0 1 f fd ["_law_pen_here","_law_many"] (spB K fDraw):=by
 refine F.ok sc_law_draw (Zd2 λps ds Post h=>by obtain⟨_,m,rfl,_⟩:=h;rfl) (λcdv A outer s H vs Q E hr h=>?_);have hu:=Zbx hr;refine⟨_,(Zae (Zbw (Zaw Zml (Zbo (ixK K hu) (pv 0) Zag (λ_ _=>rfl)) Zag (nomark _)) (Zae (Zan (i:=2) sc_law_draw.nd rfl (by first|exact Or.inl rfl|exact Or.inr rfl) (Zaq Zby (Zbo (ixK K hu) (pv 0) Zag (λ_ _=>rfl)) (pv 1))) (Zae (Zfc (Zaq Zd5 (Zbo (ixK K hu) (pv 0) Zag (λ_ _=>rfl)) (pv 1)) (Zgl (pv 0) Zag (setU hu))) (Zai (Zau (pv 2))))) Zav) (Zae (Zan (i:=3) sc_law_draw.nd rfl (by first|exact Or.inl rfl|exact Or.inr rfl) (Zbo (ixK K hu) (pv 0) Zag (λ_ _=>rfl))) (Zae (Zfc (Zaq (addK K) (pv 3) Zag) (Zgl (pv 0) Zag (setU hu))) (Zae (Zan (i:=4) sc_law_draw.nd rfl (by first|exact Or.inl rfl|exact Or.inr rfl) Zag) (Zae (Zbw (Zaw Zml (Zah (lenK K) rfl (mb "len" (by decide)) Za9 (Zaa (Zbo (ixK K hu) (pv 0) Zag (λ_ _=>rfl)) Zad)) Zag (nomark _)) (Zai (Zan (i:=4) sc_law_draw.nd rfl (by first|exact Or.inl rfl|exact Or.inr rfl) (Zbo (ixK K hu) (Zbo (ixK K hu) (pv 0) Zag (λ_ _=>rfl)) (Zaq Zby (pv 3) (Zah (lenK K) rfl (mb "len" (by decide)) Za9 (Zaa (Zbo (ixK K hu) (pv 0) Zag (λ_ _=>rfl)) Zad))) (λ_ _=>rfl)))) Zav) (Zae (Zbw (PW.pt (pw_and (Zaw Zt9 (pv 3) (Zah (lenK K) rfl (mb "len" (by decide)) Za9 (Zaa (Zbo (ixK K hu) (pv 0) Zag (λ_ _=>rfl)) Zad)) (nomark _)) (pw_and1 (Zaw Zt1 (Zah Zg9 rfl (mb "abs" (by decide)) Zld (Zaa (pv 4) Zad)) (Zaq Zsx Zag Zag) (nomark _))))) (Zae (Zfc (Zaq Zd5 (Zah Zg9 rfl (mb "abs" (by decide)) Zld (Zaa (pv 4) Zad)) (pv 1)) (Zgl (pv 0) Zag (setU hu))) (Zai (Zau (Zaq Zby (Zah Zg9 rfl (mb "abs" (by decide)) Zld (Zaa (pv 4) Zad)) (pv 1))))) Zav) (Zae (Zan (i:=5) sc_law_draw.nd rfl (by first|exact Or.inl rfl|exact Or.inr rfl) (Zaq Zby (Zaq Zdf (Zaq (addK K) (Zaq (addK K) (Zaq Zby (pv 4) Zag) (Zaq Zdf Zag (pv 3))) Zag) Zag) Zag)) (Zae (Zan (i:=5) sc_law_draw.nd rfl (by first|exact Or.inl rfl|exact Or.inr rfl) (Zaq Zby (Zaq (addK K) (Zaq (addK K) (Zaq Zdf (pv 5) (pv 5)) (Zaq Zdf Zag (pv 5))) (pv 3)) Zag)) (Zai (Zau (Zaq Zby (Zaq Zd5 (Zaq Zby (Zaq Zdf (pv 5) Zag) Zag) Zag) (pv 1)))))))))))),Zi3 (λps ds Post hf=>?_) h⟩;obtain⟨⟨cs,at_,num,rfl,h1,h2,h3⟩,m,rfl,h4,h5,q⟩:=hf;refine⟨by simp,?_⟩;dsimp only[cxOf,startD,Wbm,Wbs,Wba,Wad];refine Zbf (λΔ=>¬ 0<num /\ Δ = [.bor (.lst [.lst (cs.map .int),.int at_,.int num]),.val (.int m),.any,.any,.any,.any]) ?_ ?_
 ·repeat walk_at "js"
  refine ite2 (λc=>?_) (λc=>?_)
  ·have c:=of_decide_eq_true c
   repeat walk_at "js"
   exact q _ _ ⟨cs,at_,num / m,rfl,h1,Int.ediv_nonneg h2 (by omega),h3⟩ (Wc1 _ (by omega)) (Wco _ (by omega))
  ·repeat walk_at "js"
   exact⟨of_decide_eq_false (Wc5.mpr c),rfl⟩
 rintro Δ1 ⟨hn,rfl⟩
 repeat walk_at "js"
 refine Zbf (λΔ=>∃c:Int,Δ = [.bor (.lst [.lst (cs.map .int),.int (at_+1),.int num]),.val (.int m),.any,.val (.int at_),.val (.int c),.any]) ?_ ?_
 ·repeat walk_at "js"
  refine ite2 (λc=>?_) (λc=>?_)
  ·have c:=of_decide_eq_true c
   rw[Waa]at c
   repeat walk_at "js"
   rw[Waa]
   repeat walk_at "js"
   obtain⟨cell,_,hc⟩:=Zmi (f:=D.int) (xs:=cs) (i:=at_ % (cs.length:Int)) (Wc1 _ (by omega)) (Wco _ (by omega));refine Zfs hc ?_;exact⟨cell,rfl⟩
  ·repeat walk_at "js"
   exact⟨11,rfl⟩
 rintro Δ1 ⟨cell,rfl⟩;refine Zbf (λΔ=>Δ = [.bor (.lst [.lst (cs.map .int),.int (at_+1),.int num]),.val (.int m),.any,.val (.int at_),.val (.int cell),.any]) ?_ ?_
 ·repeat walk_at "js"
  refine ite2 (λc=>?_) (λc=>?_)
  ·repeat walk_at "js"
   refine ite2 (λc=>?_) (λc=>?_)
   ·repeat walk_at "js"
    have ha:0<=(if cell<0 then -cell else cell):=by split <;> omega
    exact q _ _ ⟨cs,at_+1,_,rfl,by omega,Int.ediv_nonneg ha (by omega),h3⟩ (Wc1 _ (by omega)) (Wco _ (by omega))
   ·repeat walk_at "js"
    rfl
  ·repeat walk_at "js"
   rfl
 rintro Δ1 rfl
 repeat walk_at "js"
 exact q _ _ ⟨cs,at_+1,num,rfl,by omega,h2,h3⟩ (Wc1 _ (by omega)) (Wco _ (by omega))
end
def fPen:NSp:=λds Post=>∃ns:List Int,ds=[.scr (ns.map .int)]/\ns.length<=63/\∀ps,Pen ps->Post ps
section
variable {P:Program}{w:World}{K:W.Frag}{mg:Str->Option Value}{base:Heap}{f:Addr}{fd:FuncData}
theorem Zs3 (mb:Mb mg) (F:Fun K "_law_pen" "_law_pen" s_law_pen f fd):FnOk P w K mg base CX0 1 f fd ["_law_script"] (spN K fPen):=by
 refine F.ok sc_law_pen (Zfi λds Post h=>by obtain⟨ns,rfl,_⟩:=h;rfl) (λcdv A outer s H vs Q E hr h=>?_);have hu:=Zbx hr;refine⟨_,(Zai (Zau (Zes (Zaa (Zc3 ["_law_cell"] (show CompSc (defScope s_law_pen) ["_law_script"] _ [] [] from ⟨rfl,by decide +kernel,by decide +kernel,by decide +kernel,rfl,by decide +kernel⟩) rfl (seqK K (Zca (slK K) (pv 0) Zc4 (Zda Zag))) (λ_ _ _ _ _=>(Zap (i:=0) (show List.Nodup (["_law_cell"]:List Str) from by decide) rfl (Or.inl rfl))) (λ_ _ _ _ _=>Zch) (λ_ _ _ _ _=>(pv 0))) (Zaa Zag (Zaa Zag Zad)))))),Zmm (λds Post hf=>?_) h⟩;obtain⟨ns,rfl,h1,q⟩:=hf;refine⟨by simp,?_⟩;dsimp only[cxOf,startD,Wbm,Wbs,Wba,Wad];refine Zfh (Zew (Zab (Zdm (by decide) (Zge ?_))))
 repeat walk_at "js"
 have e:cutD (ns.map D.int) none (some 63)=ns.map D.int:=by
  unfold cutD;have e1:HT.sIx (ns.map D.int).length 0 none=0:=rfl;have e2:HT.sIx (ns.map D.int).length (ns.map D.int).length (some 63)=ns.length:=by
   rw[Waa];show min (Int.toNat 63) ns.length=_;omega
  rw[e1,e2,List.drop_zero,Wdp,Wc2 (by simp)]
 rw[e];refine⟨_,Or.inl rfl,by rw[Waa];exact Wb3 h1 (by decide),λ_=>true,λd=>d,λi d hd=>?_,?_⟩
 ·repeat walk_at "js"
  exact⟨rfl,Zac rfl ⟨rfl,_,rfl⟩⟩
 ·repeat walk_at "js"
  refine⟨by show 3<=sizeLine;decide,_,rfl,q _ ⟨ns,0,0,?_,by decide,by decide,h1⟩⟩;simp
end
def encTie (t:Int × Int):D:=.tup [.int t.1,.int t.2]
def encWeb (n:Int) (ts:List (Int × Int)):D:=.tup [.int n,.tup (ts.map encTie)]
structure WebOk (n:Int) (ts:List (Int × Int)):Prop where
 lo:1<=n
 hi:n<=100
 len:ts.length<=24
 tie:∀t∈ts,0<=t.1/\t.1<n/\0<=t.2/\t.2<n
def fWeb:BSp:=λps ds Post=>Pen ps/\∃a b:Int,ds=[.int a,.int b]/\1<=a/\a<=25/\0<=b/\b<=24/\∀n ts ps',Pen ps' -> WebOk n ts->n<=a->(ts.length:Int)<=b->Post (encWeb n ts) ps'
section
variable {P:Program}{w:World}{K:W.Frag}{mg:Str->Option Value}{base:Heap}{f:Addr}{fd:FuncData}
theorem Ztr (mb:Mb mg) (C28:Callee P w K mg base 1 "_law_draw" ["_law_pen_here","_law_many"] (spB K fDraw)) (F:Fun K "_law_web" "_law_web" s_law_web f fd):FnOk P w K mg base CX0 2 f fd ["_law_pen_here","_law_places","_law_ties"] (spB K fWeb):=by
 refine F.ok sc_law_web (Zd2 λps ds Post h=>by obtain⟨_,a,b,rfl,_⟩:=h;rfl) (λcdv A outer s H vs Q E hr h=>?_);have hu:=Zbx hr;refine⟨_,(Zae (Zan (i:=3) sc_law_web.nd rfl (by first|exact Or.inl rfl|exact Or.inr rfl) (Zaq (addK K) Zag (Zay C28 (hr.mono (by first|decide|omega)) (Zaa (pv 0) (Zaa (pv 1) Zad))))) (Zae (Zan (i:=4) sc_law_web.nd rfl (by first|exact Or.inl rfl|exact Or.inr rfl) (Zay C28 (hr.mono (by first|decide|omega)) (Zaa (pv 0) (Zaa Zag Zad)))) (Zae (Zan (i:=5) sc_law_web.nd rfl (by first|exact Or.inl rfl|exact Or.inr rfl) (Zay C28 (hr.mono (by first|decide|omega)) (Zaa (pv 0) (Zaa (Zaq (addK K) (pv 2) Zag) Zad)))) (Zae (Zbw (Zaw Zb7 (pv 4) Zag (nomark _)) (Zae (Zan (i:=3) sc_law_web.nd rfl (by first|exact Or.inl rfl|exact Or.inr rfl) (pv 1)) (Zai (Zan (i:=5) sc_law_web.nd rfl (by first|exact Or.inl rfl|exact Or.inr rfl) (pv 2)))) Zav) (Zae (Zan (i:=6) sc_law_web.nd rfl (by first|exact Or.inl rfl|exact Or.inr rfl) (Zes Zad)) (Zae (Zde PassesOwn.never rfl (Zbj rfl (mb "range" (by decide)) (Zaa (pv 5) Zad)) (Zap (i:=7) sc_law_web.nd rfl (by first|exact Or.inl rfl|exact Or.inr rfl)) (Zae (Zjv (i:=8) (j:=9) rfl sc_law_web.nd rfl rfl (by decide) rfl rfl (Zaa (Zay C28 (hr.mono (by first|decide|omega)) (Zaa (pv 0) (Zaa (pv 3) Zad))) (Zaa (Zay C28 (hr.mono (by first|decide|omega)) (Zaa (pv 0) (Zaa (pv 3) Zad))) Zad)) rfl) (Zae (Zbw (Zaw Zb7 (pv 4) Zag (nomark _)) (Zai (Zjv (i:=8) (j:=9) rfl sc_law_web.nd rfl rfl (by decide) rfl rfl (Zaa (Zaq Zby (pv 7) (pv 3)) (Zaa (Zaq Zby (Zaq (addK K) (pv 7) Zag) (pv 3)) Zad)) rfl)) Zav) (Zae (Zbw (Zaw Zb7 (pv 4) Zag (nomark _)) (Zai (Zan (i:=8) sc_law_web.nd rfl (by first|exact Or.inl rfl|exact Or.inr rfl) Zag)) Zav) (Zae (Zbw (Zaw Zb7 (pv 4) Zag (nomark _)) (Zai (Zan (i:=9) sc_law_web.nd rfl (by first|exact Or.inl rfl|exact Or.inr rfl) (Zaq (addK K) (Zaq Zby (pv 8) Zag) (Zaq Zdf (Zaq Zd5 (pv 9) Zag) Zag)))) Zav) (Zae (Zbw (PW.pt (pw_and (Zaw Zb7 (pv 4) Zag (nomark _)) (pw_and1 (Zaw Zb7 (Zaq Zby (pv 9) Zag) Zag (nomark _))))) (Zai (Zan (i:=9) sc_law_web.nd rfl (by first|exact Or.inl rfl|exact Or.inr rfl) (pv 8))) Zav) (Zai (Zcr (bmK K PySem.F.plainAttrs_list PySem.F.slot_list_append PySem.F.type_list_append Zbv (pv 6) (Zaa (Zbn (Zaa (pv 8) (Zaa (Zah (Zht rfl) rfl (mb "min" (by decide)) Zh3 (Zaa (pv 9) (Zaa (Zaq Zme (pv 3) Zag) Zad))) Zad))) Zad)))))))))) (Zai (Zau (Zbn (Zaa (pv 3) (Zaa (Za0 (tupK K) rfl (mb "tuple" (by decide)) Za6 (Zaa (pv 6) Zad)) Zad))))))))))),Zi3 (λps ds Post hf=>?_) h⟩;obtain⟨hp,a,b,rfl,h1,h2,h3,h4,q⟩:=hf;refine⟨by simp,?_⟩;dsimp only[cxOf,startD,Wbm,Wbs,Wba,Wad]
 repeat walk_at "js"
 walk_at "draw";rename_i r0 ps0 hp0 hr0 hs0
 repeat walk_at "js"
 walk_at "draw";rename_i way ps1 hp1 hw0 hw1
 repeat walk_at "js"
 walk_at "draw";rename_i cnt ps2 hp2 hc0 hc1
 repeat walk_at "js"
 refine Zbf (λΔ=>∃n k:Int,1<=n/\n<=a/\0<=k/\k<=b /\ Δ = [.bor (.lst ps2),.val (.int a),.val (.int b),.val (.int n),.val (.int way),.val (.int k),.any,.any,.any,.any]) ?_ ?_
 ·repeat walk_at "js"
  refine ite2 (λc=>?_) (λc=>?_)
  ·repeat walk_at "js"
   exact⟨a,b,h1,by omega,h3,by omega,rfl⟩
  ·repeat walk_at "js"
   exact⟨1+r0,cnt,by omega,by omega,hc0,by omega,rfl⟩
 rintro Δ1 ⟨n,k,hn0,hn1,hk0,hk1,rfl⟩;refine Zak (Zbh (Zew (Zaf ⟨by decide,?_⟩)));refine Zbf (λΔ=>∃(ps:List D) (ts:List (Int × Int)) (x7 x8 x9:Slot),Pen ps/\WebOk n ts/\(ts.length:Int)=k /\ Δ = [.bor (.lst ps),.val (.int a),.val (.int b),.val (.int n),.val (.int way),.val (.int k),.own (.lst (ts.map encTie)),x7,x8,x9]) ?_ ?_
 ·refine Zdb (Zbi ?_)
  repeat walk_at "js"
  refine⟨by omega,by omega,λi Δ=>∃(ps:List D) (ts:List (Int × Int)) (x7 x8 x9:Slot),Pen ps/\ts.length=i/\(∀t∈ts,0<=t.1/\t.1<n/\0<=t.2/\t.2<n) /\ Δ = [.bor (.lst ps),.val (.int a),.val (.int b),.val (.int n),.val (.int way),.val (.int k),.own (.lst (ts.map encTie)),x7,x8,x9],⟨ps2,[],.any,.any,.any,hp2,rfl,λ_ h=>(nomatch h),rfl⟩,?_,?_⟩
  ·rintro i d Δ2 hd ⟨ps,ts,x7,x8,x9,hp',hl,ht,rfl⟩
   obtain⟨hi,rfl⟩:=Zb9 hd
   repeat walk_at "js"
   walk_at "draw";rename_i x px hpx hx0 hx1
   repeat walk_at "js"
   walk_at "draw";rename_i y py hpy hy0 hy1
   refine Zaf ⟨_,_,rfl,?_⟩;refine Zbf (λΔ=>∃u v:Int,0<=u/\u<n/\0<=v/\v<n /\ Δ = [.bor (.lst py),.val (.int a),.val (.int b),.val (.int n),.val (.int way),.val (.int k),.own (.lst (ts.map encTie)),.val (.int (0+(i:Int))),.val (.int u),.val (.int v)]) ?_ ?_
   ·repeat walk_at "js"
    refine ite2 (λc=>?_) (λc=>?_)
    ·repeat walk_at "js"
     refine⟨_,_,rfl,_,_,Wc1 _ (by omega),Wco _ (by omega),Wc1 _ (by omega),Wco _ (by omega),rfl⟩
    ·repeat walk_at "js"
     exact⟨x,y,hx0,hx1,hy0,hy1,rfl⟩
   rintro Δ3 ⟨u,v,hu0,hu1,hv0,hv1,rfl⟩;refine Zbf (λΔ=>∃u v:Int,0<=u/\u<n/\0<=v/\v<n /\ Δ = [.bor (.lst py),.val (.int a),.val (.int b),.val (.int n),.val (.int way),.val (.int k),.own (.lst (ts.map encTie)),.val (.int (0+(i:Int))),.val (.int u),.val (.int v)]) ?_ ?_
   ·repeat walk_at "js"
    refine ite2 (λc=>?_) (λc=>?_)
    ·repeat walk_at "js"
     exact⟨0,v,by omega,by omega,hv0,hv1,rfl⟩
    ·repeat walk_at "js"
     exact⟨u,v,hu0,hu1,hv0,hv1,rfl⟩
   rintro Δ3 ⟨u,v,hu0,hu1,hv0,hv1,rfl⟩;refine Zbf (λΔ=>∃u v:Int,0<=u/\u<n/\0<=v /\ Δ = [.bor (.lst py),.val (.int a),.val (.int b),.val (.int n),.val (.int way),.val (.int k),.own (.lst (ts.map encTie)),.val (.int (0+(i:Int))),.val (.int u),.val (.int v)]) ?_ ?_
   ·repeat walk_at "js"
    refine ite2 (λc=>?_) (λc=>?_)
    ·repeat walk_at "js"
     exact⟨u,_,hu0,hu1,by omega,rfl⟩
    ·repeat walk_at "js"
     exact⟨u,v,hu0,hu1,hv0,rfl⟩
   rintro Δ3 ⟨u,v,hu0,hu1,hv0,rfl⟩;refine Zbf (λΔ=>∃u v:Int,0<=u/\u<n/\0<=v /\ Δ = [.bor (.lst py),.val (.int a),.val (.int b),.val (.int n),.val (.int way),.val (.int k),.own (.lst (ts.map encTie)),.val (.int (0+(i:Int))),.val (.int u),.val (.int v)]) ?_ ?_
   ·repeat walk_at "js"
    refine ite2 (λc=>?_) (λc=>?_)
    ·repeat walk_at "js"
     refine ite2 (λc=>?_) (λc=>?_)
     ·repeat walk_at "js"
      exact⟨u,u,hu0,hu1,hu0,rfl⟩
     ·repeat walk_at "js"
      exact⟨u,v,hu0,hu1,hv0,rfl⟩
    ·repeat walk_at "js"
     exact⟨u,v,hu0,hu1,hv0,rfl⟩
   rintro Δ3 ⟨u,v,hu0,hu1,hv0,rfl⟩;refine Zfu rfl rfl ?_
   repeat walk_at "js"
   refine⟨by show 2<=sizeLine;decide,_,_,rfl,rfl,?_,py,ts++[(u,if n-1<v then n-1 else v)],.val (.int (0+(i:Int))),.val (.int u),.val (.int v),hpy,by rw[Wai,hl];rfl,λt h=>?_,?_⟩
   ·rw[Waa];exact small1000 (by omega)
   ·rcases Wbo.mp h with h|h
    ·exact ht t h
    ·rw[Wbl.mp h]
     refine⟨hu0,hu1,?_,?_⟩
     ·show 0<=(if n-1<v then n-1 else v);split <;> omega
     ·show (if n-1<v then n-1 else v)<n;split <;> omega
   ·rw[Wax];rfl
  ·rintro Δ2 ⟨ps,ts,x7,x8,x9,hp',hl,ht,rfl⟩
   rw[Zba]at hl;exact⟨ps,ts,x7,x8,x9,hp',⟨hn0,by omega,by omega,ht⟩,by omega,rfl⟩
 rintro Δ1 ⟨ps3,ts,x7,x8,x9,hp3,hW,hl,rfl⟩;refine Za3 (Zbr (Zab (Zac rfl (Zab (Zat (Zab (Zcg rfl (Zaf (Zb8 (Or.inl rfl) (Zaf ⟨by show 2<=sizeLine;decide,?_⟩))))))))));exact⟨_,rfl,q n ts _ hp3 hW hn1 (by omega)⟩
end
def placeAt (ts:List (Int × Int)) (e:Nat):Int:=match ts[e / 2]? with
 |some t=>if e % 2=0 then t.1 else t.2
 |none=>-1
def encRow (r:List Int):D:=.tup (r.map .int)
def encOrd (o:List (List Int)):D:=.tup (o.map encRow)
def endsBelow (ts:List (Int × Int)) (m:Nat) (p:Int):List Int:=((Wa1 m).filter λe=>decide (placeAt ts e=p)).map λe:Nat=>(e:Int)
structure RowOk (ts:List (Int × Int)) (m:Nat) (p:Int) (r:List Int):Prop where
 perm:r.Perm (endsBelow ts m p)
 first:r.head?=(endsBelow ts m p).head?
structure OrdOk (n:Int) (ts:List (Int × Int)) (o:List (List Int)):Prop where
 len:(o.length:Int)=n
 row:∀(p:Nat) r,o[p]?=some r->RowOk ts (2*ts.length) (p:Int) r
theorem Zdw (ts:List (Int × Int)) (k:Nat) (p:Int):endsBelow ts (k+1) p=endsBelow ts k p++(if placeAt ts k=p then [(k:Int)] else []):=by
 unfold endsBelow;rw[List.range_succ,Wbx,Wax];congr 1;by_cases h:placeAt ts k=p
 ·simp[Wbv,h]
 ·simp[Wbv,h]
theorem Zhj (ts:List (Int × Int)) (m:Nat) (p:Int):(endsBelow ts m p).length<=m:=by
 unfold endsBelow;rw[Waa];exact Wbq (Wc8 _ _) (by rw[Wbb];exact Wah _)
theorem RowOk.len {ts:List (Int × Int)}{m:Nat}{p:Int}{r:List Int}(h:RowOk ts m p r):r.length<=m:=by rw[h.perm.length_eq];exact Zhj ts m p
theorem RowOk.stay {ts:List (Int × Int)}{k:Nat}{p:Int}{r:List Int}(h:RowOk ts k p r) (hp:placeAt ts k≠p):RowOk ts (k+1) p r:=by
 have e:=Zdw ts k p;rw[if_neg hp,Wa3]at e;exact⟨by rw[e];exact h.perm,by rw[e];exact h.first⟩
theorem RowOk.put {ts:List (Int × Int)}{k j:Nat}{p:Int}{r:List Int}(h:RowOk ts k p r) (hp:placeAt ts k=p) (hj:j<=r.length) (h1:r≠[]->1<=j):RowOk ts (k+1) p (r.take j++(k:Int)::r.drop j):=by
 have e:=Zdw ts k p;rw[if_pos hp]at e;refine⟨?_,?_⟩
 ·rw[e]
  refine List.perm_middle.trans ?_;rw[Wbt];exact(List.Perm.cons _ h.perm).trans (List.perm_append_singleton _ _).symm
 ·rw[e]
  cases r with
  |nil=>
   have z:endsBelow ts k p=[]:=List.Perm.eq_nil h.perm.symm;rw[z];have:j=0:=by simpa using hj
   subst this;rfl
  |cons x r'=>
   have h2:=h1 (by simp);obtain⟨j',rfl⟩:∃j',j=j'+1:=⟨j-1,by omega⟩;have h3:=h.first;show some x=_;cases q:endsBelow ts k p with
   |nil=>rw[q]at h3;cases h3
   |cons y l=>rw[q]at h3;exact h3
theorem Zpn {ts:List (Int × Int)}{k:Nat}(h:k<2*ts.length):∃t,ts[k / 2]?=some t/\atI (ts.map encTie) ((0+(k:Int)) / 2)=some (encTie t)/\atI [D.int t.1,D.int t.2] ((0+(k:Int)) % 2)=some (.int (placeAt ts k)):=by
 have hk:k / 2<ts.length:=by omega
 refine⟨ts[k / 2],Wab hk,?_,?_⟩
 ·have e:(0+(k:Int)) / 2=((k / 2:Nat):Int):=by omega
  rw[e];exact Zc6 (by rw[Wag,Wab hk];rfl)
 ·have e2:placeAt ts k=if k % 2=0 then ts[k / 2].1 else ts[k / 2].2:=by
   unfold placeAt;rw[Wab hk]
  rw[e2];have e:(0+(k:Int)) % 2=((k % 2:Nat):Int):=by omega
  rw[e];by_cases h0:k % 2=0
  ·rw[if_pos h0,h0];exact Zc6 rfl
  ·have h1:k % 2=1:=by omega
   rw[if_neg h0,h1];exact Zc6 rfl
theorem Zem {n:Int}{ts:List (Int × Int)}(hW:WebOk n ts) {k:Nat}(h:k<2*ts.length):0<=placeAt ts k/\placeAt ts k<n:=by
 have hk:k / 2<ts.length:=by omega
 have:=hW.tie _ (Wb6 hk);unfold placeAt;rw[Wab hk];dsimp only;split <;> omega
def fOrder:BSp:=λps ds Post=>Pen ps/\∃n ts,ds=[encWeb n ts]/\WebOk n ts/\n<=25/\∀o ps',Pen ps' -> OrdOk n ts o->Post (encOrd o) ps'
section
variable {P:Program}{w:World}{K:W.Frag}{mg:Str->Option Value}{base:Heap}{f:Addr}{fd:FuncData}
theorem Zpd (mb:Mb mg) (C28:Callee P w K mg base 1 "_law_draw" ["_law_pen_here","_law_many"] (spB K fDraw)) (F:Fun K "_law_order" "_law_order" s_law_order f fd):FnOk P w K mg base CX0 2 f fd ["_law_pen_here","_law_web_here"] (spB K fOrder):=by
 refine F.ok sc_law_order (Zd2 λps ds Post h=>by obtain⟨_,n,ts,rfl,_⟩:=h;rfl) (λcdv A outer s H vs Q E hr h=>?_);have hu:=Zbx hr;refine⟨_,(Zae (Zov 5 (show ∀x∈(["_law_pen_here","_law_web_here","_law_rows","_law_k","_law_row","!0","!1","!2","!3","!4","!5","!6","!7","!8","!9","!10","!11","!12","!13","!14","!15","!16","!17","!18","!19","!20","!21","!22","!23","!24"]:List Str).drop 5,(defScope s_law_order).names.lookup x=none from by decide +kernel) (Zdq (i:=2) ["_law_place"] (show CompSc (defScope s_law_order) ["_law_pen_here","_law_web_here","_law_rows","_law_k","_law_row","!0","!1","!2","!3","!4","!5","!6","!7","!8","!9","!10","!11","!12","!13","!14","!15","!16","!17","!18","!19","!20","!21","!22","!23","!24"] _ [] [] from ⟨rfl,by decide +kernel,by decide +kernel,by decide +kernel,rfl,by decide +kernel⟩) rfl sc_law_order.nd rfl (by first|exact Or.inl rfl|exact Or.inr rfl) (Zbj rfl (mb "range" (by decide)) (Zaa (Zbo (ixK K hu) (pv 1) Zag (λ_ _=>rfl)) Zad)) (λ_ _ _ _ _=>(Zap (i:=0) (show List.Nodup (["_law_place"]:List Str) from by decide) rfl (Or.inl rfl))) (λ_ _ _ _ _=>Zch) (λ_ _ _ _ _=>(Zes Zad)))) (Zae (Zde PassesOwn.never rfl (Zbj rfl (mb "range" (by decide)) (Zaa (Zaq Zdf Zag (Zah (lenK K) rfl (mb "len" (by decide)) Za9 (Zaa (Zbo (ixK K hu) (pv 1) Zag (λ_ _=>rfl)) Zad))) Zad)) (Zap (i:=3) sc_law_order.nd rfl (by first|exact Or.inl rfl|exact Or.inr rfl)) (Zae (Zan (i:=4) sc_law_order.nd rfl (by first|exact Or.inl rfl|exact Or.inr rfl) (Zbo (ixK K hu) (pv 2) (Zbo (ixK K hu) (Zbo (ixK K hu) (Zbo (ixK K hu) (pv 1) Zag (λ_ _=>rfl)) (Zaq Zd5 (pv 3) Zag) (λ_ _=>rfl)) (Zaq Zby (pv 3) Zag) (λ_ _=>rfl)) (λ_ _=>rfl))) (Zai (Zcr (bmK K PySem.F.plainAttrs_list PySem.F.slot_list_insert PySem.F.type_list_insert Zic (pv 4) (Zaa (Zah (Zht rfl) rfl (mb "min" (by decide)) Zh3 (Zaa (Zah (lenK K) rfl (mb "len" (by decide)) Za9 (Zaa (pv 4) Zad)) (Zaa (Zaq (addK K) Zag (Zay C28 (hr.mono (by first|decide|omega)) (Zaa (pv 0) (Zaa (Zah (Zie rfl) rfl (mb "max" (by decide)) Zpu (Zaa Zag (Zaa (Zah (lenK K) rfl (mb "len" (by decide)) Za9 (Zaa (pv 4) Zad)) Zad))) Zad)))) Zad))) (Zaa (pv 3) Zad))))))) (Zai (Zau (Za0 (tupK K) rfl (mb "tuple" (by decide)) Za6 (Zaa (Zc3 ["_law_row"] (show CompSc (defScope s_law_order) ["_law_pen_here","_law_web_here","_law_rows","_law_k","_law_row","!0","!1","!2","!3","!4","!5","!6","!7","!8","!9","!10","!11","!12","!13","!14","!15","!16","!17","!18","!19","!20","!21","!22","!23","!24"] _ [] [] from ⟨rfl,by decide +kernel,by decide +kernel,by decide +kernel,rfl,by decide +kernel⟩) rfl (seqK K (pv 2)) (λ_ _ _ _ _=>(Zap (i:=0) (show List.Nodup (["_law_row"]:List Str) from by decide) rfl (Or.inl rfl))) (λ_ _ _ _ _=>Zch) (λ_ _ _ _ _=>(Za0 (tupK K) rfl (mb "tuple" (by decide)) Za6 (Zaa (pv 0) Zad)))) Zad)))))),Zi3 (λps ds Post hf=>?_) h⟩;obtain⟨hp,n,ts,rfl,hW,hn25,q⟩:=hf;refine⟨by simp,?_⟩;dsimp only[cxOf,startD,Wbm,Wbs,Wba];have hn:=hW.lo;have hn2:=hW.hi;have hts:=hW.len
 -- the rows
 refine Zak (Zqo (Zo6 (by decide) (Zbi ?_)));refine Zab (Zas (Zac rfl (Zao (Zbz (d:=.int n) rfl (Zaf ⟨n,rfl,by omega,by omega,?_⟩)))));refine⟨by rw[Zba];exact small1000 (by omega),λ_=>true,λ_=>.lst [],λi d hd=>?_,by decide,?_,λas hal hnd=>?_⟩
 ·exact Zb5 ⟨rfl,Zew (Zaf ⟨by decide,rfl,_,rfl⟩)⟩
 ·rw[Waa]
  have e:((rngD 0 n.toNat).filter λ_=>true).length<=25:=Wbq (Wc8 _ _) (by rw[Zba];omega);show 5+_<=30;omega
 have eR:(rngD 0 n.toNat).filter (λ_=>true)=rngD 0 n.toNat:=by simp
 rw[eR,Waa,Zba]at hal;rw[eR];have eO:(rngD 0 n.toNat).map (λ_=>OD.lst [])=Wad n.toNat (OD.lst []):=by
  rw[Wdb,Zba]
 rw[eO];generalize hcs:as.map (λa=>((a,[]):Addr × List Int))=cs;have hcl:cs.length=n.toNat:=by rw[<- hcs,Waa,hal]
 have e1:as.map D.adr=cs.map λc=>D.adr c.1:=by rw[<- hcs,Wa2];rfl
 have e2:as.zip (Wad n.toNat (OD.lst []))=cs.map λc=>(c.1,OD.lst (c.2.map D.int)):=by
  rw[<- hcs,Wa2,<- hal];clear e1 hcl hcs hal hnd
  induction as with
  |nil=>rfl
  |cons a r ih=>rw[Wap,Wcv,Wcf,ih];rfl
 have e3:=Znc (cs.map λc=>(c.1,OD.lst (c.2.map D.int))) [.bor (.lst ps),.val (encWeb n ts),.val (.lst (cs.map λc=>D.adr c.1)),.any,.any] [] 25 (by rw[Waa];omega);rw[Wa3,Wa3,Wa2,Waa,hcl]at e3;rw[e1,e2];refine(show JS K _ (L2.putN 5 (cs.map λc=>(c.1,OD.lst (c.2.map D.int))) ([.bor (.lst ps),.val (encWeb n ts),.val (.lst (cs.map λc=>D.adr c.1)),.any,.any]++Wad 25 .any)) _ from ?_);rw[show L2.putN 5 (cs.map λc=>(c.1,OD.lst (c.2.map D.int))) ([.bor (.lst ps),.val (encWeb n ts),.val (.lst (cs.map λc=>D.adr c.1)),.any,.any]++Wad 25 .any)=_ from e3]
 -- the loop
 refine Zbf (λΔ=>∃(ps:List D) (cs:List (Addr × List Int)) (x3 x4:L2.Slot),Pen ps/\cs.length=n.toNat/\(∀(p:Nat) c,cs[p]?=some c->RowOk ts (2*ts.length) (p:Int) c.2) ∧
  Δ = .bor (.lst ps)::.val (encWeb n ts)::.val (.lst (cs.map λc=>D.adr c.1))::x3::x4::(cs.map (λc=>L2.Slot.ownA c.1 (.lst (c.2.map D.int)))++Wad (25-n.toNat) .any)) ?_ ?_
 ·refine Zdb (Zbi ?_)
  repeat walk_at "js"
  rw[Waa];refine⟨by omega,by omega,?_⟩;have eL:((2:Int)*(ts.length:Int)).toNat=2*ts.length:=by omega
  rw[eL];refine⟨λk Δ=>∃(ps:List D) (cs:List (Addr × List Int)) (x3 x4:L2.Slot),Pen ps/\cs.length=n.toNat/\(∀(p:Nat) c,cs[p]?=some c->RowOk ts k (p:Int) c.2) ∧
   Δ = .bor (.lst ps)::.val (encWeb n ts)::.val (.lst (cs.map λc=>D.adr c.1))::x3::x4::(cs.map (λc=>L2.Slot.ownA c.1 (.lst (c.2.map D.int)))++Wad (25-n.toNat) .any),⟨ps,cs,.any,.any,hp,hcl,λp c hc=>?_,rfl⟩,?_,?_⟩
  ·rw[<- hcs,Wag]at hc
   cases q:as[p]? with
   |none=>rw[q]at hc;cases hc
   |some a=>rw[q]at hc;cases hc;exact⟨List.Perm.refl _,rfl⟩
  ·rintro k d Δ2 hd ⟨ps,cs,x3,x4,hp,hcl,hrow,rfl⟩
   obtain⟨hk,rfl⟩:=Zb9 hd;obtain⟨t,ht1,ht2,ht3⟩:=Zpn hk;obtain⟨pl0,pl1⟩:=Zem hW hk;obtain⟨c,hc1,hc2⟩:=Zmi (f:=λc:Addr × List Int=>D.adr c.1) (xs:=cs) (i:=placeAt ts k) pl0 (by omega);have hR:=hrow _ c hc1;have hRl:=hR.len;have ep:((placeAt ts k).toNat:Int)=placeAt ts k:=by omega
   have hsl:∀(ps:List D) (x3 x4:L2.Slot),(.bor (.lst ps)::.val (encWeb n ts)::.val (.lst (cs.map λc=>D.adr c.1))::x3::x4::(cs.map (λc=>L2.Slot.ownA c.1 (.lst (c.2.map D.int)))++Wad (25-n.toNat) .any):Evt)[(placeAt ts k).toNat+5]?=some (.ownA c.1 (.lst (c.2.map D.int))):=λps x3 x4=>by
    show (cs.map (λc=>L2.Slot.ownA c.1 (.lst (c.2.map D.int)))++Wad (25-n.toNat) .any)[(placeAt ts k).toNat]?=_;rw[Wa8 (by rw[Waa];omega),Wag,hc1];rfl
   refine Zbm ?_;refine Zak (Zax ?_);refine Zas (Zac rfl ?_);refine Zas ?_;refine Zas ?_;refine Zas (Zac rfl (Zao (Zbz (d:=.tup (ts.map encTie)) rfl ?_)));refine Zas (Zac rfl (Zao (jr_I ⟨by omega,by omega⟩ (Zbz ht2 ?_))));refine Zas (Zac rfl (Zao (jr_I (by show (0:Int)<2;omega) (Zbz ht3 (Zfs hc2 ?_)))));refine Zr3 (a:=c.1) rfl (hsl _ _ _) ?_;refine Zat ?_;refine Zab (Zmf rfl (hsl _ _ _) ?_);refine Zab (Zas (Zao ?_));refine Za4 rfl rfl ?_;refine Zab (Zat ?_);refine Zab (Zao ?_);refine Zab (Zmf rfl (hsl _ _ _) ?_);refine Zaf (Zji (Zaf ?_));rw[Waa];refine⟨_,_,rfl,rfl,hp,_,rfl,by split <;> omega,by split <;> omega,λr ps' hp' hr0 hr1=>?_⟩
   refine Zcq (Zaf (Zji (Zac rfl ?_)));have hlen:(c.2.map D.int).length=c.2.length:=Waa _;refine⟨_,_,_,rfl,hsl _ _ _,by rw[hlen];exact small1000 (by omega),by split <;> omega,by split <;> omega,?_⟩
   rw[hlen];generalize hi:insI c.2.length (if 1+r<(c.2.length:Int) then 1+r else (c.2.length:Int))=j;have hj:j<=c.2.length/\(c.2≠[]->1<=j):=by
    rw[<- hi];unfold insI;have hpos:c.2≠[]->0<c.2.length:=λh=>Wdt.mpr h;refine⟨?_,λh=>?_⟩
    ·split <;> split <;> omega
    ·have:=hpos h
     split <;> split <;> omega
   refine⟨ps',cs.set (placeAt ts k).toNat (c.1,c.2.take j++(k:Int)::c.2.drop j),.val (.int (0+(k:Int))),.val (.adr c.1),hp',by rw[Wcx];exact hcl,λp c' hc'=>?_,?_⟩
   ·by_cases hpp:p=(placeAt ts k).toNat
    ·subst hpp
     rw[Waq (by omega)]at hc';cases hc';exact hR.put (by omega) hj.1 hj.2
    ·rw[Was (Ne.symm hpp)]at hc'
     exact(hrow p c' hc').stay (by omega)
   ·have ea:(cs.set (placeAt ts k).toNat (c.1,c.2.take j++(k:Int)::c.2.drop j)).map (λc=>D.adr c.1)=cs.map λc=>D.adr c.1:=by
     rw[List.map_set];apply Wb9;intro i;by_cases hii:i=(placeAt ts k).toNat
     ·subst hii
      rw[Waq (by rw[Waa];omega),Wag,hc1];rfl
     ·rw[Was (Ne.symm hii)]
    rw[ea,List.map_set];have eb:∀(v:L2.Slot),(cs.map (λc=>L2.Slot.ownA c.1 (.lst (c.2.map D.int)))++Wad (25-n.toNat) L2.Slot.any).set (placeAt ts k).toNat v=(cs.map (λc=>L2.Slot.ownA c.1 (.lst (c.2.map D.int)))).set (placeAt ts k).toNat v++Wad (25-n.toNat) L2.Slot.any:=λv=>
     List.set_append_left _ _ (by rw[Waa];omega)
    rw[<- eb];rw[Wax,Wdk,Wa4,Wdl,Wcr];rfl
  ·rintro Δ2 ⟨ps,cs,x3,x4,hp,hcl,hrow,rfl⟩
   rw[Zba]at hrow;exact⟨ps,cs,x3,x4,hp,hcl,hrow,rfl⟩
 -- the end
 rintro Δ1 ⟨ps3,cs3,x3,x4,hp3,hcl3,hrow3,rfl⟩;refine JS.conv (Δ':=.bor (.lst ps3)::.val (encWeb n ts)::.val (.lst (cs3.map λc=>D.lst (c.2.map D.int)))::x3::x4::(Wad cs3.length .any++Wad (25-n.toNat) .any)) (λg G H σ k=>?_) ?_
 ·have:=Ok.thaw (cs:=cs3.map λc=>(c.1,c.2.map D.int)) (R:=[.bor (.lst ps3),.val (encWeb n ts),.val (.lst (cs3.map λc=>D.adr c.1)),x3,x4]) (T:=Wad (25-n.toNat) .any) (i:=2) (g:=g) (G:=G) (H:=H) (σ:=σ) (K:=K) (by rw[Wa2];exact k) (by rw[Wa2];rfl)
  rw[Wa2,Waa]at this;exact this
 refine Za3 (Zat (Zab (Zdm (by decide) (Zge (Zac rfl ⟨_,Or.inl rfl,?_,λ_=>true,λd=>match d with|.lst ds=>.tup ds|d=>d,λi d hd=>?_,?_⟩)))))
 ·rw[Waa];exact small1000 (by omega)
 ·rw[Wag]at hd
  cases q:cs3[i]? with
  |none=>rw[q]at hd;cases hd
  |some c=>
   rw[q]at hd;have hd:D.lst (c.2.map D.int)=d:=by simpa using hd
   subst hd;exact Zb5 ⟨rfl,Zat (Zab (Zac rfl (Zaf (Zb8 (Or.inl rfl) ⟨rfl,_,rfl⟩))))⟩
 ·refine Zaf (Zb8 (Or.inl rfl) ⟨ps3,rfl,?_⟩)
  have e:((cs3.map λc=>D.lst (c.2.map D.int)).filter λ_=>true).map (λd=>match d with|.lst ds=>D.tup ds|d=>d)=(cs3.map (·.2)).map encRow:=by
   rw[Wbf.mpr (by simp),Wa2,Wa2];rfl
  rw[e];exact q _ _ hp3 ⟨by rw[Waa];omega,λp r hr=>by
   rw[Wag]at hr;cases z:cs3[p]? with
   |none=>rw[z]at hr;cases hr
   |some c=>rw[z]at hr;cases hr;exact hrow3 p c z⟩
end
def nextIn (r:List Int) (x:Int):Int:=r.getD ((r.idxOf x+1) % r.length) 0
def rowAt (ts:List (Int × Int)) (o:List (List Int)) (e:Nat):List Int:=o.getD (placeAt ts e).toNat []
def partner (e:Nat):Nat:=if e % 2=0 then e+1 else e-1
theorem Za8 {e m:Nat}(h:e<2*m):partner e<2*m:=by unfold partner;split <;> omega
theorem Zc0 {ts:List (Int × Int)}{m:Nat}{p x:Int}:x∈endsBelow ts m p ↔ ∃e:Nat,e<m/\placeAt ts e=p/\(e:Int)=x:=by
 unfold endsBelow;rw[Wau];constructor
 ·rintro⟨e,he,rfl⟩
  rw[Wa5,Wat]at he;exact⟨e,he.1,of_decide_eq_true he.2,rfl⟩
 ·rintro⟨e,h1,h2,rfl⟩
  exact⟨e,by rw[Wa5,Wat];exact⟨h1,decide_eq_true h2⟩,rfl⟩
theorem Zdi (ts:List (Int × Int)) (m:Nat) (p:Int):(endsBelow ts m p).Nodup:=by
 unfold endsBelow;refine List.Pairwise.map _ (λa b h=>?_) (List.Pairwise.filter _ Wdn);intro e;exact h (by omega)
theorem RowOk.nodup {ts:List (Int × Int)}{m:Nat}{p:Int}{r:List Int}(h:RowOk ts m p r):r.Nodup:=h.perm.nodup_iff.mpr (Zdi ts m p)
theorem RowOk.mem {ts:List (Int × Int)}{m:Nat}{p x:Int}{r:List Int}(h:RowOk ts m p r):x∈r ↔ ∃e:Nat,e<m/\placeAt ts e=p/\(e:Int)=x:=h.perm.mem_iff.trans Zc0
theorem Zb4 {n:Int}{ts:List (Int × Int)}{o:List (List Int)}(hW:WebOk n ts) (hO:OrdOk n ts o) {e:Nat}(he:e<2*ts.length) :
  o[(placeAt ts e).toNat]?=some (rowAt ts o e)/\RowOk ts (2*ts.length) (placeAt ts e) (rowAt ts o e)/\(e:Int)∈rowAt ts o e:=by
 obtain⟨p0,p1⟩:=Zem hW he;have hl:=hO.len;have hk:(placeAt ts e).toNat<o.length:=by omega
 have q:o[(placeAt ts e).toNat]?=some (rowAt ts o e):=by
  unfold rowAt;rw[Wab hk,Waf,Wab hk];rfl
 have r:=hO.row _ _ q;rw[show ((placeAt ts e).toNat:Int)=placeAt ts e by omega]at r;exact⟨q,r,r.mem.mpr ⟨e,he,rfl,rfl⟩⟩
theorem OrdOk.flat {n:Int}{ts:List (Int × Int)}{o:List (List Int)}(h:OrdOk n ts o):o.flatten.Nodup:=by
 unfold List.Nodup;rw[List.pairwise_flatten];refine⟨λr hr=>?_,?_⟩
 ·obtain⟨p,hp,e⟩:=Wci.mp hr
  exact(h.row p r (by rw[Wab hp,e])).nodup
 ·rw[Wbj]
  intro i j hi hj hij x hx y hy hxy;subst hxy;obtain⟨e,_,e1,e2⟩:=(h.row i _ (Wab hi)).mem.mp hx;obtain⟨f,_,f1,f2⟩:=(h.row j _ (Wab hj)).mem.mp hy;have:e=f:=by omega
  subst this;omega
theorem Zcm {r:List Int}{x:Int}(h:x∈r):r.idxOf x<r.length/\r[r.idxOf x]?=some x/\∀m,m<r.idxOf x->r[m]?≠some x:=by
 have hl:=List.idxOf_lt_length_of_mem h;refine⟨hl,?_,λm hm e=>?_⟩
 ·rw[Wab hl,List.getElem_idxOf hl]
 ·obtain⟨h1,h2⟩:=Wae.mp e
  have:=List.not_of_lt_findIdx (p:=(· == x)) (xs:=r) hm;rw[h2]at this;simp at this
def encPair (y:Int × Int):Key × D:=(.inl y.1,.int y.2)
theorem Zk8 {l:List (Int × Int)}{x y:Int}(h:x ∉ l.map (·.1)):putD (l.map encPair) (.inl x) (.int y)=(l++[(x,y)]).map encPair:=by
 unfold putD;rw[if_neg,Wax]
 ·rfl
 ·rw[List.any_map,List.any_eq_true]
  rintro⟨z,hz,e⟩;have e:(Sum.inl z.1:Key)=Sum.inl x:=of_decide_eq_true e;injection e with e
  exact h (Wau.mpr ⟨z,hz,e⟩)
theorem Zps {l:List (Int × Int)}(nd:(l.map (·.1)).Nodup) {x y:Int}(h:(x,y)∈l):valD (l.map encPair) (.inl x)=some (.int y):=by
 induction l with
 |nil=>cases h
 |cons z r ih=>
  rw[Wa4,Wcb]at nd;rw[Wa4];unfold valD;rcases Wan.mp h with e|h
  ·subst e
   rw[Wc3 (by simp[encPair])];rfl
  ·have hne:z.1≠x:=λe=>nd.1 (by rw[e];exact Wau.mpr ⟨_,h,rfl⟩)
   rw[Wcc (by simp[encPair];exact λe=>hne e)];exact ih nd.2 h
theorem Ztm (k:Nat):k ||| 1=2*(k / 2)+1:=by
 apply Nat.eq_of_testBit_eq;intro i;rw[Nat.testBit_or];cases i with
 |zero=>rw[Nat.testBit_zero,Nat.testBit_zero,Nat.testBit_zero];simp
 |succ i=>
  rw[Nat.testBit_succ,Nat.testBit_succ,Nat.testBit_succ,show (2*(k / 2)+1) / 2=k / 2 by omega];simp
theorem Zp5 (k:Nat):Builtin.bitXor (k:Int) 1=(partner k:Int):=by
 have e1:Builtin.bitAnd (k:Int) 1=((k % 2:Nat):Int):=by
  unfold Builtin.bitAnd;rw[decide_eq_true (show (0:Int)<=(k:Int) by omega),decide_eq_true (show (0:Int)<=1 by decide)];show ((((k:Int).toNat &&& (1:Int).toNat:Nat)):Int)=_;rw[Wa7,show (1:Int).toNat=1 from rfl,Nat.and_one_is_mod]
 have e2:Builtin.bitOr (k:Int) 1=((2*(k / 2)+1:Nat):Int):=by
  unfold Builtin.bitOr Builtin.bitAnd;rw[decide_eq_false (show ¬ (0:Int)<=Builtin.bitNot (k:Int) by unfold Builtin.bitNot;omega),decide_eq_false (show ¬ (0:Int)<=Builtin.bitNot 1 by decide)];show Builtin.bitNot (Builtin.bitNot (((Builtin.bitNot (Builtin.bitNot (k:Int))).toNat ||| (Builtin.bitNot (Builtin.bitNot 1)).toNat:Nat):Int))=_;have n1:∀x:Int,Builtin.bitNot (Builtin.bitNot x)=x:=λx=>by unfold Builtin.bitNot;omega
  rw[n1,n1,n1,Wa7,show (1:Int).toNat=1 from rfl,Ztm]
 unfold Builtin.bitXor;rw[e1,e2];unfold partner;split <;> omega
theorem Zdk {α:Type}[DecidableEq α]:∀{l m:List α},l.Nodup->(∀x∈l,x∈m)->l.length<=m.length
 |[],_,_,_=>Wbw _
 |x::l,m,nd,h=>by
  rw[Wcb]at nd;have hx:=h x Waw;have:=Zdk (l:=l) (m:=m.erase x) nd.2 λy hy=>by
   have hne:y≠x:=λe=>nd.1 (e ▸ hy);exact(List.mem_erase_of_ne hne).mpr (h y (Wav _ hy))
  rw[List.length_erase_of_mem hx]at this;have hpos:0<m.length:=List.length_pos_of_mem hx;rw[Wap];omega
theorem OrdOk.flat_len {n:Int}{ts:List (Int × Int)}{o:List (List Int)}(h:OrdOk n ts o):o.flatten.length<=2*ts.length:=by
 have:=Zdk (m:=(Wa1 (2*ts.length)).map λe:Nat=>(e:Int)) h.flat λx hx=>by
  obtain⟨r,hr,hx⟩:=Wb4.mp hx;obtain⟨p,hp,e⟩:=Wci.mp hr;obtain⟨k,hk,_,rfl⟩:=(h.row p r (by rw[Wab hp,e])).mem.mp hx;exact Wau.mpr ⟨k,Wat.mpr hk,rfl⟩
 rw[Waa,Wbb]at this;exact this
theorem Zer (ts:List (Int × Int)) (m:Nat) (p:Int):(endsBelow ts m p).Pairwise (· < ·):=by
 unfold endsBelow;refine List.Pairwise.map _ (λa b h=>?_) (List.Pairwise.filter _ Wcn);omega
theorem RowOk.least {ts:List (Int × Int)}{m:Nat}{p x:Int}{r:List Int}(h:RowOk ts m p (x::r)):∀a∈r,x<=a:=by
 intro a ha;have h1:=h.first;have h2:=Zer ts m p;have h3:a∈endsBelow ts m p:=h.perm.mem_iff.mp (Wav _ ha);cases q:endsBelow ts m p with
 |nil=>rw[q]at h1;cases h1
 |cons y l=>
  rw[q]at h1 h2 h3;have e:x=y:=Wbd.inj h1;subst e;rcases Wan.mp h3 with z|z
  ·omega
  ·have:=(List.pairwise_cons.mp h2).1 a z;omega
def rotAt (l:List Int) (j:Nat):List Int:=l.drop j++l.take j
theorem Zb3:∀(l:List Int),l≠[]->∃m,m∈l/\∀a∈l,m<=a
 |[],h=>absurd rfl h
 |[x],_=>⟨x,Waw,λa ha=>by rw[Wbl.mp ha];exact Int.le_refl _⟩
 |x::y::l,_=>by
  obtain⟨m,h1,h2⟩:=Zb3 (y::l) (by simp);by_cases h:x<=m
  ·refine⟨x,Waw,λa ha=>?_⟩
   rcases Wan.mp ha with z|z
   ·omega
   ·have:=h2 a z;omega
  ·refine⟨m,Wav _ h1,λa ha=>?_⟩
   rcases Wan.mp ha with z|z
   ·omega
   ·exact h2 a z
theorem Zmv {l:List Int}(nd:l.Nodup) {j:Nat}{x:Int}(h:l[j]?=some x):l.idxOf x=j:=by
 obtain⟨h1,h2⟩:=Wae.mp h;obtain⟨i1,i2,_⟩:=Zcm (r:=l) (x:=x) (by rw[<- h2];exact Wb6 h1);obtain⟨i3,i4⟩:=Wae.mp i2;exact(Wda nd).mp (i4.trans h2.symm)
def nxI (n k:Nat):Nat:=if k+1=n then 0 else k+1
theorem Zqs {n k:Nat}(h:k<n):(k+1) % n=nxI n k:=by
 unfold nxI;split
 ·rename_i e;rw[e,Nat.mod_self]
 ·rw[Nat.mod_eq_of_lt (by omega)]
theorem Zdj {r:List Int}(nd:r.Nodup) {k:Nat}{x:Int}(h:r[k]?=some x):nextIn r x=r.getD (nxI r.length k) 0:=by
 unfold nextIn;rw[Zmv nd h,Zqs (Wae.mp h).1]
theorem Ze7 (ds:List D) {j:Nat}(h:j<=ds.length):cutD ds (some (j:Int)) none=ds.drop j:=by
 unfold cutD;rw[HT.sIx_nat,HT.sIx_none,Nat.min_eq_left h,Wc2 (by rw[Wb5];exact Wah _)]
theorem Zjy (ds:List D) {j:Nat}(h:j<=ds.length):cutD ds none (some (j:Int))=ds.take j:=by
 unfold cutD;rw[HT.sIx_nat,HT.sIx_none,Nat.min_eq_left h,List.drop_zero,Wdp]
section
variable {P:Program}{w:World}{K:W.Frag}{mg:Str->Option Value}{base:Heap}{f:Addr}{fd:FuncData}
def fPlace:DSp:=λds Post=>∃n ts,∃e:Nat,ds=[encWeb n ts,.int e]/\e<2*ts.length/\Post (.int (placeAt ts e))
def folOf (ts:List (Int × Int)) (o:List (List Int)) (e:Nat):Int:=nextIn (rowAt ts o e) e
def fFol:DSp:=λds Post=>∃n ts o,∃e:Nat,ds=[encWeb n ts,encOrd o,.int e]/\WebOk n ts/\OrdOk n ts o/\e<2*ts.length/\Post (.int (folOf ts o e))
def fOnw:DSp:=λds Post=>∃n ts o,∃e:Nat,ds=[encWeb n ts,encOrd o,.int e]/\WebOk n ts/\OrdOk n ts o/\e<2*ts.length/\Post (.int (folOf ts o (partner e)))
def fPart:DSp:=λds Post=>∃e:Nat,ds=[.int e]/\Post (.int (partner e))
theorem Zot (mb:Mb mg) (F:Fun K "place_of" "place_of" s_place_of f fd):FnOk P w K mg base CX0 1 f fd ["web","end"] (spD K fPlace):=by
 refine F.ok sc_place_of (Zbk λds Post h=>by obtain⟨_,_,_,rfl,_⟩:=h;rfl) (λcdv A outer s H vs Q E hr h=>?_);have hu:=Zbx hr;refine⟨_,(Zai (Zau (Zbo (ixK K hu) (Zbo (ixK K hu) (Zbo (ixK K hu) (pv 0) Zag (λ_ _=>rfl)) (Zaq Zd5 (pv 1) Zag) (λ_ _=>rfl)) (Zaq Zby (pv 1) Zag) (λ_ _=>rfl)))),Zd0 (λds Post hf=>?_) h⟩;obtain⟨n,ts,e,rfl,he,q⟩:=hf;refine⟨by simp,?_⟩;dsimp only[startD,Wbm,Wbs,Wba];obtain⟨t,h1,h2,h3⟩:=Zpn he;rw[Wcr]at h2 h3;refine Za3 (Zas (Zas (Zas (Zac rfl (Zao (Zbz (d:=.tup (ts.map encTie)) rfl ?_))))));refine Zas (Zac rfl (Zao (jr_I ⟨by omega,by omega⟩ (Zbz h2 ?_))));exact Zas (Zac rfl (Zao (jr_I (by show (0:Int)<2;omega) (Zbz h3 q))))
theorem Zjd (mb:Mb mg) (C49:Callee P w K mg base 1 "place_of" ["web","end"] (spD K fPlace)) (F:Fun K "follower" "follower" s_follower f fd):FnOk P w K mg base CX0 2 f fd ["web","order","end"] (spD K fFol):=by
 refine F.ok sc_follower (Zbk λds Post h=>by obtain⟨_,_,_,_,rfl,_⟩:=h;rfl) (λcdv A outer s H vs Q E hr h=>?_);have hu:=Zbx hr;refine⟨_,(Zae (Zan (i:=3) sc_follower.nd rfl (by first|exact Or.inl rfl|exact Or.inr rfl) (Zbo (ixK K hu) (pv 1) (Zay C49 (hr.mono (by first|decide|omega)) (Zaa (pv 0) (Zaa (pv 2) Zad))) (λ_ _=>rfl))) (Zai (Zau (Zbo (ixK K hu) (pv 3) (Zaq Zby (Zaq (addK K) (bmK K PySem.F.plainAttrs_tuple PySem.F.slot_tuple_index PySem.F.type_tuple_index (idxK K) (pv 3) (Zaa (pv 2) Zad)) Zag) (Zah (lenK K) rfl (mb "len" (by decide)) Za9 (Zaa (pv 3) Zad))) (λ_ _=>rfl))))),Zd0 (λds Post hf=>?_) h⟩;obtain⟨n,ts,o,e,rfl,hW,hO,he,q⟩:=hf;refine⟨by simp,?_⟩;dsimp only[startD,Wbm,Wbs,Wba];obtain⟨g1,g2,g3⟩:=Zb4 hW hO he;obtain⟨p0,p1⟩:=Zem hW he;obtain⟨i1,i2,i3⟩:=Zcm g3;have hat:atI (o.map encRow) (placeAt ts e)=some (encRow (rowAt ts o e)):=by
  have ep:placeAt ts e=(((placeAt ts e).toNat:Nat):Int):=by omega
  rw[ep];exact Zc6 (by rw[Wag,g1];rfl)
 refine Zak (Zax (Zas (Zac rfl (Za5 (Zab (Zac rfl (Zab (Zac rfl (Zaf ⟨n,ts,e,rfl,he,Zbz hat ?_⟩)))))))));refine Za3 (Zas (Zac rfl (Zas (Zas (Zhk (Zac rfl ⟨rowAt ts o e,rfl,Zac rfl ⟨e,(rowAt ts o e).idxOf (e:Int),rfl,i2,i3,?_⟩⟩))))));refine Zao (Zcq ?_);refine Zat (Zab (Zac rfl (Zaf (Zbq (Or.inr rfl) ?_))));rw[Waa];refine jr_I (by show (0:Int)<_;omega) ?_;have e1:(((rowAt ts o e).idxOf (e:Int):Int)+1) % ((rowAt ts o e).length:Int)=((((rowAt ts o e).idxOf (e:Int)+1) % (rowAt ts o e).length:Nat):Int):=by push_cast;rfl
 rw[e1];have hm:((rowAt ts o e).idxOf (e:Int)+1) % (rowAt ts o e).length<(rowAt ts o e).length:=Nat.mod_lt _ (by omega);refine Zbz (d:=.int (folOf ts o e)) (Zc6 ?_) q;rw[Wag,Wab hm];unfold folOf nextIn;rw[Waf,Wab hm];rfl
theorem Zlp (mb:Mb mg) (C44:Callee P w K mg base 2 "follower" ["web","order","end"] (spD K fFol)) (F:Fun K "onward" "onward" s_onward f fd):FnOk P w K mg base CX0 3 f fd ["web","order","end"] (spD K fOnw):=by
 refine F.ok sc_onward (Zbk λds Post h=>by obtain⟨_,_,_,_,rfl,_⟩:=h;rfl) (λcdv A outer s H vs Q E hr h=>?_);have hu:=Zbx hr;refine⟨_,(Zai (Zau (Zay C44 (hr.mono (by first|decide|omega)) (Zaa (pv 0) (Zaa (pv 1) (Zaa (Zaq Zs4 (pv 2) Zag) Zad)))))),Zd0 (λds Post hf=>?_) h⟩;obtain⟨n,ts,o,e,rfl,hW,hO,he,q⟩:=hf;refine⟨by simp,?_⟩;dsimp only[startD,Wbm,Wbs,Wba];refine Za3 (Za5 (Zab (Zac rfl (Zab (Zac rfl (Zab (Zas (Zac rfl (Zao (Zqp ?_))))))))));rw[Zp5];exact Zaf ⟨n,ts,o,partner e,rfl,hW,hO,Za8 he,q⟩
theorem Zkm (mb:Mb mg) (F:Fun K "_law_partner" "_law_partner" s_law_partner f fd):FnOk P w K mg base CX0 1 f fd ["_law_end"] (spD K fPart):=by
 refine F.ok sc_law_partner (Zbk λds Post h=>by obtain⟨_,rfl,_⟩:=h;rfl) (λcdv A outer s H vs Q E hr h=>?_);have hu:=Zbx hr;refine⟨_,(Zai (Zau (Zaq Zme (Zaq (addK K) (pv 0) Zag) (Zaq Zdf Zag (Zaq Zby (pv 0) Zag))))),Zd0 (λds Post hf=>?_) h⟩;obtain⟨e,rfl,q⟩:=hf;refine⟨by simp,?_⟩;dsimp only[startD,Wbm,Wbs,Wba]
 repeat walk_at "js"
 have e1:(e:Int)+1-2*((e:Int) % 2)=(partner e:Int):=by unfold partner;split <;> omega
 rw[e1];exact q
end
def iter (f:Int->Int) (e:Int):Nat->Int
 |0=>e
 |n+1=>f (iter f e n)
def walkL (f:Int->Int) (e:Int) (n:Nat):List Int:=(Wa1 n).map (iter f e)
structure OneOne (f:Int->Int) (m:Nat):Prop where
 to:∀x,0<=x->x<(m:Int)->0<=f x/\f x<(m:Int)
 inj:∀x y,0<=x->x<(m:Int)->0<=y->y<(m:Int)->f x=f y->x=y
def NdTo (f:Int->Int) (e:Int) (n:Nat):Prop:=∀i j,i<n->j<n->iter f e i=iter f e j->i=j
structure IsOrb (f:Int->Int) (e:Int) (n:Nat):Prop where
 pos:0<n
 back:iter f e n=e
 nd:NdTo f e n
theorem Zb2 (f:Int->Int) (e:Int) (j n:Nat):iter f (iter f e j) n=iter f e (j+n):=by
 induction n with
 |zero=>rfl
 |succ n ih=>show f (iter f (iter f e j) n)=f (iter f e (j+n));rw[ih]
theorem Zbe (f:Int->Int) (e:Int) (n:Nat):(walkL f e n).length=n:=by unfold walkL;rw[Waa,Wbb]
theorem Zeb (f:Int->Int) (e:Int) (a b:Nat):walkL f e (a+b)=walkL f e a++walkL f (iter f e a) b:=by
 unfold walkL;rw[List.range_add,Wax,Wa2];congr 1;apply Wbe;intro i _;exact(Zb2 f e a i).symm
theorem Zgg (f:Int->Int) (e:Int) (n:Nat):walkL f e (n+1)=walkL f e n++[iter f e n]:=by rw[Zeb];rfl
theorem Zbd {f:Int->Int}{e x:Int}{n:Nat}:x∈walkL f e n ↔ ∃i,i<n/\iter f e i=x:=by
 unfold walkL;rw[Wau];constructor
 ·rintro⟨i,h,rfl⟩;exact⟨i,Wat.mp h,rfl⟩
 ·rintro⟨i,h,rfl⟩;exact⟨i,Wat.mpr h,rfl⟩
theorem Zee {f:Int->Int}{e:Int}{n i:Nat}(h:i<n):(walkL f e n)[i]?=some (iter f e i):=by
 unfold walkL;rw[Wag,Wcl h];rfl
theorem IsOrb.uniq {f:Int->Int}{e:Int}{n k:Nat}(h:IsOrb f e n) (h':IsOrb f e k):n=k:=by
 rcases Nat.lt_trichotomy n k with z|z|z
 ·have:=h'.nd n 0 z h'.pos (by rw[h.back];rfl)
  have:=h.pos;omega
 ·exact z
 ·have:=h.nd k 0 z h.pos (by rw[h'.back];rfl)
  have:=h'.pos;omega
noncomputable def per (f:Int->Int) (e:Int):Nat:=Classical.epsilon (IsOrb f e)
noncomputable def orb (f:Int->Int) (e:Int):List Int:=walkL f e (per f e)
theorem IsOrb.per {f:Int->Int}{e:Int}{n:Nat}(h:IsOrb f e n):Lw.per f e=n:=(Classical.epsilon_spec (p:=IsOrb f e) ⟨n,h⟩).uniq h
theorem IsOrb.orb {f:Int->Int}{e:Int}{n:Nat}(h:IsOrb f e n):Lw.orb f e=walkL f e n:=by unfold Lw.orb;rw[h.per]
section
variable {f:Int->Int}{m:Nat}(F:OneOne f m) {e:Int}(h0:0<=e) (h1:e<(m:Int))
include F h0 h1
theorem Zb1 (n:Nat):0<=iter f e n/\iter f e n<(m:Int):=by
 induction n with
 |zero=>exact⟨h0,h1⟩
 |succ n ih=>exact F.to _ ih.1 ih.2
theorem Zha {n:Nat}(hn:1<=n) (nd:NdTo f e n) (hne:iter f e n≠e):NdTo f e (n+1):=by
 have key:∀j,j<n->iter f e n≠iter f e j:=by
  intro j hj q;cases j with
  |zero=>exact hne q
  |succ j=>
   obtain⟨k,rfl⟩:∃k,n=k+1:=⟨n-1,by omega⟩;have a:=Zb1 F h0 h1 k;have b:=Zb1 F h0 h1 j;have:=nd k j (by omega) (by omega) (F.inj _ _ a.1 a.2 b.1 b.2 q);omega
 intro i j hi hj q;by_cases hin:i=n
 ·by_cases hjn:j=n
  ·omega
  ·subst hin;exact absurd q (key j (by omega))
 ·by_cases hjn:j=n
  ·subst hjn;exact absurd q.symm (key i (by omega))
  ·exact nd i j (by omega) (by omega) q
theorem Zhy {n:Nat}(nd:NdTo f e n):n<=m:=by
 have hn:(walkL f e n).Nodup:=by
  unfold walkL List.Nodup;rw[Wcs,Wbj];intro i j hi hj hij;rw[Wbb]at hi hj;rw[Wcy,Wcy];intro q;have:=nd i j hi hj q;omega
 have:=Zdk (m:=(Wa1 m).map λe:Nat=>(e:Int)) hn λx hx=>by
  obtain⟨i,hi,rfl⟩:=Zbd.mp hx;have:=Zb1 F h0 h1 i;exact Wau.mpr ⟨(iter f e i).toNat,Wat.mpr (by omega),by omega⟩
 rw[Zbe,Waa,Wbb]at this;exact this
theorem Zm4:NdTo f e 1:=λi j hi hj _=>by omega
theorem Ztw:∃n,IsOrb f e n:=by
 apply Classical.byContradiction;intro hn;have all:∀n,NdTo f e (n+1):=by
  intro n
  induction n with
  |zero=>exact Zm4 F h0 h1
  |succ n ih=>
   refine Zha F h0 h1 (by omega) ih λq=>hn ⟨n+1,by omega,q,ih⟩
 have:=Zhy F h0 h1 (all m);omega
theorem Zdt:IsOrb f e (per f e):=by
 obtain⟨n,h⟩:=Ztw F h0 h1;rw[h.per];exact h
theorem Zj2:e∈orb f e:=Zbd.mpr ⟨0,(Zdt F h0 h1).pos,rfl⟩
theorem Zp7:(orb f e).length<=m:=by
 unfold orb;rw[Zbe];exact Zhy F h0 h1 (Zdt F h0 h1).nd
theorem Ze8 (k:Nat):iter f e k∈orb f e:=by
 have O:=Zdt F h0 h1
 induction k with
 |zero=>exact Zj2 F h0 h1
 |succ k ih=>
  obtain⟨i,hi,q⟩:=Zbd.mp ih;show f (iter f e k)∈_;rw[<- q];by_cases hl:i+1=per f e
  ·have:f (iter f e i)=e:=by
    have:=O.back;rw[<- hl]at this;exact this
   rw[this];exact Zj2 F h0 h1
  ·exact Zbd.mpr ⟨i+1,by omega,rfl⟩
theorem Zjp {x:Int}(hx:x∈orb f e):0<=x/\x<(m:Int):=by
 obtain⟨i,_,rfl⟩:=Zbd.mp hx;exact Zb1 F h0 h1 i
theorem Zn7 {x y:Int}(a0:0<=x) (a1:x<(m:Int)) (b0:0<=y) (b1:y<(m:Int)) (j:Nat) (q:iter f x j=iter f y j):x=y:=by
 induction j with
 |zero=>exact q
 |succ j ih=>
  have a:=Zb1 F a0 a1 j;have b:=Zb1 F b0 b1 j;exact ih (F.inj _ _ a.1 a.2 b.1 b.2 q)
theorem Zqt (j:Nat):IsOrb f (iter f e j) (per f e):=by
 have O:=Zdt F h0 h1;refine⟨O.pos,?_,λi k hi hk q=>?_⟩
 ·rw[Zb2,Nat.add_comm,<- Zb2,O.back]
 ·rw[Zb2,Zb2,Nat.add_comm j i,Nat.add_comm j k,<- Zb2,<- Zb2]at q
  have a:=Zb1 F h0 h1 i;have b:=Zb1 F h0 h1 k;exact O.nd i k hi hk (Zn7 F h0 h1 a.1 a.2 b.1 b.2 j q)
theorem Zcn {x:Int}(hx:x∈orb f e):e∈orb f x:=by
 have O:=Zdt F h0 h1;obtain⟨j,hj,rfl⟩:=Zbd.mp hx;have a:=Zb1 F h0 h1 j;have:=Ze8 F a.1 a.2 (per f e-j);rw[Zb2,show j+(per f e-j)=per f e by omega,O.back]at this;exact this
theorem Zcj {x y:Int}(hx:x∈orb f e) (hy:y∈orb f x):y∈orb f e:=by
 obtain⟨j,_,rfl⟩:=Zbd.mp hx;obtain⟨i,_,rfl⟩:=Zbd.mp hy;rw[Zb2];exact Ze8 F h0 h1 _
theorem Zrr {j:Nat}(hj:j<per f e):rotAt (orb f e) j=orb f (iter f e j):=by
 have O:=Zdt F h0 h1;rw[(Zqt F h0 h1 j).orb];unfold orb rotAt;have e1:walkL f e (per f e)=walkL f e j++walkL f (iter f e j) (per f e-j):=by rw[<- Zeb,show j+(per f e-j)=per f e by omega]
 have e2:walkL f (iter f e j) (per f e)=walkL f (iter f e j) (per f e-j)++walkL f e j:=by
  conv=>lhs;rw[show per f e=(per f e-j)+j by omega]
  rw[Zeb,Zb2,show j+(per f e-j)=per f e by omega,O.back]
 rw[e2,e1,List.drop_left' (Zbe ..),List.take_left' (Zbe ..)]
theorem Zfp:(orb f e).Nodup:=by
 have O:=Zdt F h0 h1;unfold orb walkL List.Nodup;rw[Wcs,Wbj];intro i j hi hj hij;rw[Wbb]at hi hj;rw[Wcy,Wcy];intro q;have:=O.nd i j hi hj q;omega
theorem Zec:∃l,orb f e=e::l:=by
 have O:=Zdt F h0 h1;unfold orb;obtain⟨n,hn⟩:∃n,per f e=1+n:=⟨per f e-1,by have:=O.pos;omega⟩;rw[hn,Zeb];exact⟨_,rfl⟩
end
open Classical in
noncomputable def leastB (f:Int->Int) (e:Nat):Bool:=decide (∀x∈orb f (e:Int),(e:Int)<=x)
noncomputable def facesTo (f:Int->Int) (k:Nat):List (List Int):=((Wa1 k).filter (leastB f)).map λe:Nat=>orb f (e:Int)
theorem Zcp (f:Int->Int) (k:Nat):facesTo f (k+1)=facesTo f k++(if leastB f k=true then [orb f (k:Int)] else []):=by
 unfold facesTo;rw[List.range_succ,Wbx,Wax];congr 1;by_cases h:leastB f k=true
 ·rw[if_pos h];simp[Wbv,h]
 ·rw[if_neg h];simp[Wbv,h]
theorem Zcf (f:Int->Int) (k:Nat):(facesTo f k).length<=k:=by
 unfold facesTo;rw[Waa];exact Wbq (Wc8 _ _) (by rw[Wbb];exact Wah _)
def MetTo (f:Int->Int) (k:Nat) (x:Int):Prop:=∃e:Nat,e<k/\x∈orb f (e:Int)
section
variable {f:Int->Int}{m:Nat}(F:OneOne f m)
include F
theorem Zcu {k:Nat}(hk:k<m):MetTo f k (k:Int)↔leastB f k=false:=by
 unfold leastB;rw[decide_eq_false_iff_not];constructor
 ·rintro⟨e,he,hx⟩ h
  have:=h _ (Zcn F (by omega) (by omega) hx);omega
 ·intro h
  apply Classical.byContradiction;intro hn;refine h λx hx=>?_;have r:=Zjp F (by omega) (by omega) hx;apply Classical.byContradiction;intro hlt;refine hn ⟨x.toNat,by omega,?_⟩;rw[show ((x.toNat:Nat):Int)=x by omega];exact Zcn F (by omega) (by omega) hx
theorem Ze1 {k:Nat}(hk:k<m) {x:Int}:MetTo f (k+1) x↔MetTo f k x\/(leastB f k=true/\x∈orb f (k:Int)):=by
 constructor
 ·rintro⟨e,he,hx⟩
  by_cases hek:e=k
  ·subst hek
   by_cases hl:leastB f e=true
   ·exact .inr ⟨hl,hx⟩
   ·obtain⟨e',he',hx'⟩:=(Zcu F hk).mpr (Wc5.mpr hl)
    exact .inl ⟨e',he',Zcj F (by omega) (by omega) hx' hx⟩
  ·exact .inl ⟨e,by omega,hx⟩
 ·rintro(⟨e,he,hx⟩|⟨_,hx⟩)
  ·exact⟨e,by omega,hx⟩
  ·exact⟨k,by omega,hx⟩
theorem Zjo {k:Nat}(hk:k<=m) {x:Int}(h0:0<=x) (h1:x<(m:Int)) (j:Nat):MetTo f k (iter f x j)↔MetTo f k x:=by
 have hj:=Zb1 F h0 h1 j;constructor
 ·rintro⟨e,he,hx⟩
  exact⟨e,he,Zcj F (by omega) (by omega) hx (Zcn F h0 h1 (Ze8 F h0 h1 j))⟩
 ·rintro⟨e,he,hx⟩
  exact⟨e,he,Zcj F (by omega) (by omega) hx (Ze8 F h0 h1 j)⟩
theorem Zjb {k:Nat}(hk:k<=m) (z:Nat):Asc (Wad z []++facesTo f k):=by
 intro i a b ha hb;by_cases h1:i<z
 ·rw[Wa8 (by rw[Wal];exact h1),Wb8,if_pos h1]at ha
  cases ha;exact .inl rfl
 ·rw[Waz (by rw[Wal];omega),Wal]at ha hb
  rw[show i+1-z=i-z+1 by omega]at hb;unfold facesTo at ha hb;rw[Wag]at ha hb;cases qa:((Wa1 k).filter (leastB f))[i-z]? with
  |none=>rw[qa]at ha;cases ha
  |some ea=>
   cases qb:((Wa1 k).filter (leastB f))[i-z+1]? with
   |none=>rw[qb]at hb;cases hb
   |some eb=>
    rw[qa]at ha;rw[qb]at hb;have ha:orb f (ea:Int)=a:=by simpa using ha
    have hb:orb f (eb:Int)=b:=by simpa using hb
    subst ha hb;have ma:=(Wa5.mp (Wak qa)).1;have mb:=(Wa5.mp (Wak qb)).1;rw[Wat]at ma mb;have hlt:ea<eb:=by
     have pw:((Wa1 k).filter (leastB f)).Pairwise (· < ·):=List.Pairwise.filter _ Wcn;obtain⟨p1,p2⟩:=Wae.mp qa;obtain⟨p3,p4⟩:=Wae.mp qb;have:=Wbj.mp pw (i-z) (i-z+1) p1 p3 (by omega);omega
    obtain⟨la,e1⟩:=Zec F (e:=(ea:Int)) (by omega) (by omega);obtain⟨lb,e2⟩:=Zec F (e:=(eb:Int)) (by omega) (by omega);exact .inr ⟨_,_,la,lb,e1,e2,by omega⟩
theorem Zlc {x:Int}(h0:0<=x) (h1:x<(m:Int)):∃e:Nat,e<m/\leastB f e=true/\(e:Int)∈orb f x/\∀r∈facesTo f m,x∈r↔r=orb f (e:Int):=by
 obtain⟨y,hy,hle⟩:=Zb3 (orb f x) (by obtain⟨l,e⟩:=Zec F h0 h1;rw[e];simp);have r:=Zjp F h0 h1 hy;have ey:((y.toNat:Nat):Int)=y:=by omega
 have hl:leastB f y.toNat=true:=by
  unfold leastB;rw[decide_eq_true_iff,ey];exact λz hz=>hle z (Zcj F h0 h1 hy hz)
 refine⟨y.toNat,by omega,hl,by rw[ey];exact hy,λq hq=>?_⟩;unfold facesTo at hq;obtain⟨e,he,rfl⟩:=Wau.mp hq;rw[Wa5,Wat]at he;rw[ey];constructor
 ·intro hx
  have h2:y∈orb f (e:Int):=Zcj F (by omega) (by omega) hx hy;have h3:(e:Int)∈orb f x:=Zcn F (by omega) (by omega) hx;have a:=hle _ h3;have b:(e:Int)<=y:=by
   have:=he.2;unfold leastB at this;exact of_decide_eq_true this y h2
  rw[show (e:Int)=y by omega]
 ·intro q
  rw[q];exact Zcn F h0 h1 hy
theorem Ziw {e:Nat}(he:e<m) (hl:leastB f e=true):orb f (e:Int)∈facesTo f m:=by
 unfold facesTo;exact Wau.mpr ⟨e,by rw[Wa5,Wat];exact⟨he,hl⟩,rfl⟩
end
theorem Zpf {r:List Int}{x:Int}(h:x∈r):nextIn r x∈r:=by
 obtain⟨h1,_,_⟩:=Zcm h;have hm:(r.idxOf x+1) % r.length<r.length:=Nat.mod_lt _ (by omega);unfold nextIn;rw[Waf,Wab hm];exact Wb6 hm
theorem Zpb {r:List Int}(nd:r.Nodup) {x y:Int}(hx:x∈r) (hy:y∈r) (h:nextIn r x=nextIn r y):x=y:=by
 obtain⟨i,hi⟩:=Wbc.mp hx;obtain⟨j,hj⟩:=Wbc.mp hy;obtain⟨i1,i2⟩:=Wae.mp hi;obtain⟨j1,j2⟩:=Wae.mp hj;rw[Zdj nd hi,Zdj nd hj,Waf,Waf]at h;have a:nxI r.length i<r.length:=by unfold nxI;split <;> omega
 have b:nxI r.length j<r.length:=by unfold nxI;split <;> omega
 rw[Wab a,Wab b]at h;have e:=(Wda nd).mp (show r[nxI r.length i]=r[nxI r.length j] from h);have:i=j:=by unfold nxI at e;split at e <;> split at e <;> omega
 subst this;rw[hi]at hj;exact Wbd.inj hj
theorem Zaz (e:Nat):partner (partner e)=e:=by unfold partner;split <;> split <;> omega
def onI (ts:List (Int × Int)) (o:List (List Int)) (x:Int):Int:=folOf ts o (partner x.toNat)
theorem Zg6 {n:Int}{ts:List (Int × Int)}{o:List (List Int)}(hW:WebOk n ts) (hO:OrdOk n ts o) {e:Nat}(he:e<2*ts.length):∃g:Nat,g<2*ts.length/\placeAt ts g=placeAt ts e/\(g:Int)=folOf ts o e:=by
 obtain⟨g1,g2,g3⟩:=Zb4 hW hO he;exact g2.mem.mp (Zpf g3)
theorem Zdd {n:Int}{ts:List (Int × Int)}{o:List (List Int)}(hW:WebOk n ts) (hO:OrdOk n ts o):OneOne (onI ts o) (2*ts.length):=by
 refine⟨λx h0 h1=>?_,λx y h0 h1 h2 h3 q=>?_⟩
 ·obtain⟨g,hg,_,e⟩:=Zg6 hW hO (Za8 (show x.toNat<2*ts.length by omega))
  unfold onI;rw[<- e];omega
 ·have hx:=Za8 (show x.toNat<2*ts.length by omega)
  have hy:=Za8 (show y.toNat<2*ts.length by omega);obtain⟨g,hg,pg,eg⟩:=Zg6 hW hO hx;obtain⟨k,hk,pk,ek⟩:=Zg6 hW hO hy;unfold onI at q;have egk:g=k:=by omega
  subst egk;have hp:placeAt ts (partner x.toNat)=placeAt ts (partner y.toNat):=pg.symm.trans pk;obtain⟨_,r2,r3⟩:=Zb4 hW hO hx;obtain⟨_,_,r6⟩:=Zb4 hW hO hy;have er:rowAt ts o (partner y.toNat)=rowAt ts o (partner x.toNat):=by unfold rowAt;rw[hp]
  unfold folOf at q;rw[er]at q r6;have:=Zpb r2.nodup r3 r6 q;have e1:partner x.toNat=partner y.toNat:=by omega
  have e2:=congrArg partner e1;rw[Zaz,Zaz]at e2;omega
def lone (o:List (List Int)):Nat:=(o.filter λr=>r.isEmpty).length
theorem Zfd (o:List (List Int)):lone o<=o.length:=Wc8 _ _
theorem Zhz (o:List (List Int)) (p:D->Bool) (hp:∀r:List Int,p (rowD r)=r.isEmpty) (g:D->D) (hg:∀d,g d=.tup []):((o.map rowD).filter p).map g=(Wad (lone o) ([]:List Int)).map rowD:=by
 unfold lone
 induction o with
 |nil=>rfl
 |cons r o ih=>
  rw[Wa4,Wbv,Wbv,hp];cases h:r.isEmpty with
  |true=>simp only[if_true];rw[Wa4,Wap,Wcv,Wa4,ih,hg];rfl
  |false=>simp only[Wbi,if_false];exact ih
theorem OrdOk.flat_eq {n:Int}{ts:List (Int × Int)}{o:List (List Int)}(hW:WebOk n ts) (h:OrdOk n ts o):o.flatten.length=2*ts.length:=by
 have h1:=h.flat_len;have h2:=Zdk (l:=(Wa1 (2*ts.length)).map λe:Nat=>(e:Int)) (m:=o.flatten) ?_ λx hx=>by
  obtain⟨e,he,rfl⟩:=Wau.mp hx;rw[Wat]at he;obtain⟨g1,g2,g3⟩:=Zb4 hW h he;exact Wb4.mpr ⟨_,Wak g1,g3⟩
 ·rw[Waa,Wbb]at h2;omega
 ·refine List.Pairwise.map _ (λa b q=>?_) Wdn
  intro e;exact q (by omega)
def Lv:Nat->D->Prop
 |0,_=>False
 |_+1,.int _=>True
 |m+1,.lst ds=>ds.length<=1000/\∀d∈ds,Lv m d
 |m+1,.tup ds=>ds.length<=1000/\∀d∈ds,Lv m d
 |_,_=>False
def fSame (m:Nat):DSp:=λds Post=>∃d,ds=[d,d]/\Lv m d/\Post (.bl true)
def isIntD:D->Option Bool
 |.int _=>some true
 |.lst _=>some false
 |.tup _=>some false
 |_=>none
def fWholeB:DSp:=λds Post=>∃d b,ds=[d]/\isIntD d=some b/\Post (.bl b)
section
variable {P:Program}{w:World}{K:W.Frag}{mg:Str->Option Value}{base:Heap}{f:Addr}{fd:FuncData}
theorem Zdc:2<=sizeLine:=by decide
theorem Zjh (ds:List D):(((ds.zip ds).map λp=>D.tup [p.1,p.2]).filter λ_=>true).map (λ_=>D.bl true)=(Wad ds.length true).map D.bl:=by
 rw[Wbf.mpr (by simp),Wdb,Wdf,Waa,Wdo,Wdq]
theorem Ze5 (n:Nat):(Wad n true).all id=true:=by
 rw[Wb7];intro x hx;rw[(Wb2.mp hx).2];rfl
theorem Zif {ds:List D}{i:Nat}{d:D}(hd':((ds.zip ds).map λp=>D.tup [p.1,p.2])[i]?=some d):∃e,e∈ds/\d=.tup [e,e]:=by
 rw[Wag]at hd';cases z:(ds.zip ds)[i]? with
 |none=>rw[z]at hd';cases hd'
 |some pr=>
  rw[z]at hd';have hd':D.tup [pr.1,pr.2]=d:=by simpa using hd'
  rw[Wby]at z;have e:pr.1=pr.2:=Wbd.inj (z.1.symm.trans z.2);exact⟨pr.1,Wak z.1,by rw[<- hd',<- e]⟩
theorem Zns (mb:Mb mg) (F:Fun K "_law_whole" "_law_whole" s_law_whole f fd):FnOk P w K mg base CX0 1 f fd ["_law_found"] (spD K fWholeB):=by
 refine F.ok sc_law_whole (Zbk λds Post h=>by obtain⟨_,_,rfl,_⟩:=h;rfl) (λcdv A outer s H vs Q E hr h=>?_);have hu:=Zbx hr;refine⟨_,(Zai (Zau (Zfa (Zah (isiUK K) rfl (mb "isinstance" (by decide)) Zar (Zaa (pv 0) (Zaa (Zce rfl (mb "int" (by decide)) Zpp (show RelV (.ty "int") _ from rfl)) Zad))) (Zgd (Zka (Zah (isiUK K) rfl (mb "isinstance" (by decide)) Zar (Zaa (pv 0) (Zaa (Zce rfl (mb "bool" (by decide)) Zmj (show RelV (.ty "bool") _ from rfl)) Zad)))))))),Zd0 (λds Post hf=>?_) h⟩;obtain⟨d,b,rfl,hb,q⟩:=hf;refine⟨by simp,?_⟩;dsimp only[startD,Wbm,Wbs,Wba];cases d with
 |int i=>
  cases hb;refine Za3 (Zci (Zat (Zab (Zac rfl (Zab (Zds (Zaf (Zb6 (T:="int") (b:=true) rfl (λ_=>by rfl) ⟨_,rfl,?_⟩))))))));rw[if_pos rfl];refine Zfm (Zat (Zab (Zac rfl (Zab (Zds (Zaf (Zb6 (T:="int") (b:=false) rfl (λ_=>by rfl) ⟨_,rfl,?_⟩)))))));exact q
 |lst l=>
  cases hb;exact Za3 (Zci (Zat (Zab (Zac rfl (Zab (Zds (Zaf (Zb6 (T:="list") (b:=false) rfl (λ_=>by rfl) ⟨_,rfl,iteF q⟩))))))))
 |tup l=>
  cases hb;exact Za3 (Zci (Zat (Zab (Zac rfl (Zab (Zds (Zaf (Zb6 (T:="tuple") (b:=false) rfl (λ_=>by rfl) ⟨_,rfl,iteF q⟩))))))))
 |_=>cases hb
theorem Znz {m:Nat}(mb:Mb mg) (C39:Callee P w K mg base 1 "_law_whole" ["_law_found"] (spD K fWholeB)) (C37:Callee P w K mg base (m+1) "_law_same" ["_law_found","_law_due"] (spD K (fSame m))) (F:Fun K "_law_same" "_law_same" s_law_same f fd):FnOk P w K mg base CX0 (m+2) f fd ["_law_found","_law_due"] (spD K (fSame (m+1))):=by
 refine F.ok sc_law_same (Zbk λds Post h=>by obtain⟨_,rfl,_⟩:=h;rfl) (λcdv A outer s H vs Q E hr h=>?_);have hu:=Zbx hr;refine⟨_,(Zae (Zbw (truK K (Zay C39 (hr.mono (by first|decide|omega)) (Zaa (pv 1) Zad)) (λ_=>rfl)) (Zai (Zau (Zfa (Zay C39 (hr.mono (by first|decide|omega)) (Zaa (pv 0) Zad)) (Zgd (Zmh Zb7 (pv 0) (pv 1) (nomark _)))))) Zav) (Zae (Zbw (PW.pt (pw_and (truK K (Zah (isiUK K) rfl (mb "isinstance" (by decide)) Zar (Zaa (pv 1) (Zaa (Zce rfl (mb "list" (by decide)) Zfn (show RelV (.ty "list") _ from rfl)) Zad))) (λ_=>rfl)) (pw_and1 (Zdv (truK K (Zah (isiUK K) rfl (mb "isinstance" (by decide)) Zar (Zaa (pv 0) (Zaa (Zce rfl (mb "list" (by decide)) Zfn (show RelV (.ty "list") _ from rfl)) Zad))) (λ_=>rfl)))))) (Zai (Zau Zlz)) Zav) (Zae (Zbw (PW.pt (pw_and (truK K (Zah (isiUK K) rfl (mb "isinstance" (by decide)) Zar (Zaa (pv 1) (Zaa (Zce rfl (mb "tuple" (by decide)) Za6 (show RelV (.ty "tuple") _ from rfl)) Zad))) (λ_=>rfl)) (pw_and1 (Zdv (truK K (Zah (isiUK K) rfl (mb "isinstance" (by decide)) Zar (Zaa (pv 0) (Zaa (Zce rfl (mb "tuple" (by decide)) Za6 (show RelV (.ty "tuple") _ from rfl)) Zad))) (λ_=>rfl)))))) (Zai (Zau Zlz)) Zav) (Zai (Zau (Zfa (Zmh Zb7 (Zah (lenK K) rfl (mb "len" (by decide)) Za9 (Zaa (pv 0) Zad)) (Zah (lenK K) rfl (mb "len" (by decide)) Za9 (Zaa (pv 1) Zad)) (nomark _)) (Zgd (Zah (allK K rfl) rfl (mb "all" (by decide)) Zl3 (Zaa (Zc3 ["_law_one","_law_other"] (show CompSc (defScope s_law_same) ["_law_found","_law_due"] _ [] [] from ⟨rfl,by decide +kernel,by decide +kernel,by decide +kernel,rfl,by decide +kernel⟩) rfl (Zso K rfl (mb "zip" (by decide)) (Zaa (pv 0) (Zaa (pv 1) Zad))) (λ_ _ _ _ _=>(gtupK (n:=2) K rfl (Zco (Zap (i:=0) (show List.Nodup (["_law_one","_law_other"]:List Str) from by decide) rfl (Or.inl rfl)) (Zco (Zap (i:=1) (show List.Nodup (["_law_one","_law_other"]:List Str) from by decide) rfl (Or.inl rfl)) Zg7)))) (λ_ _ _ _ _=>Zch) (λ_ _ _ _ _=>(Zay C37 (hr.mono (by first|decide|omega)) (Zaa (pv 0) (Zaa (pv 1) Zad))))) Zad))))))))),Zd0 (λds Post hf=>?_) h⟩;obtain⟨d,rfl,hd,q⟩:=hf;refine⟨by simp,?_⟩;dsimp only[startD,Wbm,Wbs,Wba];cases d with
 |int i=>
  refine Zak (Zb0 (Zbu (Za5 (Zab (Zac rfl (Zaf ⟨_,true,rfl,rfl,_,rfl,?_⟩))))));refine iteT (Za3 (Zci (Za5 (Zab (Zac rfl (Zaf ⟨_,true,rfl,rfl,_,rfl,?_⟩))))));refine iteT (Zas (Zac rfl (Zac rfl (Zex ?_))));rw[decide_eq_true rfl];exact q
 |lst ds=>
  obtain⟨hl,hd⟩:=hd;refine Zak (Zb0 (Zbu (Za5 (Zab (Zac rfl (Zaf ⟨_,false,rfl,rfl,_,rfl,iteF (Za1 ?_)⟩))))));refine Zak (Zb0 (Zij (Zbu (Zat (Zab (Zac rfl (Zab (Zds (Zaf (Zb6 (T:="list") (b:=true) rfl (λ_=>by rfl) ⟨_,rfl,iteT ?_⟩))))))))));refine Zcs (Zbu (Zat (Zab (Zac rfl (Zab (Zds (Zaf (Zb6 (T:="list") (b:=true) rfl (λ_=>by rfl) ⟨_,rfl,iteF (Za1 ?_)⟩))))))));refine Zak (Zb0 (Zij (Zbu (Zat (Zab (Zac rfl (Zab (Zds (Zaf (Zb6 (T:="list") (b:=false) rfl (λ_=>by rfl) ⟨_,rfl,iteF (iteF (Za1 ?_))⟩))))))))));refine Za3 (Zci (Zas (Zat (Zab (Zac rfl (Zaf (Zbq (Or.inl rfl) (Zat (Zab (Zac rfl (Zaf (Zbq (Or.inl rfl) (Zex ⟨_,rfl,?_⟩)))))))))))));rw[decide_eq_true rfl];refine iteT (Zat (Zab (Zjq (by decide) (Zs1 (Zab (Zac rfl (Zab (Zac rfl (Zaf ⟨ds,ds,rfl,rfl,?_,λ_=>true,λ_=>.bl true,λi d hd'=>?_,?_⟩)))))))))
  ·rw[Waa,Wdo];exact small1000 (by omega)
  ·obtain⟨e,he,rfl⟩:=Zif hd'
   exact⟨_,_,rfl,Zb5 ⟨rfl,Za5 (Zab (Zac rfl (Zab (Zac rfl (Zaf ⟨e,rfl,hd _ he,rfl,_,_,rfl⟩)))))⟩⟩
  ·refine Zaf ?_
   rw[Zjh];refine Zjr ?_;rw[Ze5];exact q
 |tup ds=>
  obtain⟨hl,hd⟩:=hd;refine Zak (Zb0 (Zbu (Za5 (Zab (Zac rfl (Zaf ⟨_,false,rfl,rfl,_,rfl,iteF (Za1 ?_)⟩))))));refine Zak (Zb0 (Zij (Zbu (Zat (Zab (Zac rfl (Zab (Zds (Zaf (Zb6 (T:="tuple") (b:=false) rfl (λ_=>by rfl) ⟨_,rfl,iteF (iteF (Za1 ?_))⟩))))))))));refine Zak (Zb0 (Zij (Zbu (Zat (Zab (Zac rfl (Zab (Zds (Zaf (Zb6 (T:="tuple") (b:=true) rfl (λ_=>by rfl) ⟨_,rfl,iteT ?_⟩))))))))));refine Zcs (Zbu (Zat (Zab (Zac rfl (Zab (Zds (Zaf (Zb6 (T:="tuple") (b:=true) rfl (λ_=>by rfl) ⟨_,rfl,iteF (Za1 ?_)⟩))))))));refine Za3 (Zci (Zas (Zat (Zab (Zac rfl (Zaf (Zbq (Or.inr rfl) (Zat (Zab (Zac rfl (Zaf (Zbq (Or.inr rfl) (Zex ⟨_,rfl,?_⟩)))))))))))));rw[decide_eq_true rfl];refine iteT (Zat (Zab (Zjq (by decide) (Zqn (Zab (Zac rfl (Zab (Zac rfl (Zaf ⟨ds,ds,rfl,rfl,?_,λ_=>true,λ_=>.bl true,λi d hd'=>?_,?_⟩)))))))))
  ·rw[Waa,Wdo];exact small1000 (by omega)
  ·obtain⟨e,he,rfl⟩:=Zif hd'
   exact⟨_,_,rfl,Zb5 ⟨rfl,Za5 (Zab (Zac rfl (Zab (Zac rfl (Zaf ⟨e,rfl,hd _ he,rfl,_,_,rfl⟩)))))⟩⟩
  ·refine Zaf ?_
   rw[Zjh];refine Zjr ?_;rw[Ze5];exact q
 |_=>exact hd.elim
theorem Znr (mb:Mb mg) (C39:Callee P w K mg base 1 "_law_whole" ["_law_found"] (spD K fWholeB)) (F:Fun K "_law_same" "_law_same" s_law_same f fd) (b:Binds K fd ["_law_found","_law_due"] []) (kp:W.keepIn K (.ref f)=true) (hm:mg "_law_same" = some (.ref f)):∀m:Nat,FnOk P w K mg base CX0 (m+1) f fd ["_law_found","_law_due"] (spD K (fSame m))
 |0=>by
  have no:∀vs H Q E,¬ spD K (fSame 0) vs H Q E:=λvs H Q E ⟨_,_,_,_,_,⟨_,_,hd,_⟩,_⟩=>hd;exact⟨λvs H Q E h=>absurd h (no vs H Q E),λA outer s H args us vs Q E _ _ _ _ h=>absurd h (no vs H Q E)⟩
 |m+1=>Znz mb C39 ⟨⟨f,fd,Znr mb C39 F b kp hm m,b,kp,hm⟩⟩ F
theorem Zou (mb:Mb mg) (C39:Callee P w K mg base 1 "_law_whole" ["_law_found"] (spD K fWholeB)) (F:Fun K "_law_same" "_law_same" s_law_same f fd) (b:Binds K fd ["_law_found","_law_due"] []) (kp:W.keepIn K (.ref f)=true) (hm:mg "_law_same" = some (.ref f)):∀m:Nat,FnOk P w K mg base CX0 m f fd ["_law_found","_law_due"] (spD K (fSame (m-1)))
 |0=>by
  have no:∀vs H Q E,¬ spD K (fSame 0) vs H Q E:=λvs H Q E ⟨_,_,_,_,_,⟨_,_,hd,_⟩,_⟩=>hd;exact⟨λvs H Q E h=>absurd h (no vs H Q E),λA outer s H args us vs Q E _ _ _ _ h=>absurd h (no vs H Q E)⟩
 |m+1=>Znr mb C39 F b kp hm m
end
def fLeastL:DSp:=λds Post=>∃ns:List Int,ds=[.lst (ns.map .int)]/\0<ns.length/\ns.length<=100/\∀m,m∈ns->(∀a∈ns,m<=a)->Post (rowD (rotAt ns (ns.idxOf m)))
def fFaceOf:DSp:=λds Post=>∃n ts o,∃e:Nat,ds=[encWeb n ts,encOrd o,.int e]/\WebOk n ts/\OrdOk n ts o/\e<2*ts.length/\∀g:Nat,g<2*ts.length->leastB (onI ts o) g=true->(g:Int)∈orb (onI ts o) e->Post (rowD (orb (onI ts o) g))
noncomputable def allF (ts:List (Int × Int)) (o:List (List Int)):List (List Int):=Wad (lone o) []++facesTo (onI ts o) (2*ts.length)
def fFaces:NSp:=λds Post=>∃n ts o,ds=[encWeb n ts,encOrd o]/\WebOk n ts/\OrdOk n ts o/\Post ((allF ts o).map rowD)
theorem Zhn {n:Int}{ts:List (Int × Int)}{o:List (List Int)}(hW:WebOk n ts) (hO:OrdOk n ts o):(allF ts o).length<=150:=by
 unfold allF;rw[Wai,Wal];have:=Zcf (onI ts o) (2*ts.length);have:=Zfd o;have:=hO.len;have:=hW.hi;have:=hW.len;omega
theorem Zjg {n:Int}{ts:List (Int × Int)}{o:List (List Int)}(hW:WebOk n ts) (hO:OrdOk n ts o):Asc (allF ts o):=Zjb (Zdd hW hO) (Wah _) _
section
variable {P:Program}{w:World}{K:W.Frag}{mg:Str->Option Value}{base:Heap}{f:Addr}{fd:FuncData}
theorem Zm1 (mb:Mb mg) (F:Fun K "least_first" "least_first" s_least_first f fd):FnOk P w K mg base CX0 1 f fd ["ends"] (spD K fLeastL):=by
 refine F.ok sc_least_first (Zbk λds Post h=>by obtain⟨_,rfl,_⟩:=h;rfl) (λcdv A outer s H vs Q E hr h=>?_);have hu:=Zbx hr;refine⟨_,(Zae (Zbw (Zdv (truK K (pv 0) (λ_=>rfl))) (Zai (Zau (Zbn Zad))) Zav) (Zae (Zan (i:=1) sc_least_first.nd rfl (by first|exact Or.inl rfl|exact Or.inr rfl) (bmK K PySem.F.plainAttrs_list PySem.F.slot_list_index PySem.F.type_list_index (idxLK K) (pv 0) (Zaa (Zah (minK K rfl) rfl (mb "min" (by decide)) Zh3 (Zaa (pv 0) Zad)) Zad))) (Zai (Zau (Za0 (tupK K) rfl (mb "tuple" (by decide)) Za6 (Zaa (Zaq (addK K) (Zca (slK K) (pv 0) (Zda (pv 1)) Zc4) (Zca (slK K) (pv 0) Zc4 (Zda (pv 1)))) Zad)))))),Zd0 (λds Post hf=>?_) h⟩;obtain⟨ns,rfl,hp,hl,q⟩:=hf;refine⟨by simp,?_⟩;dsimp only[startD,Wbm,Wbs,Wba];obtain⟨m,hm,hle⟩:=Zb3 ns (Wdt.mp hp);obtain⟨i1,i2,i3⟩:=Zcm hm;refine Zak (Zb0 (Zcs (Zbu (Zac rfl ⟨true,?_,?_⟩))))
 ·cases ns with
  |nil=>simp at hp
  |cons x t=>rfl
 refine iteF (Za1 ?_);refine Zak (Zax (Zh6 (Zac rfl ⟨ns,rfl,by omega,Zat (Zab (Zac rfl (Zaf (Zi5 (Or.inl rfl) hm hle ⟨m,rfl,hm,?_⟩))))⟩)));have hj:ns.idxOf m<=(ns.map D.int).length:=by rw[Waa];omega
 refine Za3 (Zat (Zab (Zas (Zg4 (Zac rfl (Zc7 (Zac rfl ⟨_,rfl,Zc1 ⟨.lst ((ns.map D.int).drop (ns.idxOf m)),?_,?_⟩⟩)))))))
 ·show some (D.lst (cutD (ns.map D.int) (some ((ns.idxOf m:Nat):Int)) none))=_
  rw[Ze7 _ hj]
 refine Zg4 (Zac rfl (Zc1 (Zc7 (Zac rfl ⟨_,rfl,.lst ((ns.map D.int).take (ns.idxOf m)),?_,?_⟩))))
 ·show some (D.lst (cutD (ns.map D.int) none (some ((ns.idxOf m:Nat):Int))))=_
  rw[Zjy _ hj]
 refine Zg8 ?_ (Zaf (Zb8 (Or.inl rfl) ?_))
 ·rw[Wb5,Wbk,Waa]
  exact Wb1 (small1000 (by omega))
 have q':=q m hm hle;unfold rowD rotAt at q';rw[Wax,Wdl,Wdk]at q';exact q'
theorem Zkg (mb:Mb mg) (C48:Callee P w K mg base 3 "onward" ["web","order","end"] (spD K fOnw)) (C47:Callee P w K mg base 1 "least_first" ["ends"] (spD K fLeastL)) (F:Fun K "face_of" "face_of" s_face_of f fd):FnOk P w K mg base CX0 4 f fd ["web","order","end"] (spD K fFaceOf):=by
 refine F.ok sc_face_of (Zbk λds Post h=>by obtain⟨_,_,_,_,rfl,_⟩:=h;rfl) (λcdv A outer s H vs Q E hr h=>?_);have hu:=Zbx hr;refine⟨_,(Zae (Zan (i:=3) sc_face_of.nd rfl (by first|exact Or.inl rfl|exact Or.inr rfl) (Zes (Zaa (pv 2) Zad))) (Zae (Zan (i:=4) sc_face_of.nd rfl (by first|exact Or.inl rfl|exact Or.inr rfl) (Zay C48 (hr.mono (by first|decide|omega)) (Zaa (pv 0) (Zaa (pv 1) (Zaa (pv 2) Zad))))) (Zae (Zj0 PassesOwn.never (Zaw Zpy (pv 4) (pv 2) (nomark _)) (Zae (Zcr (bmK K PySem.F.plainAttrs_list PySem.F.slot_list_append PySem.F.type_list_append Zbv (pv 3) (Zaa (pv 4) Zad))) (Zai (Zan (i:=4) sc_face_of.nd rfl (by first|exact Or.inl rfl|exact Or.inr rfl) (Zay C48 (hr.mono (by first|decide|omega)) (Zaa (pv 0) (Zaa (pv 1) (Zaa (pv 4) Zad)))))))) (Zai (Zau (Zay C47 (hr.mono (by first|decide|omega)) (Zaa (pv 3) Zad))))))),Zd0 (λds Post hf=>?_) h⟩;obtain⟨n,ts,o,e,rfl,hW,hO,he,q⟩:=hf;refine⟨by simp,?_⟩;dsimp only[startD,Wbm,Wbs,Wba,Wad];have O:=Zdd hW hO;have hw:=hW.len;have h0:(0:Int)<=(e:Int):=by omega
 have h1:(e:Int)<((2*ts.length:Nat):Int):=by omega
 have onw:∀j:Nat,folOf ts o (partner (iter (onI ts o) e j).toNat)=iter (onI ts o) e (j+1):=λj=>rfl;refine Zak (Zbh (Zew (Zab (Zac rfl (Zaf ⟨by show 1<=sizeLine;decide,?_⟩)))));refine Zak (Zax (Za5 (Zab (Zac rfl (Zab (Zac rfl (Zab (Zac rfl (Zaf ⟨n,ts,o,e,rfl,hW,hO,he,?_⟩)))))))));refine Zbf (λΔ=>∃k:Nat,IsOrb (onI ts o) e k /\ Δ = [.val (encWeb n ts),.val (encOrd o),.val (.int e),.own (.lst ((walkL (onI ts o) e k).map .int)),.val (.int (iter (onI ts o) e k))]) ?_ ?_
 ·refine Zkd (fun μ Δ=>∃k:Nat,1<=k/\NdTo (onI ts o) e k /\ μ = 2*ts.length-k /\ Δ = [.val (encWeb n ts),.val (encOrd o),.val (.int e),.own (.lst ((walkL (onI ts o) e k).map .int)),.val (.int (iter (onI ts o) e k))]) ⟨_,1,Wah _,Zm4 O h0 h1,rfl,rfl⟩ ?_
  rintro μ Δ1 ⟨k,hk,nd,rfl,rfl⟩;have hkm:=Zhy O h0 h1 nd;refine Zbc (Zas (Zac rfl (Zac rfl (Zsn ⟨_,rfl,?_⟩))));by_cases hb:iter (onI ts o) e k=e
  ·rw[decide_eq_true hb]
   exact iteF ⟨k,⟨by omega,hb,nd⟩,rfl⟩
  ·rw[decide_eq_false hb]
   have nd2:=Zha O h0 h1 hk nd hb;have hkm2:=Zhy O h0 h1 nd2;have r:=Zb1 O h0 h1 k;refine iteT (Zak (Zfu rfl rfl (Zac rfl ⟨_,_,rfl,rfl,?_,?_⟩)))
   ·rw[Waa,Zbe];exact small1000 (by omega)
   refine Zax (Za5 (Zab (Zac rfl (Zab (Zac rfl (Zab (Zac rfl (Zaf ⟨n,ts,o,(iter (onI ts o) e k).toNat,?_,hW,hO,by omega,?_⟩))))))))
   ·rw[show (((iter (onI ts o) e k).toNat:Nat):Int)=iter (onI ts o) e k by omega]
   refine⟨2*ts.length-(k+1),by omega,k+1,by omega,nd2,rfl,?_⟩;rw[Zgg,Wax];rfl
 rintro Δ1 ⟨k,O1,rfl⟩;have hkm:=Zhy O h0 h1 O1.nd;refine Za3 (Za5 (Zab (Zcg rfl (Zaf ⟨walkL (onI ts o) e k,rfl,?_,?_,λx hx hle=>?_⟩))))
 ·rw[Zbe];exact O1.pos
 ·rw[Zbe];omega
 ·have eo:=O1.orb
  rw[<- eo]at hx hle ⊢;have rx:=Zjp O h0 h1 hx;obtain⟨j,hj,ej⟩:=Zbd.mp hx;have ei:(orb (onI ts o) e).idxOf x=j:=Zmv (Zfp O h0 h1) (by rw[<- ej];exact Zee hj);rw[ei,Zrr O h0 h1 hj,ej];have ex:((x.toNat:Nat):Int)=x:=by omega
  have:=q x.toNat (by omega) (by
   unfold leastB;rw[decide_eq_true_iff,ex];exact λz hz=>hle z (Zcj O h0 h1 hx hz)) (by rw[ex];exact hx)
  rw[ex]at this;exact this
theorem Zo5 (mb:Mb mg) (C40:Callee P w K mg base 4 "face_of" ["web","order","end"] (spD K fFaceOf)) (F:Fun K "faces" "faces" s_faces f fd):FnOk P w K mg base CX0 5 f fd ["web","order"] (spN K fFaces):=by
 refine F.ok sc_faces (Zfi λds Post h=>by obtain⟨_,_,_,rfl,_⟩:=h;rfl) (λcdv A outer s H vs Q E hr h=>?_);have hu:=Zbx hr;have hv:=Zom hr;refine⟨_,(Zae (Zdq (i:=2) ["row"] (show CompSc (defScope s_faces) ["web","order","told","gone","end","face","come"] _ [] [] from ⟨rfl,by decide +kernel,by decide +kernel,by decide +kernel,rfl,by decide +kernel⟩) rfl sc_faces.nd rfl (by first|exact Or.inl rfl|exact Or.inr rfl) (seqK K (pv 1)) (λ_ _ _ _ _=>(Zap (i:=0) (show List.Nodup (["row"]:List Str) from by decide) rfl (Or.inl rfl))) (λ_ _ _ _ _=>(Zni (Zdv (truK K (pv 0) (λ_=>rfl))))) (λ_ _ _ _ _=>(Zbn Zad))) (Zae (Zan (i:=3) sc_faces.nd rfl (by first|exact Or.inl rfl|exact Or.inr rfl) (Zkk Zk4 rfl (mb "set" (by decide)) Zst)) (Zae (Zde PassesOwn.never rfl (Zbj rfl (mb "range" (by decide)) (Zaa (Zaq Zdf Zag (Zah (lenK K) rfl (mb "len" (by decide)) Za9 (Zaa (Zbo (ixK K hu) (pv 0) Zag (λ_ _=>rfl)) Zad))) Zad)) (Zap (i:=4) sc_faces.nd rfl (by first|exact Or.inl rfl|exact Or.inr rfl)) (Zai (Zbw (Zaw (notinK K hu) (pv 4) (pv 3) rfl) (Zae (Zan (i:=5) sc_faces.nd rfl (by first|exact Or.inl rfl|exact Or.inr rfl) (Zay C40 (hr.mono (by first|decide|omega)) (Zaa (pv 0) (Zaa (pv 1) (Zaa (pv 4) Zad))))) (Zae (Zcr (bmK K PySem.F.plainAttrs_list PySem.F.slot_list_append PySem.F.type_list_append Zbv (pv 2) (Zaa (pv 5) Zad))) (Zai (Zde PassesOwn.never rfl (seqK K (pv 5)) (Zap (i:=6) sc_faces.nd rfl (by first|exact Or.inl rfl|exact Or.inr rfl)) (Zai (Zcr (bmK K PySem.F.plainAttrs_set PySem.F.slot_set_add PySem.F.type_set_add Zq9 (pv 3) (Zaa (pv 6) Zad)))))))) Zav))) (Zai (Zau (Zah (sortRK K hv) rfl (mb "sorted" (by decide)) Zek (Zaa (pv 2) Zad))))))),Zmm (λds Post hf=>?_) h⟩;obtain⟨n,ts,o,rfl,hW,hO,q⟩:=hf;refine⟨by simp,?_⟩;dsimp only[startD,Wbm,Wbs,Wba,Wad];have O:=Zdd hW hO;have hw:=hW.len;have hn:=hW.hi;have ho:=hO.len;have hlone:=Zfd o;refine Zak (Zbh (Zel (by decide) (Zd1 (Zac rfl ⟨_,rfl,?_,λd=>match d with|.tup ds=>ds.isEmpty|_=>false,λ_=>.tup [],λi d hd=>?_,?_⟩))))
 ·rw[Waa];exact small1000 (by omega)
 ·rw[Wag]at hd
  cases z:o[i]? with
  |none=>rw[z]at hd;cases hd
  |some r=>
   rw[z]at hd;have hd:encRow r=d:=by simpa using hd
   subst hd;refine Zcs (Zbu (Zac rfl ⟨_,rfl,?_,?_⟩))
   ·cases r <;> rfl
   ·cases r with
    |nil=>exact iteT (Zbr (Zaf ⟨by decide,rfl,_,rfl⟩))
    |cons x t=>exact iteF ⟨_,rfl⟩
 rw[show o.map encRow=o.map rowD from rfl,Zhz o _ (λr=>by cases r <;> rfl) _ λ_=>rfl]
 refine Zak (Zbh (Zqz ?_));refine Zbf (λΔ=>∃(S:Int->Bool) (c:Nat) (x4 x5 x6:L2.Slot),Δ = [.val (encWeb n ts),.val (encOrd o),.own (.lst ((allF ts o).map rowD)),.own (.set S c),x4,x5,x6]) ?_ ?_
 ·refine Zdb (Zbi ?_)
  refine Zab (Zas (Zao (Zat ?_)));refine Zab (Zas (Zac rfl (Zao (Zbz (d:=.tup (ts.map encTie)) rfl ?_))));refine Zaf (Zbq (Or.inr rfl) ?_);rw[Waa];refine jr_I (Or.inl ⟨by omega,by omega⟩) (Zaf ⟨_,rfl,by omega,by omega,?_⟩);have eL:((2:Int)*(ts.length:Int)).toNat=2*ts.length:=by omega
  rw[eL];refine⟨λk Δ=>∃(S:Int->Bool) (c:Nat) (x4 x5 x6:L2.Slot),(∀x,S x=true↔MetTo (onI ts o) k x)/\c<=48*k /\ Δ = [.val (encWeb n ts),.val (encOrd o),.own (.lst ((Wad (lone o) []++facesTo (onI ts o) k).map rowD)),.own (.set S c),x4,x5,x6],⟨λ_=>false,0,.any,.any,.any,λx=>?_,by omega,?_⟩,?_,?_⟩
  ·constructor
   ·intro z;cases z
   ·rintro⟨e,he,_⟩;omega
  ·rw[show facesTo (onI ts o) 0=[] from rfl,Wa3];rfl
  ·rintro k d Δ2 hd ⟨S,c,x4,x5,x6,hS,hc,rfl⟩
   obtain⟨hk,rfl⟩:=Zb9 hd;rw[Wcr];have fl:=Zcf (onI ts o) k;refine Zbm (Zb0 (Zbc (Zsw (Zac rfl ⟨_,S,c,_,rfl,rfl,rfl,_,rfl,?_⟩))));by_cases hm:S (k:Int)=true
   ·rw[hm]
    refine iteF (Za1 ⟨S,c,.val (.int (k:Int)),x5,x6,λx=>?_,by omega,?_⟩)
    ·have hl:=(Zcu O hk).mp ((hS _).mp hm)
     rw[hS,Ze1 O hk,hl];simp
    ·have hl:=(Zcu O hk).mp ((hS _).mp hm)
     rw[Zcp,if_neg (by rw[hl];exact Waj),Wa3];rfl
   ·have hl:leastB (onI ts o) k=true:=by
     cases z:leastB (onI ts o) k with
     |true=>rfl
     |false=>exact absurd ((hS _).mpr ((Zcu O hk).mpr z)) hm
    rw[Wc5.mpr hm];have ol:=Zp7 O (e:=(k:Int)) (by omega) (by omega);refine iteT (Zak (Zax (Za5 (Zab (Zac rfl (Zab (Zac rfl (Zab (Zac rfl (Zaf ⟨n,ts,o,k,rfl,hW,hO,hk,λg hg hlg hin=>?_⟩))))))))));have egk:g=k:=by
     have a:=of_decide_eq_true (show decide (∀x∈orb (onI ts o) (k:Int),(k:Int)<=x)=true from hl) _ hin;have b:=of_decide_eq_true (show decide (∀x∈orb (onI ts o) (g:Int),(g:Int)<=x)=true from hlg) _ (Zcn O (by omega) (by omega) hin);omega
    subst egk;refine Zak (Zfu rfl rfl (Zac rfl ⟨_,_,rfl,rfl,?_,?_⟩))
    ·rw[Waa,Wai,Wal];exact small1000 (by omega)
    refine Zdb (Zd1 (Zac rfl ⟨_,rfl,λi Δ=>∃(S2:Int->Bool) (c2:Nat) (x6:L2.Slot),(∀x,S2 x=true↔MetTo (onI ts o) g x\/x∈(orb (onI ts o) (g:Int)).take i)/\c2<=48*g+i /\ Δ = [.val (encWeb n ts),.val (encOrd o),.own (.lst ((Wad (lone o) []++facesTo (onI ts o) g).map rowD++[rowD (orb (onI ts o) (g:Int))])),.own (.set S2 c2),.val (.int (g:Int)),.val (rowD (orb (onI ts o) (g:Int))),x6],⟨S,c,_,λx=>by rw[Wdi];simp[hS],by omega,rfl⟩,?_,?_⟩))
    ·rintro i d Δ3 hd ⟨S2,c2,x6,hS2,hc2,rfl⟩
     rw[Wag]at hd;cases z:(orb (onI ts o) (g:Int))[i]? with
     |none=>rw[z]at hd;cases hd
     |some y=>
      rw[z]at hd;have hd:D.int y=d:=by simpa using hd
      subst hd;have hi:=(Wae.mp z).1;refine Zbm (Zp6 rfl rfl (Zac rfl ⟨_,S2,c2,y,rfl,rfl,rfl,by omega,_,_,_,λx=>?_,?_,rfl⟩))
      ·rw[Wbp,z]
       simp only[Bool.or_eq_true,decide_eq_true_eq,hS2,Option.toList_some,Wbo,Wbl];exact or_assoc
      ·split <;> omega
    ·rintro Δ3 ⟨S2,c2,x6,hS2,hc2,rfl⟩
     rw[Waa]at hS2 hc2;rw[Wbn]at hS2;refine⟨S2,c2,.val (.int (g:Int)),.val (rowD (orb (onI ts o) (g:Int))),x6,λx=>?_,by omega,?_⟩
     ·rw[hS2,Ze1 O hk,hl];simp
     ·rw[Zcp,if_pos hl,<- Wa6,Wax (l₂:=[orb (onI ts o) (g:Int)])]
      rfl
  ·rintro Δ2 ⟨S,c,x4,x5,x6,hS,hc,rfl⟩
   rw[Zba];exact⟨S,c,_,_,_,rfl⟩
 rintro Δ1 ⟨S,c,x4,x5,x6,rfl⟩;have al:=Zhn hW hO;exact Zfh (Zju (Zab (Zcg rfl (Zaf ⟨_,rfl,by omega,Zjg hW hO,_,rfl,q⟩))))
end
def rowPairsF (r:List Int):List (Int × Int):=(Wa1 r.length).map λk=>(r.getD k 0,r.getD ((k+1) % r.length) 0)
theorem Zc9 (r:List Int):(rowPairsF r).length=r.length:=by simp[rowPairsF]
theorem Zc8 {r:List Int}{k:Nat}(h:k<r.length):(rowPairsF r)[k]?=some (r.getD k 0,r.getD ((k+1) % r.length) 0):=by
 unfold rowPairsF;rw[Wag,Wcl h];rfl
theorem Zf0 (r:List Int):(rowPairsF r).map (·.1)=r:=by
 apply Wb9;intro k;rw[Wag];by_cases h:k<r.length
 ·rw[Zc8 h,Wab h,Waf,Wab h];rfl
 ·rw[Wb0 (by rw[Zc9];omega),Wb0 (by omega)];rfl
theorem Zkr {r:List Int}{x:Int}(h:x∈r):(x,nextIn r x)∈rowPairsF r:=by
 obtain⟨h1,h2,_⟩:=Zcm h;refine Wak (i:=r.idxOf x) ?_;rw[Zc8 h1];congr 1;rw[Waf,h2];rfl
theorem Zd7 (o:List (List Int)):(o.flatMap rowPairsF).map (·.1)=o.flatten:=by
 induction o with
 |nil=>rfl
 |cons r o ih=>rw[List.flatMap_cons,Wax,ih,Zf0,Wbg]
theorem Zn0 {n:Int}{ts:List (Int × Int)}{o:List (List Int)}(hW:WebOk n ts) (hO:OrdOk n ts o) {e:Nat}(he:e<2*ts.length):valD ((o.flatMap rowPairsF).map encPair) (.inl (e:Int))=some (.int (folOf ts o e)):=by
 obtain⟨g1,g2,g3⟩:=Zb4 hW hO he;exact Zps (by rw[Zd7];exact hO.flat) (List.mem_flatMap.mpr ⟨_,Wak g1,Zkr g3⟩)
theorem Zkf {A B:List (Int × Int)}{y:Int × Int}(h:((A++y::B).map (·.1)).Nodup):y.1 ∉ A.map (·.1):=by
 rw[Wax,Wct]at h;intro hm;exact h.2.2 _ hm _ (by rw[Wa4];exact Waw) rfl
def encMet (x:Int):Key × D:=(.inl x,.bl true)
theorem Zq2 (ms:List Int) (x:Int):(valD (ms.map encMet) (.inl x)).isSome=decide (x∈ms):=by
 induction ms with
 |nil=>rfl
 |cons y ms ih=>
  unfold valD at ih ⊢;rw[Wa4];by_cases h:y=x
  ·subst h
   rw[Wc3 (by simp[encMet])];simp
  ·rw[Wcc (by simp[encMet];exact h),ih]
   have:(x∈y::ms)↔x∈ms:=by simp[Ne.symm h]
   exact decide_eq_decide.mpr this.symm
theorem Zrg {ms:List Int}{x:Int}(h:x ∉ ms):putD (ms.map encMet) (.inl x) (.bl true)=(ms++[x]).map encMet:=by
 unfold putD;rw[if_neg,Wax]
 ·rfl
 ·rw[List.any_map,List.any_eq_true]
  rintro⟨z,hz,e⟩;have e:(Sum.inl z:Key)=Sum.inl x:=of_decide_eq_true e;injection e with e
  exact h (e ▸ hz)
def fLFaces:NSp:=λds Post=>∃n ts o,ds=[encOrd o]/\WebOk n ts/\OrdOk n ts o/\Post ((allF ts o).map rowD)
section
variable {P:Program}{w:World}{K:W.Frag}{mg:Str->Option Value}{base:Heap}{f:Addr}{fd:FuncData}
theorem Zi0 {Δ:Evt}{Pd:D->Evt->Prop}{n:Nat}{x:L2.Slot}{kvs:List (Key × D)}(hx:Δ[n]?=some x) (ho:x.od=some (.dct kvs)) (p:Pd (.int kvs.length) Δ):JE K (tCB (rLenU K) (tCons (tVar n) tNil)) Δ Pd:=λg G H σ Q k c=>by
 obtain⟨a,o,h1,h2,h3,h4,h5⟩:=k.own n x _ hx ho;cases o with
 |dK vs=>
  have hl:vs.length=kvs.length:=Paired.length h3;refine⟨.ref a,h1,.inr ⟨a,vs,rfl,h2,?_⟩⟩;rw[hl];exact c _ _ G H Δ k (Same.refl _) (.int _) p
 |_=>exact absurd h3 (λz=>z)
theorem Znt (mb:Mb mg) (C35:Callee P w K mg base 1 "_law_partner" ["_law_end"] (spD K fPart)) (F:Fun K "_law_faces" "_law_faces" s_law_faces f fd):FnOk P w K mg base CX0 2 f fd ["_law_order_here"] (spN K fLFaces):=by
 refine F.ok sc_law_faces (Zfi λds Post h=>by obtain⟨_,_,_,rfl,_⟩:=h;rfl) (λcdv A outer s H vs Q E hr h=>?_);have hu:=Zbx hr;have hv:=Zom hr;refine⟨_,(Zae (Zan (i:=1) sc_law_faces.nd rfl (by first|exact Or.inl rfl|exact Or.inr rfl) Zg5) (Zae (Zde PassesOwn.never rfl (seqK K (pv 0)) (Zap (i:=2) sc_law_faces.nd rfl (by first|exact Or.inl rfl|exact Or.inr rfl)) (Zai (Zde PassesOwn.never rfl (Zbj rfl (mb "range" (by decide)) (Zaa (Zah (lenK K) rfl (mb "len" (by decide)) Za9 (Zaa (pv 2) Zad)) Zad)) (Zap (i:=3) sc_law_faces.nd rfl (by first|exact Or.inl rfl|exact Or.inr rfl)) (Zai (Zfc (Zbo (ixK K hu) (pv 2) (Zaq Zby (Zaq (addK K) (pv 3) Zag) (Zah (lenK K) rfl (mb "len" (by decide)) Za9 (Zaa (pv 2) Zad))) (λ_ _=>rfl)) (Zgl (pv 1) (Zbo (ixK K hu) (pv 2) (pv 3) (λ_ _=>rfl)) (setU hu))))))) (Zae (Zdq (i:=4) ["_law_row"] (show CompSc (defScope s_law_faces) ["_law_order_here","_law_behind","_law_row","_law_k","_law_found","_law_met","_law_end","_law_walk","_law_at"] _ [] [] from ⟨rfl,by decide +kernel,by decide +kernel,by decide +kernel,rfl,by decide +kernel⟩) rfl sc_law_faces.nd rfl (by first|exact Or.inl rfl|exact Or.inr rfl) (seqK K (pv 0)) (λ_ _ _ _ _=>(Zap (i:=0) (show List.Nodup (["_law_row"]:List Str) from by decide) rfl (Or.inl rfl))) (λ_ _ _ _ _=>(Zni (Zaw Zb7 (Zah (lenK K) rfl (mb "len" (by decide)) Za9 (Zaa (pv 0) Zad)) Zag (nomark _)))) (λ_ _ _ _ _=>(Zbn Zad))) (Zae (Zan (i:=5) sc_law_faces.nd rfl (by first|exact Or.inl rfl|exact Or.inr rfl) Zg5) (Zae (Zde PassesOwn.never rfl (Zbj rfl (mb "range" (by decide)) (Zaa (Zah (lenK K) rfl (mb "len" (by decide)) Za9 (Zaa (pv 1) Zad)) Zad)) (Zap (i:=6) sc_law_faces.nd rfl (by first|exact Or.inl rfl|exact Or.inr rfl)) (Zae (Zan (i:=7) sc_law_faces.nd rfl (by first|exact Or.inl rfl|exact Or.inr rfl) (Zes Zad)) (Zae (Zan (i:=8) sc_law_faces.nd rfl (by first|exact Or.inl rfl|exact Or.inr rfl) (pv 6)) (Zae (Zj0 PassesOwn.never (Zaw (notinK K hu) (pv 8) (pv 5) rfl) (Zae (Zfc Zlz (Zgl (pv 5) (pv 8) (setU hu))) (Zae (Zcr (bmK K PySem.F.plainAttrs_list PySem.F.slot_list_append PySem.F.type_list_append Zbv (pv 7) (Zaa (pv 8) Zad))) (Zai (Zan (i:=8) sc_law_faces.nd rfl (by first|exact Or.inl rfl|exact Or.inr rfl) (Zbo (ixK K hu) (pv 1) (Zay C35 (hr.mono (by first|decide|omega)) (Zaa (pv 8) Zad)) (λ_ _=>rfl))))))) (Zai (Zbw (Zaw Zml (Zah (lenK K) rfl (mb "len" (by decide)) Za9 (Zaa (pv 7) Zad)) Zag (nomark _)) (Zai (Zcr (bmK K PySem.F.plainAttrs_list PySem.F.slot_list_append PySem.F.type_list_append Zbv (pv 4) (Zaa (Za0 (tupK K) rfl (mb "tuple" (by decide)) Za6 (Zaa (pv 7) Zad)) Zad)))) Zav)))))) (Zai (Zau (Zah (sortRK K hv) rfl (mb "sorted" (by decide)) Zek (Zaa (pv 4) Zad))))))))),Zmm (λds Post hf=>?_) h⟩;obtain⟨n,ts,o,rfl,hW,hO,q⟩:=hf;refine⟨by simp,?_⟩;dsimp only[startD,Wbm,Wbs,Wba,Wad];have O:=Zdd hW hO;have hw:=hW.len;have hn:=hW.hi;have ho:=hO.len;have hlone:=Zfd o;have hfe:=hO.flat_eq hW;have hpn:((o.flatMap rowPairsF).map (·.1)).Nodup:=by rw[Zd7];exact hO.flat
 have hpl:(o.flatMap rowPairsF).length=2*ts.length:=by rw[<- hfe,<- Zd7,Waa]
 refine Zak (Zbh (Ziu ?_));refine Zbf (λΔ=>∃x2 x3:L2.Slot,Δ = [.val (encOrd o),.own (.dct ((o.flatMap rowPairsF).map encPair)),x2,x3,.any,.any,.any,.any,.any]) ?_ ?_
 ·refine Zdb (Zd1 (Zac rfl ⟨o.map encRow,rfl,λi Δ=>∃x2 x3:L2.Slot,Δ = [.val (encOrd o),.own (.dct (((o.take i).flatMap rowPairsF).map encPair)),x2,x3,.any,.any,.any,.any,.any],⟨_,_,rfl⟩,?_,?_⟩))
  ·rintro i d Δ2 hd ⟨x2,x3,rfl⟩
   rw[Wag]at hd;cases z:o[i]? with
   |none=>rw[z]at hd;cases hd
   |some r=>
    rw[z]at hd;have hd:encRow r=d:=by simpa using hd
    subst hd;have hi:i<o.length:=(Wae.mp z).1;have tk:o.take (i+1)=o.take i++[r]:=by rw[Wbp,z];rfl
    have eo:o.flatMap rowPairsF=(o.take i).flatMap rowPairsF++(rowPairsF r++(o.drop (i+1)).flatMap rowPairsF):=by
     conv=>lhs;rw[<- Wbt (i+1) o,tk]
     rw[Wdu,Wdu];simp[Wa6]
    have hrl:r.length<=48:=by have:=(hO.row i r z).len;omega
    refine Zbm (Zdb (Zbi (Zab (Zat (Zab (Zac rfl (Zaf (Zbq (Or.inr rfl) (Zaf ⟨_,rfl,?_,?_,?_⟩)))))))))
    ·rw[Waa];omega
    ·rw[Waa];omega
    rw[Waa,Wa7];refine⟨λk Δ=>∃x3:L2.Slot,Δ = [.val (encOrd o),.own (.dct (((o.take i).flatMap rowPairsF++(rowPairsF r).take k).map encPair)),.val (encRow r),x3,.any,.any,.any,.any,.any],⟨_,by rw[Wdi,Wa3];rfl⟩,?_,?_⟩
    ·rintro k d Δ2 hd ⟨x3,rfl⟩
     obtain⟨hk,rfl⟩:=Zb9 hd;have hg:=Zc8 hk;have a1:atI (r.map D.int) (0+(k:Int))=some (.int (r.getD k 0)):=by
      rw[Wcr];exact Zc6 (by rw[Wag,Waf,Wab hk];rfl)
     have hm:(k+1) % r.length<r.length:=Nat.mod_lt _ (by omega);have a2:atI (r.map D.int) ((0+(k:Int)+1) % (r.length:Int))=some (.int (r.getD ((k+1) % r.length) 0)):=by
      rw[show (0+(k:Int)+1) % (r.length:Int)=(((k+1) % r.length:Nat):Int) by push_cast;rw[Wcr]];exact Zc6 (by rw[Wag,Waf,Wab hm];rfl)
     refine Zbm (Zis (Zas (Zac rfl (Zas (Zas (Zac rfl (Zao (Zcq ?_))))))));refine Zat (Zab (Zac rfl (Zaf (Zbq (Or.inr rfl) ?_))));rw[Waa];refine jr_I (by show (0:Int)<_;omega) (Zbz a2 ⟨⟨_,_,rfl,rfl⟩,Zas (Zac rfl (Zac rfl (Zbz a1 ⟨_,_,_,rfl,rfl,rfl,?_,?_⟩)))⟩)
     ·rw[Waa,Wai,Wbk]
      rw[eo,Wai,Wai,Zc9]at hpl;exact small1000 (by omega)
     ·have eT:(rowPairsF r).take (k+1)=(rowPairsF r).take k++[(r.getD k 0,r.getD ((k+1) % r.length) 0)]:=by rw[Wbp,hg];rfl
      have eD:rowPairsF r=(rowPairsF r).take k++(r.getD k 0,r.getD ((k+1) % r.length) 0)::(rowPairsF r).drop (k+1):=by
       conv=>lhs;rw[<- Wbt (k+1) (rowPairsF r),eT]
       simp
      have hk2:=hpn;rw[eo,eD,Wa6,<- Wa6,Wdz]at hk2;refine⟨.val (.int (0+(k:Int))),?_⟩;show [_,L2.Slot.own (.dct (putD _ _ _)),_,_,_,_,_,_,_]=_;rw[Zk8 (Zkf hk2),eT,Wa6]
    ·rintro Δ2 ⟨x3,rfl⟩
     rw[Zba];refine⟨.val (encRow r),x3,?_⟩;rw[Wc2 (l:=rowPairsF r) (by rw[Zc9];exact Wah _),tk,Wdu];simp
  ·rintro Δ2 ⟨x2,x3,rfl⟩
   rw[Waa,Wbn];exact⟨x2,x3,rfl⟩
 rintro Δ1 ⟨x2,x3,rfl⟩;refine Zak (Zbh (Zel (by decide) (Zd1 (Zac rfl ⟨_,rfl,?_,λd=>match d with|.tup ds=>decide ((ds.length:Int)=0)|_=>false,λ_=>.tup [],λi d hd=>?_,?_⟩))))
 ·rw[Waa];exact small1000 (by omega)
 ·rw[Wag]at hd
  cases z:o[i]? with
  |none=>rw[z]at hd;cases hd
  |some r=>
   rw[z]at hd;have hd:encRow r=d:=by simpa using hd
   subst hd;refine Zbc (Zas (Zat (Zab (Zac rfl (Zaf (Zbq (Or.inr rfl) (Zao (Zex ⟨_,rfl,rfl,?_⟩))))))));by_cases hz:((r.map D.int).length:Int)=0
   ·rw[decide_eq_true hz]
    exact iteT (Zbr (Zaf ⟨by decide,rfl,_,rfl⟩))
   ·rw[decide_eq_false hz]
    exact iteF ⟨_,rfl⟩
 rw[show o.map encRow=o.map rowD from rfl,Zhz o _ (λr=>by
  show decide (((r.map D.int).length:Int)=0)=r.isEmpty;cases r with
  |nil=>rfl
  |cons x t=>rw[Waa,Wap];exact decide_eq_false (by omega)) _ λ_=>rfl]
 refine Zak (Zbh (Ziu ?_));refine Zbf (λΔ=>∃(ms:List Int) (x6 x7 x8:L2.Slot),Δ = [.val (encOrd o),.own (.dct ((o.flatMap rowPairsF).map encPair)),x2,x3,.own (.lst ((allF ts o).map rowD)),.own (.dct (ms.map encMet)),x6,x7,x8]) ?_ ?_
 ·refine Zdb (Zbi (Zab (Zi0 rfl rfl (Zaf ⟨_,rfl,?_,?_,?_⟩))))
  ·omega
  ·rw[Waa,hpl];omega
  rw[Waa,hpl,Wa7];refine⟨λk Δ=>∃(ms:List Int) (x6 x7 x8:L2.Slot),(∀x,x∈ms↔MetTo (onI ts o) k x)/\ms.length<=48*k /\ Δ = [.val (encOrd o),.own (.dct ((o.flatMap rowPairsF).map encPair)),x2,x3,.own (.lst ((Wad (lone o) []++facesTo (onI ts o) k).map rowD)),.own (.dct (ms.map encMet)),x6,x7,x8],⟨[],.any,.any,.any,λx=>?_,by simp,?_⟩,?_,?_⟩
  ·constructor
   ·intro z;cases z
   ·rintro⟨e,he,_⟩;omega
  ·rw[show facesTo (onI ts o) 0=[] from rfl,Wa3];rfl
  ·rintro k d Δ2 hd ⟨ms,x6,x7,x8,hms,hml,rfl⟩
   obtain⟨hk,rfl⟩:=Zb9 hd;rw[Wcr];have h0:(0:Int)<=(k:Int):=by omega
   have h1:(k:Int)<((2*ts.length:Nat):Int):=by omega
   have fl:=Zcf (onI ts o) k;refine Zbm (Zak (Zbh (Zew (Zaf ⟨by decide,?_⟩))));refine Zak (Zax (Zac rfl ?_));refine Zbf (λΔ=>∃j:Nat,((j=0/\MetTo (onI ts o) k (k:Int))\/(IsOrb (onI ts o) (k:Int) j/\¬ MetTo (onI ts o) k (k:Int))) /\ Δ = [.val (encOrd o),.own (.dct ((o.flatMap rowPairsF).map encPair)),x2,x3,.own (.lst ((Wad (lone o) []++facesTo (onI ts o) k).map rowD)),.own (.dct ((ms++walkL (onI ts o) (k:Int) j).map encMet)),.val (.int (k:Int)),.own (.lst ((walkL (onI ts o) (k:Int) j).map .int)),.val (.int (iter (onI ts o) (k:Int) j))]) ?_ ?_
   ·refine Zkd (fun μ Δ=>∃j:Nat,(j=0\/¬ MetTo (onI ts o) k (k:Int))/\NdTo (onI ts o) (k:Int) j /\ μ = 2*ts.length-j /\ Δ = [.val (encOrd o),.own (.dct ((o.flatMap rowPairsF).map encPair)),x2,x3,.own (.lst ((Wad (lone o) []++facesTo (onI ts o) k).map rowD)),.own (.dct ((ms++walkL (onI ts o) (k:Int) j).map encMet)),.val (.int (k:Int)),.own (.lst ((walkL (onI ts o) (k:Int) j).map .int)),.val (.int (iter (onI ts o) (k:Int) j))]) ⟨_,0,.inl rfl,λi j hi=>by omega,rfl,?_⟩ ?_
    ·rw[show walkL (onI ts o) (k:Int) 0=[] from rfl,Wa3];rfl
    rintro μ Δ1 ⟨j,hj,nd,rfl,rfl⟩;have hjm:=Zhy O h0 h1 nd;have r:=Zb1 O h0 h1 j;refine Zbc (Zsb (Zac rfl ⟨_,_,_,rfl,rfl,rfl,_,rfl,?_⟩));rw[Zq2];by_cases hb:iter (onI ts o) (k:Int) j∈ms++walkL (onI ts o) (k:Int) j
    ·rw[decide_eq_true hb]
     refine iteF ⟨j,?_,rfl⟩;rcases Wbo.mp hb with hb|hb
     ·have hM:MetTo (onI ts o) k (k:Int):=(Zjo O (by omega) h0 h1 j).mp ((hms _).mp hb)
      rcases hj with hj|hj
      ·exact .inl ⟨hj,hM⟩
      ·exact absurd hM hj
     ·obtain⟨i,hi,e⟩:=Zbd.mp hb
      have hj1:1<=j:=by omega
      have hj2:¬ MetTo (onI ts o) k (k:Int):=by
       rcases hj with hj|hj
       ·omega
       ·exact hj
      refine .inr ⟨⟨by omega,?_,nd⟩,hj2⟩;apply Classical.byContradiction;intro hne;have:=Zha O h0 h1 hj1 nd hne i j (by omega) (by omega) e;omega
    ·rw[decide_eq_false hb]
     rw[Wbo,not_or]at hb;have hM:¬ MetTo (onI ts o) k (k:Int):=λz=>hb.1 ((hms _).mpr ((Zjo O (by omega) h0 h1 j).mpr z));have nd2:NdTo (onI ts o) (k:Int) (j+1):=by
      by_cases hj0:j=0
      ·subst hj0;exact Zm4 O h0 h1
      ·refine Zha O h0 h1 (by omega) nd λz=>hb.2 (Zbd.mpr ⟨0,by omega,z.symm⟩)
     have hjm2:=Zhy O h0 h1 nd2;refine iteT (Zak (Zis (Zru ⟨⟨_,_,rfl,rfl⟩,Zac rfl ⟨_,_,_,rfl,rfl,rfl,?_,?_⟩⟩)))
     ·rw[Waa,Wai,Zbe]
      refine Wb3 (m:=48*48+48) (by omega) (by decide)
     refine Zak (Zfu rfl rfl (Zac rfl ⟨_,_,rfl,rfl,?_,?_⟩))
     ·rw[Waa,Zbe];exact small1000 (by omega)
     have hp:=Za8 (show (iter (onI ts o) (k:Int) j).toNat<2*ts.length by omega);refine Zax (Zfl rfl rfl (Za5 (Zab (Zac rfl (Zaf ⟨(iter (onI ts o) (k:Int) j).toNat,?_,_,_,_,_,rfl,rfl,rfl,Zn0 hW hO hp,?_⟩)))))
     ·rw[show (((iter (onI ts o) (k:Int) j).toNat:Nat):Int)=iter (onI ts o) (k:Int) j by omega]
     refine⟨2*ts.length-(j+1),by omega,j+1,.inr hM,nd2,rfl,?_⟩;show [_,_,_,_,_,L2.Slot.own (.dct (putD _ _ _)),_,L2.Slot.own (.lst _),_]=_;rw[Zrg (by rw[Wbo,not_or];exact hb),Zgg,Wa6,Wax (f:=D.int)];rfl
   rintro Δ1 ⟨j,hj,rfl⟩;refine Zb0 (Zbc (Zas (Zhb rfl rfl (Zao (Zhx ⟨_,rfl,?_⟩)))));rw[Waa,Zbe];rcases hj with ⟨rfl,hM⟩|⟨hI,hM⟩
   ·have hl:=(Zcu O hk).mp hM
    refine iteF (Za1 ⟨ms,.val (.int (k:Int)),.own (.lst []),.val (.int (k:Int)),λx=>?_,by omega,?_⟩)
    ·rw[hms,Ze1 O hk,hl];simp
    ·rw[Zcp,if_neg (by rw[hl];exact Waj),Wa3,show walkL (onI ts o) (k:Int) 0=[] from rfl,Wa3]
     rfl
   ·have hl:leastB (onI ts o) k=true:=by
     cases z:leastB (onI ts o) k with
     |true=>rfl
     |false=>exact absurd ((Zcu O hk).mpr z) hM
    have hjm:=Zhy O h0 h1 hI.nd;have eo:=hI.orb;rw[show decide ((0:Int)<(j:Int))=true from decide_eq_true (by have:=hI.pos;omega)];refine iteT (Zfu rfl rfl (Zat (Zab (Zcg rfl (Zaf (Zb8 (Or.inl rfl) ⟨_,_,rfl,rfl,?_,ms++walkL (onI ts o) (k:Int) j,.val (.int (k:Int)),.val (.lst ((walkL (onI ts o) (k:Int) j).map .int)),.val (.int (iter (onI ts o) (k:Int) j)),λx=>?_,?_,?_⟩))))))
    ·rw[Waa,Wai,Wal];exact small1000 (by omega)
    ·rw[Wbo,hms,Ze1 O hk,hl,<- eo];simp
    ·rw[Wai,Zbe];omega
    ·rw[Zcp,if_pos hl,<- Wa6,Wax (l₂:=[orb (onI ts o) (k:Int)]),eo]
     rfl
  ·rintro Δ2 ⟨ms,x6,x7,x8,hms,hml,rfl⟩
   rw[Zba];exact⟨ms,_,_,_,rfl⟩
 rintro Δ1 ⟨ms,x6,x7,x8,rfl⟩;have al:=Zhn hW hO;exact Zfh (Zju (Zab (Zcg rfl (Zaf ⟨_,rfl,by omega,Zjg hW hO,_,rfl,q⟩))))
def fMixed:BSp:=λps ds Post=>Pen ps/\∃xs:List D,ds=[.lst xs]/\xs.length<=150/\∀ys ps',Pen ps' -> ys.Perm xs->Post (.lst ys) ps'
theorem Zoq {α:Type}(l:List α) (j:Nat) (x:α):(l.take j++x::l.drop j).Perm (l++[x]):=by
 refine List.perm_middle.trans ?_;rw[Wbt];exact(List.perm_append_singleton _ _).symm
theorem Zpl (mb:Mb mg) (C28:Callee P w K mg base 1 "_law_draw" ["_law_pen_here","_law_many"] (spB K fDraw)) (F:Fun K "_law_mixed" "_law_mixed" s_law_mixed f fd):FnOk P w K mg base CX0 2 f fd ["_law_pen_here","_law_things"] (spB K fMixed):=by
 refine F.ok sc_law_mixed (Zd2 λps ds Post h=>by obtain⟨_,_,rfl,_⟩:=h;rfl) (λcdv A outer s H vs Q E hr h=>?_);have hu:=Zbx hr;refine⟨_,(Zae (Zan (i:=2) sc_law_mixed.nd rfl (by first|exact Or.inl rfl|exact Or.inr rfl) (Zes Zad)) (Zae (Zde PassesOwn.never rfl (seqK K (pv 1)) (Zap (i:=3) sc_law_mixed.nd rfl (by first|exact Or.inl rfl|exact Or.inr rfl)) (Zai (Zcr (bmK K PySem.F.plainAttrs_list PySem.F.slot_list_insert PySem.F.type_list_insert Zic (pv 2) (Zaa (Zay C28 (hr.mono (by first|decide|omega)) (Zaa (pv 0) (Zaa (Zaq (addK K) (Zah (lenK K) rfl (mb "len" (by decide)) Za9 (Zaa (pv 2) Zad)) Zag) Zad))) (Zaa (pv 3) Zad)))))) (Zai (Zau (pv 2))))),Zi3 (λps ds Post hf=>?_) h⟩;obtain⟨hp,xs,rfl,hl,q⟩:=hf;refine⟨by simp,?_⟩;dsimp only[cxOf,startD,Wbm,Wbs,Wba,Wad];refine Zak (Zbh (Zew (Zaf ⟨by decide,?_⟩)));refine Zbf (λΔ=>∃(psx ys:List D) (x3:L2.Slot),Pen psx/\ys.Perm xs /\ Δ = [.bor (.lst psx),.val (.lst xs),.own (.lst ys),x3]) ?_ ?_
 ·refine Zdb (Zge (Zac rfl ⟨_,Or.inl rfl,λi Δ=>∃(psx ys:List D) (x3:L2.Slot),Pen psx/\ys.Perm (xs.take i) /\ Δ = [.bor (.lst psx),.val (.lst xs),.own (.lst ys),x3],⟨ps,[],.any,hp,by rw[Wdi],rfl⟩,?_,?_⟩))
  ·rintro i d Δ2 hd ⟨psx,ys,x3,hpx,hy,rfl⟩
   have hi:=(Wae.mp hd).1;have hyl:=hy.length_eq;rw[Wbk]at hyl;refine Zbm (Zqx rfl rfl (Za4 rfl rfl (Zab (Zas (Zhb rfl rfl (Zao (Zcq (Zaf ⟨_,_,rfl,rfl,hpx,_,rfl,by omega,by omega,λr ps' hp' hr0 hr1=>?_⟩))))))));refine Zac rfl ⟨_,r,ys,rfl,rfl,rfl,small1000 (by omega),by omega,by omega,ps',_,_,hp',?_,rfl⟩;rw[Wbp,hd];exact(Zoq ys _ d).trans (List.Perm.append_right _ hy)
  ·rintro Δ2 ⟨psx,ys,x3,hpx,hy,rfl⟩
   rw[Wbn]at hy;exact⟨psx,ys,x3,hpx,hy,rfl⟩
 rintro Δ1 ⟨psx,ys,x3,hpx,hy,rfl⟩;exact Za3 (Zcg rfl ⟨_,rfl,q ys _ hpx hy⟩)
end
section
variable {f:Int->Int}{m:Nat}(F:OneOne f m)
include F
theorem Zd8:(facesTo f m).flatten.Nodup:=by
 unfold List.Nodup;rw[List.pairwise_flatten];refine⟨λr hr=>?_,?_⟩
 ·unfold facesTo at hr
  obtain⟨e,he,rfl⟩:=Wau.mp hr;rw[Wa5,Wat]at he;exact Zfp F (by omega) (by omega)
 ·unfold facesTo
  rw[Wcs,Wbj];intro i j hi hj hij x hx y hy hxy;subst hxy;have mi:=Wa5.mp (Wb6 hi);have mj:=Wa5.mp (Wb6 hj);rw[Wat]at mi mj;have pw:((Wa1 m).filter (leastB f)).Pairwise (· < ·):=List.Pairwise.filter _ Wcn;have hlt:=Wbj.mp pw i j hi hj hij;generalize ((Wa1 m).filter (leastB f))[i]=a at *;generalize ((Wa1 m).filter (leastB f))[j]=b at *;have hb:(a:Int)∈orb f (b:Int):=Zcj F (by omega) (by omega) hy (Zcn F (by omega) (by omega) hx);have:=of_decide_eq_true (show decide (∀x∈orb f (b:Int),(b:Int)<=x)=true from mj.2) _ hb;omega
theorem Zkl:(facesTo f m).flatten.Perm ((Wa1 m).map λe:Nat=>(e:Int)):=by
 rw[Wcd (Zd8 F)]
 ·intro x
  rw[Wb4,Wau];constructor
  ·rintro⟨r,hr,hx⟩
   unfold facesTo at hr;obtain⟨e,he,rfl⟩:=Wau.mp hr;rw[Wa5,Wat]at he;have:=Zjp F (by omega) (by omega) hx;exact⟨x.toNat,Wat.mpr (by omega),by omega⟩
  ·rintro⟨e,he,rfl⟩
   rw[Wat]at he;obtain⟨g,hg,hl,hm,ha⟩:=Zlc F (x:=(e:Int)) (by omega) (by omega);exact⟨_,Ziw F hg hl,(ha _ (Ziw F hg hl)).mpr rfl⟩
 ·refine List.Pairwise.map _ (λa b q=>?_) Wdn
  intro e;exact q (by omega)
end
theorem Zhv (ts:List (Int × Int)) (o:List (List Int)):(allF ts o).flatten=(facesTo (onI ts o) (2*ts.length)).flatten:=by
 unfold allF;rw[Wdc];have:∀z:Nat,(Wad z ([]:List Int)).flatten=[]:=λz=>by induction z with
  |zero=>rfl
  |succ z ih=>rw[Wcv,Wbg,ih];rfl
 rw[this,List.nil_append]
theorem Zed (l:List (List Int)) (i:Nat):(l.take i).flatten.length<=l.flatten.length:=by
 conv=>rhs;rw[<- Wbt i l]
 rw[Wdc,Wai];omega
theorem Zg0 {n:Int}{ts:List (Int × Int)}{o:List (List Int)}(hW:WebOk n ts) (hO:OrdOk n ts o) {r:List Int}(hr:r∈allF ts o):r=[]\/∃e:Nat,e<2*ts.length/\leastB (onI ts o) e=true/\r=orb (onI ts o) (e:Int):=by
 unfold allF at hr;rcases Wbo.mp hr with h|h
 ·exact .inl (Wb2.mp h).2
 ·unfold facesTo at h
  obtain⟨e,he,rfl⟩:=Wau.mp h;rw[Wa5,Wat]at he;exact .inr ⟨e,he.1,he.2,rfl⟩
def faceIx (R:List (List Int)) (e:Int):Nat:=R.findIdx λr=>decide (e∈r)
def dualT (R:List (List Int)) (m:Nat):List (Int × Int):=(Wa1 m).map λk:Nat=>((faceIx R ((2*k:Nat):Int):Int),(faceIx R ((2*k+1:Nat):Int):Int))
theorem Zbp (R:List (List Int)) (m:Nat):(dualT R m).length=m:=by unfold dualT;rw[Waa,Wbb]
structure Tab (R:List (List Int)) (m:Nat):Prop where
 nd:R.flatten.Nodup
 mem:∀x:Int,x∈R.flatten↔0<=x/\x<((2*m:Nat):Int)
 lst:∀r∈R,∀x t,r=x::t->∀a∈t,x<=a
theorem Zp3:∀{R:List (List Int)}{p:Nat}{r:List Int}{e:Int},R.flatten.Nodup->R[p]?=some r->e∈r->faceIx R e=p
 |[],_,_,_,_,h,_=>by simp at h
 |r0::R,0,r,e,_,h,he=>by
  have h:r0=r:=by simpa using h
  subst h;unfold faceIx;rw[List.findIdx_cons,decide_eq_true he];rfl
 |r0::R,p+1,r,e,nd,h,he=>by
  rw[Wbg,Wct]at nd;have h:R[p]?=some r:=by simpa using h
  have hm:e∈R.flatten:=Wb4.mpr ⟨r,Wak h,he⟩;have hn:e ∉ r0:=λz=>nd.2.2 e z e hm rfl;have ih:=Zp3 nd.2.1 h he;unfold faceIx at ih ⊢;rw[List.findIdx_cons,decide_eq_false hn];show _+1=p+1;rw[ih]
theorem Tab.at {R:List (List Int)}{m:Nat}(h:Tab R m) {e:Nat}(he:e<2*m):∃r,R[faceIx R (e:Int)]?=some r/\(e:Int)∈r/\faceIx R (e:Int)<R.length:=by
 obtain⟨r,h1,h2⟩:=Wb4.mp ((h.mem (e:Int)).mpr ⟨by omega,by omega⟩);obtain⟨p,hp⟩:=Wbc.mp h1;have e1:=Zp3 h.nd hp h2;rw[e1];exact⟨r,hp,h2,(Wae.mp hp).1⟩
theorem Zdh {R:List (List Int)}{m e:Nat}(he:e<2*m):placeAt (dualT R m) e=(faceIx R (e:Int):Int):=by
 have hk:e / 2<m:=by omega
 unfold placeAt dualT;rw[Wag,Wcl hk];dsimp only[Option.map];by_cases h:e % 2=0
 ·rw[if_pos h,show 2*(e / 2)=e by omega]
 ·rw[if_neg h,show 2*(e / 2)+1=e by omega]
theorem Zdr {R:List (List Int)}{m:Nat}(h:Tab R m) (h1:1<=R.length) (h2:R.length<=100) (hm:m<=24):WebOk (R.length:Int) (dualT R m):=by
 refine⟨by omega,by omega,by rw[Zbp];exact hm,λt ht=>?_⟩;obtain⟨k,hk,rfl⟩:=Wau.mp ht;have hk:=Wat.mp hk;obtain⟨_,_,_,a⟩:=h.at (show 2*k<2*m by omega);obtain⟨_,_,_,b⟩:=h.at (show 2*k+1<2*m by omega);dsimp only;omega
theorem Zrm {r:List Int}(h:∀x t,r=x::t->∀a∈t,x<=a) {ts:List (Int × Int)}{m:Nat}{p:Int}(hp:r.Perm (endsBelow ts m p)):RowOk ts m p r:=by
 refine⟨hp,?_⟩;cases r with
 |nil=>rw[List.Perm.eq_nil hp.symm]
 |cons x t=>
  have hl:=h x t rfl;have lt:=Zer ts m p;cases z:endsBelow ts m p with
  |nil=>rw[z]at hp;have:=hp.length_eq;simp at this
  |cons y l=>
   rw[z]at hp lt;show some x=some y;have h1:y∈x::t:=hp.mem_iff.mpr Waw;have h2:x∈y::l:=hp.mem_iff.mp Waw;have a:x<=y:=by
    rcases Wan.mp h1 with q|q
    ·omega
    ·exact hl y q
   have b:y<=x:=by
    rcases Wan.mp h2 with q|q
    ·omega
    ·exact Int.le_of_lt (List.rel_of_pairwise_cons lt q)
   rw[show x=y by omega]
theorem Zdo {R:List (List Int)}{m:Nat}(h:Tab R m):OrdOk (R.length:Int) (dualT R m) R:=by
 refine⟨rfl,λp r hr=>Zrm (h.lst r (Wak hr)) ?_⟩;have hsub:r.Sublist R.flatten:=Wcp (Wak hr);rw[Wcd (h.nd.sublist hsub) (Zdi _ _ _)];intro x;rw[Zc0,Zbp];constructor
 ·intro hx
  have hb:=(h.mem x).mp (hsub.subset hx);refine⟨x.toNat,by omega,?_,by omega⟩;rw[Zdh (by omega),show ((x.toNat:Nat):Int)=x by omega,Zp3 h.nd hr hx]
 ·rintro⟨e,he,hp,rfl⟩
  rw[Zdh he]at hp;obtain⟨r',h1,h2,_⟩:=h.at he;have:faceIx R (e:Int)=p:=by omega
  rw[this,hr]at h1;cases h1;exact h2
theorem Zgv {R:List (List Int)}{m e:Nat}(he:e<2*m) {r:List Int}(hr:R[faceIx R (e:Int)]?=some r):rowAt (dualT R m) R e=r:=by
 unfold rowAt;rw[Zdh he,Wa7,Waf,hr];rfl
section
variable {f:Int->Int}{m:Nat}(F:OneOne f m) {e:Int}(h0:0<=e) (h1:e<(m:Int))
include F h0 h1
theorem Zjm {x:Int}(hx:x∈orb f e):nextIn (orb f e) x=f x:=by
 obtain⟨i,hi,rfl⟩:=Zbd.mp hx;have O:=Zdt F h0 h1;have hl:(orb f e).length=per f e:=by unfold orb;rw[Zbe]
 have hg:(orb f e)[i]?=some (iter f e i):=Zee hi;rw[Zdj (Zfp F h0 h1) hg];unfold nxI;rw[hl];by_cases z:i+1=per f e
 ·rw[if_pos z,Waf,show (orb f e)[0]?=some (iter f e 0) from Zee O.pos]
  show e=f (iter f e i);have:=O.back;rw[<- z]at this;exact this.symm
 ·rw[if_neg z,Waf,show (orb f e)[i+1]?=some (iter f e (i+1)) from Zee (by omega)]
  rfl
end
theorem Zqi {f:Int->Int}{r:List Int}(nd:r.Nodup) {x:Int}{t:List Int}(hr:r=x::t) (hf:∀y∈r,f y=nextIn r y):orb f x=r:=by
 have h0:0<r.length:=by rw[hr];simp
 have it:∀i,i<r.length->iter f x i=r.getD i 0:=λi=>by
  induction i with
  |zero=>intro _;rw[hr];rfl
  |succ i ih=>
   intro hi;have hg:r[i]?=some (r.getD i 0):=by rw[Waf,Wab (by omega)];rfl
   show f (iter f x i)=_;rw[ih (by omega),hf _ (Wak hg),Zdj nd hg];unfold nxI;rw[if_neg (by omega)]
 have O:IsOrb f x r.length:=by
  refine⟨h0,?_,λi j hi hj q=>?_⟩
  ·have hg:r[r.length-1]?=some (r.getD (r.length-1) 0):=by rw[Waf,Wab (by omega)];rfl
   rw[show r.length=(r.length-1)+1 by omega];show f (iter f x (r.length-1))=x;rw[it _ (by omega),hf _ (Wak hg),Zdj nd hg];unfold nxI;rw[if_pos (by omega),hr];rfl
  ·rw[it i hi,it j hj,Waf,Waf,Wab hi,Wab hj]at q
   exact(Wda nd).mp q
 rw[O.orb];unfold walkL;apply Wb9;intro i;by_cases hi:i<r.length
 ·rw[Wag,Wcl hi,Wab hi]
  show some (iter f x i)=_;rw[it i hi,Waf,Wab hi];rfl
 ·rw[Wb0 (by rw[Waa,Wbb];omega),Wb0 (by omega)]
def Rising (R:List (List Int)):Prop:=R.Pairwise λa b=>rlt b a=false
theorem Zlj {A B:List (List Int)}(ha:Rising A) (hb:Rising B) (h:A.Perm B):A=B:=
 List.Perm.eq_of_pairwise (le:=λa b=>rlt b a=false) (λa b _ _ h1 h2=>Zi8 a b h2 h1) ha hb h
section
variable {n:Int}{ts:List (Int × Int)}{o:List (List Int)}(hW:WebOk n ts) (hO:OrdOk n ts o)
include hW hO
theorem Zea {e:Nat}(he:e<2*ts.length) (hl:leastB (onI ts o) e=true):∃l,orb (onI ts o) (e:Int)=(e:Int)::l/\∀a∈l,(e:Int)<=a:=by
 obtain⟨l,hl'⟩:=Zec (Zdd hW hO) (show (0:Int)<=(e:Int) by omega) (show (e:Int)<((2*ts.length:Nat):Int) by omega);refine⟨l,hl',λa ha=>?_⟩;unfold leastB at hl;rw[decide_eq_true_iff]at hl;exact hl a (by rw[hl'];exact Wav _ ha)
theorem Zje:Rising (allF ts o):=by
 unfold Rising allF;rw[List.pairwise_append];refine⟨?_,?_,λa ha b hb=>?_⟩
 ·rw[List.pairwise_replicate]
  exact Or.inr rfl
 ·unfold facesTo
  rw[Wcs];have:=List.Pairwise.filter (leastB (onI ts o)) (Wcn (n:=2*ts.length));refine List.Pairwise.imp_of_mem (λ{a b} ha hb hab=>?_) this;have ha:=Wa5.mp ha;have hb:=Wa5.mp hb;obtain⟨l,h1,_⟩:=Zea hW hO (Wat.mp ha.1) ha.2;obtain⟨k,h2,_⟩:=Zea hW hO (Wat.mp hb.1) hb.2;rw[h1,h2,Zet,if_neg (by omega)];exact decide_eq_false (by omega)
 ·rw[(Wb2.mp ha).2]
  cases b <;> rfl
theorem Zcb:Tab (allF ts o) ts.length:=by
 have O:=Zdd hW hO;refine⟨?_,λx=>?_,λr hr x t e a ha=>?_⟩
 ·rw[Zhv];exact Zd8 O
 ·rw[Zhv,(Zkl O).mem_iff,Wau]
  constructor
  ·rintro⟨k,hk,rfl⟩
   have:=Wat.mp hk;omega
  ·intro hx
   exact⟨x.toNat,Wat.mpr (by omega),by omega⟩
 ·rcases Zg0 hW hO hr with z|⟨g,hg,hl,z⟩
  ·rw[z]at e;cases e
  ·obtain⟨l,h1,h2⟩:=Zea hW hO hg hl
   rw[z,h1]at e;cases e;exact h2 a ha
theorem Ze6:1<=(allF ts o).length:=by
 have hl:=hO.len;have h1:=hW.lo;by_cases ht:ts.length=0
 ·have hz:∀r∈o,r.isEmpty=true:=λr hr=>by
   obtain⟨p,hp⟩:=Wbc.mp hr;have:=(hO.row p r hp).len;rw[List.isEmpty_iff];exact Wcm (by omega)
  unfold allF lone;rw[Wai,Wal,Wbf.mpr hz];omega
 ·obtain⟨_,_,_,a⟩:=(Zcb hW hO).at (show 0<2*ts.length by omega)
  omega
theorem Zle {e:Nat}(he:e<2*ts.length):onI (dualT (allF ts o) ts.length) (allF ts o) (e:Int)=folOf ts o e:=by
 have T:=Zcb hW hO;have hp:=Za8 he;obtain⟨r,h1,h2,h3⟩:=T.at hp;unfold onI folOf;rw[Wa7,Zgv hp h1];rcases Zg0 hW hO (Wak h1) with z|⟨g,hg,hl,z⟩
 ·rw[z]at h2;cases h2
 ·rw[z]at h2 ⊢
  rw[Zjm (Zdd hW hO) (by omega) (by omega) h2];unfold onI;rw[Wa7,Zaz];rfl
theorem Zmt:lone (allF ts o)=lone o:=by
 have hz:((facesTo (onI ts o) (2*ts.length)).filter λr=>r.isEmpty)=[]:=by
  rw[List.filter_eq_nil_iff];intro r hr;unfold facesTo at hr;obtain⟨e,he,rfl⟩:=Wau.mp hr;have he:=Wa5.mp he;obtain⟨l,h1,_⟩:=Zea hW hO (Wat.mp he.1) he.2;rw[h1];exact λz=>Bool.noConfusion z
 show ((Wad (lone o) ([]:List Int)++facesTo (onI ts o) (2*ts.length)).filter λr=>r.isEmpty).length=_;rw[Wbx,hz,Wa3,Wbf.mpr (λr hr=>by rw[(Wb2.mp hr).2];rfl),Wal]
theorem Zii {p:Nat}{r:List Int}(hr:o[p]?=some r) {x:Int}{t:List Int}(e:r=x::t) {g:Int->Int}(hg:∀k:Nat,k<2*ts.length->g (k:Int)=folOf ts o k):orb g x=r:=by
 have R:=hO.row p r hr;refine Zqi R.nodup e λy hy=>?_;obtain⟨k,hk,hp,rfl⟩:=R.mem.mp hy;rw[hg k hk];unfold folOf rowAt;rw[hp,Wa7,Waf,hr];rfl
theorem Zng:(allF (dualT (allF ts o) ts.length) (allF ts o)).Perm o:=by
 have T:=Zcb hW hO;have he:∀k:Nat,k<2*ts.length->onI (dualT (allF ts o) ts.length) (allF ts o) (k:Int)=folOf ts o k:=λk hk=>Zle hW hO hk;have F2:OneOne (onI (dualT (allF ts o) ts.length) (allF ts o)) (2*ts.length):=by
  refine⟨λx x0 x1=>?_,λx y x0 x1 y0 y1 q=>?_⟩
  ·obtain⟨g,hg,_,eg⟩:=Zg6 hW hO (show x.toNat<2*ts.length by omega)
   have:=he x.toNat (by omega);rw[show ((x.toNat:Nat):Int)=x by omega]at this;rw[this,<- eg];omega
  ·have a:=he x.toNat (by omega)
   have b:=he y.toNat (by omega);rw[show ((x.toNat:Nat):Int)=x by omega]at a;rw[show ((y.toNat:Nat):Int)=y by omega]at b;rw[a,b]at q;have O:=Zdd hW hO;have pp:∀k:Nat,k<2*ts.length->folOf ts o k=onI ts o ((partner k:Nat):Int):=λk hk=>by unfold onI;rw[Wa7,Zaz]
   rw[pp _ (by omega),pp _ (by omega)]at q;have hx:=Za8 (show x.toNat<2*ts.length by omega);have hy:=Za8 (show y.toNat<2*ts.length by omega);have:=O.inj _ _ (by omega) (by omega) (by omega) (by omega) q;have e1:partner x.toNat=partner y.toNat:=by omega
   have e2:=congrArg partner e1;rw[Zaz,Zaz]at e2;omega
 unfold allF;rw[show lone (Wad (lone o) []++facesTo (onI ts o) (2*ts.length))=lone o from Zmt hW hO,Zbp];show (Wad (lone o) []++facesTo (onI (dualT (allF ts o) ts.length) (allF ts o)) (2*ts.length)).Perm o;have hflat:=hO.flat;have split:((o.filter λr=>r.isEmpty)++o.filter λr=>!r.isEmpty).Perm o:=List.filter_append_perm _ _;have hemp:(o.filter λr=>r.isEmpty)=Wad (lone o) []:=by
  rw[List.eq_replicate_iff];refine⟨rfl,λr hr=>?_⟩;exact List.isEmpty_iff.mp (Wa5.mp hr).2
 rw[hemp]at split;refine List.Perm.trans (List.Perm.append_left _ ?_) split;have ndo:∀{l:List (List Int)},l.flatten.Nodup->(l.filter λr=>!r.isEmpty).Nodup:=λ{l}=>by
  induction l with
  |nil=>intro _;exact List.nodup_nil
  |cons r l ih=>
   intro h;rw[Wbg,Wct]at h;cases r with
   |nil=>exact ih h.2.1
   |cons x t=>
    rw[List.filter_cons_of_pos (by rfl),Wcb];refine⟨λz=>?_,ih h.2.1⟩;have:=(Wa5.mp z).1;exact h.2.2 x Waw x (Wb4.mpr ⟨_,this,Waw⟩) rfl
 have ndf:(facesTo (onI (dualT (allF ts o) ts.length) (allF ts o)) (2*ts.length)).Nodup:=by
  have h1:=Zd8 F2;have h2:=ndo h1;have h3:((facesTo (onI (dualT (allF ts o) ts.length) (allF ts o)) (2*ts.length)).filter λr=>!r.isEmpty)=facesTo (onI (dualT (allF ts o) ts.length) (allF ts o)) (2*ts.length):=by
   rw[Wbf];intro r hr;unfold facesTo at hr;obtain⟨e,hee,rfl⟩:=Wau.mp hr;have hee:=Wat.mp (Wa5.mp hee).1;obtain⟨l,hl⟩:=Zec F2 (show (0:Int)<=(e:Int) by omega) (show (e:Int)<((2*ts.length:Nat):Int) by omega);rw[hl];rfl
  rw[h3]at h2;exact h2
 rw[Wcd ndf (ndo hflat)];intro r;rw[Wa5];constructor
 ·intro hr
  unfold facesTo at hr;obtain⟨e,hee,rfl⟩:=Wau.mp hr;have hee:=Wa5.mp hee;have hlt:=Wat.mp hee.1;obtain⟨g1,g2,g3⟩:=Zb4 hW hO hlt;cases z:rowAt ts o e with
  |nil=>rw[z]at g3;cases g3
  |cons x t=>
   have ro:=Zii hW hO (g:=onI (dualT (allF ts o) ts.length) (allF ts o)) g1 z he;have hx:=g2.mem.mp (show x∈rowAt ts o e by rw[z];exact Waw);obtain⟨k,hk,_,rfl⟩:=hx;have hin:(e:Int)∈orb (onI (dualT (allF ts o) ts.length) (allF ts o)) (k:Int):=by rw[ro];exact g3
   have hin2:=Zcn F2 (by omega) (by omega) hin;have hle:=hee.2;unfold leastB at hle;rw[decide_eq_true_iff]at hle;have a:=hle _ hin2;have b:(k:Int)<=(e:Int):=by
    rw[z]at g3;rcases Wan.mp g3 with q|q
    ·omega
    ·rw[z]at g2
     exact g2.least _ q
   have ek:e=k:=by omega
   subst ek;rw[ro];exact⟨Wak g1,by rw[z];rfl⟩
 ·rintro⟨hr,hne⟩
  obtain⟨p,hp⟩:=Wbc.mp hr;cases r with
  |nil=>cases hne
  |cons x t=>
   have R:=hO.row p _ hp;obtain⟨k,hk,_,rfl⟩:=R.mem.mp Waw;have ro:=Zii hW hO (g:=onI (dualT (allF ts o) ts.length) (allF ts o)) hp rfl he;rw[<- ro];refine Ziw F2 hk ?_;unfold leastB;rw[decide_eq_true_iff,ro];intro y hy;rcases Wan.mp hy with q|q
   ·omega
   ·exact R.least y q
end
def ixP:Nat->List (List Int)->List (Int × Int)
 |_,[]=>[]
 |p,r::R=>r.map (λe=>(e,(p:Int)))++ixP (p+1) R
theorem Zey:∀(p:Nat) (R:List (List Int)),(ixP p R).map (·.1)=R.flatten
 |_,[]=>rfl
 |p,r::R=>by
  show (r.map (λe=>(e,(p:Int)))++ixP (p+1) R).map (·.1)=_;rw[Wax,Zey (p+1) R,Wa2,Wbg];congr 1;exact(Wbe λ_ _=>rfl).trans (Wds _)
theorem Zk1:∀(p:Nat) (A:List (List Int)) (r:List Int),ixP p (A++[r])=ixP p A++r.map λe=>(e,((p+A.length:Nat):Int))
 |p,[],r=>by simp[ixP]
 |p,a::A,r=>by
  show a.map (λe=>(e,(p:Int)))++ixP (p+1) (A++[r])=(a.map (λe=>(e,(p:Int)))++ixP (p+1) A)++_;rw[Zk1 (p+1) A r,Wa6,Wap,show p+1+A.length=p+(A.length+1) by omega]
theorem Zk3:∀{R:List (List Int)}{k:Nat}{r:List Int}{e:Int}(p:Nat),R[k]?=some r->e∈r->(e,((p+k:Nat):Int))∈ixP p R
 |[],_,_,_,_,h,_=>by simp at h
 |a::R,0,r,e,p,h,he=>by
  have h:a=r:=by simpa using h
  subst h;exact Wcj _ (Wau.mpr ⟨e,he,rfl⟩)
 |a::R,k+1,r,e,p,h,he=>by
  have h:R[k]?=some r:=by simpa using h
  refine Wa0 _ ?_;have:=Zk3 (p+1) h he;rw[show p+1+k=p+(k+1) by omega]at this;exact this
theorem Tab.val {R:List (List Int)}{m:Nat}(h:Tab R m) {e:Nat}(he:e<2*m):valD ((ixP 0 R).map encPair) (.inl (e:Int))=some (.int (faceIx R (e:Int):Int)):=by
 obtain⟨r,h1,h2,_⟩:=h.at he;refine Zps (by rw[Zey];exact h.nd) ?_;have:=Zk3 0 h1 h2;rw[Wdg]at this;exact this
theorem Tab.len {R:List (List Int)}{m:Nat}(h:Tab R m):R.flatten.length=2*m:=by
 have p:R.flatten.Perm ((Wa1 (2*m)).map λe:Nat=>(e:Int)):=by
  rw[Wcd h.nd]
  ·intro x
   rw[h.mem,Wau];constructor
   ·intro hx;exact⟨x.toNat,Wat.mpr (by omega),by omega⟩
   ·rintro⟨k,hk,rfl⟩;have:=Wat.mp hk;omega
  ·rw[List.Nodup,Wcs]
   exact Wdn.imp λh z=>h (by omega)
 have:=p.length_eq;rw[Waa,Wbb]at this;exact this
theorem Zi7 (p:Nat) (R:List (List Int)):(ixP p R).length=R.flatten.length:=by
 rw[<- Zey p R,Waa]
def floorR (R:List (List Int)) (m:Nat):D:=.tup [encWeb (R.length:Int) (dualT R m),encOrd R]
def fFloor:DSp:=λds Post=>∃R m,ds=[.lst (R.map rowD)]/\Tab R m/\R.length<=150/\m<=24/\Post (floorR R m)
theorem Zd4 {K:W.Frag}{Δ:Evt}{P:D->Evt->Prop}{ds es:List D}{n:Nat}(he:ds=[.lst es]\/ds=[.tup es]) (hn:es.length=n) (p:P (.int n) Δ):JC K (rLenU K) ds Δ P:=by
 subst hn;exact Zbq he p
theorem Zm2 {R:List (List Int)}(nd:R.flatten.Nodup) {i:Nat}{r:List Int}(z:R[i]?=some r) {j:Nat}{e:Int}(ze:r[j]?=some e) :
  putD ((ixP 0 (R.take i)++(r.take j).map λe=>(e,(i:Int))).map encPair) (.inl e) (.int (i:Int))=(ixP 0 (R.take i)++(r.take (j+1)).map λe=>(e,(i:Int))).map encPair:=by
 have eT:r.take (j+1)=r.take j++[e]:=by rw[Wbp,ze];rfl
 rw[Zk8,eT,Wa6]
 ·congr 2;rw[Wax];rfl
 ·have hi:=(Wae.mp z).1
  have e1:R=R.take i++r::R.drop (i+1):=by
   rw[<- (Wae.mp z).2,<- List.drop_eq_getElem_cons hi,Wbt]
  have hj:=(Wae.mp ze).1;have e2:r=r.take (j+1)++r.drop (j+1):=(Wbt _ _).symm;rw[e1,Wdc,Wbg,e2,eT,Wa6,Wa6,<- Wa6,Wct]at nd;rw[Wax,Zey,Wa2];intro hm;have hm2:e∈(R.take i).flatten++r.take j:=by
   rcases Wbo.mp hm with h|h
   ·exact Wcj _ h
   ·obtain⟨y,hy,q⟩:=Wau.mp h
    have q:y=e:=q;exact Wa0 _ (q ▸ hy)
  exact nd.2.2 e hm2 e (Wcj _ (Wbl.mpr rfl)) rfl
theorem Zja {R:List (List Int)}{i:Nat}{r:List Int}(z:R[i]?=some r):ixP 0 (R.take i)++(r.take r.length).map (λe=>(e,(i:Int)))=ixP 0 (R.take (i+1)):=by
 have hi:=(Wae.mp z).1;rw[Wbn,Wbp,z];show _=ixP 0 (R.take i++[r]);rw[Zk1,Wbk,Nat.min_eq_left (by omega),Wdg]
theorem Zpt {R:List (List Int)}{i:Nat}{r:List Int}(z:R[i]?=some r) (j:Nat):(ixP 0 (R.take i)++(r.take j).map λe=>(e,(i:Int))).length<=R.flatten.length:=by
 have h1:=Zja z;have h2:=Zed R (i+1);rw[<- Zi7 0,<- h1,Wai,Waa,Wbn]at h2;rw[Wai,Waa,Wbk];omega
theorem Zr2 {R:List (List Int)}{m:Nat}(g:D->D) (l:List D) (hl:l=(Wa1 m).map λk:Nat=>D.int ((2*k:Nat):Int)) (hg:∀k:Nat,k<m->g (.int ((2*k:Nat):Int))=.tup [.int (faceIx R ((2*k:Nat):Int):Int),.int (faceIx R ((2*k+1:Nat):Int):Int)]):(l.filter λ_=>true).map g=(dualT R m).map encTie:=by
 rw[Wbf.mpr (by simp),hl];unfold dualT;rw[Wa2,Wa2];refine Wbe λk hk=>?_;exact hg k (Wat.mp hk)
section
variable {P:Program}{w:World}{K:W.Frag}{mg:Str->Option Value}{base:Heap}{f:Addr}{fd:FuncData}
theorem Znx (mb:Mb mg) (F:Fun K "floor_by" "floor_by" s_floor_by f fd):FnOk P w K mg base CX0 1 f fd ["rows"] (spD K fFloor):=by
 refine F.ok sc_floor_by (Zbk λds Post h=>by obtain⟨_,_,rfl,_⟩:=h;rfl) (λcdv A outer s H vs Q E hr h=>?_);have hu:=Zbx hr;refine⟨_,(Zae (Zan (i:=1) sc_floor_by.nd rfl (by first|exact Or.inl rfl|exact Or.inr rfl) (Znh ["place","row","end"] (show CompSc (defScope s_floor_by) ["rows","places","ties"] _ [] [] from ⟨rfl,by decide +kernel,by decide +kernel,by decide +kernel,rfl,by decide +kernel⟩) rfl (Zeu K rfl (mb "enumerate" (by decide)) (Zaa (pv 0) Zad)) (λ_ _ _ _ _=>(gtupK (n:=2) K rfl (Zco (Zap (i:=0) (show List.Nodup (["place","row","end"]:List Str) from by decide) rfl (Or.inl rfl)) (Zco (Zap (i:=1) (show List.Nodup (["place","row","end"]:List Str) from by decide) rfl (Or.inl rfl)) Zg7)))) (λ_ _ _ _ _=>(seqK K (pv 1))) (λ_ _ _ _ _=>(Zap (i:=2) (show List.Nodup (["place","row","end"]:List Str) from by decide) rfl (Or.inl rfl))) (λ_ _ _ _ _=>(pv 2)) (λ_ _ _ _ _=>(pv 0)))) (Zae (Zdq (i:=2) ["end"] (show CompSc (defScope s_floor_by) ["rows","places","ties"] _ ["places"] [1] from ⟨rfl,by decide +kernel,by decide +kernel,by decide +kernel,rfl,by decide +kernel⟩) rfl sc_floor_by.nd rfl (by first|exact Or.inl rfl|exact Or.inr rfl) (Znp rfl (mb "range" (by decide)) (Zaa Zag (Zaa (Zah (lenK K) rfl (mb "len" (by decide)) Za9 (Zaa (pv 1) Zad)) (Zaa Zag Zad)))) (λ_ _ _ _ _=>(Zap (i:=0) (show List.Nodup (["end","places"]:List Str) from by decide) rfl (Or.inl rfl))) (λ_ _ _ _ _=>Zch) (λ_ _ _ _ _=>(Zbn (Zaa (Zbo (ixK K hu) (pv 1) (pv 0) (λ_ _=>rfl)) (Zaa (Zbo (ixK K hu) (pv 1) (Zaq (addK K) (pv 0) Zag) (λ_ _=>rfl)) Zad))))) (Zai (Zau (Zbn (Zaa (Zbn (Zaa (Zah (lenK K) rfl (mb "len" (by decide)) Za9 (Zaa (pv 0) Zad)) (Zaa (Za0 (tupK K) rfl (mb "tuple" (by decide)) Za6 (Zaa (pv 2) Zad)) Zad))) (Zaa (Za0 (tupK K) rfl (mb "tuple" (by decide)) Za6 (Zaa (pv 0) Zad)) Zad))))))),Zd0 (λds Post hf=>?_) h⟩;obtain⟨R,m,rfl,hT,hR,hm,q⟩:=hf;refine⟨by simp,?_⟩;dsimp only[startD,Wbm,Wbs,Wba,Wad];have hfl:=hT.len;refine Zak (Zbh (Zl5 (Zms (Zab (Zac rfl (Zaf ⟨_,Or.inl rfl,λ_ h=>(nomatch h),λi kvs Δ=>kvs=(ixP 0 (R.take i)).map encPair/\∃x y z:L2.Slot,Δ = [x,y,z],⟨rfl,_,_,_,rfl⟩,?_,?_⟩))))))
 ·rintro i d kvs Δ2 hd ⟨rfl,x,y,z,rfl⟩
  obtain⟨d',hd',rfl⟩:=Zi4 hd;rw[Wag]at hd';cases zr:R[i]? with
  |none=>rw[zr]at hd';cases hd'
  |some r=>
   rw[zr]at hd';have hd':rowD r=d':=by simpa using hd'
   subst hd';refine Zmo rfl (Zdl (Zbm (Zdl (Zbm (Zi9 (Zd1 (Zac rfl ⟨r.map D.int,rfl,λj kvs Δ=>kvs=(ixP 0 (R.take i)++(r.take j).map λe=>(e,(i:Int))).map encPair/\∃z:L2.Slot,Δ = [.val (.int (i:Int)),.val (rowD r),z],⟨by simp,_,rfl⟩,?_,?_⟩)))))))
   ·rintro j e kvs Δ2 he ⟨rfl,z,rfl⟩
    rw[Wag]at he;cases ze:r[j]? with
    |none=>rw[ze]at he;cases he
    |some e'=>
     rw[ze]at he;have he:D.int e'=e:=by simpa using he
     subst he;refine Zbm (Zac rfl (Zac rfl ⟨e',rfl,?_,Zm2 hT.nd zr ze,_,rfl⟩));have:=Zpt zr j;rw[Waa];exact small1000 (by omega)
   ·rintro kvs Δ2 ⟨rfl,z,rfl⟩
    rw[Waa,Zja zr];exact⟨rfl,_,_,_,rfl⟩
 rintro kvs Δ2 ⟨rfl,x,y,z,rfl⟩;rw[Ziz,Waa,Wbn];have hkl:((ixP 0 R).map encPair).length=2*m:=by rw[Waa,Zi7,hfl]
 refine Zak (Zbh (Zel (by decide) (Zlg (Zab (Zao (Zab (Zi0 rfl rfl (Zab (Zao (Zaf ⟨0,_,2,rfl,⟨by omega,by omega,by omega,by omega,Or.inl rfl⟩,?_,λ_=>true,λd=>match d with|.int e=>.tup [.int (faceIx R e:Int),.int (faceIx R (e+1):Int)]|d=>d,λi d hd=>?_,?_⟩))))))))))
 ·rw[Zke,hkl];unfold stepN;rw[Ze9];exact small1000 (by split <;> omega)
 ·obtain⟨hi,rfl⟩:=Zjn hd
  rw[hkl]at hi;unfold stepN at hi;rw[Ze9]at hi;have hi:i<m:=by split at hi <;> omega
  have e1:(0:Int)+(i:Int)*2=((2*i:Nat):Int):=by omega
  rw[e1];refine Zb5 ⟨rfl,Zbr (Zab (Zfl rfl rfl (Zac rfl ⟨_,_,_,_,rfl,rfl,rfl,hT.val (by omega),Zab (Zfl rfl rfl (Zas (Zac rfl (Zao (Zcq ⟨_,_,_,_,rfl,rfl,rfl,hT.val (e:=2*i+1) (by omega),Zaf ⟨Zdc,?_,_,rfl⟩⟩)))))⟩)))⟩;rfl
 have e2:stpD 0 2 (stepN 0 (((ixP 0 R).map encPair).length:Int) 2)=(Wa1 m).map λk:Nat=>D.int ((2*k:Nat):Int):=by
  have:stepN 0 (((ixP 0 R).map encPair).length:Int) 2=m:=by
   rw[hkl];unfold stepN;rw[Ze9];split <;> omega
  rw[this];unfold stpD;refine Wbe λk _=>?_;congr 1;omega
 rw[Zr2 (R:=R) _ _ e2 λk hk=>rfl];refine Za3 (Zbr (Zab (Zbr (Zab (Zat (Zab (Zac rfl (Zaf (Zbq (Or.inl rfl) ?_)))))))));rw[Waa];refine Zab (Zat (Zab (Zcg rfl (Zaf (Zb8 (Or.inl rfl) (Zaf ⟨Zdc,?_⟩))))));exact Zab (Zat (Zab (Zac rfl (Zaf (Zb8 (Or.inl rfl) (Zaf ⟨Zdc,q⟩))))))
end
def fEdge:BSp:=λps ds Post=>Pen ps/\ds=[]/\∀n ts ps',Pen ps' -> WebOk n ts->n<=25->Post (encWeb n ts) ps'
theorem Zq8 {m:Nat}{n:Int}{ts:List (Int × Int)}{o:List (List Int)}(hW:WebOk n ts) (hO:OrdOk n ts o):Lv 5 (.tup [encWeb n ts,encOrd o]):=by
 have h1:=hO.len;have h2:=hW.hi;have h3:=hW.len;refine⟨by show 2<=1000;omega,λd hd=>?_⟩;rcases Wan.mp hd with z|z
 ·subst z
  refine⟨by show 2<=1000;omega,λd hd=>?_⟩;rcases Wan.mp hd with z|z
  ·subst z;trivial
  ·rw[Wbl]at z;subst z
   refine⟨by rw[Waa];omega,λd hd=>?_⟩;obtain⟨t,_,rfl⟩:=Wau.mp hd;refine⟨by show 2<=1000;omega,λd hd=>?_⟩;rcases Wan.mp hd with z|z
   ·subst z;trivial
   ·rw[Wbl]at z;subst z;trivial
 ·rw[Wbl]at z;subst z
  refine⟨by rw[Waa];omega,λd hd=>?_⟩;obtain⟨r,hr,rfl⟩:=Wau.mp hd;obtain⟨p,hp,e⟩:=Wci.mp hr;have:=(hO.row p r (by rw[Wab hp,e])).len;refine⟨by rw[Waa];omega,λd hd=>?_⟩;obtain⟨x,_,rfl⟩:=Wau.mp hd
  trivial
theorem Zky {ys:List D}{n:Nat}(h:ys.Perm ((Wa1 n).map λi:Nat=>D.int (i:Int))):∃xs:List Int,ys=xs.map D.int/\xs.length=n/\∀x∈xs,0<=x/\x<(n:Int):=by
 have hall:∀d∈ys,∃x:Int,d=.int x/\0<=x/\x<(n:Int):=λd hd=>by
  obtain⟨i,hi,e⟩:=Wau.mp (h.mem_iff.mp hd);have:=Wat.mp hi;exact⟨_,e.symm,by omega,by omega⟩
 have hl:=h.length_eq;rw[Waa,Wbb]at hl;refine⟨ys.map λd=>match d with|.int x=>x|_=>0,?_,by rw[Waa];exact hl,λx hx=>?_⟩
 ·rw[Wa2]
  conv=>lhs;rw[<- Wds ys]
  refine Wbe λd hd=>?_;obtain⟨x,rfl,_⟩:=hall d hd;rfl
 ·obtain⟨d,hd,e⟩:=Wau.mp hx
  obtain⟨y,rfl,h0,h1⟩:=hall d hd;have e:y=x:=e;omega
section
variable {P:Program}{w:World}{K:W.Frag}{mg:Str->Option Value}{base:Heap}{f:Addr}{fd:FuncData}
theorem Zmz (mb:Mb mg) (F:Fun K "_law_floor" "_law_floor" s_law_floor f fd):FnOk P w K mg base CX0 1 f fd ["_law_rows"] (spD K fFloor):=by
 refine F.ok sc_law_floor (Zbk λds Post h=>by obtain⟨_,_,rfl,_⟩:=h;rfl) (λcdv A outer s H vs Q E hr h=>?_);have hu:=Zbx hr;refine⟨_,(Zae (Zan (i:=1) sc_law_floor.nd rfl (by first|exact Or.inl rfl|exact Or.inr rfl) Zg5) (Zae (Zde PassesOwn.never rfl (Zeu K rfl (mb "enumerate" (by decide)) (Zaa (pv 0) Zad)) (gtupK (n:=2) K rfl (Zco (Zap (i:=2) sc_law_floor.nd rfl (by first|exact Or.inl rfl|exact Or.inr rfl)) (Zco (Zap (i:=3) sc_law_floor.nd rfl (by first|exact Or.inl rfl|exact Or.inr rfl)) Zg7))) (Zai (Zde PassesOwn.never rfl (seqK K (pv 3)) (Zap (i:=4) sc_law_floor.nd rfl (by first|exact Or.inl rfl|exact Or.inr rfl)) (Zai (Zfc (pv 2) (Zgl (pv 1) (pv 4) (setU hu))))))) (Zae (Zdq (i:=5) ["_law_k"] (show CompSc (defScope s_law_floor) ["_law_rows","_law_places","_law_place","_law_row","_law_end","_law_ties"] _ ["_law_places"] [1] from ⟨rfl,by decide +kernel,by decide +kernel,by decide +kernel,rfl,by decide +kernel⟩) rfl sc_law_floor.nd rfl (by first|exact Or.inl rfl|exact Or.inr rfl) (Zbj rfl (mb "range" (by decide)) (Zaa (Zaq Zd5 (Zah (lenK K) rfl (mb "len" (by decide)) Za9 (Zaa (pv 1) Zad)) Zag) Zad)) (λ_ _ _ _ _=>(Zap (i:=0) (show List.Nodup (["_law_k","_law_places"]:List Str) from by decide) rfl (Or.inl rfl))) (λ_ _ _ _ _=>Zch) (λ_ _ _ _ _=>(Zbn (Zaa (Zbo (ixK K hu) (pv 1) (Zaq Zdf Zag (pv 0)) (λ_ _=>rfl)) (Zaa (Zbo (ixK K hu) (pv 1) (Zaq (addK K) (Zaq Zdf Zag (pv 0)) Zag) (λ_ _=>rfl)) Zad))))) (Zai (Zau (Zbn (Zaa (Zbn (Zaa (Zah (lenK K) rfl (mb "len" (by decide)) Za9 (Zaa (pv 0) Zad)) (Zaa (Za0 (tupK K) rfl (mb "tuple" (by decide)) Za6 (Zaa (pv 5) Zad)) Zad))) (Zaa (Za0 (tupK K) rfl (mb "tuple" (by decide)) Za6 (Zaa (pv 0) Zad)) Zad)))))))),Zd0 (λds Post hf=>?_) h⟩;obtain⟨R,m,rfl,hT,hR,hm,q⟩:=hf;refine⟨by simp,?_⟩;dsimp only[startD,Wbm,Wbs,Wba,Wad];have hfl:=hT.len;refine Zak (Zbh (Ziu ?_));refine Zbf (λΔ=>∃x y z:L2.Slot,Δ = [.val (.lst (R.map rowD)),.own (.dct ((ixP 0 R).map encPair)),x,y,z,.any]) ?_ ?_
 ·refine Zdb (Zms (Zab (Zac rfl (Zaf ⟨_,Or.inl rfl,λi Δ=>∃x y z:L2.Slot,Δ = [.val (.lst (R.map rowD)),.own (.dct ((ixP 0 (R.take i)).map encPair)),x,y,z,.any],⟨_,_,_,rfl⟩,?_,?_⟩))))
  ·rintro i d Δ2 hd ⟨x,y,z,rfl⟩
   obtain⟨d',hd',rfl⟩:=Zi4 hd;rw[Wag]at hd';cases zr:R[i]? with
   |none=>rw[zr]at hd';cases hd'
   |some r=>
    rw[zr]at hd';have hd':rowD r=d':=by simpa using hd'
    subst hd';refine Zmo rfl (Zdl (Zbm (Zdl (Zbm (Zi9 (Zdb (Zd1 (Zac rfl ⟨r.map D.int,rfl,λj Δ=>∃z:L2.Slot,Δ = [.val (.lst (R.map rowD)),.own (.dct ((ixP 0 (R.take i)++(r.take j).map λe=>(e,(i:Int))).map encPair)),.val (.int (i:Int)),.val (rowD r),z,.any],⟨_,by simp;rfl⟩,?_,?_⟩))))))))
    ·rintro j e Δ2 he ⟨z,rfl⟩
     rw[Wag]at he;cases ze:r[j]? with
     |none=>rw[ze]at he;cases he
     |some e'=>
      rw[ze]at he;have he:D.int e'=e:=by simpa using he
      subst he;refine Zbm (Zis (Zac rfl ⟨⟨_,_,rfl,rfl⟩,Zac rfl ⟨_,_,_,rfl,rfl,rfl,?_,?_⟩⟩))
      ·have:=Zpt zr j
       rw[Waa];exact small1000 (by omega)
      ·refine⟨.val (.int e'),?_⟩
       show [_,L2.Slot.own (.dct (putD _ _ _)),_,_,_,_]=_;rw[Zm2 hT.nd zr ze]
    ·rintro Δ2 ⟨z,rfl⟩
     rw[Waa,Zja zr];exact⟨_,_,_,rfl⟩
  ·rintro Δ2 ⟨x,y,z,rfl⟩
   rw[Ziz,Waa,Wbn];exact⟨_,_,_,rfl⟩
 rintro Δ1 ⟨x,y,z,rfl⟩;have hkl:((ixP 0 R).map encPair).length=2*m:=by rw[Waa,Zi7,hfl]
 refine Zak (Zbh (Zel (by decide) (Zbi (Zab (Zas (Zi0 rfl rfl (Zao ?_)))))));refine jr_I ⟨by omega,by omega⟩ (Zaf ⟨_,rfl,?_,?_,?_,λ_=>true,λd=>match d with|.int e=>.tup [.int (faceIx R (2*e):Int),.int (faceIx R (2*e+1):Int)]|d=>d,λi d hd=>?_,?_⟩)
 ·rw[hkl];omega
 ·rw[hkl];omega
 ·rw[Zba,hkl];exact small1000 (by omega)
 ·obtain⟨hi,rfl⟩:=Zb9 hd
  rw[hkl]at hi;have hi:i<m:=by omega
  have e1:2*((0:Int)+(i:Int))=((2*i:Nat):Int):=by omega
  have v1:=hT.val (e:=2*i) (by omega);have v2:=hT.val (e:=2*i+1) (by omega);rw[show ((2*i:Nat):Int)=2*((0:Int)+(i:Int)) by omega]at v1;rw[show ((2*i+1:Nat):Int)=2*((0:Int)+(i:Int))+1 by omega]at v2;refine Zb5 ⟨rfl,Zbr (Zab (Zfl rfl rfl (Zas (Zao (Zac rfl (jr_I (Or.inl ⟨by omega,by omega⟩) ⟨_,_,_,_,rfl,rfl,rfl,v1,Zab (Zfl rfl rfl (Zas (Zas (Zao (Zac rfl (jr_I (Or.inl ⟨by omega,by omega⟩) (Zao (Zcq ⟨_,_,_,_,rfl,rfl,rfl,v2,Zaf ⟨Zdc,?_,_,rfl⟩⟩))))))))⟩))))))⟩;rfl
 rw[hkl];have hd2:∀g:D->D,(∀k:Nat,k<m->g (.int (0+(k:Int)))=.tup [.int (faceIx R ((2*k:Nat):Int):Int),.int (faceIx R ((2*k+1:Nat):Int):Int)])->((rngD 0 (((2*m:Nat):Int) / 2).toNat).filter λ_=>true).map g=(dualT R m).map encTie:=λg hg=>by
  rw[Wbf.mpr (by simp),show (((2*m:Nat):Int) / 2).toNat=m by omega];unfold rngD dualT;rw[Wa2,Wa2];refine Wbe λk hk=>?_;exact hg k (Wat.mp hk)
 rw[hd2 _ λk hk=>by
  show D.tup [.int (faceIx R (2*(0+(k:Int))):Int),.int (faceIx R (2*(0+(k:Int))+1):Int)]=_;rw[show 2*((0:Int)+(k:Int))=((2*k:Nat):Int) by omega,show ((2*k:Nat):Int)+1=((2*k+1:Nat):Int) by omega]]
 refine Za3 (Zbr (Zab (Zbr (Zab (Zat (Zab (Zac rfl (Zaf (Zbq (Or.inl rfl) ?_)))))))));rw[Waa];refine Zab (Zat (Zab (Zcg rfl (Zaf (Zb8 (Or.inl rfl) (Zaf ⟨Zdc,?_⟩))))));exact Zab (Zat (Zab (Zac rfl (Zaf (Zb8 (Or.inl rfl) (Zaf ⟨Zdc,q⟩))))))
theorem Zp4 (mb:Mb mg) (C28:Callee P w K mg base 1 "_law_draw" ["_law_pen_here","_law_many"] (spB K fDraw)) (C33:Callee P w K mg base 2 "_law_mixed" ["_law_pen_here","_law_things"] (spB K fMixed)) (F:Fun K "_law_edge" "_law_edge" s_law_edge f fd):FnOk P w K mg base CX0 3 f fd ["_law_pen_here"] (spB K fEdge):=by
 refine F.ok sc_law_edge (Zd2 λps ds Post h=>by obtain⟨_,rfl,_⟩:=h;rfl) (λcdv A outer s H vs Q E hr h=>?_);have hu:=Zbx hr;refine⟨_,(Zae (Zan (i:=1) sc_law_edge.nd rfl (by first|exact Or.inl rfl|exact Or.inr rfl) (Zaq (addK K) Zag (Zay C28 (hr.mono (by first|decide|omega)) (Zaa (pv 0) (Zaa Zag Zad))))) (Zae (Zan (i:=2) sc_law_edge.nd rfl (by first|exact Or.inl rfl|exact Or.inr rfl) (Zaq (addK K) (Zaq Zme Zag (pv 1)) (Zay C28 (hr.mono (by first|decide|omega)) (Zaa (pv 0) (Zaa Zag Zad))))) (Zae (Zan (i:=3) sc_law_edge.nd rfl (by first|exact Or.inl rfl|exact Or.inr rfl) (Zay C33 (hr.mono (by first|decide|omega)) (Zaa (pv 0) (Zaa (Zev rfl rfl (mb "list" (by decide)) rfl (mb "range" (by decide)) (Zaa (pv 2) Zad)) Zad)))) (Zai (Zau (Zbn (Zaa (pv 2) (Zaa (Za0 (tupK K) rfl (mb "tuple" (by decide)) Za6 (Zaa (Zc3 ["_law_k"] (show CompSc (defScope s_law_edge) ["_law_pen_here","_law_loops_here","_law_many","_law_names"] _ ["_law_names"] [3] from ⟨rfl,by decide +kernel,by decide +kernel,by decide +kernel,rfl,by decide +kernel⟩) rfl (Zbj rfl (mb "range" (by decide)) (Zaa (pv 1) Zad)) (λ_ _ _ _ _=>(Zap (i:=0) (show List.Nodup (["_law_k","_law_names"]:List Str) from by decide) rfl (Or.inl rfl))) (λ_ _ _ _ _=>Zch) (λ_ _ _ _ _=>(Zbn (Zaa (Zbo (ixK K hu) (pv 1) (pv 0) (λ_ _=>rfl)) (Zaa (Zbo (ixK K hu) (pv 1) (pv 0) (λ_ _=>rfl)) Zad))))) Zad)) Zad)))))))),Zi3 (λps ds Post hf=>?_) h⟩;obtain⟨hp,rfl,q⟩:=hf;refine⟨by simp,?_⟩;dsimp only[cxOf,startD,Wbm,Wbs,Wba,Wad];refine Zak (Zax (Zas (Zao (Za4 rfl rfl (Zab (Zao (Zaf ⟨_,_,rfl,rfl,hp,12,rfl,by omega,by omega,λr ps1 hp1 r0 r1=>Zcq ?_⟩)))))));refine Zak (Zax (Zas (Zas (Zao (Zac rfl (Zqp (Za4 rfl rfl (Zab (Zao (Zaf ⟨_,_,rfl,rfl,hp1,2,rfl,by omega,by omega,λs ps2 hp2 s0 s1=>Zcq ?_⟩))))))))));obtain⟨N,hN⟩:∃N:Nat,25-(1+r)+s=(N:Int):=⟨(25-(1+r)+s).toNat,by omega⟩;rw[hN];refine Zak (Zax (Za4 rfl rfl (Zab (Zcc (Zr8 (Zab (Zac rfl (Zaf ⟨N,rfl,by omega,_,rfl,Zaf ⟨_,_,rfl,rfl,hp2,_,rfl,?_,λys ps3 hp3 hy=>?_⟩⟩))))))))
 ·rw[Waa,Wbb];omega
 obtain⟨xs,rfl,hxl,hx⟩:=Zky hy;refine Za3 (Zbr (Zab (Zac rfl (Zab (Zat (Zab (Zdm (by decide) (Zbi (Zab (Zac rfl (Zaf ⟨1+r,rfl,by omega,by omega,?_,λ_=>true,λd=>match d with|.int e=>.tup [.int (xs.getD e.toNat 0),.int (xs.getD e.toNat 0)]|d=>d,λi d hd=>?_,?_⟩)))))))))))
 ·rw[Zba];exact small1000 (by omega)
 ·obtain⟨hi,rfl⟩:=Zb9 hd
  have ha:atI (xs.map D.int) (0+(i:Int))=some (.int (xs.getD (0+(i:Int)).toNat 0)):=by
   rw[Wcr,Wa7];exact Zc6 (by rw[Wag,Waf,Wab (by omega)];rfl)
  exact Zb5 ⟨rfl,Zbr (Zab (Zas (Zac rfl (Zac rfl (Zfs ha (Zab (Zas (Zac rfl (Zac rfl (Zfs ha (Zaf ⟨Zdc,rfl,_,rfl⟩)))))))))))⟩
 refine Zaf (Zb8 (Or.inl rfl) (Zaf ⟨Zdc,?_⟩));have e1:((rngD 0 (1+r).toNat).filter λ_=>true).map (λd=>match d with|.int e=>D.tup [.int (xs.getD e.toNat 0),.int (xs.getD e.toNat 0)]|d=>d)=((Wa1 (1+r).toNat).map λk=>(xs.getD k 0,xs.getD k 0)).map encTie:=by
  rw[Wbf.mpr (by simp)];unfold rngD;rw[Wa2,Wa2];refine Wbe λk _=>?_;show D.tup [.int (xs.getD (0+(k:Int)).toNat 0),.int (xs.getD (0+(k:Int)).toNat 0)]=_;rw[Wcr,Wa7];rfl
 rw[e1];refine⟨_,rfl,q N _ _ hp3 ⟨by omega,by omega,by rw[Waa,Wbb];omega,λt ht=>?_⟩ (by omega)⟩;obtain⟨k,hk,rfl⟩:=Wau.mp ht;have hk:=Wat.mp hk;have:=hx (xs.getD k 0) (by rw[Waf,Wab (by omega)];exact Wb6 _);exact⟨this.1,this.2,this.1,this.2⟩
theorem Zos (mb:Mb mg) (C28:Callee P w K mg base 1 "_law_draw" ["_law_pen_here","_law_many"] (spB K fDraw)) (F:Fun K "_law_loops" "_law_loops" s_law_loops f fd):FnOk P w K mg base CX0 2 f fd ["_law_pen_here"] (spB K fEdge):=by
 refine F.ok sc_law_loops (Zd2 λps ds Post h=>by obtain⟨_,rfl,_⟩:=h;rfl) (λcdv A outer s H vs Q E hr h=>?_);have hu:=Zbx hr;refine⟨_,(Zae (Zan (i:=1) sc_law_loops.nd rfl (by first|exact Or.inl rfl|exact Or.inr rfl) (Zaq (addK K) Zag (Zay C28 (hr.mono (by first|decide|omega)) (Zaa (pv 0) (Zaa Zag Zad))))) (Zae (Zan (i:=2) sc_law_loops.nd rfl (by first|exact Or.inl rfl|exact Or.inr rfl) (Zes Zad)) (Zae (Zde PassesOwn.never rfl (Zbj rfl (mb "range" (by decide)) (Zaa (Zay C28 (hr.mono (by first|decide|omega)) (Zaa (pv 0) (Zaa Zag Zad))) Zad)) (Zap (i:=3) sc_law_loops.nd rfl (by first|exact Or.inl rfl|exact Or.inr rfl)) (Zae (Zan (i:=4) sc_law_loops.nd rfl (by first|exact Or.inl rfl|exact Or.inr rfl) (Zay C28 (hr.mono (by first|decide|omega)) (Zaa (pv 0) (Zaa (pv 1) Zad)))) (Zai (Zcr (bmK K PySem.F.plainAttrs_list PySem.F.slot_list_append PySem.F.type_list_append Zbv (pv 2) (Zaa (Zbn (Zaa (pv 4) (Zaa (pv 4) Zad))) Zad)))))) (Zai (Zau (Zbn (Zaa (pv 1) (Zaa (Za0 (tupK K) rfl (mb "tuple" (by decide)) Za6 (Zaa (pv 2) Zad)) Zad)))))))),Zi3 (λps ds Post hf=>?_) h⟩;obtain⟨hp,rfl,q⟩:=hf;refine⟨by simp,?_⟩;dsimp only[cxOf,startD,Wbm,Wbs,Wba,Wad];refine Zak (Zax (Zas (Zao (Za4 rfl rfl (Zab (Zao (Zaf ⟨_,_,rfl,rfl,hp,25,rfl,by omega,by omega,λr ps1 hp1 r0 r1=>Zcq ?_⟩)))))));refine Zak (Zbh (Zew (Zaf ⟨by decide,?_⟩)));refine Zbf (λΔ=>∃(psx:List D) (ts:List (Int × Int)) (x y:L2.Slot),Pen psx/\WebOk (1+r) ts /\ Δ = [.bor (.lst psx),.val (.int (1+r)),.own (.lst (ts.map encTie)),x,y]) ?_ ?_
 ·refine Zdb (Zbi (Zab (Za4 rfl rfl (Zab (Zao (Zaf ⟨_,_,rfl,rfl,hp1,25,rfl,by omega,by omega,λs ps2 hp2 s0 s1=>Zaf ⟨s,rfl,by omega,by omega,?_⟩⟩))))))
  refine⟨λi Δ=>∃(psx:List D) (ts:List (Int × Int)) (x y:L2.Slot),Pen psx/\ts.length=i/\(∀t∈ts,0<=t.1/\t.1<1+r/\0<=t.2/\t.2<1+r) /\ Δ = [.bor (.lst psx),.val (.int (1+r)),.own (.lst (ts.map encTie)),x,y],⟨ps2,[],_,_,hp2,rfl,λ_ h=>(nomatch h),rfl⟩,?_,?_⟩
  ·rintro i d Δ2 hd ⟨psx,ts,x,y,hpx,hl,ht,rfl⟩
   obtain⟨hi,rfl⟩:=Zb9 hd;refine Zbm (Zak (Zax (Za4 rfl rfl (Zab (Zac rfl (Zaf ⟨_,_,rfl,rfl,hpx,1+r,rfl,by omega,by omega,λp ps3 hp3 p0 p1=>?_⟩))))));refine Zfu rfl rfl (Zbr (Zab (Zac rfl (Zab (Zac rfl (Zaf ⟨Zdc,_,_,rfl,rfl,?_,ps3,ts++[(p,p)],.val (.int (0+(i:Int))),.val (.int p),hp3,by rw[Wai,hl];rfl,λt h=>?_,?_⟩))))))
   ·rw[Waa];exact small1000 (by omega)
   ·rcases Wbo.mp h with h|h
    ·exact ht t h
    ·rw[Wbl.mp h]
     exact⟨p0,p1,p0,p1⟩
   ·rw[Wax];rfl
  ·rintro Δ2 ⟨psx,ts,x,y,hpx,hl,ht,rfl⟩
   rw[Zba]at hl;exact⟨psx,ts,x,y,hpx,⟨by omega,by omega,by omega,ht⟩,rfl⟩
 rintro Δ1 ⟨psx,ts,x,y,hpx,hW,rfl⟩;refine Za3 (Zbr (Zab (Zac rfl (Zab (Zat (Zab (Zcg rfl (Zaf (Zb8 (Or.inl rfl) (Zaf ⟨Zdc,?_⟩))))))))));exact⟨_,rfl,q _ ts _ hpx hW (by omega)⟩
end
noncomputable def lf (l:List Int):List Int:=if h:l=[] then [] else rotAt l (l.idxOf (Classical.choose (Zb3 l h)))
theorem Zih:lf []=[]:=by unfold lf;rw[dif_pos rfl]
theorem Zmn {l:List Int}{m:Int}(hm:m∈l) (hle:∀a∈l,m<=a):lf l=rotAt l (l.idxOf m):=by
 have h:l≠[]:=List.ne_nil_of_mem hm;unfold lf;rw[dif_neg h];obtain⟨c1,c2⟩:=Classical.choose_spec (Zb3 l h);have e:Classical.choose (Zb3 l h)=m:=by
  have:=c2 m hm;have:=hle _ c1;omega
 rw[e]
theorem Zj6 (l:List Int) (j:Nat):(rotAt l j).Perm l:=by
 unfold rotAt;refine Wc6.trans ?_;rw[Wbt]
theorem Zl6 (l:List Int):(lf l).Perm l:=by
 by_cases h:l=[]
 ·subst h;rw[Zih]
 ·obtain⟨m,hm,hle⟩:=Zb3 l h
  rw[Zmn hm hle];exact Zj6 _ _
theorem Zqb {l:List Int}{m:Int}(hm:m∈l) (hle:∀a∈l,m<=a):(lf l).head?=some m:=by
 obtain⟨i1,i2,_⟩:=Zcm hm;rw[Zmn hm hle];unfold rotAt;rw[List.drop_eq_getElem_cons i1,Wdz,List.head?_cons];rw[Wab i1]at i2;exact i2
def seqD:Bool->List D->D
 |true,ds=>.lst ds
 |false,ds=>.tup ds
def tabD (b:Bool) (rs:List (Bool × List Int)):D:=seqD b (rs.map λp=>seqD p.1 (p.2.map .int))
structure TabU (R:List (List Int)) (m:Nat):Prop where
 nd:R.flatten.Nodup
 mem:∀x:Int,x∈R.flatten↔0<=x/\x<((2*m:Nat):Int)
theorem Znu {A B:List (List Int)}(h:A.Perm B):A.flatten.Perm B.flatten:=by
 induction h with
 |nil=>exact .refl _
 |cons x _ ih=>rw[Wbg,Wbg];exact List.Perm.append_left _ ih
 |swap x y l=>
  rw[Wbg,Wbg,Wbg,Wbg,<- Wa6,<- Wa6];exact List.Perm.append_right _ Wc6
 |trans _ _ a b=>exact a.trans b
theorem TabU.perm {A B:List (List Int)}{m:Nat}(h:TabU A m) (p:A.flatten.Perm B.flatten):TabU B m:=
 ⟨p.nodup_iff.mp h.nd,λx=>p.mem_iff.symm.trans (h.mem x)⟩
theorem Zgz:∀R:List (List Int),(R.map lf).flatten.Perm R.flatten
 |[]=>.refl _
 |r::R=>by rw[Wa4,Wbg,Wbg];exact List.Perm.append (Zl6 r) (Zgz R)
theorem Zpi {l:List Int}{x:Int}{t:List Int}(e:lf l=x::t):∀a∈t,x<=a:=λa ha=>by
 by_cases h:l=[]
 ·rw[h,Zih]at e;cases e
 ·obtain⟨m,hm,hle⟩:=Zb3 l h
  have hh:=Zqb hm hle;rw[e]at hh;cases hh;exact hle a ((Zl6 l).mem_iff.mp (by rw[e];exact Wav _ ha))
theorem TabU.lf {R:List (List Int)}{m:Nat}(h:TabU R m):Tab (R.map lf) m:=by
 have u:=h.perm (Zgz R).symm;refine⟨u.nd,u.mem,λr hr x t e=>?_⟩;obtain⟨l,_,rfl⟩:=Wau.mp hr;exact Zpi e
theorem Tab.u {R:List (List Int)}{m:Nat}(h:Tab R m):TabU R m:=⟨h.nd,h.mem⟩
theorem Tab.perm {A B:List (List Int)}{m:Nat}(h:Tab A m) (p:A.Perm B):Tab B m:=
 let u:=h.u.perm (Znu p); ⟨u.nd,u.mem,λr hr=>h.lst r (p.mem_iff.mpr hr)⟩
theorem Zre {r:List Int}(nd:r.Nodup) (hl:∀x t,r=x::t->∀a∈t,x<=a) (j:Nat):lf (rotAt r j)=r:=by
 cases r with
 |nil=>unfold rotAt;rw[List.drop_nil,List.take_nil];exact Zih
 |cons x t=>
  have hl:=hl x t rfl;have hp:=Zj6 (x::t) j;have hm:x∈rotAt (x::t) j:=hp.mem_iff.mpr Waw;rw[Zmn hm λa ha=>by
   rcases Wan.mp (hp.mem_iff.mp ha) with z|z
   ·omega
   ·exact hl a z]
  cases j with
  |zero=>
   have e:rotAt (x::t) 0=x::t:=by unfold rotAt;rw[List.drop_zero,Wdi,Wa3]
   rw[e,List.idxOf_cons_self];exact e
  |succ j=>
   have e:rotAt (x::t) (j+1)=t.drop j++x::t.take j:=rfl;have ei:(rotAt (x::t) (j+1)).idxOf x=(t.drop j).length:=by
    refine Zmv (hp.nodup_iff.mpr nd) ?_;rw[e,Waz (Wah _),Nat.sub_self];rfl
   rw[ei,e];unfold rotAt;rw[List.drop_left,List.take_left,Wdz,Wbt]
theorem Zgb {f g:Int->Int}{m:Nat}(F:OneOne f m) (h:∀e:Nat,e<m->f (e:Int)=g (e:Int)) {e:Int}(h0:0<=e) (h1:e<(m:Int)):∀n,iter f e n=iter g e n
 |0=>rfl
 |n+1=>by
  have r:=Zb1 F h0 h1 n;show f (iter f e n)=g (iter g e n);rw[<- Zgb F h h0 h1 n];have:=h (iter f e n).toNat (by omega);rw[show (((iter f e n).toNat:Nat):Int)=iter f e n by omega]at this;exact this
theorem Zia {f g:Int->Int}{m:Nat}(F:OneOne f m) (h:∀e:Nat,e<m->f (e:Int)=g (e:Int)) {e:Int}(h0:0<=e) (h1:e<(m:Int)):orb f e=orb g e:=by
 have it:=Zgb F h h0 h1;have O:=Zdt F h0 h1;have O2:IsOrb g e (per f e):=⟨O.pos,by rw[<- it];exact O.back,λi j hi hj q=>O.nd i j hi hj (by rw[it,it];exact q)⟩;rw[O2.orb];unfold orb walkL;exact Wbe λi _=>it i
theorem Zc2 {f g:Int->Int}{m:Nat}(F:OneOne f m) (h:∀e:Nat,e<m->f (e:Int)=g (e:Int)):facesTo f m=facesTo g m:=by
 unfold facesTo;have e1:(Wa1 m).filter (leastB f)=(Wa1 m).filter (leastB g):=List.filter_congr λk hk=>by
  have:=Wat.mp hk;unfold leastB;rw[Zia F h (e:=(k:Int)) (by omega) (by omega)]
 rw[e1];exact Wbe λk hk=>Zia F h (by omega) (by have:=Wat.mp (Wa5.mp hk).1;omega)
theorem Zh1 {A B:List (List Int)}(p:A.Perm B):lone A=lone B:=(p.filter _).length_eq
section
variable {N:Nat}{ts:List (Int × Int)}{o:List (List Int)}(hW:WebOk (N:Int) ts) (hO:OrdOk (N:Int) ts o) (hR:(allF ts o).length<=100) {T:List (List Int)}(hT:T.Perm (allF ts o))
include hW hO hR hT
omit hR in
theorem Zof {e:Nat}(he:e<2*ts.length):onI (dualT T ts.length) T (e:Int)=folOf ts o e:=by
 have TT:=(Zcb hW hO).perm hT.symm;have hp:=Za8 he;obtain⟨r,h1,h2,h3⟩:=TT.at hp;unfold onI folOf;rw[Wa7,Zgv hp h1];rcases Zg0 hW hO (hT.mem_iff.mp (Wak h1)) with z|⟨g,hg,hl,z⟩
 ·rw[z]at h2;cases h2
 ·rw[z]at h2 ⊢
  rw[Zjm (Zdd hW hO) (by omega) (by omega) h2];unfold onI;rw[Wa7,Zaz];rfl
theorem Zlx:allF (dualT T ts.length) T=allF (dualT (allF ts o) ts.length) (allF ts o):=by
 have F2:=Zdd (Zdr (Zcb hW hO) (Ze6 hW hO) hR hW.len) (Zdo (Zcb hW hO));rw[Zbp]at F2;unfold allF;rw[Zbp,Zbp,show lone T=lone (allF ts o) from Zh1 hT];show Wad (lone (allF ts o)) []++_=Wad (lone (allF ts o)) []++facesTo (onI (dualT (allF ts o) ts.length) (allF ts o)) (2*ts.length);rw[Zc2 F2 λe he=>(Zle hW hO he).trans (Zof hW hO hT he).symm]
theorem Zkt:(allF (dualT T ts.length) T).Perm o:=by rw[Zlx hW hO hR hT];exact Zng hW hO
end
theorem Zls {n:Int}{ts:List (Int × Int)}(hW:WebOk n ts) {p:Int}(hp:n<=p):endsBelow ts (2*ts.length) p=[]:=by
 cases e:endsBelow ts (2*ts.length) p with
 |nil=>rfl
 |cons x l=>
  have hx:x∈endsBelow ts (2*ts.length) p:=by rw[e];exact Waw
  obtain⟨k,hk,hpl,_⟩:=Zc0.mp hx;have:=(Zem hW hk).2;omega
theorem Znv {N L:Nat}{ts:List (Int × Int)}(hW:WebOk (N:Int) ts) (hL:N+L<=100):WebOk ((N+L:Nat):Int) ts:=
 ⟨by have:=hW.lo;omega,by omega,hW.len,λt ht=>by have:=hW.tie t ht;omega⟩
theorem Zpj {N L:Nat}{ts:List (Int × Int)}{o:List (List Int)}(hW:WebOk (N:Int) ts) (hO:OrdOk (N:Int) ts o):OrdOk ((N+L:Nat):Int) ts (o++Wad L []):=by
 have hl:=hO.len;refine⟨by rw[Wai,Wal];omega,λp r hr=>?_⟩;by_cases hp:p<o.length
 ·rw[Wa8 hp]at hr
  exact hO.row p r hr
 ·rw[Waz (by omega),Wb8]at hr
  split at hr
  ·cases hr
   have e:=Zls hW (p:=(p:Int)) (by omega);exact⟨by rw[e],by rw[e]⟩
  ·cases hr
theorem Zl2 (o:List (List Int)) (L:Nat):lone (o++Wad L [])=L+lone o:=by
 unfold lone;have e:(Wad L ([]:List Int)).filter (λr=>r.isEmpty)=Wad L []:=Wbf.mpr λr hr=>by rw[(Wb2.mp hr).2];rfl
 rw[Wbx,Wai,e,Wal];omega
theorem Zmp {N L:Nat}{ts:List (Int × Int)}{o:List (List Int)}(hW:WebOk (N:Int) ts) (hO:OrdOk (N:Int) ts o):allF ts (o++Wad L [])=Wad L []++allF ts o:=by
 have hl:=hO.len;unfold allF;rw[Zl2,<- Wa6,List.replicate_append_replicate];congr 1;refine(Zc2 (Zdd hW hO) λe he=>?_).symm;have hp:=Za8 he;have pl:=Zem hW hp;unfold onI folOf rowAt;rw[Wa7,Waf,Waf,Wa8 (by omega)]
theorem Znn {N:Nat}{ts:List (Int × Int)}{o:List (List Int)}(hW:WebOk (N:Int) ts) (hO:OrdOk (N:Int) ts o):Tab o ts.length:=by
 refine⟨hO.flat,λx=>⟨λhx=>?_,λhx=>?_⟩,λr hr x t e a ha=>?_⟩
 ·obtain⟨r,h1,h2⟩:=Wb4.mp hx
  obtain⟨p,hp⟩:=Wbc.mp h1;obtain⟨k,hk,_,rfl⟩:=(hO.row p r hp).mem.mp h2;omega
 ·obtain⟨g1,g2,g3⟩:=Zb4 hW hO (show x.toNat<2*ts.length by omega)
  rw[show ((x.toNat:Nat):Int)=x by omega]at g3;exact Wb4.mpr ⟨_,Wak g1,g3⟩
 ·obtain⟨p,hp⟩:=Wbc.mp hr
  have R:=hO.row p r hp;rw[e]at R;exact R.least a ha
theorem Zmy {N:Nat}{ts:List (Int × Int)}{o T:List (List Int)}(hW:WebOk (N:Int) ts) (hO:OrdOk (N:Int) ts o) (hT:T.Perm o):allF (dualT T ts.length) T=allF ts o:=by
 have TT:=(Znn hW hO).perm hT.symm;unfold allF;rw[Zbp,show lone T=lone o from Zh1 hT];congr 1;refine(Zc2 (Zdd hW hO) λe he=>?_).symm;have hp:=Za8 he;obtain⟨r,h1,h2,h3⟩:=TT.at hp;unfold onI folOf;rw[Wa7,Zgv hp h1];obtain⟨q,hq⟩:=Wbc.mp (hT.mem_iff.mp (Wak h1));obtain⟨k,hk,hpl,ek⟩:=(hO.row q r hq).mem.mp h2;have ek:partner e=k:=by omega
 subst ek;unfold rowAt;rw[hpl,Wa7,Waf,hq];rfl
theorem Zio {S:List (List Int)}(L:Nat) (h:Rising S):Rising (Wad L []++S):=by
 unfold Rising;rw[List.pairwise_append];refine⟨?_,h,λa ha b _=>?_⟩
 ·rw[List.pairwise_replicate]
  exact Or.inr rfl
 ·rw[(Wb2.mp ha).2]
  cases b <;> rfl
def Dual (ts:List (Int × Int)) (o R S:List (List Int)):Prop:=(R=allF ts o/\S.Perm o/\Rising S)\/(R.Perm o/\S=allF ts o)
theorem Zib {N L:Nat}{ts:List (Int × Int)}{o R S T:List (List Int)}(hW:WebOk (N:Int) ts) (hO:OrdOk (N:Int) ts o) (hN:N<=25) (hL:L<=26) (h:Dual ts o R S) (hT:T.Perm (R++Wad L [])) :
  allF (dualT T ts.length) T=Wad L []++S/\Tab T ts.length/\T.length<=100/\1<=T.length/\(∀r∈R++Wad L [],r.length<=48):=by
 have W':=Znv (L:=L) hW (by omega);have O':=Zpj (L:=L) hW hO;have aL:=Zmp (L:=L) hW hO;have ol:=hO.len;have n1:=hW.lo;have n3:=hW.len;have hf:(allF ts o).length<=73:=by
  unfold allF;rw[Wai,Wal];have:=Zcf (onI ts o) (2*ts.length);have:=Zfd o;omega
 have tl:=hT.length_eq;rw[Wai,Wal]at tl;have rb:∀{A:List (List Int)}{m:Nat},m<=24->Tab A m->∀r∈A,r.length<=48:=λ{A m} hm hA r hr=>by
  have:=(Wcp hr).length_le;have:=hA.len;omega
 rcases h with ⟨rfl,hS,hr⟩|⟨hR,rfl⟩
 ·have hT':T.Perm (allF ts (o++Wad L [])):=by rw[aL];exact hT.trans Wc6
  have h100:(allF ts (o++Wad L [])).length<=100:=by rw[aL,Wai,Wal];omega
  have TT:=(Zcb W' O').perm hT'.symm;have T1:=Ze6 hW hO;have pm:=Zkt W' O' h100 hT';refine⟨Zlj (Zje (Zdr TT (by omega) (by omega) n3) (Zdo TT)) (Zio L hr) (pm.trans ?_),TT,by omega,by omega,rb n3 (TT.perm hT)⟩;exact Wc6.trans (List.Perm.append_left _ hS.symm)
 ·have hT':T.Perm (o++Wad L []):=hT.trans (List.Perm.append_right _ hR)
  have TT:=(Znn W' O').perm hT'.symm;have rl:=hR.length_eq;exact⟨(Zmy W' O' hT').trans aL,TT,by omega,by omega,rb n3 (TT.perm hT)⟩
theorem Znj {i:Int}(h1:0<=i) (h2:i<=100):(D.pd (.int i)).shown.length<=13:=PyData.shown_int_le2 (by omega) (by omega)
theorem Zmd:∀(l:List Nat) (b:Nat),(∀x∈l,x<=b)->l.sum<=l.length*b
 |[],_,_=>by simp
 |x::l,b,h=>by
  have:=Zmd l b λy hy=>h y (Wav _ hy);have:=h x Waw;rw[List.sum_cons,Wap,Nat.succ_mul];omega
theorem Zhg:∀ds:List D,D.pds ds=ds.map D.pd
 |[]=>rfl
 |d::ds=>by show D.pd d::D.pds ds=_;rw[Zhg ds];rfl
theorem Zfv:∀xs:List PyData,PyData.shownAll xs=xs.map PyData.shown
 |[]=>rfl
 |x::xs=>by show x.shown::PyData.shownAll xs=_;rw[Zfv xs];rfl
theorem Zmw {xs:List PyData}{b:Nat}(h:∀x∈xs,x.shown.length<=b):(PyData.list xs).shown.length<=xs.length*b+2*xs.length+3:=by
 show (listText (PyData.shownAll xs)).length<=_;have h1:=listText_len_le (PyData.shownAll xs);rw[Zfv]at h1 ⊢;rw[Wa2,Waa]at h1;have h2:=Zmd (xs.map ((λs:Str=>s.length)∘PyData.shown)) b λy hy=>by
  obtain⟨x,hx,rfl⟩:=Wau.mp hy;exact h x hx
 rw[Waa]at h2;omega
theorem Zm3 {xs:List PyData}{b:Nat}(h:∀x∈xs,x.shown.length<=b):(PyData.tuple xs).shown.length<=xs.length*b+2*xs.length+3:=by
 show (tupleText (PyData.shownAll xs)).length<=_;have h1:=tupleText_len_le (PyData.shownAll xs);rw[Zfv]at h1 ⊢;rw[Wa2,Waa]at h1;have h2:=Zmd (xs.map ((λs:Str=>s.length)∘PyData.shown)) b λy hy=>by
  obtain⟨x,hx,rfl⟩:=Wau.mp hy;exact h x hx
 rw[Waa]at h2;omega
theorem Zi2:∀{ds:List D},(∀d∈ds,d.shw=true)->D.shws ds=true
 |[],_=>rfl
 |d::ds,h=>by
  show (d.shw && D.shws ds)=true;rw[h d Waw,Zi2 λe he=>h e (Wav _ he)];rfl
theorem Zjk:∀{xs:List PyData}{k:Nat},(∀x∈xs,x.depth<=k)->PyData.depthAll xs<=k
 |[],_,_=>Wbw _
 |x::xs,k,h=>by
  have h1:=h x Waw;have h2:=Zjk (xs:=xs) (k:=k) λy hy=>h y (Wav _ hy);simp only[PyData.depthAll];omega
structure Shw (d:D) (k b:Nat):Prop where
 s:d.shw=true
 dp:d.pd.depth<=k
 ln:d.pd.shown.length<=b
theorem Zo3 {i:Int}(h1:0<=i) (h2:i<=100):Shw (.int i) 0 13:=by
 refine⟨?_,Wah _,Znj h1 h2⟩;show decide (i.natAbs.log2<1920)=true;refine decide_eq_true ?_;by_cases z:i.natAbs=0
 ·rw[z];decide
 ·exact Nat.lt_trans ((Nat.log2_lt z).2 (show i.natAbs<2 ^ 7 by omega)) (by decide)
theorem Znk {c:Bool}{ds:List D}{k b:Nat}(h:∀d∈ds,Shw d k b):Shw (seqD c ds) (k+1) (ds.length*b+2*ds.length+3):=by
 have hd:PyData.depthAll (D.pds ds)<=k:=Zjk λx hx=>by
  rw[Zhg]at hx;obtain⟨d,hd,rfl⟩:=Wau.mp hx;exact(h d hd).dp
 have hl:∀x∈D.pds ds,x.shown.length<=b:=λx hx=>by
  rw[Zhg]at hx;obtain⟨d,hd,rfl⟩:=Wau.mp hx;exact(h d hd).ln
 have el:(D.pds ds).length=ds.length:=by rw[Zhg,Waa]
 cases c with
 |true=>
  refine⟨Zi2 λd hd=>(h d hd).s,?_,?_⟩
  ·show (PyData.list (D.pds ds)).depth<=_
   simp only[PyData.depth];omega
  ·have:=Zmw hl
   rw[el]at this;exact this
 |false=>
  refine⟨Zi2 λd hd=>(h d hd).s,?_,?_⟩
  ·show (PyData.tuple (D.pds ds)).depth<=_
   simp only[PyData.depth];omega
  ·have:=Zm3 hl
   rw[el]at this;exact this
section
variable {P:Program}{w:World}{K:W.Frag}{mg:Str->Option Value}{base:Heap}{f:Addr}{fd:FuncData}
def fWhole:DSp:=λds Post=>∃e:Int,ds=[.int e]/\Post (.bl true)
def fLeastE:DSp:=λds Post=>∃ns:List Int,ds=[.lst (ns.map .int)]/\ns.length<=100/\Post (encRow (lf ns))
theorem Zm7 (mb:Mb mg) (F:Fun K "least_first" "least_first" s_least_first f fd):FnOk P w K mg base CX0 1 f fd ["ends"] (spD K fLeastE):=by
 refine F.ok sc_least_first (Zbk λds Post h=>by obtain⟨_,rfl,_⟩:=h;rfl) (λcdv A outer s H vs Q E hr h=>?_);have hu:=Zbx hr;refine⟨_,(Zae (Zbw (Zdv (truK K (pv 0) (λ_=>rfl))) (Zai (Zau (Zbn Zad))) Zav) (Zae (Zan (i:=1) sc_least_first.nd rfl (by first|exact Or.inl rfl|exact Or.inr rfl) (bmK K PySem.F.plainAttrs_list PySem.F.slot_list_index PySem.F.type_list_index (idxLK K) (pv 0) (Zaa (Zah (minK K rfl) rfl (mb "min" (by decide)) Zh3 (Zaa (pv 0) Zad)) Zad))) (Zai (Zau (Za0 (tupK K) rfl (mb "tuple" (by decide)) Za6 (Zaa (Zaq (addK K) (Zca (slK K) (pv 0) (Zda (pv 1)) Zc4) (Zca (slK K) (pv 0) Zc4 (Zda (pv 1)))) Zad)))))),Zd0 (λds Post hf=>?_) h⟩;obtain⟨ns,rfl,hl,q⟩:=hf;refine⟨by simp,?_⟩;dsimp only[startD,Wbm,Wbs,Wba];by_cases hn:ns=[]
 ·subst hn
  refine Zak (Zb0 (Zcs (Zbu (Zac rfl ⟨false,rfl,?_⟩))));refine iteT (Za3 (Zbr (Zaf ⟨by decide,?_⟩)));rw[Zih]at q;exact q
 ·obtain⟨m,hm,hle⟩:=Zb3 ns hn
  obtain⟨i1,i2,i3⟩:=Zcm hm;refine Zak (Zb0 (Zcs (Zbu (Zac rfl ⟨true,?_,?_⟩))))
  ·cases ns with
   |nil=>exact absurd rfl hn
   |cons x t=>rfl
  refine iteF (Za1 ?_);refine Zak (Zax (Zh6 (Zac rfl ⟨ns,rfl,by omega,Zat (Zab (Zac rfl (Zaf (Zi5 (Or.inl rfl) hm hle ⟨m,rfl,hm,?_⟩))))⟩)));have hj:ns.idxOf m<=(ns.map D.int).length:=by rw[Waa];omega
  refine Za3 (Zat (Zab (Zas (Zg4 (Zac rfl (Zc7 (Zac rfl ⟨_,rfl,Zc1 ⟨.lst ((ns.map D.int).drop (ns.idxOf m)),?_,?_⟩⟩)))))))
  ·show some (D.lst (cutD (ns.map D.int) (some ((ns.idxOf m:Nat):Int)) none))=_
   rw[Ze7 _ hj]
  refine Zg4 (Zac rfl (Zc1 (Zc7 (Zac rfl ⟨_,rfl,.lst ((ns.map D.int).take (ns.idxOf m)),?_,?_⟩))))
  ·show some (D.lst (cutD (ns.map D.int) none (some ((ns.idxOf m:Nat):Int))))=_
   rw[Zjy _ hj]
  refine Zg8 ?_ (Zaf (Zb8 (Or.inl rfl) ?_))
  ·rw[Wb5,Wbk,Waa]
   exact Wb1 (small1000 (by omega))
  rw[Zmn hm hle]at q;unfold encRow rotAt at q;rw[Wax,Wdl,Wdk]at q;exact q
end
def fIsRow:DSp:=λds Post=>∃b es,ds=[seqD b es]/\Post (.bl true)
def fLeastU:DSp:=λds Post=>∃(b:Bool) (ns:List Int),ds=[seqD b (ns.map .int)]/\ns.length<=100/\Post (encRow (lf ns))
def fLeastT:DSp:=λds Post=>∃ns:List Int,ds=[.tup (ns.map .int)]/\ns.length<=100/\Post (encRow (lf ns))
def rowsOf (rs:List (Bool × List Int)):List (List Int):=rs.map (·.2)
noncomputable def lfs (rs:List (Bool × List Int)):List (List Int):=(rowsOf rs).map lf
structure TabOk (rs:List (Bool × List Int)) (m:Nat):Prop where
 u:TabU (rowsOf rs) m
 len:rs.length<=100
 pos:1<=rs.length
 ties:m<=24
def fFoT:NSp:=λds Post=>∃b rs m,ds=[tabD b rs]/\TabOk rs m/\Post ((lfs rs).map rowD)
def fRTB:NSp:=λds Post=>∃R m,ds=[.lst (R.map rowD)]/\Tab R m/\1<=R.length/\R.length<=100/\m<=24/\Post ((allF (dualT R m) R).map rowD)
theorem Znl {K:W.Frag}{Δ:Evt}{n:Nat}{sel:List Nat}{wi1 wi2:TI}{g1 g2:TG}{te:TE}{Po:OD->Evt->Prop}
  (h:JI K wi1 Δ λds Δ1=>(∀i∈sel,∃d,Δ1[i]?=some (.val d))/\∃I:Nat->OD->Evt->Prop,I 0 (.lst []) (compD n sel Δ1) ∧
   (∀i d od Δ2,ds[i]?=some d->I i od Δ2->JG K g1 d Δ2 λΔ3=>JI K wi2 Δ3 λes Δ4=>∃I2:Nat->OD->Evt->Prop,I2 0 od Δ4 ∧
    (∀j e od2 Δ5,es[j]?=some e->I2 j od2 Δ5->JG K g2 e Δ5 λΔ6=>JB K (tAppL te) Δ6 od2 λod3 Δ8=>I2 (j+1) od3 Δ8)/\∀od2 Δ5,I2 es.length od2 Δ5->I (i+1) od2 Δ5) ∧
   ∀od Δ2,I ds.length od Δ2->Po od Δ1):JO K (tComp2 n sel wi1 g1 wi2 g2 (.lst []) (tAppL te)) Δ Po:=
 show JO K (tCompG n sel wi1 g1 (.lst []) λacc=>tLoop wi2 g2 (tAppL te acc)) Δ Po from Zj7 (od0:=.lst []) (λ_=>.nil) λg G H σ R k c=>h g G H σ R k λJ ds G' H' Δ' k' s' it ⟨hv,I,h0,ht,he⟩=>c J ds G' H' Δ' k' s' it ⟨hv,I,h0,λi d od Δ2 hd hI g2' G2 H2 σ2 v R2 k2 r2 c2=>ht i d od Δ2 hd hI g2' G2 H2 σ2 v R2 k2 r2 λσ3 G3 H3 Δ3 k3 s3 p3=>c2 σ3 G3 H3 Δ3 k3 s3 (Zna p3),he⟩
theorem Zhm (b:Bool) (ds:List D):seqD b ds=.tup ds\/seqD b ds=.lst ds:=by cases b;exact Or.inl rfl;exact Or.inr rfl
section
variable {P:Program}{w:World}{K:W.Frag}{mg:Str->Option Value}{base:Heap}{f:Addr}{fd:FuncData}
theorem Zox (mb:Mb mg) (F:Fun K "is_row" "is_row" s_is_row f fd):FnOk P w K mg base CX0 1 f fd ["thing"] (spD K fIsRow):=by
 refine F.ok sc_is_row (Zbk λds Post h=>by obtain⟨_,_,rfl,_⟩:=h;rfl) (λcdv A outer s H vs Q E hr h=>?_);have hu:=Zbx hr;refine⟨_,(Zai (Zau (Zah (isiUK K) rfl (mb "isinstance" (by decide)) Zar (Zaa (pv 0) (Zaa (Zbn (Zaa (Zce rfl (mb "list" (by decide)) Zfn (show RelV (.ty "list") _ from rfl)) (Zaa (Zce rfl (mb "tuple" (by decide)) Za6 (show RelV (.ty "tuple") _ from rfl)) Zad))) Zad))))),Zd0 (λds Post hf=>?_) h⟩;obtain⟨b,es,rfl,q⟩:=hf;refine⟨by simp,?_⟩;dsimp only[startD,Wbm,Wbs,Wba];refine Za3 (Zat (Zab (Zac rfl (Zab (Zbr (Zab (Zds (Zab (Zds (Zaf ⟨Zdc,?_⟩))))))))));cases b with
 |true=>exact Zaf (Zk7 (ns:=["list","tuple"]) (T:="list") (b:=true) rfl (λ_=>by rfl) q)
 |false=>exact Zaf (Zk7 (ns:=["list","tuple"]) (T:="tuple") (b:=true) rfl (λ_=>by rfl) q)
theorem Zry (mb:Mb mg) (F:Fun K "is_whole" "is_whole" s_is_whole f fd):FnOk P w K mg base CX0 1 f fd ["thing"] (spD K fWhole):=by
 refine F.ok sc_is_whole (Zbk λds Post h=>by obtain⟨_,rfl,_⟩:=h;rfl) (λcdv A outer s H vs Q E hr h=>?_);have hu:=Zbx hr;refine⟨_,(Zai (Zau (Zfa (Zah (isiUK K) rfl (mb "isinstance" (by decide)) Zar (Zaa (pv 0) (Zaa (Zce rfl (mb "int" (by decide)) Zpp (show RelV (.ty "int") _ from rfl)) Zad))) (Zgd (Zka (Zah (isiUK K) rfl (mb "isinstance" (by decide)) Zar (Zaa (pv 0) (Zaa (Zce rfl (mb "bool" (by decide)) Zmj (show RelV (.ty "bool") _ from rfl)) Zad)))))))),Zd0 (λds Post hf=>?_) h⟩;obtain⟨e,rfl,q⟩:=hf;refine⟨by simp,?_⟩;dsimp only[startD,Wbm,Wbs,Wba];refine Za3 (Zci (Zat (Zab (Zac rfl (Zab (Zds (Zaf (Zb6 (T:="int") (b:=true) rfl (λ_=>by rfl) ⟨_,rfl,?_⟩))))))));rw[if_pos rfl];refine Zfm (Zat (Zab (Zac rfl (Zab (Zds (Zaf (Zb6 (T:="int") (b:=false) rfl (λ_=>by rfl) ⟨_,rfl,?_⟩)))))));exact q
theorem Zmx (mb:Mb mg) (F:Fun K "least_first" "least_first" s_least_first f fd):FnOk P w K mg base CX0 1 f fd ["ends"] (spD K fLeastT):=by
 refine F.ok sc_least_first (Zbk λds Post h=>by obtain⟨_,rfl,_⟩:=h;rfl) (λcdv A outer s H vs Q E hr h=>?_);have hu:=Zbx hr;refine⟨_,(Zae (Zbw (Zdv (truK K (pv 0) (λ_=>rfl))) (Zai (Zau (Zbn Zad))) Zav) (Zae (Zan (i:=1) sc_least_first.nd rfl (by first|exact Or.inl rfl|exact Or.inr rfl) (bmK K PySem.F.plainAttrs_tuple PySem.F.slot_tuple_index PySem.F.type_tuple_index (idxK K) (pv 0) (Zaa (Zah (minK K rfl) rfl (mb "min" (by decide)) Zh3 (Zaa (pv 0) Zad)) Zad))) (Zai (Zau (Za0 (tupK K) rfl (mb "tuple" (by decide)) Za6 (Zaa (Zaq (addK K) (Zca (slK K) (pv 0) (Zda (pv 1)) Zc4) (Zca (slK K) (pv 0) Zc4 (Zda (pv 1)))) Zad)))))),Zd0 (λds Post hf=>?_) h⟩;obtain⟨ns,rfl,hl,q⟩:=hf;refine⟨by simp,?_⟩;dsimp only[startD,Wbm,Wbs,Wba];by_cases hn:ns=[]
 ·subst hn
  refine Zak (Zb0 (Zcs (Zbu (Zac rfl ⟨false,rfl,?_⟩))));refine iteT (Za3 (Zbr (Zaf ⟨by decide,?_⟩)));rw[Zih]at q;exact q
 ·obtain⟨m,hm,hle⟩:=Zb3 ns hn
  obtain⟨i1,i2,i3⟩:=Zcm hm;refine Zak (Zb0 (Zcs (Zbu (Zac rfl ⟨true,?_,?_⟩))))
  ·cases ns with
   |nil=>exact absurd rfl hn
   |cons x t=>rfl
  refine iteF (Za1 ?_);refine Zak (Zax (Zhk (Zac rfl ⟨ns,rfl,Zat (Zab (Zac rfl (Zaf (Zi5 (Or.inr rfl) hm hle ⟨m,ns.idxOf m,rfl,i2,i3,?_⟩))))⟩)));have hj:ns.idxOf m<=(ns.map D.int).length:=by rw[Waa];omega
  refine Za3 (Zat (Zab (Zas (Zg4 (Zac rfl (Zc7 (Zac rfl ⟨_,rfl,Zc1 ⟨.tup ((ns.map D.int).drop (ns.idxOf m)),?_,?_⟩⟩)))))))
  ·show some (D.tup (cutD (ns.map D.int) (some ((ns.idxOf m:Nat):Int)) none))=_
   rw[Ze7 _ hj]
  refine Zg4 (Zac rfl (Zc1 (Zc7 (Zac rfl ⟨_,rfl,.tup ((ns.map D.int).take (ns.idxOf m)),?_,?_⟩))))
  ·show some (D.tup (cutD (ns.map D.int) none (some ((ns.idxOf m:Nat):Int))))=_
   rw[Zjy _ hj]
  refine Zno ?_ (Zaf (Zb8 (Or.inr rfl) ?_))
  ·rw[Wb5,Wbk,Waa]
   exact Wb1 (small1000 (by omega))
  rw[Zmn hm hle]at q;unfold encRow rotAt at q;rw[Wax,Wdl,Wdk]at q;exact q
theorem Zli (mb:Mb mg) (F:Fun K "least_first" "least_first" s_least_first f fd):FnOk P w K mg base CX0 1 f fd ["ends"] (spD K fLeastU):=by
 have A:=Zm7 (P:=P) (w:=w) (base:=base) mb F;have B:=Zmx (P:=P) (w:=w) (base:=base) mb F;refine⟨λvs H Q E h=>?_,λA' outer s H args us vs Q E hr e0 bd rv h=>?_⟩
 ·obtain⟨F',ds,Post,s1,r1,⟨b,ns,rfl,hl,q⟩,c⟩:=h
  rw[r1.length];rfl
 ·obtain⟨F',ds,Post,s1,r1,⟨b,ns,rfl,hl,q⟩,c⟩:=h
  cases b with
  |true=>exact A.run A' outer s H args us vs Q E hr e0 bd rv ⟨F',_,Post,s1,r1,⟨ns,rfl,hl,q⟩,c⟩
  |false=>exact B.run A' outer s H args us vs Q E hr e0 bd rv ⟨F',_,Post,s1,r1,⟨ns,rfl,hl,q⟩,c⟩
def intsOf (ds:List D):List Int:=ds.map λd=>match d with|.int x=>x|_=>0
theorem Zeo (l:List Int):intsOf (l.map D.int)=l:=by unfold intsOf;rw[Wa2];exact(Wbe λ_ _=>rfl).trans (Wds _)
theorem Zra (rs:List (Bool × List Int)):(lfs rs).length=rs.length:=by unfold lfs rowsOf;rw[Waa,Waa]
theorem TabOk.tab {rs:List (Bool × List Int)}{m:Nat}(h:TabOk rs m):Tab (lfs rs) m:=h.u.lf
theorem TabOk.flat {rs:List (Bool × List Int)}{m:Nat}(h:TabOk rs m):(rowsOf rs).flatten.length=2*m:=by
 have:=(Zgz (rowsOf rs)).length_eq;rw[<- this];exact h.tab.len
theorem TabOk.row {rs:List (Bool × List Int)}{m:Nat}(h:TabOk rs m) {p:Bool × List Int}(hp:p∈rs):p.2.length<=48:=by
 have h1:=h.flat;have h2:=h.ties;have:p.2.Sublist (rowsOf rs).flatten:=Wcp (Wau.mpr ⟨p,hp,rfl⟩);have:=this.length_le;omega
theorem Zgy {rs:List (Bool × List Int)}{i:Nat}{d:D}(hd:(rs.map λp=>seqD p.1 (p.2.map D.int))[i]?=some d):∃p,rs[i]?=some p/\p∈rs/\d=seqD p.1 (p.2.map .int):=by
 rw[Wag]at hd;cases z:rs[i]? with
 |none=>rw[z]at hd;cases hd
 |some p=>rw[z]at hd;cases hd;exact⟨p,rfl,Wak z,rfl⟩
theorem Zks {ms ns:List Int}{m:Nat}(u:ns.Nodup) (hmem:∀x:Int,x∈ns↔0<=x/\x<(m:Int)) (h1:ms.Perm ns) (h2:ms.Pairwise (· <= ·)):ms=(Wa1 m).map λi:Nat=>(i:Int):=by
 have hr:((Wa1 m).map λi:Nat=>(i:Int)).Pairwise (· < ·):=by
  rw[Wcs];exact Wcn.imp λh=>by omega
 refine List.Perm.eq_of_pairwise (le:=λa b=>a<=b) (λa b _ _ h1 h2=>by omega) h2 (hr.imp λh=>Int.le_of_lt h) (h1.trans ?_);rw[Wcd u (hr.imp λh z=>by omega)];intro x;rw[hmem,Wau];constructor
 ·intro h;exact⟨x.toNat,Wat.mpr (by omega),by omega⟩
 ·rintro⟨k,hk,rfl⟩;have:=Wat.mp hk;omega
theorem Zsj (mb:Mb mg) (C45:Callee P w K mg base 1 "is_row" ["thing"] (spD K fIsRow)) (C46:Callee P w K mg base 1 "is_whole" ["thing"] (spD K fWhole)) {tk:Tok}(g_MOST_TIES:mg "MOST_TIES" = some (.int 24 tk)) (C47:Callee P w K mg base 1 "least_first" ["ends"] (spD K fLeastU)) (F:Fun K "faces_of_table" "faces_of_table" s_faces_of_table f fd):FnOk P w K mg base CX0 2 f fd ["table"] (spN K fFoT):=by
 refine F.ok sc_faces_of_table (Zfi λds Post h=>by obtain⟨_,_,_,rfl,_⟩:=h;rfl) (λcdv A outer s H vs Q E hr h=>?_);have hu:=Zbx hr;have hv:=Zom hr;refine⟨_,(Zae (Zbw (PW.pt (pw_or (Zdv (truK K (Zay C45 (hr.mono (by first|decide|omega)) (Zaa (pv 0) Zad)) (λ_=>rfl))) (pw_or1 (Zdv (truK K (Zah (allK K rfl) rfl (mb "all" (by decide)) Zl3 (Zaa (Zc3 ["face"] (show CompSc (defScope s_faces_of_table) ["table","ends"] _ [] [] from ⟨rfl,by decide +kernel,by decide +kernel,by decide +kernel,rfl,by decide +kernel⟩) rfl (seqK K (pv 0)) (λ_ _ _ _ _=>(Zap (i:=0) (show List.Nodup (["face"]:List Str) from by decide) rfl (Or.inl rfl))) (λ_ _ _ _ _=>Zch) (λ_ _ _ _ _=>(Zay C45 (hr.mono (by first|decide|omega)) (Zaa (pv 0) Zad)))) Zad)) (λ_=>rfl)))))) Zfr Zav) (Zae (Zk9 (i:=1) sc_faces_of_table.nd rfl (by first|exact Or.inl rfl|exact Or.inr rfl) ["face","end"] (show CompSc (defScope s_faces_of_table) ["table","ends"] _ [] [] from ⟨rfl,by decide +kernel,by decide +kernel,by decide +kernel,rfl,by decide +kernel⟩) rfl (seqK K (pv 0)) (λ_ _ _ _ _=>(Zap (i:=0) (show List.Nodup (["face","end"]:List Str) from by decide) rfl (Or.inl rfl))) (λ_ _ _ _ _=>(seqK K (pv 0))) (λ_ _ _ _ _=>(Zap (i:=1) (show List.Nodup (["face","end"]:List Str) from by decide) rfl (Or.inl rfl))) (λ_ _ _ _ _=>(pv 1))) (Zae (Zbw (PW.pt (pw_or (Zdv (truK K (Zah (allK K rfl) rfl (mb "all" (by decide)) Zl3 (Zaa (Zc3 ["end"] (show CompSc (defScope s_faces_of_table) ["table","ends"] _ [] [] from ⟨rfl,by decide +kernel,by decide +kernel,by decide +kernel,rfl,by decide +kernel⟩) rfl (seqK K (pv 1)) (λ_ _ _ _ _=>(Zap (i:=0) (show List.Nodup (["end"]:List Str) from by decide) rfl (Or.inl rfl))) (λ_ _ _ _ _=>Zch) (λ_ _ _ _ _=>(Zay C46 (hr.mono (by first|decide|omega)) (Zaa (pv 0) Zad)))) Zad)) (λ_=>rfl))) (pw_or1 (Zaw (neIK K hv) (Zah (sortIK K) rfl (mb "sorted" (by decide)) Zek (Zaa (pv 1) Zad)) (Zev rfl rfl (mb "list" (by decide)) rfl (mb "range" (by decide)) (Zaa (Zah (lenK K) rfl (mb "len" (by decide)) Za9 (Zaa (pv 1) Zad)) Zad)) (nomark _))))) Zfr Zav) (Zae (Zbw (PW.pt (pw_or (Zaw Zb7 (Zaq Zby (Zah (lenK K) rfl (mb "len" (by decide)) Za9 (Zaa (pv 1) Zad)) Zag) Zag (nomark _)) (pw_or1 (Zaw Zml (Zah (lenK K) rfl (mb "len" (by decide)) Za9 (Zaa (pv 1) Zad)) (Zaq Zdf Zag (Zft rfl g_MOST_TIES (show RelV (.int 24) _ from ⟨_,rfl⟩))) (nomark _))))) Zfr Zav) (Zai (Zau (Zc3 ["face"] (show CompSc (defScope s_faces_of_table) ["table","ends"] _ [] [] from ⟨rfl,by decide +kernel,by decide +kernel,by decide +kernel,rfl,by decide +kernel⟩) rfl (seqK K (pv 0)) (λ_ _ _ _ _=>(Zap (i:=0) (show List.Nodup (["face"]:List Str) from by decide) rfl (Or.inl rfl))) (λ_ _ _ _ _=>Zch) (λ_ _ _ _ _=>(Zay C47 (hr.mono (by first|decide|omega)) (Zaa (pv 0) Zad)))))))))),Zmm (λds Post hf=>?_) h⟩;obtain⟨b,rs,m,rfl,hT,q⟩:=hf;refine⟨by simp,?_⟩;dsimp only[startD,Wbm,Wbs,Wba,Wad];have h1:=hT.len;have h2:=hT.ties;have h3:=hT.flat;refine Zak (Zb0 (Zpe (Zcs (Zbu (Za5 (Zab (Zac rfl (Zaf ⟨b,_,rfl,_,rfl,iteF ?_⟩))))))));refine Zcs (Zbu (Zat (Zab (Zdm (by decide) (Zgr rfl (Zhm b _) ⟨?_,λ_=>true,λ_=>.bl true,λj d hd=>?_,?_⟩)))))
 ·rw[Waa];exact small1000 (by omega)
 ·obtain⟨p,_,_,rfl⟩:=Zgy hd
  exact Zb5 ⟨rfl,Za5 (Zab (Zac rfl (Zaf ⟨_,_,rfl,rfl,_,rfl⟩)))⟩
 refine Zaf ?_;rw[Wbf.mpr (by simp),Wdb,Waa,show Wad rs.length (D.bl true)=(Wad rs.length true).map D.bl by rw[Wdf]];refine Zjr ⟨_,rfl,?_⟩;rw[Ze5];refine iteF (Za1 ?_);refine Zak (Zax (Zcc (Znl (Zgr rfl (Zhm b _) ⟨λ_ h=>(nomatch h),λi od Δ=>od=.lst (((rowsOf rs).take i).flatten.map .int)/\∃x y:L2.Slot,Δ = [x,y],⟨rfl,_,_,rfl⟩,?_,?_⟩))))
 ·rintro i d od Δ2 hd ⟨rfl,x,y,rfl⟩
  obtain⟨p,hp,hpm,rfl⟩:=Zgy hd;have hg:(rowsOf rs)[i]?=some p.2:=by unfold rowsOf;rw[Wag,hp];rfl
  refine Zbm (Zgr rfl (Zhm p.1 _) ⟨λj od Δ=>od=.lst ((((rowsOf rs).take i).flatten++p.2.take j).map .int)/\∃y:L2.Slot,Δ = [.val (seqD p.1 (p.2.map .int)),y],⟨by rw[Wdi,Wa3],_,rfl⟩,?_,?_⟩)
  ·rintro j e od2 Δ5 he ⟨rfl,y,rfl⟩
   rw[Wag]at he;cases z:p.2[j]? with
   |none=>rw[z]at he;cases he
   |some e'=>
    rw[z]at he;cases he;refine Zbm (Zte (Zac rfl ⟨?_,?_,_,rfl⟩))
    ·have a1:=Zed (rowsOf rs) i
     have a2:=hT.row hpm;rw[Waa,Wai,Wbk];exact small1000 (by omega)
    ·rw[Wbp,z,<- Wa6,Wax (l₂:=(some e').toList)];rfl
  ·rintro od2 Δ5 ⟨rfl,y,rfl⟩
   rw[Waa,Wbn];refine⟨?_,_,_,rfl⟩;rw[Wbp,hg,Wdc];show _=OD.lst ((((rowsOf rs).take i).flatten++[p.2].flatten).map .int);rw[List.flatten_singleton]
 rintro od Δ2 ⟨rfl,x,y,rfl⟩;rw[Waa,show rs.length=(rowsOf rs).length by unfold rowsOf;rw[Waa],Wbn];refine⟨_,rfl,?_⟩;refine Zak (Zb0 (Zpe (Zcs (Zbu (Zat (Zab (Zdm (by decide) (Zge (Zac rfl ⟨_,Or.inl rfl,?_,λ_=>true,λ_=>.bl true,λj d hd=>?_,?_⟩)))))))))
 ·rw[Waa];exact small1000 (by omega)
 ·rw[Wag]at hd
  cases z:(rowsOf rs).flatten[j]? with
  |none=>rw[z]at hd;cases hd
  |some x=>
   rw[z]at hd;cases hd;exact Zb5 ⟨rfl,Za5 (Zab (Zac rfl (Zaf ⟨_,rfl,rfl,_,rfl⟩)))⟩
 refine Zaf ?_;rw[Wbf.mpr (by simp),Wdb,Waa,show Wad (rowsOf rs).flatten.length (D.bl true)=(Wad (rowsOf rs).flatten.length true).map D.bl by rw[Wdf]];refine Zjr ⟨_,rfl,?_⟩;rw[Ze5];refine iteF ?_;refine Zbc (Zas (Zcc (Zoo (Zab (Zac rfl (Zaf ⟨_,rfl,by omega,λms m1 m2=>⟨_,rfl,?_⟩⟩))))));rw[Zks hT.u.nd hT.u.mem m1 m2];refine Zcc (Zr8 (Zab (Zat (Zab (Zac rfl (Zaf (Zd4 (Or.inl rfl) (n:=2*m) (by rw[Waa];exact h3) (Zaf ⟨2*m,rfl,by omega,_,rfl,?_⟩))))))));rw[show ((Wa1 (2*m)).map λi:Nat=>D.int (i:Int))=((Wa1 (2*m)).map λi:Nat=>(i:Int)).map D.int by rw[Wa2];rfl];refine Zsq ⟨_,rfl,iteF (Za1 ?_)⟩;refine Zak (Zb0 (Zpe (Zbc (Zas (Zas (Zat (Zab (Zac rfl (Zaf (Zd4 (Or.inl rfl) (n:=2*m) (by rw[Waa];exact h3) (Zao (jr_I (by show (0:Int)<2;omega) (Zao (Zex ⟨false,congrArg D.bl (decide_eq_false (by omega)),iteF ?_⟩))))))))))))));refine Zbc (Zas (Zat (Zab (Zac rfl (Zaf (Zd4 (Or.inl rfl) (n:=2*m) (by rw[Waa];exact h3) (Zas (Zao (Zao (jr_I (Or.inl ⟨by omega,by omega⟩) (Zhx ⟨false,congrArg D.bl (decide_eq_false (by omega)),iteF (Za1 ?_)⟩)))))))))));refine Zfh (Zel (by decide) (Zgr rfl (Zhm b _) ⟨?_,λ_=>true,λd=>match d with|.lst ds=>encRow (lf (intsOf ds))|.tup ds=>encRow (lf (intsOf ds))|d=>d,λj d hd=>?_,?_⟩))
 ·rw[Waa];exact small1000 (by omega)
 ·obtain⟨p,_,hpm,rfl⟩:=Zgy hd
  have a2:=hT.row hpm;refine Zb5 ⟨rfl,Za5 (Zab (Zac rfl (Zaf ⟨p.1,p.2,rfl,by omega,?_,_,rfl⟩)))⟩;cases hb:p.1 <;> (show _=encRow (lf (intsOf (p.2.map .int)));rw[Zeo])
 rw[Wbf.mpr (by simp),Wa2];unfold lfs rowsOf at q;rw[Wa2,Wa2]at q;refine⟨_,rfl,cast (congrArg Post (Wbe λp _=>?_)) q⟩;obtain⟨b',r'⟩:=p;cases b' <;> (show encRow (lf r')=encRow (lf (intsOf (r'.map .int)));rw[Zeo])
theorem Ztj (mb:Mb mg) (C43:Callee P w K mg base 1 "floor_by" ["rows"] (spD K fFloor)) (C41:Callee P w K mg base 5 "faces" ["web","order"] (spN K fFaces)) (F:Fun K "rows_told_by" "rows_told_by" s_rows_told_by f fd):FnOk P w K mg base CX0 6 f fd ["told"] (spN K fRTB):=by
 refine F.ok sc_rows_told_by (Zfi λds Post h=>by obtain⟨_,_,rfl,_⟩:=h;rfl) (λcdv A outer s H vs Q E hr h=>?_);have hu:=Zbx hr;refine⟨_,(Zae (Zfc (Zay C43 (hr.mono (by first|decide|omega)) (Zaa (pv 0) Zad)) (gtupK (n:=2) K rfl (Zco (Zap (i:=1) sc_rows_told_by.nd rfl (by first|exact Or.inl rfl|exact Or.inr rfl)) (Zco (Zap (i:=2) sc_rows_told_by.nd rfl (by first|exact Or.inl rfl|exact Or.inr rfl)) Zg7)))) (Zai (Zau (Zay C41 (hr.mono (by first|decide|omega)) (Zaa (pv 1) (Zaa (pv 2) Zad)))))),Zmm (λds Post hf=>?_) h⟩;obtain⟨R,m,rfl,hT,h1,h2,h3,q⟩:=hf;refine⟨by simp,?_⟩;dsimp only[startD,Wbm,Wbs,Wba,Wad];refine Zak (Zsy (Za5 (Zab (Zac rfl (Zaf ⟨R,m,rfl,hT,by omega,h3,Zmo rfl (Zdl (Zbm (Zdl (Zbm (Zi9 ?_)))))⟩)))));exact Zfh (Zfo (Zab (Zac rfl (Zab (Zac rfl (Zaf ⟨_,_,_,rfl,Zdr hT h1 h2 h3,Zdo hT,_,rfl,q⟩))))))
end
def fReadX (c:Addr):XSp:=λds Post Xp=>∃b rs m R,ds=[tabD b rs]/\TabOk rs m/\allF (dualT (lfs rs) m) (lfs rs)=R/\(R.length<=25->Post (floorR R m))/\(25<R.length->Xp c)
section
variable {P:Program}{w:World}{K:W.Frag}{mg:Str->Option Value}{base:Heap}{f:Addr}{fd:FuncData}{cf cn cm cg:Addr}
theorem Zo8 (mb:Mb mg) (cl:Cl K mg cf cn cm cg) (C42:Callee P w K mg base 2 "faces_of_table" ["table"] (spN K fFoT)) (C51:Callee P w K mg base 6 "rows_told_by" ["told"] (spN K fRTB)) {tk:Tok}(g_MOST_PLACES:mg "MOST_PLACES" = some (.int 25 tk)) (C43:Callee P w K mg base 1 "floor_by" ["rows"] (spD K fFloor)) (F:Fun K "read_table" "read_table" s_read_table f fd):FnOk P w K mg base (CXE P w) 7 f fd ["table"] (spX K (fReadX cm)):=by
 refine F.okX sc_read_table (Zqy λds Post Xp h=>by obtain⟨_,_,_,_,rfl,_⟩:=h;rfl) (λcdv A outer s H vs Q E hr h=>?_);have hu:=Zbx hr;refine⟨_,(Zae (Zan (i:=1) sc_read_table.nd rfl (by first|exact Or.inl rfl|exact Or.inr rfl) (Zay C51 (hr.mono (by first|decide|omega)) (Zaa (Zay C42 (hr.mono (by first|decide|omega)) (Zaa (pv 0) Zad)) Zad))) (Zae (Zbw (Zdv (Zok Zta Zta Zag (Zah (lenK K) rfl (mb "len" (by decide)) Za9 (Zaa (pv 1) Zad)) (Zft rfl g_MOST_PLACES (show RelV (.int 25) _ from ⟨_,rfl⟩)))) (Zai (Zol cl.e_NoTable rfl cl.n_NoTable hr.hd Zo1 (Zaa (Zq3 (Zgq (Zpw (n:=200)) (Zgq (Ztv (n:=200) rfl g_MOST_PLACES) (Zgq (Zpw (n:=200)) Zrw)))) Zad))) Zav) (Zai (Zau (Zay C43 (hr.mono (by first|decide|omega)) (Zaa (pv 1) Zad)))))),Zt7 (λds Post Xp hf=>?_) h⟩;obtain⟨b,rs,m,R,rfl,hT,rfl,q,x⟩:=hf;refine⟨by simp,?_⟩;dsimp only[startD,Wbm,Wbs,Wba,Wad];have ll:=Zra rs;have l1:=hT.len;have l2:=hT.pos;have W:=Zdr hT.tab (by omega) (by omega) hT.ties;have O:=Zdo hT.tab;have p1:=Ze6 W O;have al:=Zhn W O;have T2:=Zcb W O;rw[Zbp]at T2;refine Zrt (Zax (Zcc (Zfo (Zab (Zcc (Zfo (Zab (Zac rfl (Zaf ⟨b,rs,m,rfl,hT,_,rfl,Zaf ⟨lfs rs,m,rfl,hT.tab,by omega,by omega,hT.ties,_,rfl,?_⟩⟩)))))))));refine Zp1 (Zt6 (Zcs (Zbc (Zpg (Zao (Zat (Zab (Zac rfl (Zaf (Zd4 (Or.inl rfl) (Waa _) (Zhx ⟨_,rfl,?_⟩)))))))))));rw[decide_eq_true (by omega),if_pos rfl];by_cases h25:(allF (dualT (lfs rs) m) (lfs rs)).length<=25
 ·refine Zao (Zhx ⟨true,congrArg D.bl (decide_eq_true (by omega)),iteF (Zqf ?_)⟩)
  exact Zq1 (Za3 (Za5 (Zab (Zac rfl (Zaf ⟨_,m,rfl,T2,by omega,hT.ties,q h25⟩)))))
 ·refine Zao (Zhx ⟨false,congrArg D.bl (decide_eq_false (by omega)),iteT ?_⟩)
  exact Zpm (Zab (Zqw λ_=>Zaf ⟨(by show 1<=sizeLine;decide),x (by omega)⟩))
end
def Turned (rs:List (Bool × List Int)) (R:List (List Int)):Prop:=rs.length=R.length/\∀(i:Nat) p r,rs[i]?=some p->R[i]?=some r->∃j,p.2=rotAt r j
def fDealt:BSp:=λps ds Post=>Pen ps/\∃R:List (List Int),ds=[.lst (R.map rowD)]/\R.length<=150/\(∀r∈R,r.length<=48)/\∀b rs R' ps',Pen ps' -> R'.Perm R->Turned rs R' -> Post (tabD b rs) ps'
def rowInts:D->List Int
 |.tup ds=>intsOf ds
 |_=>[]
theorem Zfw {ys:List D}{R:List (List Int)}(h:ys.Perm (R.map rowD)):∃R':List (List Int),ys=R'.map rowD/\R'.Perm R:=by
 have inv:∀r:List Int,rowInts (rowD r)=r:=λr=>Zeo r;refine⟨ys.map rowInts,?_,?_⟩
 ·rw[Wa2]
  conv=>lhs;rw[<- Wds ys]
  refine Wbe λd hd=>?_;obtain⟨r,_,rfl⟩:=Wau.mp (h.mem_iff.mp hd);show rowD r=rowD (rowInts (rowD r));rw[inv]
 ·have:=h.map rowInts
  rw[Wa2]at this;refine this.trans (List.Perm.of_eq ?_);exact(Wbe λr _=>inv r).trans (Wds _)
theorem Ziv {rs:List (Bool × List Int)}{R:List (List Int)}{r:List Int}(h:Turned rs R) (c:Bool) (j:Nat):Turned (rs++[(c,rotAt r j)]) (R++[r]):=by
 refine⟨by rw[Wai,Wai,h.1];rfl,λi p r' hp hr=>?_⟩;by_cases hi:i<rs.length
 ·rw[Wa8 hi]at hp
  rw[Wa8 (by rw[<- h.1];exact hi)]at hr;exact h.2 i p r' hp hr
 ·rw[Waz (by omega)]at hp
  rw[Waz (by have:=h.1;omega)]at hr;rw[<- h.1]at hr;cases e:i-rs.length with
  |zero=>rw[e]at hp hr;cases hp;cases hr;exact⟨j,rfl⟩
  |succ k=>rw[e]at hp;cases hp
theorem Zf4 {rs:List (Bool × List Int)}{R:List (List Int)}{m:Nat}(h:Turned rs R) (hT:Tab R m):lfs rs=R:=by
 unfold lfs rowsOf;rw[Wa2];apply Wb9;intro i;rw[Wag];cases z:rs[i]? with
 |none=>
  have:=List.getElem?_eq_none_iff.mp z;rw[Wb0 (by rw[<- h.1];exact this)];rfl
 |some p=>
  have hi:=(Wae.mp z).1;have hr:R[i]?=some (R[i]'(by rw[<- h.1];exact hi)):=Wab _;obtain⟨j,hj⟩:=h.2 i p _ z hr;rw[hr];have hm:=Wak hr;show some (lf p.2)=_;rw[hj,Zre (hT.nd.sublist (Wcp hm)) (hT.lst _ hm)]
theorem Znw {rs:List (Bool × List Int)}{R:List (List Int)}{m:Nat}(h:Turned rs R) (hT:Tab R m) (h1:1<=R.length) (h2:R.length<=100) (h3:m<=24):TabOk rs m:=
 ⟨hT.u.perm (by rw[<- Zf4 h hT];exact Zgz _),by rw[h.1];exact h2,by rw[h.1];exact h1,h3⟩
section
variable {P:Program}{w:World}{K:W.Frag}{mg:Str->Option Value}{base:Heap}{f:Addr}{fd:FuncData}
theorem Zoh (mb:Mb mg) (C33:Callee P w K mg base 2 "_law_mixed" ["_law_pen_here","_law_things"] (spB K fMixed)) (C28:Callee P w K mg base 1 "_law_draw" ["_law_pen_here","_law_many"] (spB K fDraw)) (F:Fun K "_law_dealt" "_law_dealt" s_law_dealt f fd):FnOk P w K mg base CX0 3 f fd ["_law_pen_here","_law_rows"] (spB K fDealt):=by
 refine F.ok sc_law_dealt (Zd2 λps ds Post h=>by obtain⟨_,_,rfl,_⟩:=h;rfl) (λcdv A outer s H vs Q E hr h=>?_);have hu:=Zbx hr;refine⟨_,(Zae (Zan (i:=2) sc_law_dealt.nd rfl (by first|exact Or.inl rfl|exact Or.inr rfl) (Zes Zad)) (Zae (Zde PassesOwn.never rfl (seqK K (Zay C33 (hr.mono (by first|decide|omega)) (Zaa (pv 0) (Zaa (pv 1) Zad)))) (Zap (i:=3) sc_law_dealt.nd rfl (by first|exact Or.inl rfl|exact Or.inr rfl)) (Zae (Zan (i:=4) sc_law_dealt.nd rfl (by first|exact Or.inl rfl|exact Or.inr rfl) (Zay C28 (hr.mono (by first|decide|omega)) (Zaa (pv 0) (Zaa (Zah (Zie rfl) rfl (mb "max" (by decide)) Zpu (Zaa Zag (Zaa (Zah (lenK K) rfl (mb "len" (by decide)) Za9 (Zaa (pv 3) Zad)) Zad))) Zad)))) (Zae (Zan (i:=5) sc_law_dealt.nd rfl (by first|exact Or.inl rfl|exact Or.inr rfl) (Zaq (addK K) (Zca (slK K) (pv 3) (Zda (pv 4)) Zc4) (Zca (slK K) (pv 3) Zc4 (Zda (pv 4))))) (Zae (Zbw (Zaw Zb7 (Zay C28 (hr.mono (by first|decide|omega)) (Zaa (pv 0) (Zaa Zag Zad))) Zag (nomark _)) (Zai (Zan (i:=5) sc_law_dealt.nd rfl (by first|exact Or.inl rfl|exact Or.inr rfl) (Za0 (lstK K) rfl (mb "list" (by decide)) Zfn (Zaa (pv 5) Zad)))) Zav) (Zai (Zcr (bmK K PySem.F.plainAttrs_list PySem.F.slot_list_append PySem.F.type_list_append Zbv (pv 2) (Zaa (pv 5) Zad)))))))) (Zae (Zbw (Zaw Zb7 (Zay C28 (hr.mono (by first|decide|omega)) (Zaa (pv 0) (Zaa Zag Zad))) Zag (nomark _)) (Zai (Zau (Za0 (tupK K) rfl (mb "tuple" (by decide)) Za6 (Zaa (pv 2) Zad)))) Zav) (Zai (Zau (pv 2)))))),Zi3 (λps ds Post hf=>?_) h⟩;obtain⟨hp,R,rfl,hl,hrl,q⟩:=hf;refine⟨by simp,?_⟩;dsimp only[cxOf,startD,Wbm,Wbs,Wba,Wad];refine Zak (Zbh (Zew (Zaf ⟨by decide,?_⟩)));refine Zbf (λΔ=>∃(psx:List D) (rs:List (Bool × List Int)) (R':List (List Int)) (x3 x4 x5:L2.Slot),Pen psx/\R'.Perm R/\Turned rs R' /\ Δ = [.bor (.lst psx),.val (.lst (R.map rowD)),.own (.lst (rs.map λp=>seqD p.1 (p.2.map .int))),x3,x4,x5]) ?_ ?_
 ·refine Zdb (Zge (Za4 rfl rfl (Zab (Zac rfl (Zaf ⟨_,_,rfl,rfl,hp,_,rfl,by rw[Waa];exact hl,λys ps1 hp1 hy=>?_⟩)))))
  obtain⟨R',rfl,hR⟩:=Zfw hy;have hRl:=hR.length_eq;refine⟨_,Or.inl rfl,λi Δ=>∃(psx:List D) (rs:List (Bool × List Int)) (x3 x4 x5:L2.Slot),Pen psx/\Turned rs (R'.take i) /\ Δ = [.bor (.lst psx),.val (.lst (R.map rowD)),.own (.lst (rs.map λp=>seqD p.1 (p.2.map .int))),x3,x4,x5],⟨ps1,[],_,_,_,hp1,⟨rfl,λi p r h=>by cases h⟩,rfl⟩,?_,?_⟩
  ·rintro i d Δ2 hd ⟨psx,rs,x3,x4,x5,hpx,hT,rfl⟩
   rw[Wag]at hd;cases z:R'[i]? with
   |none=>rw[z]at hd;cases hd
   |some r=>
    rw[z]at hd;cases hd;have rl:=hrl r (hR.mem_iff.mp (Wak z));have hi:=(Wae.mp z).1;refine Zbm (Zak (Zax (Za4 rfl rfl (Zab (Zat (Zab (Zao (Zab (Zat (Zab (Zac rfl (Zaf (Zd4 (Or.inr rfl) (Waa _) ?_)))))))))))));refine Zaf (Zji (Zaf ⟨_,_,rfl,rfl,hpx,_,rfl,by split <;> omega,by split <;> omega,λa ps2 hp2 a0 a1=>?_⟩))
    obtain⟨j,rfl⟩:∃j:Nat,a=(j:Int):=⟨a.toNat,by omega⟩;have hj:j<=(r.map D.int).length:=by rw[Waa];split at a1 <;> omega
    refine Zak (Zax (Zas (Zg4 (Zac rfl (Zc7 (Zac rfl ⟨_,rfl,Zc1 ⟨.tup ((r.map D.int).drop j),?_,?_⟩⟩))))))
    ·show some (D.tup (cutD (r.map D.int) (some ((j:Nat):Int)) none))=_
     rw[Ze7 _ hj]
    refine Zg4 (Zac rfl (Zc1 (Zc7 (Zac rfl ⟨_,rfl,.tup ((r.map D.int).take j),?_,?_⟩))))
    ·show some (D.tup (cutD (r.map D.int) none (some ((j:Nat):Int))))=_
     rw[Zjy _ hj]
    refine Zno ?_ ?_
    ·rw[Wb5,Wbk,Waa]
     exact Wb1 (small1000 (by omega))
    rw[show (r.map D.int).drop j++(r.map D.int).take j=(rotAt r j).map D.int by unfold rotAt;rw[Wax,Wdl,Wdk]];refine Zbf (λΔ=>∃(psx:List D) (c:Bool),Pen psx /\ Δ = [.bor (.lst psx),.val (.lst (R.map rowD)),.own (.lst (rs.map λp=>seqD p.1 (p.2.map .int))),.val (rowD r),.val (.int (j:Int)),.val (seqD c ((rotAt r j).map .int))]) ?_ ?_
    ·refine Zb0 (Zbc (Zas (Za4 rfl rfl (Zab (Zao (Zaf ⟨_,_,rfl,rfl,hp2,2,rfl,by omega,by omega,λe ps3 hp3 e0 e1=>Zao (Zex ⟨_,rfl,ite2 (λz=>?_) (λz=>Za1 ⟨ps3,false,hp3,rfl⟩)⟩)⟩))))))
     exact Zax (Zat (Zab (Zac rfl (Zaf (Zlv (Or.inr rfl) ⟨ps3,true,hp3,rfl⟩)))))
    rintro Δ3 ⟨psy,c,hpy,rfl⟩;have hrs:=hT.1;rw[Wbk]at hrs;refine Zfu rfl rfl (Zac rfl ⟨_,_,rfl,rfl,?_,psy,rs++[(c,rotAt r j)],.val (rowD r),.val (.int (j:Int)),.val (seqD c ((rotAt r j).map .int)),hpy,?_,?_⟩)
    ·rw[Waa];exact small1000 (by omega)
    ·rw[Wbp,z];exact Ziv hT c j
    ·rw[Wax];rfl
  ·rintro Δ2 ⟨psx,rs,x3,x4,x5,hpx,hT,rfl⟩
   rw[Waa,Wbn]at hT;exact⟨psx,rs,R',x3,x4,x5,hpx,hR,hT,rfl⟩
 rintro Δ1 ⟨psx,rs,R',x3,x4,x5,hpx,hR,hT,rfl⟩;refine Zak (Zb0 (Zbc (Zas (Za4 rfl rfl (Zab (Zao (Zaf ⟨_,_,rfl,rfl,hpx,2,rfl,by omega,by omega,λe ps3 hp3 e0 e1=>Zao (Zex ⟨_,rfl,ite2 (λz=>?_) (λz=>Za1 ?_)⟩)⟩)))))))
 ·exact Za3 (Zat (Zab (Zcg rfl (Zaf (Zb8 (Or.inl rfl) ⟨_,rfl,q false rs R' ps3 hp3 hR hT⟩)))))
 ·exact Za3 (Zcg rfl ⟨_,rfl,q true rs R' ps3 hp3 hR hT⟩)
end
theorem Zp8 {b:Bool}{rs:List (Bool × List Int)}{m:Nat}(h:TabOk rs m):Shw (tabD b rs) 2 sizeLine:=by
 have h1:=h.len;have h2:=h.ties;have e:∀p∈rs,Shw (seqD p.1 (p.2.map D.int)) 1 1000:=λp hp=>by
  have hl:=h.row hp;have:=Znk (c:=p.1) (ds:=p.2.map D.int) (k:=0) (b:=13) λd hd=>by
   obtain⟨x,hx,rfl⟩:=Wau.mp hd;have:=(h.u.mem x).mp (Wb4.mpr ⟨p.2,Wau.mpr ⟨p,hp,rfl⟩,hx⟩);exact Zo3 (by omega) (by omega)
  rw[Waa]at this;exact⟨this.s,this.dp,Wbq this.ln (by omega)⟩
 have:=Znk (c:=b) (ds:=rs.map λp=>seqD p.1 (p.2.map D.int)) (k:=1) (b:=1000) λd hd=>by
  obtain⟨p,hp,rfl⟩:=Wau.mp hd;exact e p hp
 rw[Waa]at this;exact⟨this.s,this.dp,Wbq this.ln (Wbq (m:=200000) (by omega) (by decide))⟩
def lawS (ns:List Int) (ps:List D) (n:Int) (ts:List (Int × Int)) (wy:Int) (o R S:List (List Int)) (x7 x8 x9 x10 x11:L2.Slot):Evt:=[.val (.scr (ns.map .int)),.own (.lst ps),.val (encWeb n ts),.val (.int wy),.val (encOrd o),.val (.lst (R.map rowD)),.val (.lst (S.map rowD)),x7,x8,x9,x10,x11,.any]
section
variable {P:Program}{w:World}{K:W.Frag}{mg:Str->Option Value}{base:Heap}{f:Addr}{fd:FuncData}{cf cn cm cg:Addr}
theorem ok_law (mb:Mb mg) (cl:Cl K mg cf cn cm cg) (C36:Callee P w K mg base 1 "_law_pen" ["_law_script"] (spN K fPen)) (C38:Callee P w K mg base 2 "_law_web" ["_law_pen_here","_law_places","_law_ties"] (spB K fWeb))
  (C28:Callee P w K mg base 1 "_law_draw" ["_law_pen_here","_law_many"] (spB K fDraw)) (C29:Callee P w K mg base 3 "_law_edge" ["_law_pen_here"] (spB K fEdge)) (C32:Callee P w K mg base 2 "_law_loops" ["_law_pen_here"] (spB K fEdge))
  (C34:Callee P w K mg base 2 "_law_order" ["_law_pen_here","_law_web_here"] (spB K fOrder)) (C30:Callee P w K mg base 2 "_law_faces" ["_law_order_here"] (spN K fLFaces)) (C27:Callee P w K mg base 3 "_law_dealt" ["_law_pen_here","_law_rows"] (spB K fDealt))
  (C50:CalleeX P w K mg base 7 "read_table" ["table"] (spX K (fReadX cm))) (C37:Callee P w K mg base 6 "_law_same" ["_law_found","_law_due"] (spD K (fSame 5))) (C31:Callee P w K mg base 1 "_law_floor" ["_law_rows"] (spD K fFloor))
  (F:Fun K "law" "law" s_law f fd):FnOk P w K mg base CX0 8 f fd ["_law_script"] (spD K fLaw):=by
 refine F.ok sc_law (Zbk λds Post h=>by obtain⟨_,rfl,_⟩:=h;rfl) (λcdv A outer s H vs Q E hr h=>?_);have hu:=Zbx hr;have hv:=Zom hr;refine⟨_,(Zae (Zan (i:=1) sc_law.nd rfl (by first|exact Or.inl rfl|exact Or.inr rfl) (Zay C36 (hr.mono (by first|decide|omega)) (Zaa (pv 0) Zad))) (Zae (Zan (i:=2) sc_law.nd rfl (by first|exact Or.inl rfl|exact Or.inr rfl) (Zay C38 (hr.mono (by first|decide|omega)) (Zaa (pv 1) (Zaa Zag (Zaa Zag Zad))))) (Zae (Zan (i:=3) sc_law.nd rfl (by first|exact Or.inl rfl|exact Or.inr rfl) (Zay C28 (hr.mono (by first|decide|omega)) (Zaa (pv 1) (Zaa Zag Zad)))) (Zae (Zbw (Zaw Zb7 (pv 3) Zag (nomark _)) (Zai (Zan (i:=2) sc_law.nd rfl (by first|exact Or.inl rfl|exact Or.inr rfl) (Zay C29 (hr.mono (by first|decide|omega)) (Zaa (pv 1) Zad)))) Zav) (Zae (Zbw (Zaw Zb7 (pv 3) Zag (nomark _)) (Zai (Zan (i:=2) sc_law.nd rfl (by first|exact Or.inl rfl|exact Or.inr rfl) (Zay C32 (hr.mono (by first|decide|omega)) (Zaa (pv 1) Zad)))) Zav) (Zae (Zan (i:=4) sc_law.nd rfl (by first|exact Or.inl rfl|exact Or.inr rfl) (Zay C34 (hr.mono (by first|decide|omega)) (Zaa (pv 1) (Zaa (pv 2) Zad)))) (Zae (Zan (i:=5) sc_law.nd rfl (by first|exact Or.inl rfl|exact Or.inr rfl) (Zay C30 (hr.mono (by first|decide|omega)) (Zaa (pv 4) Zad))) (Zae (Zan (i:=6) sc_law.nd rfl (by first|exact Or.inl rfl|exact Or.inr rfl) (Zah (sortGK K hv) rfl (mb "sorted" (by decide)) Zek (Zaa (pv 4) Zad))) (Zae (Zbw (Zaw Zb7 (Zay C28 (hr.mono (by first|decide|omega)) (Zaa (pv 1) (Zaa Zag Zad))) Zag (nomark _)) (Zai (Zjv (i:=5) (j:=6) rfl sc_law.nd rfl rfl (by decide) rfl rfl (Zaa (pv 6) (Zaa (pv 5) Zad)) rfl)) Zav) (Zae (Zbw (Zaw Zb7 (Zay C28 (hr.mono (by first|decide|omega)) (Zaa (pv 1) (Zaa Zag Zad))) Zag (nomark _)) (Zae (Zdq (i:=7) ["_law_turn"] (show CompSc (defScope s_law) ["_law_script","_law_pen_here","_law_web_here","_law_way","_law_order_here","_law_rows","_law_due","_law_lone","_law_table","_law_kept","_law_found","_law_refused","e"] _ [] [] from ⟨rfl,by decide +kernel,by decide +kernel,by decide +kernel,rfl,by decide +kernel⟩) rfl sc_law.nd rfl (by first|exact Or.inl rfl|exact Or.inr rfl) (Zbj rfl (mb "range" (by decide)) (Zaa (Zay C28 (hr.mono (by first|decide|omega)) (Zaa (pv 1) (Zaa Zag Zad))) Zad)) (λ_ _ _ _ _=>(Zap (i:=0) (show List.Nodup (["_law_turn"]:List Str) from by decide) rfl (Or.inl rfl))) (λ_ _ _ _ _=>Zch) (λ_ _ _ _ _=>(Zbn Zad))) (Zai (Zjv (i:=5) (j:=6) rfl sc_law.nd rfl rfl (by decide) rfl rfl (Zaa (Zaq (addK K) (pv 5) (pv 7)) (Zaa (Zaq (addK K) (pv 7) (pv 6)) Zad)) rfl))) Zav) (Zae (Zan (i:=8) sc_law.nd rfl (by first|exact Or.inl rfl|exact Or.inr rfl) (Zay C27 (hr.mono (by first|decide|omega)) (Zaa (pv 1) (Zaa (pv 5) Zad)))) (Zae (Zan (i:=9) sc_law.nd rfl (by first|exact Or.inl rfl|exact Or.inr rfl) (Zah (reprK K hr.gd (Zse hr)) rfl (mb "repr" (by decide)) Zla (Zaa (pv 8) Zad))) (Zae (Zan (i:=10) sc_law.nd rfl (by first|exact Or.inl rfl|exact Or.inr rfl) Zs6) (Zae (Zan (i:=11) sc_law.nd rfl (by first|exact Or.inl rfl|exact Or.inr rfl) Zlz) (Zae (Zq5 (i:=12) (j:=10) sc_law.nd rfl rfl rfl (by first|exact Or.inl rfl|exact Or.inr rfl) rfl rfl rfl rfl cl.n_FloorError cl.e_FloorError C50 (hr.mono (by first|decide|omega)) (λpn xe=>(Zaa (pv 8) Zad)) (λa=>(Zai (Zan (i:=11) sc_law.nd rfl (by first|exact Or.inl rfl|exact Or.inr rfl) (Zfa (Zah (isiEK K) rfl (mb "isinstance" (by decide)) Zar (Zaa (pv 12) (Zaa (Zft rfl cl.n_NoTable (show RelV (.ref _) _ from rfl)) Zad))) (Zfa (Zah (isiEK K) rfl (mb "isinstance" (by decide)) Zar (Zaa (pv 12) (Zaa (Zce rfl (mb "ValueError" (by decide)) Zhh (show RelV (.ty "ValueError") _ from rfl)) Zad))) (Zgd (Zka (Zah (isiEK K) rfl (mb "isinstance" (by decide)) Zar (Zaa (pv 12) (Zaa (Zbn (Zaa (Zft rfl cl.n_NoOrder (show RelV (.ref _) _ from rfl)) (Zaa (Zft rfl cl.n_TooGreat (show RelV (.ref _) _ from rfl)) Zad))) Zad))))))))))) (Zae (Zbw (Zaw Zpy (Zah (reprK K hr.gd (Zse hr)) rfl (mb "repr" (by decide)) Zla (Zaa (pv 8) Zad)) (pv 9) (nomark _)) (Zai (Zau Zlz)) Zav) (Zae (Zbw (Zaw Zml (Zah (lenK K) rfl (mb "len" (by decide)) Za9 (Zaa (pv 6) Zad)) Zag (nomark _)) (Zai (Zau (pv 11))) Zav) (Zai (Zau (Zfa (Zka (pv 11)) (Zgd (Zay C37 (hr.mono (by first|decide|omega)) (Zaa (pv 10) (Zaa (Zay C31 (hr.mono (by first|decide|omega)) (Zaa (pv 6) Zad)) Zad)))))))))))))))))))))))),Zd0 (λds Post hf=>?_) h⟩
 obtain⟨ns,rfl,hl,q⟩:=hf;refine⟨by simp,?_⟩;dsimp only[startD,Wbm,Wbs,Wba];refine Zak (Zbh (Zfo (Zab (Zac rfl (Zaf ⟨ns,rfl,hl,λps hp=>?_⟩)))));refine Zak (Zax (Za4 rfl rfl (Zab (Zao (Zab (Zao (Zaf ⟨_,_,rfl,rfl,hp,25,24,rfl,by omega,by omega,by omega,by omega,λn0 ts0 ps1 hp1 hW0 hn0 _=>?_⟩)))))));refine Zak (Zax (Za4 rfl rfl (Zab (Zao (Zaf ⟨_,_,rfl,rfl,hp1,6,rfl,by omega,by omega,λwy ps2 hp2 w0 w1=>?_⟩)))));refine Zbf (λΔ=>∃(n:Int) (ts:List (Int × Int)) (psx:List D),Pen psx/\WebOk n ts/\n<=25 /\ Δ = [.val (.scr (ns.map .int)),.own (.lst psx),.val (encWeb n ts),.val (.int wy),.any,.any,.any,.any,.any,.any,.any,.any,.any]) ?_ ?_
 ·refine Zb0 (Zbc (Zas (Zac rfl (Zao (Zex ⟨_,rfl,ite2 (λz=>?_) (λz=>Za1 ⟨n0,ts0,ps2,hp2,hW0,hn0,rfl⟩)⟩)))))
  exact Zax (Za4 rfl rfl (Zaf ⟨_,_,rfl,rfl,hp2,rfl,λn ts ps' hp' hW hn=>⟨n,ts,ps',hp',hW,hn,rfl⟩⟩))
 rintro Δ1 ⟨n1,ts1,ps3,hp3,hW1,hn1,rfl⟩;refine Zbf (λΔ=>∃(n:Int) (ts:List (Int × Int)) (psx:List D),Pen psx/\WebOk n ts/\n<=25 /\ Δ = [.val (.scr (ns.map .int)),.own (.lst psx),.val (encWeb n ts),.val (.int wy),.any,.any,.any,.any,.any,.any,.any,.any,.any]) ?_ ?_
 ·refine Zb0 (Zbc (Zas (Zac rfl (Zao (Zex ⟨_,rfl,ite2 (λz=>?_) (λz=>Za1 ⟨n1,ts1,ps3,hp3,hW1,hn1,rfl⟩)⟩)))))
  exact Zax (Za4 rfl rfl (Zaf ⟨_,_,rfl,rfl,hp3,rfl,λn ts ps' hp' hW hn=>⟨n,ts,ps',hp',hW,hn,rfl⟩⟩))
 rintro Δ1 ⟨n,ts,ps4,hp4,hW,hn,rfl⟩;refine Zak (Zax (Za4 rfl rfl (Zab (Zac rfl (Zaf ⟨_,_,rfl,rfl,hp4,n,ts,rfl,hW,hn,λo ps5 hp5 hO=>?_⟩)))));obtain⟨N,rfl⟩:∃N:Nat,n=(N:Int):=⟨n.toNat,by have:=hW.lo;omega⟩;have n1:=hW.lo;have n3:=hW.len;have ol:=hO.len;have fl:(allF ts o).length<=73:=by
  unfold allF;rw[Wai,Wal];have:=Zcf (onI ts o) (2*ts.length);have:=Zfd o;omega
 refine Zak (Zax (Zcc (Zfo (Zab (Zac rfl (Zaf ⟨(N:Int),ts,o,rfl,hW,hO,_,rfl,?_⟩))))));refine Zak (Zax (Zcc (Zo2 (Zab (Zac rfl (Zaf ⟨o,Or.inr rfl,by omega,λms hpm hsm=>⟨_,rfl,?_⟩⟩))))));have ml:=hpm.length_eq;refine Zbf (λΔ=>∃(psx:List D) (R S:List (List Int)),Pen psx/\Dual ts o R S/\R.length<=73/\S.length<=73 /\ Δ = lawS ns psx N ts wy o R S .any .any .any .any .any) ?_ ?_
 ·refine Zb0 (Zbc (Zas (Za4 rfl rfl (Zab (Zao (Zaf ⟨_,_,rfl,rfl,hp5,2,rfl,by omega,by omega,λe ps6 hp6 e0 e1=>Zao (Zex ⟨_,rfl,ite2 (λz=>?_) (λz=>Za1 ⟨ps6,allF ts o,ms,hp6,Or.inl ⟨rfl,hpm,hsm⟩,fl,by omega,rfl⟩)⟩)⟩))))))
  exact Zi1 (Zab (Zac rfl (Zab (Zac rfl (Zaf ⟨_,_,rfl,ps6,ms,allF ts o,hp6,Or.inr ⟨hpm,rfl⟩,by omega,fl,rfl⟩)))))
 rintro Δ1 ⟨ps7,R0,S0,hp7,hD,r0l,s0l,rfl⟩;refine Zbf (λΔ=>∃(psx:List D) (L:Nat) (x7:L2.Slot),Pen psx/\L<=26 /\ Δ = lawS ns psx N ts wy o (R0++Wad L []) (Wad L []++S0) x7 .any .any .any .any) ?_ ?_
 ·refine Zb0 (Zbc (Zas (Za4 rfl rfl (Zab (Zao (Zaf ⟨_,_,rfl,rfl,hp7,3,rfl,by omega,by omega,λe ps8 hp8 e0 e1=>Zao (Zex ⟨_,rfl,ite2 (λz=>?_) (λz=>Za1 ⟨ps8,0,.any,hp8,by omega,?_⟩)⟩)⟩))))))
  ·refine Zak (Zax (Zdm (by decide) (Zbi (Zab (Za4 rfl rfl (Zab (Zao (Zaf ⟨_,_,rfl,rfl,hp8,27,rfl,by omega,by omega,λc ps9 hp9 c0 c1=>Zaf ⟨c,rfl,by omega,by omega,?_,λ_=>true,λ_=>.tup [],λi d hd=>?_,?_⟩⟩))))))))
   ·rw[Zba];exact small1000 (by omega)
   ·exact Zb5 ⟨rfl,Zbr (Zaf ⟨by decide,rfl,_,rfl⟩)⟩
   have e1:((rngD 0 c.toNat).filter λ_=>true).map (λ_=>D.tup [])=(Wad c.toNat ([]:List Int)).map rowD:=by
    rw[Wbf.mpr (by simp),Wdb,Zba,Wdf];rfl
   rw[e1];refine Zi1 (Zab (Zas (Zac rfl (Zac rfl (Zg8 ?_ ?_)))))
   ·rw[Waa,Waa,Wal];exact Wb1 (small1000 (by omega))
   refine Zab (Zas (Zac rfl (Zac rfl (Zg8 ?_ ?_))))
   ·rw[Waa,Waa,Wal];exact Wb1 (small1000 (by omega))
   refine Zaf ⟨_,_,rfl,ps9,c.toNat,.val (.lst ((Wad c.toNat []).map rowD)),hp9,by omega,?_⟩;unfold lawS;rw[Wax (l₁:=R0),Wax (l₂:=S0)];rfl
  ·rw[List.replicate_zero,Wa3,List.nil_append];rfl
 rintro Δ1 ⟨ps8,L,x7,hp8,hL,rfl⟩;have rows48:=(Zib hW hO (by omega) hL hD (List.Perm.refl _)).2.2.2.2;refine Zak (Zax (Za4 rfl rfl (Zab (Zac rfl (Zaf ⟨_,_,rfl,rfl,hp8,_,rfl,by rw[Wai,Wal];omega,rows48,λb rs R' ps9 hp9 hRp hTu=>?_⟩)))));obtain⟨dt,TT,t1,t2,_⟩:=Zib hW hO (by omega) hL hD hRp;have ok2:=Znw hTu TT t2 t1 n3;have lf2:lfs rs=R':=Zf4 hTu TT;have sh:=Zp8 (b:=b) ok2;have W2:=Zdr TT t2 t1 n3;have O2:=Zdo TT;have T2:=Zcb W2 O2;rw[Zbp,dt]at T2;have ul:(Wad L []++S0).length<=99:=by rw[Wai,Wal];omega
 have u1:1<=(Wad L []++S0).length:=by rw[<- dt];exact Ze6 W2 O2
 refine Zak (Zax (Zat (Zab (Zac rfl (Zaf (Zmr (Or.inl sh.s) (Wbq sh.dp (by decide)) sh.ln ?_))))));refine Zak (Zax (Zpv ?_));refine Zak (Zax (Zru ?_));refine Zbf (λΔ=>∃(fnd:D) (bb:Bool) (x12:L2.Slot),((Wad L []++S0).length<=25->fnd=floorR (Wad L []++S0) ts.length/\bb=false)/\(25<(Wad L []++S0).length->bb=true) /\ Δ = [.val (.scr (ns.map .int)),.own (.lst ps9),.val (encWeb N ts),.val (.int wy),.val (encOrd o),.val (.lst ((R0++Wad L []).map rowD)),.val (.lst ((Wad L []++S0).map rowD)),x7,.val (tabD b rs),.val (.str (tabD b rs).pd.shown),.val fnd,.val (.bl bb),x12]) ?_ ?_
 ·refine Zrd (Zab (Zac rfl (Zaf ⟨(by decide:12<13),b,rs,ts.length,_,rfl,ok2,by rw[lf2];exact dt,λh=>⟨(by decide:10<13),floorR (Wad L []++S0) ts.length,false,_,λ_=>⟨rfl,rfl⟩,λz=>absurd z (by omega),rfl⟩,λh=>⟨⟨cl.e_NoTable,cl.m_NoTable⟩,λae=>?_⟩⟩)))
  refine Zax (Zci (Zat (Zab (Zac rfl (Zab (Zl8 (Zaf (Zqc cl.i_NoTable cl.k_NoTable_NoTable ⟨_,rfl,iteT ?_⟩))))))));refine Zci (Zat (Zab (Zac rfl (Zab (Zds (Zaf (Zn9 cl.i_NoTable cl.t_NoTable ⟨_,rfl,iteT ?_⟩)))))));refine Zfm (Zat (Zab (Zac rfl (Zab (Zbr (Zab (Zl8 (Zab (Zl8 (Zaf ⟨Zdc,Zaf (Zpk (cs:=[cn,cg]) cl.i_NoTable (Zrl cl.k_NoTable_NoOrder cl.k_NoTable_TooGreat) ⟨_,rfl,?_⟩)⟩))))))))));exact⟨.non,true,_,λz=>absurd z (by omega),λ_=>rfl,rfl⟩
 rintro Δ1 ⟨fnd,bb,x12,c1,c2,rfl⟩;refine Zak (Zb0 (Zbc (Zas (Zat (Zab (Zac rfl (Zaf (Zmr (Or.inl sh.s) (Wbq sh.dp (by decide)) sh.ln (Zac rfl (Zs9 ⟨false,rfl,iteF (Za1 ?_)⟩))))))))));by_cases h25:(Wad L []++S0).length<=25
 ·obtain⟨rfl,rfl⟩:=c1 h25
  refine Zak (Zb0 (Zbc (Zas (Zat (Zab (Zac rfl (Zaf (Zd4 (Or.inl rfl) (Waa _) (Zao (Zhx ⟨false,congrArg D.bl (decide_eq_false (by omega)),iteF (Za1 ?_)⟩))))))))));refine Za3 (Zci (Zfm (Zac rfl ⟨_,rfl,_,rfl,iteT ?_⟩)));have V:=Zdr T2 u1 (by omega) n3;exact Za5 (Zab (Zac rfl (Zab (Za5 (Zab (Zac rfl (Zaf ⟨_,ts.length,rfl,T2,by omega,n3,Zaf ⟨_,rfl,Zq8 (m:=0) V (Zdo T2),q⟩⟩)))))))
 ·have e2:=c2 (by omega)
  subst e2;refine Zak (Zb0 (Zbc (Zas (Zat (Zab (Zac rfl (Zaf (Zd4 (Or.inl rfl) (Waa _) (Zao (Zhx ⟨true,congrArg D.bl (decide_eq_true (by omega)),iteT ?_⟩))))))))));exact Za3 (Zac rfl q)
end
theorem lenS {us:List Value}{n:Nat}(h:us.length=n+1):∃a t,us=a::t/\t.length=n:=by
 cases us with
 |nil=>exact absurd h.symm (Nat.succ_ne_zero n)
 |cons a t=>exact⟨a,t,rfl,Nat.succ.inj h⟩
theorem lenK1 {us:List Value}(h:us.length=1):∃a0,us=[a0]:=by
 obtain⟨a0,u0,rfl,h0⟩:=lenS h;obtain rfl:=Wcm h0;exact⟨a0,rfl⟩
theorem lenK2 {us:List Value}(h:us.length=2):∃a0 a1,us=[a0,a1]:=by
 obtain⟨a0,u0,rfl,h0⟩:=lenS h;obtain⟨a1,u1,rfl,h1⟩:=lenS h0;obtain rfl:=Wcm h1;exact⟨a0,a1,rfl⟩
theorem lenK3 {us:List Value}(h:us.length=3):∃a0 a1 a2,us=[a0,a1,a2]:=by
 obtain⟨a0,u0,rfl,h0⟩:=lenS h;obtain⟨a1,u1,rfl,h1⟩:=lenS h0;obtain⟨a2,u2,rfl,h2⟩:=lenS h1;obtain rfl:=Wcm h2;exact⟨a0,a1,a2,rfl⟩
theorem all_mk {l:PySem.W.OpenLaw}{w:World}{K:W.Frag}{h:Heap}{mg:Str->Option Value}{fa:Addr}(X:K.In h) (G:h.Ns mainGlobals mg) (hfa:mg "law" = some (.ref fa))
  {f1:Addr}{od1 an1:Option Addr}{sl1:Array (Option Value)}{oc1 kV1 dc1 pm1 cd1 ct1:Value}
  {f2:Addr}{od2 an2:Option Addr}{sl2:Array (Option Value)}{oc2 kV2 dc2 pm2 cd2 ct2:Value}
  {f3:Addr}{od3 an3:Option Addr}{sl3:Array (Option Value)}{oc3 kV3 dc3 pm3 cd3 ct3:Value}
  {f4:Addr}{od4 an4:Option Addr}{sl4:Array (Option Value)}{oc4 kV4 dc4 pm4 cd4 ct4:Value}
  {f5:Addr}{od5 an5:Option Addr}{sl5:Array (Option Value)}{oc5 kV5 dc5 pm5 cd5 ct5:Value}
  {f6:Addr}{od6 an6:Option Addr}{sl6:Array (Option Value)}{oc6 kV6 dc6 pm6 cd6 ct6:Value}
  {f7:Addr}{od7 an7:Option Addr}{sl7:Array (Option Value)}{oc7 kV7 dc7 pm7 cd7 ct7:Value}
  {f8:Addr}{od8 an8:Option Addr}{sl8:Array (Option Value)}{oc8 kV8 dc8 pm8 cd8 ct8:Value}
  {f9:Addr}{od9 an9:Option Addr}{sl9:Array (Option Value)}{oc9 kV9 dc9 pm9 cd9 ct9:Value}
  {f10:Addr}{od10 an10:Option Addr}{sl10:Array (Option Value)}{oc10 kV10 dc10 pm10 cd10 ct10:Value}
  {f11:Addr}{od11 an11:Option Addr}{sl11:Array (Option Value)}{oc11 kV11 dc11 pm11 cd11 ct11:Value}
  {f12:Addr}{od12 an12:Option Addr}{sl12:Array (Option Value)}{oc12 kV12 dc12 pm12 cd12 ct12:Value}
  {f13:Addr}{od13 an13:Option Addr}{sl13:Array (Option Value)}{oc13 kV13 dc13 pm13 cd13 ct13:Value}
  {f14:Addr}{od14 an14:Option Addr}{sl14:Array (Option Value)}{oc14 kV14 dc14 pm14 cd14 ct14:Value}
  {f15:Addr}{od15 an15:Option Addr}{sl15:Array (Option Value)}{oc15 kV15 dc15 pm15 cd15 ct15:Value}
  {f16:Addr}{od16 an16:Option Addr}{sl16:Array (Option Value)}{oc16 kV16 dc16 pm16 cd16 ct16:Value}
  {f17:Addr}{od17 an17:Option Addr}{sl17:Array (Option Value)}{oc17 kV17 dc17 pm17 cd17 ct17:Value}
  {f18:Addr}{od18 an18:Option Addr}{sl18:Array (Option Value)}{oc18 kV18 dc18 pm18 cd18 ct18:Value}
  {f19:Addr}{od19 an19:Option Addr}{sl19:Array (Option Value)}{oc19 kV19 dc19 pm19 cd19 ct19:Value}
  {f20:Addr}{od20 an20:Option Addr}{sl20:Array (Option Value)}{oc20 kV20 dc20 pm20 cd20 ct20:Value}
  {f21:Addr}{od21 an21:Option Addr}{sl21:Array (Option Value)}{oc21 kV21 dc21 pm21 cd21 ct21:Value}
  {f22:Addr}{od22 an22:Option Addr}{sl22:Array (Option Value)}{oc22 kV22 dc22 pm22 cd22 ct22:Value}
  {f23:Addr}{od23 an23:Option Addr}{sl23:Array (Option Value)}{oc23 kV23 dc23 pm23 cd23 ct23:Value}
  {f24:Addr}{od24 an24:Option Addr}{sl24:Array (Option Value)}{oc24 kV24 dc24 pm24 cd24 ct24:Value}
  {f25:Addr}{od25 an25:Option Addr}{sl25:Array (Option Value)}{oc25 kV25 dc25 pm25 cd25 ct25:Value}
  {f26:Addr}{od26 an26:Option Addr}{sl26:Array (Option Value)}{oc26 kV26 dc26 pm26 cd26 ct26:Value}
  {f27:Addr}{od27 an27:Option Addr}{sl27:Array (Option Value)}{oc27 kV27 dc27 pm27 cd27 ct27:Value}
  {c_FloorError c_NoOrder c_NoTable c_TooGreat:Addr}
  (a1:W.nsIn K mainGlobals "_law_draw" = some (some (.ref f1))) (l1:K.lookup f1=some ⟨oc1,od1,.func (W.fnOf "_law_draw" "_law_draw" (defArgs s_law_draw) (defBody s_law_draw) (defScope s_law_draw) .none kV1 dc1 pm1 an1 cd1 ct1),sl1⟩) (c1:W.codeIn K cd1 "_law_draw" = true) (k1:W.keepIn K (.ref f1)=true)
  (a2:W.nsIn K mainGlobals "_law_pen" = some (some (.ref f2))) (l2:K.lookup f2=some ⟨oc2,od2,.func (W.fnOf "_law_pen" "_law_pen" (defArgs s_law_pen) (defBody s_law_pen) (defScope s_law_pen) .none kV2 dc2 pm2 an2 cd2 ct2),sl2⟩) (c2:W.codeIn K cd2 "_law_pen" = true) (k2:W.keepIn K (.ref f2)=true)
  (a3:W.nsIn K mainGlobals "_law_web" = some (some (.ref f3))) (l3:K.lookup f3=some ⟨oc3,od3,.func (W.fnOf "_law_web" "_law_web" (defArgs s_law_web) (defBody s_law_web) (defScope s_law_web) .none kV3 dc3 pm3 an3 cd3 ct3),sl3⟩) (c3:W.codeIn K cd3 "_law_web" = true) (k3:W.keepIn K (.ref f3)=true)
  (a4:W.nsIn K mainGlobals "_law_order" = some (some (.ref f4))) (l4:K.lookup f4=some ⟨oc4,od4,.func (W.fnOf "_law_order" "_law_order" (defArgs s_law_order) (defBody s_law_order) (defScope s_law_order) .none kV4 dc4 pm4 an4 cd4 ct4),sl4⟩) (c4:W.codeIn K cd4 "_law_order" = true) (k4:W.keepIn K (.ref f4)=true)
  (a5:W.nsIn K mainGlobals "_law_mixed" = some (some (.ref f5))) (l5:K.lookup f5=some ⟨oc5,od5,.func (W.fnOf "_law_mixed" "_law_mixed" (defArgs s_law_mixed) (defBody s_law_mixed) (defScope s_law_mixed) .none kV5 dc5 pm5 an5 cd5 ct5),sl5⟩) (c5:W.codeIn K cd5 "_law_mixed" = true) (k5:W.keepIn K (.ref f5)=true)
  (a6:W.nsIn K mainGlobals "_law_edge" = some (some (.ref f6))) (l6:K.lookup f6=some ⟨oc6,od6,.func (W.fnOf "_law_edge" "_law_edge" (defArgs s_law_edge) (defBody s_law_edge) (defScope s_law_edge) .none kV6 dc6 pm6 an6 cd6 ct6),sl6⟩) (c6:W.codeIn K cd6 "_law_edge" = true) (k6:W.keepIn K (.ref f6)=true)
  (a7:W.nsIn K mainGlobals "_law_loops" = some (some (.ref f7))) (l7:K.lookup f7=some ⟨oc7,od7,.func (W.fnOf "_law_loops" "_law_loops" (defArgs s_law_loops) (defBody s_law_loops) (defScope s_law_loops) .none kV7 dc7 pm7 an7 cd7 ct7),sl7⟩) (c7:W.codeIn K cd7 "_law_loops" = true) (k7:W.keepIn K (.ref f7)=true)
  (a8:W.nsIn K mainGlobals "place_of" = some (some (.ref f8))) (l8:K.lookup f8=some ⟨oc8,od8,.func (W.fnOf "place_of" "place_of" (defArgs s_place_of) (defBody s_place_of) (defScope s_place_of) .none kV8 dc8 pm8 an8 cd8 ct8),sl8⟩) (c8:W.codeIn K cd8 "place_of" = true) (k8:W.keepIn K (.ref f8)=true)
  (a9:W.nsIn K mainGlobals "least_first" = some (some (.ref f9))) (l9:K.lookup f9=some ⟨oc9,od9,.func (W.fnOf "least_first" "least_first" (defArgs s_least_first) (defBody s_least_first) (defScope s_least_first) .none kV9 dc9 pm9 an9 cd9 ct9),sl9⟩) (c9:W.codeIn K cd9 "least_first" = true) (k9:W.keepIn K (.ref f9)=true)
  (a10:W.nsIn K mainGlobals "follower" = some (some (.ref f10))) (l10:K.lookup f10=some ⟨oc10,od10,.func (W.fnOf "follower" "follower" (defArgs s_follower) (defBody s_follower) (defScope s_follower) .none kV10 dc10 pm10 an10 cd10 ct10),sl10⟩) (c10:W.codeIn K cd10 "follower" = true) (k10:W.keepIn K (.ref f10)=true)
  (a11:W.nsIn K mainGlobals "onward" = some (some (.ref f11))) (l11:K.lookup f11=some ⟨oc11,od11,.func (W.fnOf "onward" "onward" (defArgs s_onward) (defBody s_onward) (defScope s_onward) .none kV11 dc11 pm11 an11 cd11 ct11),sl11⟩) (c11:W.codeIn K cd11 "onward" = true) (k11:W.keepIn K (.ref f11)=true)
  (a12:W.nsIn K mainGlobals "face_of" = some (some (.ref f12))) (l12:K.lookup f12=some ⟨oc12,od12,.func (W.fnOf "face_of" "face_of" (defArgs s_face_of) (defBody s_face_of) (defScope s_face_of) .none kV12 dc12 pm12 an12 cd12 ct12),sl12⟩) (c12:W.codeIn K cd12 "face_of" = true) (k12:W.keepIn K (.ref f12)=true)
  (a13:W.nsIn K mainGlobals "faces" = some (some (.ref f13))) (l13:K.lookup f13=some ⟨oc13,od13,.func (W.fnOf "faces" "faces" (defArgs s_faces) (defBody s_faces) (defScope s_faces) .none kV13 dc13 pm13 an13 cd13 ct13),sl13⟩) (c13:W.codeIn K cd13 "faces" = true) (k13:W.keepIn K (.ref f13)=true)
  (a14:W.nsIn K mainGlobals "_law_partner" = some (some (.ref f14))) (l14:K.lookup f14=some ⟨oc14,od14,.func (W.fnOf "_law_partner" "_law_partner" (defArgs s_law_partner) (defBody s_law_partner) (defScope s_law_partner) .none kV14 dc14 pm14 an14 cd14 ct14),sl14⟩) (c14:W.codeIn K cd14 "_law_partner" = true) (k14:W.keepIn K (.ref f14)=true)
  (a15:W.nsIn K mainGlobals "_law_faces" = some (some (.ref f15))) (l15:K.lookup f15=some ⟨oc15,od15,.func (W.fnOf "_law_faces" "_law_faces" (defArgs s_law_faces) (defBody s_law_faces) (defScope s_law_faces) .none kV15 dc15 pm15 an15 cd15 ct15),sl15⟩) (c15:W.codeIn K cd15 "_law_faces" = true) (k15:W.keepIn K (.ref f15)=true)
  (a16:W.nsIn K mainGlobals "_law_whole" = some (some (.ref f16))) (l16:K.lookup f16=some ⟨oc16,od16,.func (W.fnOf "_law_whole" "_law_whole" (defArgs s_law_whole) (defBody s_law_whole) (defScope s_law_whole) .none kV16 dc16 pm16 an16 cd16 ct16),sl16⟩) (c16:W.codeIn K cd16 "_law_whole" = true) (k16:W.keepIn K (.ref f16)=true)
  (a17:W.nsIn K mainGlobals "_law_same" = some (some (.ref f17))) (l17:K.lookup f17=some ⟨oc17,od17,.func (W.fnOf "_law_same" "_law_same" (defArgs s_law_same) (defBody s_law_same) (defScope s_law_same) .none kV17 dc17 pm17 an17 cd17 ct17),sl17⟩) (c17:W.codeIn K cd17 "_law_same" = true) (k17:W.keepIn K (.ref f17)=true)
  (a18:W.nsIn K mainGlobals "floor_by" = some (some (.ref f18))) (l18:K.lookup f18=some ⟨oc18,od18,.func (W.fnOf "floor_by" "floor_by" (defArgs s_floor_by) (defBody s_floor_by) (defScope s_floor_by) .none kV18 dc18 pm18 an18 cd18 ct18),sl18⟩) (c18:W.codeIn K cd18 "floor_by" = true) (k18:W.keepIn K (.ref f18)=true)
  (a19:W.nsIn K mainGlobals "_law_floor" = some (some (.ref f19))) (l19:K.lookup f19=some ⟨oc19,od19,.func (W.fnOf "_law_floor" "_law_floor" (defArgs s_law_floor) (defBody s_law_floor) (defScope s_law_floor) .none kV19 dc19 pm19 an19 cd19 ct19),sl19⟩) (c19:W.codeIn K cd19 "_law_floor" = true) (k19:W.keepIn K (.ref f19)=true)
  (a20:W.nsIn K mainGlobals "is_row" = some (some (.ref f20))) (l20:K.lookup f20=some ⟨oc20,od20,.func (W.fnOf "is_row" "is_row" (defArgs s_is_row) (defBody s_is_row) (defScope s_is_row) .none kV20 dc20 pm20 an20 cd20 ct20),sl20⟩) (c20:W.codeIn K cd20 "is_row" = true) (k20:W.keepIn K (.ref f20)=true)
  (a21:W.nsIn K mainGlobals "is_whole" = some (some (.ref f21))) (l21:K.lookup f21=some ⟨oc21,od21,.func (W.fnOf "is_whole" "is_whole" (defArgs s_is_whole) (defBody s_is_whole) (defScope s_is_whole) .none kV21 dc21 pm21 an21 cd21 ct21),sl21⟩) (c21:W.codeIn K cd21 "is_whole" = true) (k21:W.keepIn K (.ref f21)=true)
  (a22:W.nsIn K mainGlobals "least_first" = some (some (.ref f22))) (l22:K.lookup f22=some ⟨oc22,od22,.func (W.fnOf "least_first" "least_first" (defArgs s_least_first) (defBody s_least_first) (defScope s_least_first) .none kV22 dc22 pm22 an22 cd22 ct22),sl22⟩) (c22:W.codeIn K cd22 "least_first" = true) (k22:W.keepIn K (.ref f22)=true)
  (a23:W.nsIn K mainGlobals "faces_of_table" = some (some (.ref f23))) (l23:K.lookup f23=some ⟨oc23,od23,.func (W.fnOf "faces_of_table" "faces_of_table" (defArgs s_faces_of_table) (defBody s_faces_of_table) (defScope s_faces_of_table) .none kV23 dc23 pm23 an23 cd23 ct23),sl23⟩) (c23:W.codeIn K cd23 "faces_of_table" = true) (k23:W.keepIn K (.ref f23)=true)
  (a24:W.nsIn K mainGlobals "rows_told_by" = some (some (.ref f24))) (l24:K.lookup f24=some ⟨oc24,od24,.func (W.fnOf "rows_told_by" "rows_told_by" (defArgs s_rows_told_by) (defBody s_rows_told_by) (defScope s_rows_told_by) .none kV24 dc24 pm24 an24 cd24 ct24),sl24⟩) (c24:W.codeIn K cd24 "rows_told_by" = true) (k24:W.keepIn K (.ref f24)=true)
  (a25:W.nsIn K mainGlobals "_law_dealt" = some (some (.ref f25))) (l25:K.lookup f25=some ⟨oc25,od25,.func (W.fnOf "_law_dealt" "_law_dealt" (defArgs s_law_dealt) (defBody s_law_dealt) (defScope s_law_dealt) .none kV25 dc25 pm25 an25 cd25 ct25),sl25⟩) (c25:W.codeIn K cd25 "_law_dealt" = true) (k25:W.keepIn K (.ref f25)=true)
  (a26:W.nsIn K mainGlobals "read_table" = some (some (.ref f26))) (l26:K.lookup f26=some ⟨oc26,od26,.func (W.fnOf "read_table" "read_table" (defArgs s_read_table) (defBody s_read_table) (defScope s_read_table) .none kV26 dc26 pm26 an26 cd26 ct26),sl26⟩) (c26:W.codeIn K cd26 "read_table" = true) (k26:W.keepIn K (.ref f26)=true)
  (a27:W.nsIn K mainGlobals "law" = some (some (.ref f27))) (l27:K.lookup f27=some ⟨oc27,od27,.func (W.fnOf "law" "law" (defArgs s_law) (defBody s_law) (defScope s_law) .none kV27 dc27 pm27 an27 cd27 ct27),sl27⟩) (c27:W.codeIn K cd27 "law" = true) (k27:W.keepIn K (.ref f27)=true)
  {tk_MOST_PLACES:Tok}(y_MOST_PLACES:W.nsIn K mainGlobals "MOST_PLACES" = some (some (.int 25 tk_MOST_PLACES)))
  {tk_MOST_TIES:Tok}(y_MOST_TIES:W.nsIn K mainGlobals "MOST_TIES" = some (some (.int 24 tk_MOST_TIES)))
  (z0:W.nsIn K mainGlobals "ValueError" = some none)
  (z1:W.nsIn K mainGlobals "abs" = some none)
  (z2:W.nsIn K mainGlobals "all" = some none)
  (z3:W.nsIn K mainGlobals "bool" = some none)
  (z4:W.nsIn K mainGlobals "enumerate" = some none)
  (z5:W.nsIn K mainGlobals "int" = some none)
  (z6:W.nsIn K mainGlobals "isinstance" = some none)
  (z7:W.nsIn K mainGlobals "len" = some none)
  (z8:W.nsIn K mainGlobals "list" = some none)
  (z9:W.nsIn K mainGlobals "max" = some none)
  (z10:W.nsIn K mainGlobals "min" = some none)
  (z11:W.nsIn K mainGlobals "range" = some none)
  (z12:W.nsIn K mainGlobals "repr" = some none)
  (z13:W.nsIn K mainGlobals "set" = some none)
  (z14:W.nsIn K mainGlobals "sorted" = some none)
  (z15:W.nsIn K mainGlobals "tuple" = some none)
  (z16:W.nsIn K mainGlobals "zip" = some none)
  (n_FloorError:W.nsIn K mainGlobals "FloorError" = some (some (.ref c_FloorError)))
  (e_FloorError:PySem.W.excIn K c_FloorError [.type "ValueError",.type "Exception",.type "BaseException",.type "object"] "ValueError.__new__" = true)
  (n_NoOrder:W.nsIn K mainGlobals "NoOrder" = some (some (.ref c_NoOrder)))
  (n_NoTable:W.nsIn K mainGlobals "NoTable" = some (some (.ref c_NoTable)))
  (e_NoTable:PySem.W.excIn K c_NoTable [.type "ValueError",.type "Exception",.type "BaseException",.type "object"] "ValueError.__new__" = true)
  (n_TooGreat:W.nsIn K mainGlobals "TooGreat" = some (some (.ref c_TooGreat)))
  (gsx:PySem.W.specialIn K (.builtin "object.__class__") "__get__" = some (some (.builtin "getset_descriptor.__get__")))
  (tkx:PySem.W.takesIn K (.builtin "object.__class__")=some true)
  (ic_NoTable:PySem.W.isClsIn K c_NoTable=true)
  (ty_NoTable:PySem.W.typeIn K (.ref c_NoTable)=some (.type "type"))
  (ic_NoOrder:PySem.W.isClsIn K c_NoOrder=true)
  (ty_NoOrder:PySem.W.typeIn K (.ref c_NoOrder)=some (.type "type"))
  (ic_TooGreat:PySem.W.isClsIn K c_TooGreat=true)
  (ty_TooGreat:PySem.W.typeIn K (.ref c_TooGreat)=some (.type "type"))
  (ga_NoTable:PySem.W.findIn K (.ref c_NoTable) "__getattribute__" = some (some (.builtin "BaseException.__getattribute__")))
  (gt_NoTable:PySem.W.findIn K (.ref c_NoTable) "__getattr__" = some none)
  (ca_NoTable:PySem.W.findIn K (.ref c_NoTable) "__class__" = some (some (.builtin "object.__class__")))
  (ob_NoTable:PySem.W.mroIn K c_NoTable (.type "object")=some true)
  (be_NoTable:PySem.W.mroIn K c_NoTable (.type "BaseException")=some true)
  (ve_NoTable:PySem.W.subIn K (.ref c_NoTable) (.type "ValueError")=some true)
  (m_NoTable:PySem.W.mroIn K c_NoTable (.ref c_FloorError)=some true)
  (s_NoTable_NoTable:PySem.W.subIn K (.ref c_NoTable) (.ref c_NoTable)=some true)
  (s_NoTable_NoOrder:PySem.W.subIn K (.ref c_NoTable) (.ref c_NoOrder)=some false)
  (d_NoTable_NoOrder:(c_NoTable == c_NoOrder)=false)
  (s_NoTable_TooGreat:PySem.W.subIn K (.ref c_NoTable) (.ref c_TooGreat)=some false)
  (d_NoTable_TooGreat:(c_NoTable == c_TooGreat)=false) :
  ∃fd:FuncData,(∀(s:Shared) (v:Value),BindsTo s fd ⟨[v],[]⟩ [("_law_script",v)])/\∀base:Heap,K.In base->base.Ns mainGlobals mg->FnOk l.prog w K mg base CX0 8 fa fd ["_law_script"] (spD K fLaw):=by
 have e:=hfa.symm.trans (W.mg_of X G a27);cases e;have mb:Mb mg:=by
  intro x hx;simp only[Wan,Wbu,or_false]at hx;rcases hx with rfl|rfl|rfl|rfl|rfl|rfl|rfl|rfl|rfl|rfl|rfl|rfl|rfl|rfl|rfl|rfl|rfl
  ·exact W.mg_none_of X G z0
  ·exact W.mg_none_of X G z1
  ·exact W.mg_none_of X G z2
  ·exact W.mg_none_of X G z3
  ·exact W.mg_none_of X G z4
  ·exact W.mg_none_of X G z5
  ·exact W.mg_none_of X G z6
  ·exact W.mg_none_of X G z7
  ·exact W.mg_none_of X G z8
  ·exact W.mg_none_of X G z9
  ·exact W.mg_none_of X G z10
  ·exact W.mg_none_of X G z11
  ·exact W.mg_none_of X G z12
  ·exact W.mg_none_of X G z13
  ·exact W.mg_none_of X G z14
  ·exact W.mg_none_of X G z15
  ·exact W.mg_none_of X G z16
 have F1:=Za7 (st:=s_law_draw) l1 c1 k1;have F2:=Za7 (st:=s_law_pen) l2 c2 k2;have F3:=Za7 (st:=s_law_web) l3 c3 k3;have F4:=Za7 (st:=s_law_order) l4 c4 k4;have F5:=Za7 (st:=s_law_mixed) l5 c5 k5;have F6:=Za7 (st:=s_law_edge) l6 c6 k6;have F7:=Za7 (st:=s_law_loops) l7 c7 k7;have F8:=Za7 (st:=s_place_of) l8 c8 k8;have F9:=Za7 (st:=s_least_first) l9 c9 k9;have F10:=Za7 (st:=s_follower) l10 c10 k10;have F11:=Za7 (st:=s_onward) l11 c11 k11;have F12:=Za7 (st:=s_face_of) l12 c12 k12;have F13:=Za7 (st:=s_faces) l13 c13 k13;have F14:=Za7 (st:=s_law_partner) l14 c14 k14;have F15:=Za7 (st:=s_law_faces) l15 c15 k15;have F16:=Za7 (st:=s_law_whole) l16 c16 k16;have F17:=Za7 (st:=s_law_same) l17 c17 k17;have F18:=Za7 (st:=s_floor_by) l18 c18 k18;have F19:=Za7 (st:=s_law_floor) l19 c19 k19;have F20:=Za7 (st:=s_is_row) l20 c20 k20;have F21:=Za7 (st:=s_is_whole) l21 c21 k21;have F22:=Za7 (st:=s_least_first) l22 c22 k22;have F23:=Za7 (st:=s_faces_of_table) l23 c23 k23;have F24:=Za7 (st:=s_rows_told_by) l24 c24 k24;have F25:=Za7 (st:=s_law_dealt) l25 c25 k25;have F26:=Za7 (st:=s_read_table) l26 c26 k26;have F27:=Za7 (st:=s_law) l27 c27 k27;have b1:=F1.binds (ps:=["_law_pen_here","_law_many"]) λ_ _ _ _ _ _ us hl=>by obtain⟨a0,a1,rfl⟩:=lenK2 hl;rfl
 have b2:=F2.binds (ps:=["_law_script"]) λ_ _ _ _ _ _ us hl=>by obtain⟨a0,rfl⟩:=lenK1 hl;rfl
 have b3:=F3.binds (ps:=["_law_pen_here","_law_places","_law_ties"]) λ_ _ _ _ _ _ us hl=>by obtain⟨a0,a1,a2,rfl⟩:=lenK3 hl;rfl
 have b4:=F4.binds (ps:=["_law_pen_here","_law_web_here"]) λ_ _ _ _ _ _ us hl=>by obtain⟨a0,a1,rfl⟩:=lenK2 hl;rfl
 have b5:=F5.binds (ps:=["_law_pen_here","_law_things"]) λ_ _ _ _ _ _ us hl=>by obtain⟨a0,a1,rfl⟩:=lenK2 hl;rfl
 have b6:=F6.binds (ps:=["_law_pen_here"]) λ_ _ _ _ _ _ us hl=>by obtain⟨a0,rfl⟩:=lenK1 hl;rfl
 have b7:=F7.binds (ps:=["_law_pen_here"]) λ_ _ _ _ _ _ us hl=>by obtain⟨a0,rfl⟩:=lenK1 hl;rfl
 have b8:=F8.binds (ps:=["web","end"]) λ_ _ _ _ _ _ us hl=>by obtain⟨a0,a1,rfl⟩:=lenK2 hl;rfl
 have b9:=F9.binds (ps:=["ends"]) λ_ _ _ _ _ _ us hl=>by obtain⟨a0,rfl⟩:=lenK1 hl;rfl
 have b10:=F10.binds (ps:=["web","order","end"]) λ_ _ _ _ _ _ us hl=>by obtain⟨a0,a1,a2,rfl⟩:=lenK3 hl;rfl
 have b11:=F11.binds (ps:=["web","order","end"]) λ_ _ _ _ _ _ us hl=>by obtain⟨a0,a1,a2,rfl⟩:=lenK3 hl;rfl
 have b12:=F12.binds (ps:=["web","order","end"]) λ_ _ _ _ _ _ us hl=>by obtain⟨a0,a1,a2,rfl⟩:=lenK3 hl;rfl
 have b13:=F13.binds (ps:=["web","order"]) λ_ _ _ _ _ _ us hl=>by obtain⟨a0,a1,rfl⟩:=lenK2 hl;rfl
 have b14:=F14.binds (ps:=["_law_end"]) λ_ _ _ _ _ _ us hl=>by obtain⟨a0,rfl⟩:=lenK1 hl;rfl
 have b15:=F15.binds (ps:=["_law_order_here"]) λ_ _ _ _ _ _ us hl=>by obtain⟨a0,rfl⟩:=lenK1 hl;rfl
 have b16:=F16.binds (ps:=["_law_found"]) λ_ _ _ _ _ _ us hl=>by obtain⟨a0,rfl⟩:=lenK1 hl;rfl
 have b17:=F17.binds (ps:=["_law_found","_law_due"]) λ_ _ _ _ _ _ us hl=>by obtain⟨a0,a1,rfl⟩:=lenK2 hl;rfl
 have b18:=F18.binds (ps:=["rows"]) λ_ _ _ _ _ _ us hl=>by obtain⟨a0,rfl⟩:=lenK1 hl;rfl
 have b19:=F19.binds (ps:=["_law_rows"]) λ_ _ _ _ _ _ us hl=>by obtain⟨a0,rfl⟩:=lenK1 hl;rfl
 have b20:=F20.binds (ps:=["thing"]) λ_ _ _ _ _ _ us hl=>by obtain⟨a0,rfl⟩:=lenK1 hl;rfl
 have b21:=F21.binds (ps:=["thing"]) λ_ _ _ _ _ _ us hl=>by obtain⟨a0,rfl⟩:=lenK1 hl;rfl
 have b22:=F22.binds (ps:=["ends"]) λ_ _ _ _ _ _ us hl=>by obtain⟨a0,rfl⟩:=lenK1 hl;rfl
 have b23:=F23.binds (ps:=["table"]) λ_ _ _ _ _ _ us hl=>by obtain⟨a0,rfl⟩:=lenK1 hl;rfl
 have b24:=F24.binds (ps:=["told"]) λ_ _ _ _ _ _ us hl=>by obtain⟨a0,rfl⟩:=lenK1 hl;rfl
 have b25:=F25.binds (ps:=["_law_pen_here","_law_rows"]) λ_ _ _ _ _ _ us hl=>by obtain⟨a0,a1,rfl⟩:=lenK2 hl;rfl
 have b26:=F26.binds (ps:=["table"]) λ_ _ _ _ _ _ us hl=>by obtain⟨a0,rfl⟩:=lenK1 hl;rfl
 refine⟨W.fnOf "law" "law" (defArgs s_law) (defBody s_law) (defScope s_law) .none kV27 dc27 pm27 an27 cd27 ct27,λs v=>.of_eq rfl,λbase _ _=>?_⟩;have cl:Cl K mg c_FloorError c_NoOrder c_NoTable c_TooGreat:=⟨W.mg_of X G n_FloorError,e_FloorError,W.mg_of X G n_NoOrder,W.mg_of X G n_NoTable,e_NoTable,W.mg_of X G n_TooGreat,⟨e_NoTable,ga_NoTable,gt_NoTable,ca_NoTable,gsx,tkx,ob_NoTable,be_NoTable⟩,m_NoTable,Zql (by decide +kernel) ve_NoTable,Zl0 ic_NoTable ty_NoTable s_NoTable_NoTable λ_=>rfl,Zl0 ic_NoOrder ty_NoOrder s_NoTable_NoOrder λz=>(by rw[d_NoTable_NoOrder]at z;exact z),Zl0 ic_TooGreat ty_TooGreat s_NoTable_TooGreat λz=>(by rw[d_NoTable_TooGreat]at z;exact z)⟩;have C1:Callee l.prog w K mg base 1 "_law_draw" ["_law_pen_here","_law_many"] (spB K fDraw):=⟨⟨_,_,Zq4 mb  F1,b1,k1,W.mg_of X G a1⟩⟩;have C2:Callee l.prog w K mg base 1 "_law_pen" ["_law_script"] (spN K fPen):=⟨⟨_,_,Zs3 mb  F2,b2,k2,W.mg_of X G a2⟩⟩;have C3:Callee l.prog w K mg base 2 "_law_web" ["_law_pen_here","_law_places","_law_ties"] (spB K fWeb):=⟨⟨_,_,Ztr mb C1 F3,b3,k3,W.mg_of X G a3⟩⟩;have C4:Callee l.prog w K mg base 2 "_law_order" ["_law_pen_here","_law_web_here"] (spB K fOrder):=⟨⟨_,_,Zpd mb C1 F4,b4,k4,W.mg_of X G a4⟩⟩;have C5:Callee l.prog w K mg base 2 "_law_mixed" ["_law_pen_here","_law_things"] (spB K fMixed):=⟨⟨_,_,Zpl mb C1 F5,b5,k5,W.mg_of X G a5⟩⟩;have C6:Callee l.prog w K mg base 3 "_law_edge" ["_law_pen_here"] (spB K fEdge):=⟨⟨_,_,Zp4 mb C1 C5 F6,b6,k6,W.mg_of X G a6⟩⟩;have C7:Callee l.prog w K mg base 2 "_law_loops" ["_law_pen_here"] (spB K fEdge):=⟨⟨_,_,Zos mb C1 F7,b7,k7,W.mg_of X G a7⟩⟩;have C8:Callee l.prog w K mg base 1 "place_of" ["web","end"] (spD K fPlace):=⟨⟨_,_,Zot mb  F8,b8,k8,W.mg_of X G a8⟩⟩;have C9:Callee l.prog w K mg base 1 "least_first" ["ends"] (spD K fLeastL):=⟨⟨_,_,Zm1 mb  F9,b9,k9,W.mg_of X G a9⟩⟩;have C10:Callee l.prog w K mg base 2 "follower" ["web","order","end"] (spD K fFol):=⟨⟨_,_,Zjd mb C8 F10,b10,k10,W.mg_of X G a10⟩⟩;have C11:Callee l.prog w K mg base 3 "onward" ["web","order","end"] (spD K fOnw):=⟨⟨_,_,Zlp mb C10 F11,b11,k11,W.mg_of X G a11⟩⟩;have C12:Callee l.prog w K mg base 4 "face_of" ["web","order","end"] (spD K fFaceOf):=⟨⟨_,_,Zkg mb C11 C9 F12,b12,k12,W.mg_of X G a12⟩⟩;have C13:Callee l.prog w K mg base 5 "faces" ["web","order"] (spN K fFaces):=⟨⟨_,_,Zo5 mb C12 F13,b13,k13,W.mg_of X G a13⟩⟩;have C14:Callee l.prog w K mg base 1 "_law_partner" ["_law_end"] (spD K fPart):=⟨⟨_,_,Zkm mb  F14,b14,k14,W.mg_of X G a14⟩⟩;have C15:Callee l.prog w K mg base 2 "_law_faces" ["_law_order_here"] (spN K fLFaces):=⟨⟨_,_,Znt mb C14 F15,b15,k15,W.mg_of X G a15⟩⟩;have C16:Callee l.prog w K mg base 1 "_law_whole" ["_law_found"] (spD K fWholeB):=⟨⟨_,_,Zns mb  F16,b16,k16,W.mg_of X G a16⟩⟩;have C17:Callee l.prog w K mg base 6 "_law_same" ["_law_found","_law_due"] (spD K (fSame 5)):=⟨⟨_,_,Zou mb C16 F17 b17 k17 (W.mg_of X G a17) 6,b17,k17,W.mg_of X G a17⟩⟩;have C18:Callee l.prog w K mg base 1 "floor_by" ["rows"] (spD K fFloor):=⟨⟨_,_,Znx mb  F18,b18,k18,W.mg_of X G a18⟩⟩;have C19:Callee l.prog w K mg base 1 "_law_floor" ["_law_rows"] (spD K fFloor):=⟨⟨_,_,Zmz mb  F19,b19,k19,W.mg_of X G a19⟩⟩;have C20:Callee l.prog w K mg base 1 "is_row" ["thing"] (spD K fIsRow):=⟨⟨_,_,Zox mb  F20,b20,k20,W.mg_of X G a20⟩⟩;have C21:Callee l.prog w K mg base 1 "is_whole" ["thing"] (spD K fWhole):=⟨⟨_,_,Zry mb  F21,b21,k21,W.mg_of X G a21⟩⟩;have C22:Callee l.prog w K mg base 1 "least_first" ["ends"] (spD K fLeastU):=⟨⟨_,_,Zli mb  F22,b22,k22,W.mg_of X G a22⟩⟩;have C23:Callee l.prog w K mg base 2 "faces_of_table" ["table"] (spN K fFoT):=⟨⟨_,_,Zsj mb C20 C21 (W.mg_of X G y_MOST_TIES) C22 F23,b23,k23,W.mg_of X G a23⟩⟩;have C24:Callee l.prog w K mg base 6 "rows_told_by" ["told"] (spN K fRTB):=⟨⟨_,_,Ztj mb C18 C13 F24,b24,k24,W.mg_of X G a24⟩⟩;have C25:Callee l.prog w K mg base 3 "_law_dealt" ["_law_pen_here","_law_rows"] (spB K fDealt):=⟨⟨_,_,Zoh mb C5 C1 F25,b25,k25,W.mg_of X G a25⟩⟩;have C26:CalleeX l.prog w K mg base 7 "read_table" ["table"] (spX K (fReadX c_NoTable)):=⟨⟨_,_,Zo8 mb cl C23 C24 (W.mg_of X G y_MOST_PLACES) C18 F26,b26,k26,W.mg_of X G a26⟩⟩
 exact ok_law mb cl C2 C3 C1 C6 C7 C4 C15 C25 C26 C17 C19 F27
end Lw
open PySem PySem.W PyProof.Rows
theorem PySem.W.Fast.te1501761342901446751:True:=trivial
def PySem.W.Fast.tw3005448245160144376:PySem.Program:=PySem.Challenge.pw_holefloor_k41_tables_read
theorem PySem.W.Fast.te3005448245160144376:PySem.Challenge.pw_holefloor_k41_tables_read=PySem.W.Fast.tw3005448245160144376:=rfl
def PySem.W.Fast.tw14638319899223839741:Unit:=()
def PySem.W.Fast.tw7247672922078889594:Unit:=()
def PySem.W.Fast.tw7639121429691623916:Unit:=()
def PySem.W.Fast.tw12243409111839532585:Unit:=()
def PySem.W.Fast.tw5568721969880688932:Unit:=()
def PySem.W.Fast.tw14647239686319112874:Unit:=()
def PySem.W.Fast.tw2486836438841571928:Unit:=()
def PySem.W.Fast.tw9208421439497591142:Unit:=()
def PySem.W.Fast.tw7733152631556726133:Unit:=()
def PySem.W.Fast.tw1730487715300630184:Unit:=()
def PySem.W.Fast.tw14421082330277101950:Unit:=()
def PySem.W.Fast.tw18185949343087825758:Unit:=()
def PySem.W.Fast.tw10773449948249128553:Unit:=()
def PySem.W.Fast.tw2212872150051827825:Unit:=()
def PySem.W.Fast.tw7847488882943815049:Unit:=()
def PySem.W.Fast.tw4034306393617138889:Unit:=()
def PySem.W.Fast.tw17163119391922980948:Unit:=()
def PySem.W.Fast.tw11535973224341206820:Unit:=()
def PySem.W.Fast.tw5218511459720875475:Unit:=()
set_option maxRecDepth 100000 in
set_option maxHeartbeats 0 in
theorem PySem.Challenge.cw_holefloor_k41_tables_read_holds : PySem.Challenge.rw_holefloor_k41_tables_read.Holds := by
 w_on;o_law;k_head; (case hw=>w_witness2)
 k_fill
 refine L2.walk_law (k:=8) (x:="_law_script") (l:=PySem.Challenge.rw_holefloor_k41_tables_read) ⟨rfl,by decide,by decide,rfl⟩ rfl rfl (λw h Y=>PySem.W.kIn_of Y) ?F
 case F=>
  intro w mg fa h KX G hmg;refine' Lw.all_mk KX G hmg ?a1 ?l1 ?c1 ?k1 ?a2 ?l2 ?c2 ?k2 ?a3 ?l3 ?c3 ?k3 ?a4 ?l4 ?c4 ?k4 ?a5 ?l5 ?c5 ?k5 ?a6 ?l6 ?c6 ?k6 ?a7 ?l7 ?c7 ?k7 ?a8 ?l8 ?c8 ?k8 ?a9 ?l9 ?c9 ?k9 ?a10 ?l10 ?c10 ?k10 ?a11 ?l11 ?c11 ?k11 ?a12 ?l12 ?c12 ?k12 ?a13 ?l13 ?c13 ?k13 ?a14 ?l14 ?c14 ?k14 ?a15 ?l15 ?c15 ?k15 ?a16 ?l16 ?c16 ?k16 ?a17 ?l17 ?c17 ?k17 ?a18 ?l18 ?c18 ?k18 ?a19 ?l19 ?c19 ?k19 ?a20 ?l20 ?c20 ?k20 ?a21 ?l21 ?c21 ?k21 ?a22 ?l22 ?c22 ?k22 ?a23 ?l23 ?c23 ?k23 ?a24 ?l24 ?c24 ?k24 ?a25 ?l25 ?c25 ?k25 ?a26 ?l26 ?c26 ?k26 ?a27 ?l27 ?c27 ?k27 ?y_MOST_PLACES ?y_MOST_TIES ?z0 ?z1 ?z2 ?z3 ?z4 ?z5 ?z6 ?z7 ?z8 ?z9 ?z10 ?z11 ?z12 ?z13 ?z14 ?z15 ?z16 ?n_FloorError ?e_FloorError ?n_NoOrder ?n_NoTable ?e_NoTable ?n_TooGreat ?gsx ?tkx ?ic_NoTable ?ty_NoTable ?ic_NoOrder ?ty_NoOrder ?ic_TooGreat ?ty_TooGreat ?ga_NoTable ?gt_NoTable ?ca_NoTable ?ob_NoTable ?be_NoTable ?ve_NoTable ?m_NoTable ?s_NoTable_NoTable ?s_NoTable_NoOrder ?d_NoTable_NoOrder ?s_NoTable_TooGreat ?d_NoTable_TooGreat
  (case a1=>k_is)
  (case l1=>k_is)
  (case c1=>k_is)
  (case k1=>k_is)
  (case a2=>k_is)
  (case l2=>k_is)
  (case c2=>k_is)
  (case k2=>k_is)
  (case a3=>k_is)
  (case l3=>k_is)
  (case c3=>k_is)
  (case k3=>k_is)
  (case a4=>k_is)
  (case l4=>k_is)
  (case c4=>k_is)
  (case k4=>k_is)
  (case a5=>k_is)
  (case l5=>k_is)
  (case c5=>k_is)
  (case k5=>k_is)
  (case a6=>k_is)
  (case l6=>k_is)
  (case c6=>k_is)
  (case k6=>k_is)
  (case a7=>k_is)
  (case l7=>k_is)
  (case c7=>k_is)
  (case k7=>k_is)
  (case a8=>k_is)
  (case l8=>k_is)
  (case c8=>k_is)
  (case k8=>k_is)
  (case a9=>k_is)
  (case l9=>k_is)
  (case c9=>k_is)
  (case k9=>k_is)
  (case a10=>k_is)
  (case l10=>k_is)
  (case c10=>k_is)
  (case k10=>k_is)
  (case a11=>k_is)
  (case l11=>k_is)
  (case c11=>k_is)
  (case k11=>k_is)
  (case a12=>k_is)
  (case l12=>k_is)
  (case c12=>k_is)
  (case k12=>k_is)
  (case a13=>k_is)
  (case l13=>k_is)
  (case c13=>k_is)
  (case k13=>k_is)
  (case a14=>k_is)
  (case l14=>k_is)
  (case c14=>k_is)
  (case k14=>k_is)
  (case a15=>k_is)
  (case l15=>k_is)
  (case c15=>k_is)
  (case k15=>k_is)
  (case a16=>k_is)
  (case l16=>k_is)
  (case c16=>k_is)
  (case k16=>k_is)
  (case a17=>k_is)
  (case l17=>k_is)
  (case c17=>k_is)
  (case k17=>k_is)
  (case a18=>k_is)
  (case l18=>k_is)
  (case c18=>k_is)
  (case k18=>k_is)
  (case a19=>k_is)
  (case l19=>k_is)
  (case c19=>k_is)
  (case k19=>k_is)
  (case a20=>k_is)
  (case l20=>k_is)
  (case c20=>k_is)
  (case k20=>k_is)
  (case a21=>k_is)
  (case l21=>k_is)
  (case c21=>k_is)
  (case k21=>k_is)
  (case a22=>k_is)
  (case l22=>k_is)
  (case c22=>k_is)
  (case k22=>k_is)
  (case a23=>k_is)
  (case l23=>k_is)
  (case c23=>k_is)
  (case k23=>k_is)
  (case a24=>k_is)
  (case l24=>k_is)
  (case c24=>k_is)
  (case k24=>k_is)
  (case a25=>k_is)
  (case l25=>k_is)
  (case c25=>k_is)
  (case k25=>k_is)
  (case a26=>k_is)
  (case l26=>k_is)
  (case c26=>k_is)
  (case k26=>k_is)
  (case a27=>k_is)
  (case l27=>k_is)
  (case c27=>k_is)
  (case k27=>k_is)
  (case y_MOST_PLACES=>k_is)
  (case y_MOST_TIES=>k_is)
  (case z0=>k_is)
  (case z1=>k_is)
  (case z2=>k_is)
  (case z3=>k_is)
  (case z4=>k_is)
  (case z5=>k_is)
  (case z6=>k_is)
  (case z7=>k_is)
  (case z8=>k_is)
  (case z9=>k_is)
  (case z10=>k_is)
  (case z11=>k_is)
  (case z12=>k_is)
  (case z13=>k_is)
  (case z14=>k_is)
  (case z15=>k_is)
  (case z16=>k_is)
  (case n_FloorError=>k_is)
  (case e_FloorError=>k_exc)
  (case n_NoOrder=>k_is)
  (case n_NoTable=>k_is)
  (case e_NoTable=>k_exc)
  (case n_TooGreat=>k_is)
  (case gsx=>k_is)
  (case tkx=>k_is)
  (case ic_NoTable=>k_is)
  (case ty_NoTable=>k_is)
  (case ic_NoOrder=>k_is)
  (case ty_NoOrder=>k_is)
  (case ic_TooGreat=>k_is)
  (case ty_TooGreat=>k_is)
  (case ga_NoTable=>k_is)
  (case gt_NoTable=>k_is)
  (case ca_NoTable=>k_is)
  (case ob_NoTable=>k_is)
  (case be_NoTable=>k_is)
  (case ve_NoTable=>k_is)
  (case m_NoTable=>k_is)
  (case s_NoTable_NoTable=>k_is)
  (case s_NoTable_NoOrder=>k_is)
  (case d_NoTable_NoOrder=>rfl)
  (case s_NoTable_TooGreat=>k_is)
  (case d_NoTable_TooGreat=>rfl)

