import PyProof.Rows.All
import Wide.All
import OpenK.AllK
import Wide.FinOn
import Lean
import PyProof.EqAt
import PyProof.EqKinds
import PyProof.TupleCall
import KE.KSortTup
import PyProof.NeKinds
import PyProof.ExcBaseAll.ValueError
import PyProof.ExcArgsOwn
import PyProof.NsDelKeeps
import PyProof.RulesAs
import PyProof.FString
import PyProof.AttrMissSeq
import PyProof.WalksS
import KE.KDictList
import KE.KDictSum
import PySem.Challenge.RW_holefloor_k77_whole_floors_alike
open List renaming getElem?_eq_getElem→Waa, length_map→Wab, getD_eq_getElem?_getD→Wac, getElem?_map→Wad, getElem?_eq_some_iff→Waf, size_toArray→Wag, getElem?_set_self→Wai, replicate→Waj, getElem?_set_ne→Wam, map_map→Wan, length_append→Wao, mem_of_getElem?→Waq, length_cons→War, mem_cons→Wat, range→Wau, mem_map→Wav, mem_cons_of_mem→Wax, getElem?_append_right→Way, mem_singleton→Waz, mem_cons_self→Wa0, map_append→Wa1, mem_range→Wa2, map_cons→Wa3, filter_eq_self→Wa5, nodup_iff_pairwise_ne→Wa6, getElem_mem→Wa7, mem_append_right→Wa8, map_congr_left→Wa9, length_replicate→Wba, length_singleton→Wbb, getElem?_append_left→Wbc, length→Wbd, length_range→Wbe, all_eq_true→Wbg, getElem?_zip_eq_some→Wbh, mem_append_left→Wbj, append_nil→Wbk, mem_append→Wbl, mem_iff_getElem?→Wbn, length_drop→Wbo, map→Wbp, append_assoc→Wbq, mem_iff_getElem→Wbs, tail→Wbt, pairwise_map→Wbv, pairwise_lt_range→Wbw, mem_filter→Wbx, length_set→Wby, lookup_cons→Wbz, length_take→Wb0, eq_nil_of_length_eq_zero→Wb1, ext_getElem?→Wb3, take_length→Wb5, not_mem_nil→Wb6, filter_cons→Wb7, take_append_drop→Wb9, nodup_cons→Wca, filter_append→Wcc, take_add_one→Wcd, filterMap_cons→Wce, length_pos_of_mem→Wcf, zip_cons_cons→Wci, getElem?_eq_none→Wcj, pairwise_iff_getElem→Wck, getElem_toArray→Wcm, length_nil→Wcn, find?_cons→Wco, getElem?_replicate→Wcp, getElem?_range→Wcq, take_of_length_le→Wcs, find?_cons_of_neg→Wct, length_zip→Wcv, length_filter_le→Wcw, nodup_append→Wcz, any_cons→Wc0, length_reverse→Wc2, set_eq_of_length_le→Wc3, getElem?_toArray→Wc6, map_snd_zip→Wc9, map_take→Wda, map_drop→Wdb, mem_replicate→Wdc, mem_filterMap→Wdd, map_set→Wde, reverse_cons→Wdh, all_cons→Wdk, mem_flatten→Wdm, map_fst_zip→Wdn, any_eq_true→Wdo, find?_cons_of_pos→Wdr, set_append_right→Wds, map_nil→Wdt, map_const'→Wdu, set_append_left→Wdx, replicate_succ→Wdz, map_id→Wd0, length_pos_iff→Wd1, flatMap_append→Wd2, map_replicate→Wd4, getElem?_drop→Wd5, mapM_toArray→Wd6, getElem?_set→Wd7, all_map→Wd8, getElem_inj→Wea
open PySem.Heap renaming get?_push_of_some→Wae, get?_push_size→Wal, lt_size→Wap, get?_update_other→Wcg, size_push→Wcl, get?_update_self→Wcx, get?_push_ne→Wdi, size_update→Wdp
open Nat renaming le_refl→Wah, ne_of_lt→Waw, lt_of_lt_of_le→Wbf, lt_succ_of_lt→Wbr, le_trans→Wbu, zero_le→Wb2, le_of_lt→Wb4, le_succ→Wcr, lt_of_le_of_lt→Wcu, min_self→Wcy, lt_irrefl→Wc1, add_sub_cancel_left→Wc4, mod_lt→Wc5, ne_of_gt→Wc8, mod_eq_of_lt→Wdq, lt_or_ge→Wdv, sub_zero→Wd9
open Int renaming toNat_natCast→Wak, zero_add→Wbm, toNat_of_nonneg→Wb8, emod_lt_of_pos→Wdg, emod_nonneg→Wdw, le_refl→Wd3
open Bool renaming false_ne_true→Was, false_eq_true→Wbi, eq_iff_iff→Wcb, and_eq_true→Wch, beq_eq_decide_eq→Wc7, eq_false_iff→Wdj, true_and→Wdl, false_and→Wdy
open Option renaming some→Wa4, isSome_map→Wdf
set_option Elab.async false
set_option linter.all false
set_option maxRecDepth 100000
namespace L2
open PySem PySem.Spec PyProof.Rows
abbrev Key:=Sum Int Str
def keyIs:Key->Value->Bool
 |.inl k,v=>Value.isInt k v
 |.inr x,v=>Value.isStrOf x v
def keyH (w:World):Key->Int
 |.inl k=>hashInt k
 |.inr x=>hashStr w x
theorem Zbj:∀{k:Key}{v:Value},keyIs k v=true->(∃i t,k=Sum.inl i/\v=Value.int i t)\/(∃x t,k=Sum.inr x/\v=Value.str x t)
 |.inl i,v,h=>by
  obtain⟨t,e⟩:=Value.isInt_shape (k:=i) (v:=v) h;exact .inl ⟨i,t,rfl,e⟩
 |.inr x,v,h=>by
  obtain⟨t,e⟩:=Value.isStrOf_shape (x:=x) (v:=v) h;exact .inr ⟨x,t,rfl,e⟩
theorem Zm4 (i:Int) (t:Tok):keyIs (.inl i) (.int i t)=true:=by simp[keyIs,Value.isInt]
theorem Zmi (x:Str) (t:Tok):keyIs (.inr x) (.str x t)=true:=by simp[keyIs,Value.isStrOf]
theorem Zug (a b:Int):decide ((Sum.inl a:Key)=Sum.inl b)=(a == b):=by
 by_cases e:a=b
 ·subst e;simp
 ·have h:¬ (Sum.inl a:Key)=Sum.inl b:=λq=>e (Sum.inl.inj q)
  rw[decide_eq_false h];exact(beq_eq_false_iff_ne.mpr e).symm
theorem Zt1 (a b:Str):decide ((Sum.inr a:Key)=Sum.inr b)=decide (a=b):=by
 by_cases e:a=b
 ·subst e;simp
 ·have h:¬ (Sum.inr a:Key)=Sum.inr b:=λq=>e (Sum.inr.inj q)
  rw[decide_eq_false h,decide_eq_false e]
theorem Zu0 (a:Int) (b:Str):decide ((Sum.inl a:Key)=Sum.inr b)=false:=decide_eq_false (λq=>nomatch q)
theorem Zt7 (a:Str) (b:Int):decide ((Sum.inr a:Key)=Sum.inl b)=false:=decide_eq_false (λq=>nomatch q)
def mixKind (prog:Program) (w:World):PySem.KeyKind prog w Key where
 is:=keyIs
 hash:=keyH w
 inj:=λv a b ha hb=>by
  rcases Zbj ha with ⟨i,t,rfl,rfl⟩|⟨x,t,rfl,rfl⟩
  ·rcases Zbj hb with ⟨j,u,rfl,e⟩|⟨y,u,rfl,e⟩
   ·injection e with e1 _;rw[e1]
   ·exact nomatch e
  ·rcases Zbj hb with ⟨j,u,rfl,e⟩|⟨y,u,rfl,e⟩
   ·exact nomatch e
   ·injection e with e1 _;rw[e1]
 byValue:=λk v h=>by
  rcases Zbj h with ⟨i,t,rfl,rfl⟩|⟨x,t,rfl,rfl⟩ <;> rfl
 pyHash:=λhv h=>by
  rcases Zbj hv with ⟨i,t,rfl,rfl⟩|⟨x,t,rfl,rfl⟩
  ·exact wpAny_pyHash_int h
  ·exact wpAny_pyHash_str h
 eqBool:=λhu hv h=>by
  rcases Zbj hu with ⟨i,t,rfl,rfl⟩|⟨x,t,rfl,rfl⟩
  ·rcases Zbj hv with ⟨j,u,rfl,rfl⟩|⟨y,u,rfl,rfl⟩
   ·rw[Zug]at h;exact wpAny_eqBool_int h
   ·rw[Zu0]at h;exact SeqAt.EqAt.int_str i t y u _ _ _ _ h
  ·rcases Zbj hv with ⟨j,u,rfl,rfl⟩|⟨y,u,rfl,rfl⟩
   ·rw[Zt7]at h;exact SeqAt.EqAt.str_int x t j u _ _ _ _ h
   ·rw[Zt1]at h;exact wpAny_eqBool_str h
 «strs»:=λk x t v h=>by
  rcases Zbj h with ⟨i,u,rfl,e⟩|⟨y,u,rfl,e⟩
  ·exact nomatch e
  ·injection e with e1 _
   subst e1;cases v <;> rfl
theorem Zli (prog:Program) (w:World) (k:Key) (v:Value):(mixKind prog w).is k v=keyIs k v:=rfl
theorem Zjq (prog:Program) (w:World) (i:Int) (t:Tok):(mixKind prog w).is (.inl i) (.int i t)=true:=Zm4 i t
theorem Zjx (prog:Program) (w:World) (x:Str) (t:Tok):(mixKind prog w).is (.inr x) (.str x t)=true:=Zmi x t
end L2
namespace L2
open PySem PySem.Spec PyProof.Rows
inductive V where
 |non|bl (b:Bool)|int (i:Int)|str (x:Str)|byt (b:Array UInt8)|flt (b:UInt64)|ref (a:Addr)|ty (n:String)
 deriving DecidableEq
def RelV:V->Value->Prop
 |.non,u=>u=Value.none
 |.bl b,u=>u=Value.bool b
 |.int i,u=>∃t,u=Value.int i t
 |.str x,u=>∃t,u=Value.str x t
 |.byt b,u=>∃t,u=Value.bytes b t
 |.flt b,u=>∃t,u=Value.float b t
 |.ref a,u=>u=Value.ref a
 |.ty n,u=>u=Value.type n
abbrev Vals:List V->List Value->Prop:=Paired RelV
theorem Vals.length {xs:List V}{us:List Value}(r:Vals xs us):xs.length=us.length:=Paired.length r
theorem Vals.get:∀{xs:List V}{us:List Value}{i:Nat}{x:V},Vals xs us->xs[i]?=some x->∃u,us[i]?=some u/\RelV x u
 |_,_,_,_,.nil,e=>by simp at e
 |_,_,0,_,.cons r _,e=>by simp at e;subst e;exact⟨_,rfl,r⟩
 |_,_,i+1,x,.cons _ t,e=>by
  obtain⟨u,h1,h2⟩:=Vals.get (i:=i) (x:=x) t (by simpa using e);exact⟨u,by simpa using h1,h2⟩
theorem Vals.set {x:V}{u:Value}(r:RelV x u):∀{xs:List V}{us:List Value}(i:Nat),Vals xs us->Vals (xs.set i x) (us.set i u)
 |_,_,_,.nil=>.nil
 |_,_,0,.cons _ t=>.cons r t
 |_,_,i+1,.cons q t=>.cons q (Vals.set r i t)
theorem Vals.append:∀{xs ys:List V}{us ws:List Value},Vals xs us->Vals ys ws->Vals (xs++ys) (us++ws)
 |_,_,_,_,.nil,s=>s
 |_,_,_,_,.cons r t,s=>.cons r (Vals.append t s)
theorem Vals.take:∀{xs:List V}{us:List Value}(n:Nat),Vals xs us->Vals (xs.take n) (us.take n)
 |_,_,0,_=>.nil
 |_,_,_+1,.nil=>.nil
 |_,_,n+1,.cons r t=>.cons r (Vals.take n t)
theorem Vals.drop:∀{xs:List V}{us:List Value}(n:Nat),Vals xs us->Vals (xs.drop n) (us.drop n)
 |_,_,0,r=>r
 |_,_,_+1,.nil=>.nil
 |_,_,n+1,.cons _ t=>Vals.drop n t
def RelO:Option V->Option Value->Prop
 |some v,some u=>RelV v u
 |none,none=>True
 |_,_=>False
def KV {κ:Type}:List (κ × V)->List (κ × Value)->Prop:=Paired λ(p:κ × V) (q:κ × Value)=>p.1=q.1/\RelV p.2 q.2
def kV:Key->V
 |.inl i=>.int i
 |.inr x=>.str x
inductive HO where
 /-- a list -/
 |lst (xs:List V)
 /-- a tuple (never changes) -/
 |tup (xs:List V)
 /-- a dict whose keys are ints and texts;one whose keys are tuples of ints and texts (the empty one is both) -/
 |dK (kvs:List (Key × V))|dT (kvs:List (List Key × V))
 /-- a set of ints: its members,its size -/
 |set (S:Int->Bool) (n:Nat)
 /-- an instance of the class at C,its dict at dx,its attributes -/
 |ins (C dx:Addr) (fs:List (Str × V))
 /-- the dict of the instance at x -/
 |own (x:Addr)
 /-- the dict of an exception -/
 |xd (fs:List (Str × V))
 /-- a bound method,f of x -/
 |met (f x:Addr)
 /-- a range object lo,lo+1,.. below hi -/
 |rng (lo hi:Int)
 /-- a thing that is known to the object (the script;a dict while a loop walks it): read,never written while it is so -/
 |frz (o:Obj) (u:HO)
 /-- a code object's table -/
 |tbl (ps:Array Value)
 /-- any other thing,by what is true of its one object (a def of one's own: SetO a S n:=HO.ext λh=>..) -/
 |ext (φ:Heap->Prop)
abbrev Hp:=Addr->Option HO
def upd (H:Hp) (a:Addr) (o:HO):Hp:=λb=>if b=a then some o else H b
theorem Zan {H:Hp}{a:Addr}{o:HO}:upd H a o a=some o:=by unfold upd;rw[if_pos rfl]
theorem Zao {H:Hp}{a b:Addr}{o:HO}(h:b≠a):upd H a o b=H b:=by unfold upd;rw[if_neg h]
theorem Zor {H:Hp}{a:Addr}{o u:HO}:upd (upd H a o) a u=upd H a u:=by
 funext b;unfold upd;split <;> rfl
theorem Zwf {H:Hp}{a b:Addr}{o u:HO}(h:H a=some o) (h':H b=some u) (d:o≠u):a≠b:=by
 intro e;subst e;rw[h]at h';exact d (Wa4.inj h')
theorem Zas {H:Hp}{a b:Addr}{o:HO}(h:H a=some o) (h':H b=none):a≠b:=by
 intro e;subst e;rw[h]at h';cases h'
def IsTupN (h:Heap) (a:Addr) (its:Array Value):Prop:=∃o,h.get? a=some o/\(o.cls=.type "tuple" /\ ∃n,o.data=.seq its n)/\o.dict=none
theorem IsTupN.tup {h:Heap}{a:Addr}{its:Array Value}(x:IsTupN h a its):IsTup h a its:=let ⟨o,e,c,_⟩:=x; ⟨o,e,c⟩
theorem IsTupN.new (h:Heap) (items:Array Value):IsTupN (h.push { cls:=.type "tuple",data:=.seq items }) h.objs.size items:=⟨_,Wal _ rfl,⟨rfl,_,rfl⟩,rfl⟩
section
variable (P:Program) (w:World)
def ObjOk (H:Hp) (h:Heap) (a:Addr):HO->Prop
 |.lst xs=>xs.length<=sizeLine/\∃(its:List Value) (n:Nat),Vals xs its/\h.get? a=some { cls:=.type "list",data:=.seq its.toArray n }
 |.tup xs=>xs.length<=sizeLine/\∃its:List Value,Vals xs its/\IsTupN h a its.toArray
 |.dK kvs=>kvs.length<=sizeLine/\(a == sysModules)=false/\∃vs,KV kvs vs/\h.DictOf (mixKind P w) a vs
 |.dT kvs=>kvs.length<=sizeLine/\(a == sysModules)=false/\∃xs:List (List Key × Addr × Value),
   Paired (λ(p:List Key × V) (q:List Key × Addr × Value)=>p.1=q.1/\H q.2.1=some (.tup (p.1.map kV))/\RelV p.2 q.2.2) kvs xs ∧
   ∃o es ep,h.get? a=some o/\o.ExactDict/\o.data=.dict es ep/\es.toList=xs.map (entryOfKey (tupleKind (mixKind P w)))/\(xs.map (·.1)).Nodup
 |.set S n=>h.SetOf (intKind P w) a S n
 |.ins C dx fs=>H dx=some (.own a)/\fs.length<=1000/\dx≠a/\h.get? a=some (PySem.W.instObj C dx) ∧
   ∃mA,h.Ns1 dx mA/\(∀f,RelO (fs.lookup f) (mA f))/\PySem.Within mA (fs.map (·.1))
 |.own _=>∃o,h.get? a=some o
 |.xd fs=>∃mA,h.Ns1 a mA/\∀f,RelO (fs.lookup f) (mA f)
 |.rng lo hi=>∃t u v,h.get? a=some { cls:=.type "range",data:=.fields #[.int lo t,.int hi u,.int 1 v] }
 |.frz o u=>h.get? a=some o/\ObjOk H h a u
 |.tbl ps=>h.get? a=some { cls:=.none,data:=.fields ps }
 |.met f x=>h.get? a=some (PySem.W.methodObj (.ref f) (.ref x))
 |.ext φ=>φ h/\(∃o,h.get? a=some o)/\∀h1 h2:Heap,φ h1->(∀o,h1.get? a=some o->h2.get? a=some o) -> φ h2
def HOk (H:Hp) (h:Heap):Prop:=∀a o,H a=some o->ObjOk P w H h a o
end
section
variable {P:Program}{w:World}{H H':Hp}{h h':Heap}{a:Addr}{o:HO}
theorem ObjOk.lt (x:ObjOk P w H h a o):a<h.objs.size:=by
 cases o with
 |lst xs=>obtain⟨_,_,_,_,e⟩:=x;exact Wap e
 |tup xs=>obtain⟨_,_,_,p⟩:=x;exact p.tup.lt
 |dK kvs=>obtain⟨_,_,_,_,o,_,_,e,_⟩:=x;exact Wap e
 |dT kvs=>obtain⟨_,_,_,_,o,_,_,e,_⟩:=x;exact Wap e
 |set S n=>obtain⟨o,_,_,_,e,_⟩:=x;exact Wap e
 |ins C dx fs=>obtain⟨_,_,_,e,_⟩:=x;exact Wap e
 |own y=>obtain⟨_,e⟩:=x;exact Wap e
 |xd fs=>obtain⟨_,⟨_,_,_,e,_⟩,_⟩:=x;exact Wap e
 |rng lo hi=>obtain⟨_,_,_,e⟩:=x;exact Wap e
 |frz ob u=>obtain⟨e,_⟩:=x;exact Wap e
 |tbl ps=>exact Wap (show h.get? a=some _ from x)
 |met f y=>exact Wap (show h.get? a=some _ from x)
 |ext φ=>obtain⟨_,⟨_,e⟩,_⟩:=x;exact Wap e
theorem Paired.mapP {α β:Type}{F G:α -> β -> Prop}:∀{l₁:List α}{l₂:List β},Paired F l₁ l₂ -> (∀a b,F a b->G a b)->Paired G l₁ l₂
 |_,_,.nil,_=>.nil
 |_,_,.cons r t,f=>.cons (f _ _ r) (Paired.mapP t f)
theorem ObjOk.stay (x:ObjOk P w H h a o) (k:∀b u,(b=a\/H b=some (.own a))->h.get? b=some u->h'.get? b=some u)
  (ho:∀b,H b=some (.own a)->H' b=some (.own a)) (ht:∀b xs,H b=some (.tup xs)->H' b=some (.tup xs)):ObjOk P w H' h' a o:=by
 induction o with
 |lst xs=>obtain⟨z,its,n,r,e⟩:=x;exact⟨z,its,n,r,k _ _ (.inl rfl) e⟩
 |tup xs=>obtain⟨z,its,r,ob,e,c⟩:=x;exact⟨z,its,r,ob,k _ _ (.inl rfl) e,c⟩
 |dK kvs=>obtain⟨z,y,vs,r,ob,es,ep,e,c⟩:=x;exact⟨z,y,vs,r,ob,es,ep,k _ _ (.inl rfl) e,c⟩
 |dT kvs=>
  obtain⟨z,y,xs,r,ob,es,ep,e,c⟩:=x;exact⟨z,y,xs,Paired.mapP r λp q z=>⟨z.1,ht _ _ z.2.1,z.2.2⟩,ob,es,ep,k _ _ (.inl rfl) e,c⟩
 |set S n=>obtain⟨ob,es,ep,t,e,c⟩:=x;exact⟨ob,es,ep,t,k _ _ (.inl rfl) e,c⟩
 |ins C dx fs=>
  obtain⟨d,z,ne,e,mA,⟨od,es,ep,e2,c⟩,r⟩:=x;exact⟨ho _ d,z,ne,k _ _ (.inl rfl) e,mA,⟨od,es,ep,k _ _ (.inr d) e2,c⟩,r⟩
 |own y=>obtain⟨ob,e⟩:=x;exact⟨ob,k _ _ (.inl rfl) e⟩
 |xd fs=>obtain⟨mA,⟨od,es,ep,e,c⟩,r⟩:=x;exact⟨mA,⟨od,es,ep,k _ _ (.inl rfl) e,c⟩,r⟩
 |rng lo hi=>obtain⟨t,u,v,e⟩:=x;exact⟨t,u,v,k _ _ (.inl rfl) e⟩
 |frz ob u ih=>obtain⟨e,q⟩:=x;exact⟨k _ _ (.inl rfl) e,ih q⟩
 |tbl ps=>
  have e:h.get? a=some { cls:=.none,data:=.fields ps }:=x;show h'.get? a=some { cls:=.none,data:=.fields ps };exact k a _ (.inl rfl) e
 |met f y=>
  have e:h.get? a=some (PySem.W.methodObj (.ref f) (.ref y)):=x;show h'.get? a=some (PySem.W.methodObj (.ref f) (.ref y));exact k a _ (.inl rfl) e
 |ext φ=>obtain⟨p,⟨o,e⟩,st⟩:=x;exact⟨st _ _ p λo q=>k _ _ (.inl rfl) q,⟨o,k _ _ (.inl rfl) e⟩,st⟩
theorem HOk.lt (x:HOk P w H h) (e:H a=some o):a<h.objs.size:=(x a o e).lt
theorem HOk.fresh (x:HOk P w H h) (e:h.objs.size<=a):H a=none:=by
 cases q:H a with
 |none=>rfl
 |some u=>exact absurd (Wbf (x.lt q) e) (Wc1 _)
theorem HOk.kept (x:HOk P w H h) (k:∀b u,h.get? b=some u->h'.get? b=some u):HOk P w H h':=λa o e=>
 (x a o e).stay (λb u _ q=>k b u q) (λ_ q=>q) λ_ _ q=>q
theorem HOk.laid (x:HOk P w H h) (k:∀b u,h.get? b=some u->h'.get? b=some u) (hp:h.objs.size<=a) (new:ObjOk P w (upd H a o) h' a o):HOk P w (upd H a o) h':=λb u e=>by
 have hn:=x.fresh hp;by_cases hb:b=a
 ·subst hb;rw[Zan]at e;cases e;exact new
 ·rw[Zao hb]at e
  exact(x b u e).stay (λc v _ q=>k c v q) (λc q=>by rw[Zao (Zas q hn)];exact q) λc xs q=>by rw[Zao (Zas q hn)];exact q
end
def Rd (H:Hp) (a:Addr) (u:HO):Prop:=H a=some u\/∃o,H a=some (.frz o u)
theorem Rd.ok {P:Program}{w:World}{H:Hp}{h:Heap}{a:Addr}{u:HO}(r:Rd H a u) (x:HOk P w H h):ObjOk P w H h a u:=by
 rcases r with r|⟨o,r⟩
 ·exact x a u r
 ·obtain⟨_,q⟩:=x a _ r
  exact q
def Mut:Option HO->Prop
 |some (.lst _)=>True
 |some (.dK _)=>True
 |some (.dT _)=>True
 |some (.set _ _)=>True
 |some (.ins _ _ _)=>True
 |some (.ext _)=>True
 |_=>False
section
variable {P:Program}{w:World}{H:Hp}{h h':Heap}{x e:Addr}{o':HO}
theorem HOk.write (ok:HOk P w H h) (mu:Mut (H x)) (he:e=x\/H e=some (.own x)) (k:∀b u,b≠e->h.get? b=some u->h'.get? b=some u) (heo:∃u,h'.get? e=some u)
  (new:ObjOk P w (upd H x o') h' x o'):HOk P w (upd H x o') h':=λb u q=>by
 have nown:∀c y,H c=some (.own y)->c≠x:=λc y r z=>by subst z;rw[r]at mu;exact mu
 have ntup:∀c xs,H c=some (.tup xs)->c≠x:=λc xs r z=>by subst z;rw[r]at mu;exact mu
 by_cases hb:b=x
 ·subst hb;rw[Zan]at q;cases q;exact new
 ·rw[Zao hb]at q
  by_cases hbe:b=e
  ·have q':H b=some (.own x):=by
    rcases he with z|z
    ·exact absurd (hbe.trans z) hb
    ·rw[hbe];exact z
   rw[q]at q';cases q';obtain⟨v,hv⟩:=heo;exact⟨v,by rw[hbe];exact hv⟩
  ·refine(ok b u q).stay (λc v hc r=>k c v ?_ r) (λc r=>by rw[Zao (nown c b r)];exact r) λc xs r=>by rw[Zao (ntup c xs r)];exact r
   rcases hc with rfl|hc
   ·exact hbe
   ·rintro rfl
    rcases he with z|z
    ·exact nown c b hc z
    ·rw[hc]at z;cases z;exact hb rfl
end
structure Un (fs ex:List Addr) (H H':Hp) (h h':Heap):Prop where
 keep:∀b o,h.get? b=some o->H b=none->b ∉ fs->b ∉ ex->h'.get? b=some o
 slot:∀b o,h.get? b=some o->H b=none->b∈fs->b ∉ ex->∃sl,h'.get? b=some { o with slots:=sl }
 free:∀b o,h.get? b=some o->H b=none->b ∉ ex->H' b=none
 there:∀b o,h.get? b=some o->b ∉ ex->∃o',h'.get? b=some o'
 tups:∀b xs,H b=some (.tup xs)->H' b=some (.tup xs)
 frzs:∀b o u,H b=some (.frz o u)->H' b=some (.frz o u)
 tbls:∀b ps,H b=some (.tbl ps)->∃more,H' b=some (.tbl (ps++more))
section
variable {fs fs' ex ex':List Addr}{H H1 H2:Hp}{h h1 h2 h':Heap}{a x e:Addr}{o:HO}
theorem Un.any (u:Un fs ex H H1 h h1) {b:Addr}{ob:Obj}(q:h.get? b=some ob) (n:H b=none) (hx:b ∉ ex):∃sl,h1.get? b=some { ob with slots:=sl }:=by
 by_cases hb:b∈fs
 ·exact u.slot b ob q n hb hx
 ·exact⟨ob.slots,u.keep b ob q n hb hx⟩
theorem Un.kept (k:∀b u,h.get? b=some u->h'.get? b=some u):Un fs ex H H h h':=
 ⟨λb ob q _ _ _=>k b ob q,λb ob q _ _ _=>⟨ob.slots,k b ob q⟩,λ_ _ _ n _=>n,λb ob q _=>⟨ob,k b ob q⟩,λ_ _ q=>q,λ_ _ _ q=>q,λ_ ps q=>⟨#[],by rw[q];simp⟩⟩
theorem Un.refl:Un fs ex H H h h:=Un.kept λ_ _ q=>q
theorem Un.laid (k:∀b u,h.get? b=some u->h'.get? b=some u) (hp:h.objs.size<=a) (hn:H a=none):Un fs ex H (upd H a o) h h' where
 keep:=λb u q _ _ _=>k b u q
 slot:=λb u q _ _ _=>⟨u.slots,k b u q⟩
 free:=λb u q n _=>by rw[Zao (Waw (Wbf (Wap q) hp))];exact n
 there:=λb u q _=>⟨u,k b u q⟩
 tups:=λb xs q=>by rw[Zao (Zas q hn)];exact q
 frzs:=λb u xs q=>by rw[Zao (Zas q hn)];exact q
 tbls:=λb ps q=>⟨#[],by rw[Zao (Zas q hn),q];simp⟩
theorem Un.write (mu:Mut (H x)) (he:e=x\/H e=some (.own x)) (k:∀b u,b≠e->h.get? b=some u->h'.get? b=some u) (heo:∃u,h'.get? e=some u):Un fs ex H (upd H x o) h h':=by
 have hx:∀b,H b=none->b≠x:=λb n z=>by subst z;rw[n]at mu;exact mu
 have hb:∀b,H b=none->b≠e:=λb n z=>by
  subst z;rcases he with r|r
  ·exact hx b n r
  ·rw[n]at r;cases r
 have hm:∀b u,H b=some u->¬ Mut (some u)->b≠x:=λb u q nm z=>by subst z;rw[q]at mu;exact nm mu
 refine⟨λb u q n _ _=>k b u (hb b n) q,λb u q n _ _=>⟨u.slots,k b u (hb b n) q⟩,λb u q n _=>by rw[Zao (hx b n)];exact n,λb u q _=>?_,
  λb xs q=>by rw[Zao (hm b _ q λz=>z)];exact q,λb u xs q=>by rw[Zao (hm b _ q λz=>z)];exact q,λb ps q=>⟨#[],by rw[Zao (hm b _ q λz=>z),q];simp⟩⟩
 by_cases hbe:b=e
 ·subst hbe;exact heo
 ·exact⟨u,k b u hbe q⟩
end
def trk (h:Heap) (H:Hp):List Addr:=(Wau h.objs.size).filter λa=>(H a).isSome
def hidT (h:Heap) (H:Hp):Heap:=PySem.W.hideAll h (trk h H)
theorem Znd (h:Heap) (H:Hp):(hidT h H).objs.size=h.objs.size:=PySem.W.hideAll_size _ _
theorem Zp2 {h:Heap}{H:Hp}{b:Addr}{o:Obj}(e:h.get? b=some o) (n:H b=none):(hidT h H).get? b=some o:=
 PySem.W.hideAll_get _ e λhm=>by
  have q:(H b).isSome=true:=(Wbx.mp hm).2;rw[n]at q;simp at q
theorem Zr1 {h:Heap}{H:Hp}{b:Addr}{o:Obj}(e:(hidT h H).get? b=some o):h.get? b=some o/\H b=none:=by
 have e':h.get? b=some o:=PySem.W.of_hideAll (trk h H) e;refine⟨e',?_⟩;cases q:H b with
 |none=>rfl
 |some x=>
  have hm:b∈trk h H:=Wbx.mpr ⟨Wa2.mpr (Wap e'),by simp[q]⟩;have z:(hidT h H).get? b=none:=PySem.W.hideAll_none (trk h H) hm;rw[z]at e;cases e
def allNews (g h:Heap) (L:Addr):List (Addr × Obj):=(Wau h.objs.size).filterMap λa=>if a=L\/(g.get? a).isSome=true then none else (h.get? a).map λo=>(a,o)
def rest (g h:Heap) (L d:Addr):List (Addr × Obj):=(allNews g h L).filter λp=>decide (p.1≠d)
end L2
namespace L2
open PySem PySem.Spec PyProof.Rows
structure Mod (K:W.Frag) (mg:Str->Option Value) (base:Heap):Prop where
 kin:K.In base
 glob:base.Ns mainGlobals mg
 blt:∃mb,base.Ns builtinsNs mb/\∀x:Str,x ≠ "__name__" -> mb x=bootBuiltins x
 nolimit:base.NoLimit
structure Cx where
 prog:Program
 w:World
 K:W.Frag
 mg:Str->Option Value
 base:Heap
 A:Around
 N:List Str
 s₀:Shared
 H₀:Hp
 env:Env
 outer:List Env
 stack:List Env
 ex:List Addr
 fn:Str->Bool
 calm:Bool
 pn:List (Addr × Obj)
 xe:Value->Shared->Prop
def frs (l:List Env):List Addr:=l.filterMap (·.frame)
abbrev Cx.fs (X:Cx):List Addr:=frs X.outer
def Vis (sc:Scope) (x:Str):Prop:=sc.names.lookup x=some .local\/sc.names.lookup x=some .cell\/sc.names.lookup x=some .free
def Loc (sc:Scope) (x:Str):Prop:=sc.names.lookup x=some .local\/sc.names.lookup x=some .cell
def Look (env:Env) (h:Heap) (m:Str->Option Value) (x:Str) (u:Value):Prop:=
 (env.kindOf x=some .local/\m x=some u)\/((env.kindOf x=some .cell\/env.kindOf x=some .free)/\∃c,env.cells.lookup x=some c/\h.IsCell c (some u))
structure Cx.Ok (X:Cx):Prop where
 mod:Mod X.K X.mg X.base
 kind:X.env.scope.kind=.function
 glob:X.env.globals=mainGlobals
 blt:X.env.builtins=builtinsNs
 above:X.s₀.heap.objs.size<=X.env.locals
 inj:∀x y c,X.env.cells.lookup x=some c->X.env.cells.lookup y=some c->x=y
 has:∀x,(X.env.kindOf x=some .cell\/X.env.kindOf x=some .free)->∃c,X.env.cells.lookup x=some c
 cab:∀x c,X.fn x=true->X.env.cells.lookup x=some c->X.s₀.heap.objs.size<=c
 hd:X.calm=true->X.A.handled=none
 frames:X.A.frames=some X.stack
 stk:X.stack=X.outer\/(X.stack=X.env::X.outer/\X.env.frame=some X.env.locals)
 exf:∀b∈X.ex,b≠X.env.locals/\∀x c,X.env.cells.lookup x=some c->c≠b
 bs:∀b o,X.base.get? b=some o->X.s₀.heap.get? b=some o/\X.H₀ b=none
 bsz:X.base.objs.size<=X.s₀.heap.objs.size
 noex:∀b o,X.base.get? b=some o->b ∉ X.ex
 exfs:∀b∈X.ex,b ∉ X.fs
 funs:X.s₀.heap.FunFrames X.base X.outer
 frf:∀b∈X.fs,X.H₀ b=none
structure Inv (X:Cx) (pins:List (Addr × Obj)) (σ:List (Option V)) (H:Hp) (s:Shared):Prop where
 ok:X.Ok
 os:s.os=X.s₀.os
 bare:AllBare s.gens
 base:Un X.fs X.ex X.H₀ H X.s₀.heap s.heap
 loc:∃m,s.heap.Ns X.env.locals m/\∀(i:Nat) (x:Str) (v:V),X.N[i]?=some x -> σ[i]?=some (some v)->Vis X.env.scope x->∃u,RelV v u/\Look X.env s.heap m x u
 cell:∀x c,X.env.cells.lookup x=some c->∃v,s.heap.IsCell c v
 free:H X.env.locals=none
 freeC:∀x c,X.env.cells.lookup x=some c->H c=none
 pin:∀p∈X.pn++pins,s.heap.get? p.1=some p.2/\H p.1=none/\p.1≠X.env.locals/\p.1 ∉ X.fs/\∀v,p.2.data≠.cell v
 hok:HOk X.prog X.w H s.heap
 len:σ.length=X.N.length
section
variable {X:Cx}{pins:List (Addr × Obj)}{σ:List (Option V)}{H H':Hp}{s:Shared}{h':Heap}
theorem Cx.Ok.nofr (ok:X.Ok) {b:Addr}{o:Obj}(e:X.base.get? b=some o):b ∉ X.fs:=λhb=>by
 have:=(ok.funs.mem hb).1;rw[e]at this;cases this
theorem Inv.bs (I:Inv X pins σ H s):∀b o,X.base.get? b=some o->s.heap.get? b=some o/\H b=none:=λb o e=>
 ⟨I.base.keep b o (I.ok.bs b o e).1 (I.ok.bs b o e).2 (I.ok.nofr e) (I.ok.noex b o e),I.base.free b o (I.ok.bs b o e).1 (I.ok.bs b o e).2 (I.ok.noex b o e)⟩
theorem Inv.bk (I:Inv X pins σ H s):∀b o,X.base.get? b=some o->s.heap.get? b=some o:=λb o e=>(I.bs b o e).1
theorem Inv.mod (I:Inv X pins σ H s):Mod X.K X.mg X.base:=I.ok.mod
theorem Inv.kIn (I:Inv X pins σ H s):X.K.In s.heap:=I.ok.mod.kin.keeps I.bk
theorem Inv.lt (I:Inv X pins σ H s):X.env.locals<s.heap.objs.size:=let ⟨_,hn,_⟩:=I.loc;hn.lt
theorem Inv.sz (I:Inv X pins σ H s):X.s₀.heap.objs.size<=s.heap.objs.size:=Wbu I.ok.above (Wb4 I.lt)
theorem Inv.nofs (I:Inv X pins σ H s) {a:Addr}(h:s.heap.objs.size<=a):a ∉ X.fs:=λhb=>by
 obtain⟨_,o,ho,_⟩:=I.ok.funs.mem hb;exact absurd (Wbf (Wap ho) (Wbu I.sz h)) (Wc1 _)
theorem Inv.cne (I:Inv X pins σ H s):∀x c,X.env.cells.lookup x=some c->c≠X.env.locals:=λx c e z=>by
 obtain⟨v,o,ho,hd⟩:=I.cell x c e;obtain⟨m,⟨o',es,ep,ho',hd',_⟩,_⟩:=I.loc;rw[z,ho']at ho;cases ho;rw[hd']at hd;cases hd
theorem Inv.funs (I:Inv X pins σ H s):s.heap.FunFrames X.base X.outer:=by
 have all:∀(l:List Env),(∀b∈frs l,b∈X.fs)->X.s₀.heap.FunFrames X.base l->s.heap.FunFrames X.base l:=by
  intro l
  induction l with
  |nil=>intro _ _;trivial
  |cons env r ih=>
   intro hs hl;obtain⟨hk,⟨L,o,hf,hn,ho,hd⟩,hr⟩:=hl;have hL:L∈X.fs:=hs L (by unfold frs;rw[Wce,hf];exact Wa0);obtain⟨sl,e⟩:=I.base.slot L o ho (I.ok.frf L hL) hL λz=>I.ok.exfs L z hL;exact⟨hk,⟨L,_,hf,hn,e,hd⟩,ih (λb hb=>hs b (by unfold frs;rw[Wce,hf];exact Wax _ hb)) hr⟩
 exact all X.outer (λ_ hb=>hb) I.ok.funs
theorem Inv.stack (I:Inv X pins σ H s):s.heap.FunFrames X.base X.stack:=by
 rcases I.ok.stk with e|⟨e,hf⟩
 ·rw[e];exact I.funs
 ·rw[e]
  obtain⟨m,hn,_⟩:=I.loc;refine .cons (by rw[I.ok.kind];decide) hf hn ?_ I.funs;exact Heap.get?_none_of_le (Wbu I.ok.bsz I.ok.above)
theorem Inv.stkSub (I:Inv X pins σ H s):∀b∈frs X.stack,b∈X.env.locals::X.fs:=λb hb=>by
 rcases I.ok.stk with e|⟨e,hf⟩
 ·rw[e]at hb;exact Wax _ hb
 ·rw[e]at hb
  unfold frs at hb;rw[Wce,hf]at hb;exact hb
theorem Inv.stkFree (I:Inv X pins σ H s):∀b∈frs X.stack,H b=none:=λb hb=>by
 rcases Wat.mp (I.stkSub b hb) with e|hb
 ·rw[e];exact I.free
 ·obtain⟨_,o,ho,_⟩:=I.ok.funs.mem hb
  exact I.base.free b o ho (I.ok.frf b hb) λz=>I.ok.exfs b z hb
theorem Inv.step {g':Array GenState}{t':Nat}{d':Drawn}{ch:List Addr}(I:Inv X pins σ H s)
  (hch:∀b∈ch,(b∈X.ex\/X.s₀.heap.objs.size<=b)/\b≠X.env.locals/\(∀x c,X.env.cells.lookup x=some c->c≠b)/\∀p∈X.pn++pins,p.1≠b)
  (keep:∀b o,b≠X.env.locals->b ∉ X.fs->b ∉ ch->s.heap.get? b=some o->H b=none->h'.get? b=some o)
  (slot:∀b o,b≠X.env.locals->b∈X.fs->b ∉ ch->s.heap.get? b=some o->H b=none->∃sl,h'.get? b=some { o with slots:=sl }) (free:∀b o,b ∉ ch->s.heap.get? b=some o->H b=none->H' b=none)
  (there:∀b o,b ∉ ch->s.heap.get? b=some o->∃o',h'.get? b=some o')
  (tups:∀b xs,H b=some (.tup xs)->H' b=some (.tup xs)) (frzs:∀b o u,H b=some (.frz o u)->H' b=some (.frz o u)) (tbls:∀b ps,H b=some (.tbl ps)->∃more,H' b=some (.tbl (ps++more)))
  (ns:∀m,s.heap.Ns X.env.locals m->h'.Ns X.env.locals m) (hok:HOk X.prog X.w H' h') (hg:AllBare g') :
  Inv X pins σ H' { s with heap:=h',gens:=g',drawn:=d',toks:=t' }:=by
 have neL:∀b o,X.s₀.heap.get? b=some o->b≠X.env.locals:=λb o e=>Waw (Wbf (Wap e) I.ok.above);have neC:∀b o,X.s₀.heap.get? b=some o->b ∉ X.ex->b ∉ ch:=λb o e hx hb=>by
  rcases(hch b hb).1 with z|z
  ·exact hx z
  ·exact absurd (Wbf (Wap e) z) (Wc1 _)
 have cellK:∀x c,X.env.cells.lookup x=some c->∀v,s.heap.IsCell c v->h'.IsCell c v:=λx c e v hq_=>by
  obtain⟨o,ho,hd⟩:=hq_;have nch:c ∉ ch:=λz=>(hch c z).2.2.1 x c e rfl;by_cases hc:c∈X.fs
  ·obtain⟨sl,q⟩:=slot c o (I.cne x c e) hc nch ho (I.freeC x c e)
   exact⟨_,q,hd⟩
  ·exact⟨o,keep c o (I.cne x c e) hc nch ho (I.freeC x c e),hd⟩
 refine⟨I.ok,I.os,hg,⟨λb o e n hb hx=>?_,λb o e n hb hx=>?_,λb o e n hx=>?_,λb o e hx=>?_,λb xs e=>tups b xs (I.base.tups b xs e),λb o xs e=>frzs b o xs (I.base.frzs b o xs e),λb ps e=>?_⟩,?_,λx c e=>?_,?_,λx c e=>?_,λp hp=>?_,hok,I.len⟩
 ·exact keep b o (neL b o e) hb (neC b o e hx) (I.base.keep b o e n hb hx) (I.base.free b o e n hx)
 ·obtain⟨sl,e1⟩:=I.base.slot b o e n hb hx
  obtain⟨sl',e2⟩:=slot b _ (neL b o e) hb (neC b o e hx) e1 (I.base.free b o e n hx);exact⟨sl',e2⟩
 ·obtain⟨o',e1⟩:=I.base.there b o e hx
  exact free b o' (neC b o e hx) e1 (I.base.free b o e n hx)
 ·obtain⟨o',e1⟩:=I.base.there b o e hx
  exact there b o' (neC b o e hx) e1
 ·obtain⟨m1,e1⟩:=I.base.tbls b ps e
  obtain⟨m2,e2⟩:=tbls b _ e1;exact⟨m1++m2,by rw[e2,Array.append_assoc]⟩
 ·obtain⟨m,hn,hl⟩:=I.loc
  refine⟨m,ns m hn,λi x v e1 e2 e3=>?_⟩;obtain⟨u,r,l⟩:=hl i x v e1 e2 e3;refine⟨u,r,?_⟩;rcases l with l|⟨k,c,e,z⟩
  ·exact .inl l
  ·exact .inr ⟨k,c,e,cellK x c e _ z⟩
 ·obtain⟨v,z⟩:=I.cell x c e
  exact⟨v,cellK x c e v z⟩
 ·obtain⟨m,⟨o,_,_,ho,_⟩,_⟩:=I.loc
  exact free _ o (λz=>(hch _ z).2.1 rfl) ho I.free
 ·obtain⟨v,o,ho,hd⟩:=I.cell x c e
  exact free c o (λz=>(hch c z).2.2.1 x c e rfl) ho (I.freeC x c e)
 ·obtain⟨e,n,ne,nf,d⟩:=I.pin p hp
  have nch:p.1 ∉ ch:=λz=>(hch p.1 z).2.2.2 p hp rfl;exact⟨keep p.1 p.2 ne nf nch e n,free p.1 p.2 nch e n,ne,nf,d⟩
theorem Inv.un {t':Nat}(I:Inv X pins σ H s) (u:Un X.fs [] H H' s.heap h') (hok:HOk X.prog X.w H' h'):Inv X pins σ H' { s with heap:=h',toks:=t' }:=by
 obtain⟨m,⟨o,es,ep,ho,r⟩,_⟩:=id I.loc;obtain⟨sl,hL⟩:=u.any ho I.free (by simp);exact I.step (g':=s.gens) (d':=s.drawn) (ch:=[]) (λ_ z=>nomatch z) (λb o _ hb _ e n=>u.keep b o e n hb (by simp)) (λb o _ hb _ e n=>u.slot b o e n hb (by simp)) (λb o _ e n=>u.free b o e n (by simp)) (λb o _ e=>u.there b o e (by simp)) u.tups u.frzs u.tbls (λm' hm=>by
  obtain⟨o',es',ep',ho',r'⟩:=hm;rw[ho]at ho';cases ho';exact⟨_,es',ep',hL,r'⟩) hok I.bare
theorem Inv.call {g':Array GenState}{t':Nat}{d':Drawn}{ch:List Addr}(I:Inv X pins σ H s) (u:Un (frs X.stack) ch H H' s.heap h') (hok:HOk X.prog X.w H' h') (hg:AllBare g')
  (hch:∀b∈ch,(b∈X.ex\/X.s₀.heap.objs.size<=b)/\b≠X.env.locals/\(∀x c,X.env.cells.lookup x=some c->c≠b)/\∀p∈X.pn++pins,p.1≠b) :
  Inv X pins σ H' { s with heap:=h',gens:=g',drawn:=d',toks:=t' }:=by
 obtain⟨m,⟨o,es,ep,ho,r⟩,_⟩:=id I.loc;obtain⟨sl,hL⟩:=u.any ho I.free λz=>(hch _ z).2.1 rfl;exact I.step (ch:=ch) hch (λb o hL hb hc e n=>u.keep b o e n (λz=>(Wat.mp (I.stkSub b z)).elim hL hb) hc) (λb o _ _ hc e n=>u.any e n hc) (λb o hc e n=>u.free b o e n hc) (λb o hc e=>u.there b o e hc) u.tups u.frzs u.tbls (λm' hm=>by
  obtain⟨o',es',ep',ho',r'⟩:=hm;rw[ho]at ho';cases ho';exact⟨_,es',ep',hL,r'⟩) hok hg
theorem Inv.turned {t':Nat}{it:Addr}(I:Inv X pins σ H s) (k:∀b o,b≠it->s.heap.get? b=some o->h'.get? b=some o) (hn:H it=none) (hL:it≠X.env.locals)
  (h1:it∈X.ex\/X.s₀.heap.objs.size<=it) (h2:∀x c,X.env.cells.lookup x=some c->c≠it) (h3:∀p∈X.pn++pins,p.1≠it):Inv X pins σ H { s with heap:=h',toks:=t' }:=by
 have nit:∀b u,H b=some u->b≠it:=λb u e z=>by rw[z,hn]at e;cases e
 refine I.step (g':=s.gens) (d':=s.drawn) (ch:=[it]) (λb hb=>?_) (λb o _ _ hc e _=>k b o (λz=>hc (by simp[z])) e) (λb o _ _ hc e _=>⟨o.slots,k b o (λz=>hc (by simp[z])) e⟩) (λ_ _ _ _ n=>n)
  (λb o hc e=>⟨o,k b o (λz=>hc (by simp[z])) e⟩) (λ_ _ e=>e) (λ_ _ _ e=>e) (λb ps e=>⟨#[],by rw[e];simp⟩) (λm hm=>?_) (λb u e=>?_) I.bare
 ·have e:b=it:=by simpa using hb
  subst e;exact⟨h1,hL,h2,h3⟩
 ·obtain⟨o,es,ep,ho,r⟩:=hm
  exact⟨o,es,ep,k _ o (Ne.symm hL) ho,r⟩
 ·refine(I.hok b u e).stay (λc v hc q=>k c v ?_ q) (λ_ q=>q) λ_ _ q=>q
  rcases hc with z|z
  ·rw[z];exact nit b u e
  ·exact nit c _ z
theorem Inv.tok (I:Inv X pins σ H s) (t:Nat):Inv X pins σ H { s with toks:=t }:=I.un (h':=s.heap) (t':=t) Un.refl I.hok
theorem Inv.kept {t':Nat}(I:Inv X pins σ H s) (k:∀b u,s.heap.get? b=some u->h'.get? b=some u):Inv X pins σ H { s with heap:=h',toks:=t' }:=I.un (Un.kept k) (I.hok.kept k)
theorem Inv.laid {a:Addr}{o:HO}{t':Nat}(I:Inv X pins σ H s) (k:∀b u,s.heap.get? b=some u->h'.get? b=some u) (hp:s.heap.objs.size<=a) (new:ObjOk X.prog X.w (upd H a o) h' a o) :
  Inv X pins σ (upd H a o) { s with heap:=h',toks:=t' }:=I.un (Un.laid k hp (I.hok.fresh hp)) (I.hok.laid k hp new)
theorem Inv.write {x e:Addr}{o:HO}{t':Nat}(I:Inv X pins σ H s) (mu:Mut (H x)) (he:e=x\/H e=some (.own x)) (k:∀b u,b≠e->s.heap.get? b=some u->h'.get? b=some u) (heo:∃u,h'.get? e=some u)
  (new:ObjOk X.prog X.w (upd H x o) h' x o):Inv X pins σ (upd H x o) { s with heap:=h',toks:=t' }:=I.un (Un.write mu he k heo) (I.hok.write mu he k heo new)
theorem Inv.pins_of {pins':List (Addr × Obj)}(I:Inv X pins σ H s) (h:∀p∈pins',s.heap.get? p.1=some p.2/\H p.1=none/\p.1≠X.env.locals/\p.1 ∉ X.fs/\∀v,p.2.data≠.cell v):Inv X pins' σ H s:=
 ⟨I.ok,I.os,I.bare,I.base,I.loc,I.cell,I.free,I.freeC,λp hp=>(Wbl.mp hp).elim (λz=>I.pin p (Wbj _ z)) (h p),I.hok,I.len⟩
theorem Zkk {N:List Str}(hN:N.Nodup) {i j:Nat}{x:Str}(a:N[i]?=some x) (b:N[j]?=some x):i=j:=by
 obtain⟨h1,e1⟩:=Waf.mp a;obtain⟨h2,e2⟩:=Waf.mp b;exact(Wea hN).mp (e1.trans e2.symm)
theorem Zin {M:Model}{A:Around}{E:Value->Shared->Prop}{i:Nat}{x:Str}{v:V}{u:Value}{Q:Unit->Shared->Prop}(I:Inv X pins σ H s) (hN:X.N.Nodup) (hi:X.N[i]?=some x) (hx:Loc X.env.scope x) (r:RelV v u)
  (h:∀s',Inv X pins (σ.set i (some v)) H s' -> (∃a,Heap.SameBut a s.heap s'.heap/\(a=X.env.locals\/X.env.cells.lookup x=some a))->Q () s') (hf:X.fn x=true\/X.env.scope.names.lookup x=some .local:=by first|exact .inl rfl|exact .inr rfl|assumption):wpAny M A (storeName X.env x u) Q E s:=by
 obtain⟨m,hn,hl⟩:=id I.loc;have hcls:(X.env.scope.kind == .class || (X.env.scope.kind == .module && X.env.locals != X.env.globals))=false:=by rw[I.ok.kind];rfl
 have hiσ:i < σ.length:=by rw[I.len];exact(Waf.mp hi).1
 have cne:=I.cne;have tracked:∀{a:Addr}{h':Heap},(∃o,s.heap.get? a=some o/\H a=none)->Heap.SameBut a s.heap h' -> HOk X.prog X.w H h':=λ{a h'} ha hs b ob e=>by
  obtain⟨_,_,hfree⟩:=ha;refine(I.hok b ob e).stay (λc w' hc q=>(hs.2 c ?_).trans q) (λ_ q=>q) λ_ _ q=>q;rintro rfl;rcases hc with rfl|hc
  ·rw[hfree]at e;cases e
  ·rw[hfree]at hc;cases hc
 rcases hx with hk|hk
 ·refine wpAny_storeName_local hk hn (λh' hn' hs=>?_) hcls
  obtain⟨oL,_,_,hoL,_⟩:=id hn;refine h _ ⟨I.ok,I.os,I.bare,⟨λb o e n hb hx=>?_,λb o e n hb hx=>?_,I.base.free,λb o e hx=>?_,I.base.tups,I.base.frzs,I.base.tbls⟩,⟨_,hn',λj y v' e1 e2 e3=>?_⟩,λy c e=>?_,I.free,I.freeC,λp hp=>?_,tracked ⟨oL,hoL,I.free⟩ hs,by simpa using I.len⟩ ⟨_,hs,.inl rfl⟩
  ·exact(hs.2 b (Waw (Wbf (Wap e) I.ok.above))).trans (I.base.keep b o e n hb hx)
  ·obtain⟨sl,e1⟩:=I.base.slot b o e n hb hx
   exact⟨sl,(hs.2 b (Waw (Wbf (Wap e) I.ok.above))).trans e1⟩
  ·obtain⟨o',e1⟩:=I.base.there b o e hx
   exact⟨o',(hs.2 b (Waw (Wbf (Wap e) I.ok.above))).trans e1⟩
  ·by_cases hj:j=i
   ·subst hj
    rw[hi]at e1;cases e1;rw[Wai hiσ]at e2;cases e2;exact⟨u,r,.inl ⟨hk,by simp⟩⟩
   ·rw[Wam (Ne.symm hj)]at e2
    obtain⟨u',r',q⟩:=hl j y v' e1 e2 e3;refine⟨u',r',?_⟩;rcases q with ⟨k,e⟩|⟨k,c,e,z⟩
    ·refine .inl ⟨k,?_⟩
     have:y≠x:=λe=>hj (Zkk hN e1 (e ▸ hi));simp[this,e]
    ·exact .inr ⟨k,c,e,z.sameBut hs (cne y c e)⟩
  ·obtain⟨w',z⟩:=I.cell y c e
   exact⟨w',z.sameBut hs (cne y c e)⟩
  ·obtain⟨e,n,ne,nf,d⟩:=I.pin p hp
   exact⟨(hs.2 p.1 ne).trans e,n,ne,nf,d⟩
 ·have hfn:X.fn x=true:=by
   rcases hf with z|z
   ·exact z
   ·rw[z]at hk;cases hk
  obtain⟨c,hc⟩:=I.ok.has x (.inl hk);obtain⟨w',z⟩:=I.cell x c hc;refine wpAny_storeName_cell I.ok.kind hk hc z (λh' hc' hs=>?_);obtain⟨oc,hoc,hocd⟩:=id z;refine h { s with heap:=h' } ⟨I.ok,I.os,I.bare,⟨λb o e n hb hx=>?_,λb o e n hb hx=>?_,I.base.free,λb o e hx=>?_,I.base.tups,I.base.frzs,I.base.tbls⟩,⟨m,hn.sameBut hs (Ne.symm (cne x c hc)),λj y v' e1 e2 e3=>?_⟩,λy c' e=>?_,I.free,I.freeC,λp hp=>?_,tracked ⟨oc,hoc,I.freeC x c hc⟩ hs,by simpa using I.len⟩ ⟨c,hs,.inr hc⟩
  ·exact(hs.2 b (Waw (Wbf (Wap e) (I.ok.cab x c hfn hc)))).trans (I.base.keep b o e n hb hx)
  ·obtain⟨sl,e1⟩:=I.base.slot b o e n hb hx
   exact⟨sl,(hs.2 b (Waw (Wbf (Wap e) (I.ok.cab x c hfn hc)))).trans e1⟩
  ·obtain⟨o',e1⟩:=I.base.there b o e hx
   exact⟨o',(hs.2 b (Waw (Wbf (Wap e) (I.ok.cab x c hfn hc)))).trans e1⟩
  ·by_cases hj:j=i
   ·subst hj
    rw[hi]at e1;cases e1;rw[Wai hiσ]at e2;cases e2;exact⟨u,r,.inr ⟨.inl hk,c,hc,hc'⟩⟩
   ·rw[Wam (Ne.symm hj)]at e2
    obtain⟨u',r',q⟩:=hl j y v' e1 e2 e3;refine⟨u',r',?_⟩;rcases q with q|⟨k,c',e,z'⟩
    ·exact .inl q
    ·refine .inr ⟨k,c',e,z'.sameBut hs ?_⟩
     rintro rfl;exact hj (Zkk hN e1 (I.ok.inj _ _ _ e hc ▸ hi))
  ·by_cases hcc:c'=c
   ·subst hcc;exact⟨_,hc'⟩
   ·obtain⟨w2,z2⟩:=I.cell y c' e
    exact⟨w2,z2.sameBut hs hcc⟩
  ·obtain⟨e,n,ne,nf,d⟩:=I.pin p hp
   refine⟨(hs.2 p.1 ?_).trans e,n,ne,nf,d⟩;intro q;rw[q,hoc]at e;have q':oc=p.2:=Wa4.inj e;exact d w' (by rw[<- q'];exact hocd)
theorem Zea {M:Model}{A:Around}{E:Value->Shared->Prop}{i:Nat}{x:Str}{v:V}{u:Value}{Q:Unit->Shared->Prop}(I:Inv X pins σ H s) (hN:X.N.Nodup) (hi:X.N[i]?=some x) (hx:Loc X.env.scope x) (r:RelV v u)
  (h:∀s',Inv X pins (σ.set i (some v)) H s' -> Q () s') (hf:X.fn x=true\/X.env.scope.names.lookup x=some .local:=by first|exact .inl rfl|exact .inr rfl|assumption):wpAny M A (storeName X.env x u) Q E s:=
 Zin I hN hi hx r (λs' I' _=>h s' I') hf
theorem Inv.call' {s':Shared}{ch:List Addr}(I:Inv X pins σ H s) (ho:s'.os=s.os) (u:Un (frs X.stack) ch H H' s.heap s'.heap) (hok:HOk X.prog X.w H' s'.heap) (hg:AllBare s'.gens)
  (hch:∀b∈ch,(b∈X.ex\/X.s₀.heap.objs.size<=b)/\b≠X.env.locals/\(∀x c,X.env.cells.lookup x=some c->c≠b)/\∀p∈X.pn++pins,p.1≠b):Inv X pins σ H' s':=by
 obtain⟨h',g',d',t',o'⟩:=s';have e:o'=s.os:=ho;subst e;exact I.call (g':=g') (t':=t') (d':=d') u hok hg hch
end
abbrev XK:=Value->Option Addr->Hp->Prop
abbrev St:=List (Option V)
abbrev VK:=V->Hp->Prop
abbrev TE:=St->Hp->VK->Prop
abbrev TT:=St->Hp->(Bool->Hp->Prop)->Prop
abbrev TA:=St->Hp->(List V->Hp->Prop)->Prop
structure Ends where
 nx:St->Hp->Prop
 rt:VK
 bk:St->Hp->Prop:=λ_ _=>False
 ct:St->Hp->Prop:=λ_ _=>False
abbrev TS:=Ends->St->Hp->Prop
def EP (X:Cx) (pins:List (Addr × Obj)) (σ:St) (Q:VK) (u:Value) (s':Shared):Prop:=∃v H',Inv X pins σ H' s' /\ RelV v u/\Q v H'
def TP (X:Cx) (pins:List (Addr × Obj)) (σ:St) (Q:Bool->Hp->Prop) (b:Bool) (s':Shared):Prop:=∃H',Inv X pins σ H' s' /\ Q b H'
def AP (X:Cx) (pins:List (Addr × Obj)) (σ:St) (Q:List V->Hp->Prop) (us:List Value) (s':Shared):Prop:=∃vs H',Inv X pins σ H' s' /\ Vals vs us/\Q vs H'
def SP (X:Cx) (pins:List (Addr × Obj)) (D:Ends) (f:Flow) (s':Shared):Prop:=
 match f with
 |.next=>∃σ' H',Inv X pins σ' H' s' /\ D.nx σ' H'
 |.brk=>∃σ' H',Inv X pins σ' H' s' /\ D.bk σ' H'
 |.cont=>∃σ' H',Inv X pins σ' H' s' /\ D.ct σ' H'
 |.ret u=>∃v σ' H',Inv X pins σ' H' s' /\ RelV v u/\D.rt v H'
def PE (X:Cx) (e:Expr) (t:TE):Prop:=
 ∀(pins:List (Addr × Obj)) (s:Shared) (σ:St) (H:Hp) (Q:VK),Inv X pins σ H s->t σ H Q->wpAny (model X.prog X.w) X.A (eval e X.env) (EP X pins σ Q) X.xe s
def PT (X:Cx) (e:Expr) (t:TT):Prop:=
 ∀(pins:List (Addr × Obj)) (s:Shared) (σ:St) (H:Hp) (Q:Bool->Hp->Prop),Inv X pins σ H s->t σ H Q->wpAny (model X.prog X.w) X.A (isTrue e X.env (eval e X.env)) (TP X pins σ Q) X.xe s
def PW (X:Cx) (e:Expr) (t:TT):Prop:=
 ∀(whole:Sem Value) (pins:List (Addr × Obj)) (s:Shared) (σ:St) (H:Hp) (Q:Bool->Hp->Prop),Inv X pins σ H s->t σ H Q->wpAny (model X.prog X.w) X.A (isTrue e X.env whole) (TP X pins σ Q) X.xe s
theorem PW.pt {X:Cx}{e:Expr}{t:TT}(h:PW X e t):PT X e t:=h _
def PA (X:Cx) (es:List Expr) (t:TA):Prop:=
 ∀(pos:Pos) (pins:List (Addr × Obj)) (s:Shared) (σ:St) (H:Hp) (Q:List V->Hp->Prop),Inv X pins σ H s->t σ H Q->wpAny (model X.prog X.w) X.A (spliced (backTo pos (starEach es X.env))) (AP X pins σ Q) X.xe s
def PS (X:Cx) (st:Stmt) (t:TS):Prop:=
 ∀(pins:List (Addr × Obj)) (s:Shared) (σ:St) (H:Hp) (D:Ends),Inv X pins σ H s->t D σ H->wpAny (model X.prog X.w) X.A (exec st X.env) (SP X pins D) X.xe s
def PSs (X:Cx) (st:List Stmt) (t:TS):Prop:=
 ∀(pins:List (Addr × Obj)) (s:Shared) (σ:St) (H:Hp) (D:Ends),Inv X pins σ H s->t D σ H->wpAny (model X.prog X.w) X.A (execs st X.env) (SP X pins D) X.xe s
theorem thn {α:Type}{t:Sem α}{Q Q':α -> Shared->Prop}{M:Model}{A:Around}{E:Value->Shared->Prop}{s:Shared}(h:wpAny M A t Q E s) (hQ:∀a s,Q a s->Q' a s):wpAny M A t Q' E s:=wpAny_mono h hQ λ_ _ x=>x
end L2
namespace L2
open PySem PySem.Spec PyProof.Rows
section
variable {X:Cx}
def tVar (i:Nat):TE:=λσ H Q=>∃v,σ[i]?=some (some v)/\Q v H
def tC (v:V):TE:=λ_ H Q=>Q v H
theorem Zux {i:Nat}{x:Str}{pos:Pos}(hN:X.N[i]?=some x) (hv:Vis X.env.scope x) (hd:(x == ("__debug__":Str))=false:=by decide) (hcd:(x == ("__classdict__":Str))=false:=by decide):PE X (.Name x pos) (tVar i):=by
 intro pins s σ H Q I h;obtain⟨v,e,h⟩:=h;obtain⟨m,hn,hl⟩:=I.loc;obtain⟨u,r,l⟩:=hl i x v hN e hv;have fin:EP X pins σ Q u s:=⟨v,H,I,r,h⟩;rcases l with ⟨hk,hm⟩|⟨hk,c,hc,hcell⟩
 ·exact wpAny_Name (wpAny_loadName_local I.ok.kind hk hn hm fin) hd
 ·rcases hk with hk|hk
  ·exact wpAny_Name (wpAny_loadName_cell I.ok.kind hk hc hcell fin) hd
  ·exact wpAny_Name (wpAny_loadName_free I.ok.kind hk hc hcell fin hcd) hd
theorem Zag {i j pos}:PE X (.Constant (.int i) j pos) (tC (.int i)):=λ_ _ _ H _ I h=>wpAny_Constant_int ⟨.int i,H,I.tok _,⟨_,rfl⟩,h⟩
theorem Ze6 {b j pos}:PE X (.Constant (.bool b) j pos) (tC (.bl b)):=λ_ _ _ H _ I h=>Constant_bool ⟨.bl b,H,I,rfl,h⟩
theorem Zie {j pos}:PE X (.Constant .none j pos) (tC .non):=λ_ _ _ H _ I h=>Constant_none ⟨.non,H,I,rfl,h⟩
def Gl (X:Cx) (x:Str):Prop:=X.env.kindOf x=some .globalImplicit
theorem Zry {E:Value->Shared->Prop}{pins:List (Addr × Obj)}{s:Shared}{σ:St}{H:Hp}{x:Str}{u:Value}{pos:Pos}{Q:Value->Shared->Prop}(I:Inv X pins σ H s) (hg:Gl X x) (hm:X.mg x=some u) (h:Q u s)
  (hd:(x == ("__debug__":Str))=false:=by decide):wpAny (model X.prog X.w) X.A (eval (.Name x pos) X.env) Q E s:=
 Calls.Name_function_global I.ok.kind hg (Calls.loadGlobal_global (by rw[I.ok.glob];exact I.mod.glob.keeps I.bk) hm h) hd
theorem Zdl {E:Value->Shared->Prop}{pins:List (Addr × Obj)}{s:Shared}{σ:St}{H:Hp}{x:Str}{u:Value}{pos:Pos}{Q:Value->Shared->Prop}(I:Inv X pins σ H s) (hg:Gl X x) (hm:X.mg x=none) (hv:bootBuiltins x=some u) (h:Q u s)
  (hn:x ≠ "__name__":=by decide) (hd:(x == ("__debug__":Str))=false:=by decide):wpAny (model X.prog X.w) X.A (eval (.Name x pos) X.env) Q E s:=by
 obtain⟨mb,h1,h2⟩:=I.mod.blt;exact Calls.Name_function_global I.ok.kind hg (Calls.loadGlobal_builtin (by rw[I.ok.glob];exact I.mod.glob.keeps I.bk) hm (by rw[I.ok.blt];exact h1.keeps I.bk) ((h2 x hn).trans hv) h) hd
theorem Zf0 {x:Str}{v:V}{u:Value}{pos:Pos}(hg:Gl X x) (hm:X.mg x=none) (hv:bootBuiltins x=some u) (r:RelV v u) (hn:x ≠ "__name__":=by decide) (hd:(x == ("__debug__":Str))=false:=by decide):PE X (.Name x pos) (tC v):=
 λ_ _ _ H _ I h=>Zdl I hg hm hv ⟨v,H,I,r,h⟩ hn hd
variable {a b:Expr}{ta tb:TE}{pos:Pos}
variable {tA tB':TT}{rest:List Expr}
def tAnd (t u:TT):TT:=λσ H Q=>t σ H λc H1=>if c=true then u σ H1 Q else Q false H1
def tOr (t u:TT):TT:=λσ H Q=>t σ H λc H1=>if c=true then Q true H1 else u σ H1 Q
def tNot (t:TT):TT:=λσ H Q=>t σ H λc H1=>Q (!c) H1
theorem pw_and1 (ha:PT X a tA):PW X (.BoolOp .And [a] pos) tA:=by
 intro wh pins s σ H Q I h;refine isTrue_and (thn (ha pins s σ H Q I h) λc s1 e=>?_);cases c with
 |true=>exact isTrue_and_nil e
 |false=>exact e
theorem pw_or1 (ha:PT X a tA):PW X (.BoolOp .Or [a] pos) tA:=by
 intro wh pins s σ H Q I h;refine isTrue_or (thn (ha pins s σ H Q I h) λc s1 e=>?_);cases c with
 |false=>exact isTrue_or_nil e
 |true=>exact e
theorem pw_and (ha:PT X a tA) (hb:PW X (.BoolOp .And (b::rest) pos) tB'):PW X (.BoolOp .And (a::b::rest) pos) (tAnd tA tB'):=by
 intro wh pins s σ H Q I h;refine isTrue_and (thn (ha pins s σ H _ I h) λc s1 ⟨H1,I1,q1⟩=>?_);cases c with
 |true=>exact hb wh pins s1 σ H1 Q I1 q1
 |false=>exact⟨H1,I1,q1⟩
theorem pw_or (ha:PT X a tA) (hb:PW X (.BoolOp .Or (b::rest) pos) tB'):PW X (.BoolOp .Or (a::b::rest) pos) (tOr tA tB'):=by
 intro wh pins s σ H Q I h;refine isTrue_or (thn (ha pins s σ H _ I h) λc s1 ⟨H1,I1,q1⟩=>?_);cases c with
 |true=>exact⟨H1,I1,q1⟩
 |false=>exact hb wh pins s1 σ H1 Q I1 q1
theorem Ze0 (ha:PT X a tA):PT X (.UnaryOp .Not a pos) (tNot tA):=by
 intro pins s σ H Q I h;exact isTrue_not (ha pins s σ H (λc H1=>Q (!c) H1) I h)
def tAndV (ta tb:TE):TE:=λσ H Q=>ta σ H λx H1=>∃c,x=.bl c/\if c=true then tb σ H1 Q else Q (.bl false) H1
def tOrV (ta tb:TE):TE:=λσ H Q=>ta σ H λx H1=>∃c,x=.bl c/\if c=true then Q (.bl true) H1 else tb σ H1 Q
def tNotV (ta:TE):TE:=λσ H Q=>ta σ H λx H1=>∃c,x=.bl c/\Q (.bl (!c)) H1
theorem Zrs {op} {t:TE}(h:PE X a t):PE X (.BoolOp op [a] pos) t:=λpins s σ H Q I hw=>BoolOp_one (h pins s σ H Q I hw)
theorem Zrm (ha:PE X a ta) (hb:PE X (.BoolOp .And (b::rest) pos) tb):PE X (.BoolOp .And (a::b::rest) pos) (tAndV ta tb):=by
 intro pins s σ H Q I h;refine BoolOp_and (thn (ha pins s σ H _ I h) λv s1 ⟨x,H1,I1,r1,q1⟩=>?_);obtain⟨c,rfl,q1⟩:=q1;cases r1;refine wpAny_truthy_bool ?_;cases c with
 |true=>exact hb pins s1 σ H1 Q I1 q1
 |false=>exact⟨.bl false,H1,I1,rfl,q1⟩
theorem Zvh (ha:PE X a ta):PE X (.UnaryOp .Not a pos) (tNotV ta):=by
 intro pins s σ H Q I h;refine UnaryOp_ (thn (ha pins s σ H _ I h) λv s1 ⟨x,H1,I1,r1,q1⟩=>?_);obtain⟨c,rfl,q1⟩:=q1;cases r1;exact not_of (wpAny_truthy_bool ⟨.bl (!c),H1,I1,rfl,q1⟩)
def tIf (t:TT) (ta tb:TE):TE:=λσ H Q=>t σ H λc H1=>if c=true then ta σ H1 Q else tb σ H1 Q
theorem Zg9 {c:Expr}(hc:PT X c tA) (ha:PE X a ta) (hb:PE X b tb):PE X (.IfExp c a b pos) (tIf tA ta tb):=by
 intro pins s σ H Q I h;refine wpAny_IfExp (thn (hc pins s σ H _ I h) λd s1 ⟨H1,I1,q1⟩=>?_);cases d with
 |true=>exact ha pins s1 σ H1 Q I1 q1
 |false=>exact hb pins s1 σ H1 Q I1 q1
end
end L2
namespace L2
open PySem PySem.Spec PyProof.Rows
def SqL (K:W.Frag) (H:Hp) (a:Addr) (xs:List V):Prop:=
 Rd H a (.lst xs) ∨
  ∃(o:Obj) (its:Array Value) (n:Nat),K.lookup a=some o/\o.cls=.type "list" /\ o.dict=none/\o.data=.seq its n/\its.size<=sizeLine/\Vals xs its.toList
def SqT (K:W.Frag) (H:Hp) (a:Addr) (xs:List V):Prop:=
 Rd H a (.tup xs) ∨
  ∃(o:Obj) (its:Array Value) (n:Nat),K.lookup a=some o/\o.cls=.type "tuple" /\ o.data=.seq its n/\its.size<=sizeLine/\Vals xs its.toList
def absV:Value->Option V
 |.none=>some .non
 |.bool b=>some (.bl b)
 |.int i _=>some (.int i)
 |.str x _=>some (.str x)
 |.bytes b _=>some (.byt b)
 |.float b _=>some (.flt b)
 |.ref a=>some (.ref a)
 |.type n=>some (.ty n)
 |_=>none
theorem RelV.abs {x:V}{u:Value}(r:RelV x u):absV u=some x:=by
 cases x with
 |non=>cases r;rfl
 |bl _=>cases r;rfl
 |int _=>obtain⟨t,rfl⟩:=r;rfl
 |str _=>obtain⟨t,rfl⟩:=r;rfl
 |byt _=>obtain⟨t,rfl⟩:=r;rfl
 |flt _=>obtain⟨t,rfl⟩:=r;rfl
 |ref _=>cases r;rfl
 |ty _=>cases r;rfl
theorem RelV.inj {x y:V}{u:Value}(r:RelV x u) (q:RelV y u):x=y:=Wa4.inj (r.abs.symm.trans q.abs)
theorem Vals.inj:∀{xs ys:List V}{us:List Value},Vals xs us->Vals ys us->xs=ys
 |_,_,_,.nil,.nil=>rfl
 |_,_,_,.cons r t,.cons r' t'=>by rw[r.inj r',Vals.inj t t']
section
variable {X:Cx}{pins:List (Addr × Obj)}{σ:St}{H:Hp}{s:Shared}{a:Addr}{xs ys:List V}
theorem SqL.of {K:W.Frag}(h:H a=some (.lst xs)):SqL K H a xs:=.inl (.inl h)
theorem SqT.of {K:W.Frag}(h:H a=some (.tup xs)):SqT K H a xs:=.inl (.inl h)
theorem Inv.list (I:Inv X pins σ H s) (h:SqL X.K H a xs):∃its:List Value,Vals xs its/\PlainL s.heap a its.toArray/\xs.length<=sizeLine:=by
 rcases h with h|⟨o,its,n,hk,hc,hd,hs,hz,r⟩
 ·obtain⟨z,its,n,r,e⟩:=h.ok I.hok
  exact⟨its,r,⟨_,n,e,rfl,rfl,rfl⟩,z⟩
 ·refine⟨its.toList,r,⟨o,n,I.kIn a o hk,hc,hd,by simpa using hs⟩,?_⟩
  have e:=r.length;simp only[Array.length_toList]at e;omega
theorem Inv.tuple (I:Inv X pins σ H s) (h:SqT X.K H a xs):∃its:List Value,Vals xs its/\IsTup s.heap a its.toArray/\xs.length<=sizeLine:=by
 rcases h with h|⟨o,its,n,hk,hc,hs,hz,r⟩
 ·obtain⟨z,its,r,p⟩:=h.ok I.hok
  exact⟨its,r,p.tup,z⟩
 ·refine⟨its.toList,r,⟨o,I.kIn a o hk,hc,n,by simpa using hs⟩,?_⟩
  have e:=r.length;simp only[Array.length_toList]at e;omega
theorem Inv.list_inj (I:Inv X pins σ H s) (h:SqL X.K H a xs) (h':SqL X.K H a ys):xs=ys:=by
 obtain⟨its,r,⟨o,n,e,_,_,d⟩,_⟩:=I.list h;obtain⟨its',r',⟨o',n',e',_,_,d'⟩,_⟩:=I.list h';rw[e]at e';cases e';rw[d]at d';injection d' with d1 _
 have:its=its':=by simpa using congrArg Array.toList d1
 subst this;exact r.inj r'
theorem Inv.tuple_inj (I:Inv X pins σ H s) (h:SqT X.K H a xs) (h':SqT X.K H a ys):xs=ys:=by
 obtain⟨its,r,⟨o,e,_,n,d⟩,_⟩:=I.tuple h;obtain⟨its',r',⟨o',e',_,n',d'⟩,_⟩:=I.tuple h';rw[e]at e';cases e';rw[d]at d';injection d' with d1 _
 have:its=its':=by simpa using congrArg Array.toList d1
 subst this;exact r.inj r'
end
abbrev Cx.wish (X:Cx) (E:Value->Shared->Prop):Cx:={ X with xe:=E }
abbrev Cx.nox (X:Cx):Cx:=X.wish λ_ _=>False
theorem Cx.Ok.wish {X:Cx}(ok:X.Ok) (E:Value->Shared->Prop):(X.wish E).Ok:=
 ⟨ok.mod,ok.kind,ok.glob,ok.blt,ok.above,ok.inj,ok.has,ok.cab,ok.hd,ok.frames,ok.stk,ok.exf,ok.bs,ok.bsz,ok.noex,ok.exfs,ok.funs,ok.frf⟩
theorem Cx.Ok.unwish {X:Cx}{E:Value->Shared->Prop}(ok:(X.wish E).Ok):X.Ok:=
 ⟨ok.mod,ok.kind,ok.glob,ok.blt,ok.above,ok.inj,ok.has,ok.cab,ok.hd,ok.frames,ok.stk,ok.exf,ok.bs,ok.bsz,ok.noex,ok.exfs,ok.funs,ok.frf⟩
section
variable {X:Cx}{pins:List (Addr × Obj)}{σ:St}{H:Hp}{s:Shared}{E:Value->Shared->Prop}
theorem Inv.wish (I:Inv X pins σ H s) (E:Value->Shared->Prop):Inv (X.wish E) pins σ H s:=⟨I.ok.wish E,I.os,I.bare,I.base,I.loc,I.cell,I.free,I.freeC,I.pin,I.hok,I.len⟩
theorem Inv.unwish (I:Inv (X.wish E) pins σ H s):Inv X pins σ H s:=⟨I.ok.unwish,I.os,I.bare,I.base,I.loc,I.cell,I.free,I.freeC,I.pin,I.hok,I.len⟩
theorem SP.unwish {D:Ends}{f:Flow}{s':Shared}(h:SP (X.wish E) pins D f s'):SP X pins D f s':=by
 cases f with
 |next=>obtain⟨σ',H',I,q⟩:=h;exact⟨σ',H',I.unwish,q⟩
 |brk=>obtain⟨σ',H',I,q⟩:=h;exact⟨σ',H',I.unwish,q⟩
 |cont=>obtain⟨σ',H',I,q⟩:=h;exact⟨σ',H',I.unwish,q⟩
 |ret u=>obtain⟨v,σ',H',I,r,q⟩:=h;exact⟨v,σ',H',I.unwish,r,q⟩
theorem PSs.nox {st:List Stmt}{t:TS}(h:PSs X.nox st t):PSs X st t:=λpins s σ H D I hw=>
 wpAny_mono (h pins s σ H D (I.wish _) hw) (λ_ _ q=>q.unwish) λ_ _ z=>False.elim z
end
section
variable {X:Cx}{st:Stmt}{rest:List Stmt}{t u:TS}{e:Expr}{te:TE}{pos:Pos}
def tNext:TS:=λD σ H=>D.nx σ H
def tSeq (t u:TS):TS:=λD σ H=>t { D with nx:=u D } σ H
theorem Zay:PSs X [] tNext:=λ_ _ σ H _ I h=>wpAny_execs_nil ⟨σ,H,I,h⟩
theorem Zae (h1:PS X st t) (h2:PSs X rest u):PSs X (st::rest) (tSeq t u):=by
 intro pins s σ H D I h;refine wpAny_execs_cons (thn (h1 pins s σ H { D with nx:=u D } I h) λf s1 q=>?_);cases f with
 |next=>
  obtain⟨σ',H',I',q⟩:=q;exact h2 pins s1 σ' H' D I' q
 |ret v=>exact q
 |brk=>exact q
 |cont=>exact q
theorem Zah (h1:PS X st t):PSs X [st] t:=by
 intro pins s σ H D I h;refine wpAny_execs_cons (thn (h1 pins s σ H D I h) λf s1 q=>?_);cases f with
 |next=>exact wpAny_execs_nil q
 |ret v=>exact q
 |brk=>exact q
 |cont=>exact q
theorem Inv.quiet {pins:List (Addr × Obj)}{σ:St}{H:Hp}{s:Shared}(I:Inv X pins σ H s):interactive X.env=false:=by simp[interactive,I.ok.kind]
def tDrop (te:TE):TS:=λD σ H=>te σ H λ_ H1=>D.nx σ H1
theorem Zdi (he:PE X e te) (hs:swapsWith e none pos.line X.env=pure false:=by rfl):PS X (.Expr e pos) (tDrop te):=by
 intro pins s σ H D I h;exact wpAny_Expr_any (thn (he pins s σ H _ I h) λv s1 ⟨x,H1,I1,r1,q1⟩=>⟨σ,H1,I1,q1⟩) I.quiet hs
def tRet (te:TE):TS:=λD σ H=>te σ H D.rt
theorem Zav (he:PE X e te):PS X (.Return (some e) pos) (tRet te):=by
 intro pins s σ H D I h;exact wpAny_Return_some (thn (he pins s σ H _ I h) λv s1 ⟨x,H1,I1,r1,q1⟩=>⟨x,σ,H1,I1,r1,q1⟩)
def tIfS (c:TT) (t u:TS):TS:=λD σ H=>c σ H λb H1=>if b=true then t D σ H1 else u D σ H1
theorem Zbq {c:Expr}{a b:List Stmt}{tc:TT}(hc:PT X c tc) (ha:PSs X a t) (hb:PSs X b u):PS X (.If c a b pos) (tIfS tc t u):=by
 intro pins s σ H D I h;refine wpAny_If (thn (hc pins s σ H _ I h) λd s1 ⟨H1,I1,q1⟩=>?_);cases d with
 |true=>exact ha pins s1 σ H1 D I1 q1
 |false=>exact hb pins s1 σ H1 D I1 q1
def tNever:TS:=λ_ _ _=>False
theorem Zmx {sts:List Stmt}:PSs X sts tNever:=λ_ _ _ _ _ _ h=>h.elim
end
abbrev TG:=V->St->Hp->(St->Hp->Prop)->Prop
abbrev TGs:=List V->St->Hp->(St->Hp->Prop)->Prop
def PG (X:Cx) (target:Expr) (t:TG):Prop:=
 ∀(pins:List (Addr × Obj)) (s:Shared) (σ:St) (H:Hp) (v:V) (u:Value) (Q:St->Hp->Prop),Inv X pins σ H s->RelV v u->t v σ H Q →
  wpAny (model X.prog X.w) X.A (assign target X.env u) (λ_ s'=>∃σ' H',Inv X pins σ' H' s' /\ Q σ' H') X.xe s
def PGs (X:Cx) (ts:List Expr) (t:TGs):Prop:=
 ∀(pins:List (Addr × Obj)) (s:Shared) (σ:St) (H:Hp) (vs:List V) (us:List Value) (Q:St->Hp->Prop),Inv X pins σ H s->Vals vs us->t vs σ H Q →
  wpAny (model X.prog X.w) X.A (assignInOrder ((assignEach ts X.env).map (·.2)) us) (λ_ s'=>∃σ' H',Inv X pins σ' H' s' /\ Q σ' H') X.xe s
abbrev TSet:=V->V->V->Hp->(Hp->Prop)->Prop
def PSet (X:Cx) (t:TSet):Prop:=
 ∀(pins:List (Addr × Obj)) (s:Shared) (σ:St) (H:Hp) (o i v:V) (ov iv u:Value) (Q:Hp->Prop),Inv X pins σ H s->RelV o ov->RelV i iv->RelV v u->t o i v H Q →
  wpAny (model X.prog X.w) X.A (setItem ov iv u) (λ_ s'=>∃H',Inv X pins σ H' s' /\ Q H') X.xe s
abbrev TIp:=V->V->Hp->VK->Prop
def PIp (X:Cx) (op:Operator) (t:TIp):Prop:=
 ∀(pins:List (Addr × Obj)) (s:Shared) (σ:St) (H:Hp) (x y:V) (v u:Value) (Q:VK),Inv X pins σ H s->RelV x v->RelV y u->t x y H Q →
  wpAny (model X.prog X.w) X.A (inplaceOp op v u) (EP X pins σ Q) X.xe s
section
variable {X:Cx}{pos:Pos}
def gName (i:Nat):TG:=λv σ H Q=>Q (σ.set i (some v)) H
theorem Zaj {i:Nat}{x:Str}(hN:X.N.Nodup) (hi:X.N[i]?=some x) (hx:Loc X.env.scope x) (hf:X.fn x=true\/X.env.scope.names.lookup x=some .local:=by first|exact .inl rfl|exact .inr rfl|assumption):PG X (.Name x pos) (gName i):=by
 intro pins s σ H v u Q I r h;exact wpAny_assign_Name (Zea I hN hi hx r (λs' I'=>⟨_,H,I',h⟩) hf)
def gNil:TGs:=λvs σ H Q=>vs=[]/\Q σ H
def gCons (t:TG) (u:TGs):TGs:=λvs σ H Q=>∃v r,vs=v::r/\t v σ H λσ' H'=>u r σ' H' Q
theorem Zeo:PGs X [] gNil:=by
 intro pins s σ H vs us Q I r h;obtain⟨e,h⟩:=h;subst e;cases r;exact assignInOrder_nil ⟨σ,H,I,h⟩
theorem Zbr {e:Expr}{es:List Expr}{t:TG}{u:TGs}(h1:PG X e t) (h2:PGs X es u)
  (hs:(assignEach (e::es) X.env).map (·.2)=assign e X.env::(assignEach es X.env).map (·.2):=by rfl):PGs X (e::es) (gCons t u):=by
 intro pins s σ H vs us Q I r h;obtain⟨v,vr,e1,h⟩:=h;subst e1;cases r with
 |cons r rr=>
  rw[hs];refine assignInOrder_cons (thn (h1 pins s σ H _ _ _ I r h) λ_ s1 ⟨σ1,H1,I1,q1⟩=>?_);exact h2 pins s1 σ1 H1 _ _ Q I1 rr q1
def gTup (K:W.Frag) (n:Nat) (t:TGs):TG:=λv σ H Q=>∃a xs,v=.ref a/\SqT K H a xs/\xs.length=n/\t xs σ H Q
theorem Zt8 {es:List Expr}{k:Nat}{t:TGs}{n:Nat}(hc:X.calm=true) (h:PGs X es t)
  (hn:(assignEach es X.env).length=n:=by rfl) (hst:(assignEach es X.env).findIdx? (·.1)=none:=by rfl):PG X (.Tuple es k pos) (gTup X.K n t):=by
 intro pins s σ H v u Q I r hw;obtain⟨a,xs,e1,hq,hl,hw⟩:=hw;subst e1;cases r;obtain⟨its,rv,ht,hz⟩:=I.tuple hq;refine assign_Tuple_tuple (I.ok.hd hc) ht (by simp[hn,<- hl,rv.length]) hst λh' hx=>?_;have I1:Inv X pins σ H { s with heap:=h' }:=I.kept (t':=s.toks) λb o e=>hx b o (Waw (Wap e)) e;exact h pins _ σ H xs _ Q I1 (by simpa using rv) hw
def gSub (to ti:TE) (t:TSet):TG:=λv σ H Q=>to σ H λo H1=>ti σ H1 λi H2=>t o i v H2 λH3=>Q σ H3
theorem Zf7 {o i:Expr}{to ti:TE}{t:TSet}(ho:PE X o to) (hi:PE X i ti) (hs:PSet X t)
  (ha:∀v,assign (.Subscript o i pos) X.env v=(do
   let ov ← holding [v] (eval o X.env)
   let iv ← holding [v,ov] (eval i X.env)
   standAt pos
   holding [v,ov,iv] (setItem ov iv v)
   release [v,ov,iv] []):=by intro _;rfl):PG X (.Subscript o i pos) (gSub to ti t):=by
 intro pins s σ H v u Q I r h;rw[ha];refine wpAny_bind (wpAny_holding (thn (ho pins s σ H _ I h) λov s1 ⟨x,H1,I1,r1,q1⟩=>?_));refine wpAny_bind (wpAny_holding (thn (hi pins s1 σ H1 _ I1 q1) λiv s2 ⟨y,H2,I2,r2,q2⟩=>?_));refine wpAny_bind (wpAny_standAt (wpAny_bind (wpAny_holding (thn (hs pins s2 σ H2 x y v ov iv u _ I2 r1 r2 r q2) λ_ s3 ⟨H3,I3,q3⟩=>?_))));exact wpAny_release ⟨σ,H3,I3,q3⟩
def tAsg (te:TE) (g:TG):TS:=λD σ H=>te σ H λx H1=>g x σ H1 D.nx
theorem Zee {tg e:Expr}{te:TE}{g:TG}(he:PE X e te) (hg:PG X tg g) (hs:swapsWithSole [tg] e pos.line X.env=pure false:=by rfl) (hw:swappedStores [tg] e X.env=pure none:=by rfl)
  (h1:(assignEach [tg] X.env).map (·.2)=[assign tg X.env]:=by rfl):PS X (.Assign [tg] e pos) (tAsg te g):=by
 intro pins s σ H D I h;refine wpAny_Assign_stores (thn (he pins s σ H _ I h) λv s1 ⟨x,H1,I1,r1,q1⟩=>?_) hs hw;rw[h1];exact thn (hg pins s1 σ H1 x v _ I1 r1 q1) λ_ s2 q=>q
theorem Zap {i:Nat}{x:Str}{e:Expr}{te:TE}{pos':Pos}(hN:X.N.Nodup) (hi:X.N[i]?=some x) (hx:Loc X.env.scope x) (he:PE X e te) (hs:swapsWith e (some (.Name x pos')) pos.line X.env=pure false:=by rfl) (hf:X.fn x=true\/X.env.scope.names.lookup x=some .local:=by first|exact .inl rfl|exact .inr rfl|assumption) :
  PS X (.Assign [.Name x pos'] e pos) (tAsg te (gName i)):=by
 intro pins s σ H D I h;refine wpAny_Assign_Name (thn (he pins s σ H _ I h) λv s1 ⟨y,H1,I1,r1,q1⟩=>?_) hs;exact Zea I1 hN hi hx r1 (λs2 I2=>⟨_,H1,I2,q1⟩) hf
def tPar (i j:Nat) (ta:TA):TS:=λD σ H=>ta σ H λvs H1=>∃v w,vs=[v,w]/\D.nx ((σ.set i (some v)).set j (some w)) H1
theorem Zk0 {i j:Nat}{x y:Str}{a b:Expr}{ta:TA}{px py pt:Pos}{kt k2 pt2} (hc:X.calm=true) (hN:X.N.Nodup) (hi:X.N[i]?=some x) (hj:X.N[j]?=some y) (hij:i≠j)
  (hx:X.env.scope.names.lookup x=some .local) (hy:X.env.scope.names.lookup y=some .local) (ha:PA X [a,b] ta)
  (hw:swappedStores [.Tuple [.Name x px,.Name y py] kt pt] (.Tuple [a,b] k2 pt2) X.env=pure (some [x,y]))
  (hs:swapsWithSole [.Tuple [.Name x px,.Name y py] kt pt] (.Tuple [a,b] k2 pt2) pos.line X.env=pure false:=by rfl) :
  PS X (.Assign [.Tuple [.Name x px,.Name y py] kt pt] (.Tuple [a,b] k2 pt2) pos) (tPar i j ta):=by
 intro pins s σ H D I h;rw[exec_Assign_arm];refine wpAny_bind (wpAny_standAt ?_);rw[hs];refine wpAny_bind (wpAny_pure ?_);rw[if_neg (by decide)];refine wpAny_bind (Tuple_ (thn (ha _ pins s σ H _ I h) λus s1 ⟨vs,H1,I1,r1,q1⟩=>?_));obtain⟨v,w,e1,q1⟩:=q1;subst e1;obtain⟨u1,u2,rfl,rv,rw'⟩:∃u1 u2,us=[u1,u2]/\RelV v u1/\RelV w u2:=by
  cases r1 with
  |cons p q=>
   cases q with
   |cons p' q'=>
    cases q';exact⟨_,_,rfl,p,p'⟩
 refine wpAny_newObj_type ?_ (by show 2<=sizeLine;decide);have I2:Inv X pins σ H1 { s1 with heap:=s1.heap.push { cls:=.type "tuple",data:=.seq [u1,u2].toArray } }:=I1.kept (t':=s1.toks) λb o e=>Wae _ e;rw[hw];refine wpAny_bind (wpAny_pure ?_);show wpAny (model X.prog X.w) X.A (do rule "assign.swapped-stores";let items ← unpackItems (.ref s1.heap.objs.size) 2 none;assignInOrder [λv=>bindName X.env y v,λv=>bindName X.env x v] items.reverse;pure Flow.next) _ _ _;refine wpAny_bind (wpAny_rule (wpAny_bind (unpackItems_tuple (items:=#[u1,u2]) (I.ok.hd hc) (IsTup.new s1.heap _) λh' hx'=>?_)));have I3:=I2.kept (h':=h') (t':=s1.toks) λb o e=>hx' b o (Waw (Wap e)) e;show wpAny _ _ (assignInOrder [λv=>bindName X.env y v,λv=>bindName X.env x v] [u2,u1] >>= λ_=>pure Flow.next) _ _ _;refine wpAny_bind (assignInOrder_cons (wpAny_bindName (Zea I3 hN hj (.inl hy) rw' (λs2 I4=>?_) (.inr hy))));refine assignInOrder_cons (wpAny_bindName (Zea I4 hN hi (.inl hx) rv (λs3 I5=>assignInOrder_nil (wpAny_pure ?_)) (.inr hx)));rw[List.set_comm _ _ (Ne.symm hij)]at I5;exact⟨_,H1,I5,q1⟩
def tAug (i:Nat) (te:TE) (ti:TIp):TS:=λD σ H=>∃x,σ[i]?=some (some x)/\te σ H λy H1=>ti x y H1 λz H2=>D.nx (σ.set i (some z)) H2
theorem Zue {i:Nat}{x:Str}{e:Expr}{te:TE}{op:Operator}{ti:TIp}{pos':Pos}(hN:X.N.Nodup) (hi:X.N[i]?=some x) (hx:Loc X.env.scope x) (he:PE X e te) (ho:PIp X op ti) (hf:X.fn x=true\/X.env.scope.names.lookup x=some .local:=by first|exact .inl rfl|exact .inr rfl|assumption) :
  PS X (.AugAssign (.Name x pos') op e pos) (tAug i te ti):=by
 intro pins s σ H D I h;obtain⟨v,e1,h⟩:=h;obtain⟨m,hn,hl⟩:=I.loc;have vis:Vis X.env.scope x:=by rcases hx with k|k;exact .inl k;exact .inr (.inl k)
 obtain⟨u,r,l⟩:=hl i x v hi e1 vis;refine wpAny_AugAssign_Name ?_;have go:wpAny (model X.prog X.w) X.A (eval e X.env) (λw s₂=>wpAny (model X.prog X.w) X.A (inplaceOp op u w) (λr s₃=>wpAny (model X.prog X.w) X.A (storeName X.env x r) (λ_=>SP X pins D .next) X.xe s₃) X.xe s₂) X.xe s:=by
  refine thn (he pins s σ H _ I h) λw s1 ⟨y,H1,I1,r1,q1⟩=>?_;refine thn (ho pins s1 σ H1 v y u w _ I1 r r1 q1) λz s2 ⟨zv,H2,I2,r2,q2⟩=>?_;exact Zea I2 hN hi hx r2 (λs3 I3=>⟨_,H2,I3,q2⟩) hf
 rcases l with ⟨hk,hm⟩|⟨hk,c,hc,hcell⟩
 ·exact wpAny_loadName_local I.ok.kind hk hn hm go
 ·rcases hk with hk|hk
  ·exact wpAny_loadName_cell I.ok.kind hk hc hcell go
  ·rcases hx with k|k
   ·have:X.env.scope.names.lookup x=some .free:=hk
    rw[k]at this;cases this
   ·have:X.env.scope.names.lookup x=some .free:=hk
    rw[k]at this;cases this
def ipI (f:Int->Int->Int):TIp:=λx y H Q=>∃i j,x=.int i/\y=.int j/\Q (.int (f i j)) H
theorem Zvw:PIp X .Add (ipI λi j=>i+j):=by
 intro pins s σ H x y v u Q I r1 r2 h;obtain⟨i,j,e1,e2,q⟩:=h;subst e1;subst e2;obtain⟨t,rfl⟩:=r1;obtain⟨t',rfl⟩:=r2;exact iadd_int ⟨.int _,H,I.tok _,⟨_,rfl⟩,q⟩
def tWhile (c:TT) (tb:TS):TS:=λD σ H=>∃W:Nat->St->Hp->Prop,(∃m,W m σ H)/\∀m σ H,W m σ H →
 c σ H λb H1=>if b=true then ∃N:St->Hp->Prop,(∀σ' H',N σ' H' -> ∃m',m'<m/\W m' σ' H')/\tb { D with nx:=N,ct:=N,bk:=D.nx } σ H1 else D.nx σ H1
theorem Zkz {c:Expr}{body:List Stmt}{tc:TT}{tb:TS}(hp:PassesOwn (model X.prog X.w) X.A X.env X.xe) (hc:PT X c tc) (hb:PSs X body tb):PS X (.While c body [] pos) (tWhile tc tb):=by
 intro pins s σ H D I h;obtain⟨W,⟨m0,w0⟩,turn⟩:=h;refine wpAny_While (codeAny_whileLoop (λn s'=>∃σ' H',Inv X pins σ' H' s' /\ W n σ' H') ?_ m0 ⟨σ,H,I,w0⟩);rintro n s1 ⟨σ1,H1,I1,w1⟩;refine wpAny_passesOwn hp (thn (hc pins s1 σ1 H1 _ I1 (turn n σ1 H1 w1)) λb s2 ⟨H2,I2,q2⟩=>?_);cases b with
 |true=>
  obtain⟨N,hN,q2⟩:=q2;rw[if_pos rfl];refine wpAny_passesOwn hp (thn (hb pins s2 σ1 H2 _ I2 q2) λf s3 q3=>?_);cases f with
  |next=>
   obtain⟨σ3,H3,I3,n3⟩:=q3;obtain⟨m',hm,w3⟩:=hN σ3 H3 n3;exact⟨m',hm,σ3,H3,I3,w3⟩
  |cont=>
   obtain⟨σ3,H3,I3,n3⟩:=q3;obtain⟨m',hm,w3⟩:=hN σ3 H3 n3;exact⟨m',hm,σ3,H3,I3,w3⟩
  |brk=>exact q3
  |ret v=>exact q3
 |false=>
  rw[if_neg Was];exact wpAny_execs_nil ⟨σ1,H2,I2,q2⟩
end
structure It where
 go:Nat->Hp->Prop
 yld:Nat->Hp->V->Hp->Prop
 stop:Nat->Hp->Prop
def FpOk (X:Cx) (pins:List (Addr × Obj)) (H:Hp) (b:Addr):Prop:=
 H b=none/\b≠X.env.locals/\b ∉ X.fs/\(b∈X.ex\/X.s₀.heap.objs.size<=b)/\(∀x c,X.env.cells.lookup x=some c->c≠b)/\∀p∈X.pn++pins,p.1≠b
theorem Inv.fpOk {X:Cx}{pins:List (Addr × Obj)}{σ:St}{H H':Hp}{s:Shared}{b:Addr}(I:Inv X pins σ H s) (hb:s.heap.objs.size<=b) (hn:H' b=none):FpOk X pins H' b:=by
 refine⟨hn,Wc8 (Wbf I.lt hb),I.nofs hb,.inr (Wbu I.sz hb),λx c e z=>?_,λp hp z=>?_⟩
 ·obtain⟨v,q⟩:=I.cell x c e
  exact absurd (Wbf q.lt (by rw[z];exact hb)) (Wc1 _)
 ·exact absurd (Wbf (Wap (I.pin p hp).1) (by rw[z];exact hb)) (Wc1 _)
structure TurnG (Cm:Cx->Prop) (P:Program) (w:World) (K:W.Frag) (tg:Expr) (J:It) (fp:List Addr) (it:Addr) (tn:Nat->Heap->Prop):Prop where
 mem:it∈fp
 obj:∀i h,tn i h->∀b∈fp,∃o,h.get? b=some o/\∀v,o.data≠.cell v
 keep:∀i h h',tn i h->(∀b∈fp,∀o,h.get? b=some o->h'.get? b=some o)->tn i h'
 item:∀(X:Cx),X.prog=P->X.w=w->X.K=K->Cm X->∀(i:Nat) (pins:List (Addr × Obj)) (s:Shared) (σ:St) (H:Hp) (E:Value->Shared->Prop),Inv X pins σ H s->(∀b∈fp,FpOk X pins H b)->tn i s.heap->J.go i H →
  wpAny (model P w) X.A (pyNext (.ref it)) (λr s1=>∃u,r=some u ∧
   wpAny (model P w) X.A (letOwnedTupleGo tg (.ref it) u) (λ_ s2=>∃x H',Inv X pins σ H' s2/\RelV x u/\J.yld i H x H' /\ tn (i+1) s2.heap/\∀b∈fp,H' b=none) E s1) E s
 done:∀(X:Cx),X.prog=P->X.w=w->X.K=K->Cm X->∀(i:Nat) (pins:List (Addr × Obj)) (s:Shared) (σ:St) (H:Hp) (E:Value->Shared->Prop),Inv X pins σ H s->(∀b∈fp,FpOk X pins H b)->tn i s.heap->J.stop i H →
  wpAny (model P w) X.A (pyNext (.ref it)) (λr s1=>r=none/\Inv X pins σ H s1) E s
 self:∀(A:Around) (i:Nat) (s:Shared) (Q:Value->Shared->Prop) (E:Value->Shared->Prop),tn i s.heap->Q (.ref it) s->wpAny (model P w) A (pyIter (.ref it)) Q E s
abbrev Turn:=TurnG λX=>X.calm=true
abbrev TI:=St->Hp->(It->Hp->Prop)->Prop
def PIEG (Cm:Cx->Prop) (X:Cx) (pins:List (Addr × Obj)) (σ:St) (tg:Expr) (R:It->Hp->Prop) (itv:Value) (s2:Shared):Prop:=
 ∃(it:Addr) (fp:List Addr) (tn:Nat->Heap->Prop) (J:It) (H':Hp),itv=.ref it/\Inv X pins σ H' s2/\TurnG Cm X.prog X.w X.K tg J fp it tn/\tn 0 s2.heap/\(∀b∈fp,FpOk X pins H' b)/\R J H'
def PIG (Cm:Cx->Prop) (X:Cx) (tg iter:Expr) (wi:TI):Prop:=
 ∀(pins:List (Addr × Obj)) (s:Shared) (σ:St) (H:Hp) (R:It->Hp->Prop),Inv X pins σ H s->wi σ H R →
  wpAny (model X.prog X.w) X.A (eval iter X.env) (λv s1=>wpAny (model X.prog X.w) X.A (pyIter v) (PIEG Cm X pins σ tg R) X.xe s1) X.xe s
abbrev PIE:=PIEG λX=>X.calm=true
abbrev PI:=PIG λX=>X.calm=true
theorem Zs0 {M:Model}{A:Around}{E:Value->Shared->Prop}{s:Shared}{tg:Expr}{it:Addr}{u:Value}{o:Obj}{n:String}{vs:Array Value}{Q:Unit->Shared->Prop}(ho:s.heap.get? it=some o) (hc:o.cls=.type n) (hd:o.data=.fields vs)
  (hn:["enumerate","zip","dict_itemiterator","dict_reverseitemiterator","odict_iterator","itertools.zip_longest","itertools.pairwise"].contains n=false) (hQ:Q () s):wpAny M A (letOwnedTupleGo tg (.ref it) u) Q E s:=by
 unfold letOwnedTupleGo;cases tg <;> first
  |exact wpAny_pure hQ
  | (cases u <;> first
      |exact wpAny_pure hQ
      | (refine wpAny_bind (wpAny_load ho ?_)
         rw[hc,hd];show wpAny M A (if (["enumerate","zip","dict_itemiterator","dict_reverseitemiterator","odict_iterator","itertools.zip_longest","itertools.pairwise"].contains n && vs[0]? == some (rawInt _))=true then _ else _) Q E s;rw[if_neg (by intro h;rw[hn,Wdy]at h;cases h)];exact wpAny_pure hQ))
def Itl (K:W.Frag) (a:Addr):It:=
 ⟨λi H=>∃xs x,SqL K H a xs/\xs[i]?=some x,λi H x H'=>H'=H/\∀xs,SqL K H a xs->xs[i]?=some x,λi H=>∃xs,SqL K H a xs/\xs.length<=i⟩
def Itt (K:W.Frag) (a:Addr):It:=
 ⟨λi H=>∃xs x,SqT K H a xs/\xs[i]?=some x,λi H x H'=>H'=H/\∀xs,SqT K H a xs->xs[i]?=some x,λi H=>∃xs,SqT K H a xs/\xs.length<=i⟩
def Itr (lo:Int) (n:Nat):It:=⟨λi _=>i<n,λi H x H'=>H'=H/\x=.int (lo+i),λi _=>n<=i⟩
theorem Zml {P:Program}{w:World}{K:W.Frag}{tg:Expr}(a it:Addr):Turn P w K tg (Itl K a) [it] it (λi h=>h.IsListIter it a i) where
 mem:=by simp
 obj:=λi h st b hb=>by
  have e:b=it:=by simpa using hb
  subst e;obtain⟨o,e,c,d⟩:=st;exact⟨o,e,λv z=>by rw[d]at z;cases z⟩
 keep:=λi h h' st k=>st.at λo e=>k it (by simp) o e
 item:=by
  intro X hP hw hK hc i pins s σ H E I hf st hg;subst hP hw hK;obtain⟨xs,x,hq,hx⟩:=hg;obtain⟨its,rv,p,hz⟩:=I.list hq;obtain⟨u,hu,ru⟩:=rv.get hx;obtain⟨f0,f1,f2,f3,f4,f5⟩:=hf it (by simp);refine wpAny_pyNext_list_item st p.isList (x:=u) (by simpa using hu) λh' st' sb=>?_;have I1:Inv X pins σ H { s with heap:=h' }:=I.turned (t':=s.toks) (λb o hb e=>(sb.2 b hb).trans e) f0 f1 f3 f4 f5;obtain⟨o,e,c,d⟩:=id st';exact⟨u,rfl,Zs0 (s:={ s with heap:=h' }) e c d (by decide) ⟨x,H,I1,ru,⟨rfl,λys hy=>by rw[I.list_inj hy hq];exact hx⟩,st',λb hb=>(hf b hb).1⟩⟩
 done:=by
  intro X hP hw hK hc i pins s σ H E I hf st hg;subst hP hw hK;obtain⟨xs,hq,hx⟩:=hg;obtain⟨its,rv,p,hz⟩:=I.list hq;obtain⟨f0,f1,f2,f3,f4,f5⟩:=hf it (by simp);have hl:=rv.length;exact wpAny_pyNext_list_end (I.ok.hd hc) st p.isList (by simp;omega) λh' eb=>⟨rfl,I.turned (t':=s.toks) (λb o hb e=>eb b o hb e) f0 f1 f3 f4 f5⟩
 self:=λ_ _ _ _ _ st h=>wpAny_pyIter_listiter st h
theorem Zlv {P:Program}{w:World}{K:W.Frag}{tg:Expr}(a it:Addr):Turn P w K tg (Itt K a) [it] it (λi h=>h.IsTupleIter it a i) where
 mem:=by simp
 obj:=λi h st b hb=>by
  have e:b=it:=by simpa using hb
  subst e;obtain⟨o,e,c,d⟩:=st;exact⟨o,e,λv z=>by rw[d]at z;cases z⟩
 keep:=λi h h' st k=>st.at λo e=>k it (by simp) o e
 item:=by
  intro X hP hw hK hc i pins s σ H E I hf st hg;subst hP hw hK;obtain⟨xs,x,hq,hx⟩:=hg;obtain⟨its,rv,p,hz⟩:=I.tuple hq;obtain⟨u,hu,ru⟩:=rv.get hx;obtain⟨f0,f1,f2,f3,f4,f5⟩:=hf it (by simp);refine wpAny_pyNext_tuple_item st (show s.heap.IsTuple a its.toArray from p) (x:=u) (by simpa using hu) λh' st' sb=>?_;have I1:Inv X pins σ H { s with heap:=h' }:=I.turned (t':=s.toks) (λb o hb e=>(sb.2 b hb).trans e) f0 f1 f3 f4 f5;obtain⟨o,e,c,d⟩:=id st';exact⟨u,rfl,Zs0 (s:={ s with heap:=h' }) e c d (by decide) ⟨x,H,I1,ru,⟨rfl,λys hy=>by rw[I.tuple_inj hy hq];exact hx⟩,st',λb hb=>(hf b hb).1⟩⟩
 done:=by
  intro X hP hw hK hc i pins s σ H E I hf st hg;subst hP hw hK;obtain⟨xs,hq,hx⟩:=hg;obtain⟨its,rv,p,hz⟩:=I.tuple hq;obtain⟨f0,f1,f2,f3,f4,f5⟩:=hf it (by simp);have hl:=rv.length;exact wpAny_pyNext_tuple_end (I.ok.hd hc) st (show s.heap.IsTuple a its.toArray from p) (by simp;omega) λh' eb=>⟨rfl,I.turned (t':=s.toks) (λb o hb e=>eb b o hb e) f0 f1 f3 f4 f5⟩
 self:=λ_ _ _ _ _ st h=>wpAny_pyIter_tupleiter st h
theorem Zlr {P:Program}{w:World}{K:W.Frag}{tg:Expr}(it:Addr) (lo:Int) (n:Nat):Turn P w K tg (Itr lo n) [it] it (λi h=>IsRangeIter h it (lo+(i:Nat)*1) ((n:Int)-(i:Nat)) 1) where
 mem:=by simp
 obj:=λi h st b hb=>by
  have e:b=it:=by simpa using hb
  subst e;exact⟨_,st,λv z=>by
   have z':Data.fields _=Data.cell v:=z;cases z'⟩
 keep:=λi h h' st k=>k it (by simp) _ st
 item:=by
  intro X hP hw hK hc i pins s σ H E I hf st hg;subst hP hw hK;obtain⟨f0,f1,f2,f3,f4,f5⟩:=hf it (by simp);have W:=Walks.range (prog:=X.prog) (w:=X.w) (I.ok.hd hc) it lo 1 n;refine W.item i s _ _ hg st λv h' tk hv st' kk=>?_;obtain⟨t,rfl⟩:=hv;have I1:Inv X pins σ H { s with heap:=h',toks:=tk }:=I.turned (λb o hb e=>kk b o (by simpa using hb) e) f0 f1 f3 f4 f5;refine⟨_,rfl,Zs0 (s:={ s with heap:=h',toks:=tk }) (n:="range_iterator") st' rfl rfl (by decide) ⟨.int (lo+i),H,I1,⟨t,?_⟩,⟨rfl,rfl⟩,st',λb hb=>(hf b hb).1⟩⟩;rw[Int.mul_one]
 done:=by
  intro X hP hw hK hc i pins s σ H E I hf st hg;subst hP hw hK;obtain⟨f0,f1,f2,f3,f4,f5⟩:=hf it (by simp);exact wpAny_pyNext_range_end (I.ok.hd hc) st (by have:n<=i:=hg;omega) λh' eb=>⟨rfl,I.turned (t':=s.toks) (λb o hb e=>eb b o hb e) f0 f1 f3 f4 f5⟩
 self:=λ_ _ _ _ _ st h=>wpAny_pyIter_rangeiter st h
end L2
namespace L2
open PySem PySem.Spec PyProof.Rows
section
variable {X:Cx}{tg:Expr}
def iList (K:W.Frag) (tl:TE):TI:=λσ H R=>tl σ H λx H1=>∃a,x=.ref a/\(∃xs,SqL K H1 a xs)/\R (Itl K a) H1
def iTup (K:W.Frag) (tl:TE):TI:=λσ H R=>tl σ H λx H1=>∃a,x=.ref a/\(∃xs,SqT K H1 a xs)/\R (Itt K a) H1
theorem Zr8 {l:Expr}{tl:TE}(hl:PE X l tl):PI X tg l (iList X.K tl):=by
 intro pins s σ H R I h;refine thn (hl pins s σ H _ I h) λv s1 ⟨x,H1,I1,r1,q1⟩=>?_;obtain⟨a,e,⟨xs,hq⟩,q⟩:=q1;subst e;cases r1;obtain⟨its,rv,p,hz⟩:=I1.list hq;refine wpAny_pyIter_list p.isList ?_;refine⟨s1.heap.objs.size,[s1.heap.objs.size],_,_,H1,rfl,I1.kept (t':=s1.toks) λb o e=>Wae _ e,Zml a _,⟨_,Wal _ rfl,rfl,rfl⟩,λb hb=>?_,q⟩;have e:b=s1.heap.objs.size:=by simpa using hb
 subst e;exact I1.fpOk (Wah _) (I1.hok.fresh (Wah _))
theorem Zvu {l:Expr}{tl:TE}(hl:PE X l tl):PI X tg l (iTup X.K tl):=by
 intro pins s σ H R I h;refine thn (hl pins s σ H _ I h) λv s1 ⟨x,H1,I1,r1,q1⟩=>?_;obtain⟨a,e,⟨xs,hq⟩,q⟩:=q1;subst e;cases r1;obtain⟨its,rv,p,hz⟩:=I1.tuple hq;refine wpAny_pyIter_tuple (show s1.heap.IsTuple a its.toArray from p) ?_;refine⟨s1.heap.objs.size,[s1.heap.objs.size],_,_,H1,rfl,I1.kept (t':=s1.toks) λb o e=>Wae _ e,Zlv a _,⟨_,Wal _ rfl,rfl,rfl⟩,λb hb=>?_,q⟩;have e:b=s1.heap.objs.size:=by simpa using hb
 subst e;exact I1.fpOk (Wah _) (I1.hok.fresh (Wah _))
theorem range_it {pins:List (Addr × Obj)}{σ:St}{H:Hp}{s:Shared}{R:It->Hp->Prop}{E:Value->Shared->Prop}{lo hi:Int}{t u v:Tok}{tk:Nat}(I:Inv X pins σ H s) (h1:-(2 ^ 62)<=lo) (h2:lo<2 ^ 62) (h3:-(2 ^ 62)<=hi) (h4:hi<2 ^ 62)
  (q:R (Itr lo (hi-lo).toNat) H):wpAny (model X.prog X.w) X.A (pyIter (.ref s.heap.objs.size)) (PIE X pins σ tg R) E { s with heap:=s.heap.push { cls:=.type "range",data:=.fields #[.int lo t,.int hi u,.int 1 v] },toks:=tk }:=by
 refine wpAny_pyIter_range (IsRange.new ..) (small_one h1 h2 h3 h4) ?_;have I1:Inv X pins σ H { s with heap:=s.heap.push { cls:=.type "range",data:=.fields #[.int lo t,.int hi u,.int 1 v] },toks:=tk }:=I.kept λb o e=>Wae _ e;refine⟨(s.heap.push { cls:=.type "range",data:=.fields #[.int lo t,.int hi u,.int 1 v] }).objs.size,[(s.heap.push { cls:=.type "range",data:=.fields #[.int lo t,.int hi u,.int 1 v] }).objs.size],_,_,H,rfl,
  I1.kept (t':=tk) λb o e=>Wae _ e,Zlr _ lo (hi-lo).toNat,?_,λb hb=>?_,q⟩
 ·have e1:lo+((0:Nat):Int)*1=lo:=by simp
  have e2:(((hi-lo).toNat:Nat):Int)-((0:Nat):Int)=Builtin.Range.rangeSize lo hi 1:=by rw[rangeSize_one];split <;> omega
  show IsRangeIter _ _ (lo+((0:Nat):Int)*1) ((((hi-lo).toNat:Nat):Int)-((0:Nat):Int)) 1;rw[e1,e2];exact Wal _ rfl
 ·have e:b=(s.heap.push { cls:=.type "range",data:=.fields #[.int lo t,.int hi u,.int 1 v] }).objs.size:=by simpa using hb
  subst e;exact I1.fpOk (Wah _) (I1.hok.fresh (Wah _))
def iRng1 (ta:TA):TI:=λσ H R=>ta σ H λvs H1=>∃j:Int,vs=[.int j] /\ -(2 ^ 62)<=j/\j<2 ^ 62/\R (Itr 0 j.toNat) H1
theorem Za6 {a:Expr}{ta:TA}{p pos:Pos}(hg:Gl X "range") (hm:X.mg "range" = none) (ha:PA X [a] ta) (hs:starEach [a] X.env=[(false,eval a X.env)]:=by rfl):PI X tg (.Call (.Name "range" p) [a] [] pos) (iRng1 ta):=by
 intro pins s σ H R I h;refine Call_ (Zdl I hg hm boot_range (PyProof.Rows.callWith_type1 (thn (ha pos pins s σ H _ I h) λus s1 ⟨vs,H1,I1,r1,q1⟩=>?_) hs rfl));obtain⟨j,e,q1,q2,q⟩:=q1;subst e;cases r1 with
 |cons r rr=>
  cases rr;obtain⟨t,rfl⟩:=r;exact call_range_1 (range_it I1 (by omega) (by omega) q1 q2 (by simpa using q))
def tFor (wi:TI) (g:TG) (tb:TS):TS:=λD σ H=>wi σ H λJ H1=>∃W:Nat->Nat->St->Hp->Prop,(∃m,W 0 m σ H1)/\∀i m σ H,W i m σ H →
 (J.stop i H/\D.nx σ H)\/(J.go i H/\∃N:St->Hp->Prop,(∀σ' H',N σ' H' -> ∃m',m'<m/\W (i+1) m' σ' H')/\∀x H',J.yld i H x H' -> g x σ H' λσ2 H2=>tb { D with nx:=N,ct:=N,bk:=D.nx } σ2 H2)
def pinsAt (fp:List Addr) (h:Heap):List (Addr × Obj):=fp.filterMap λb=>(h.get? b).map λo=>(b,o)
theorem Zcm {fp:List Addr}{h:Heap}{b:Addr}{o:Obj}(hb:b∈fp) (e:h.get? b=some o):(b,o)∈pinsAt fp h:=Wdd.mpr ⟨b,hb,by rw[e];rfl⟩
theorem Zn9 {fp:List Addr}{h:Heap}{p:Addr × Obj}(hp:p∈pinsAt fp h):p.1∈fp/\h.get? p.1=some p.2:=by
 obtain⟨b,hb,e⟩:=Wdd.mp hp;cases q:h.get? b with
 |none=>rw[q]at e;cases e
 |some o=>
  rw[q]at e;have e':(b,o)=p:=Wa4.inj e;subst e';exact⟨hb,q⟩
theorem Inv.pinned {pins:List (Addr × Obj)}{σ:St}{H:Hp}{s:Shared}{fp:List Addr}(I:Inv X pins σ H s) (hf:∀b∈fp,FpOk X pins H b) (ho:∀b∈fp,∃o,s.heap.get? b=some o/\∀v,o.data≠.cell v):Inv X (pins++pinsAt fp s.heap) σ H s:=
 I.pins_of λp hp=>(Wbl.mp hp).elim (λz=>I.pin p (Wa8 _ z)) λz=>by
  obtain⟨hb,e⟩:=Zn9 z;obtain⟨f0,f1,f2,_⟩:=hf p.1 hb;obtain⟨o,e',d⟩:=ho p.1 hb;rw[e]at e';cases e';exact⟨e,f0,f1,f2,d⟩
theorem Inv.unpinned {pins pl:List (Addr × Obj)}{σ:St}{H:Hp}{s:Shared}(I:Inv X (pins++pl) σ H s):Inv X pins σ H s:=I.pins_of λp hp=>I.pin p (Wa8 _ (Wbj _ hp))
theorem Zcu {iter:Expr}{body:List Stmt}{wi:TI}{g:TG}{tb:TS}{pos:Pos}(hp:PassesOwn (model X.prog X.w) X.A X.env X.xe) (hc:X.calm=true) (hi:PI X tg iter wi) (hg:PG X tg g) (hb:PSs X body tb)
  (hs:∀x,foldedSetIterable iter X.env x=pure x:=by intro _;rfl):PS X (.For tg iter body [] pos) (tFor wi g tb):=by
 intro pins s σ H D I h;refine wpAny_For (thn (hi pins s σ H _ I h) λv s1 h1=>thn h1 λitv s2 h2=>?_) hs;obtain⟨it,fp,tn,J,H2,e,I2,T,st2,f2,W,⟨m0,w0⟩,turn⟩:=h2;subst e
 -- what stays true of the iterator's objects through the loop
 have stat:∀{H':Hp},(∀b∈fp,H' b=none)->∀b∈fp,FpOk X pins H' b:=λhn b hb=>⟨hn b hb,(f2 b hb).2⟩;refine codeAny_forLoop_any (λn s'=>∃i σ' H',Inv X pins σ' H' s' /\ tn i s'.heap/\(∀b∈fp,H' b=none)/\W i n σ' H') ?_ m0 ⟨0,σ,H2,I2,st2,λb hb=>(f2 b hb).1,w0⟩;rintro n s3 ⟨i,σ3,H3,I3,st3,fr3,w3⟩;rcases turn i n σ3 H3 w3 with ⟨stop,qn⟩|⟨go,N,hN,step⟩
 ·refine wpAny_passesOwn hp (thn (T.done X rfl rfl rfl hc i pins s3 σ3 H3 X.xe I3 (stat fr3) st3 stop) λr s4 ⟨hr,I4⟩=>?_)
  subst hr;exact wpAny_execs_nil ⟨σ3,H3,I4,qn⟩
 ·refine wpAny_passesOwn hp (thn (T.item X rfl rfl rfl hc i pins s3 σ3 H3 X.xe I3 (stat fr3) st3 go) λr s4 ⟨u,hr,h4⟩=>?_)
  subst hr;refine wpAny_passesOwn hp (thn h4 λ_ s5 ⟨x,H5,I5,r5,y5,st5,fr5⟩=>?_);have I5':=I5.pinned (stat fr5) (T.obj _ _ st5);refine wpAny_passesOwn hp (thn (hg _ s5 σ3 H5 x u _ I5' r5 (step x H5 y5)) λ_ s6 ⟨σ6,H6,I6,q6⟩=>?_);refine wpAny_passesOwn hp (thn (hb _ s6 σ6 H6 _ I6 q6) λf s7 q7=>?_);have again:∀{σ7:St}{H7:Hp},Inv X (pins++pinsAt fp s5.heap) σ7 H7 s7->N σ7 H7->∃m,m<n/\∃i σ' H',Inv X pins σ' H' s7/\tn i s7.heap/\(∀b∈fp,H' b=none)/\W i m σ' H':=λ{σ7 H7} I7 n7=>by
   obtain⟨m',hm,w7⟩:=hN σ7 H7 n7;refine⟨m',hm,i+1,σ7,H7,I7.unpinned,T.keep _ _ _ st5 λb hb o e=>(I7.pin (b,o) (Wa8 _ (Wa8 _ (Zcm hb e)))).1,λb hb=>?_,w7⟩;obtain⟨o,e,d⟩:=T.obj _ _ st5 b hb;exact(I7.pin (b,o) (Wa8 _ (Wa8 _ (Zcm hb e)))).2.1
  cases f with
  |next=>obtain⟨σ7,H7,I7,n7⟩:=q7;exact again I7 n7
  |cont=>obtain⟨σ7,H7,I7,n7⟩:=q7;exact again I7 n7
  |brk=>obtain⟨σ7,H7,I7,q7⟩:=q7;exact⟨σ7,H7,I7.unpinned,q7⟩
  |ret v=>obtain⟨x7,σ7,H7,I7,r7,q7⟩:=q7;exact⟨x7,σ7,H7,I7.unpinned,r7,q7⟩
end
end L2
namespace L2
open PySem PySem.Spec PyProof.Rows
abbrev R2:=V->V->Hp->VK->Prop
def OpR (X:Cx) (f:Value->Value->Sem Value) (r:R2):Prop:=
 ∀(pins:List (Addr × Obj)) (s:Shared) (σ:St) (H:Hp) (x y:V) (v u:Value) (Q:VK),Inv X pins σ H s->RelV x v->RelV y u->r x y H Q →
  wpAny (model X.prog X.w) X.A (f v u) (EP X pins σ Q) X.xe s
def UnR (X:Cx) (f:Value->Sem Value) (r:V->Hp->VK->Prop):Prop:=
 ∀(pins:List (Addr × Obj)) (s:Shared) (σ:St) (H:Hp) (x:V) (v:Value) (Q:VK),Inv X pins σ H s->RelV x v->r x H Q →
  wpAny (model X.prog X.w) X.A (f v) (EP X pins σ Q) X.xe s
def CallR (X:Cx) (f:Value) (r:List V->Hp->VK->Prop):Prop:=
 ∀(pins:List (Addr × Obj)) (s:Shared) (σ:St) (H:Hp) (xs:List V) (us:List Value) (Q:VK),Inv X pins σ H s->Vals xs us->r xs H Q →
  wpAny (model X.prog X.w) X.A (call f us) (EP X pins σ Q) X.xe s
def TruR (X:Cx) (r:V->Hp->(Bool->Hp->Prop)->Prop):Prop:=
 ∀(pins:List (Addr × Obj)) (s:Shared) (σ:St) (H:Hp) (x:V) (v:Value) (Q:Bool->Hp->Prop),Inv X pins σ H s->RelV x v->r x H Q →
  wpAny (model X.prog X.w) X.A (truthy v) (TP X pins σ Q) X.xe s
def tOp (r:R2) (ta tb:TE):TE:=λσ H Q=>ta σ H λx H1=>tb σ H1 λy H2=>r x y H2 Q
def tUn (r:V->Hp->VK->Prop) (ta:TE):TE:=λσ H Q=>ta σ H λx H1=>r x H1 Q
def rI (C:Int->Int->Prop) (g:Int->Int->V):R2:=λx y H Q=>∃i j,x=.int i/\y=.int j/\C i j/\Q (g i j) H
def rI0 (g:Int->Int->V):R2:=λx y H Q=>∃i j,x=.int i/\y=.int j/\Q (g i j) H
def rU (g:Int->V):V->Hp->VK->Prop:=λx H Q=>∃i,x=.int i/\Q (g i) H
section
variable {X:Cx}{a b c:Expr}{ta tb tc:TE}{pos:Pos}
theorem binT (ha:PE X a ta) (hb:PE X b tb) {pins:List (Addr × Obj)}{s:Shared}{σ:St}{H:Hp}{R:V->V->Hp->Prop}(I:Inv X pins σ H s)
  (h:ta σ H λx H1=>tb σ H1 λy H2=>R x y H2) {Q:Value->Shared->Prop}{f:Value->Value->Sem Value}
  (hf:∀v u s2 x y H2,Inv X pins σ H2 s2->RelV x v->RelV y u->R x y H2->wpAny (model X.prog X.w) X.A (f v u) Q X.xe s2) :
  wpAny (model X.prog X.w) X.A (eval a X.env) (λv s₁=>wpAny (model X.prog X.w) X.A (eval b X.env) (λu s₂=>wpAny (model X.prog X.w) X.A (f v u) Q X.xe s₂) X.xe s₁) X.xe s:=by
 refine thn (ha pins s σ H _ I h) λv s1 ⟨x,H1,I1,r1,q1⟩=>?_;refine thn (hb pins s1 σ H1 _ I1 q1) λu s2 ⟨y,H2,I2,r2,q2⟩=>?_;exact hf v u s2 x y H2 I2 r1 r2 q2
theorem Zaw {op:Operator}{r:R2}(ho:OpR X (binaryOp op) r) (ha:PE X a ta) (hb:PE X b tb):PE X (.BinOp a op b pos) (tOp r ta tb):=by
 intro pins s σ H Q I h;exact wpAny_BinOp (binT ha hb I h λv u s2 x y H2 I2 rx ry q=>ho pins s2 σ H2 x y v u Q I2 rx ry q)
theorem Zv5 {op:UnaryOp}{r:V->Hp->VK->Prop}(ho:UnR X (unaryOp op) r) (ha:PE X a ta):PE X (.UnaryOp op a pos) (tUn r ta):=by
 intro pins s σ H Q I h;exact UnaryOp_ (thn (ha pins s σ H _ I h) λv s1 ⟨x,H1,I1,r1,q1⟩=>ho pins s1 σ H1 x v Q I1 r1 q1)
theorem opI {f:Value->Value->Sem Value}{C:Int->Int->Prop}{g:Int->Int->Int}
  (rule:∀(i j:Int) (t u:Tok) (s:Shared) (Q:Value->Shared->Prop) (E:Value->Shared->Prop),C i j->Q (.int (g i j) s.toks) { s with toks:=s.toks+1 } -> wpAny (model X.prog X.w) X.A (f (.int i t) (.int j u)) Q E s) :
  OpR X f (rI C λi j=>.int (g i j)):=by
 intro pins s σ H x y v u Q I rx ry h;obtain⟨i,j,rfl,rfl,hc,q⟩:=h;obtain⟨t,rfl⟩:=rx;obtain⟨t',rfl⟩:=ry;exact rule i j t t' s _ _ hc ⟨.int (g i j),H,I.tok _,⟨_,rfl⟩,q⟩
theorem opI0 {f:Value->Value->Sem Value}{g:Int->Int->Int}
  (rule:∀(i j:Int) (t u:Tok) (s:Shared) (Q:Value->Shared->Prop) (E:Value->Shared->Prop),Q (.int (g i j) s.toks) { s with toks:=s.toks+1 } -> wpAny (model X.prog X.w) X.A (f (.int i t) (.int j u)) Q E s) :
  OpR X f (rI0 λi j=>.int (g i j)):=by
 intro pins s σ H x y v u Q I rx ry h;obtain⟨i,j,rfl,rfl,q⟩:=h;obtain⟨t,rfl⟩:=rx;obtain⟨t',rfl⟩:=ry;exact rule i j t t' s _ _ ⟨.int (g i j),H,I.tok _,⟨_,rfl⟩,q⟩
theorem opB0 {f:Value->Value->Sem Value}{g:Int->Int->Bool}
  (rule:∀(i j:Int) (t u:Tok) (s:Shared) (Q:Value->Shared->Prop) (E:Value->Shared->Prop),Q (.bool (g i j)) s->wpAny (model X.prog X.w) X.A (f (.int i t) (.int j u)) Q E s) :
  OpR X f (rI0 λi j=>.bl (g i j)):=by
 intro pins s σ H x y v u Q I rx ry h;obtain⟨i,j,rfl,rfl,q⟩:=h;obtain⟨t,rfl⟩:=rx;obtain⟨t',rfl⟩:=ry;exact rule i j t t' s _ _ ⟨.bl (g i j),H,I,rfl,q⟩
def CDiv (i j:Int):Prop:=0<j/\j<1073741824
def CPow (i j:Int):Prop:=0<=j/\j<=1000000/\i.natAbs<2 ^ 64
def CMul (i j:Int):Prop:=(-(2 ^ 64)<i/\i<2 ^ 64)\/(-(2 ^ 64)<j/\j<2 ^ 64)
theorem CMul.ok {i j:Int}(h:CMul i j):IntMulOk i j:=by
 rcases h with ⟨h1,h2⟩|⟨h1,h2⟩
 ·exact .of_left (intBits_le_64 h1 h2)
 ·exact .of_right (intBits_le_64 h1 h2)
theorem Zt6:OpR X (binaryOp .Add) (rI0 λi j=>.int (i+j)):=opI0 λ_ _ _ _ _ _ _ q=>add_int q
theorem Zq5:OpR X (binaryOp .Sub) (rI0 λi j=>.int (i-j)):=opI0 λ_ _ _ _ _ _ _ q=>sub_int q
theorem Zdp:OpR X (binaryOp .Mult) (rI CMul λi j=>.int (i*j)):=opI λ_ _ _ _ _ _ _ hc q=>mul_int q hc.ok
theorem Zep:OpR X (binaryOp .FloorDiv) (rI CDiv λi j=>.int (i / j)):=opI λi j _ _ _ _ _ hc q=>by
 have h1:(0:Int)<j:=hc.1;have h2:j<1073741824:=hc.2;exact floordiv_int (by omega) (by rw[Int.fdiv_eq_ediv_of_nonneg i (by omega)];exact q) (.inl (PyProof.noPylong_small (by omega)))
theorem Zca:OpR X (binaryOp .Mod) (rI (λ_ j=>0<j) λi j=>.int (i % j)):=opI λi j _ _ _ _ _ hc q=>by
 have h1:(0:Int)<j:=hc;exact mod_int' (by omega) (by rw[Int.fmod_eq_emod_of_nonneg i (by omega)];exact q)
theorem Zu6:OpR X (binaryOp .Pow) (rI CPow λi j=>.int (i ^ j.toNat)):=opI λ_ _ _ _ _ _ _ hc q=>pow_int_small hc.1 hc.2.1 hc.2.2 q
theorem Zrr:OpR X (binaryOp .BitXor) (rI0 λi j=>.int (Builtin.bitXor i j)):=opI0 λ_ _ _ _ _ _ _ q=>xor_int q
theorem unI {f:Value->Sem Value}{g:Int->Int}
  (rule:∀(i:Int) (t:Tok) (s:Shared) (Q:Value->Shared->Prop) (E:Value->Shared->Prop),Q (.int (g i) s.toks) { s with toks:=s.toks+1 } -> wpAny (model X.prog X.w) X.A (f (.int i t)) Q E s) :
  UnR X f (rU λi=>.int (g i)):=by
 intro pins s σ H x v Q I rx h;obtain⟨i,rfl,q⟩:=h;obtain⟨t,rfl⟩:=rx;exact rule i t s _ _ ⟨.int (g i),H,I.tok _,⟨_,rfl⟩,q⟩
theorem Zvt:UnR X (unaryOp .USub) (rU λi=>.int (-i)):=unI λ_ _ _ _ _ q=>neg_int q
end
def scal:V->V->Bool
 |.non,.non=>true|.non,.int _=>true|.int _,.non=>true|.non,.bl _=>true|.bl _,.non=>true|.non,.str _=>true|.str _,.non=>true
 |.int _,.int _=>true|.bl _,.bl _=>true|.str _,.str _=>true|.byt _,.byt _=>true
 |.int _,.str _=>true|.str _,.int _=>true|.bl _,.str _=>true|.str _,.bl _=>true
 |_,_=>false
def rEq:R2:=λx y H Q=>scal x y=true/\Q (.bl (decide (x=y))) H
def rNe:R2:=λx y H Q=>scal x y=true/\Q (.bl (!decide (x=y))) H
theorem Zhm {i j:Int}:decide (V.int i=V.int j)=(i == j):=by
 rw[Wcb];simp
theorem Zri {i j:Bool}:decide (V.bl i=V.bl j)=(i == j):=by
 rw[Wcb];simp
theorem Zl8 {i j:Str}:decide (V.str i=V.str j)=(i == j):=by
 rw[Wcb];simp
theorem Zmm {i j:Array UInt8}:decide (V.byt i=V.byt j)=(i.toList == j.toList):=by
 rw[Wcb];cases i;cases j;simp
section
variable {X:Cx}{a b c:Expr}{ta tb tc:TE}{pos:Pos}
theorem Zbf {pins:List (Addr × Obj)}{σ:St}{H:Hp}{s:Shared}{Q:VK}{k k':Bool}(I:Inv X pins σ H s) (q:Q (.bl k) H) (e:k=k'):EP X pins σ Q (.bool k') s:=by
 subst e;exact⟨.bl k,H,I,rfl,q⟩
theorem Zv4:OpR X (compareOp .Eq) rEq:=by
 intro pins s σ H x y v u Q I rx ry h;obtain⟨hs,q⟩:=h;cases x with
 |non=>
  cases rx;cases y with
  |non=>cases ry;exact PySem.EqNone.eq_none_none (Zbf I q (by simp))
  |bl j=>cases ry;exact PySem.EqNone.eq_none_bool (Zbf I q (by simp))
  |int j=>obtain⟨t',rfl⟩:=ry;exact PySem.EqNone.eq_none_int (Zbf I q (by simp))
  |str j=>obtain⟨t',rfl⟩:=ry;exact PySem.EqNone.eq_none_str (Zbf I q (by simp))
  |_=>exact absurd (show false=true from hs) Was
 |bl i=>
  cases rx;cases y with
  |non=>cases ry;exact PySem.EqNone.eq_bool_none (Zbf I q (by simp))
  |bl j=>cases ry;exact eq_bool (Zbf I q Zri)
  |str j=>obtain⟨t',rfl⟩:=ry;exact PySem.EqMixed.eq_bool_str (Zbf I q (by simp))
  |_=>exact absurd (show false=true from hs) Was
 |int i=>
  obtain⟨t,rfl⟩:=rx;cases y with
  |non=>cases ry;exact PySem.EqNone.eq_int_none (Zbf I q (by simp))
  |int j=>obtain⟨t',rfl⟩:=ry;exact eq_int (Zbf I q Zhm)
  |str j=>obtain⟨t',rfl⟩:=ry;exact PySem.EqMixed.eq_int_str (Zbf I q (by simp))
  |_=>exact absurd (show false=true from hs) Was
 |str i=>
  obtain⟨t,rfl⟩:=rx;cases y with
  |non=>cases ry;exact PySem.EqNone.eq_str_none (Zbf I q (by simp))
  |bl j=>cases ry;exact PySem.EqMixed.eq_str_bool (Zbf I q (by simp))
  |int j=>obtain⟨t',rfl⟩:=ry;exact PySem.EqMixed.eq_str_int (Zbf I q (by simp))
  |str j=>obtain⟨t',rfl⟩:=ry;exact eq_str (Zbf I q Zl8)
  |_=>exact absurd (show false=true from hs) Was
 |byt i=>
  obtain⟨t,rfl⟩:=rx;cases y with
  |byt j=>obtain⟨t',rfl⟩:=ry;exact PySem.W.eq_bytes (Zbf I q Zmm)
  |_=>exact absurd (show false=true from hs) Was
 |_=>cases y <;> exact absurd (show false=true from hs) Was
theorem Zv8:OpR X (compareOp .NotEq) rNe:=by
 intro pins s σ H x y v u Q I rx ry h;obtain⟨hs,q⟩:=h;cases x with
 |non=>
  cases rx;cases y with
  |non=>cases ry;exact PySem.EqNone.ne_none_none (Zbf I q (by simp))
  |bl j=>cases ry;exact PySem.EqNone.ne_none_bool (Zbf I q (by simp))
  |int j=>obtain⟨t',rfl⟩:=ry;exact PySem.EqNone.ne_none_int (Zbf I q (by simp))
  |str j=>obtain⟨t',rfl⟩:=ry;exact PySem.EqNone.ne_none_str (Zbf I q (by simp))
  |_=>exact absurd (show false=true from hs) Was
 |bl i=>
  cases rx;cases y with
  |non=>cases ry;exact PySem.EqNone.ne_bool_none (Zbf I q (by simp))
  |bl j=>cases ry;exact ne_bool (Zbf I q (congrArg not Zri))
  |str j=>obtain⟨t',rfl⟩:=ry;exact PySem.EqMixed.ne_bool_str (Zbf I q (by simp))
  |_=>exact absurd (show false=true from hs) Was
 |int i=>
  obtain⟨t,rfl⟩:=rx;cases y with
  |non=>cases ry;exact PySem.EqNone.ne_int_none (Zbf I q (by simp))
  |int j=>obtain⟨t',rfl⟩:=ry;exact ne_int (Zbf I q (congrArg not Zhm))
  |str j=>obtain⟨t',rfl⟩:=ry;exact PySem.EqMixed.ne_int_str (Zbf I q (by simp))
  |_=>exact absurd (show false=true from hs) Was
 |str i=>
  obtain⟨t,rfl⟩:=rx;cases y with
  |non=>cases ry;exact PySem.EqNone.ne_str_none (Zbf I q (by simp))
  |bl j=>cases ry;exact PySem.EqMixed.ne_str_bool (Zbf I q (by simp))
  |int j=>obtain⟨t',rfl⟩:=ry;exact PySem.EqMixed.ne_str_int (Zbf I q (by simp))
  |str j=>obtain⟨t',rfl⟩:=ry;exact ne_str (Zbf I q (congrArg not Zl8))
  |_=>exact absurd (show false=true from hs) Was
 |byt i=>
  obtain⟨t,rfl⟩:=rx;cases y with
  |byt j=>obtain⟨t',rfl⟩:=ry;exact PySem.W.ne_bytes (Zbf I q (congrArg not Zmm))
  |_=>exact absurd (show false=true from hs) Was
 |_=>cases y <;> exact absurd (show false=true from hs) Was
theorem Ztx:OpR X (compareOp .Lt) (rI0 λi j=>.bl (decide (i<j))):=opB0 λ_ _ _ _ _ _ _ q=>lt_int q
theorem Zp5:OpR X (compareOp .Gt) (rI0 λi j=>.bl (decide (j<i))):=opB0 λ_ _ _ _ _ _ _ q=>gt_int q
theorem Zwd:OpR X (compareOp .GtE) (rI0 λi j=>.bl (decide (j<=i))):=opB0 λ_ _ _ _ _ _ _ q=>ge_int q
theorem Znl:OpR X (compareOp .IsNot) (λx y H Q=>y=.non/\Q (.bl (!decide (x=.non))) H):=by
 intro pins s σ H x y v u Q I rx ry h;obtain⟨rfl,q⟩:=h;cases ry;refine isnot_none_gen (Zbf I q ?_);cases x <;> first
  | (cases rx;rfl)
  | (obtain⟨t,rfl⟩:=rx;rfl)
theorem OpR.or {f:Value->Value->Sem Value}{r r':R2}(h:OpR X f r) (h':OpR X f r'):OpR X f (λx y H Q=>r x y H Q\/r' x y H Q):=by
 intro pins s σ H x y v u Q I rx ry q;rcases q with q|q
 ·exact h pins s σ H x y v u Q I rx ry q
 ·exact h' pins s σ H x y v u Q I rx ry q
theorem nomark (b:Expr) {op:CmpOp}(h:op≠.In:=by decide) (h2:op≠.NotIn:=by decide):behindInMarks op b=false:=by
 have e1:(op == CmpOp.In)=false:=by cases op <;> first|rfl|exact absurd rfl h
 have e2:(op == CmpOp.NotIn)=false:=by cases op <;> first|rfl|exact absurd rfl h2
 cases b <;> simp[behindInMarks,e1,e2]
theorem Ztp {op:CmpOp}{r:R2}(ho:OpR X (compareOp op) r) (ha:PE X a ta) (hb:PE X b tb) (hm:behindInMarks op b=false):PE X (.Compare a [op] [b] pos) (tOp r ta tb):=by
 intro pins s σ H Q I h;exact wpAny_Compare1 (binT ha hb I h λv u s2 x y H2 I2 rx ry q=>ho pins s2 σ H2 x y v u Q I2 rx ry q) hm
def tTest (t:TE):TT:=λσ H Q=>t σ H λx H'=>∃k,x=.bl k/\Q k H'
theorem Zaq {op:CmpOp}{r:R2}(ho:OpR X (compareOp op) r) (ha:PE X a ta) (hb:PE X b tb) (hm:behindInMarks op b=false):PT X (.Compare a [op] [b] pos) (tTest (tOp r ta tb)):=by
 intro pins s σ H Q I h;refine wpAny_isTrue_Compare1 (thn (ha pins s σ H _ I h) λv s1 ⟨x,H1,I1,r1,q1⟩=>thn (hb pins s1 σ H1 _ I1 q1) λu s2 ⟨y,H2,I2,r2,q2⟩=>
  thn (ho pins s2 σ H2 x y v u _ I2 r1 r2 q2) λc s3 ⟨z,H3,I3,r3,k,e,q3⟩=>?_) hm
 subst e;cases r3;exact wpAny_truthy_bool ⟨H3,I3,q3⟩
def TruV (K:W.Frag) (x:V) (H:Hp) (k:Bool):Prop:=
 match x with
 |.non=>k=false
 |.bl b=>k=b
 |.int i=>k=(i != 0)
 |.str y=>y.length<=sizeLine/\k=((y.length:Int) != 0)
 |.byt y=>y.size<=sizeLine/\k=((y.size:Int) != 0)
 |.ref p=>(∃xs,SqL K H p xs/\k = !xs.isEmpty)\/(∃xs,SqT K H p xs/\k = !xs.isEmpty)\/∃kvs,H p=some (.dK kvs)/\k = !kvs.isEmpty
 |_=>False
theorem Zk3 {κ:Type}{kvs:List (κ × V)}{vs:List (κ × Value)}(r:KV kvs vs):(!vs.isEmpty) = !kvs.isEmpty:=by
 cases r <;> rfl
theorem Zgu {xs:List V}{its:List Value}(r:Vals xs its):(!its.toArray.isEmpty) = !xs.isEmpty:=by
 cases r <;> simp
theorem line63:(sizeLine:Nat)<2 ^ 63:=by rw[sizeLine_eq];decide
theorem Zu3:TruR X (λx H Q=>∃k,TruV X.K x H k/\Q k H):=by
 intro pins s σ H x v Q I rx h;obtain⟨k,e,q⟩:=h;have hl:=line63;have hs:sizeLine=16777216:=sizeLine_eq;cases x with
 |non=>
  cases rx;have e':k=false:=e;subst e';exact truthy_none ⟨H,I,q⟩
 |bl b=>
  cases rx;have e':k=b:=e;subst e';exact wpAny_truthy_bool ⟨H,I,q⟩
 |int i=>
  obtain⟨t,rfl⟩:=rx;have e':k=(i != 0):=e;subst e';exact PySem.P.truthy_int ⟨H,I,q⟩
 |str y=>
  obtain⟨t,rfl⟩:=rx;obtain⟨hy,e'⟩:y.length<=sizeLine/\k=((y.length:Int) != 0):=e;subst e';exact PySem.P.truthy_str (by omega) ⟨H,I.tok _,q⟩
 |byt y=>
  obtain⟨t,rfl⟩:=rx;obtain⟨hy,e'⟩:y.size<=sizeLine/\k=((y.size:Int) != 0):=e;subst e';exact PySem.W.truthy_bytes (by omega) ⟨H,I.tok _,q⟩
 |ref p=>
  cases rx;have e':(∃xs,SqL X.K H p xs/\k = !xs.isEmpty)\/(∃xs,SqT X.K H p xs/\k = !xs.isEmpty)\/∃kvs,H p=some (.dK kvs)/\k = !kvs.isEmpty:=e;rcases e' with ⟨xs,hx,e'⟩|⟨xs,hx,e'⟩|⟨kvs,hx,e'⟩
  ·subst e'
   obtain⟨its,r,pl,hz⟩:=I.list hx;have hlen:=r.length;exact wpAny_truthy_list pl.isList (by simp only[Wag];omega) ⟨H,I.tok _,by rw[Zgu r];exact q⟩
  ·subst e'
   obtain⟨its,r,pl,hz⟩:=I.tuple hx;have hlen:=r.length;exact truthy_tuple pl (by simp only[Wag];omega) ⟨H,I.tok _,by rw[Zgu r];exact q⟩
  ·subst e'
   obtain⟨hz,hS,vs,r,m⟩:kvs.length<=sizeLine/\(p == sysModules)=false/\∃vs,KV kvs vs/\s.heap.DictOf (mixKind X.prog X.w) p vs:=I.hok p _ hx;have hlen:kvs.length=vs.length:=Paired.length r;exact wpAny_truthy_dict hS m (by omega) ⟨H,I.tok _,by rw[Zk3 r];exact q⟩
 |_=>exact(show False from e).elim
theorem Zp0 (ha:PE X a ta) (he:∀whole,isTrue a X.env whole=(do let v ← whole;standAt a.pos;holding [v] (truthy v))) :
  PT X a (λσ H Q=>ta σ H λx H'=>∃k,TruV X.K x H' k/\Q k H'):=by
 intro pins s σ H Q I h;exact isTrue_plain (thn (ha pins s σ H _ I h) λv s1 ⟨x,H1,I1,r1,q1⟩=>Zu3 pins s1 σ H1 x v Q I1 r1 q1) (he _)
theorem vals1 {x:V}{us:List Value}(r:Vals [x] us):∃u,us=[u]/\RelV x u:=by
 cases r with
 |cons r1 r2=>cases r2;exact⟨_,rfl,r1⟩
theorem vals2 {x y:V}{us:List Value}(r:Vals [x,y] us):∃u w',us=[u,w']/\RelV x u/\RelV y w':=by
 cases r with
 |cons r1 r2=>
  cases r2 with
  |cons r3 r4=>cases r4;exact⟨_,_,rfl,r1,r3⟩
theorem Zg2:CallR X (.builtin "abs") (λxs H Q=>∃i,xs=[.int i]/\Q (.int (if i<0 then -i else i)) H):=by
 intro pins s σ H xs us Q I r h;obtain⟨i,rfl,q⟩:=h;obtain⟨u,rfl,t,rfl⟩:=vals1 r;exact call_abs_int λu tk=>⟨.int (if i<0 then -i else i),H,I.tok _,⟨_,rfl⟩,q⟩
theorem Zfm (hc:X.calm=true):CallR X (.builtin "max") (λxs H Q=>∃i j,xs=[.int i,.int j]/\Q (.int (if j > i then j else i)) H):=by
 intro pins s σ H xs us Q I r h;obtain⟨i,j,rfl,q⟩:=h;obtain⟨u,w',rfl,⟨t,rfl⟩,⟨t',rfl⟩⟩:=vals2 r;refine max_two_ints (I.ok.hd hc) λh' tk k=>⟨_,H,I.kept k,?_,q⟩;by_cases hj:j > i
 ·rw[if_pos hj,if_pos hj];exact⟨_,rfl⟩
 ·rw[if_neg hj,if_neg hj];exact⟨_,rfl⟩
theorem Zfr (hc:X.calm=true):CallR X (.builtin "min") (λxs H Q=>∃i j,xs=[.int i,.int j]/\Q (.int (if j<i then j else i)) H):=by
 intro pins s σ H xs us Q I r h;obtain⟨i,j,rfl,q⟩:=h;obtain⟨u,w',rfl,⟨t,rfl⟩,⟨t',rfl⟩⟩:=vals2 r;refine min_two_ints (I.ok.hd hc) λh' tk k=>⟨_,H,I.kept k,?_,q⟩;by_cases hj:j<i
 ·rw[if_pos hj,if_pos hj];exact⟨_,rfl⟩
 ·rw[if_neg hj,if_neg hj];exact⟨_,rfl⟩
end
end L2
namespace L2
open PySem PySem.Spec PyProof.Rows
structure ObjM (h:Heap) (x dx C:Addr) (mA:Str->Option Value):Prop where
 obj:h.get? x=some (PySem.W.instObj C dx)
 ns:h.Ns1 dx mA
 ne:dx≠x
theorem Znr {h:Heap}{dx:Addr}{mA:Str->Option Value}(n:h.Ns1 dx mA):∃od,h.get? dx=some od/\∀name,PySem.W.lookIn name od=some (mA name):=by
 obtain⟨o,es,ep,ho,hd,hk,_,hm⟩:=n;refine⟨o,ho,λname=>?_⟩;have e:=hm name;unfold nsFind findBy at e;rw[<- Array.find?_toList]at e;unfold PySem.W.lookIn;rw[hd];dsimp only;split
 ·rename_i y q
  rw[q]at e;exact congrArg some e
 ·rename_i q
  rw[q]at e;have a:es.toList.any (·.refKey)=false:=by
   rw[List.any_eq_false];intro y hy;obtain⟨z,t,hkey⟩:=hk y (Array.mem_toList_iff.mp hy);simp[DictEntry.refKey,hkey]
  have a':¬ es.toList.any (·.refKey)=true:=by rw[a];exact Was
  rw[if_neg a'];exact congrArg some e
theorem ObjM.look {h:Heap}{x dx C:Addr}{mA:Str->Option Value}(I:ObjM h x dx C mA):∃od,PySem.W.InstAt h x (PySem.W.instObj C dx) C (some od)/\∀name,PySem.W.lookIn name od=some (mA name):=
 let ⟨od,ho,hl⟩:=Znr I.ns
 ⟨od,⟨I.obj,rfl,rfl,ho⟩,hl⟩
theorem RelO.some_of {v:V}{o:Option Value}(r:RelO (some v) o):∃u,o=some u/\RelV v u:=by
 cases o with
 |none=>exact(show False from r).elim
 |some u=>exact⟨u,rfl,r⟩
section
variable {P:Program}{w:World}{H H':Hp}{h h':Heap}{a C dx:Addr}{fs fs':List (Str × V)}
theorem Ztn (hok:HOk P w H h) (e:H a=some (.ins C dx fs)):∃mA,ObjM h a dx C mA/\(∀f,RelO (fs.lookup f) (mA f))/\PySem.Within mA (fs.map (·.1))/\fs.length<=1000/\H dx=some (.own a):=by
 obtain⟨d,z,ne,ob,mA,n,r,q⟩:=(show ObjOk P w H h a (.ins C dx fs) from hok a _ e);exact⟨mA,⟨ob,n,ne⟩,r,q,z,d⟩
end
structure Cls (K:W.Frag) (C:Addr):Prop where
 pg:PySem.W.plainGet K C Str.empty=true
 hd:PySem.W.hasDictIn K C=true
 po:PySem.W.plainOver K C=true
 sa:PySem.W.findIn K (.ref C) "__setattr__" = some (some (.builtin "object.__setattr__"))
theorem Cls.get {K:W.Frag}{C:Addr}(c:Cls K C) (f:Str):PySem.W.plainGet K C f=true:=c.pg
section
variable {X:Cx}{pins:List (Addr × Obj)}{σ:St}{H:Hp}{s:Shared}{a C dx:Addr}{fs:List (Str × V)}{f:Str}{v:V}{A:Around}{E:Value->Shared->Prop}
end
section
variable {X:Cx}{pins:List (Addr × Obj)}{σ:St}{H:Hp}{s:Shared}{A:Around}{E:Value->Shared->Prop}{Q:Value->Shared->Prop}{c:Value}{b:Bool}
inductive TyOf (K:W.Frag) (H:Hp):V->Value->Prop where
 |non:TyOf K H .non (.type "NoneType")
 |bl (x:Bool):TyOf K H (.bl x) (.type "bool")
 |int (i:Int):TyOf K H (.int i) (.type "int")
 |str (x:Str):TyOf K H (.str x) (.type "str")
 |flt (x:UInt64):TyOf K H (.flt x) (.type "float")
 |lst {a:Addr}{xs:List V}(e:H a=some (.lst xs)):TyOf K H (.ref a) (.type "list")
 |frz {a:Addr}{o:Obj}{xs:List V}(e:H a=some (.frz o (.lst xs))):TyOf K H (.ref a) (.type "list")
 |tup {a:Addr}{xs:List V}(e:H a=some (.tup xs)):TyOf K H (.ref a) (.type "tuple")
 |dK {a:Addr}{kvs:List (Key × V)}(e:H a=some (.dK kvs)):TyOf K H (.ref a) (.type "dict")
 |dT {a:Addr}{kvs:List (List Key × V)}(e:H a=some (.dT kvs)):TyOf K H (.ref a) (.type "dict")
 |ins {a C dx:Addr}{fs:List (Str × V)}(e:H a=some (.ins C dx fs)) (cl:Cls K C) (ha:PySem.W.findIn K (.ref C) "__class__" = some (some (.builtin "object.__class__")))
   (hn:PySem.W.specialIn K (.builtin "object.__class__") "__get__" = some (some (.builtin "getset_descriptor.__get__"))) (htk:PySem.W.takesIn K (.builtin "object.__class__")=some true)
   (hm:PySem.W.mroIn K C (.type "object")=some true):TyOf K H (.ref a) (.ref C)
theorem Zm5 {x:V}{u t:Value}(I:Inv X pins σ H s) (rx:RelV x u) (ty:TyOf X.K H x t) (e:PySem.W.kitOne X.K t c=some b) (h:∀tk,Q (.bool b) { s with toks:=tk }) :
  wpAny (model X.prog X.w) A (call (.builtin "isinstance") [u,c]) Q E s:=by
 cases ty with
 |non=>cases (show u=Value.none from rx);exact PySem.W.kia_one PySem.W.kitx_none I.kIn True.intro e (λz=>nomatch z) h
 |bl y=>cases (show u=Value.bool y from rx);exact PySem.W.kia_one PySem.W.kitx_bool I.kIn True.intro e (λz=>nomatch z) h
 |int i=>obtain⟨t,q⟩:=(show ∃t,u=Value.int i t from rx);cases q;exact PySem.W.kia_one PySem.W.kitx_int I.kIn True.intro e (λz=>nomatch z) h
 |str y=>obtain⟨t,q⟩:=(show ∃t,u=Value.str y t from rx);cases q;exact PySem.W.kia_one PySem.W.kitx_str I.kIn True.intro e (λz=>nomatch z) h
 |flt y=>obtain⟨t,q⟩:=(show ∃t,u=Value.float y t from rx);cases q;exact PySem.W.kia_one PySem.W.kitx_float I.kIn True.intro e (λz=>nomatch z) h
 |@lst a xs ea=>
  cases (show u=Value.ref a from rx);obtain⟨_,_,n,_,h1⟩:=(show ObjOk X.prog X.w H s.heap a (.lst xs) from I.hok a _ ea);exact PySem.W.kia_one PySem.W.kitx_list I.kIn ⟨_,h1,rfl⟩ e (λz=>nomatch z) h
 |@frz a ob xs ea=>
  cases (show u=Value.ref a from rx);obtain⟨_,_,_,n,_,h1⟩:=(show ObjOk X.prog X.w H s.heap a (.frz ob (.lst xs)) from I.hok a _ ea);exact PySem.W.kia_one PySem.W.kitx_list I.kIn ⟨_,h1,rfl⟩ e (λz=>nomatch z) h
 |@tup a xs ea=>
  cases (show u=Value.ref a from rx);obtain⟨_,_,_,p⟩:=(show ObjOk X.prog X.w H s.heap a (.tup xs) from I.hok a _ ea);obtain⟨o,h1,⟨h2,_⟩,_⟩:=p;exact PySem.W.kia_one PySem.W.kitx_tuple I.kIn ⟨o,h1,h2⟩ e (λz=>nomatch z) h
 |@dK a kvs ea=>
  cases (show u=Value.ref a from rx);obtain⟨_,_,vs,_,p⟩:=(show ObjOk X.prog X.w H s.heap a (.dK kvs) from I.hok a _ ea);obtain⟨o,es,ep,h1,h2,_⟩:=p;exact PySem.W.kia_one PySem.W.kitx_dict I.kIn ⟨o,h1,h2.1⟩ e (λz=>nomatch z) h
 |@dT a kvs ea=>
  cases (show u=Value.ref a from rx);obtain⟨_,_,xs,_,o,es,ep,h1,h2,_⟩:=(show ObjOk X.prog X.w H s.heap a (.dT kvs) from I.hok a _ ea);exact PySem.W.kia_one PySem.W.kitx_dict I.kIn ⟨o,h1,h2.1⟩ e (λz=>nomatch z) h
 |@ins a C dx fs ea cl ha hn htk hm=>
  cases (show u=Value.ref a from rx);obtain⟨mA,O,_⟩:=Ztn I.hok ea;obtain⟨od,J,_⟩:=O.look;exact PySem.W.kia_one (PySem.W.kitx_own (cl.get _) cl.hd ha hn htk hm) I.kIn J e (λz=>nomatch z) h
end
end L2
namespace L2
open PySem PySem.Spec PyProof.Rows
structure Room (k:Nat) (A:Around):Prop where
 hd:A.handled=none
 dp:A.depth+3*k+5<recursionLimit
 un:A.units+16*k+200<cLine
 gd:A.guards=some []
theorem Room.mono {j k:Nat}{A:Around}(r:Room k A) (h:j<=k):Room j A:=⟨r.hd,by have:=r.dp;omega,by have:=r.un;omega,r.gd⟩
theorem Room.deeper {k:Nat}{A:Around}(r:Room (k+1) A) (env:Env):Room k (A.deeper env):=
 ⟨r.hd,by have:=r.dp;show A.depth+1+3*k+5<_;omega,by have:=r.un;show A.units+3+16*k+200<_;omega,r.gd⟩
theorem Room.depth {k:Nat}{A:Around}(r:Room k A):A.depth<recursionLimit:=by have:=r.dp;omega
theorem Room.units {k:Nat}{A:Around}(r:Room k A):A.units+64<cLine:=by have:=r.un;omega
def tNil:TA:=λ_ H Q=>Q [] H
def tCons (ta:TE) (tr:TA):TA:=λσ H Q=>ta σ H λx H1=>tr σ H1 λxs H2=>Q (x::xs) H2
section
variable {X:Cx}{e:Expr}{es:List Expr}{te:TE}{t:TA}{pos:Pos}
theorem Zad:PA X [] tNil:=λ_ _ _ _ H Q I h=>Calls.spliced_nil ⟨[],H,I,.nil,h⟩
theorem Zaa (ha:PE X e te) (hr:PA X es t) (hs:starEach (e::es) X.env=(false,eval e X.env)::starEach es X.env:=by rfl):PA X (e::es) (tCons te t):=by
 intro pos pins s σ H Q I h;rw[hs];show wpAny _ _ (spliced ((false,eval e X.env)::backTo pos (starEach es X.env))) _ _ s;refine Calls.spliced_cons (thn (ha pins s σ H _ I h) λu s1 ⟨x,H1,I1,r1,q1⟩=>?_);exact thn (hr pos pins s1 σ H1 _ I1 q1) λus s2 ⟨xs,H2,I2,r2,q2⟩=>⟨x::xs,H2,I2,.cons r1 r2,q2⟩
def tTup (t:TA):TE:=λσ H Q=>t σ H λxs H1=>xs.length<=sizeLine/\∀p,H1 p=none->Q (.ref p) (upd H1 p (.tup xs))
def tLst (t:TA):TE:=λσ H Q=>t σ H λxs H1=>xs.length<=sizeLine/\∀p,H1 p=none->Q (.ref p) (upd H1 p (.lst xs))
theorem Zbx {x1} (h:PA X es t):PE X (.Tuple es x1 pos) (tTup t):=by
 intro pins s σ H Q I hq;refine wpAny_Tuple_spliced (thn (h pos pins s σ H _ I hq) λus s1 ⟨xs,H1,I1,r,z,q⟩=>⟨by rw[<- r.length];exact z,?_⟩);have hf:H1 s1.heap.objs.size=none:=I1.hok.fresh (Wah _);refine⟨.ref s1.heap.objs.size,upd H1 s1.heap.objs.size (.tup xs),I1.laid (t':=s1.toks) (λb u e=>Wae _ e) (Wah _) ?_,rfl,q _ hf⟩;exact⟨z,us,r,⟨_,Wal _ rfl,⟨rfl,_,rfl⟩,rfl⟩⟩
theorem Zb4 (h:PA X es t):PE X (.List es pos) (tLst t):=by
 intro pins s σ H Q I hq;refine wpAny_List_spliced (thn (h pos pins s σ H _ I hq) λus s1 ⟨xs,H1,I1,r,z,q⟩=>⟨by rw[<- r.length];exact z,?_⟩);have hf:H1 s1.heap.objs.size=none:=I1.hok.fresh (Wah _);refine⟨.ref s1.heap.objs.size,upd H1 s1.heap.objs.size (.lst xs),I1.laid (t':=s1.toks) (λb u e=>Wae _ e) (Wah _) ?_,rfl,q _ hf⟩;exact⟨z,us,0,r,Wal _ rfl⟩
end
abbrev Sp:=List V->Hp->VK->XK->Prop
abbrev CXT:=List Env->Hp->Shared->XK->Value->Shared->Prop
structure Env0 (P:Program) (w:World) (K:W.Frag) (mg:Str->Option Value) (base:Heap) (A:Around) (outer:List Env) (s:Shared) (H:Hp):Prop where
 frames:A.frames=some outer
 mod:Mod K mg base
 bs:∀b o,base.get? b=some o->s.heap.get? b=some o/\H b=none
 bsz:base.objs.size<=s.heap.objs.size
 funs:s.heap.FunFrames base outer
 frf:∀b∈frs outer,H b=none
 hok:HOk P w H s.heap
 bare:AllBare s.gens
def CE (outer:List Env) (P:Program) (w:World) (H:Hp) (s:Shared) (Q:VK) (u:Value) (s':Shared):Prop:=
 ∃v H',s'.os=s.os/\AllBare s'.gens/\Un (frs outer) [] H H' s.heap s'.heap/\HOk P w H' s'.heap/\RelV v u/\Q v H'
def CR (CX:CXT) (outer:List Env) (P:Program) (w:World) (H:Hp) (s:Shared) (Q:VK) (E:XK) (r:Result) (s':Shared):Prop:=
 match r with
 |.ok (.ret u)=>CE outer P w H s Q u s'
 |.ok _=>False
 |.error e=>CX outer H s E e s'
structure FnOk (P:Program) (w:World) (K:W.Frag) (mg:Str->Option Value) (base:Heap) (CX:CXT) (k:Nat) (f:Addr) (fd:FuncData) (ps:List Str) (sp:Sp):Prop where
 len:∀vs H Q E,sp vs H Q E->vs.length=ps.length
 run:∀(A:Around) (outer:List Env) (s:Shared) (H:Hp) (args:Args) (us:List Value) (vs:List V) (Q:VK) (E:XK),Room k A->Env0 P w K mg base A outer s H->BindsTo s fd args (ps.zip us)->Vals vs us->sp vs H Q E →
  codeAny (model P w) A (.call (.ref f) args) (CR CX outer P w H s Q E) s
theorem FnOk.imp {P:Program}{w:World}{K:W.Frag}{mg:Str->Option Value}{base:Heap}{CX:CXT}{k:Nat}{f:Addr}{fd:FuncData}{ps:List Str}{sp sp':Sp}(F:FnOk P w K mg base CX k f fd ps sp)
  (h:∀vs H Q E,sp' vs H Q E->sp vs H Q E):FnOk P w K mg base CX k f fd ps sp':=
 ⟨λvs H Q E q=>F.len vs H Q E (h _ _ _ _ q),λA outer s H args us vs Q E hr he hb hv hs=>F.run A outer s H args us vs Q E hr he hb hv (h _ _ _ _ hs)⟩
section
variable {X:Cx}{pins:List (Addr × Obj)}{σ:St}{H:Hp}{s s':Shared}
theorem Inv.env0 (I:Inv X pins σ H s):Env0 X.prog X.w X.K X.mg X.base X.A X.stack s H:=
 ⟨I.ok.frames,I.ok.mod,I.bs,Wbu I.ok.bsz I.sz,I.stack,I.stkFree,I.hok,I.bare⟩
theorem Inv.after {Q:VK}{u:Value}(I:Inv X pins σ H s) (h:CE X.stack X.prog X.w H s Q u s'):EP X pins σ Q u s':=by
 obtain⟨v,H',os,bare,un,hok,r,q⟩:=h;obtain⟨hh,g,d,t,os'⟩:=s';obtain rfl:os'=s.os:=os;exact⟨v,H',I.call (h':=hh) (g':=g) (d':=d) (t':=t) (ch:=[]) un hok bare (λb z=>absurd z (by simp)),r,q⟩
end
def tCall (sp:Sp) (dvs:List V) (E:XK) (t:TA):TE:=λσ H Q=>t σ H λvs H1=>sp (vs++dvs) H1 Q E
def Binds (K:W.Frag) (fd:FuncData) (ps:List Str) (ds:List Value):Prop:=
 ∀(s:Shared) (us:List Value),K.In s.heap->(us++ds).length=ps.length->BindsTo s fd ⟨us,[]⟩ (ps.zip (us++ds))
theorem Binds.all {K:W.Frag}{fd:FuncData}{ps:List Str}(h:∀us:List Value,us.length=ps.length->bindArgs fd ⟨us,[]⟩=pure (ps.zip us)):Binds K fd ps []:=λs us _ hl=>by
 rw[Wbk]at hl ⊢;exact .of_eq (h us hl)
def Passes (CX:CXT) (X:Cx) (E:XK):Prop:=∀(pins:List (Addr × Obj)) (σ:St) (H:Hp) (s:Shared) (e:Value) (s':Shared),Inv X pins σ H s->CX X.stack H s E e s' -> X.xe e s'
section
variable {X:Cx}{CX:CXT}{k:Nat}{f C:Addr}{fd:FuncData}{ps:List Str}{sp:Sp}{dvs:List V}{ds:List Value}{E:XK}{x m:Str}{p pos apos:Pos}{e o:Expr}{es:List Expr}{ta:TE}{t:TA}
theorem Zui {pins:List (Addr × Obj)}{σ:St}{H:Hp}{s:Shared}{Q:VK}{us:List Value}{vs:List V}(F:FnOk X.prog X.w X.K X.mg X.base CX k f fd ps sp) (hr:Room k X.A) (hb:Binds X.K fd ps ds) (hd:Vals dvs ds) (hx:Passes CX X E)
  (I:Inv X pins σ H s) (r:Vals vs us) (h:sp (vs++dvs) H Q E):wpAny (model X.prog X.w) X.A (call (.ref f) us) (EP X pins σ Q) X.xe s:=by
 have r2:Vals (vs++dvs) (us++ds):=r.append hd;have hl:(us++ds).length=ps.length:=by rw[<- r2.length];exact F.len _ _ _ _ h
 refine wpAny_call (codeAny_mono (F.run X.A X.stack s H ⟨us,[]⟩ (us++ds) (vs++dvs) Q E hr I.env0 (hb s us I.kIn hl) r2 h) λr s' hq=>?_);cases r with
 |error e=>exact hx pins σ H s e s' I hq
 |ok fl=>
  cases fl with
  |ret u=>exact I.after hq
  |next=>exact False.elim hq
  |brk=>exact False.elim hq
  |cont=>exact False.elim hq
theorem Zse (F:FnOk X.prog X.w X.K X.mg X.base CX k f fd ps sp) (hr:Room k X.A) (hg:Gl X x) (hm:X.mg x=some (.ref f)) (hk:W.keepIn X.K (.ref f)=true) (hb:Binds X.K fd ps ds) (hd:Vals dvs ds) (hx:Passes CX X E)
  (ha:PA X (e::es) t) (hdb:(x == ("__debug__":Str))=false:=by decide) (he:starEach (e::es) X.env=(false,eval e X.env)::starEach es X.env:=by rfl) (hpl:(backTo pos (starEach es X.env)).any (·.1)=false:=by rfl) :
  PE X (.Call (.Name x p) (e::es) [] pos) (tCall sp dvs E t):=by
 intro pins s σ H Q I h;refine wpAny_Call_Name_kw (Zry I hg hm ?_ hdb);refine PySem.W.callWith_K (h₀:=X.base) I.ok.mod.kin hk (thn (ha pos pins s σ H _ I h) λus s1 ⟨vs,H1,I1,r,q⟩=>⟨I1.kIn,?_⟩) he hpl;exact Zui F hr hb hd hx I1 r q
end
section
variable {X:Cx}{CX:CXT}{k:Nat}{f C:Addr}{fd:FuncData}{ps ks:List Str}{sp:Sp}{E:XK}{x m:Str}{p pos apos kpos:Pos}{e o:Expr}{es:List Expr}{kws:List Keyword}{te ta:TE}{t tk:TA}{nm:Option Str}
variable {g:List Value->List Value->List Value}{gV:List V->List V->List V}
end
structure FnScope (N P:List Str) (sc:Scope):Prop where
 kind:sc.kind=.function
 co:sc.isCoroutine=false
 gen:sc.isGenerator=false
 nd:N.Nodup
 pre:N.take P.length=P
 par:∀x∈P,sc.names.lookup x=some .local\/sc.names.lookup x=some .cell
 nofree:∀y∈sc.names,y.2≠.free
theorem Zh5 {kindOf:Str->Option NameKind}{x:Str}:∀{binds:List (Str × Value)}{m:Str->Option Value},(∀v,(x,v) ∉ binds)->bindL kindOf binds m x=m x
 |[],_,_=>rfl
 | (n,v)::r,m,h=>by
  unfold bindL;rw[Zh5 λw hw=>h w (Wax _ hw)];split
  ·have:x≠n:=by rintro rfl;exact h v Wa0
   simp[this]
  ·rfl
theorem Zh7 {kindOf:Str->Option NameKind}{x:Str}:∀{binds:List (Str × Value)}{m:Str->Option Value},(∀v,(x,v) ∉ binds)->bindC kindOf binds m x=m x
 |[],_,_=>rfl
 | (n,v)::r,m,h=>by
  unfold bindC;rw[Zh7 λw hw=>h w (Wax _ hw)];split
  ·rfl
  ·have:x≠n:=by rintro rfl;exact h v Wa0
   simp[this]
theorem Zid {kindOf:Str->Option NameKind}{x:Str}{v:Value}:∀{P:List Str}{vs:List Value}{i:Nat}{m:Str->Option Value},P.Nodup->P[i]?=some x->vs[i]?=some v->kindOf x=some .local →
  bindL kindOf (P.zip vs) m x=some v
 |[],_,_,_,_,h,_,_=>by simp at h
 |_::_,[],_,_,_,_,h,_=>by simp at h
 |p::P,w::vs,0,m,nd,h1,h2,hk=>by
  simp at h1 h2;subst h1;subst h2;show bindL kindOf ((p,w)::P.zip vs) m p=_;unfold bindL;rw[Zh5 λv hv=>(Wca.mp nd).1 (List.of_mem_zip hv).1,if_pos hk];simp
 |p::P,w::vs,i+1,m,nd,h1,h2,hk=>by
  show bindL kindOf ((p,w)::P.zip vs) m x=_;unfold bindL;exact Zid (i:=i) (Wca.mp nd).2 (by simpa using h1) (by simpa using h2) hk
theorem Ziq {kindOf:Str->Option NameKind}{x:Str}{v:Value}:∀{P:List Str}{vs:List Value}{i:Nat}{m:Str->Option Value},P.Nodup->P[i]?=some x->vs[i]?=some v->kindOf x≠some .local →
  bindC kindOf (P.zip vs) m x=some v
 |[],_,_,_,_,h,_,_=>by simp at h
 |_::_,[],_,_,_,_,h,_=>by simp at h
 |p::P,w::vs,0,m,nd,h1,h2,hk=>by
  simp at h1 h2;subst h1;subst h2;show bindC kindOf ((p,w)::P.zip vs) m p=_;unfold bindC;rw[Zh7 λv hv=>(Wca.mp nd).1 (List.of_mem_zip hv).1,if_neg hk];simp
 |p::P,w::vs,i+1,m,nd,h1,h2,hk=>by
  show bindC kindOf ((p,w)::P.zip vs) m x=_;unfold bindC;exact Ziq (i:=i) (Wca.mp nd).2 (by simpa using h1) (by simpa using h2) hk
def start (N:List Str) (vs:List V):St:=vs.map some++Waj (N.length-vs.length) none
def cxOf (CX:CXT) (P:Program) (w:World) (K:W.Frag) (mg:Str->Option Value) (base:Heap) (N:List Str) (qual:Str) (scope:Scope) (f:Addr) (cd:Value) (A:Around) (outer:List Env) (s:Shared) (H:Hp) (E:XK):Cx where
 prog:=P
 w:=w
 K:=K
 mg:=mg
 base:=base
 A:=A.deeper (envOfC qual scope s.heap.objs.size f cd)
 N:=N
 s₀:=s
 H₀:=H
 env:=envOfC qual scope s.heap.objs.size f cd
 outer:=outer
 stack:=envOfC qual scope s.heap.objs.size f cd::outer
 ex:=[]
 calm:=true
 fn:=λ_=>true
 pn:=[]
 xe:=λe s'=>wpAny (model P w) (A.deeper (envOfC qual scope s.heap.objs.size f cd)) (leaving (envOfC qual scope s.heap.objs.size f cd) e) (λ_ s''=>CX outer H s E e s'') (λe' s''=>CX outer H s E e' s'') s'
theorem Zkx {sc:Scope}{n:Nat}{x:Str}(h:sc.names.lookup x=some .cell):∃c,(cellsFrom n sc.names []).lookup x=some c:=by
 have q:=PySem.W.cellsFrom_some sc.names n [] (.inl h);exact Option.isSome_iff_exists.mp q
theorem Zm1 {CX:CXT}{P:Program}{w:World}{K:W.Frag}{mg:Str->Option Value}{base:Heap}{N ps:List Str}{qual:Str}{scope:Scope}{f:Addr}{cd:Value}{A:Around}{outer:List Env}{s s1:Shared}{H:Hp}{E:XK}{us:List Value}{vs:List V}
  (S:FnScope N ps scope) (hd:A.handled=none) (e0:Env0 P w K mg base A outer s H) (hl:vs.length=ps.length) (r:Vals vs us)
  (x:InCallC s s.heap.objs.size (bindL (envOfC qual scope s.heap.objs.size f cd).kindOf (ps.zip us) λ_=>none) (cellsFrom (s.heap.objs.size+1) scope.names []) (bindC (envOfC qual scope s.heap.objs.size f cd).kindOf (ps.zip us) λ_=>none) s1) :
  Inv (cxOf CX P w K mg base N qual scope f cd A outer s H E) [] (start N vs) H s1:=by
 have hpl:ps.length<=N.length:=by have:=congrArg Wbd S.pre;rw[Wb0]at this;omega
 obtain⟨h1,tk,rfl,hk⟩:=x.done;have noA:∀b:Addr,b ∉ (cxOf CX P w K mg base N qual scope f cd A outer s H E).ex:=λb z=>absurd (show b∈([]:List Addr) from z) (by simp);refine⟨⟨e0.mod,S.kind,rfl,rfl,Wah _,λy z c h1 h2=>?_,λy hy=>?_,λy c _ h=>?_,λ_=>hd,Around.frames_deeper e0.frames,.inr ⟨rfl,rfl⟩,λb z=>absurd z (noA b),e0.bs,e0.bsz,λb _ _=>noA b,λb z=>absurd z (noA b),e0.funs,e0.frf⟩,
  rfl,e0.bare,Un.kept hk,⟨_,x.toInCall.ns,λi y v h1 h2 h3=>?_⟩,λy c h=>⟨_,x.cell y c h⟩,e0.hok.fresh (Wah _),λy c h=>?_,λp hp=>absurd (show p∈([]:List (Addr × Obj)) from hp) (by simp),e0.hok.kept hk,?_⟩
 ·exact name_of_addr x.apart (PySem.mem_of_lookup h1) (PySem.mem_of_lookup h2)
 ·have hy:scope.names.lookup y=some .cell\/scope.names.lookup y=some .free:=hy
  rcases hy with hy|hy
  ·exact Zkx hy
  ·exact absurd rfl (S.nofree _ (PySem.mem_of_lookup hy))
 ·exact Wb4 (x.above y c (PySem.mem_of_lookup h))
 ·have hi:i<vs.length:=by
   unfold start at h2;by_cases hi:i<vs.length
   ·exact hi
   ·rw[Way (by simpa using hi)]at h2
    rw[Wcp]at h2;split at h2 <;> cases h2
  have ha:vs[i]?=some v:=by
   unfold start at h2;rw[Wbc (by simpa using hi),Wad]at h2;cases e:vs[i]? with
   |none=>rw[e]at h2;cases h2
   |some a=>rw[e]at h2;cases h2;rfl
  obtain⟨u,hu,rv⟩:=r.get ha;have hp:ps[i]?=some y:=by
   rw[<- S.pre,List.getElem?_take_of_lt (by omega)];exact h1
  have ndP:ps.Nodup:=by rw[<- S.pre];exact S.nd.sublist (List.take_sublist _ _)
  refine⟨u,rv,?_⟩;rcases S.par y (Waq hp) with k|k
  ·exact .inl ⟨k,Zid ndP hp hu k⟩
  ·obtain⟨c,e⟩:=Zkx (n:=s.heap.objs.size+1) k
   refine .inr ⟨.inl k,c,e,?_⟩;have q:=x.cell y c e;rw[Ziq ndP hp hu (by show scope.names.lookup y≠_;rw[k];decide)]at q;exact q
 ·exact e0.hok.fresh (Wb4 (x.above y c (PySem.mem_of_lookup h)))
 ·unfold start
  show _=N.length;rw[Wao,Wab,Wba];omega
theorem Zv9 {CX:CXT}{P:Program}{w:World}{K:W.Frag}{mg:Str->Option Value}{base:Heap}{k:Nat}{f:Addr}{name qual:Str}{params:Arguments}{body:List Stmt}{scope:Scope}{dV kV doc pm cdv ct oc:Value}{an od:Option Addr}
  {osl:Array (Option Value)}{N ps:List Str}{sp:Sp}(lk:K.lookup f=some ⟨oc,od,.func (W.fnOf name qual params body scope dV kV doc pm an cdv ct),osl⟩) (hcd:W.codeIn K cdv qual=true) (S:FnScope N ps scope)
  (len:∀vs H Q E,sp vs H Q E->vs.length=ps.length)
  (hbody:∀(A:Around) (outer:List Env) (s:Shared) (H:Hp) (vs:List V) (Q:VK) (E:XK),Room k (A.deeper (envOfC qual scope s.heap.objs.size f cdv))->sp vs H Q E →
   ∃t,PSs (cxOf CX P w K mg base N qual scope f cdv A outer s H E) body t/\t { nx:=λ_ H'=>Q .non H',rt:=Q } (start N vs) H) :
  FnOk P w K mg base CX (k+1) f (W.fnOf name qual params body scope dV kV doc pm an cdv ct) ps sp:=by
 refine⟨len,λA outer s H args us vs Q E hr e0 hb r hsp=>?_⟩;have hl:=len _ _ _ _ hsp;have KX:K.In s.heap:=e0.mod.kin.keeps λb o e=>(e0.bs b o e).1;have lim:s.heap.NoLimit:=e0.mod.nolimit.keeps λb o e=>(e0.bs b o e).1;have hkind:∀y∈ps.zip us,scope.names.lookup y.1=some .local\/(scope.names.lookup y.1=some .cell/\((cellsFrom (s.heap.objs.size+1) scope.names []).lookup y.1).isSome=true):=λ⟨n,v⟩ hy=>by
  rcases S.par n (List.of_mem_zip hy).1 with q|q
  ·exact .inl q
  ·exact .inr ⟨q,PySem.W.cellsFrom_some _ _ _ (.inl q)⟩
 refine codeAny_call_function hr.depth (KX _ _ lk) rfl S.co S.gen rfl (PySem.W.codeRec_of KX hcd) (hb _ _ _ _ ?_);refine wpAny_newFunctionEnv_cells S.kind hkind λenv he s1 x=>?_;subst he;refine⟨lim.keeps x.toInCall.keep,codeAny_func ?_⟩;obtain⟨t,ht,hq⟩:=hbody A outer s H vs Q E (hr.deeper _) hsp;have I:Inv (cxOf CX P w K mg base N qual scope f cdv A outer s H E) [] (start N vs) H s1:=Zm1 S hr.hd e0 hl r x;refine wpAny_mono (ht [] s1 (start N vs) H _ I hq) (λfl s' hs=>?_) λe s' hs=>hs;have fin:∀{σ':St}{H':Hp}{v:V}{u:Value},Inv (cxOf CX P w K mg base N qual scope f cdv A outer s H E) [] σ' H' s' -> RelV v u->Q v H' -> CE outer P w H s Q u s':=
  λ{σ' H' v u} J rv q=>⟨v,H',J.os,J.bare,J.base,J.hok,rv,q⟩
 cases fl with
 |ret u=>
  obtain⟨v,σ',H',J,rv,q⟩:=hs;exact fin J rv q
 |next=>
  obtain⟨σ',H',J,q⟩:=hs;exact fin (v:=V.non) (u:=Value.none) J rfl q
 |brk=>
  obtain⟨_,_,_,q⟩:=hs;exact False.elim q
 |cont=>
  obtain⟨_,_,_,q⟩:=hs;exact False.elim q
end L2
namespace L2
open PySem PySem.Spec PyProof.Rows
section
variable {X:Cx}{x:Str}{p pos:Pos}{e:Expr}{es:List Expr}{t:TA}{id T:String}{r:List V->Hp->VK->Prop}
def tCB (r:List V->Hp->VK->Prop) (t:TA):TE:=λσ H Q=>t σ H λvs H1=>r vs H1 Q
theorem Zai (hc:CallR X (.builtin id) r) (hg:Gl X x) (hm:X.mg x=none) (hv:bootBuiltins x=some (.builtin id)) (ha:PA X (e::es) t) (hn:x ≠ "__name__":=by decide) (hdb:(x == ("__debug__":Str))=false:=by decide)
  (he:starEach (e::es) X.env=(false,eval e X.env)::starEach es X.env:=by rfl) (hpl:(backTo pos (starEach es X.env)).any (·.1)=false:=by rfl):PE X (.Call (.Name x p) (e::es) [] pos) (tCB r t):=by
 intro pins s σ H Q I h;refine wpAny_Call_Name_kw (Zdl I hg hm hv ?_ hn hdb);exact PyProof.Rows.callWith_builtin1 (thn (ha pos pins s σ H _ I h) λus s1 ⟨vs,H1,I1,r1,q1⟩=>hc pins s1 σ H1 vs us Q I1 r1 q1) he hpl
theorem Za8 (hc:CallR X (.type T) r) (hg:Gl X x) (hm:X.mg x=none) (hv:bootBuiltins x=some (.type T)) (ha:PA X (e::es) t) (hn:x ≠ "__name__":=by decide) (hdb:(x == ("__debug__":Str))=false:=by decide)
  (he:starEach (e::es) X.env=(false,eval e X.env)::starEach es X.env:=by rfl) (hpl:(backTo pos (starEach es X.env)).any (·.1)=false:=by rfl):PE X (.Call (.Name x p) (e::es) [] pos) (tCB r t):=by
 intro pins s σ H Q I h;refine wpAny_Call_Name_kw (Zdl I hg hm hv ?_ hn hdb);exact PyProof.Rows.callWith_type1 (thn (ha pos pins s σ H _ I h) λus s1 ⟨vs,H1,I1,r1,q1⟩=>hc pins s1 σ H1 vs us Q I1 r1 q1) he hpl
end
end L2
namespace HT
open PySem PyProof.Rows
def lexLt:List Int->List Int->Bool
 |[],[]=>false
 |[],_::_=>true
 |_::_,[]=>false
 |x::xs,y::ys=>if x=y then lexLt xs ys else decide (x<y)
theorem Zk6 (x y:Int) (xs ys:List Int):lexLt (x::xs) (y::ys)=if x=y then lexLt xs ys else decide (x<y):=rfl
theorem Zhf:lexLt [] []=false:=rfl
theorem Zgf (y:Int) (ys:List Int):lexLt [] (y::ys)=true:=rfl
theorem Zgj (x:Int) (xs:List Int):lexLt (x::xs) []=false:=rfl
theorem Zqe (A:Around) (s:Shared) (a:Int) (t:Tok) (c:Int) (u:Tok):∃e,SeqAt.EqAt A s (.int a t) (.int c u) e/\(e=true↔a=c):=
 ⟨(a == c),SeqAt.EqAt.int_int a t c u,by simp⟩
theorem Zpi (A:Around) (s:Shared) (a:Int) (t:Tok) (c:Int) (u:Tok) (prog:Program) (w:World) (E:Value->Shared->Prop) (Q:Value->Shared->Prop) (h:Q (.bool (decide (a<c))) s) :
  wpAny (model prog w) A (richCompare .Lt (.int a t) (.int c u)) Q E s:=
 (PyProof.Rows.lt_int h:wpAny (model prog w) A (compareOp .Lt (.int a t) (.int c u)) Q E s)
section
open PySem.SeqAt
open PySem.AutoSeq1 (wpAny_loadPart')
open PySem.MeetsSeq PySem.MeetsSeq2 PySem.MeetsSeq3
theorem tuple_lt_ints (l b:Addr) (items items2:Array Value) (n n2:Nat) (dd dd2:Option Addr) (sl sl2:Array (Option Value)) (ns ms:List Int) (hi:IntsAre items.toList ns) (hj:IntsAre items2.toList ms) :
  Meets (Builtin.«tuple.__lt__» ⟨[.ref l,.ref b],[]⟩)
   (λ_ R s=>s.heap.get? l=some { cls:=.type "tuple",dict:=dd,data:=.seq items n,slots:=sl } /\ s.heap.get? b=some { cls:=.type "tuple",dict:=dd2,data:=.seq items2 n2,slots:=sl2 } ∧
    R (.ok (.ret (.bool (lexLt ns ms)))) s):=
 .of_wp λprog w A R s h=>by
  obtain⟨hp,g,d,tk,os⟩:=s;obtain⟨hl,hb,h⟩:=h;have f2:=AutoSeq1.sub_tuple_tuple;have z1:items.size=ns.length:=by rw[<- hi.length];simp
  have z2:items2.size=ms.length:=by rw[<- hj.length];simp
  wp_walk using wpAny_loadPart' hl,wpAny_loadPart' hb,wpAny_forIn_list _ (λrest b s'=>b.1=none/\s'=⟨hp,g,d,tk,os⟩ /\ ∃(vs ws:List Value) (ns' ms':List Int),rest=vs.zip ws ∧
   IntsAre vs ns' /\ IntsAre ws ms' /\ ns'.length+items2.size=ms'.length+items.size/\R (.ok (.ret (.bool (lexLt ns' ms')))) ⟨hp,g,d,tk,os⟩) _
  case turn=>
   rintro⟨y,x⟩ rest b s' ⟨hb',rfl,vs,ws,ns',ms',hz,hvi,hwi,hlen,hR⟩;cases hvi with
   |nil=>rw[List.zip_nil_left]at hz;cases hz
   |cons a t hvi'=>
    cases hwi with
    |nil=>rw[List.zip_nil_right]at hz;cases hz
    |cons c u hwi'=>
     rw[Wci]at hz;injection hz with hyx hrest
     injection hyx with hy hx
     subst hy hx;rw[Zk6]at hR;simp only[War]at hlen;obtain⟨e,he,hiff⟩:=Zqe A.in1 ⟨hp,g,d,tk,os⟩ a t c u;refine wpAny_bind (he prog w _ _ ?_);cases e with
     |true=>
      rw[if_pos (hiff.mp rfl)]at hR
      wp_walk
      exact⟨rfl,rfl,_,_,_,_,hrest,hvi',hwi',by omega,hR⟩
     |false=>
      rw[if_neg (λq=>absurd (hiff.mpr q) Was)]at hR;have hri:=Zpi A.in1 ⟨hp,g,d,tk,os⟩ a t c u prog w
      wp_walk using hri
      exact⟨_,rfl,by simpa using hR⟩
  case fin=>
   rintro⟨b1,b2⟩ s' ⟨hb',rfl,vs,ws,ns',ms',hz,hvi,hwi,hlen,hR⟩;simp only at hb';subst hb';have hv:lexLt ns' ms'=decide (items.size<items2.size):=by
    cases hvi with
    |nil=>
     cases hwi with
     |nil=>
      simp only[Wcn]at hlen;rw[Zhf];exact(decide_eq_false (by omega)).symm
     |cons c u hw=>
      simp only[Wcn,War]at hlen;rw[Zgf];exact(decide_eq_true (by omega)).symm
    |cons a t hv=>
     cases hwi with
     |nil=>
      simp only[Wcn,War]at hlen;rw[Zgj];exact(decide_eq_false (by omega)).symm
     |cons c u hw=>
      rw[Wci]at hz;cases hz
   rw[hv]at hR
   wp_walk
   exact⟨_,rfl,by simpa [Builtin.Tuple.tupleCompareSizes] using hR⟩
  case h=>
   exact⟨rfl,rfl,items.toList,items2.toList,ns,ms,rfl,hi,hj,by omega,h⟩
end
section
variable {prog:Program}{w:World}{A:Around}{E:Value->Shared->Prop}{s:Shared}
theorem cat_tup {t b:Addr}{vs ws:List Value}{Q:Value->Shared->Prop}(ht:IsTup s.heap t vs.toArray) (hb:IsTup s.heap b ws.toArray) (hv:vs≠[])
  (h1:ws=[]->Q (.ref t) s) (h2:ws≠[]->Q (.ref s.heap.objs.size) { s with heap:=s.heap.push { cls:=.type "tuple",data:=.seq (vs++ws).toArray } })
  (hsz:vs.length+ws.length<=sizeLine):wpAny (model prog w) A (binaryOp .Add (.ref t) (.ref b)) Q E s:=by
 obtain⟨⟨cls,dd,data,sl⟩,ho,hc,n,hd⟩:=id ht;obtain⟨⟨cls2,dd2,data2,sl2⟩,ho2,hc2,n2,hd2⟩:=id hb;simp only at hc hd hc2 hd2;subst hc hd hc2 hd2;have e:vs.toArray++ws.toArray=(vs++ws).toArray:=by simp
 by_cases hw:ws=[]
 ·exact concat_meets ⟨_,ho,rfl⟩ ⟨_,ho2,rfl⟩ noFill_tuple_add seq_tuple_add PySem.F.slot_tuple_add PySem.F.entry_tuple_add (PySem.F.args_tuple_add_2 _ _)
   (tuple_addW1 t b vs.toArray ws.toArray n n2 dd dd2 sl sl2 (by simpa using hv) (by simp[hw])) ⟨ho,ho2,h1 hw⟩
 ·refine concat_meets ⟨_,ho,rfl⟩ ⟨_,ho2,rfl⟩ noFill_tuple_add seq_tuple_add PySem.F.slot_tuple_add PySem.F.entry_tuple_add (PySem.F.args_tuple_add_2 _ _)
   (tuple_addW2 t b vs.toArray ws.toArray n n2 dd dd2 sl sl2 (by simpa using hv) (by simpa using hw) (by rw[Wag,Wag];exact hsz)) ⟨ho,ho2,?_⟩
  rw[e];exact h2 hw
def sIx (n d:Nat):Option Int->Nat
 |none=>d
 |some v=>if v<0 then (v+(n:Int)).toNat else min v.toNat n
theorem sIx_none (n d:Nat):sIx n d none=d:=rfl
theorem sIx_nat (n d k:Nat):sIx n d (some (k:Int))=min k n:=by
 show (if (k:Int)<0 then ((k:Int)+(n:Int)).toNat else min (k:Int).toNat n)=min k n;rw[if_neg (by omega),Wak]
theorem Zv0 (n d:Nat) (hd:d<=n) (o:Option Int):sIx n d o<=n:=by
 cases o with
 |none=>exact hd
 |some v=>
  show (if v<0 then (v+(n:Int)).toNat else min v.toNat n)<=n;by_cases hv:v<0
  ·rw[if_pos hv];omega
  ·rw[if_neg hv];exact Nat.min_le_right _ _
theorem Zl7 (v:Int) (n d:Nat):(if v<0 then max (v+(n:Int)) 0 else min v (n:Int))=((sIx n d (some v):Nat):Int):=by
 show (if v<0 then max (v+(n:Int)) 0 else min v (n:Int))=(((if v<0 then (v+(n:Int)).toNat else min v.toNat n):Nat):Int);by_cases hv:v<0
 ·simp only[if_pos hv];omega
 ·simp only[if_neg hv];omega
theorem Zld (lo hi:Option Int) (n:Nat):Builtin.Slice.sliceAdjust lo hi 1 (n:Int)=(((sIx n 0 lo:Nat):Int),((sIx n n hi:Nat):Int)):=by
 have h1:¬ ((1:Int)<0):=by omega
 unfold Builtin.Slice.sliceAdjust;simp only[h1,if_false];refine Prod.ext ?_ ?_
 ·cases lo with
  |none=>rfl
  |some v=>exact Zl7 v n 0
 ·cases hi with
  |none=>rfl
  |some v=>exact Zl7 v n n
theorem Zk5 (i j:Nat):Builtin.Slice.slicePlaces (i:Int) (j:Int) 1=j-i:=by
 unfold Builtin.Slice.slicePlaces;have h1:(1:Int) > 0:=by omega
 simp only[h1,if_true,Int.ediv_one];split <;> omega
theorem Zdx {v:Value}{o:Option Int}{Q:Option Int->Shared->Prop}(p:IsPart v o) (h:Q o s):wpAny (model prog w) A (Builtin.Slice.slicePartIndex v) Q E s:=by
 cases p with
 |none=>exact slicePart_none h
 |int i t=>exact slicePart_int h
theorem Zdj {sl:Addr}{vl vu:Value}{lo hi:Option Int}{n:Nat}{Q:Int × Int × Nat->Shared->Prop}(hs:s.heap.IsSliceOf sl vl vu .none) (pl:IsPart vl lo) (pu:IsPart vu hi)
  (h:Q (((sIx n 0 lo:Nat):Int),1,sIx n n hi-sIx n 0 lo) s):wpAny (model prog w) A (Builtin.Slice.sliceApplied (.ref sl) (pure (n:Int))) Q E s:=by
 obtain⟨os,hos,hcs,hds⟩:=id hs;unfold Builtin.Slice.sliceApplied Builtin.Slice.sliceFields;refine wpAny_bind (wpAny_bind (wpAny_field hos hds (x:=vl) rfl (wpAny_bind (wpAny_field hos hds (x:=vu) rfl (wpAny_bind (wpAny_field hos hds (x:=.none) rfl (wpAny_pure ?_)))))));refine wpAny_bind (slicePart_none ?_);show wpAny _ _ (if ((1:Int) == 0)=true then _ else _) _ _ s;rw[if_neg (by decide)];refine wpAny_bind (Zdx pl (wpAny_bind (Zdx pu (wpAny_bind (wpAny_pure ?_)))));show wpAny _ _ (match Builtin.Slice.sliceAdjust lo hi 1 (n:Int) with|(lo,hi)=>pure (lo,(1:Int),Builtin.Slice.slicePlaces lo hi 1)) _ _ s;rw[Zld lo hi n];show wpAny _ _ (pure (((sIx n 0 lo:Nat):Int),(1:Int),Builtin.Slice.slicePlaces ((sIx n 0 lo:Nat):Int) ((sIx n n hi:Nat):Int) 1)) _ _ s;rw[Zk5];exact wpAny_pure h
theorem Zoz (xs:Array Value) (i k:Nat):((Wau k).filterMap λ(m:Nat)=>xs[((i:Int)+(m:Int)*1).toNat]?).toArray=((xs.toList.drop i).take k).toArray:=by
 have e:(λ(m:Nat)=>xs[((i:Int)+(m:Int)*1).toNat]?)=λm=>xs[i+m]?:=by
  funext m
  have:((i:Int)+(m:Int)*1).toNat=i+m:=by omega
  rw[this]
 rw[e];have:=pick_run xs i k;rw[List.filterMap_map]at this;have e2:((λx=>xs[x]?)∘λx=>i+x)=λm=>xs[i+m]?:=rfl;rw[e2]at this;rw[this]
theorem getItem_tuple_cut {t sl:Addr}{items:Array Value}{vl vu:Value}{lo hi:Option Int}{Q:Value->Shared->Prop}(ht:IsTup s.heap t items) (hs:s.heap.IsSliceOf sl vl vu .none) (pl:IsPart vl lo) (pu:IsPart vu hi)
  (hw:¬ (sIx items.size 0 lo=0/\sIx items.size items.size hi=items.size))
  (h:Q (.ref s.heap.objs.size) { s with heap:=s.heap.push { cls:=.type "tuple",data:=.seq ((items.toList.drop (sIx items.size 0 lo)).take (sIx items.size items.size hi-sIx items.size 0 lo)).toArray } })
  (hsz:items.size<=sizeLine):wpAny (model prog w) A (getItem (.ref t) (.ref sl)) Q E s:=by
 have htake:sizeOk (.seq ((items.toList.drop (sIx items.size 0 lo)).take (sIx items.size items.size hi-sIx items.size 0 lo)).toArray):=by
  show ((items.toList.drop (sIx items.size 0 lo)).take (sIx items.size items.size hi-sIx items.size 0 lo)).toArray.size<=sizeLine;rw[Wag,Wb0,Wbo,Array.length_toList];omega
 have hj:sIx items.size items.size hi<=items.size:=Zv0 _ _ (Wah _) hi;obtain⟨os,hos,hcs,hds⟩:=id hs;have hTs:s.TypeIs (.ref sl) "slice":=⟨os,hos,hcs⟩;unfold getItem
 try with_reducible refine wpAny_holding ?_
 first|refine wpAny_bind (wpAny_pure ?_)|skip
 refine wpAny_bind (wpAny_sequenceKey ht.typeIs (by decide) ?_);refine wpAny_bind (wpAny_callSpecial?_slot (name:=Str.ofString "__getitem__") ht.typeIs PyProof.Rows.slot_tuple_getitem
  (wpAny_call_entry PyProof.Rows.slot_tuple_getitem ht.typeIs entry_tuple_getitem ?_ (args_tuple_getitem _ _)))
 show wpAny _ _ (Builtin.Tuple.tupleItemsOf (.ref t) >>= _) _ _ s;refine wpAny_bind (tupleItemsOf_ ht ?_);refine wpAny_bind (wpAny_typeOf hTs ?_);rw[if_pos (by decide)];refine wpAny_bind (Zdj hs pl pu ?_);have hno:¬ ((((sIx items.size 0 lo:Nat):Int) == 0 && (1:Int) == 1 && (sIx items.size items.size hi-sIx items.size 0 lo) == items.size)=true):=by
  intro q;rw[Wch,Wch]at q;have q1:((sIx items.size 0 lo:Nat):Int)=0:=eq_of_beq q.1.1;have q2:sIx items.size items.size hi-sIx items.size 0 lo=items.size:=eq_of_beq q.2;exact hw ⟨by omega,by omega⟩
 show wpAny _ _ (if (((sIx items.size 0 lo:Nat):Int) == 0 && (1:Int) == 1 && (sIx items.size items.size hi-sIx items.size 0 lo) == items.size)=true then _ else _) _ _ s;rw[if_neg hno,Zoz]
 first
  |exact wpAny_bind (m:=Builtin.Tuple.tupleExact _) (wpAny_newObj_type (wpAny_pure ⟨_,rfl,wpAny_pure h⟩) htake)
  |exact wpAny_bind (m:=Builtin.Tuple.tupleExact _) (wpAny_newObj_type (wpAny_bind (wpAny_pure (wpAny_pure ⟨_,rfl,wpAny_pure h⟩))) htake)
  |exact wpAny_bind (wpAny_bind (m:=Builtin.Tuple.tupleExact _) (wpAny_newObj_type (wpAny_pure (wpAny_pure ⟨_,rfl,wpAny_pure h⟩)) htake))
  |exact wpAny_bind (wpAny_bind (m:=Builtin.Tuple.tupleExact _) (wpAny_newObj_type (wpAny_pure ⟨_,rfl,wpAny_pure h⟩) htake))
end
end HT
namespace L2
open PySem PySem.Spec PyProof.Rows
abbrev TO:=St->Hp->(Option Int->Hp->Prop)->Prop
def PO (X:Cx) (e:Option Expr) (t:TO):Prop:=
 ∀(pins:List (Addr × Obj)) (s:Shared) (σ:St) (H:Hp) (Q:Option Int->Hp->Prop),Inv X pins σ H s->t σ H Q →
  wpAny (model X.prog X.w) X.A (evalPart e X.env) (λu s'=>∃o H',Inv X pins σ H' s' /\ IsPart u o/\Q o H') X.xe s
def tNoPart:TO:=λ_ H Q=>Q none H
def tPart (t:TE):TO:=λσ H Q=>t σ H λx H1=>∃i,x=.int i/\Q (some i) H1
theorem Zc5 {ns:List Int}:∀{us:List Value},Vals (ns.map V.int) us->IntsAre us ns:=by
 induction ns with
 |nil=>intro us r;rw[Wdt]at r;cases r;exact .nil
 |cons n ns ih=>
  intro us r;rw[Wa3]at r;cases r with
  |cons r1 r2=>
   obtain⟨t,e⟩:=r1;subst e;exact .cons n t (ih r2)
section
variable {X:Cx}{e:Expr}{te:TE}{lo hi:Option Expr}{tl th:TO}{pos p2:Pos}
theorem Zg7:PO X none tNoPart:=by
 intro pins s σ H Q I h;rw[evalPart_none];exact wpAny_pure ⟨none,H,I,.none,h⟩
theorem Zek (h:PE X e te):PO X (some e) (tPart te):=by
 intro pins s σ H Q I hw;rw[evalPart_some];refine thn (h pins s σ H _ I hw) λu s1 ⟨x,H1,I1,r1,q1⟩=>?_;obtain⟨i,rfl,q⟩:=q1;obtain⟨t,rfl⟩:=r1;exact⟨some i,H1,I1,.int i t,q⟩
def SlR (X:Cx) (r:V->Option Int->Option Int->Hp->VK->Prop):Prop:=
 ∀(pins:List (Addr × Obj)) (s:Shared) (σ:St) (H:Hp) (x:V) (v vl vu:Value) (lo hi:Option Int) (sl:Addr) (Q:VK),Inv X pins σ H s->RelV x v->s.heap.IsSliceOf sl vl vu .none->IsPart vl lo->IsPart vu hi->r x lo hi H Q →
  ∃T id,typeLookup (.type T) "__getitem__" = pure (some (.builtin id))/\s.TypeIs v T/\wpAny (model X.prog X.w) X.A (getItem v (.ref sl)) (EP X pins σ Q) X.xe s
theorem SlR.or {r r':V->Option Int->Option Int->Hp->VK->Prop}(h:SlR X r) (h':SlR X r'):SlR X (λx lo hi H Q=>r x lo hi H Q\/r' x lo hi H Q):=by
 intro pins s σ H x v vl vu lo hi sl Q I rx hs pl pu q;rcases q with q|q
 ·exact h pins s σ H x v vl vu lo hi sl Q I rx hs pl pu q
 ·exact h' pins s σ H x v vl vu lo hi sl Q I rx hs pl pu q
def tSl (r:V->Option Int->Option Int->Hp->VK->Prop) (te:TE) (tl th:TO):TE:=λσ H Q=>te σ H λx H1=>tl σ H1 λl H2=>th σ H2 λu H3=>r x l u H3 Q
theorem Ze9 {r:V->Option Int->Option Int->Hp->VK->Prop}(hr:SlR X r) (he:PE X e te) (hl:PO X lo tl) (hu:PO X hi th):PE X (.Subscript e (.Slice lo hi none p2) pos) (tSl r te tl th):=by
 intro pins s σ H Q I h;refine Subscript_ (thn (he pins s σ H _ I h) λv s1 ⟨x,H1,I1,r1,q1⟩=>?_);refine wpAny_Slice (thn (hl pins s1 σ H1 _ I1 q1) λvl s2 ⟨l,H2,I2,pl,q2⟩=>thn (hu pins s2 σ H2 _ I2 q2) λvu s3 ⟨u,H3,I3,pu,q3⟩=>?_);rw[evalPart_none];refine wpAny_pure ?_;have I4:Inv X pins σ H3 { s3 with heap:=s3.heap.push { cls:=.type "slice",data:=.fields #[vl,vu,.none] } }:=I3.kept (t':=s3.toks) λb ob q=>Wae _ q;obtain⟨T,id,hT,ht,hg⟩:=hr pins { s3 with heap:=s3.heap.push { cls:=.type "slice",data:=.fields #[vl,vu,.none] } } σ H3 x v vl vu l u s3.heap.objs.size Q I4 r1 (Heap.IsSliceOf.new ..) pl pu q3;show wpAny (model X.prog X.w) X.A (subscriptTail e (.Slice lo hi none p2) v (.ref s3.heap.objs.size)) (EP X pins σ Q) X.xe { s3 with heap:=s3.heap.push { cls:=.type "slice",data:=.fields #[vl,vu,.none] } };exact tail_any (ops:=[.ref s3.heap.objs.size,v]) ht hT hg (by with_unfolding_all rfl)
def cutV (xs:List V) (lo hi:Option Int):List V:=(xs.drop (HT.sIx xs.length 0 lo)).take (HT.sIx xs.length xs.length hi-HT.sIx xs.length 0 lo)
theorem Zf8 (xs:List V) (lo hi:Option Int):(cutV xs lo hi).length<=xs.length:=by
 unfold cutV;rw[Wb0,Wbo];omega
def rSlT (K:W.Frag):V->Option Int->Option Int->Hp->VK->Prop:=λx lo hi H Q=>∃a xs,x=.ref a/\SqT K H a xs ∧
 ¬ (HT.sIx xs.length 0 lo=0/\HT.sIx xs.length xs.length hi=xs.length)/\∀p,H p=none->Q (.ref p) (upd H p (.tup (cutV xs lo hi)))
theorem Zt5:SlR X (rSlT X.K):=by
 intro pins s σ H x v vl vu lo hi sl Q I rx hs pl pu h;obtain⟨a,xs,rfl,hx,hw,q⟩:=h;cases rx;obtain⟨its,r,ht,hz⟩:=I.tuple hx;have hlen:its.toArray.size=xs.length:=by rw[Wag];exact r.length.symm
 refine⟨"tuple",_,PyProof.Rows.slot_tuple_getitem.lookup,ht.typeIs,?_⟩;refine HT.getItem_tuple_cut ht hs pl pu (by rw[hlen];exact hw) ?_ (by rw[hlen];exact hz);rw[hlen];refine⟨.ref s.heap.objs.size,_,I.laid (t':=s.toks) (o:=.tup (cutV xs lo hi)) (λb ob q=>Wae _ q) (Wah _) ?_,rfl,q _ (I.hok.fresh (Wah _))⟩;exact⟨Wbu (Zf8 xs lo hi) hz,_,(r.drop (HT.sIx xs.length 0 lo)).take (HT.sIx xs.length xs.length hi-HT.sIx xs.length 0 lo),IsTupN.new _ _⟩
def rCatT (K:W.Frag):R2:=λx y H Q=>∃a b xs ys,x=.ref a/\y=.ref b/\SqT K H a xs/\SqT K H b ys/\xs≠[]/\xs.length+ys.length<=sizeLine ∧
 (ys=[]->Q (.ref a) H)/\(ys≠[]->∀p,H p=none->Q (.ref p) (upd H p (.tup (xs++ys))))
theorem Vals.nil_iff {xs:List V}{us:List Value}(r:Vals xs us):us=[]↔xs=[]:=by
 cases r with
 |nil=>simp
 |cons _ _=>simp
theorem Zru:OpR X (binaryOp .Add) (rCatT X.K):=by
 intro pins s σ H x y v u Q I rx ry h;obtain⟨a,b,xs,ys,rfl,rfl,ha,hb,hx,hz,q1,q2⟩:=h;cases rx;cases ry;obtain⟨its,r1,p1,_⟩:=I.tuple ha;obtain⟨its2,r2,p2,_⟩:=I.tuple hb;refine HT.cat_tup p1 p2 (λz=>hx (r1.nil_iff.mp z)) (λz=>⟨.ref a,H,I,rfl,q1 (r2.nil_iff.mp z)⟩) (λz=>?_) (by rw[<- r1.length,<- r2.length];exact hz);refine⟨.ref s.heap.objs.size,_,I.laid (t':=s.toks) (o:=.tup (xs++ys)) (λb ob q=>Wae _ q) (Wah _) ?_,rfl,q2 (λw=>z (r2.nil_iff.mpr w)) _ (I.hok.fresh (Wah _))⟩;exact⟨by rw[Wao];exact hz,_,r1.append r2,IsTupN.new _ _⟩
end
end L2
namespace L2
open PySem PySem.Spec PyProof.Rows
def ixN (n:Nat) (i:Int):Option Nat:=if 0<=i then (if i<n then some i.toNat else none) else if -(n:Int)<=i then some (i+n).toNat else none
def atI {α:Type}(xs:List α) (i:Int):Option α:=(ixN xs.length i).bind λj=>xs[j]?
theorem Znk {n:Nat}{i:Int}{j:Nat}(h:ixN n i=some j):seqIndex? i n=some j/\j<n /\ -(n:Int)<=i/\i<n:=by
 unfold ixN at h;by_cases h0:0<=i
 ·rw[if_pos h0]at h
  by_cases h1:i<n
  ·rw[if_pos h1]at h
   have e:i.toNat=j:=Wa4.inj h;exact⟨by rw[seqIndex_of h0 h1,e],by omega,by omega,h1⟩
  ·rw[if_neg h1]at h;cases h
 ·rw[if_neg h0]at h
  by_cases h1:-(n:Int)<=i
  ·rw[if_pos h1]at h
   have e:(i+n).toNat=j:=Wa4.inj h;exact⟨by rw[seqIndex_neg (by omega) h1,e],by omega,h1,by omega⟩
  ·rw[if_neg h1]at h;cases h
theorem Zi6 {α:Type}{xs:List α}{i:Int}{v:α}(h:atI xs i=some v):∃j,seqIndex? i xs.length=some j/\xs[j]?=some v/\j<xs.length /\ -(xs.length:Int)<=i/\i<xs.length:=by
 unfold atI at h;cases e:ixN xs.length i with
 |none=>rw[e]at h;cases h
 |some j=>
  rw[e]at h;obtain⟨h1,h2,h3,h4⟩:=Znk e;exact⟨j,h1,h,h2,h3,h4⟩
theorem Zbk {α:Type}{xs:List α}{j:Nat}{v:α}(h:xs[j]?=some v):atI xs (j:Int)=some v:=by
 have hj:j<xs.length:=(Waf.mp h).1;have e:ixN xs.length (j:Int)=some j:=by
  unfold ixN;rw[if_pos (by omega),if_pos (by omega)];simp
 unfold atI;rw[e];exact h
def PlainIx (b:Expr):Prop:=∀o i,subscripted b false o i=operate [o,i] (getItem o i)
def IxR (X:Cx) (r:R2):Prop:=
 ∀(value slice:Expr) (pins:List (Addr × Obj)) (s:Shared) (σ:St) (H:Hp) (x y:V) (v u:Value) (Q:VK),Inv X pins σ H s->RelV x v->RelV y u->r x y H Q →
  subscripted slice false v u=operate [v,u] (getItem v u)->wpAny (model X.prog X.w) X.A (subscriptTail value slice v u) (EP X pins σ Q) X.xe s
def MtR (X:Cx) (id:String) (r:V->List V->Hp->VK->Prop):Prop:=
 ∀(pins:List (Addr × Obj)) (s:Shared) (σ:St) (H:Hp) (x:V) (xs:List V) (v:Value) (us:List Value) (Q:VK),Inv X pins σ H s->RelV x v->Vals xs us->r x xs H Q →
  wpAny (model X.prog X.w) X.A (call (.builtin id) (v::us)) (EP X pins σ Q) X.xe s
section
variable {X:Cx}{a b:Expr}{ta tb:TE}{pos:Pos}
theorem IxR.or {r r':R2}(h:IxR X r) (h':IxR X r'):IxR X (λx y H Q=>r x y H Q\/r' x y H Q):=by
 intro value slice pins s σ H x y v u Q I rx ry q hs;rcases q with q|q
 ·exact h value slice pins s σ H x y v u Q I rx ry q hs
 ·exact h' value slice pins s σ H x y v u Q I rx ry q hs
theorem Zar {r:R2}(hr:IxR X r) (ha:PE X a ta) (hb:PE X b tb) (hs:PlainIx b):PE X (.Subscript a b pos) (tOp r ta tb):=by
 intro pins s σ H Q I h;exact Subscript_ (binT ha hb I h λv u s2 x y H2 I2 rx ry q=>hr a b pins s2 σ H2 x y v u Q I2 rx ry q (hs _ _))
def rIxL (K:W.Frag):R2:=λx y H Q=>∃p xs i v,x=.ref p/\y=.int i/\SqL K H p xs/\atI xs i=some v/\Q v H
def rIxT (K:W.Frag):R2:=λx y H Q=>∃p xs i v,x=.ref p/\y=.int i/\SqT K H p xs/\atI xs i=some v/\Q v H
def rIxS:R2:=λx y H Q=>∃z i c,x=.str z/\y=.int i/\z.length<=sizeLine/\atI z.cps.toList i=some c/\Q (.str ⟨#[c]⟩) H
theorem Zsb:IxR X (rIxL X.K):=by
 intro value slice pins s σ H x y v u Q I rx ry h hs;obtain⟨p,xs,i,z,rfl,rfl,hq,he,q⟩:=h;cases rx;obtain⟨t,rfl⟩:=ry;obtain⟨its,r,pl,hz⟩:=I.list hq;obtain⟨j,h1,h2,h3,h4,h5⟩:=Zi6 he;obtain⟨w,ew,rw'⟩:=r.get h2;have hl:=r.length;have hn:=line63;have fin:EP X pins σ Q w s:=⟨z,H,I,rw',q⟩;by_cases h0:0<=i
 ·have hj:i.toNat=j:=by
   rw[seqIndex_of h0 h5]at h1;exact Wa4.inj h1
  exact item_listR pl.isList h0 (by omega) (by rw[hj];simpa using ew) fin hs
 ·have hj:(i+(its.toArray.size:Int)).toNat=j:=by
   rw[seqIndex_neg (by omega) h4]at h1;rw[Wag,<- hl];exact Wa4.inj h1
  exact subscriptTail_builtinR (x:=w) pl.isList.typeIs slot_list_getitem.lookup
   (wpAny_getItem_list_neg (Q:=λr s'=>r=w/\EP X pins σ Q r s') pl.isList (by omega) (by rw[Wag] <;> omega) (by omega) (by rw[hj];simpa using ew) ⟨rfl,fin⟩) hs
theorem Ztz:IxR X (rIxT X.K):=by
 intro value slice pins s σ H x y v u Q I rx ry h hs;obtain⟨p,xs,i,z,rfl,rfl,hq,he,q⟩:=h;cases rx;obtain⟨t,rfl⟩:=ry;obtain⟨its,r,pl,hz⟩:=I.tuple hq;obtain⟨j,h1,h2,h3,h4,h5⟩:=Zi6 he;obtain⟨w,ew,rw'⟩:=r.get h2;have hl:=r.length;have hn:=line63;have fin:EP X pins σ Q w s:=⟨z,H,I,rw',q⟩;exact subscriptTail_builtinR (x:=w) pl.typeIs slot_tuple_getitem.lookup
  (getItem_tuple (j:=j) (Q:=λr s'=>r=w/\EP X pins σ Q r s') pl (by omega) (by omega) (by rw[Wag,<- hl];exact h1) (by simpa using ew) ⟨rfl,fin⟩) hs
theorem Zvm:IxR X rIxS:=by
 intro value slice pins s σ H x y v u Q I rx ry h hs;obtain⟨z,i,c,rfl,rfl,hz,he,q⟩:=h;obtain⟨t,rfl⟩:=rx;obtain⟨t',rfl⟩:=ry;obtain⟨j,h1,h2,h3,h4,h5⟩:=Zi6 he;have hl:z.cps.toList.length=z.length:=by simp[Str.length]
 rw[hl]at h1 h4 h5;have hn:=line63;exact tail_any (typeIs_str s z t) slot_str_getitem.lookup (getItem_str (c:=c) (by
  have e1:decide (i < -(2 ^ 63:Int))=false:=decide_eq_false (by omega);have e2:decide (i ≥ 2 ^ 63)=false:=decide_eq_false (by omega);rw[e1,e2,Bool.or_false]) (by rw[h1];simpa using h2) ⟨.str ⟨#[c]⟩,H,I.tok _,⟨_,rfl⟩,q⟩) hs
def rIx (K:W.Frag):R2:=λx y H Q=>rIxL K x y H Q\/rIxT K x y H Q\/rIxS x y H Q
theorem Zua:IxR X (rIx X.K):=Zsb.or (Ztz.or Zvm)
theorem Zlk (its:List Value) (n j:Nat) (u:Value):Obj.mapSeq (·.setIfInBounds j u) { cls:=.type "list",data:=.seq its.toArray n } = { cls:=.type "list",data:=.seq (its.set j u).toArray n }:=by
 simp[Obj.mapSeq]
theorem Inv.lst {pins:List (Addr × Obj)}{σ:St}{H:Hp}{s:Shared}{p:Addr}{xs:List V}(I:Inv X pins σ H s) (h:H p=some (.lst xs)) :
  ∃(its:List Value) (n:Nat),Vals xs its/\s.heap.get? p=some { cls:=.type "list",data:=.seq its.toArray n } /\ xs.length<=sizeLine:=by
 obtain⟨z,its,n,r,e⟩:=I.hok p _ h;exact⟨its,n,r,e,z⟩
theorem Inv.lstUpd {pins:List (Addr × Obj)}{σ:St}{H:Hp}{s:Shared}{p:Addr}{xs ys:List V}{its its':List Value}{n n':Nat}{f:Obj->Obj}(I:Inv X pins σ H s) (h:H p=some (.lst xs))
  (ho:s.heap.get? p=some { cls:=.type "list",data:=.seq its.toArray n }) (hf:f { cls:=.type "list",data:=.seq its.toArray n } = { cls:=.type "list",data:=.seq its'.toArray n' }) (r:Vals ys its') (hz:ys.length<=sizeLine) (t:Nat) :
  Inv X pins σ (upd H p (.lst ys)) { s with heap:=s.heap.update p f,toks:=t }:=by
 have e:(s.heap.update p f).get? p=some { cls:=.type "list",data:=.seq its'.toArray n' }:=by
  rw[Wcx f ho (by rw[hf] <;> rfl),hf]
 refine I.write (x:=p) (e:=p) (by rw[h];trivial) (.inl rfl) (λb u hb q=>(Wcg _ _ (Ne.symm hb)).trans q) ⟨_,e⟩ ?_;exact⟨hz,its',n',r,e⟩
def rSetL:V->V->V->Hp->(Hp->Prop)->Prop:=λo i v H Q=>∃p xs k j,o=.ref p/\i=.int k/\H p=some (.lst xs)/\ixN xs.length k=some j/\Q (upd H p (.lst (xs.set j v)))
theorem Zpq:PSet X rSetL:=by
 intro pins s σ H o i v ov iv u Q I ro ri rv h;obtain⟨p,xs,k,j,rfl,rfl,hp,hj,q⟩:=h;cases ro;obtain⟨t,rfl⟩:=ri;obtain⟨its,n,r,ho,hz⟩:=I.lst hp;obtain⟨h1,h2,h3,h4⟩:=Znk hj;have hl:=r.length;have hn:=line63;have I':Inv X pins σ (upd H p (.lst (xs.set j v))) { s with heap:=s.heap.update p (Obj.mapSeq (·.setIfInBounds j u)) }:=
  I.lstUpd hp ho (Zlk its n j u) (r.set rv j) (by rw[Wby];exact hz) s.toks
 by_cases h0:0<=k
 ·have hk:k.toNat=j:=by
   rw[seqIndex_of h0 h4]at h1;exact Wa4.inj h1
  exact PySem.W.ki_setAt ho h0 (by omega) (by rw[Wag,<- hl];exact h4) (by rw[hk];exact⟨_,I',q⟩)
 ·have hk:(k+(its.toArray.size:Int)).toNat=j:=by
   rw[seqIndex_neg (by omega) h3]at h1;rw[Wag,<- hl];exact Wa4.inj h1
  exact PySem.W.ki_setBack ho (by omega) (by rw[Wag,<- hl];exact h3) (by omega) (by rw[hk];exact⟨_,I',q⟩)
theorem Zig (lo hi:Option Int) (n:Nat):(sliceBounds lo hi none n).1=((HT.sIx n 0 lo:Nat):Int)/\(sliceBounds lo hi none n).2.1=((HT.sIx n n hi:Nat):Int)/\(sliceBounds lo hi none n).2.2=1:=by
 refine⟨?_,?_,rfl⟩
 ·cases lo with
  |none=>simp[sliceBounds,HT.sIx]
  |some i=>
   simp only[sliceBounds,HT.sIx,Option.getD_none,show (1:Int) > 0 by decide,if_true];by_cases h:i<0
   ·simp only[h,if_true] <;> omega
   ·simp only[h,if_false] <;> omega
 ·cases hi with
  |none=>simp[sliceBounds,HT.sIx]
  |some i=>
   simp only[sliceBounds,HT.sIx,Option.getD_none,show (1:Int) > 0 by decide,if_true];by_cases h:i<0
   ·simp only[h,if_true] <;> omega
   ·simp only[h,if_false] <;> omega
theorem Zh0 (its:List Value) (lo hi:Option Int):slicePick its.toArray lo hi none=((its.drop (HT.sIx its.length 0 lo)).take (HT.sIx its.length its.length hi-HT.sIx its.length 0 lo)).toArray:=by
 obtain⟨h1,h2,h3⟩:=Zig lo hi its.toArray.size;unfold slicePick;rw[h1,h2,h3];simp only[sliceRange_one,pick_run,Wag] <;> rfl
def rSlL (K:W.Frag):V->Option Int->Option Int->Hp->VK->Prop:=λx lo hi H Q=>∃a xs,x=.ref a/\SqL K H a xs/\∀p,H p=none->Q (.ref p) (upd H p (.lst (cutV xs lo hi)))
theorem Zrt:SlR X (rSlL X.K):=by
 intro pins s σ H x v vl vu lo hi sl Q I rx hs pl pu h;obtain⟨a,xs,rfl,hx,q⟩:=h;cases rx;obtain⟨its,r,ht,hz⟩:=I.list hx;have hlen:=r.length;refine⟨"list",_,slot_list_getitem.lookup,ht.isList.typeIs,?_⟩;refine wpAny_getItem_list_slice ht.isList hs pl pu .none (by simp) ?_ (by rw[Wag] <;> omega)
 rw[Zh0,<- hlen];refine⟨.ref s.heap.objs.size,_,I.laid (t':=s.toks) (o:=.lst (cutV xs lo hi)) (λb ob q=>Wae _ q) (Wah _) ?_,rfl,q _ (I.hok.fresh (Wah _))⟩;exact⟨Wbu (Zf8 xs lo hi) hz,_,0,(r.drop (HT.sIx xs.length 0 lo)).take (HT.sIx xs.length xs.length hi-HT.sIx xs.length 0 lo),Wal _ rfl⟩
def flatV:V->Bool
 |.non=>true
 |.bl _=>true
 |.int _=>true
 |.str _=>true
 |_=>false
def eqV:V->V->Bool
 |.non,.non=>true
 |.bl a,.bl b=>a == b
 |.bl a,.int b=>(if a then 1 else 0) == b
 |.int a,.bl b=>a == (if b then 1 else 0)
 |.int a,.int b=>a == b
 |.str a,.str b=>a == b
 |_,_=>false
theorem Zq7 {A:Around}{s:Shared}{y x:V}{u v:Value}(ry:RelV y u) (rx:RelV x v) (fy:flatV y=true) (fx:flatV x=true):SeqAt.EqAt A s u v (eqV y x):=by
 cases y with
 |non=>
  cases ry;cases x with
  |non=>cases rx;exact SeqAt.EqAt.same _
  |bl b=>cases rx;exact SeqAt.EqAt.none_bool b
  |int b=>obtain⟨t,rfl⟩:=rx;exact SeqAt.EqAt.none_int b t
  |str b=>obtain⟨t,rfl⟩:=rx;exact SeqAt.EqAt.none_str b t
  |_=>exact absurd (show false=true from fx) Was
 |bl a=>
  cases ry;cases x with
  |non=>cases rx;exact SeqAt.EqAt.bool_none a
  |bl b=>cases rx;exact SeqAt.EqAt.bool_bool a b
  |int b=>obtain⟨t,rfl⟩:=rx;exact SeqAt.EqAt.bool_int a b t
  |str b=>obtain⟨t,rfl⟩:=rx;exact SeqAt.EqAt.bool_str a b t
  |_=>exact absurd (show false=true from fx) Was
 |int a=>
  obtain⟨t',rfl⟩:=ry;cases x with
  |non=>cases rx;exact SeqAt.EqAt.int_none a t'
  |bl b=>cases rx;exact SeqAt.EqAt.int_bool a t' b
  |int b=>obtain⟨t,rfl⟩:=rx;exact SeqAt.EqAt.int_int a t' b t
  |str b=>obtain⟨t,rfl⟩:=rx;exact SeqAt.EqAt.int_str a t' b t
  |_=>exact absurd (show false=true from fx) Was
 |str a=>
  obtain⟨t',rfl⟩:=ry;cases x with
  |non=>cases rx;exact SeqAt.EqAt.str_none a t'
  |bl b=>cases rx;exact SeqAt.EqAt.str_bool a t' b
  |int b=>obtain⟨t,rfl⟩:=rx;exact SeqAt.EqAt.str_int a t' b t
  |str b=>obtain⟨t,rfl⟩:=rx;exact SeqAt.EqAt.str_str a t' b t
  |_=>exact absurd (show false=true from fx) Was
 |_=>exact absurd (show false=true from fy) Was
def eqU (x:V) (u:Value):Bool:=match u with
 |.none=>eqV .non x
 |.bool b=>eqV (.bl b) x
 |.int i _=>eqV (.int i) x
 |.str z _=>eqV (.str z) x
 |_=>false
theorem Zku {x y:V}{u:Value}(r:RelV y u) (f:flatV y=true):eqU x u=eqV y x:=by
 cases y with
 |non=>cases r;rfl
 |bl b=>cases r;rfl
 |int i=>obtain⟨t,rfl⟩:=r;rfl
 |str z=>obtain⟨t,rfl⟩:=r;rfl
 |_=>exact absurd (show false=true from f) Was
theorem Zjk {x:V}:∀{xs:List V}{us:List Value},Vals xs us->xs.all flatV=true->us.any (eqU x)=xs.any λy=>eqV y x
 |_,_,.nil,_=>rfl
 |y::xs,u::us,.cons r t,f=>by
  rw[Wdk,Wch]at f;rw[Wc0,Wc0,Zku r f.1,Zjk t f.2]
theorem Zhi {A:Around}{s:Shared}{x:V}{v:Value}(rx:RelV x v) (fx:flatV x=true):∀{xs:List V}{us:List Value},Vals xs us->xs.all flatV=true->∀u∈us,SeqAt.EqAt A s u v (eqU x u)
 |_,_,.nil,_=>λu hu=>by cases hu
 |y::xs,u::us,.cons r t,f=>λu' hu=>by
  rw[Wdk,Wch]at f;rcases Wat.mp hu with rfl|hu
  ·rw[Zku r f.1];exact Zq7 r rx f.1 fx
  ·exact Zhi rx fx t f.2 u' hu
def inV (x:V) (xs:List V):Bool:=xs.any λy=>eqV y x
def rIn (K:W.Frag) (neg:Bool):R2:=λx y H Q=>∃p xs,y=.ref p/\(SqL K H p xs\/SqT K H p xs)/\flatV x=true/\xs.all flatV=true/\Q (.bl (if neg then !inV x xs else inV x xs)) H
theorem Zij:OpR X (compareOp .NotIn) (rIn X.K true):=by
 intro pins s σ H x y v u Q I rx ry h;obtain⟨p,xs,rfl,hq,fx,fs,q⟩:=h;cases ry;rcases hq with hq|hq
 ·obtain⟨its,r,pl,hz⟩:=I.list hq
  refine SeqAt.notIn_listAt (eqU x) pl.isList (λw hw=>Zhi rx fx r fs w (by simpa using hw)) ⟨.bl _,H,I,rfl,?_⟩;rw[show its.toArray.any (eqU x)=its.any (eqU x) by simp,Zjk r fs];exact q
 ·obtain⟨its,r,pl,hz⟩:=I.tuple hq
  refine SeqAt.notIn_tupleAt (eqU x) pl (λw hw=>Zhi rx fx r fs w (by simpa using hw)) ⟨.bl _,H,I,rfl,?_⟩;rw[show its.toArray.any (eqU x)=its.any (eqU x) by simp,Zjk r fs];exact q
theorem Zh8:CallR X (.builtin "len") (λxs H Q=>∃p ys,xs=[.ref p]/\(SqL X.K H p ys\/SqT X.K H p ys)/\Q (.int ys.length) H):=by
 intro pins s σ H xs us Q I r h;obtain⟨p,ys,rfl,hq,q⟩:=h;obtain⟨u,rfl,rx⟩:=vals1 r;cases rx;have hn:=line63;rcases hq with hq|hq
 ·obtain⟨its,r',pl,hz⟩:=I.list hq
  have hlen:=r'.length;exact Calls.call_len_list pl.isList (by simp only[Wag] <;> omega) ⟨.int ys.length,H,I.tok _,⟨s.toks+1,by rw[Wag,hlen]⟩,q⟩
 ·obtain⟨its,r',pl,hz⟩:=I.tuple hq
  have hlen:=r'.length;exact len_tuple pl (by simp only[Wag] <;> omega) ⟨.int ys.length,H,I.tok _,⟨s.toks+1,by rw[Wag,hlen]⟩,q⟩
theorem CallR.or {f:Value}{r r':List V->Hp->VK->Prop}(h:CallR X f r) (h':CallR X f r'):CallR X f (λxs H Q=>r xs H Q\/r' xs H Q):=by
 intro pins s σ H xs us Q I rs q;rcases q with q|q
 ·exact h pins s σ H xs us Q I rs q
 ·exact h' pins s σ H xs us Q I rs q
theorem Zik:CallR X (.type "list") (λxs H Q=>∃p ys,xs=[.ref p]/\(SqL X.K H p ys\/SqT X.K H p ys)/\∀l,H l=none->Q (.ref l) (upd H l (.lst ys))):=by
 intro pins s σ H xs us Q I r h;obtain⟨p,ys,rfl,hq,q⟩:=h;obtain⟨u,rfl,rx⟩:=vals1 r;cases rx;have fin:∀(its:List Value),Vals ys its->ys.length<=sizeLine->∀(h':Heap) (c':Nat),(∀b o',s.heap.get? b=some o' -> h'.get? b=some o') →
   h'.get? s.heap.objs.size=some { cls:=.type "list",dict:=none,data:=.seq its.toArray c',slots:=#[] } -> EP X pins σ Q (.ref s.heap.objs.size) { s with heap:=h' }:=λits r' hz h' c' kp e=>
  ⟨.ref s.heap.objs.size,_,I.laid (t':=s.toks) kp (Wah _) (show ObjOk X.prog X.w _ h' _ (.lst ys) from ⟨hz,its,c',r',e⟩),rfl,q _ (I.hok.fresh (Wah _))⟩
 rcases hq with hq|hq
 ·obtain⟨its,r',pl,hz⟩:=I.list hq
  have hlen:=r'.length;obtain⟨o,ho,hc,n,hd⟩:=pl.isList;exact call_list_seq p (.inl rfl) ho hc hd (λh' c' kp e=>fin its r' hz h' c' kp e) (by simp only[Wag] <;> omega)
 ·obtain⟨its,r',pl,hz⟩:=I.tuple hq
  have hlen:=r'.length;obtain⟨o,ho,hc,n,hd⟩:=pl;exact call_list_seq p (.inr rfl) ho hc hd (λh' c' kp e=>fin its r' hz h' c' kp e) (by simp only[Wag] <;> omega)
theorem Zhq:CallR X (.type "tuple") (λxs H Q=>∃p ys,xs=[.ref p]/\((SqL X.K H p ys/\∀l,H l=none->Q (.ref l) (upd H l (.tup ys)))\/(SqT X.K H p ys/\Q (.ref p) H))):=by
 intro pins s σ H xs us Q I r h;obtain⟨p,ys,rfl,h⟩:=h;obtain⟨u,rfl,rx⟩:=vals1 r;cases rx;rcases h with ⟨hq,q⟩|⟨hq,q⟩
 ·obtain⟨its,r',pl,hz⟩:=I.list hq
  have hlen:=r'.length;refine call_tuple_list pl.isList (λh' kp=>?_) (by simp only[Wag] <;> omega)
  have I1:Inv X pins σ H { s with heap:=h' }:=I.kept (t':=s.toks) kp;have I2:Inv X pins σ (upd H h'.objs.size (.tup ys)) { s with heap:=h'.push { cls:=.type "tuple",data:=.seq its.toArray } }:=
   I1.laid (t':=s.toks) (λb o e=>Wae _ e) (Wah _) (show ObjOk X.prog X.w _ _ _ (.tup ys) from ⟨hz,its,r',IsTupN.new _ _⟩)
  exact⟨.ref h'.objs.size,_,I2,rfl,q _ (I1.hok.fresh (Wah _))⟩
 ·obtain⟨its,r',pl,hz⟩:=I.tuple hq
  exact call_tuple_same pl ⟨.ref p,H,I,rfl,q⟩
def tyV (K:W.Frag) (T:String) (x:V) (H:Hp):Prop:=match x with
 |.str _=>T = "str"
 |.int _=>T = "int"
 |.ref p=>(T = "list" /\ ∃xs,SqL K H p xs)\/(T = "tuple" /\ ((∃o,K.lookup p=some o/\o.cls=.type "tuple" /\ o.dict=none)\/∃xs,H p=some (.tup xs))) ∨
   (T = "dict" /\ ((∃kvs,H p=some (.dK kvs))\/∃kvs,H p=some (.dT kvs)))\/(T = "set" /\ ∃S n,H p=some (.set S n))
 |_=>False
theorem Znh {pins:List (Addr × Obj)}{σ:St}{H:Hp}{s:Shared}{T:String}{x:V}{v:Value}(I:Inv X pins σ H s) (r:RelV x v) (ty:tyV X.K T x H) :
  s.TypeIs v T/\∀a,v=.ref a->∃ob,s.heap.get? a=some ob/\ob.dict=none:=by
 cases x with
 |str z=>
  obtain⟨t,rfl⟩:=r;cases (show T = "str" from ty);exact⟨typeIs_str s z t,λ_ e=>nomatch e⟩
 |int i=>
  obtain⟨t,rfl⟩:=r;cases (show T = "int" from ty);exact⟨typeIs_int s i t,λ_ e=>nomatch e⟩
 |ref p=>
  cases r;rcases ty with ⟨rfl,xs,hq⟩|⟨rfl,(⟨o,hk,hc,hd⟩|⟨xs,hk⟩)⟩|⟨rfl,hk⟩|⟨rfl,S,n,hk⟩
  ·obtain⟨its,_,pl,_⟩:=I.list hq
   refine⟨pl.isList.typeIs,λa e=>?_⟩;cases e;obtain⟨o,n,e,c,hd,_⟩:=pl;exact⟨o,e,hd⟩
  ·refine⟨⟨o,I.kIn p o hk,hc⟩,λa e=>?_⟩
   cases e;exact⟨o,I.kIn _ o hk,hd⟩
  ·obtain⟨_,_,_,o,e,⟨hc,_⟩,hd⟩:=I.hok p _ hk
   refine⟨⟨o,e,hc⟩,λa e2=>?_⟩;cases e2;exact⟨o,e,hd⟩
  ·have z:∃o,s.heap.get? p=some o/\o.ExactDict:=by
    rcases hk with ⟨kvs,hk⟩|⟨kvs,hk⟩
    ·obtain⟨_,_,_,_,o,_,_,e,ex,_⟩:=I.hok p _ hk
     exact⟨o,e,ex⟩
    ·obtain⟨_,_,_,_,o,_,_,e,ex,_⟩:=I.hok p _ hk
     exact⟨o,e,ex⟩
   obtain⟨o,e,ex⟩:=z;refine⟨⟨o,e,ex.1⟩,λa e2=>?_⟩;cases e2;exact⟨o,e,ex.2.1⟩
  ·obtain⟨o,_,_,_,e,ex,_⟩:=I.hok p _ hk
   refine⟨⟨o,e,ex.1⟩,λa e2=>?_⟩;cases e2;exact⟨o,e,ex.2.1⟩
 |_=>exact False.elim ty
def tBM0 (K:W.Frag) (T:String) (r:V->List V->Hp->VK->Prop) (to:TE):TE:=λσ H Q=>to σ H λx H1=>tyV K T x H1/\r x [] H1 Q
def tBM (K:W.Frag) (T:String) (r:V->List V->Hp->VK->Prop) (to:TE) (t:TA):TE:=λσ H Q=>to σ H λx H1=>tyV K T x H1/\t σ H1 λxs H2=>r x xs H2 Q
variable {o e:Expr}{es:List Expr}{to:TE}{t:TA}{name:Str}{apos cpos:Pos}{T id:String}{r:V->List V->Hp->VK->Prop}
theorem Zvz (pa:PlainAttrs T) (slot:Slot T name id) (hty:typeOf (.builtin id)=pure (.type "method_descriptor")) (hm:MtR X id r) (ho:PE X o to)
  (hbase:attributeBase o name X.env (eval o X.env)=eval o X.env:=by rfl) (hline:(apos.endLine == cpos.line)=true:=by rfl):PE X (.Call (.Attribute o name apos) [] [] cpos) (tBM0 X.K T r to):=by
 intro pins s σ H Q I h;refine wpAny_Call_method0_late hbase hline (thn (ho pins s σ H _ I h) λv s1 ⟨x,H1,I1,r1,ty,q1⟩=>?_);obtain⟨h1,h2⟩:=Znh I1 r1 ty;exact⟨T,id,pa,slot,hty,h1,h2,Calls.callWith_builtin rfl (PySem.evalArgs_none (hm pins s1 σ H1 x [] v [] Q I1 r1 .nil q1))⟩
theorem Zwh (pa:PlainAttrs T) (slot:Slot T name id) (hty:typeOf (.builtin id)=pure (.type "method_descriptor")) (hm:MtR X id r) (ho:PE X o to) (ha:PA X (e::es) t)
  (hbase:attributeBase o name X.env (eval o X.env)=eval o X.env:=by rfl)
  (hfew:((backTo cpos (starEach (e::es) X.env)).all (λx=>!x.1) && (backToKw cpos (keywordEach [] X.env)).all (λx=>x.1.isSome)
   && decide ((e::es).length+([]:List Keyword).length+(if ([]:List Keyword).isEmpty then 0 else 1)<30))=true:=by rfl)
  (hline:(apos.endLine == cpos.line)=true:=by rfl) (hs:starEach (e::es) X.env=(false,eval e X.env)::starEach es X.env:=by rfl) (hplain:(backTo cpos (starEach es X.env)).any (·.1)=false:=by rfl) :
  PE X (.Call (.Attribute o name apos) (e::es) [] cpos) (tBM X.K T r to t):=by
 intro pins s σ H Q I h;refine wpAny_Call_method_late hbase hfew hline rfl (thn (ho pins s σ H _ I h) λv s1 ⟨x,H1,I1,r1,ty,q1⟩=>?_);obtain⟨h1,h2⟩:=Znh I1 r1 ty;refine⟨T,id,pa,slot,hty,h1,h2,?_⟩;have hA:=ha cpos pins s1 σ H1 _ I1 q1;rw[hs]at hA ⊢;refine Calls.callWith_builtin (by show (false || (backTo cpos (starEach es X.env)).any (·.1))=false;rw[hplain] <;> rfl) (Calls.evalArgs_plain ?_)
 exact thn hA λus s2 ⟨vs,H2,I2,r2,q2⟩=>hm pins s2 σ H2 x vs v us Q I2 r1 r2 q2
end
end L2
namespace L2
open PySem PySem.Spec PyProof.Rows
def MtM (X:Cx) (id:String) (r:V->List V->Hp->VK->Prop):Prop:=
 ∀(pins:List (Addr × Obj)) (s:Shared) (σ:St) (H:Hp) (x:V) (xs:List V) (v:Value) (us:List Value) (Q:VK),Inv X pins σ H s->RelV x v->Vals xs us->r x xs H Q →
  wpAny (model X.prog X.w) X.A (call (.builtin id) (v::us)) (EP X pins σ Q) X.xe s
theorem Vals.one:∀{x:V}{us:List Value},Vals [x] us->∃u,us=[u]/\RelV x u:=by
 intro x us h;cases h with|cons r t=>cases t;exact⟨_,rfl,r⟩
theorem Vals.two:∀{x y:V}{us:List Value},Vals [x,y] us->∃u v,us=[u,v]/\RelV x u/\RelV y v:=by
 intro x y us h;cases h with|cons r t=>cases t with|cons q t=>cases t;exact⟨_,_,rfl,r,q⟩
theorem Vals.zero:∀{us:List Value},Vals [] us->us=[]
 |_,.nil=>rfl
theorem Vals.dropLast {xs:List V}{us:List Value}(h:Vals xs us):Vals xs.dropLast us.dropLast:=by
 induction h with
 |nil=>exact .nil
 |cons r t ih=>
  cases t with
  |nil=>exact .nil
  |cons q t'=>exact .cons r ih
theorem Vals.reverse {xs:List V}{us:List Value}(h:Vals xs us):Vals xs.reverse us.reverse:=by
 induction h with
 |nil=>exact .nil
 |cons r t ih=>rw[Wdh,Wdh];exact Vals.append ih (.cons r .nil)
theorem Zlc {α:Type}(l:List α):l.eraseIdx (l.length-1)=l.dropLast:=by
 induction l with
 |nil=>rfl
 |cons a r ih=>
  cases r with
  |nil=>rfl
  |cons b r=>
   have e:(a::b::r).length-1=((b::r).length-1)+1:=by
    have h1:(a::b::r).length=r.length+2:=rfl;have h2:(b::r).length=r.length+1:=rfl;omega
   rw[e,List.eraseIdx_cons_succ,ih]
   all_goals rfl
section
variable {X:Cx}{pins:List (Addr × Obj)}{σ:St}{H:Hp}{s:Shared}{l b:Addr}{xs ys zs:List V}
theorem Inv.lset {its its':List Value}{n:Nat}{f:Array Value->Array Value}{t':Nat}(I:Inv X pins σ H s) (hH:H l=some (.lst xs))
  (e:s.heap.get? l=some { cls:=.type "list",data:=.seq its.toArray n }) (hf:f its.toArray=its'.toArray) (hv:Vals ys its') (hz:ys.length<=sizeLine) :
  Inv X pins σ (upd H l (.lst ys)) { s with heap:=s.heap.update l (Obj.mapSeq f),toks:=t' }:=by
 have q:=PySem.IsL.update e f;rw[hf]at q;refine I.write (x:=l) (e:=l) (by rw[hH];exact trivial) (.inl rfl) (λb' u hb hu=>(Wcg s.heap (Obj.mapSeq f) (Ne.symm hb)).trans hu) ⟨_,q⟩ ?_;exact⟨hz,its',_,hv,q⟩
theorem Inv.lnew {its:List Value}{t':Nat}(I:Inv X pins σ H s) (hv:Vals ys its) (hz:ys.length<=sizeLine) :
  Inv X pins σ (upd H s.heap.objs.size (.lst ys)) { s with heap:=s.heap.push { cls:=.type "list",data:=.seq its.toArray },toks:=t' }:=
 I.laid (λ_ _ q=>Wae _ q) (Wah _) ⟨hz,its,0,hv,Wal _ rfl⟩
theorem Inv.fresh (I:Inv X pins σ H s):H s.heap.objs.size=none:=I.hok.fresh (Wah _)
theorem Inv.lstM (I:Inv X pins σ H s) (hH:H l=some (.lst xs)):xs.length<=sizeLine/\∃(its:List Value) (n:Nat),Vals xs its/\xs.length=its.length/\s.heap.get? l=some { cls:=.type "list",data:=.seq its.toArray n }:=by
 obtain⟨z,its,n,r,e⟩:=I.hok l _ hH;exact⟨z,its,n,r,r.length,e⟩
end
section
variable {X:Cx}
def rAppend:V->List V->Hp->VK->Prop:=λx vs H Q=>∃l xs y,x=.ref l/\vs=[y]/\H l=some (.lst xs)/\xs.length<sizeLine/\Q .non (upd H l (.lst (xs++[y])))
theorem Zdr:MtM X "list.append" rAppend:=by
 intro pins s σ H x vs v us Q I rx rv h;obtain⟨l,xs,y,rfl,rfl,hH,hz,q⟩:=h;cases rx;obtain⟨u,rfl,ru⟩:=rv.one;obtain⟨z,its,n,r,hl,e⟩:=I.lstM hH;refine call_meets F.slot_list_append ⟨_,e,rfl⟩ F.entry_list_append (F.args_list_append_2 _ _) (PySem.list_append l its.toArray n u (by rw[Wag];omega)) ⟨e,?_⟩;refine⟨.non,_,I.lset (its':=its++[u]) hH e (by simp) (r.append (.cons ru .nil)) ?_,rfl,q⟩;rw[Wao,Wbb];omega
def rPop:V->List V->Hp->VK->Prop:=λx vs H Q=>∃l xs y,x=.ref l/\vs=[]/\H l=some (.lst xs)/\xs[xs.length-1]?=some y/\Q y (upd H l (.lst xs.dropLast))
theorem Zrl:MtM X "list.pop" rPop:=by
 intro pins s σ H x vs v us Q I rx rv h;obtain⟨l,xs,y,rfl,rfl,hH,hy,q⟩:=h;cases rx;have hus:=rv.zero;subst hus;obtain⟨z,its,n,r,hl,e⟩:=I.lstM hH;obtain⟨u,hu,ru⟩:=r.get hy;have hy':its.toArray[its.toArray.size-1]?=some u:=by
  show its.toArray[its.length-1]?=some u;rw[<- Array.getElem?_toList,<- hl];exact hu
 refine call_meets F.slot_list_pop ⟨_,e,rfl⟩ F.entry_list_pop (F.args_list_pop_1 _) (MeetsSeq.list_pop_last l its.toArray n u hy' (by rw[Wag];omega)) ⟨e,?_⟩;refine⟨y,_,I.lset (its':=its.dropLast) hH e ?_ r.dropLast ?_,ru,q⟩
 ·show its.toArray.eraseIdxIfInBounds (its.toArray.size-1)=its.dropLast.toArray
  rw[Wag,List.eraseIdxIfInBounds_toArray,Zlc]
 ·rw[List.length_dropLast]
  omega
def rCat:R2:=λx y H Q=>∃l b xs zs,x=.ref l/\y=.ref b/\H l=some (.lst xs)/\H b=some (.lst zs)/\xs.length+zs.length<=sizeLine/\∀p,H p=none->Q (.ref p) (upd H p (.lst (xs++zs)))
theorem Zut:OpR X (binaryOp .Add) rCat:=by
 intro pins s σ H x y v u Q I rx ry h;obtain⟨l,b,xs,zs,rfl,rfl,hH,hB,hz,q⟩:=h;cases rx;cases ry;obtain⟨z,its,n,r,hl,e⟩:=I.lstM hH;obtain⟨z2,its2,n2,r2,hl2,e2⟩:=I.lstM hB;refine PySem.P.add_list e e2 ?_ (by rw[Wag,Wag];omega);have ea:its.toArray++its2.toArray=(its++its2).toArray:=by simp
 rw[ea];exact⟨.ref _,_,I.lnew (t':=s.toks) (r.append r2) (by rw[Wao];omega),rfl,q _ I.fresh⟩
end
end L2
namespace Att
open PySem PySem.W PySem.Calls PyProof.Rows
theorem Zfx {P:Params}{h:Heap}:∀(ns:List Int) (vs:List Value),WellAll P h vs (ns.map WData.int)->IntsAre vs ns:=by
 intro ns
 induction ns with
 |nil=>
  intro vs w;rw[Wdt]at w;cases w;exact .nil
 |cons n ns ih=>
  intro vs w;rw[Wa3]at w;cases w with
  |cons a b=>
   cases a;exact .cons _ _ (ih _ b)
theorem Zng {l:OpenLaw}{n:Nat}(hn:l.most=some n) {P:Params}{h:Heap}{args:List WData}{vals:List Value}
  (hpre:l.row.toRowW.claim.pre args=true) (hwl:WellAll P h vals args) :
  ∃a vs ns,vals=[Value.ref a]/\args=[WData.list (ns.map WData.int)]/\h.get? a=some { cls:=.type "list",data:=.seq vs.toArray } /\ IntsAre vs ns/\ns.length<=n:=by
 have hsh:WShape.hasAll [] args [.list .int]=true:=(pre_splitW hpre).1;have hc:l.pre.holds [] { args:=args } = true:=(pre_splitW hpre).2;obtain⟨d,r,rfl,h1,h2⟩:=hasAllW_cons hsh;obtain rfl:=hasAllW_nil h2;obtain⟨xs,rfl,h3⟩:=hasW_list h1;obtain⟨ns,rfl⟩:=items_int h3;have hlen:ns.length<=n:=by
  unfold OpenLaw.pre at hc;have h4:(WTm.not (.lt (.lit (.int (n:Int))) (.len (.arg 0)))).holds [] { args:=[.list (ns.map .int)] } = true:=by
   have h4:=(holds_andW hc).1;rw[hn]at h4;exact h4
  have h5:=condW_of h4 (w_not (w_lt w_lit (w_len_list (w_arg rfl))));rw[Wab]at h5;refine Nat.le_of_not_lt λq=>?_;have q':(n:Int)<((ns.length:Nat):Int):=by omega
  first
   | (rw[decide_eq_true q']at h5;exact absurd h5 (by decide))
   | (simp at h5;omega)
 cases hwl with
 |cons w1 w2=>
  cases w2;cases w1 with
  |list ho hall=>exact⟨_,_,ns,rfl,rfl,ho,Zfx ns _ hall,hlen⟩
theorem Zn2 (l:OpenLaw) (args:List WData):l.row.toRowW.claim.post args (.bool true) args=true:=
 postW_of (r:=l.row.toRowW) (X:=(true == true))
  (show WShape.has [] (.bool true) .bool=true by first|rfl|decide|simp[WShape.has,WShape.arms,WShape.armsAll])
  (show (WTm.eq .res (.lit (.bool true))).value [] { args:=args,res:=some (.bool true),after:=args } = some (.bool (true == true)) from w_eq_bool (w_res rfl) w_lit) rfl
theorem attach_call {l:OpenLaw}{n:Nat}{q:Program}{loose:List Str}{XP:(Str->Option Value)->Heap->Prop}{YP:World->Heap->Prop}{d:DefRec}
  (hn:l.most=some n) (hdf:d.params.defaults=[])
  (call:∀(w:World) (s₀ s₁:Shared) (mg mb:Str->Option Value) (fa:Addr) (o:Obj) (pm cd doc:Value) (a:Addr) (vs:List Value) (ns:List Int),
   Ground q loose [] XP w s₀ mg mb s₁.heap->YP w s₁.heap →
   s₁.heap.get? fa=some o->o.data=.func (docDef d.name d.params d.body d.scope pm cd doc)->s₁.heap.CodeRec cd d.name->mg d.name=some (.ref fa) →
   s₁.heap.get? a=some { cls:=.type "list",data:=.seq vs.toArray } -> IntsAre vs ns->ns.length<=n->s₁.gens = #[] →
   codeAny (model l.prog w) callerA (.call (.ref fa) ⟨[.ref a],[]⟩) (λr s'=>r=.ok (.ret (.bool true))/\OldK s₁.heap s'.heap/\s'.os=s₁.os/\AllBare s'.gens) s₁) :
  WalkO q loose XP YP l.row.toRowW d [] (λf vs=>PySem.call f vs):=by
 intro w s₀ s₁ mg mb G Y fa o pm cd doc dV kV ho hd hcd hD hmg hg args vals as hpre hlay hrd hwl hlo;obtain rfl:dV=.none:=Dflts.none hD hdf;obtain rfl:kV=.none:=Dflts.noKw hD;obtain⟨a,vs,ns,rfl,rfl,hobj,hints,hlen⟩:=Zng hn hpre hwl;refine enter_call (codeAny_mono (call w s₀ s₁ mg mb fa o pm cd doc a vs ns G Y ho (fd_plain hd) hcd hmg hobj hints hlen hg) λr s' hq=>?_);obtain⟨rfl,h2,h3,h4⟩:=hq;exact⟨.inl ⟨.bool true,.bool true,[],rfl,λ_=>rfl,.bool true,Zn2 l _,λ_=>⟨List.Pairwise.nil,λ_ hm=>(nomatch hm)⟩⟩,h2,h3,h4⟩
end Att
namespace L2
open PySem PySem.Spec PyProof.Rows
theorem Zc4:∀{vs:List Value}{ns:List Int},IntsAre vs ns->Vals (ns.map V.int) vs
 |_,_,.nil=>.nil
 |_,_,.cons n t h=>.cons ⟨t,rfl⟩ (Zc4 h)
def Only (H:Hp):Prop:=∀b,H b=none\/∃o xs,H b=some (.frz o (.lst xs))
theorem Zps {P:Program}{w:World}{K:W.Frag}{mg mb:Str->Option Value}{CX:CXT}{k:Nat}{fa a:Addr}{fd:FuncData}{x:Str}{sp:Sp}{s₁:Shared}{vs:List Value}{ns:List Int}
  (KX:K.In s₁.heap) (hns:s₁.heap.Ns mainGlobals mg) (hb:s₁.heap.Ns builtinsNs mb) (hbb:∀x:Str,x ≠ "__name__" -> mb x=bootBuiltins x) (hlim:s₁.heap.NoLimit) (hg:s₁.gens = #[])
  (ha:s₁.heap.get? a=some { cls:=.type "list",data:=.seq vs.toArray }) (hi:IntsAre vs ns) (hl:ns.length<=sizeLine) (hr:Room k callerA)
  (F:∀base:Heap,K.In base->base.Ns mainGlobals mg->FnOk P w K mg base CX k fa fd [x] sp) (hbind:∀(s:Shared) (u:Value),BindsTo s fd ⟨[u],[]⟩ [(x,u)])
  (hsp:∀H:Hp,Only H->SqL K H a (ns.map V.int)->sp [.ref a] H (λv _=>v=.bl true) λ_ _ _=>False)
  (hCX:∀H e s',CX [] H s₁ (λ_ _ _=>False) e s' -> False) :
  codeAny (model P w) callerA (.call (.ref fa) ⟨[.ref a],[]⟩) (λr s'=>r=.ok (.ret (.bool true))/\OldK s₁.heap s'.heap/\s'.os=s₁.os/\AllBare s'.gens) s₁:=by
 have rv:=Zc4 hi;have lenV:=hi.length
 -- from an abstract heap in which nothing but the script may be tracked
 have core:∀H:Hp,Only H->SqL K H a (ns.map V.int)->HOk P w H s₁.heap->(∀b,H b≠none->b=a)->(H a≠none->K.lookup a=none) →
   codeAny (model P w) callerA (.call (.ref fa) ⟨[.ref a],[]⟩) (λr s'=>r=.ok (.ret (.bool true))/\OldK s₁.heap s'.heap/\s'.os=s₁.os/\AllBare s'.gens) s₁:=by
  intro H hO hS hok hA hK;have base_of:∀{b:Addr}{o:Obj},s₁.heap.get? b=some o->H b=none->(hidT s₁.heap H).get? b=some o:=λe n=>Zp2 e n;have noA:∀{b:Addr}{o:Obj}{es:Array DictEntry}{ep:Nat},s₁.heap.get? b=some o->o.data=.dict es ep->H b=none:=λ{b o es ep} e d=>by
   cases q:H b with
   |none=>rfl
   |some u=>
    have e':b=a:=hA b (by rw[q];simp);subst e';rw[ha]at e;cases e;have d':Data.seq vs.toArray _=Data.dict es ep:=d;cases d'
  have nsK:∀{b:Addr}{m:Str->Option Value},s₁.heap.Ns b m->(hidT s₁.heap H).Ns b m:=λ{b m} ⟨o,es,ep,e,d,r⟩=>⟨o,es,ep,base_of e (noA e d),d,r⟩;have hKb:K.In (hidT s₁.heap H):=λb o e=>base_of (KX b o e) (by
   cases q:H b with
   |none=>rfl
   |some u=>
    have e':b=a:=hA b (by rw[q];simp);subst e';rw[hK (by rw[q];simp)]at e;cases e)
  have hM:Mod K mg (hidT s₁.heap H):=⟨hKb,nsK hns,⟨mb,nsK hb,hbb⟩,let ⟨mc,h1,h2⟩:=hlim; ⟨mc,nsK h1,h2⟩⟩;have e0:Env0 P w K mg (hidT s₁.heap H) callerA [] s₁ H:=⟨rfl,hM,λb o e=>Zr1 e,Nat.le_of_eq (Znd _ _),trivial,λb hb=>absurd (show b∈([]:List Addr) from hb) (by simp),hok,.of_eq hg⟩;refine codeAny_mono ((F _ hKb (nsK hns)).run callerA [] s₁ H ⟨[.ref a],[]⟩ [.ref a] [.ref a] _ _ hr e0 (hbind s₁ (.ref a)) (.cons rfl .nil) (hsp H hO hS)) λr s' h=>?_;cases r with
  |error e=>exact(hCX H e s' h).elim
  |ok fl=>
   cases fl with
   |next=>exact False.elim h
   |brk=>exact False.elim h
   |cont=>exact False.elim h
   |ret u=>
    obtain⟨v,H',os,bare,un,hok',r',q⟩:=h;have q':v=.bl true:=q;subst q';obtain rfl:u=Value.bool true:=r';refine⟨rfl,OldK.of_keep λb o e=>?_,os,bare⟩;cases q:H b with
    |none=>exact un.keep b o e q (by intro z;exact absurd (show b∈([]:List Addr) from z) (by simp)) (by simp)
    |some u=>
     rcases hO b with z|⟨ob,xs,z⟩
     ·rw[q]at z;cases z
     ·have z2:=un.frzs b ob _ z
      obtain⟨e1,_⟩:=hok b _ z;obtain⟨e2,_⟩:=hok' b _ z2;rw[e]at e1;cases e1;exact e2
 cases hk:K.lookup a with
 |some o=>
  -- the script is one of the module's own objects
  have e:=KX a o hk;rw[ha]at e;cases e;refine core (λ_=>none) (λ_=>.inl rfl) (.inr ⟨_,vs.toArray,_,hk,rfl,rfl,rfl,by rw[Wag,lenV];exact hl,by simpa using rv⟩) (λb u z=>by have z':(none:Option HO)=some u:=z;cases z') (λb z=>absurd rfl z) λz=>absurd rfl z
 |none=>
  refine core (λb=>if b=a then some (.frz { cls:=.type "list",data:=.seq vs.toArray } (.lst (ns.map V.int))) else none) (λb=>?_) (.inl (.inr ⟨{ cls:=.type "list",data:=.seq vs.toArray },if_pos rfl⟩)) (λb u z=>?_) (λb z=>?_) λ_=>hk
  ·by_cases hb:b=a
   ·exact .inr ⟨_,_,if_pos hb⟩
   ·exact .inl (if_neg hb)
  ·by_cases hb:b=a
   ·have z':=(if_pos hb).symm.trans z
    cases z';subst hb;exact⟨ha,by rw[Wab];exact hl,vs,_,rv,ha⟩
   ·have z':=(if_neg hb).symm.trans z
    cases z'
  ·by_cases hb:b=a
   ·exact hb
   ·exact absurd (if_neg hb) z
end L2
namespace L2
open PySem PySem.Spec PyProof.Rows
theorem walk_of {l:PySem.W.OpenLaw}{n k:Nat}{q:Program}{loose:List Str}{XP:(Str->Option Value)->Heap->Prop}{YP:World->Heap->Prop}{d:DefRec}{K:Params->W.Frag}{CX:World->CXT}{sp:World->Sp}{x:Str}
  (hn:l.most=some n) (hn2:n<=sizeLine) (hdf:d.params.defaults=[]) (hr:Room k callerA)
  (hY:∀(w:World) (h:Heap),YP w h->(K w.params).In h)
  (F:∀(w:World) (mg:Str->Option Value) (fa:Addr) (h:Heap),(K w.params).In h->h.Ns mainGlobals mg->mg d.name=some (.ref fa) →
   ∃fd:FuncData,(∀(s:Shared) (u:Value),BindsTo s fd ⟨[u],[]⟩ [(x,u)]) ∧
    ∀base:Heap,(K w.params).In base->base.Ns mainGlobals mg->FnOk l.prog w (K w.params) mg base (CX w) k fa fd [x] (sp w))
  (hsp:∀(w:World) (H:Hp) (a:Addr) (ns:List Int),ns.length<=n->Only H->SqL (K w.params) H a (ns.map V.int)->sp w [.ref a] H (λv _=>v=.bl true) λ_ _ _=>False)
  (hCX:∀(w:World) (H:Hp) (s:Shared) (e:Value) (s':Shared),CX w [] H s (λ_ _ _=>False) e s' -> False) :
  PySem.W.WalkO q loose XP YP l.row.toRowW d [] (λf vs=>PySem.call f vs):=by
 refine Att.attach_call hn hdf λw s₀ s₁ mg mb fa o pm cd doc a vs ns G Y ho hd hcd hmg hobj hints hlen hg=>?_;have KX:=hY w _ Y;obtain⟨fd,hb,hF⟩:=F w mg fa _ KX G.T.g hmg;exact Zps KX G.T.g G.T.b G.T.builtins G.T.nolimit hg hobj hints (Wbu hlen hn2) hr hF hb (λH hO hS=>hsp w H a ns hlen hO hS) λH e s'=>hCX w H s₁ e s'
end L2
namespace L2
open PySem PySem.Spec PyProof.Rows
def defArgs (s:Stmt):Arguments:=match s with
 |.FunctionDef _ a _ _ _ _ _ _ _ _=>a
 |_=>{ posonlyargs:=[],args:=[],vararg:=none,kwonlyargs:=[],kw_defaults:=[],kwarg:=none,defaults:=[] }
def defBody (s:Stmt):List Stmt:=match s with
 |.FunctionDef _ _ b _ _ _ _ _ _ _=>b
 |_=>[]
def defScope (s:Stmt):Scope:=match s with
 |.FunctionDef _ _ _ _ _ _ sc _ _ _=>sc
 |_=>{ kind:=.function,names:=[],isGenerator:=false,isCoroutine:=false }
abbrev CX0:CXT:=λ_ _ _ _ _ _=>False
abbrev E0:XK:=λ_ _ _=>False
theorem pass0 {X:Cx}:Passes CX0 X E0:=λ_ _ _ _ _ _ _ h=>h.elim
structure Fun (K:W.Frag) (x qual:Str) (st:Stmt) (f:Addr) (fd:FuncData):Prop where
 ex:∃(oc:Value) (od:Option Addr) (kV doc pm:Value) (an:Option Addr) (cdv ct:Value) (osl:Array (Option Value)),
  fd=W.fnOf x qual (defArgs st) (defBody st) (defScope st) .none kV doc pm an cdv ct/\K.lookup f=some ⟨oc,od,.func fd,osl⟩ /\ W.codeIn K cdv qual=true
 kp:W.keepIn K (.ref f)=true
section
variable {P:Program}{w:World}{K:W.Frag}{mg:Str->Option Value}{base:Heap}
theorem Fun.ok {x qual:Str}{st:Stmt}{f:Addr}{fd:FuncData}{N ps:List Str}{k:Nat}{sp:Sp}(F:Fun K x qual st f fd) (S:FnScope N ps (defScope st)) (len:∀vs H Q E,sp vs H Q E->vs.length=ps.length)
  (hbody:∀(cdv:Value) (A:Around) (outer:List Env) (s:Shared) (H:Hp) (vs:List V) (Q:VK) (E:XK),Room k (A.deeper (envOfC qual (defScope st) s.heap.objs.size f cdv))->sp vs H Q E →
   ∃t,PSs (cxOf CX0 P w K mg base N qual (defScope st) f cdv A outer s H E).nox (defBody st) t/\t { nx:=λ_ H'=>Q .non H',rt:=Q } (start N vs) H):FnOk P w K mg base CX0 (k+1) f fd ps sp:=by
 obtain⟨oc,od,kV,doc,pm,an,cdv,ct,osl,rfl,lk,hcd⟩:=F.ex;refine Zv9 lk hcd S len λA outer s H vs Q E hr hsp=>?_;obtain⟨t,h,q⟩:=hbody cdv A outer s H vs Q E hr hsp;exact⟨t,h.nox,q⟩
theorem Fun.binds {x qual:Str}{st:Stmt}{f:Addr}{fd:FuncData}{ps:List Str}(F:Fun K x qual st f fd)
  (h:∀(kV doc pm:Value) (an:Option Addr) (cdv ct:Value) (us:List Value),us.length=ps.length->bindArgs (W.fnOf x qual (defArgs st) (defBody st) (defScope st) .none kV doc pm an cdv ct) ⟨us,[]⟩=pure (ps.zip us)):Binds K fd ps []:=by
 obtain⟨oc,od,kV,doc,pm,an,cdv,ct,osl,rfl,lk,hcd⟩:=F.ex;exact .all (h kV doc pm an cdv ct)
theorem Zvj {x qual:Str}{st:Stmt}{f:Addr}{oc:Value}{od an:Option Addr}{osl:Array (Option Value)}{kV doc pm cdv ct:Value}(l:K.lookup f=some ⟨oc,od,.func (W.fnOf x qual (defArgs st) (defBody st) (defScope st) .none kV doc pm an cdv ct),osl⟩)
  (c:W.codeIn K cdv qual=true) (k:W.keepIn K (.ref f)=true):Fun K x qual st f (W.fnOf x qual (defArgs st) (defBody st) (defScope st) .none kV doc pm an cdv ct):=⟨⟨oc,od,kV,doc,pm,an,cdv,ct,osl,rfl,l,c⟩,k⟩
end
theorem Zb9 {A:Around}{k:Nat}(hr:Room k A):A.units+1<cLine:=Wcu (Nat.add_le_add_left (by decide:1<=64) _) hr.units
theorem small1000 {n:Nat}(h:n<=1000):n<sizeLine:=Wcu h (by decide)
section
variable {X:Cx}
theorem pv (i:Nat) {x:Str}{pos:Pos}(hN:X.N[i]?=some x:=by rfl) (hv:Vis X.env.scope x:=by first|exact Or.inl rfl|exact Or.inr (Or.inl rfl)|exact Or.inr (Or.inr rfl)) (hd:(x == ("__debug__":Str))=false:=by decide)
  (hcd:(x == ("__classdict__":Str))=false:=by decide):PE X (.Name x pos) (tVar i):=Zux hN hv hd hcd
end
theorem iteF {A B:Prop}(h:B):if false=true then A else B:=by
 rw[if_neg Was];exact h
theorem iteT {A B:Prop}(h:A):if true=true then A else B:=by
 rw[if_pos rfl];exact h
theorem ite2 {c A B:Prop}[Decidable c] (h1:c->A) (h2:¬ c->B):if c then A else B:=by
 by_cases h:c
 ·rw[if_pos h]
  exact h1 h
 ·rw[if_neg h]
  exact h2 h
def Same (H H':Hp):Prop:=∀b o,H b=some o->H' b=some o
theorem Same.refl (H:Hp):Same H H:=λ_ _ h=>h
theorem Same.trans {H H1 H2:Hp}(a:Same H H1) (b:Same H1 H2):Same H H2:=λc o h=>b c o (a c o h)
theorem Same.seq {K:W.Frag}{H H':Hp}{a:Addr}{xs:List V}(e:Same H H') (h:SqL K H a xs):SqL K H' a xs:=by
 rcases h with (h|⟨o,h⟩)|h
 ·exact .inl (.inl (e _ _ h))
 ·exact .inl (.inr ⟨o,e _ _ h⟩)
 ·exact .inr h
end L2
namespace L2
open PySem PySem.Spec PyProof.Rows
section
variable {κ:Type}[DecidableEq κ]
def valV (kvs:List (κ × V)) (k:κ):Option V:=(kvs.find? λkv=>decide (kv.1=k)).map (·.2)
def putK (kvs:List (κ × V)) (k:κ) (v:V):List (κ × V):=
 if (kvs.any λkv=>decide (kv.1=k))=true then kvs.map (λkv=>if kv.1=k then (kv.1,v) else kv) else kvs++[(k,v)]
theorem Ze8 {p:κ × V}{r:List (κ × V)}{k:κ}(e:p.1=k):valV (p::r) k=some p.2:=by simp[valV,Wco,e]
theorem Zfd {p:κ × V}{r:List (κ × V)}{k:κ}(e:¬ p.1=k):valV (p::r) k=valV r k:=by simp[valV,Wco,e]
theorem Zkb (k:κ):∀kvs:List (κ × V),(kvs.any λkv=>decide (kv.1=k))=(valV kvs k).isSome
 |[]=>rfl
 |p::r=>by
  rw[Wc0];by_cases e:p.1=k
  ·simp only[Ze8 e,decide_eq_true e,Bool.true_or,Option.isSome_some]
  ·rw[Zfd e,decide_eq_false e,Bool.false_or];exact Zkb k r
theorem Zd3 (kvs:List (κ × V)) (k:κ) (v:V):(putK kvs k v).length<=kvs.length+1:=by
 unfold putK;split
 ·rw[Wab];omega
 ·rw[Wao,War,Wcn];omega
theorem RelO.isSome_eq {o:Option V}{u:Option Value}(r:RelO o u):o.isSome=u.isSome:=by
 cases o with
 |none=>cases u with
  |none=>rfl
  |some _=>exact(show False from r).elim
 |some _=>cases u with
  |none=>exact(show False from r).elim
  |some _=>rfl
theorem KV.val {kvs:List (κ × V)}{vs:List (κ × Value)}(r:KV kvs vs) (k:κ):RelO (valV kvs k) (valueAt vs k):=by
 unfold KV at r
 induction r with
 |nil=>exact True.intro
 |@cons p q ps qs h t ih=>
  obtain⟨h1,h2⟩:=h;by_cases e:p.1=k
  ·have e':q.1=k:=h1.symm.trans e
   have b:valueAt (q::qs) k=some q.2:=by simp[valueAt,Wco,e']
   rw[Ze8 e,b];exact h2
  ·have e':¬ q.1=k:=λz=>e (h1.trans z)
   have b:valueAt (q::qs) k=valueAt qs k:=by simp[valueAt,Wco,e']
   rw[Zfd e,b];exact ih
theorem KV.any {kvs:List (κ × V)}{vs:List (κ × Value)}(r:KV kvs vs) (k:κ):(kvs.any λkv=>decide (kv.1=k))=vs.any λkv=>decide (kv.1=k):=by
 unfold KV at r
 induction r with
 |nil=>rfl
 |cons h t ih=>rw[Wc0,Wc0,ih,h.1]
theorem KV.repl {kvs:List (κ × V)}{vs:List (κ × Value)}(r:KV kvs vs) (k:κ) {y:V}{u:Value}(ry:RelV y u) :
  KV (kvs.map λkv=>if kv.1=k then (kv.1,y) else kv) (vs.map λkv=>if kv.1=k then (kv.1,u) else kv):=by
 unfold KV at r ⊢
 induction r with
 |nil=>exact .nil
 |@cons p q ps qs h t ih=>
  rw[Wa3,Wa3];refine .cons ?_ ih;obtain⟨h1,h2⟩:=h;by_cases e:p.1=k
  ·rw[if_pos e,if_pos (h1.symm.trans e)];exact⟨h1,ry⟩
  ·rw[if_neg e,if_neg (λz=>e (h1.trans z))];exact⟨h1,h2⟩
theorem KV.put {kvs:List (κ × V)}{vs:List (κ × Value)}(r:KV kvs vs) (k:κ) {y:V}{u:Value}(ry:RelV y u):KV (putK kvs k y) (stored vs k u):=by
 unfold putK stored;rw[r.any k];by_cases e:(vs.any λkv=>decide (kv.1=k))=true
 ·rw[if_pos e,if_pos e];exact r.repl k ry
 ·rw[if_neg e,if_neg e];exact Paired.snoc r ⟨rfl,ry⟩
theorem KV.length {kvs:List (κ × V)}{vs:List (κ × Value)}(r:KV kvs vs):kvs.length=vs.length:=Paired.length r
end
theorem Zmv {P:Program}{w:World}{k:Key}{u:Value}(r:RelV (kV k) u):(mixKind P w).is k u=true:=by
 cases k with
 |inl i=>obtain⟨t,e⟩:=(show ∃t,u=Value.int i t from r);subst e;exact Zjq P w i t
 |inr x=>obtain⟨t,e⟩:=(show ∃t,u=Value.str x t from r);subst e;exact Zjx P w x t
theorem Zir {P:Program}{w:World}:∀{ks:List Key}{us:List Value},Vals (ks.map kV) us->ItemsAre (mixKind P w) ks us
 |[],_,r=>by rw[Wdt]at r;cases r;exact .nil
 |k::ks,_,r=>by
  rw[Wa3]at r;cases r with
  |cons h t=>exact .cons (Zmv h) (Zir t)
abbrev KT (H:Hp):List (List Key × V)->List (List Key × Addr × Value)->Prop:=Paired λp q=>p.1=q.1/\H q.2.1=some (.tup (p.1.map kV))/\RelV p.2 q.2.2
theorem KT.val {H:Hp}{kvs:List (List Key × V)}{xs:List (List Key × Addr × Value)}(r:KT H kvs xs) (k:List Key):RelO (valV kvs k) ((atKey xs k).map (·.2)):=by
 induction r with
 |nil=>exact True.intro
 |@cons p q ps qs h t ih=>
  obtain⟨h1,_,h2⟩:=h;by_cases e:p.1=k
  ·have e':q.1=k:=h1.symm.trans e
   have b:atKey (q::qs) k=some q.2:=by simp[atKey,Wco,e']
   rw[Ze8 e,b];exact h2
  ·have e':¬ q.1=k:=λz=>e (h1.trans z)
   have b:atKey (q::qs) k=atKey qs k:=by simp[atKey,Wco,e']
   rw[Zfd e,b];exact ih
theorem KT.repl {H:Hp}{kvs:List (List Key × V)}{xs:List (List Key × Addr × Value)}(r:KT H kvs xs) (k:List Key) {y:V}{u:Value}(ry:RelV y u) :
  KT H (kvs.map λkv=>if kv.1=k then (kv.1,y) else kv) (xs.map (putAt k u)):=by
 induction r with
 |nil=>exact .nil
 |@cons p q ps qs h t ih=>
  rw[Wa3,Wa3];refine .cons ?_ ih;obtain⟨h1,h2,h3⟩:=h;unfold putAt;by_cases e:p.1=k
  ·rw[if_pos e,if_pos (h1.symm.trans e)];exact⟨h1,h2,ry⟩
  ·rw[if_neg e,if_neg (λz=>e (h1.trans z))];exact⟨h1,h2,h3⟩
theorem KT.put {H:Hp}{kvs:List (List Key × V)}{xs:List (List Key × Addr × Value)}(r:KT H kvs xs) (k:List Key) {b:Addr}{y:V}{u:Value}(hb:H b=some (.tup (k.map kV))) (ry:RelV y u) :
  KT H (putK kvs k y) (storedH xs k b u):=by
 have e:(kvs.any λkv=>decide (kv.1=k))=(atKey xs k).isSome:=by
  rw[Zkb,(r.val k).isSome_eq,Wdf]
 unfold putK storedH;rw[e];by_cases q:(atKey xs k).isSome=true
 ·rw[if_pos q,if_pos q];exact r.repl k ry
 ·rw[if_neg q,if_neg q];exact Paired.snoc r ⟨rfl,hb,ry⟩
theorem KT.keeps {H H':Hp}{kvs:List (List Key × V)}{xs:List (List Key × Addr × Value)}(r:KT H kvs xs) (ht:∀b ys,H b=some (.tup ys)->H' b=some (.tup ys)):KT H' kvs xs:=
 Paired.mapP r λ_ _ z=>⟨z.1,ht _ _ z.2.1,z.2.2⟩
section
variable {P:Program}{w:World}{H:Hp}{h:Heap}{a:Addr}
theorem Zup {u:HO}(ok:HOk P w H h) (e:Rd H a u):ObjOk P w H h a u:=e.ok ok
theorem Zmp {kvs:List (Key × V)}(ok:HOk P w H h) (e:Rd H a (.dK kvs)):kvs.length<=sizeLine/\(a == sysModules)=false/\∃vs,KV kvs vs/\h.DictOf (mixKind P w) a vs:=
 show ObjOk P w H h a (.dK kvs) from Zup ok e
theorem Zqk {kvs:List (Key × V)}(ok:HOk P w H h) (e:H a=some (.dK kvs)):kvs.length<=sizeLine/\(a == sysModules)=false/\∃vs,KV kvs vs/\h.DictOf (mixKind P w) a vs:=Zmp ok (.inl e)
theorem Zkp {ks:List Key}(ok:HOk P w H h) (e:H a=some (.tup (ks.map kV))):(tupleKind (mixKind P w)).is h ks a:=by
 obtain⟨_,its,r,o,h1,⟨h2,n,h3⟩,_⟩:=(show ObjOk P w H h a (.tup (ks.map kV)) from ok a _ e);exact⟨o,its.toArray,n,h1,h2,h3,by simpa using Zir r⟩
theorem Zo6 {kvs:List (List Key × V)}(ok:HOk P w H h) (e:Rd H a (.dT kvs)):kvs.length<=sizeLine/\(a == sysModules)=false ∧
  ∃xs,KT H kvs xs/\h.DictOfH (tupleKind (mixKind P w)) a xs:=by
 obtain⟨z,y,xs,r,o,es,ep,h1,h2,h3,h4,h5⟩:=(show ObjOk P w H h a (.dT kvs) from Zup ok e);refine⟨z,y,xs,r,o,es,ep,h1,h2,h3,h4,λx hx=>?_,h5⟩;have all:∀{l:List (List Key × V)}{m:List (List Key × Addr × Value)},KT H l m->∀x∈m,(tupleKind (mixKind P w)).is h x.1 x.2.1:=by
  intro l m q
  induction q with
  |nil=>intro x hx;exact nomatch hx
  |@cons p q ps qs hq t ih=>
   intro x hx;rcases Wat.mp hx with e|hx
   ·subst e
    exact Zkp ok (by rw[<- hq.1];exact hq.2.1)
   ·exact ih x hx
 exact all r x hx
theorem Zwb {kvs:List (List Key × V)}(ok:HOk P w H h) (e:H a=some (.dT kvs)):kvs.length<=sizeLine/\(a == sysModules)=false ∧
  ∃xs,KT H kvs xs/\h.DictOfH (tupleKind (mixKind P w)) a xs:=Zo6 ok (.inl e)
end
def DGet (H:Hp) (a:Addr) (y:V) (r:Option V):Prop:=
 (∃kvs k,Rd H a (.dK kvs)/\y=kV k/\r=valV kvs k)\/∃kvs k b,Rd H a (.dT kvs)/\y=.ref b/\H b=some (.tup (k.map kV))/\r=valV kvs k
def DPut (H:Hp) (a:Addr) (y v:V) (H':Hp):Prop:=
 (∃kvs k,H a=some (.dK kvs)/\y=kV k/\kvs.length<sizeLine/\H'=upd H a (.dK (putK kvs k v))) ∨
 ∃kvs k b,H a=some (.dT kvs)/\y=.ref b/\H b=some (.tup (k.map kV))/\kvs.length<sizeLine/\H'=upd H a (.dT (putK kvs k v))
theorem DGet.k {H:Hp}{a:Addr}{kvs:List (Key × V)}{k:Key}(e:H a=some (.dK kvs)):DGet H a (kV k) (valV kvs k):=.inl ⟨kvs,k,.inl e,rfl,rfl⟩
theorem DPut.k {H:Hp}{a:Addr}{kvs:List (Key × V)}{k:Key}{v:V}(e:H a=some (.dK kvs)) (hl:kvs.length<sizeLine):DPut H a (kV k) v (upd H a (.dK (putK kvs k v))):=.inl ⟨kvs,k,e,rfl,hl,rfl⟩
section
variable {X:Cx}{pins:List (Addr × Obj)}{σ:St}{H:Hp}{s:Shared}{a:Addr}{y v:V}{u r:Value}{o:Option V}{A:Around}{E:Value->Shared->Prop}
theorem Inv.big (I:Inv X pins σ H s):sysModules<s.heap.objs.size:=by
 have h:mainGlobals<s.heap.objs.size:=(I.mod.glob.keeps I.bk).lt;exact Nat.lt_trans (by decide) h
theorem Zmt {Q:Value->Shared->Prop}(hu:A.units+1<cLine) (I:Inv X pins σ H s) (g:DGet H a y (some v)) (ry:RelV y u) (h:∀w' s',Inv X pins σ H s' -> RelV v w' -> Q w' s') :
  wpAny (model X.prog X.w) A (getItem (.ref a) u) Q E s:=by
 rcases g with ⟨kvs,k,e,ey,l⟩|⟨kvs,k,b,e,ey,eb,l⟩
 ·subst ey
  obtain⟨z,hd,vs,rel,dd⟩:=Zmp I.hok e;obtain⟨w',hw,rw'⟩:=RelO.some_of (v:=v) (o:=valueAt vs k) (by rw[l];exact rel.val k);exact wpAny_getItem_of (Zmv ry) dd.mapOf hw (h w' _ (I.tok _) rw')
 ·subst ey
  cases (show u=Value.ref b from ry);obtain⟨z,hd,xs,rel,dd⟩:=Zo6 I.hok e;obtain⟨w',hw,rw'⟩:=RelO.some_of (v:=v) (o:=(atKey xs k).map (·.2)) (by rw[l];exact rel.val k);obtain⟨p,hp,hp2⟩:=Option.map_eq_some_iff.mp hw;refine wpAny_getItem_heap (tupleKind_room_in1 hu) (Zkp I.hok eb) dd hp ?_;rw[hp2];exact h w' _ (I.tok _) rw'
theorem Zsr {Q:Value->Shared->Prop}(hu:A.units+1<cLine) (I:Inv X pins σ H s) (g:DGet H a y o) (ry:RelV y u) (h:∀s',Inv X pins σ H s' -> Q (.bool (!o.isSome)) s') :
  wpAny (model X.prog X.w) A (compareOp .NotIn u (.ref a)) Q E s:=by
 rcases g with ⟨kvs,k,e,ey,l⟩|⟨kvs,k,b,e,ey,eb,l⟩
 ·subst ey
  obtain⟨z,hd,vs,rel,dd⟩:=Zmp I.hok e;refine wpAny_notIn_of (Zmv ry) hd dd.mapOf ?_;rw[<- (rel.val k).isSome_eq,<- l];exact h _ (I.tok _)
 ·subst ey
  cases (show u=Value.ref b from ry);obtain⟨z,hd,xs,rel,dd⟩:=Zo6 I.hok e;refine wpAny_notIn_heap (tupleKind_room_in1 hu) (Zkp I.hok eb) hd dd ?_;have q:=(rel.val k).isSome_eq;rw[Wdf]at q;rw[<- q,<- l];exact h _ (I.tok _)
theorem Zjb {h':Heap}{t':Nat}{ob:HO}(I:Inv X pins σ H s) (mu:Mut (H a)) (hs:Heap.SameBut a s.heap h') (he:∃q,h'.get? a=some q) (new:ObjOk X.prog X.w (upd H a ob) h' a ob) :
  Inv X pins σ (upd H a ob) { s with heap:=h',toks:=t' }:=
 I.write (x:=a) (e:=a) mu (.inl rfl) (λb q hb z=>(hs.2 b hb).trans z) he new
theorem Zrb {P:Program}{w:World}{H':Hp}{h':Heap}{kvs:List (Key × V)}{vs:List (Key × Value)}(z:kvs.length<=sizeLine) (hd:(a == sysModules)=false) (rel:KV kvs vs) (dd:h'.DictOf (mixKind P w) a vs) :
  ObjOk P w H' h' a (.dK kvs):=⟨z,hd,vs,rel,dd⟩
theorem Znq {H':Hp}{Q:Unit->Shared->Prop}(hu:A.units+1<cLine) (I:Inv X pins σ H s) (g:DPut H a y v H') (ry:RelV y u) (rv:RelV v r) (h:∀s',Inv X pins σ H' s' -> Q () s') :
  wpAny (model X.prog X.w) A (setItem (.ref a) u r) Q E s:=by
 rcases g with ⟨kvs,k,e,ey,l,eH⟩|⟨kvs,k,b,e,ey,eb,l,eH⟩
 ·subst ey eH
  obtain⟨z,hd,vs,rel,dd⟩:=Zqk I.hok e;have hz:vs.length<=sizeLine:=by rw[<- rel.length];exact z
  have hl:(putK kvs k v).length<=sizeLine:=by have:=Zd3 kvs k v;omega
  refine wpAny_setItem_pairs (hsz:=hz) (Zmv ry) dd λh' dd' hs=>h _ ?_;have he:∃q,h'.get? a=some q:=let ⟨q,_,_,hq,_⟩:=dd'; ⟨q,hq⟩
  exact Zjb I (by rw[e];exact True.intro) hs he (Zrb hl hd (rel.put k rv) dd')
 ·subst ey eH
  cases (show u=Value.ref b from ry);obtain⟨z,hd,xs,rel,dd⟩:=Zwb I.hok e;have hz:xs.length<=sizeLine:=by rw[<- Paired.length rel];exact z
  have hl:(putK kvs k v).length<=sizeLine:=by have:=Zd3 kvs k v;omega
  refine wpAny_setItem_heap (hsz:=hz) (tupleKind_room_in1 hu) (Zkp I.hok eb) dd λh' dd' hs=>h _ ?_;obtain⟨q,es,ep,hq,h2,h3,h4,_,h5⟩:=dd';refine Zjb I (by rw[e];exact True.intro) hs ⟨q,hq⟩ ⟨hl,hd,_,(rel.put k eb rv).keeps λc ys ec=>?_,q,es,ep,hq,h2,h3,h4,h5⟩;rw[Zao (Zwf ec e (λz=>nomatch z))];exact ec
end
section
variable {X:Cx}{pins:List (Addr × Obj)}{σ:St}{H:Hp}{s:Shared}{a:Addr}{kvs:List (Key × V)}{k:Key}{u:Value}{A:Around}{E:Value->Shared->Prop}
theorem Zwe {Q:Value->Shared->Prop}(I:Inv X pins σ H s) (e:Rd H a (.dK kvs)) (h:∀t s',Inv X pins σ H s' -> Q (.int kvs.length t) s'):wpAny (model X.prog X.w) A (call (.builtin "len") [.ref a]) Q E s:=by
 obtain⟨z,hd,vs,rel,dd⟩:=Zmp I.hok e;refine call_len_dict hd dd (by rw[<- rel.length];rw[sizeLine_eq]at z;omega) ?_;rw[<- rel.length];exact h _ _ (I.tok _)
end
theorem Zjt {X:Cx}{pins:List (Addr × Obj)}{σ:St}{H:Hp}{s:Shared}{a:Addr}{y:V}{o:Option V}(I:Inv X pins σ H s) (g:DGet H a y o):s.TypeIs (.ref a) "dict":=by
 rcases g with ⟨kvs,k,e,_,_⟩|⟨kvs,k,b,e,_,_,_⟩
 ·obtain⟨_,_,vs,_,dd⟩:=Zmp I.hok e
  exact dd.typeIs
 ·obtain⟨_,_,xs,_,dd⟩:=Zo6 I.hok e
  exact dd.typeIs
theorem Zke {P:Program}{w:World}{H:Hp}(h:Heap) (hb:sysModules<h.objs.size):ObjOk P w H (h.push { cls:=.type "dict",data:=.dict #[] }) h.objs.size (.dK []):=
 ⟨Wb2 _,beq_eq_false_iff_ne.mpr (Ne.symm (Waw hb)),[],.nil,Heap.DictOf.new h⟩
def tDNewK:TE:=λ_ H Q=>∀p,H p=none->Q (.ref p) (upd H p (.dK []))
section
variable {X:Cx}{pos:Pos}
theorem Zpl:PE X (.Dict [] [] pos) tDNewK:=λpins s σ H Q I h=>
 wpAny_Dict_empty ⟨.ref s.heap.objs.size,_,I.laid (a:=s.heap.objs.size) (o:=.dK []) (t':=s.toks) (λ_ _ q=>Wae _ q) (Wah _) (Zke s.heap I.big),rfl,h _ (I.hok.fresh (Wah _))⟩
end
def tPairs:List (TE × TE)->St->Hp->(List (V × V)->Hp->Prop)->Prop
 |[],_,H,Q=>Q [] H
 | (tk,tv)::r,σ,H,Q=>tk σ H λx H1=>tv σ H1 λy H2=>tPairs r σ H2 λps H3=>Q ((x,y)::ps) H3
abbrev VV:List (V × V)->List (Value × Value)->Prop:=Paired λp q=>RelV p.1 q.1/\RelV p.2 q.2
def PPs (X:Cx) (pos:Pos) (keys:List (Option Expr)) (values:List Expr) (trs:List (TE × TE)):Prop:=
 ∀(pins:List (Addr × Obj)) (s:Shared) (σ:St) (H:Hp) (Q:List (V × V)->Hp->Prop),Inv X pins σ H s->tPairs trs σ H Q →
  wpAny (model X.prog X.w) X.A (evalPairs (pairTrees keys values X.env pos)) (λvs s'=>∃ps H',Inv X pins σ H' s' /\ VV ps vs/\Q ps H') X.xe s
theorem Zs8 {X:Cx}{pos:Pos}:PPs X pos [] [] []:=λpins s σ H Q I h=>pairTrees_nil_walk ⟨[],H,I,.nil,h⟩
theorem Zp3 {X:Cx}{pos:Pos}{k v:Expr}{ks:List (Option Expr)}{vs:List Expr}{tk tv:TE}{trs:List (TE × TE)}(hk:PE X k tk) (hv:PE X v tv) (hr:PPs X pos ks vs trs) :
  PPs X pos (some k::ks) (v::vs) ((tk,tv)::trs):=λpins s σ H Q I h=>
 pairTrees_cons_walk (thn (hk pins s σ H _ I h) λu s1 ⟨x,H1,I1,rx,q1⟩=>thn (hv pins s1 σ H1 _ I1 q1) λw2 s2 ⟨y,H2,I2,ry,q2⟩=>
  thn (hr pins s2 σ H2 _ I2 q2) λws s3 ⟨ps,H3,I3,rel,q3⟩=>⟨(x,y)::ps,H3,I3,.cons ⟨rx,ry⟩ rel,q3⟩)
def mergeK (kvs more:List (Key × V)):List (Key × V):=more.foldl (λacc kv=>putK acc kv.1 kv.2) kvs
theorem KV.merge:∀{more:List (Key × V)}{rs:List (Key × Value)}{kvs:List (Key × V)}{vs:List (Key × Value)},KV more rs->KV kvs vs->KV (mergeK kvs more) (merged vs rs):=by
 intro more rs kvs vs r;unfold KV at r
 induction r generalizing kvs vs with
 |nil=>intro q;exact q
 |@cons p q ps qs h t ih=>
  intro r0;have e:KV (putK kvs p.1 p.2) (stored vs q.1 q.2):=by
   have:=r0.put p.1 h.2;rw[<- h.1];exact this
  exact ih e
theorem Zef:∀(more kvs:List (Key × V)),(mergeK kvs more).length<=kvs.length+more.length
 |[],kvs=>by show kvs.length<=kvs.length+0;omega
 |p::r,kvs=>by
  have h1:=Zef r (putK kvs p.1 p.2);have h2:=Zd3 kvs p.1 p.2;show (mergeK (putK kvs p.1 p.2) r).length<=_;rw[War];omega
theorem Zgy {P:Program}{w:World}:∀{kvs:List (Key × V)}{ws:List (Value × Value)},VV (kvs.map λkv=>(kV kv.1,kv.2)) ws->∃rs,Carries (mixKind P w) ws rs/\KV kvs rs
 |[],_,r=>by rw[Wdt]at r;cases r;exact⟨[],True.intro,.nil⟩
 |p::kvs,_,r=>by
  rw[Wa3]at r;cases r with
  |@cons a b as bs h t=>
   obtain⟨rs,c,q⟩:=Zgy (P:=P) (w:=w) t;obtain⟨b1,b2⟩:=b;exact⟨(p.1,b2)::rs,⟨Zmv h.1,rfl,c⟩,.cons ⟨rfl,h.2⟩ q⟩
def tDisp (trs:List (TE × TE)):TE:=λσ H Q=>∀p,H p=none->tPairs trs σ (upd H p (.dK [])) λps H2=>H2 p=some (.dK [])/\∃kvs:List (Key × V),ps=kvs.map (λkv=>(kV kv.1,kv.2))/\kvs.length<=15/\Q (.ref p) (upd H2 p (.dK (mergeK [] kvs)))
theorem Zsn {X:Cx}{pos:Pos}{keys:List (Option Expr)}{values:List Expr}{trs:List (TE × TE)}(h:PPs X pos keys values trs) (hall:keys.all (·.isSome)=true) (hl:keys.length=values.length) (h0:keys≠[])
  (h15:keys.length<=15):PE X (.Dict keys values pos) (tDisp trs):=by
 intro pins s σ H Q I q;have hn:=I.hok.fresh (Wah s.heap.objs.size);have I1:=I.laid (a:=s.heap.objs.size) (o:=.dK []) (h':=s.heap.push { cls:=.type "dict",data:=.dict #[] }) (t':=s.toks) (λ_ _ q=>Wae _ q) (Wah _) (Zke s.heap I.big);refine wpAny_Dict_walk (knd:=mixKind X.prog X.w) hall hl h0 h15 (thn (h pins _ σ _ _ I1 (q _ hn)) λws s2 ⟨ps,H2,I2,rel,e,kvs,ep,lk,q2⟩=>?_);subst ep;obtain⟨rs,c,rk⟩:=Zgy (P:=X.prog) (w:=X.w) rel;obtain⟨z,hd,vs0,r0,dd⟩:=Zqk I2.hok e;cases r0;refine⟨rs,c,dd,λh' dd' hs=>⟨.ref s.heap.objs.size,_,?_,rfl,q2⟩⟩;have hz:(mergeK [] kvs).length<=sizeLine:=by
  have h1:=Zef kvs [];rw[Wcn]at h1;rw[sizeLine_eq];omega
 have he:∃q,h'.get? s.heap.objs.size=some q:=let ⟨q,_,_,hq,_⟩:=dd'; ⟨q,hq⟩
 exact Zjb I2 (by rw[e];exact True.intro) hs he (Zrb hz hd (rk.merge .nil) dd')
section
variable {X:Cx}{o e f:Expr}{apos cpos:Pos}{td ty tx:TE}
end
section
variable {X:Cx}{pins:List (Addr × Obj)}{σ:St}{H:Hp}{s:Shared}{a:Addr}{y:V}{u:Value}{A:Around}{E:Value->Shared->Prop}
end
end L2
namespace L2
open PySem PySem.Spec PyProof.Rows
section
variable {X:Cx}
theorem Zma:CallR X (.builtin "len") (λxs H Q=>∃a kvs,xs=[V.ref a]/\H a=some (.dK kvs)/\Q (.int kvs.length) H):=by
 intro pins s σ H xs us Q I r h;obtain⟨a,kvs,rfl,ha,q⟩:=h;obtain⟨u,rfl,ru⟩:=vals1 r;cases ru;exact Zwe I (.inl ha) λt s' I'=>⟨.int kvs.length,H,I',⟨t,rfl⟩,q⟩
end
def clOf (env:Env):List (Str × NameKind)->List (Str × Addr)->List (Str × Addr)
 |[],cs=>cs
 | (n,k)::r,cs=>if k == .free then (match env.cells.lookup n with
     |some a=>clOf env r ((n,a)::cs)
     |none=>clOf env r cs) else clOf env r cs
theorem Zfp {env:Env}:∀(names:List (Str × NameKind)) (cs:List (Str × Addr)),(∀n,(n,NameKind.free)∈names->∃a,env.cells.lookup n=some a) →
  (forIn names cs λ(x:Str × NameKind) (cs:List (Str × Addr))=>if (x.2 == .free)=true then (do let a ← cellOf env x.1;pure (ForInStep.yield ((x.1,a)::cs))) else pure (ForInStep.yield cs):Sem (List (Str × Addr)))=pure (clOf env names cs)
 |[],cs,_=>rfl
 | (n,k)::r,cs,h=>by
  rw[List.forIn_cons];have hr:∀m,(m,NameKind.free)∈r->∃a,env.cells.lookup m=some a:=λm hm=>h m (Wax _ hm);cases hk:k == NameKind.free with
  |false=>
   have e:clOf env ((n,k)::r) cs=clOf env r cs:=by simp[clOf,hk]
   rw[e,<- Zfp r cs hr];simp only[hk,Wbi,if_false];rfl
  |true=>
   have hk':k=.free:=by simpa using hk
   subst hk';obtain⟨a,ha⟩:=h n Wa0;have e:clOf env ((n,.free)::r) cs=clOf env r ((n,a)::cs):=by simp[clOf,ha]
   have ec:cellOf env n=pure a:=by simp[cellOf,ha]
   rw[e,<- Zfp r ((n,a)::cs) hr];simp only[hk,if_true,ec];rfl
theorem Zcr {env:Env}{scope:Scope}(h:∀n,(n,NameKind.free)∈scope.names->∃a,env.cells.lookup n=some a):closureFor scope env=pure (clOf env scope.names []):=by
 rw[<- Zfp scope.names [] h];simp only[closureFor];exact Eq.trans (bind_pure _) rfl
theorem Zbm {env:Env}:∀(names:List (Str × NameKind)) (cs:List (Str × Addr)) {x:Str}{c:Addr},(∀y d,cs.lookup y=some d->env.cells.lookup y=some d)->(clOf env names cs).lookup x=some c->env.cells.lookup x=some c
 |[],cs,x,c,h,e=>h x c e
 | (n,k)::r,cs,x,c,h,e=>by
  unfold clOf at e;split at e
  ·split at e
   ·rename_i a ha
    refine Zbm r ((n,a)::cs) (λy d q=>?_) e;rw[Wbz]at q;split at q
    ·rename_i hy
     have hy':y=n:=by simpa using hy
     cases q;rw[hy'];exact ha
    ·exact h y d q
   ·exact Zbm r cs h e
  ·exact Zbm r cs h e
theorem Zei {env:Env}:∀(names:List (Str × NameKind)) (cs:List (Str × Addr)) {x:Str},(∃c,cs.lookup x=some c)->∃c,(clOf env names cs).lookup x=some c
 |[],cs,x,h=>h
 | (n,k)::r,cs,x,h=>by
  have h2:∀a,∃c,((n,a)::cs).lookup x=some c:=λa=>by
   rw[Wbz];split
   ·exact⟨_,rfl⟩
   ·exact h
  unfold clOf;split
  ·split
   ·exact Zei r _ (h2 _)
   ·exact Zei r cs h
  ·exact Zei r cs h
theorem Zdh {env:Env}:∀(names:List (Str × NameKind)) (cs:List (Str × Addr)) {x:Str},(x,NameKind.free)∈names->(∃a,env.cells.lookup x=some a)->∃c,(clOf env names cs).lookup x=some c
 |[],_,_,h,_=>by simp at h
 | (n,k)::r,cs,x,h,⟨a,ha⟩=>by
  rcases Wat.mp h with e|hm
  ·have e1:n=x:=(congrArg Prod.fst e).symm
   have e2:k=.free:=(congrArg Prod.snd e).symm;subst e1;subst e2;have e:clOf env ((n,.free)::r) cs=clOf env r ((n,a)::cs):=by simp[clOf,ha]
   rw[e];exact Zei r _ ⟨a,by simp⟩
  ·unfold clOf
   split
   ·split
    ·exact Zdh r _ hm ⟨a,ha⟩
    ·exact Zdh r _ hm ⟨a,ha⟩
   ·exact Zdh r _ hm ⟨a,ha⟩
def relab (osc scope:Scope):Scope:=
 { scope with names:=scope.names.map λ(n,k)=>if (k == .free && osc.kind == .function && osc.names.lookup n == some .cell) then (n,.cell) else (n,k) }
theorem Zic {osc scope:Scope}{x:Str}{k:NameKind}(hk:k=.cell\/k=.free) (hc:∀y∈scope.names,y.2≠.cell) (h:(relab osc scope).names.lookup x=some k):(x,NameKind.free)∈scope.names:=by
 have hm:=PySem.mem_of_lookup h;obtain⟨⟨n,j⟩,hy,e⟩:=Wav.mp hm;dsimp only at e;split at e
 ·rename_i hj
  have e1:n=x:=congrArg Prod.fst e;have hj':j=.free:=by
   simp only[Wch,beq_iff_eq]at hj;exact hj.1.1
  rw[<- e1,<- hj'];exact hy
 ·have e1:n=x:=congrArg Prod.fst e
  have e2:j=k:=congrArg Prod.snd e;rcases hk with z|z
  ·exact absurd (show ((n,j):Str × NameKind).2=.cell from e2.trans z) (hc _ hy)
  ·rw[<- e1,<- z,<- e2];exact hy
theorem Zem {osc:Scope}{x:Str}:∀{names:List (Str × NameKind)},names.lookup x=some .free →
  (names.map λ(n,k)=>if (k == NameKind.free && osc.kind == .function && osc.names.lookup n == some .cell) then (n,NameKind.cell) else (n,k)).lookup x=some .cell ∨
  (names.map λ(n,k)=>if (k == NameKind.free && osc.kind == .function && osc.names.lookup n == some .cell) then (n,NameKind.cell) else (n,k)).lookup x=some .free
 |[],h=>by simp at h
 | (n,k)::r,h=>by
  have ih:=@Zem osc x r;rw[Wa3];cases hx:x == n with
  |true=>
   simp only[Wbz,hx]at h;cases h;dsimp only;split
   ·left;simp[Wbz,hx]
   ·right;simp[Wbz,hx]
  |false=>
   simp only[Wbz,hx]at h;dsimp only;split
   ·simpa only[Wbz,hx] using ih h
   ·simpa only[Wbz,hx] using ih h
structure CompSc (osc:Scope) (oN:List Str) (scope:Scope) (fvs:List Str) (sel:List Nat):Prop where
 kind:scope.kind=.function
 nocell:∀y∈scope.names,y.2≠.cell
 names:∀y∈scope.names,y.2=.local->scope.names.lookup y.1=some .local
 free:∀y∈scope.names,y.2=.free->osc.names.lookup y.1=some .cell\/osc.names.lookup y.1=some .free
 len:fvs.length=sel.length
 fv:∀p∈fvs.zip sel,oN[p.2]?=some p.1/\scope.names.lookup p.1=some .free
def compCx (X:Cx) (scope:Scope) (N:List Str) (C:Addr) (s:Shared) (H:Hp) (ex:List Addr) (pn:List (Addr × Obj)):Cx where
 prog:=X.prog
 w:=X.w
 K:=X.K
 mg:=X.mg
 base:=X.base
 A:=X.A
 N:=N
 s₀:=s
 H₀:=H
 env:=compEnvC scope (clOf X.env scope.names []) C X.env
 outer:=X.stack
 stack:=X.stack
 ex:=ex
 fn:=λ_=>false
 calm:=X.calm
 pn:=pn
 xe:=λ_ _=>False
def compSt (n:Nat) (sel:List Nat) (σ:St):St:=Waj n none++sel.map λi=>(σ[i]?).getD none
section
variable {X:Cx}{pins:List (Addr × Obj)}{σ:St}{H:Hp}{s:Shared}{fp:List Addr}{scope:Scope}{tgs fvs:List Str}{sel:List Nat}
theorem Zev (S:CompSc X.env.scope X.N scope fvs sel) (ok:X.Ok):∀n,(n,NameKind.free)∈scope.names->∃a,X.env.cells.lookup n=some a:=λn hn=>
 ok.has n (S.free _ hn rfl)
theorem Zsy (S:CompSc X.env.scope X.N scope fvs sel) (N:List Str) (I:Inv X pins σ H s) (hf:∀b∈fp,FpOk X pins H b) (hlt:∀b∈fp,b<s.heap.objs.size):(compCx X scope N s.heap.objs.size s H fp (X.pn++pins)).Ok where
 mod:=I.ok.mod
 kind:=S.kind
 glob:=I.ok.glob
 blt:=I.ok.blt
 above:=Wah _
 inj:=λx y c h1 h2=>I.ok.inj x y c (Zbm _ _ (λ_ _ z=>by simp at z) h1) (Zbm _ _ (λ_ _ z=>by simp at z) h2)
 has:=λx hx=>by
  have hm:(x,NameKind.free)∈scope.names:=by
   rcases hx with z|z
   ·exact Zic (osc:=X.env.scope) (.inl rfl) S.nocell z
   ·exact Zic (osc:=X.env.scope) (.inr rfl) S.nocell z
  exact Zdh scope.names [] hm (Zev S I.ok x hm)
 cab:=λx c h _=>by cases h
 hd:=I.ok.hd
 frames:=I.ok.frames
 stk:=.inl rfl
 exf:=λb hb=>⟨Waw (hlt b hb),λx c e=>(hf b hb).2.2.2.2.1 x c (Zbm _ _ (λ_ _ z=>by simp at z) e)⟩
 bs:=I.bs
 bsz:=Wbu I.ok.bsz I.sz
 noex:=λb o e hb=>by
  rcases(hf b hb).2.2.2.1 with z|z
  ·exact I.ok.noex b o e z
  ·exact absurd (Wbf (Wap e) (Wbu I.ok.bsz z)) (Wc1 _)
 exfs:=λb hb z=>by
  rcases Wat.mp (I.stkSub b z) with e|z
  ·exact(hf b hb).2.1 e
  ·exact(hf b hb).2.2.1 z
 funs:=I.stack
 frf:=I.stkFree
theorem Zqj (S:CompSc X.env.scope X.N scope fvs sel) (I:Inv X pins σ H s) (hf:∀b∈fp,FpOk X pins H b) (hlt:∀b∈fp,b<s.heap.objs.size) {h':Heap}{tk:Nat}{m:Str->Option Value}
  (hns:h'.Ns s.heap.objs.size m) (old:∀b o,s.heap.get? b=some o->h'.get? b=some o) :
  Inv (compCx X scope (tgs++fvs) s.heap.objs.size s H fp (X.pn++pins)) [] (compSt tgs.length sel σ) H { s with heap:=h',toks:=tk } where
 ok:=Zsy S _ I hf hlt
 os:=rfl
 bare:=I.bare
 base:=Un.kept old
 loc:=by
  refine⟨m,hns,λi x v h1 h2 h3=>?_⟩;have h1:(tgs++fvs)[i]?=some x:=h1;unfold compSt at h2;by_cases hi:i<tgs.length
  ·rw[Wbc (by simpa using hi),Wcp,if_pos hi]at h2
   cases h2
  ·have hi':tgs.length<=i:=Nat.le_of_not_lt hi
   rw[Way (by simpa using hi'),Wad,Wba]at h2;rw[Way hi']at h1;cases hj:sel[i-tgs.length]? with
   |none=>rw[hj]at h2;cases h2
   |some j=>
    rw[hj]at h2;have h2:(σ[j]?).getD none=some v:=by simpa using h2
    have hz:(x,j)∈fvs.zip sel:=by
     refine Waq (i:=i-tgs.length) ?_;rw[Wbh];exact⟨h1,hj⟩
    obtain⟨hN,hfr⟩:=S.fv _ hz;have hσ:σ[j]?=some (some v):=by
     cases q:σ[j]? with
     |none=>rw[q]at h2;cases h2
     |some o=>rw[q]at h2;exact congrArg some h2
    have hko:X.env.scope.names.lookup x=some .cell\/X.env.scope.names.lookup x=some .free:=S.free (x,.free) (PySem.mem_of_lookup hfr) rfl;obtain⟨m0,hn0,hl0⟩:=I.loc;obtain⟨u,r,l⟩:=hl0 j x v hN hσ (.inr hko);refine⟨u,r,.inr ⟨Zem hfr,?_⟩⟩;rcases l with ⟨hk,_⟩|⟨_,c,hc,hcell⟩
    ·have hk:X.env.scope.names.lookup x=some .local:=hk
     rcases hko with z|z <;> (rw[hk]at z;cases z)
    ·obtain⟨c',hc'⟩:=Zdh scope.names [] (PySem.mem_of_lookup hfr) ⟨c,hc⟩
     have e:=Zbm scope.names [] (λ_ _ z=>by simp at z) hc';rw[hc]at e;cases e;obtain⟨o,ho,hd⟩:=hcell;exact⟨c,hc',o,old _ _ ho,hd⟩
 cell:=λx c e=>by
  obtain⟨v,o,ho,hd⟩:=I.cell x c (Zbm _ _ (λ_ _ z=>by simp at z) e);exact⟨v,o,old _ _ ho,hd⟩
 free:=I.hok.fresh (Wah _)
 freeC:=λx c e=>I.freeC x c (Zbm _ _ (λ_ _ z=>by simp at z) e)
 pin:=λp hp=>by
  have hp:p∈(X.pn++pins)++[]:=hp;rw[Wbk]at hp;obtain⟨e,n,ne,nf,d⟩:=I.pin p hp;refine⟨old _ _ e,n,Waw (Wap e),λz=>?_,d⟩;rcases Wat.mp (I.stkSub p.1 z) with q|q
  ·exact ne q
  ·exact nf q
 hok:=I.hok.kept old
 len:=by
  unfold compSt;show _=(tgs++fvs).length;rw[Wao,Wao,Wba,Wab,S.len]
theorem Zn3 {N:List Str}{σ':St}{H':Hp}{s':Shared}{h':Heap}(I:Inv X pins σ H s) (hf:∀b∈fp,FpOk X pins H b)
  (J:Inv (compCx X scope N s.heap.objs.size s H fp (X.pn++pins)) [] σ' H' s') (sb:Heap.SameBut s.heap.objs.size s'.heap h'):Inv X pins σ H' { s' with heap:=h' }:=by
 have B:Un (frs X.stack) fp H H' s.heap s'.heap:=J.base;have ne:∀b o,s.heap.get? b=some o->b≠s.heap.objs.size:=λb o e=>Waw (Wap e);have fr:H' s.heap.objs.size=none:=J.free;refine I.call' (s':={ s' with heap:=h' }) (ch:=fp) J.os ⟨λb o e n h1 h2=>?_,λb o e n h1 h2=>?_,B.free,λb o e h2=>?_,B.tups,B.frzs,B.tbls⟩ (λb ob e=>?_) J.bare λb hb=>?_
 ·exact(sb.2 b (ne b o e)).trans (B.keep b o e n h1 h2)
 ·obtain⟨sl,q⟩:=B.slot b o e n h1 h2
  exact⟨sl,(sb.2 b (ne b o e)).trans q⟩
 ·obtain⟨o',q⟩:=B.there b o e h2
  exact⟨o',(sb.2 b (ne b o e)).trans q⟩
 ·refine(J.hok b ob e).stay (λc w' hc q=>(sb.2 c ?_).trans q) (λ_ q=>q) λ_ _ q=>q
  intro z;rcases hc with hc|hc
  ·rw[<- hc,z,fr]at e;cases e
  ·rw[z,fr]at hc;cases hc
 ·exact⟨(hf b hb).2.2.2.1,(hf b hb).2.1,(hf b hb).2.2.2.2.1,(hf b hb).2.2.2.2.2⟩
end
def PTs (X:Cx) (ifs:List Expr) (t:TT):Prop:=
 ∀(pins:List (Addr × Obj)) (s:Shared) (σ:St) (H:Hp) (Q:Bool->Hp->Prop),Inv X pins σ H s->t σ H Q →
  wpAny (model X.prog X.w) X.A (forIn ifs true λc r=>if r=true then do let ok ← isTrue c X.env (eval c X.env);pure (ForInStep.yield ok) else pure (ForInStep.yield r)) (TP X pins σ Q) X.xe s
def tTrue:TT:=λ_ H Q=>Q true H
theorem Zba {X:Cx}:PTs X [] tTrue:=λpins s σ H Q I h=>wpAny_tests_nil ⟨H,I,h⟩
theorem Zm7 {X:Cx}{c:Expr}{t:TT}(h:PT X c t):PTs X [c] t:=λpins s σ H Q I hq=>wpAny_tests_one (h pins s σ H Q I hq)
def tComp (n:Nat) (sel:List Nat) (wi:TI) (g:TG) (tc:TT) (te:TE):TE:=λσ H Q=>wi σ H λJ H1=>∀acc,H1 acc=none->∃W:Nat->Nat->St->Hp->Prop,
 (∃m,W 0 m (compSt n sel σ) (upd H1 acc (.lst [])))/\∀i m σ' H',W i m σ' H' →
  (J.stop i H' /\ Q (.ref acc) H')\/(J.go i H' /\ ∃N:St->Hp->Prop,(∀σ2 H2,N σ2 H2->∃m',m'<m/\W (i+1) m' σ2 H2) ∧
   ∀x H2,J.yld i H' x H2->g x σ' H2 λσ2 H3=>tc σ2 H3 λb H4=>if b=true then te σ2 H4 λy H5=>∃ys,H5 acc=some (.lst ys)/\ys.length<sizeLine/\N σ2 (upd H5 acc (.lst (ys++[y]))) else N σ2 H4)
section
variable {X:Cx}
theorem Zit {elt tg iter:Expr}{ifs:List Expr}{scope:Scope}{pos:Pos}{tgs fvs:List Str}{sel:List Nat}{g:TG}{tc:TT}{te:TE}(S:CompSc X.env.scope X.N scope fvs sel) {Cm:Cx->Prop}(hc:∀C s H ex pn,Cm (compCx X scope (tgs++fvs) C s H ex pn))
  (hg:∀C s H ex pn,PG (compCx X scope (tgs++fvs) C s H ex pn) tg g) (ht:∀C s H ex pn,PTs (compCx X scope (tgs++fvs) C s H ex pn) ifs tc) (he:∀C s H ex pn,PE (compCx X scope (tgs++fvs) C s H ex pn) elt te)
  {pins:List (Addr × Obj)}{σ:St}{s:Shared}{itv:Value}{Q:VK}{E:Value->Shared->Prop}{RR:Value->Addr->Result->Shared->Prop}
  (h2:PIEG Cm X pins σ tg (λJ H1=>∀acc,H1 acc=none->∃W:Nat->Nat->St->Hp->Prop,
   (∃m,W 0 m (compSt tgs.length sel σ) (upd H1 acc (.lst [])))/\∀i m σ' H',W i m σ' H' →
   (J.stop i H' /\ Q (.ref acc) H')\/(J.go i H' /\ ∃N:St->Hp->Prop,(∀σ2 H2,N σ2 H2->∃m',m'<m/\W (i+1) m' σ2 H2) ∧
   ∀x H2,J.yld i H' x H2->g x σ' H2 λσ2 H3=>tc σ2 H3 λb H4=>if b=true then te σ2 H4 λy H5=>∃ys,H5 acc=some (.lst ys)/\ys.length<sizeLine/\N σ2 (upd H5 acc (.lst (ys++[y]))) else N σ2 H4)) itv s)
  (fin:∀(s':Shared) (C acc:Addr) (H':Hp) (m:Str->Option Value),s'.heap.Ns C m->FpOk X pins H' C->(∀h',Heap.SameBut C s'.heap h' -> Inv X pins σ H' { s' with heap:=h' })->Q (.ref acc) H' -> RR (.ref acc) C (.ok .next) s') :
  wpAny (model X.prog X.w) X.A (newList []) (λacc s3=>wpAny (model X.prog X.w) X.A (newFunctionEnv scope X.env.globals (clOf X.env scope.names []) [] X.env.qual none .none (some X.env)) (λcenv s4=>
   codeAny (model X.prog X.w) X.A (.compStart (.ListComp elt [⟨tg,iter,ifs,0⟩] scope pos) 0 itv acc { cenv with scope:=relabel scope X.env }) (RR acc cenv.locals) s4) E s3) E s:=by
 obtain⟨it,fp,tn,J,H1,e,I,T,st,f2,h2⟩:=h2;subst e;have hlt:∀b∈fp,b<s.heap.objs.size:=λb hb=>let ⟨o,ho,_⟩:=T.obj 0 _ st b hb; Wap ho
 refine wpAny_newObj_type (wpAny_newFunctionEnv S.nocell (by intro y hy;simp at hy) (λh1 hns hsb=>?_) S.kind);dsimp only at hns hsb ⊢;have I3:Inv X pins σ (upd H1 s.heap.objs.size (.lst [])) { s with heap:=s.heap.push { cls:=.type "list",data:=.seq ([]:List Value).toArray },toks:=s.toks }:=I.lnew (its:=[]) .nil (by decide);have hacc:H1 s.heap.objs.size=none:=I.hok.fresh (Wah _);obtain⟨W,⟨m0,w0⟩,turn⟩:=h2 s.heap.objs.size hacc;generalize hs3:({ s with heap:=s.heap.push { cls:=.type "list",data:=.seq ([]:List Value).toArray },toks:=s.toks }:Shared)=s3 at I3;have hh3:s3.heap=s.heap.push { cls:=.type "list",data:=.seq ([]:List Value).toArray }:=by rw[<- hs3]
 have old3:∀b o,s.heap.get? b=some o->s3.heap.get? b=some o:=λb o q=>by rw[hh3];exact Wae _ q
 have hf3:∀b∈fp,FpOk X pins (upd H1 s.heap.objs.size (.lst [])) b:=λb hb=>⟨by rw[Zao (Waw (hlt b hb))];exact(f2 b hb).1,(f2 b hb).2⟩;have hlt3:∀b∈fp,b<s3.heap.objs.size:=λb hb=>by rw[hh3,Wcl];exact Wbr (hlt b hb)
 have tn3:tn 0 s3.heap:=T.keep 0 _ _ st λb hb o q=>old3 b o q;have old4:∀b o,s3.heap.get? b=some o->h1.get? b=some o:=λb o q=>by
  have hb:b≠s3.heap.objs.size:=Waw (Wap q);rw[hh3]at hb q;exact(hsb.2 b hb).trans (Wae _ q)
 have tn4:tn 0 h1:=T.keep 0 _ _ tn3 λb hb o q=>old4 b o q;have hC:(s.heap.push { cls:=.type "list",data:=.seq ([]:List Value).toArray }).objs.size=s3.heap.objs.size:=by rw[hh3]
 rw[hC]at hns;have J0:=Zqj (tgs:=tgs) (tk:=s.toks+([]:List (Str × Value)).length) S I3 hf3 hlt3 hns old4;have es:({ s3 with heap:=h1,toks:=s.toks+([]:List (Str × Value)).length }:Shared) = { s with heap:=h1,toks:=s.toks+([]:List (Str × Value)).length }:=by rw[<- hs3]
 rw[es]at J0;generalize hY:compCx X scope (tgs++fvs) s3.heap.objs.size s3 (upd H1 s.heap.objs.size (.lst [])) fp (X.pn++pins)=Y at J0;have hYp:Y.prog=X.prog:=by rw[<- hY];rfl
 have hYw:Y.w=X.w:=by rw[<- hY];rfl
 have hYK:Y.K=X.K:=by rw[<- hY];rfl
 have hYA:Y.A=X.A:=by rw[<- hY];rfl
 have hYc:Cm Y:=by rw[<- hY];exact hc _ _ _ _ _
 have hYx:Y.xe=λ_ _=>False:=by rw[<- hY];rfl
 have hYe:Y.env=compEnvC scope (clOf X.env scope.names []) s3.heap.objs.size X.env:=by rw[<- hY];rfl
 have stat:∀{H':Hp},(∀b∈fp,H' b=none)->∀b∈fp,FpOk Y [] H' b:=λhn b hb=>by
  rw[<- hY];refine⟨hn b hb,Waw (hlt3 b hb),λz=>?_,.inl hb,λx c e=>?_,λp hp z=>?_⟩
  ·rcases Wat.mp (I3.stkSub b z) with q|q
   ·exact(hf3 b hb).2.1 q
   ·exact(hf3 b hb).2.2.1 q
  ·exact(hf3 b hb).2.2.2.2.1 x c (Zbm _ _ (λ_ _ z=>by simp at z) e)
  ·have hp:p∈(X.pn++pins)++[]:=hp
   rw[Wbk]at hp;exact(hf3 b hb).2.2.2.2.2 p hp z
 have loop:codeAny (model X.prog X.w) X.A (.compLoop (.ListComp elt [⟨tg,iter,ifs,0⟩] scope pos) 0 (.ref it) (.ref s.heap.objs.size) Y.env) (RR (.ref s.heap.objs.size) s3.heap.objs.size)
   { s with heap:=h1,toks:=s.toks+([]:List (Str × Value)).length }:=by
  refine codeAny_loop rfl (λn s'=>∃i σ' H',Inv Y [] σ' H' s' /\ tn i s'.heap/\(∀b∈fp,H' b=none)/\W i n σ' H') ?_ m0 ⟨0,_,_,J0,tn4,λb hb=>(hf3 b hb).1,w0⟩;rintro n s5 ⟨i,σ5,H5,I5,st5,fr5,w5⟩;show wpAny _ X.A ((compTurn (.ListComp elt [⟨tg,iter,ifs,0⟩] scope pos) 0 (.ref it) (.ref s.heap.objs.size) Y.env).onRaise (λx=>do noteFrame x Y.env;theTreesLotGoes x)) _ _ s5;refine wpAny_noted (wpAny_mono (E:=λ_ _=>False) ?_ (λ_ _ q=>q) λ_ _ z=>z.elim);rw[compTurn_list];refine wpAny_bind (wpAny_standAt (wpAny_bind ?_));rcases turn i n σ5 H5 w5 with ⟨stop,qn⟩|⟨go,N,hN,step⟩
  ·have D:=T.done Y hYp hYw hYK hYc i [] s5 σ5 H5 (λ_ _=>False) I5 (stat fr5) st5 stop
   rw[hYA]at D;refine thn D λr s6 ⟨hr,I6⟩=>?_;subst hr;refine wpAny_pure ?_;obtain⟨m6,hn6,_⟩:=I6.loc;rw[hYe]at hn6;refine fin s6 _ _ H5 m6 hn6 (I3.fpOk (Wah _) (by have z:=I6.free;rw[hYe]at z;exact z)) (λh' sb=>?_) qn;have I6':Inv (compCx X scope (tgs++fvs) s3.heap.objs.size s3 (upd H1 s.heap.objs.size (.lst [])) fp (X.pn++pins)) [] σ5 H5 s6:=by rw[hY];exact I6
   exact Zn3 I3 hf3 I6' sb
  ·have D:=T.item Y hYp hYw hYK hYc i [] s5 σ5 H5 (λ_ _=>False) I5 (stat fr5) st5 go
   rw[hYA]at D;refine thn D λr s6 ⟨u,hr,h6⟩=>?_;subst hr;refine wpAny_bind (thn h6 λ_ s7 ⟨x,H7,I7,r7,y7,st7,fr7⟩=>?_);have I7':=I7.pinned (stat fr7) (T.obj _ _ st7);have G:=hg s3.heap.objs.size s3 (upd H1 s.heap.objs.size (.lst [])) fp (X.pn++pins);have TT:=ht s3.heap.objs.size s3 (upd H1 s.heap.objs.size (.lst [])) fp (X.pn++pins);have EE:=he s3.heap.objs.size s3 (upd H1 s.heap.objs.size (.lst [])) fp (X.pn++pins);rw[hY]at G TT EE;have G1:=G _ s7 σ5 H7 x u _ I7' r7 (step x H7 y7);rw[hYp,hYw,hYA,hYx]at G1;refine wpAny_bind (thn G1 λ_ s8 ⟨σ8,H8,I8,q8⟩=>?_);have T1:=TT _ s8 σ8 H8 _ I8 q8;rw[hYp,hYw,hYA,hYx]at T1;refine wpAny_bind (thn T1 λok s9 ⟨H9,I9,q9⟩=>?_);have again:∀{s':Shared}{σ':St}{H':Hp},Inv Y ([]++pinsAt fp s7.heap) σ' H' s' -> N σ' H' -> ∃m,m<n/\∃i σ' H',Inv Y [] σ' H' s' /\ tn i s'.heap/\(∀b∈fp,H' b=none)/\W i m σ' H':=λ{s' σ' H'} K7 n7=>by
    obtain⟨m',hm,w7⟩:=hN σ' H' n7;refine⟨m',hm,i+1,σ',H',K7.unpinned,T.keep _ _ _ st7 λb hb o e=>(K7.pin (b,o) (Wa8 _ (Wa8 _ (Zcm hb e)))).1,λb hb=>?_,w7⟩;obtain⟨o,e,d⟩:=T.obj _ _ st7 b hb;exact(K7.pin (b,o) (Wa8 _ (Wa8 _ (Zcm hb e)))).2.1
   cases ok with
   |false=>
    have q9:N σ8 H9:=q9;exact wpAny_pure ⟨by rw[hYe],again I9 q9⟩
   |true=>
    have q9:te σ8 H9 λy H5=>∃ys,H5 s.heap.objs.size=some (.lst ys)/\ys.length<sizeLine/\N σ8 (upd H5 s.heap.objs.size (.lst (ys++[y]))):=q9;have E1:=EE _ s9 σ8 H9 _ I9 q9;rw[hYp,hYw,hYA,hYx]at E1;refine wpAny_bind (wpAny_bind (thn E1 λv sa ⟨y,Ha,Ia,ra,ys,ea,za,na⟩=>?_));have M:=Zdr (X:=Y) _ sa σ8 Ha (.ref s.heap.objs.size) [y] (.ref s.heap.objs.size) [v] (λ_ H=>N σ8 H) Ia rfl (.cons ra .nil) ⟨_,ys,y,rfl,rfl,ea,za,na⟩;rw[hYp,hYw,hYA,hYx]at M;refine wpAny_bind (thn M λ_ sb ⟨_,Hb,Ib,_,nb⟩=>wpAny_pure (wpAny_pure ⟨by rw[hYe],again Ib nb⟩))
 have hcs:(relabel scope X.env)=(relabel scope X.env):=rfl;have loop':=loop;rw[hYe]at loop';show codeAny (model X.prog X.w) X.A (.compStart (.ListComp elt [⟨tg,iter,ifs,0⟩] scope pos) 0 (.ref it) (.ref s.heap.objs.size) (compEnvC scope (clOf X.env scope.names []) (s.heap.push { cls:=.type "list",data:=.seq ([]:List Value).toArray }).objs.size X.env)) (RR (.ref s.heap.objs.size) (s.heap.push { cls:=.type "list",data:=.seq ([]:List Value).toArray }).objs.size) _;rw[hC];exact codeAny_compStart_list loop' (T.self _ 0 _ _ _ tn4 loop')
theorem Zbd {elt tg iter:Expr}{ifs:List Expr}{scope:Scope}{pos:Pos}{fvs:List Str}{sel:List Nat}{wi:TI}{g:TG}{tc:TT}{te:TE}(tgs:List Str) (S:CompSc X.env.scope X.N scope fvs sel) (hc:X.calm=true)
  (hi:PI X tg iter wi) (hg:∀C s H ex pn,PG (compCx X scope (tgs++fvs) C s H ex pn) tg g) (ht:∀C s H ex pn,PTs (compCx X scope (tgs++fvs) C s H ex pn) ifs tc) (he:∀C s H ex pn,PE (compCx X scope (tgs++fvs) C s H ex pn) elt te)
  (hs:∀x,foldedSetIterable iter X.env x=pure x:=by intro _;rfl) :
  PE X (.ListComp elt [⟨tg,iter,ifs,0⟩] scope pos) (tComp tgs.length sel wi g tc te):=by
 intro pins s σ H Q I h;rw[eval_ListComp];refine wpAny_comprehension_free (use:=none) rfl hs (Zcr (Zev S I.ok)) S.kind S.names (thn (hi pins s σ H _ I h) λv s1 h1=>thn h1 λitv s2 h2=>?_);refine Zit (Cm:=λX=>X.calm=true) S (λ_ _ _ _ _=>hc) hg ht he (RR:=λacc C=>compPost (model X.prog X.w) X.A X.xe none (EP X pins σ Q) acc C) (Q:=Q) h2 ?_;intro s' C acc H' m hn _ hI q;exact⟨m,hn,λh' sb=>⟨.ref acc,H',hI h' sb,rfl,q⟩⟩
theorem Zdy {elt tg iter:Expr}{ifs:List Expr}{scope:Scope}{pos spos py:Pos}{fvs:List Str}{sel:List Nat}{wi:TI}{g:TG}{tc:TT}{te:TE}{i:Nat}{y:Str}(tgs:List Str) (S:CompSc X.env.scope X.N scope fvs sel) (hc:X.calm=true)
  (hN:X.N.Nodup) (hiy:X.N[i]?=some y) (hx:Loc X.env.scope y)
  (hi:PI X tg iter wi) (hg:∀C s H ex pn,PG (compCx X scope (tgs++fvs) C s H ex pn) tg g) (ht:∀C s H ex pn,PTs (compCx X scope (tgs++fvs) C s H ex pn) ifs tc) (he:∀C s H ex pn,PE (compCx X scope (tgs++fvs) C s H ex pn) elt te)
  (hs:∀x,foldedSetIterable iter X.env x=pure x:=by intro _;rfl) (hsw:swapsWith (.ListComp elt [⟨tg,iter,ifs,0⟩] scope pos) (some (.Name y py)) spos.line X.env=pure true:=by rfl)
  (hf:X.fn y=true\/X.env.scope.names.lookup y=some .local:=by first|exact .inl rfl|exact .inr rfl|assumption) :
  PS X (.Assign [.Name y py] (.ListComp elt [⟨tg,iter,ifs,0⟩] scope pos) spos) (tAsg (tComp tgs.length sel wi g tc te) (gName i)):=by
 intro pins s σ H D I h;rw[exec_Assign_Name_used _ _ _ _ hsw];refine wpAny_bind (wpAny_standAt (wpAny_bind ?_));show wpAny _ X.A (do let _ ← comprehension (.ListComp elt [⟨tg,iter,ifs,0⟩] scope pos) scope X.env _ (newList []) false (eval iter X.env) (some (assign (.Name y py) X.env))) _ _ s;refine wpAny_bind (wpAny_mono (wpAny_comprehension_free (use:=some (assign (.Name y py) X.env)) (Q:=λ_ s'=>SP X pins D .next s') rfl hs (Zcr (Zev S I.ok)) S.kind S.names
  (thn (hi pins s σ H _ I h) λv s1 h1=>thn h1 λitv s2 h2=>?_)) (λ_ s' hq=>wpAny_pure (wpAny_pure hq)) λ_ _ e=>e)
 refine Zit (Cm:=λX=>X.calm=true) S (λ_ _ _ _ _=>hc) hg ht he (RR:=λacc C=>compPost (model X.prog X.w) X.A X.xe (some (assign (.Name y py) X.env)) (λ_ s'=>SP X pins D .next s') acc C) (Q:=λv H'=>D.nx (σ.set i (some v)) H') h2 ?_;intro s' C acc H' m hn fp hI q;have I0:Inv X pins σ H' s':=hI s'.heap (.refl ..);show wpAny _ X.A (assign (.Name y py) X.env (.ref acc)) _ _ _;refine wpAny_assign_Name (Zin (v:=.ref acc) I0 hN hiy hx rfl (λs2 I2 hsb=>?_) hf);obtain⟨a,sb,ha⟩:=hsb;have hCa:C≠a:=by
  rcases ha with z|z
  ·rw[z];exact fp.2.1
  ·exact Ne.symm (fp.2.2.2.2.1 y a z)
 refine⟨m,hn.sameBut sb hCa,λh' sb'=>?_⟩;obtain⟨f0,f1,f2,f3,f4,f5⟩:=fp;exact⟨_,H',I2.turned (t':=s2.toks) (it:=C) (λb o hb e=>(sb'.2 b hb).trans e) f0 f1 f3 f4 f5,q⟩
end
def InsC (a C:Addr) (h:Heap):Prop:=∃ox vs,h.get? a=some ox/\ox.cls=.ref C/\ox.data=.fields vs/\vs[2]?=some .none
inductive D where
 |non|bl (b:Bool)|int (i:Int)|str (x:Str)|ty (n:String)|tup (ds:List D)|lst (ds:List D)|scr (ds:List D)|adr (a:Addr)|dct (ks:List Key) (ds:List D)|exc (a C:Addr)
mutual
inductive Rep (K:W.Frag) (G:Hp):V->D->Prop
 |non:Rep K G .non .non
 |bl (b:Bool):Rep K G (.bl b) (.bl b)
 |int (i:Int):Rep K G (.int i) (.int i)
 |str (x:Str):Rep K G (.str x) (.str x)
 |ty (n:String):Rep K G (.ty n) (.ty n)
 |tup {a:Addr}{vs:List V}{ds:List D}:G a=some (.tup vs)->Reps K G vs ds->Rep K G (.ref a) (.tup ds)
 |lst {a:Addr}{vs:List V}{ds:List D}:G a=some (.lst vs)->Reps K G vs ds->Rep K G (.ref a) (.lst ds)
 |scr {a:Addr}{vs:List V}{ds:List D}:SqL K G a vs->Reps K G vs ds->Rep K G (.ref a) (.scr ds)
 |adr (a:Addr):Rep K G (.ref a) (.adr a)
 |dct {a:Addr}{ks:List Key}{vs:List V}{ds:List D}:G a=some (.dK (ks.zip vs))->ks.length=vs.length->Reps K G vs ds->Rep K G (.ref a) (.dct ks ds)
 |exc {a C:Addr}:G a=some (.ext (InsC a C))->Rep K G (.ref a) (.exc a C)
inductive Reps (K:W.Frag) (G:Hp):List V->List D->Prop
 |nil:Reps K G [] []
 |cons {v:V}{d:D}{vs:List V}{ds:List D}:Rep K G v d->Reps K G vs ds->Reps K G (v::vs) (d::ds)
end
def RepI (K:W.Frag) (G:Hp) (v:V):D->Prop
 |.non=>v=.non
 |.bl b=>v=.bl b
 |.int i=>v=.int i
 |.str x=>v=.str x
 |.ty n=>v=.ty n
 |.tup ds=>∃a vs,v=.ref a/\G a=some (.tup vs)/\Reps K G vs ds
 |.lst ds=>∃a vs,v=.ref a/\G a=some (.lst vs)/\Reps K G vs ds
 |.scr ds=>∃a vs,v=.ref a/\SqL K G a vs/\Reps K G vs ds
 |.adr a=>v=.ref a
 |.dct ks ds=>∃a vs,v=.ref a/\G a=some (.dK (ks.zip vs))/\ks.length=vs.length/\Reps K G vs ds
 |.exc a C=>v=.ref a/\G a=some (.ext (InsC a C))
theorem Rep.inv {K:W.Frag}{G:Hp}{v:V}{d:D}(r:Rep K G v d):RepI K G v d:=by
 cases r with
 |tup h r=>exact⟨_,_,rfl,h,r⟩
 |lst h r=>exact⟨_,_,rfl,h,r⟩
 |scr h r=>exact⟨_,_,rfl,h,r⟩
 |dct h l r=>exact⟨_,_,rfl,h,l,r⟩
 |exc h=>exact⟨rfl,h⟩
 |_=>rfl
def RepsI (K:W.Frag) (G:Hp) (vs:List V):List D->Prop
 |[]=>vs=[]
 |d::ds=>∃v ws,vs=v::ws/\Rep K G v d/\Reps K G ws ds
theorem Reps.inv {K:W.Frag}{G:Hp}{vs:List V}{ds:List D}(r:Reps K G vs ds):RepsI K G vs ds:=by
 cases r with
 |nil=>rfl
 |cons a b=>exact⟨_,_,rfl,a,b⟩
section
variable {K:W.Frag}{G G' H H':Hp}
mutual
theorem Rep.mono (s:Same G G'):∀{v:V}{d:D},Rep K G v d->Rep K G' v d
 |_,_,.non=>.non
 |_,_,.bl b=>.bl b
 |_,_,.int i=>.int i
 |_,_,.str x=>.str x
 |_,_,.ty n=>.ty n
 |_,_,.tup h r=>.tup (s _ _ h) (Reps.mono s r)
 |_,_,.lst h r=>.lst (s _ _ h) (Reps.mono s r)
 |_,_,.scr h r=>.scr (s.seq h) (Reps.mono s r)
 |_,_,.adr a=>.adr a
 |_,_,.dct h l r=>.dct (s _ _ h) l (Reps.mono s r)
 |_,_,.exc h=>.exc (s _ _ h)
theorem Reps.mono (s:Same G G'):∀{vs:List V}{ds:List D},Reps K G vs ds->Reps K G' vs ds
 |_,_,.nil=>.nil
 |_,_,.cons h r=>.cons (Rep.mono s h) (Reps.mono s r)
end
theorem Reps.length:∀{vs:List V}{ds:List D},Reps K G vs ds->vs.length=ds.length
 |_,_,.nil=>rfl
 |_,_,.cons _ r=>by rw[War,War,r.length]
theorem Reps.get:∀{vs:List V}{ds:List D}{i:Nat}{d:D},Reps K G vs ds->ds[i]?=some d->∃v,vs[i]?=some v/\Rep K G v d
 |_,_,_,_,.nil,e=>by simp at e
 |_,_,0,_,.cons r _,e=>by simp at e;subst e;exact⟨_,rfl,r⟩
 |_,_,i+1,d,.cons _ t,e=>by
  obtain⟨u,h1,h2⟩:=Reps.get (i:=i) (d:=d) t (by simpa using e);exact⟨u,by simpa using h1,h2⟩
theorem Reps.get':∀{vs:List V}{ds:List D}{i:Nat}{v:V},Reps K G vs ds->vs[i]?=some v->∃d,ds[i]?=some d/\Rep K G v d
 |_,_,_,_,.nil,e=>by simp at e
 |_,_,0,_,.cons r _,e=>by simp at e;subst e;exact⟨_,rfl,r⟩
 |_,_,i+1,d,.cons _ t,e=>by
  obtain⟨u,h1,h2⟩:=Reps.get' (i:=i) (v:=d) t (by simpa using e);exact⟨u,by simpa using h1,h2⟩
theorem Reps.append:∀{vs ws:List V}{ds es:List D},Reps K G vs ds->Reps K G ws es->Reps K G (vs++ws) (ds++es)
 |_,_,_,_,.nil,s=>s
 |_,_,_,_,.cons r t,s=>.cons r (Reps.append t s)
theorem Reps.take:∀{vs:List V}{ds:List D}(n:Nat),Reps K G vs ds->Reps K G (vs.take n) (ds.take n)
 |_,_,0,_=>.nil
 |_,_,_+1,.nil=>.nil
 |_,_,n+1,.cons r t=>.cons r (Reps.take n t)
theorem Reps.drop:∀{vs:List V}{ds:List D}(n:Nat),Reps K G vs ds->Reps K G (vs.drop n) (ds.drop n)
 |_,_,0,r=>r
 |_,_,_+1,.nil=>.nil
 |_,_,n+1,.cons _ t=>Reps.drop n t
theorem Reps.reverse {vs:List V}{ds:List D}(h:Reps K G vs ds):Reps K G vs.reverse ds.reverse:=by
 induction vs generalizing ds with
 |nil=>cases h;exact .nil
 |cons v vs ih=>
  cases h with
  |cons r t=>rw[Wdh,Wdh];exact(ih t).append (.cons r .nil)
theorem Reps.set:∀{vs:List V}{ds:List D}{v:V}{d:D}(i:Nat),Reps K G vs ds->Rep K G v d->Reps K G (vs.set i v) (ds.set i d)
 |_,_,_,_,_,.nil,_=>.nil
 |_,_,_,_,0,.cons _ t,q=>.cons q t
 |_,_,_,_,i+1,.cons r t,q=>.cons r (Reps.set i t q)
theorem Reps.ints {vs:List V}:∀{ns:List Int},Reps K G vs (ns.map D.int)->vs=ns.map V.int:=by
 induction vs with
 |nil=>intro ns h;cases ns with
  |nil=>rfl
  |cons n ns=>cases h
 |cons v vs ih=>intro ns h;cases ns with
  |nil=>cases h
  |cons n ns=>
   cases h with
   |cons r t=>cases r.inv;rw[ih t];rfl
theorem Reps.ofInts:∀(ns:List Int),Reps K G (ns.map V.int) (ns.map D.int)
 |[]=>.nil
 |n::ns=>.cons (.int n) (Reps.ofInts ns)
theorem Zg0 {vs:List V}{ds:List D}{i:Int}{d:D}(r:Reps K G vs ds) (h:atI ds i=some d):∃v,atI vs i=some v/\Rep K G v d:=by
 unfold atI at h ⊢;rw[<- r.length]at h;cases e:ixN vs.length i with
 |none=>rw[e]at h;cases h
 |some j=>rw[e]at h;exact r.get h
end
inductive OD where
 |lst (ds:List D)|dct (kvs:List (Key × D))|set (S:Int->Bool) (n:Nat)|dtt (kvs:List (List Key × D))
def OwnRep (K:W.Frag) (G:Hp):HO->OD->Prop
 |.lst vs,.lst ds=>Reps K G vs ds
 |.dK kvs,.dct kds=>Paired (λ(p:Key × V) (q:Key × D)=>p.1=q.1/\Rep K G p.2 q.2) kvs kds
 |.set S n,.set S' n'=>S=S' /\ n=n'
 |.dT kvs,.dtt kds=>Paired (λ(p:List Key × V) (q:List Key × D)=>p.1=q.1/\Rep K G p.2 q.2) kvs kds
 |_,_=>False
theorem OwnRep.mono {K:W.Frag}{G G':Hp}(s:Same G G') {o:HO}{od:OD}(h:OwnRep K G o od):OwnRep K G' o od:=by
 cases o <;> cases od <;> first
  |exact h.elim
  |exact Reps.mono s h
  |exact Paired.mapP h λ_ _ z=>⟨z.1,z.2.mono s⟩
  |exact h
inductive Slot where
 |any|val (d:D)|own (o:OD)|bor (o:OD)|ownA (a:Addr) (o:OD)
abbrev Evt:=List Slot
def Slot.od:Slot->Option OD
 |.own o=>some o
 |.bor o=>some o
 |.ownA _ o=>some o
 |_=>none
structure Gm where
 B:Addr->Prop
 F:Hp
 Hz:Hp
 Xo:Hp
def SlotAt (g:Gm) (x:Slot) (a:Addr):Prop:=match x with
 |.own _=>g.Hz a=none
 |.bor _=>g.B a
 |.ownA b _=>b=a/\g.Hz a=none
 |_=>True
structure Ok (K:W.Frag) (g:Gm) (G H:Hp) (σ:St) (Δ:Evt):Prop where
 same:∀b o,¬ g.B b->g.Hz b=some o->H b=some o
 lent:∀b,g.B b->H b≠none
 sub:Same g.F G
 frz:∀b o,G b=some o->H b=some o/\(g.Hz b=none\/g.F b=some o)
 ext:∀b o,g.Xo b=some o->H b=some o/\G b=none/\∀(i:Nat) x od,Δ[i]?=some x->x.od=some od -> σ[i]?≠some (some (.ref b))
 len:Δ.length = σ.length
 val:∀(i:Nat) d,Δ[i]?=some (.val d)->∃v,σ[i]?=some (some v)/\Rep K G v d
 own:∀(i:Nat) x od,Δ[i]?=some x->x.od=some od->∃a o,σ[i]?=some (some (.ref a))/\H a=some o/\OwnRep K G o od/\G a=none/\SlotAt g x a
 dis:∀(i j:Nat) x y od od' a,Δ[i]?=some x->x.od=some od -> Δ[j]?=some y->y.od=some od' -> σ[i]?=some (some (.ref a)) -> σ[j]?=some (some (.ref a))->i=j
section
variable {K:W.Frag}{g:Gm}{G H G' H':Hp}{σ:St}{Δ:Evt}
theorem Ok.live (k:Ok K g G H σ Δ):Same G H:=λb o e=>(k.frz b o e).1
theorem Ok.there (k:Ok K g G H σ Δ) {b:Addr}(h:H b=none):g.Hz b=none:=by
 cases e:g.Hz b with
 |none=>rfl
 |some o=>
  by_cases hb:g.B b
  ·exact absurd h (k.lent b hb)
  ·have:=k.same b o hb e
   rw[h]at this;cases this
theorem Ok.grow (k:Ok K g G H σ Δ) (sg:Same G G') (sh:Same H H') (hg:∀b o,G' b=some o->H' b=some o/\(G b=some o\/H b=none)):Ok K g G' H' σ Δ where
 same:=λb o hb e=>sh b o (k.same b o hb e)
 lent:=λb hb z=>by
  cases e:H b with
  |none=>exact k.lent b hb e
  |some o=>rw[sh b o e]at z;cases z
 sub:=k.sub.trans sg
 frz:=λb o e=>by
  obtain⟨h1,h2⟩:=hg b o e;refine⟨h1,?_⟩;rcases h2 with z|z
  ·exact(k.frz b o z).2
  ·exact .inl (k.there z)
 ext:=λb o e=>by
  obtain⟨h1,h2,h3⟩:=k.ext b o e;refine⟨sh b o h1,?_,h3⟩;cases q:G' b with
  |none=>rfl
  |some o'=>
   rcases(hg b o' q).2 with z|z
   ·rw[h2]at z;cases z
   ·rw[h1]at z;cases z
 len:=k.len
 val:=λi d e=>by
  obtain⟨v,h1,h2⟩:=k.val i d e;exact⟨v,h1,h2.mono sg⟩
 own:=λi x od e1 e2=>by
  obtain⟨a,o,h1,h2,h3,h4,h5⟩:=k.own i x od e1 e2;refine⟨a,o,h1,sh a o h2,h3.mono sg,?_,h5⟩;cases q:G' a with
  |none=>rfl
  |some o'=>
   rcases(hg a o' q).2 with z|z
   ·rw[h4]at z;cases z
   ·rw[h2]at z;cases z
 dis:=k.dis
theorem Ok.laid (k:Ok K g G H σ Δ) {p:Addr}(hp:H p=none) (o:HO):Ok K g (upd G p o) (upd H p o) σ Δ /\ Same G (upd G p o):=by
 have hG:G p=none:=by
  cases e:G p with
  |none=>rfl
  |some u=>rw[k.live p u e]at hp;cases hp
 have sg:Same G (upd G p o):=λb u e=>by rw[Zao (Zas e hG)];exact e
 refine⟨k.grow sg (λb u e=>by rw[Zao (Zas e hp)];exact e) λb u e=>?_,sg⟩;by_cases hb:b=p
 ·subst hb;rw[Zan]at e ⊢;exact⟨e,.inr hp⟩
 ·rw[Zao hb]at e ⊢;exact⟨k.live b u e,.inl e⟩
theorem Ok.lt (k:Ok K g G H σ Δ) {i:Nat}{x:Slot}(h:Δ[i]?=some x):i < σ.length:=by
 rw[<- k.len];exact(Waf.mp h).1
def Pend (K:W.Frag) (g:Gm) (G H:Hp) (σ:St) (Δ:Evt) (a:Addr) (od:OD):Prop:=
 ∃o,H a=some o/\OwnRep K G o od/\G a=none/\g.Hz a=none/\g.Xo a=none/\∀(i:Nat) x od',Δ[i]?=some x->x.od=some od' -> σ[i]?≠some (some (.ref a))
theorem Ok.setVal (k:Ok K g G H σ Δ) {v:V}{d:D}{i:Nat}(hi:i < Δ.length) (r:Rep K G v d):Ok K g G H (σ.set i (some v)) (Δ.set i (.val d)):=by
 have hs:i < σ.length:=by rw[<- k.len];exact hi
 have old:∀(j:Nat) x od,(Δ.set i (.val d))[j]?=some x->x.od=some od->j≠i /\ Δ[j]?=some x/\(σ.set i (some v))[j]? = σ[j]?:=λj x od e1 e2=>by
  by_cases hj:j=i
  ·subst hj
   rw[Wai hi]at e1;cases e1;cases e2
  ·rw[Wam (Ne.symm hj)]at e1
   exact⟨hj,e1,Wam (Ne.symm hj)⟩
 refine⟨k.same,k.lent,k.sub,k.frz,λb o e=>?_,by simp[k.len],λj e h=>?_,λj x od e1 e2=>?_,λj l x y od od' a e1 e2 e3 e4 e5 e6=>?_⟩
 ·obtain⟨h1,h2,h3⟩:=k.ext b o e
  refine⟨h1,h2,λj x od e1 e2=>?_⟩;obtain⟨_,q1,q2⟩:=old j x od e1 e2;rw[q2];exact h3 j x od q1 e2
 ·by_cases hj:j=i
  ·subst hj
   rw[Wai hi]at h;cases h;exact⟨v,Wai hs,r⟩
  ·rw[Wam (Ne.symm hj)]at h ⊢
   exact k.val j e h
 ·obtain⟨_,q1,q2⟩:=old j x od e1 e2
  rw[q2];exact k.own j x od q1 e2
 ·obtain⟨_,q1,q2⟩:=old j x od e1 e2
  obtain⟨_,q3,q4⟩:=old l y od' e3 e4;rw[q2]at e5;rw[q4]at e6;exact k.dis j l x y od od' a q1 e2 q3 e4 e5 e6
theorem Ok.setOwn (k:Ok K g G H σ Δ) {a:Addr}{od:OD}{i:Nat}(hi:i < Δ.length) (p:Pend K g G H σ Δ a od):Ok K g G H (σ.set i (some (.ref a))) (Δ.set i (.own od)):=by
 obtain⟨o,p1,p2,p3,p4,p5,p6⟩:=p;have hs:i < σ.length:=by rw[<- k.len];exact hi
 have old:∀(j:Nat) x,j≠i->(Δ.set i (.own od))[j]?=some x -> Δ[j]?=some x/\(σ.set i (some (.ref a)))[j]? = σ[j]?:=λj x hj e1=>by
  rw[Wam (Ne.symm hj)]at e1;exact⟨e1,Wam (Ne.symm hj)⟩
 refine⟨k.same,k.lent,k.sub,k.frz,λb ob e=>?_,by simp[k.len],λj e h=>?_,λj x od' e1 e2=>?_,λj l x y od1 od2 c e1 e2 e3 e4 e5 e6=>?_⟩
 ·obtain⟨h1,h2,h3⟩:=k.ext b ob e
  refine⟨h1,h2,λj x od' e1 e2=>?_⟩;by_cases hj:j=i
  ·subst hj
   rw[Wai hs];intro z;cases z;rw[p5]at e;cases e
  ·obtain⟨q1,q2⟩:=old j x hj e1
   rw[q2];exact h3 j x od' q1 e2
 ·by_cases hj:j=i
  ·subst hj
   rw[Wai hi]at h;cases h
  ·rw[Wam (Ne.symm hj)]at h ⊢
   exact k.val j e h
 ·by_cases hj:j=i
  ·subst hj
   rw[Wai hi]at e1;cases e1;cases e2;exact⟨a,o,Wai hs,p1,p2,p3,p4⟩
  ·obtain⟨q1,q2⟩:=old j x hj e1
   rw[q2];exact k.own j x od' q1 e2
 ·by_cases hj:j=i
  ·by_cases hl:l=i
   ·rw[hj,hl]
   ·obtain⟨q3,q4⟩:=old l y hl e3
    rw[q4]at e6;rw[hj,Wai hs]at e5;cases e5;exact absurd e6 (p6 l y od2 q3 e4)
  ·obtain⟨q1,q2⟩:=old j x hj e1
   rw[q2]at e5;by_cases hl:l=i
   ·rw[hl,Wai hs]at e6
    cases e6;exact absurd e5 (p6 j x od1 q1 e2)
   ·obtain⟨q3,q4⟩:=old l y hl e3
    rw[q4]at e6;exact k.dis j l x y od1 od2 c q1 e2 q3 e4 e5 e6
def Slot.put:Slot->OD->Slot
 |.own _,o=>.own o
 |.bor _,o=>.bor o
 |.ownA a _,o=>.ownA a o
 |x,_=>x
theorem SlotAt.put {g:Gm}{x:Slot}{a:Addr}{o:OD}(h:SlotAt g x a):SlotAt g (x.put o) a:=by cases x <;> exact h
theorem SlotAt.free {g:Gm}{x:Slot}{a:Addr}{od:OD}(h:SlotAt g x a) (ho:x.od=some od):g.Hz a=none\/g.B a:=by
 cases x with
 |any=>cases ho
 |val d=>cases ho
 |own o=>exact .inl h
 |bor o=>exact .inr h
 |ownA b o=>exact .inl h.2
theorem Slot.put_od {x:Slot}{od o:OD}(h:x.od=some od):(x.put o).od=some o:=by cases x <;> cases h <;> rfl
theorem Ok.write (k:Ok K g G H σ Δ) {a:Addr}{od od':OD}{x:Slot}{i:Nat}{o':HO}(hx:Δ[i]?=some x) (hod:x.od=some od) (ha:σ[i]?=some (some (.ref a))) (r:OwnRep K G o' od'):Ok K g G (upd H a o') σ (Δ.set i (x.put od')):=by
 obtain⟨a',o,q1,q2,q3,q4,q5⟩:=k.own i x od hx hod;rw[ha]at q1;cases q1;have hi:i < Δ.length:=(Waf.mp hx).1;have other:∀(j:Nat) y od2,(Δ.set i (x.put od'))[j]?=some y->y.od=some od2->j≠i -> Δ[j]?=some y:=λj y od2 e1 e2 hj=>by
  rw[Wam (Ne.symm hj)]at e1;exact e1
 have anyOd:∀(j:Nat) y od2,(Δ.set i (x.put od'))[j]?=some y->y.od=some od2->∃y' od3,Δ[j]?=some y' /\ y'.od=some od3:=λj y od2 e1 e2=>by
  by_cases hj:j=i
  ·subst hj;exact⟨x,od,hx,hod⟩
  ·exact⟨y,od2,other j y od2 e1 e2 hj,e2⟩
 refine⟨λb u hb e=>?_,λb hb=>?_,k.sub,λb u e=>?_,λb u e=>?_,by simp[k.len],λj e h=>?_,λj y od2 e1 e2=>?_,λj l y z od1 od2 c e1 e2 e3 e4 e5 e6=>?_⟩
 ·have hba:b≠a:=by
   intro z;subst z;rcases q5.free hod with z|z
   ·rw[z]at e;cases e
   ·exact hb z
  rw[Zao hba];exact k.same b u hb e
 ·by_cases hba:b=a
  ·subst hba;rw[Zan];intro z;cases z
  ·rw[Zao hba];exact k.lent b hb
 ·have hba:b≠a:=by intro z;subst z;rw[q4]at e;cases e
  rw[Zao hba];exact k.frz b u e
 ·obtain⟨h1,h2,h3⟩:=k.ext b u e
  have hba:b≠a:=by intro z;subst z;exact h3 i x od hx hod ha
  rw[Zao hba];refine⟨h1,h2,λj y od2 e1 e2=>?_⟩;obtain⟨y',od3,z1,z2⟩:=anyOd j y od2 e1 e2;exact h3 j y' od3 z1 z2
 ·by_cases hj:j=i
  ·subst hj
   rw[Wai hi]at h;cases x <;> cases hod <;> cases h
  ·rw[Wam (Ne.symm hj)]at h
   exact k.val j e h
 ·by_cases hj:j=i
  ·subst hj
   rw[Wai hi]at e1;cases e1;rw[Slot.put_od hod]at e2;cases e2;exact⟨a,o',ha,Zan,r,q4,q5.put⟩
  ·have e1':=other j y od2 e1 e2 hj
   obtain⟨c,oc,w1,w2,w3,w4,w5⟩:=k.own j y od2 e1' e2;have hca:c≠a:=by
    intro z;subst z;exact hj (k.dis j i y x od2 od c e1' e2 hx hod w1 ha)
   exact⟨c,oc,w1,by rw[Zao hca];exact w2,w3,w4,w5⟩
 ·obtain⟨y',od3,z1,z2⟩:=anyOd j y od1 e1 e2
  obtain⟨y'',od4,z3,z4⟩:=anyOd l z od2 e3 e4;exact k.dis j l y' y'' od3 od4 c z1 z2 z3 z4 e5 e6
theorem Ok.freeze (k:Ok K g G H σ Δ) {a:Addr}{ds:List D}{vs:List V}(p:Pend K g G H σ Δ a (.lst ds)) (hv:H a=some (.lst vs)):Ok K g (upd G a (.lst vs)) H σ Δ /\ Same G (upd G a (.lst vs))/\Rep K (upd G a (.lst vs)) (.ref a) (.lst ds):=by
 obtain⟨o,p1,p2,p3,p4,p5,p6⟩:=p;rw[hv]at p1;cases p1;have p2:Reps K G vs ds:=p2;have sg:Same G (upd G a (.lst vs)):=λb u e=>by rw[Zao (Zas e p3)];exact e
 refine⟨⟨k.same,k.lent,k.sub.trans sg,λb u e=>?_,λb u e=>?_,k.len,λj d h=>?_,λj x od e1 e2=>?_,k.dis⟩,sg,.lst Zan (p2.mono sg)⟩
 ·by_cases hb:b=a
  ·subst hb;rw[Zan]at e;cases e;exact⟨hv,.inl p4⟩
  ·rw[Zao hb]at e;exact k.frz b u e
 ·obtain⟨h1,h2,h3⟩:=k.ext b u e
  have hb:b≠a:=by intro z;subst z;rw[p5]at e;cases e
  exact⟨h1,by rw[Zao hb];exact h2,h3⟩
 ·obtain⟨v,h1,h2⟩:=k.val j d h
  exact⟨v,h1,h2.mono sg⟩
 ·obtain⟨c,o,w1,w2,w3,w4,w5⟩:=k.own j x od e1 e2
  have hc:c≠a:=by intro z;subst z;exact p6 j x od e1 e2 w1
  exact⟨c,o,w1,w2,w3.mono sg,by rw[Zao hc];exact w4,w5⟩
theorem Ok.drop (k:Ok K g G H σ Δ) (i:Nat):Ok K g G H σ (Δ.set i .any):=by
 have old:∀(j:Nat) x,(Δ.set i .any)[j]?=some x->x=.any\/(Δ[j]?=some x/\j≠i):=λj x e1=>by
  by_cases hj:j=i
  ·subst hj
   rw[Wd7]at e1;simp at e1;exact .inl e1.2.symm
  ·rw[Wam (Ne.symm hj)]at e1
   exact .inr ⟨e1,hj⟩
 have oldO:∀(j:Nat) x od,(Δ.set i .any)[j]?=some x->x.od=some od -> Δ[j]?=some x:=λj x od e1 e2=>by
  rcases old j x e1 with z|z
  ·subst z;cases e2
  ·exact z.1
 refine⟨k.same,k.lent,k.sub,k.frz,λb o e=>?_,by simp[k.len],λj e h=>?_,λj x od e1 e2=>k.own j x od (oldO j x od e1 e2) e2,λj l x y od od' a e1 e2 e3 e4=>k.dis j l x y od od' a (oldO j x od e1 e2) e2 (oldO l y od' e3 e4) e4⟩
 ·obtain⟨h1,h2,h3⟩:=k.ext b o e
  exact⟨h1,h2,λj x od e1 e2=>h3 j x od (oldO j x od e1 e2) e2⟩
 ·rcases old j _ h with z|z
  ·cases z
  ·exact k.val j e z.1
theorem Ok.take (k:Ok K g G H σ Δ) {i:Nat}{od:OD}(h:Δ[i]?=some (.own od)):∃a,σ[i]?=some (some (.ref a))/\Pend K g G H σ (Δ.set i .any) a od:=by
 obtain⟨a,o,h1,h2,h3,h4,h5⟩:=k.own i _ od h rfl;have h5:g.Hz a=none:=h5;refine⟨a,h1,o,h2,h3,h4,h5,?_,λj x od' e1 e2 e3=>?_⟩
 ·cases q:g.Xo a with
  |none=>rfl
  |some u=>exact absurd h1 ((k.ext a u q).2.2 i _ od h rfl)
 ·by_cases hj:j=i
  ·subst hj
   rw[Wd7]at e1;simp at e1;obtain⟨_,e1⟩:=e1;subst e1;cases e2
  ·rw[Wam (Ne.symm hj)]at e1
   exact hj (k.dis j i x _ od' od a e1 e2 h rfl e3 h1)
end
def Cont (K:W.Frag) (g:Gm) (G:Hp) (σ:St) (P:D->Evt->Prop) (Q:VK):Prop:=
 ∀v d G' H' Δ',Ok K g G' H' σ Δ' -> Same G G' -> Rep K G' v d->P d Δ' -> Q v H'
def JE (K:W.Frag) (t:TE) (Δ:Evt) (P:D->Evt->Prop):Prop:=
 ∀g G H σ Q,Ok K g G H σ Δ -> Cont K g G σ P Q->t σ H Q
def JT (K:W.Frag) (t:TT) (Δ:Evt) (P:Bool->Evt->Prop):Prop:=
 ∀g G H σ Q,Ok K g G H σ Δ -> (∀b G' H' Δ',Ok K g G' H' σ Δ' -> Same G G' -> P b Δ' -> Q b H')->t σ H Q
def JA (K:W.Frag) (t:TA) (Δ:Evt) (P:List D->Evt->Prop):Prop:=
 ∀g G H σ Q,Ok K g G H σ Δ -> (∀vs ds G' H' Δ',Ok K g G' H' σ Δ' -> Same G G' -> Reps K G' vs ds->P ds Δ' -> Q vs H')->t σ H Q
def JO (K:W.Frag) (t:TE) (Δ:Evt) (P:OD->Evt->Prop):Prop:=
 ∀g G H σ Q,Ok K g G H σ Δ -> (∀a od G' H' Δ',Ok K g G' H' σ Δ' -> Same G G' -> Pend K g G' H' σ Δ' a od->P od Δ' -> Q (.ref a) H')->t σ H Q
def JR2 (K:W.Frag) (r:R2) (d e:D) (Δ:Evt) (P:D->Evt->Prop):Prop:=
 ∀g G H σ Q x y,Ok K g G H σ Δ -> Rep K G x d->Rep K G y e->Cont K g G σ P Q->r x y H Q
def JR1 (K:W.Frag) (r:V->Hp->VK->Prop) (d:D) (Δ:Evt) (P:D->Evt->Prop):Prop:=
 ∀g G H σ Q x,Ok K g G H σ Δ -> Rep K G x d->Cont K g G σ P Q->r x H Q
def JC (K:W.Frag) (r:List V->Hp->VK->Prop) (ds:List D) (Δ:Evt) (P:D->Evt->Prop):Prop:=
 ∀g G H σ Q vs,Ok K g G H σ Δ -> Reps K G vs ds->Cont K g G σ P Q->r vs H Q
structure Pst where
 nx:Evt->Prop
 rt:D->Evt->Prop
 bk:Evt->Prop:=λ_=>False
 ct:Evt->Prop:=λ_=>False
 ro:OD->Evt->Prop:=λ_ _=>False
structure SCont (K:W.Frag) (g:Gm) (P:Pst) (E:Ends):Prop where
 nx:∀σ G H Δ,Ok K g G H σ Δ -> P.nx Δ -> E.nx σ H
 rt:∀v d σ G H Δ,Ok K g G H σ Δ -> Rep K G v d->P.rt d Δ -> E.rt v H
 bk:∀σ G H Δ,Ok K g G H σ Δ -> P.bk Δ -> E.bk σ H
 ct:∀σ G H Δ,Ok K g G H σ Δ -> P.ct Δ -> E.ct σ H
 ro:∀a od σ G H Δ,Ok K g G H σ Δ -> Pend K g G H σ Δ a od->P.ro od Δ -> E.rt (.ref a) H
def JS (K:W.Frag) (t:TS) (Δ:Evt) (P:Pst):Prop:=
 ∀g G H σ E,Ok K g G H σ Δ -> SCont K g P E->t E σ H
def JG (K:W.Frag) (t:TG) (d:D) (Δ:Evt) (P:Evt->Prop):Prop:=
 ∀g G H σ v (R:St->Hp->Prop),Ok K g G H σ Δ -> Rep K G v d->(∀σ' G' H' Δ',Ok K g G' H' σ' Δ' -> Same G G' -> P Δ' -> R σ' H')->t v σ H R
def JGs (K:W.Frag) (t:TGs) (ds:List D) (Δ:Evt) (P:Evt->Prop):Prop:=
 ∀g G H σ vs (R:St->Hp->Prop),Ok K g G H σ Δ -> Reps K G vs ds->(∀σ' G' H' Δ',Ok K g G' H' σ' Δ' -> Same G G' -> P Δ' -> R σ' H')->t vs σ H R
section
variable {K:W.Frag}{Δ:Evt}
theorem Cont.up {g:Gm}{G G1:Hp}{σ:St}{P:D->Evt->Prop}{Q:VK}(c:Cont K g G σ P Q) (s:Same G G1):Cont K g G1 σ P Q:=
 λv d G' H' Δ' k s' r p=>c v d G' H' Δ' k (s.trans s') r p
theorem JE.mono {t:TE}{P P':D->Evt->Prop}(h:JE K t Δ P) (hp:∀d Δ,P d Δ -> P' d Δ):JE K t Δ P':=
 λg G H σ Q k c=>h g G H σ Q k λv d G' H' Δ' k' s r p=>c v d G' H' Δ' k' s r (hp d Δ' p)
theorem JS.mono {t:TS}{P P':Pst}(h:JS K t Δ P) (hn:∀Δ,P.nx Δ -> P'.nx Δ) (hr:∀d Δ,P.rt d Δ -> P'.rt d Δ) (hb:∀Δ,P.bk Δ -> P'.bk Δ) (hc:∀Δ,P.ct Δ -> P'.ct Δ) (ho:∀od Δ,P.ro od Δ -> P'.ro od Δ):JS K t Δ P':=
 λg G H σ E k c=>h g G H σ E k ⟨λσ' G' H' Δ' k' p=>c.nx σ' G' H' Δ' k' (hn _ p),λv d σ' G' H' Δ' k' r p=>c.rt v d σ' G' H' Δ' k' r (hr _ _ p),λσ' G' H' Δ' k' p=>c.bk σ' G' H' Δ' k' (hb _ p),λσ' G' H' Δ' k' p=>c.ct σ' G' H' Δ' k' (hc _ p),λa od σ' G' H' Δ' k' r p=>c.ro a od σ' G' H' Δ' k' r (ho _ _ p)⟩
theorem Zac {i:Nat}{d:D}{P:D->Evt->Prop}(h:Δ[i]?=some (.val d)) (p:P d Δ):JE K (tVar i) Δ P:=λg G H σ Q k c=>by
 obtain⟨v,h1,h2⟩:=k.val i d h;exact⟨v,h1,c v d G H Δ k (Same.refl _) h2 p⟩
theorem Zi4 {i:Nat}{ds:List D}{P:D->Evt->Prop}(h:Δ[i]?=some (.own (.lst ds))) (p:P (.lst ds) (Δ.set i (.val (.lst ds)))):JE K (tVar i) Δ P:=λg G H σ Q k c=>by
 obtain⟨a,h1,pd⟩:=k.take h;obtain⟨o,q1,q2,_⟩:=id pd;cases o with
 |lst vs=>
  obtain⟨k2,sg,r⟩:=(k.drop i).freeze pd q1;have k3:=k2.setVal (i:=i) (by simpa using (Waf.mp h).1) r;have e1:σ.set i (some (.ref a)) = σ:=by
   apply Wb3;intro j;by_cases hj:j=i
   ·subst hj;rw[Wai (k.lt h),h1]
   ·rw[Wam (Ne.symm hj)]
  rw[e1,List.set_set]at k3;exact⟨.ref a,h1,c _ _ _ H _ k3 sg r p⟩
 |_=>exact absurd q2 (λz=>z)
theorem Za3 {i:Int}{P:D->Evt->Prop}(p:P (.int i) Δ):JE K (tC (.int i)) Δ P:=λg G H σ Q k c=>c _ _ G H Δ k (Same.refl _) (.int i) p
theorem Zpv {b:Bool}{P:D->Evt->Prop}(p:P (.bl b) Δ):JE K (tC (.bl b)) Δ P:=λg G H σ Q k c=>c _ _ G H Δ k (Same.refl _) (.bl b) p
theorem Zgc {P:D->Evt->Prop}(p:P .non Δ):JE K (tC .non) Δ P:=λg G H σ Q k c=>c _ _ G H Δ k (Same.refl _) .non p
theorem Zjc {x:String}{P:D->Evt->Prop}(p:P (.ty x) Δ):JE K (tC (.ty x)) Δ P:=λg G H σ Q k c=>c _ _ G H Δ k (Same.refl _) (.ty x) p
theorem Zau {r:R2}{ta tb:TE}{P:D->Evt->Prop}(h:JE K ta Δ λd Δ1=>JE K tb Δ1 λe Δ2=>JR2 K r d e Δ2 P):JE K (tOp r ta tb) Δ P:=λg G H σ Q k c=>
 h g G H σ _ k λx d G1 H1 Δ1 k1 s1 r1 p1=>p1 g G1 H1 σ _ k1 λy e G2 H2 Δ2 k2 s2 r2 p2=>p2 g G2 H2 σ Q x y k2 (r1.mono s2) r2 (c.up (s1.trans s2))
theorem Zwg {r:V->Hp->VK->Prop}{ta:TE}{P:D->Evt->Prop}(h:JE K ta Δ λd Δ1=>JR1 K r d Δ1 P):JE K (tUn r ta) Δ P:=λg G H σ Q k c=>
 h g G H σ _ k λx d G1 H1 Δ1 k1 s1 r1 p1=>p1 g G1 H1 σ Q x k1 r1 (c.up s1)
theorem Zaf {P:List D->Evt->Prop}(p:P [] Δ):JA K tNil Δ P:=λg G H σ Q k c=>c [] [] G H Δ k (Same.refl _) .nil p
theorem Zab {ta:TE}{tr:TA}{P:List D->Evt->Prop}(h:JE K ta Δ λd Δ1=>JA K tr Δ1 λds Δ2=>P (d::ds) Δ2):JA K (tCons ta tr) Δ P:=λg G H σ Q k c=>
 h g G H σ _ k λx d G1 H1 Δ1 k1 s1 r1 p1=>p1 g G1 H1 σ _ k1 λvs ds G2 H2 Δ2 k2 s2 r2 p2=>c _ _ G2 H2 Δ2 k2 (s1.trans s2) (.cons (r1.mono s2) r2) p2
theorem Za9 {r:List V->Hp->VK->Prop}{ta:TA}{P:D->Evt->Prop}(h:JA K ta Δ λds Δ1=>JC K r ds Δ1 P):JE K (tCB r ta) Δ P:=λg G H σ Q k c=>
 h g G H σ _ k λvs ds G1 H1 Δ1 k1 s1 r1 p1=>p1 g G1 H1 σ Q vs k1 r1 (c.up s1)
theorem Zbw {ta:TA}{P:D->Evt->Prop}(h:JA K ta Δ λds Δ1=>ds.length<=sizeLine/\P (.tup ds) Δ1):JE K (tTup ta) Δ P:=λg G H σ Q k c=>
 h g G H σ _ k λvs ds G1 H1 Δ1 k1 s1 r1 ⟨z,p1⟩=>⟨by rw[r1.length];exact z,λp hp=>by
  obtain⟨k2,sg⟩:=k1.laid hp (.tup vs);exact c _ _ _ _ Δ1 k2 (s1.trans sg) (.tup Zan (r1.mono sg)) p1⟩
theorem Zgv {ta:TA}{P:D->Evt->Prop}(h:JA K ta Δ λds Δ1=>ds.length<=sizeLine/\P (.lst ds) Δ1):JE K (tLst ta) Δ P:=λg G H σ Q k c=>
 h g G H σ _ k λvs ds G1 H1 Δ1 k1 s1 r1 ⟨z,p1⟩=>⟨by rw[r1.length];exact z,λp hp=>by
  obtain⟨k2,sg⟩:=k1.laid hp (.lst vs);exact c _ _ _ _ Δ1 k2 (s1.trans sg) (.lst Zan (r1.mono sg)) p1⟩
theorem Ok.fresh {g:Gm}{G H:Hp}{σ:St}(k:Ok K g G H σ Δ) {p:Addr}{o:HO}{od:OD}(hp:H p=none) (r:OwnRep K G o od):Ok K g G (upd H p o) σ Δ /\ Pend K g G (upd H p o) σ Δ p od:=by
 have hG:G p=none:=by
  cases e:G p with
  |none=>rfl
  |some u=>rw[k.live p u e]at hp;cases hp
 refine⟨k.grow (Same.refl _) (λb u e=>by rw[Zao (Zas e hp)];exact e) λb u e=>⟨?_,.inl e⟩,o,Zan,r,hG,k.there hp,?_,λj x od' e1 e2 e3=>?_⟩
 ·have hb:b≠p:=by intro z;subst z;rw[hG]at e;cases e
  rw[Zao hb];exact k.live b u e
 ·cases q:g.Xo p with
  |none=>rfl
  |some u=>have z:=(k.ext p u q).1;rw[hp]at z;cases z
 ·obtain⟨a,oo,w1,w2,_⟩:=k.own j x od' e1 e2
  rw[e3]at w1;cases w1;rw[hp]at w2;cases w2
theorem Zdk {ta:TA}{P:OD->Evt->Prop}(h:JA K ta Δ λds Δ1=>ds.length<=sizeLine/\P (.lst ds) Δ1):JO K (tLst ta) Δ P:=λg G H σ Q k c=>
 h g G H σ _ k λvs ds G1 H1 Δ1 k1 s1 r1 ⟨z,p1⟩=>⟨by rw[r1.length];exact z,λp hp=>by
  obtain⟨k2,pd⟩:=k1.fresh (od:=.lst ds) hp (show OwnRep K G1 (.lst vs) (.lst ds) from r1);exact c p _ G1 _ Δ1 k2 s1 pd p1⟩
theorem Zbp {t:TE}{P:D->Evt->Prop}(h:JO K t Δ λod Δ1=>∃ds,od=.lst ds/\P (.lst ds) Δ1):JE K t Δ P:=λg G H σ Q k c=>
 h g G H σ Q k λa od G1 H1 Δ1 k1 s1 pd hq_=>by
  obtain⟨ds,e,p1⟩:=hq_;subst e;obtain⟨o,q1,q2,_⟩:=id pd;cases o with
  |lst vs=>
   obtain⟨k2,sg,r⟩:=k1.freeze pd q1;exact c _ _ _ H1 Δ1 k2 (s1.trans sg) r p1
  |_=>exact absurd q2 (λz=>z)
theorem Zhp {c:TT}{ta tb:TE}{P:D->Evt->Prop}(h:JT K c Δ λb Δ1=>if b=true then JE K ta Δ1 P else JE K tb Δ1 P):JE K (tIf c ta tb) Δ P:=λg G H σ Q k q=>
 h g G H σ _ k λb G1 H1 Δ1 k1 s1 p1=>by
  cases b with
  |true=>exact(show JE K ta Δ1 P from p1) g G1 H1 σ Q k1 (q.up s1)
  |false=>exact(show JE K tb Δ1 P from p1) g G1 H1 σ Q k1 (q.up s1)
theorem Za0 {t:TE}{P:Bool->Evt->Prop}(h:JE K t Δ λd Δ1=>∃b,d=.bl b/\P b Δ1):JT K (tTest t) Δ P:=λg G H σ Q k c=>
 h g G H σ _ k λv d G1 H1 Δ1 k1 s1 r1 hq_=>by obtain⟨b,e,p1⟩:=hq_;subst e;cases r1.inv;exact⟨b,rfl,c b G1 H1 Δ1 k1 s1 p1⟩
theorem Zrj {a b:TT}{P:Bool->Evt->Prop}(h:JT K a Δ λx Δ1=>if x=true then JT K b Δ1 P else P false Δ1):JT K (tAnd a b) Δ P:=λg G H σ Q k c=>
 h g G H σ _ k λx G1 H1 Δ1 k1 s1 p1=>by
  cases x with
  |true=>exact(show JT K b Δ1 P from p1) g G1 H1 σ _ k1 λy G2 H2 Δ2 k2 s2 p2=>c y G2 H2 Δ2 k2 (s1.trans s2) p2
  |false=>exact c false G1 H1 Δ1 k1 s1 p1
theorem Zix {a b:TT}{P:Bool->Evt->Prop}(h:JT K a Δ λx Δ1=>if x=true then P true Δ1 else JT K b Δ1 P):JT K (tOr a b) Δ P:=λg G H σ Q k c=>
 h g G H σ _ k λx G1 H1 Δ1 k1 s1 p1=>by
  cases x with
  |true=>exact c true G1 H1 Δ1 k1 s1 p1
  |false=>exact(show JT K b Δ1 P from p1) g G1 H1 σ _ k1 λy G2 H2 Δ2 k2 s2 p2=>c y G2 H2 Δ2 k2 (s1.trans s2) p2
theorem Zd9 {a:TT}{P:Bool->Evt->Prop}(h:JT K a Δ λx Δ1=>P (!x) Δ1):JT K (tNot a) Δ P:=λg G H σ Q k c=>
 h g G H σ _ k λx G1 H1 Δ1 k1 s1 p1=>c (!x) G1 H1 Δ1 k1 s1 p1
theorem Zbc {P:Bool->Evt->Prop}(p:P true Δ):JT K tTrue Δ P:=λg G H σ Q k c=>c true G H Δ k (Same.refl _) p
theorem Zst {P:Pst}(p:P.nx Δ):JS K tNext Δ P:=λg G H σ E k c=>c.nx σ G H Δ k p
theorem Zrn {t u:TS}{P:Pst}(h:JS K t Δ { P with nx:=λΔ1=>JS K u Δ1 P }):JS K (tSeq t u) Δ P:=λg G H σ E k c=>
 h g G H σ _ k ⟨λσ1 G1 H1 Δ1 k1 p1=>p1 g G1 H1 σ1 E k1 c,c.rt,c.bk,c.ct,c.ro⟩
theorem Zt4 {te:TE}{P:Pst}(h:JE K te Δ P.rt):JS K (tRet te) Δ P:=λg G H σ E k c=>
 h g G H σ _ k λv d G1 H1 Δ1 k1 s1 r1 p1=>c.rt v d σ G1 H1 Δ1 k1 r1 p1
theorem Zsq {te:TE}{P:Pst}(h:JO K te Δ P.ro):JS K (tRet te) Δ P:=λg G H σ E k c=>
 h g G H σ _ k λa od G1 H1 Δ1 k1 s1 pd p1=>c.ro a od σ G1 H1 Δ1 k1 pd p1
theorem Zoa {i:Nat}{od:OD}{P:OD->Evt->Prop}(h:Δ[i]?=some (.own od)) (p:P od (Δ.set i .any)):JO K (tVar i) Δ P:=λg G H σ Q k c=>by
 obtain⟨a,h1,pd⟩:=k.take h;exact⟨.ref a,h1,c a od G H _ (k.drop i) (Same.refl _) pd p⟩
theorem Ztu {te:TE}{P:Pst}(h:JE K te Δ λ_ Δ1=>P.nx Δ1):JS K (tDrop te) Δ P:=λg G H σ E k c=>
 h g G H σ _ k λv d G1 H1 Δ1 k1 s1 r1 p1=>c.nx σ G1 H1 Δ1 k1 p1
theorem Zwa {c:TT}{t u:TS}{P:Pst}(h:JT K c Δ λb Δ1=>if b=true then JS K t Δ1 P else JS K u Δ1 P):JS K (tIfS c t u) Δ P:=λg G H σ E k q=>
 h g G H σ _ k λb G1 H1 Δ1 k1 s1 p1=>by
  cases b with
  |true=>exact(show JS K t Δ1 P from p1) g G1 H1 σ E k1 q
  |false=>exact(show JS K u Δ1 P from p1) g G1 H1 σ E k1 q
theorem Zuf {te:TE}{t:TG}{P:Pst}(h:JE K te Δ λd Δ1=>JG K t d Δ1 P.nx):JS K (tAsg te t) Δ P:=λg G H σ E k c=>
 h g G H σ _ k λv d G1 H1 Δ1 k1 s1 r1 p1=>p1 g G1 H1 σ v _ k1 r1 λσ2 G2 H2 Δ2 k2 s2 p2=>c.nx σ2 G2 H2 Δ2 k2 p2
theorem Zhd {P:Evt->Prop}(p:P Δ):JGs K gNil [] Δ P:=λg G H σ vs R k r c=>by cases r;exact⟨rfl,c σ G H Δ k (Same.refl _) p⟩
theorem Zck {t:TG}{u:TGs}{d:D}{ds:List D}{P:Evt->Prop}(h:JG K t d Δ λΔ1=>JGs K u ds Δ1 P):JGs K (gCons t u) (d::ds) Δ P:=λg G H σ vs R k r c=>by
 obtain⟨_,_,rfl,r1,rr⟩:=r.inv
 next=>exact⟨_,_,rfl,h g G H σ _ _ k r1 λσ1 G1 H1 Δ1 k1 s1 p1=>p1 g G1 H1 σ1 _ R k1 (rr.mono s1) λσ2 G2 H2 Δ2 k2 s2 p2=>c σ2 G2 H2 Δ2 k2 (s1.trans s2) p2⟩
theorem Zj5 {n:Nat}{t:TGs}{ds:List D}{P:Evt->Prop}(hl:ds.length=n) (h:JGs K t ds Δ P):JG K (gTup K n t) (.tup ds) Δ P:=λg G H σ v R k r c=>by
 obtain⟨_,_,rfl,ha,rs⟩:=r.inv
 next=>exact⟨_,_,rfl,SqT.of (k.live _ _ ha),by rw[rs.length];exact hl,h g G H σ _ R k rs c⟩
def ItOk (K:W.Frag) (G:Hp) (J:It) (ds:List D):Prop:=
 ∀G1 H1,Same G G1->Same G1 H1->J.stop ds.length H1/\∀(i:Nat) d,ds[i]?=some d->J.go i H1/\∀x H2,J.yld i H1 x H2->∃G2,Same G1 G2/\Same H1 H2/\(∀b o,G2 b=some o->H2 b=some o/\(G1 b=some o\/H1 b=none))/\Rep K G2 x d
def JI (K:W.Frag) (wi:TI) (Δ:Evt) (P:List D->Evt->Prop):Prop:=
 ∀g G H σ (R:It->Hp->Prop),Ok K g G H σ Δ -> (∀J ds G' H' Δ',Ok K g G' H' σ Δ' -> Same G G' -> ItOk K G' J ds->P ds Δ' -> R J H')->wi σ H R
theorem Zu2 {tl:TE}{P:List D->Evt->Prop}(h:JE K tl Δ λd Δ1=>∃ds,d=.tup ds/\P ds Δ1):JI K (iTup K tl) Δ P:=λg G H σ R k c=>
 h g G H σ _ k λv d G1 H1 Δ1 k1 s1 r1 hq_=>by
  obtain⟨ds,e,p1⟩:=hq_;subst e;obtain⟨a,vs,rfl,ha,rs⟩:=r1.inv
  next=>
   refine⟨a,rfl,⟨vs,SqT.of (k1.live _ _ ha)⟩,c _ ds G1 H1 Δ1 k1 s1 (λG2 H2 sg sh=>⟨⟨vs,SqT.of (sh _ _ (sg _ _ ha)),by rw[rs.length];exact Wah _⟩,λi d e=>?_⟩) p1⟩;obtain⟨v,hv,rv⟩:=rs.get e;refine⟨⟨vs,v,SqT.of (sh _ _ (sg _ _ ha)),hv⟩,λx H3 ⟨e3,y3⟩=>⟨G2,Same.refl _,by rw[e3];exact Same.refl _,λb o q=>⟨by rw[e3];exact sh b o q,.inl q⟩,?_⟩⟩;have:=y3 vs (SqT.of (sh _ _ (sg _ _ ha)));rw[hv]at this;cases this;exact rv.mono sg
theorem Zsk {tl:TE}{P:List D->Evt->Prop}(h:JE K tl Δ λd Δ1=>∃ds,(d=.lst ds\/d=.scr ds)/\P ds Δ1):JI K (iList K tl) Δ P:=λg G H σ R k c=>
 h g G H σ _ k λv d G1 H1 Δ1 k1 s1 r1 hq_=>by
  obtain⟨ds,e,p1⟩:=hq_;obtain⟨a,vs,ea,hs,rs⟩:∃a vs,v=.ref a/\SqL K G1 a vs/\Reps K G1 vs ds:=by
   rcases e with e|e
   ·subst e;cases r1 with|lst ha rs=>exact⟨_,_,rfl,SqL.of ha,rs⟩
   ·subst e;cases r1 with|scr ha rs=>exact⟨_,_,rfl,ha,rs⟩
  subst ea;refine⟨a,rfl,⟨vs,k1.live.seq hs⟩,c _ ds G1 H1 Δ1 k1 s1 (λG2 H2 sg sh=>⟨⟨vs,sh.seq (sg.seq hs),by rw[rs.length];exact Wah _⟩,λi d e=>?_⟩) p1⟩;obtain⟨v,hv,rv⟩:=rs.get e;refine⟨⟨vs,v,sh.seq (sg.seq hs),hv⟩,λx H3 ⟨e3,y3⟩=>⟨G2,Same.refl _,by rw[e3];exact Same.refl _,λb o q=>⟨by rw[e3];exact sh b o q,.inl q⟩,?_⟩⟩;have:=y3 vs (sh.seq (sg.seq hs));rw[hv]at this;cases this;exact rv.mono sg
def rngD (lo:Int) (n:Nat):List D:=(Wau n).map λi:Nat=>D.int (lo+(i:Int))
theorem Zaz (lo:Int) (n:Nat):(rngD lo n).length=n:=by simp[rngD]
theorem Zbo {lo:Int}{n i:Nat}{d:D}(h:(rngD lo n)[i]?=some d):i<n/\d=.int (lo+(i:Int)):=by
 unfold rngD at h;rw[Wad]at h;cases e:(Wau n)[i]? with
 |none=>rw[e]at h;cases h
 |some j=>
  rw[e]at h;obtain⟨h1,h2⟩:=Waf.mp e;rw[List.getElem_range]at h2;subst h2;exact⟨by simpa using h1,(Wa4.inj h).symm⟩
theorem Zqq {G:Hp}(lo:Int) (n:Nat):ItOk K G (Itr lo n) (rngD lo n):=λG1 H1 sg sh=>by
 refine⟨by show n<=(rngD lo n).length;rw[Zaz];exact Wah _,λi d e=>?_⟩;obtain⟨h1,h2⟩:=Zbo e;subst h2;refine⟨h1,λx H2 ⟨e2,y2⟩=>⟨G1,Same.refl _,by rw[e2];exact Same.refl _,λb o q=>⟨by rw[e2];exact sh b o q,.inl q⟩,?_⟩⟩;subst y2;exact .int _
theorem Za5 {ta:TA}{P:List D->Evt->Prop}(h:JA K ta Δ λds Δ1=>∃n:Int,ds=[.int n] /\ -(2 ^ 62)<=n/\n<2 ^ 62/\P (rngD 0 n.toNat) Δ1):JI K (iRng1 ta) Δ P:=λg G H σ R k c=>
 h g G H σ _ k λvs ds G1 H1 Δ1 k1 s1 r1 hq_=>by
  obtain⟨n,e,h1,h2,p1⟩:=hq_;subst e;obtain⟨_,_,rfl,ra,rr⟩:=r1.inv
  next=>
   cases rr.inv;cases ra.inv;exact⟨n,rfl,h1,h2,c _ _ G1 H1 Δ1 k1 s1 (Zqq 0 _) p1⟩
theorem Zu1 {wi:TI}{t:TG}{tb:TS}{P:Pst}(h:JI K wi Δ λds Δ1=>∃I:Nat->Evt->Prop,I 0 Δ1/\(∀i d Δ2,ds[i]?=some d->I i Δ2->JG K t d Δ2 λΔ3=>JS K tb Δ3 ⟨I (i+1),P.rt,P.nx,I (i+1),P.ro⟩)/\∀Δ2,I ds.length Δ2->P.nx Δ2) :
  JS K (tFor wi t tb) Δ P:=λg G H σ E k c=>
 h g G H σ _ k λJ ds G1 H1 Δ1 k1 s1 it hq_=>by
  obtain⟨I,h0,ht,he⟩:=hq_;refine⟨λi m σ H=>m=ds.length-i/\i<=ds.length/\∃G Δ,Ok K g G H σ Δ /\ Same G1 G/\I i Δ,⟨ds.length,by simp,Wb2 _,G1,Δ1,k1,Same.refl _,h0⟩,?_⟩;rintro i m σ2 H2 ⟨rfl,hi,G2,Δ2,k2,s2,h2⟩;obtain⟨stop,go⟩:=it G2 H2 s2 k2.live;by_cases hlt:i<ds.length
  ·obtain⟨g1,g2⟩:=go i _ (Waa hlt)
   refine .inr ⟨g1,λσ' H'=>i+1<=ds.length/\∃G Δ,Ok K g G H' σ' Δ /\ Same G1 G/\I (i+1) Δ,λσ' H' p'=>⟨ds.length-(i+1),by omega,rfl,p'.1,p'.2⟩,λx H3 y=>?_⟩;obtain⟨G3,a1,a2,a3,a4⟩:=g2 x H3 y;have k3:=k2.grow a1 a2 a3;refine ht i _ Δ2 (Waa hlt) h2 { g with F:=G3,Xo:=g.Xo } G3 H3 σ2 x _ ?_ a4 λσ4 G4 H4 Δ4 k4 s4 p4=>?_
   ·exact⟨k3.same,k3.lent,Same.refl _,λb o q=>⟨(k3.frz b o q).1,.inr q⟩,k3.ext,k3.len,k3.val,k3.own,k3.dis⟩
   ·have cv:∀{G5 H5:Hp}{σ5:St}{Δ5:Evt},Ok K { g with F:=G3,Xo:=g.Xo } G5 H5 σ5 Δ5->Ok K g G5 H5 σ5 Δ5/\Same G1 G5:=λ{G5 H5 σ5 Δ5} k5=>
     ⟨⟨k5.same,k5.lent,k3.sub.trans k5.sub,λb o q=>by
      obtain⟨q1,q2⟩:=k5.frz b o q;refine⟨q1,?_⟩;rcases q2 with z|z
      ·exact .inl z
      ·exact(k3.frz b o z).2,k5.ext,k5.len,k5.val,k5.own,k5.dis⟩,s2.trans (a1.trans k5.sub)⟩
    refine p4 _ G4 H4 σ4 _ k4 ⟨λσ5 G5 H5 Δ5 k5 p5=>?_,λv d σ5 G5 H5 Δ5 k5 r5 p5=>?_,λσ5 G5 H5 Δ5 k5 p5=>?_,λσ5 G5 H5 Δ5 k5 p5=>?_,λa od σ5 G5 H5 Δ5 k5 pd5 p5=>?_⟩
    ·exact⟨hlt,G5,Δ5,(cv k5).1,(cv k5).2,p5⟩
    ·exact c.rt v d σ5 G5 H5 Δ5 (cv k5).1 r5 p5
    ·exact c.nx σ5 G5 H5 Δ5 (cv k5).1 p5
    ·exact⟨hlt,G5,Δ5,(cv k5).1,(cv k5).2,p5⟩
    ·exact c.ro a od σ5 G5 H5 Δ5 (cv k5).1 pd5 p5
  ·have e:i=ds.length:=by omega
   subst e;exact .inl ⟨stop,c.nx σ2 G2 H2 Δ2 k2 (he Δ2 h2)⟩
theorem Zpr {c:TT}{tb:TS}{P:Pst}(I:Nat->Evt->Prop) (h0:∃m,I m Δ) (ht:∀m Δ1,I m Δ1->JT K c Δ1 λb Δ2=>if b=true then JS K tb Δ2 ⟨λΔ3=>∃m',m'<m/\I m' Δ3,P.rt,P.nx,λΔ3=>∃m',m'<m/\I m' Δ3,P.ro⟩ else P.nx Δ2) :
  JS K (tWhile c tb) Δ P:=λg G H σ E k q=>by
 obtain⟨m,h0⟩:=h0;refine⟨λm σ H=>∃G Δ,Ok K g G H σ Δ /\ I m Δ,⟨m,G,Δ,k,h0⟩,?_⟩;rintro m σ1 H1 ⟨G1,Δ1,k1,h1⟩;refine ht m Δ1 h1 g G1 H1 σ1 _ k1 λb G2 H2 Δ2 k2 s2 p2=>?_;cases b with
 |true=>
  refine⟨λσ' H'=>∃m',m'<m/\∃G Δ,Ok K g G H' σ' Δ /\ I m' Δ,λσ' H' ⟨m',hm,z⟩=>⟨m',hm,z⟩,?_⟩;refine(show JS K tb Δ2 _ from p2) g G2 H2 σ1 _ k2 ⟨λσ5 G5 H5 Δ5 k5 ⟨m',hm,p5⟩=>⟨m',hm,G5,Δ5,k5,p5⟩,q.rt,q.nx,λσ5 G5 H5 Δ5 k5 ⟨m',hm,p5⟩=>⟨m',hm,G5,Δ5,k5,p5⟩,q.ro⟩
 |false=>exact q.nx σ1 G2 H2 Δ2 k2 p2
end
section
variable {K:W.Frag}{Δ:Evt}{P:D->Evt->Prop}
theorem jr_I {C:Int->Int->Prop}{f:Int->Int->Int}{i j:Int}(hc:C i j) (p:P (.int (f i j)) Δ):JR2 K (rI C λi j=>.int (f i j)) (.int i) (.int j) Δ P:=λg G H σ Q x y k rx ry c=>by
 cases rx.inv;cases ry.inv;exact⟨i,j,rfl,rfl,hc,c _ _ G H Δ k (Same.refl _) (.int _) p⟩
theorem Zpb {f:Int->Int->Int}{i j:Int}(p:P (.int (f i j)) Δ):JR2 K (rI0 λi j=>.int (f i j)) (.int i) (.int j) Δ P:=λg G H σ Q x y k rx ry c=>by
 cases rx.inv;cases ry.inv;exact⟨i,j,rfl,rfl,c _ _ G H Δ k (Same.refl _) (.int _) p⟩
theorem Znm {f:Int->Int->Bool}{i j:Int}(p:P (.bl (f i j)) Δ):JR2 K (rI0 λi j=>.bl (f i j)) (.int i) (.int j) Δ P:=λg G H σ Q x y k rx ry c=>by
 cases rx.inv;cases ry.inv;exact⟨i,j,rfl,rfl,c _ _ G H Δ k (Same.refl _) (.bl _) p⟩
theorem Zh9 {i j:Int}(p:P (.bl (decide (i=j))) Δ):JR2 K rEq (.int i) (.int j) Δ P:=λg G H σ Q x y k rx ry c=>by
 cases rx.inv;cases ry.inv;refine⟨rfl,?_⟩;have e:decide (V.int i=V.int j)=decide (i=j):=by rw[Zhm];exact(Wc7 i j)
 rw[e];exact c _ _ G H Δ k (Same.refl _) (.bl _) p
theorem Zhr {i j:Int}(p:P (.bl (!decide (i=j))) Δ):JR2 K rNe (.int i) (.int j) Δ P:=λg G H σ Q x y k rx ry c=>by
 cases rx.inv;cases ry.inv;refine⟨rfl,?_⟩;have e:decide (V.int i=V.int j)=decide (i=j):=by rw[Zhm];exact(Wc7 i j)
 rw[e];exact c _ _ G H Δ k (Same.refl _) (.bl _) p
theorem Zvo {ds:List D}{i:Int}{d:D}(h:atI ds i=some d) (p:P d Δ):JR2 K (rIxT K) (.tup ds) (.int i) Δ P:=λg G H σ Q x y k rx ry c=>by
 obtain⟨_,_,rfl,ha,rs⟩:=rx.inv
 next=>
  cases ry.inv;obtain⟨v,h1,h2⟩:=Zg0 rs h;exact⟨_,_,i,v,rfl,rfl,SqT.of (k.live _ _ ha),h1,c v d G H Δ k (Same.refl _) h2 p⟩
theorem Zu5 {ds:List D}{i:Int}{d:D}(h:atI ds i=some d) (p:P d Δ):JR2 K (rIxL K) (.lst ds) (.int i) Δ P:=λg G H σ Q x y k rx ry c=>by
 obtain⟨_,_,rfl,ha,rs⟩:=rx.inv
 next=>
  cases ry.inv;obtain⟨v,h1,h2⟩:=Zg0 rs h;exact⟨_,_,i,v,rfl,rfl,SqL.of (k.live _ _ ha),h1,c v d G H Δ k (Same.refl _) h2 p⟩
theorem Zne {n:Nat}{te:TE}{Pp:Pst}{x:Slot}{od:OD}(hx:Δ[n]?=some x) (ho:x.od=some od) (hod:∃ds,od=.lst ds)
  (h:JE K te Δ λd Δ1=>∃y ds,Δ1[n]?=some y/\y.od=some (.lst ds)/\ds.length<sizeLine/\Pp.nx (Δ1.set n (y.put (.lst (ds++[d]))))) :
  JS K (tDrop (tBM K "list" rAppend (tVar n) (tCons te tNil))) Δ Pp:=λg G H σ E k c=>by
 obtain⟨a,o,h1,h2,h3,h4,h5⟩:=k.own n x _ hx ho;obtain⟨ds0,hod⟩:=hod;subst hod;cases o with
 |lst vs0=>
  refine⟨.ref a,h1,.inl ⟨rfl,_,SqL.of h2⟩,h g G H σ _ k λv d G1 H1 Δ1 k1 s1 r1 ⟨y,ds,q1,q2,q3,p⟩=>?_⟩;obtain⟨a',o',w1,w2,w3,w4,w5⟩:=k1.own n y _ q1 q2;rw[h1]at w1;cases w1;cases o' with
  |lst vs=>
   have w3:Reps K G1 vs ds:=w3;exact⟨a,vs,v,rfl,rfl,w2,by rw[w3.length];exact q3,c.nx σ G1 _ _ (k1.write q1 q2 h1 (show OwnRep K G1 (.lst (vs++[v])) (.lst (ds++[d])) from w3.append (.cons r1 .nil))) p⟩
  |_=>exact absurd w3 (λz=>z)
 |_=>exact absurd h3 (λz=>z)
theorem Zvy {ds es:List D}(he:ds=[.lst es]\/ds=[.tup es]) (p:P (.int es.length) Δ) :
  JC K (λxs H Q=>∃p ys,xs=[.ref p]/\(SqL K H p ys\/SqT K H p ys)/\Q (.int ys.length) H) ds Δ P:=λg G H σ Q vs k rs c=>by
 rcases he with he|he <;> subst he
 ·obtain⟨_,_,rfl,r,t⟩:=rs.inv
  next=>
   cases t.inv;obtain⟨_,_,rfl,ha,rs⟩:=r.inv
   next=>
    refine⟨_,_,rfl,.inl (SqL.of (k.live _ _ ha)),?_⟩;rw[rs.length];exact c _ _ G H Δ k (Same.refl _) (.int _) p
 ·obtain⟨_,_,rfl,r,t⟩:=rs.inv
  next=>
   cases t.inv;obtain⟨_,_,rfl,ha,rs⟩:=r.inv
   next=>
    refine⟨_,_,rfl,.inr (SqT.of (k.live _ _ ha)),?_⟩;rw[rs.length];exact c _ _ G H Δ k (Same.refl _) (.int _) p
theorem Ztb {n:Nat}{x:Slot}{ds:List D}(hx:Δ[n]?=some x) (ho:x.od=some (.lst ds)) (p:P (.int ds.length) Δ) :
  JE K (tCB (λxs H Q=>∃p ys,xs=[.ref p]/\(SqL K H p ys\/SqT K H p ys)/\Q (.int ys.length) H) (tCons (tVar n) tNil)) Δ P:=λg G H σ Q k c=>by
 obtain⟨a,o,h1,h2,h3,h4,h5⟩:=k.own n x _ hx ho;cases o with
 |lst vs=>
  have h3:Reps K G vs ds:=h3;refine⟨.ref a,h1,a,vs,rfl,.inl (SqL.of h2),?_⟩;rw[h3.length];exact c _ _ G H Δ k (Same.refl _) (.int _) p
 |_=>exact absurd h3 (λz=>z)
theorem Zvp {i:Int}(p:P (.int (if i<0 then -i else i)) Δ):JC K (λxs H Q=>∃i,xs=[.int i]/\Q (.int (if i<0 then -i else i)) H) [.int i] Δ P:=λg G H σ Q vs k rs c=>by
 obtain⟨_,_,rfl,r,t⟩:=rs.inv
 next=>cases t.inv;cases r.inv;exact⟨i,rfl,c _ _ G H Δ k (Same.refl _) (.int _) p⟩
theorem Zgd {f:Int->Int->Int}{i j:Int}(p:P (.int (f i j)) Δ):JC K (λxs H Q=>∃i j,xs=[.int i,.int j]/\Q (.int (f i j)) H) [.int i,.int j] Δ P:=λg G H σ Q vs k rs c=>by
 obtain⟨_,_,rfl,r,t⟩:=rs.inv
 next=>
  obtain⟨_,_,rfl,r',t⟩:=t.inv
  next=>cases t.inv;cases r.inv;cases r'.inv;exact⟨i,j,rfl,c _ _ G H Δ k (Same.refl _) (.int _) p⟩
theorem Zp8 {ds es:List D}(he:ds=[.lst es]\/ds=[.tup es]) (p:P (.tup es) Δ) :
  JC K (λxs H Q=>∃p ys,xs=[.ref p]/\((SqL K H p ys/\∀l,H l=none->Q (.ref l) (upd H l (.tup ys)))\/(SqT K H p ys/\Q (.ref p) H))) ds Δ P:=λg G H σ Q vs k rs c=>by
 rcases he with he|he <;> subst he
 ·obtain⟨_,_,rfl,r,t⟩:=rs.inv
  next=>
   cases t.inv;obtain⟨_,_,rfl,ha,rs⟩:=r.inv
   next=>
    refine⟨_,_,rfl,.inl ⟨SqL.of (k.live _ _ ha),λl hl=>?_⟩⟩;obtain⟨k2,sg⟩:=k.laid hl (.tup _);exact c _ _ _ _ Δ k2 sg (.tup Zan (rs.mono sg)) p
 ·obtain⟨_,_,rfl,r,t⟩:=rs.inv
  next=>
   cases t.inv;obtain⟨_,_,rfl,ha,rs⟩:=r.inv
   next=>exact⟨_,_,rfl,.inr ⟨SqT.of (k.live _ _ ha),c _ _ G H Δ k (Same.refl _) (.tup ha rs) p⟩⟩
def glue (F H H':Hp):Hp:=λb=>match H b with
 |none=>H' b
 |some _=>F b
theorem Zeb {F H H':Hp}{b:Addr}(h:H b=none):glue F H H' b=H' b:=by unfold glue;rw[h]
theorem Zdd {F H H':Hp}{b:Addr}{o:HO}(h:H b=some o):glue F H H' b=F b:=by unfold glue;rw[h]
theorem Zfh {G H H':Hp}(l:Same G H):Same G (glue G H H'):=λb o e=>by rw[Zdd (l b o e)];exact e
theorem Zhl {G H H':Hp}(l:Same G H) (sh:∀b o,G b=some o->H b=some o->H' b=some o):∀b o,glue G H H' b=some o->H' b=some o/\(G b=some o\/H b=none):=λb o e=>by
 cases q:H b with
 |none=>rw[Zeb q]at e;exact⟨e,.inr rfl⟩
 |some u=>rw[Zdd q]at e;exact⟨sh b o e (l b o e),.inl e⟩
abbrev DSp:=List D->(D->Prop)->Prop
def spD (K:W.Frag) (f:DSp):Sp:=λvs H Q _=>∃F ds Post,Same F H/\Reps K F vs ds/\f ds Post/\∀r H' d,Same H H' -> Rep K (glue F H H') r d->Post d->Q r H'
theorem Zbb {f:DSp}{ta:TA}{E:XK}(h:JA K ta Δ λds Δ1=>f ds λd=>P d Δ1):JE K (tCall (spD K f) [] E ta) Δ P:=λg G H σ Q k c=>
 h g G H σ _ k λvs ds G1 H1 Δ1 k1 s1 r1 p1=>by
  show spD K f (vs++[]) H1 Q E;rw[Wbk];refine⟨G1,ds,_,k1.live,r1,p1,λr H' d sh rr pd=>?_⟩;have sg:=Zfh (H':=H') k1.live;exact c r d _ H' Δ1 (k1.grow sg sh (Zhl k1.live λb o _ e=>sh b o e)) (s1.trans sg) rr pd
abbrev BSp:=List D->List D->(D->List D->Prop)->Prop
def spB (K:W.Frag) (f:BSp):Sp:=λvs H Q _=>∃F a us ws ps ds Post,vs=.ref a::ws/\Same F H/\F a=none/\H a=some (.lst us)/\Reps K F us ps/\Reps K F ws ds/\f ps ds Post ∧
 ∀r H' us' ps' d,(∀b o,b≠a->H b=some o->H' b=some o)->H' a=some (.lst us')->Reps K (glue F H H') us' ps' -> Rep K (glue F H H') r d->Post d ps' -> Q r H'
theorem Ok.lend {g:Gm}{G H H':Hp}{σ:St}(k:Ok K g G H σ Δ) {i:Nat}{x:Slot}{ps ps':List D}{us':List V}{a:Addr}(hx:Δ[i]?=some x) (ho:x.od=some (.lst ps)) (ha:σ[i]?=some (some (.ref a)))
  (sh:∀b o,b≠a->H b=some o->H' b=some o) (hn:H' a=some (.lst us')) (r:Reps K (glue G H H') us' ps'):Ok K g (glue G H H') H' σ (Δ.set i (x.put (.lst ps')))/\Same G (glue G H H'):=by
 obtain⟨a',o,h1,h2,h3,h4,h5⟩:=k.own i x _ hx ho;rw[ha]at h1;cases h1;have sg:=Zfh (H':=H') k.live;have k2:Ok K g (glue G H H') (upd H' a o) σ Δ:=by
  refine k.grow sg (λb u e=>?_) λb u e=>?_
  ·by_cases hb:b=a
   ·subst hb;rw[Zan,<- h2];exact e
   ·rw[Zao hb];exact sh b u hb e
  ·have hb:b≠a:=by intro z;subst z;rw[Zdd h2,h4]at e;cases e
   rw[Zao hb];exact Zhl k.live (λc w e1 e2=>sh c w (λz=>by subst z;rw[h4]at e1;cases e1) e2) b u e
 have k3:=k2.write hx ho ha (show OwnRep K (glue G H H') (.lst us') (.lst ps') from r);rw[Zor]at k3;have e:upd H' a (.lst us')=H':=by
  funext b
  by_cases hb:b=a
  ·subst hb;rw[Zan,hn]
  ·rw[Zao hb]
 rw[e]at k3;exact⟨k3,sg⟩
theorem Zmh {f:BSp}{ta:TA}{E:XK}{i:Nat}{x:Slot}{od:OD}(hx:Δ[i]?=some x) (ho:x.od=some od) (h:JA K ta Δ λds Δ1=>∃y ps,Δ1[i]?=some y/\y.od=some (.lst ps)/\f ps ds λd ps'=>P d (Δ1.set i (y.put (.lst ps')))) :
  JE K (tCall (spB K f) [] E (tCons (tVar i) ta)) Δ P:=λg G H σ Q k c=>by
 obtain⟨a,o,h1,h2,h3,h4,h5⟩:=k.own i x _ hx ho;refine⟨.ref a,h1,h g G H σ _ k λvs ds G1 H1 Δ1 k1 s1 r1 ⟨y,ps,q1,q2,p1⟩=>?_⟩;show spB K f ((.ref a::vs)++[]) H1 Q E;rw[Wbk];obtain⟨a',o',w1,w2,w3,w4,w5⟩:=k1.own i y _ q1 q2;rw[h1]at w1;cases w1;cases o' with
 |lst us=>
  refine⟨G1,a,us,vs,ps,ds,_,rfl,k1.live,w4,w2,w3,r1,p1,λr H' us' ps' d sh hn rr rd pd=>?_⟩;obtain⟨k2,sg⟩:=k1.lend q1 q2 h1 sh hn rr;exact c r d _ H' _ k2 (s1.trans sg) rd pd
 |_=>exact absurd w3 (λz=>z)
abbrev NSp:=List D->(List D->Prop)->Prop
def spN (K:W.Frag) (f:NSp):Sp:=λvs H Q _=>∃F ds Post,Same F H/\Reps K F vs ds/\f ds Post ∧
 ∀a H' us ps,Same H H' -> H a=none->H' a=some (.lst us)->Reps K (λb=>if b=a then none else glue F H H' b) us ps->Post ps->Q (.ref a) H'
theorem Zd1 {f:NSp}{ta:TA}{E:XK}{Po:OD->Evt->Prop}(h:JA K ta Δ λds Δ1=>f ds λps=>Po (.lst ps) Δ1):JO K (tCall (spN K f) [] E ta) Δ Po:=λg G H σ Q k c=>
 h g G H σ _ k λvs ds G1 H1 Δ1 k1 s1 r1 p1=>by
  show spN K f (vs++[]) H1 Q E;rw[Wbk];refine⟨G1,ds,_,k1.live,r1,p1,λa H' us ps sh ha hn rr pd=>?_⟩;have sg:Same G1 (λb=>if b=a then none else glue G1 H1 H' b):=λb o e=>by
   have hb:b≠a:=by intro z;subst z;rw[k1.live _ _ e]at ha;cases ha
   try dsimp only
   rw[if_neg hb];exact Zfh k1.live b o e
  have k2:Ok K g (λb=>if b=a then none else glue G1 H1 H' b) H' σ Δ1:=k1.grow sg sh λb o e=>by
   try dsimp only at e
   by_cases hb:b=a
   ·rw[if_pos hb]at e;cases e
   ·rw[if_neg hb]at e;exact Zhl k1.live (λb o _ e=>sh b o e) b o e
  refine c a _ _ H' Δ1 k2 (s1.trans sg) ⟨.lst us,hn,(show OwnRep K _ (.lst us) (.lst ps) from rr),by simp,k1.there ha,?_,λj x od' e1 e2 e3=>?_⟩ pd
  ·cases q:g.Xo a with
   |none=>rfl
   |some u=>have z:=(k1.ext a u q).1;rw[ha]at z;cases z
  ·obtain⟨b,oo,w1,w2,_⟩:=k1.own j x od' e1 e2
   rw[e3]at w1;cases w1;rw[ha]at w2;cases w2
end
def startD (N:List Str) (ds:List D):Evt:=ds.map .val++Waj (N.length-ds.length) .any
section
variable {K:W.Frag}
theorem Zfa {g:Gm}{G H:Hp}{N:List Str}{vs:List V}{ds:List D}(rs:Reps K G vs ds) (hl:ds.length<=N.length) (same:∀b o,¬ g.B b->g.Hz b=some o->H b=some o) (lent:∀b,g.B b->H b≠none) (sub:Same g.F G)
  (frz:∀b o,G b=some o->H b=some o/\(g.Hz b=none\/g.F b=some o)) (ext:∀b,g.Xo b=none):Ok K g G H (start N vs) (startD N ds):=by
 have noOd:∀(i:Nat) x od,(startD N ds)[i]?=some x->x.od=some od->False:=λi x od e1 e2=>by
  have hm:=Waq e1;rcases Wbl.mp hm with z|z
  ·obtain⟨d,_,rfl⟩:=Wav.mp z;cases e2
  ·rw[Wdc]at z;rw[z.2]at e2;cases e2
 refine⟨same,lent,sub,frz,λb o e=>(by rw[ext b]at e;cases e),?_,λi d e=>?_,λi x od e1 e2=>(noOd i x od e1 e2).elim,λi j x y od od' a e1 e2=>(noOd i x od e1 e2).elim⟩
 ·unfold start startD
  rw[Wao,Wao,Wab,Wab,Wba,Wba,rs.length]
 ·unfold startD at e
  unfold start;by_cases hi:i<ds.length
  ·rw[Wbc (by simpa using hi),Wad]at e
   cases q:ds[i]? with
   |none=>rw[q]at e;cases e
   |some d'=>
    rw[q]at e;have e:Slot.val d'=Slot.val d:=by simpa using e
    cases e;obtain⟨v,h1,h2⟩:=rs.get q;refine⟨v,?_,h2⟩;rw[Wbc (by rw[Wab,rs.length];exact hi),Wad,h1];rfl
  ·rw[Way (by simpa using hi),Wcp]at e
   split at e <;> cases e
theorem Zeu {f:DSp}{t:TS}{N:List Str}{vs:List V}{H:Hp}{Q:VK}{E:XK}(ht:∀ds Post,f ds Post->ds.length<=N.length/\JS K t (startD N ds) ⟨λ_=>Post .non,λd _=>Post d,λ_=>False,λ_=>False,λ_ _=>False⟩) (h:spD K f vs H Q E) :
  t { nx:=λ_ H'=>Q .non H',rt:=Q } (start N vs) H:=by
 obtain⟨F,ds,Post,l,rs,hf,q⟩:=h;obtain⟨hl,hj⟩:=ht ds Post hf;have fin:∀{v:V}{d:D}{σ:St}{G H':Hp}{Δ:Evt},Ok K ⟨λ_=>False,F,H,λ_=>none⟩ G H' σ Δ -> Rep K G v d->Post d->Q v H':=λ{v d σ G H' Δ} k r p=>by
  refine q v H' d (λb o e=>k.same b o (λz=>z) e) (r.mono λb o e=>?_) p;obtain⟨e1,e2⟩:=k.frz b o e;rcases e2 with z|z
  ·rw[Zeb z];exact e1
  ·rw[Zdd (l b o z)];exact z
 refine hj ⟨λ_=>False,F,H,λ_=>none⟩ F H (start N vs) _ (Zfa rs hl (λ_ _ _ e=>e) (λ_ z=>z.elim) (Same.refl _) (λb o e=>⟨l b o e,.inr e⟩) λ_=>rfl) ⟨λσ G H' Δ k p=>fin k .non p,λv d σ G H' Δ k r p=>fin k r p,λ_ _ _ _ _ z=>z.elim,λ_ _ _ _ _ z=>z.elim,λ_ _ _ _ _ _ _ _ z=>z.elim⟩
theorem Zn0 {f:NSp}{t:TS}{N:List Str}{vs:List V}{H:Hp}{Q:VK}{E:XK}(ht:∀ds Post,f ds Post->ds.length<=N.length/\JS K t (startD N ds) ⟨λ_=>False,λ_ _=>False,λ_=>False,λ_=>False,λod _=>∃ps,od=.lst ps/\Post ps⟩) (h:spN K f vs H Q E) :
  t { nx:=λ_ H'=>Q .non H',rt:=Q } (start N vs) H:=by
 obtain⟨F,ds,Post,l,rs,hf,q⟩:=h;obtain⟨hl,hj⟩:=ht ds Post hf;refine hj ⟨λ_=>False,F,H,λ_=>none⟩ F H (start N vs) _ (Zfa rs hl (λ_ _ _ e=>e) (λ_ z=>z.elim) (Same.refl _) (λb o e=>⟨l b o e,.inr e⟩) λ_=>rfl) ⟨λ_ _ _ _ _ z=>z.elim,λ_ _ _ _ _ _ _ _ z=>z.elim,λ_ _ _ _ _ z=>z.elim,λ_ _ _ _ _ z=>z.elim,λa od σ G H' Δ k pd ⟨ps,e,p⟩=>?_⟩;subst e;obtain⟨o,h1,h2,h3,h4,h5,h6⟩:=pd;cases o with
 |lst us=>
  refine q a H' us ps (λb o e=>k.same b o (λz=>z) e) h4 h1 (Reps.mono (λb o e=>?_) (show Reps K G us ps from h2)) p;have hb:b≠a:=by intro z;subst z;rw[h3]at e;cases e
  try dsimp only
  rw[if_neg hb];obtain⟨e1,e2⟩:=k.frz b o e;rcases e2 with z|z
  ·rw[Zeb z];exact e1
  ·rw[Zdd (l b o z)];exact z
 |_=>exact absurd h2 (λz=>z)
theorem Zjp {f:BSp}{t:TS}{N:List Str}{vs:List V}{H:Hp}{Q:VK}{E:XK}(ht:∀ps ds Post,f ps ds Post->ds.length+1<=N.length/\JS K t (.bor (.lst ps)::startD N.tail ds) ⟨λΔ=>∃ps',Δ[0]?=some (.bor (.lst ps'))/\Post .non ps',λd Δ=>∃ps',Δ[0]?=some (.bor (.lst ps'))/\Post d ps',λ_=>False,λ_=>False,λ_ _=>False⟩) (h:spB K f vs H Q E) :
  t { nx:=λ_ H'=>Q .non H',rt:=Q } (start N vs) H:=by
 obtain⟨F,a,us,ws,ps,ds,Post,rfl,l,fa,ha,ru,rs,hf,q⟩:=h;obtain⟨hl,hj⟩:=ht ps ds Post hf;have fin:∀{v:V}{d:D}{σ:St}{G H':Hp}{Δ:Evt}{ps':List D},Ok K ⟨λb=>b=a,F,H,λ_=>none⟩ G H' σ Δ -> Δ[0]?=some (.bor (.lst ps'))->Rep K G v d->Post d ps' -> Q v H':=λ{v d σ G H' Δ ps'} k e0 r p=>by
  obtain⟨a',o,h1,h2,h3,h4,h5⟩:=k.own 0 _ _ e0 rfl;have ea:a'=a:=h5;subst ea;cases o with
  |lst us'=>
   have up:Same G (glue F H H'):=λb o e=>by
    obtain⟨e1,e2⟩:=k.frz b o e;rcases e2 with z|z
    ·rw[Zeb z];exact e1
    ·rw[Zdd (l b o z)];exact z
   exact q v H' us' ps' d (λb o hb e=>k.same b o hb e) h2 (Reps.mono up (show Reps K G us' ps' from h3)) (r.mono up) p
  |_=>exact absurd h3 (λz=>z)
 cases N with
 |nil=>simp at hl
 |cons n0 N=>
  have hl':ds.length<=N.length:=by simpa using hl
  have k0:=Zfa (K:=K) (H:=H) (g:=⟨λb=>b=a,F,H,λ_=>none⟩) (N:=N) rs hl' (λ_ _ _ e=>e) (λb z=>by subst z;rw[ha];intro w;cases w) (Same.refl _) (λb o e=>⟨l b o e,.inr e⟩) λ_=>rfl;have e1:start (n0::N) (.ref a::ws)=some (.ref a)::start N ws:=by
   unfold start;rw[Wa3,War,War,Nat.add_sub_add_right];rfl
  rw[e1];have noOd:∀(i:Nat) x od,(startD N ds)[i]?=some x->x.od=some od->False:=λi x od e1 e2=>by
   have hm:=Waq e1;rcases Wbl.mp hm with z|z
   ·obtain⟨d,_,rfl⟩:=Wav.mp z;cases e2
   ·rw[Wdc]at z;rw[z.2]at e2;cases e2
  have k1:Ok K ⟨λb=>b=a,F,H,λ_=>none⟩ F H (some (.ref a)::start N ws) (.bor (.lst ps)::startD N ds):=by
   refine⟨k0.same,k0.lent,k0.sub,k0.frz,λb o e=>(by cases e),(by rw[War,War,k0.len]),λi d e=>?_,λi x od e1 e2=>?_,λi j x y od od' c e1 e2 e3 e4 _ _=>?_⟩
   ·cases i with
    |zero=>cases e
    |succ i=>exact k0.val i d e
   ·cases i with
    |zero=>cases e1;cases e2;exact⟨a,.lst us,rfl,ha,ru,fa,rfl⟩
    |succ i=>exact(noOd i x od e1 e2).elim
   ·cases i with
    |zero=>cases j with
     |zero=>rfl
     |succ j=>exact(noOd j y od' e3 e4).elim
    |succ i=>exact(noOd i x od e1 e2).elim
  exact hj _ F H _ _ k1 ⟨λσ G H' Δ k ⟨ps',e,p⟩=>fin k e .non p,λv d σ G H' Δ k r ⟨ps',e,p⟩=>fin k e r p,λ_ _ _ _ _ z=>z.elim,λ_ _ _ _ _ z=>z.elim,λ_ _ _ _ _ _ _ _ z=>z.elim⟩
theorem Zb8 {f:DSp}{n:Nat}(h:∀ds Post,f ds Post->ds.length=n):∀vs H Q E,spD K f vs H Q E->vs.length=n:=λvs H Q E hq_=>by obtain⟨F,ds,Post,l,rs,hf,q⟩:=hq_;rw[rs.length];exact h ds Post hf
theorem Zfw {f:NSp}{n:Nat}(h:∀ds Post,f ds Post->ds.length=n):∀vs H Q E,spN K f vs H Q E->vs.length=n:=λvs H Q E hq_=>by obtain⟨F,ds,Post,l,rs,hf,q⟩:=hq_;rw[rs.length];exact h ds Post hf
theorem Zd4 {f:BSp}{n:Nat}(h:∀ps ds Post,f ps ds Post->ds.length+1=n):∀vs H Q E,spB K f vs H Q E->vs.length=n:=λvs H Q E hq_=>by obtain⟨F,a,us,ws,ps,ds,Post,e,l,fa,ha,ru,rs,hf,q⟩:=hq_;rw[e,War,rs.length];exact h ps ds Post hf
end
def JGn (K:W.Frag) (n:Nat) (t:TG) (d:D) (Δ:Evt) (P:Evt->Prop):Prop:=
 ∀g G H σ v (R:St->Hp->Prop),Ok K g G H σ Δ -> Rep K G v d->(∀σ' G' H' Δ',Ok K g G' H' σ' Δ' -> Same G G' -> (∀j,n<=j -> σ'[j]? = σ[j]?)->P Δ' -> R σ' H')->t v σ H R
def JGsn (K:W.Frag) (n:Nat) (t:TGs) (ds:List D) (Δ:Evt) (P:Evt->Prop):Prop:=
 ∀g G H σ vs (R:St->Hp->Prop),Ok K g G H σ Δ -> Reps K G vs ds->(∀σ' G' H' Δ',Ok K g G' H' σ' Δ' -> Same G G' -> (∀j,n<=j -> σ'[j]? = σ[j]?)->P Δ' -> R σ' H')->t vs σ H R
section
variable {K:W.Frag}{Δ:Evt}
theorem Zpo {n:Nat}{P:Evt->Prop}(p:P Δ):JGsn K n gNil [] Δ P:=λg G H σ vs R k r c=>by cases r;exact⟨rfl,c σ G H Δ k (Same.refl _) (λ_ _=>rfl) p⟩
theorem Ziw {n:Nat}{t:TG}{u:TGs}{d:D}{ds:List D}{P:Evt->Prop}(h:JGn K n t d Δ λΔ1=>JGsn K n u ds Δ1 P):JGsn K n (gCons t u) (d::ds) Δ P:=λg G H σ vs R k r c=>by
 obtain⟨_,_,rfl,r1,rr⟩:=r.inv
 next=>exact⟨_,_,rfl,h g G H σ _ _ k r1 λσ1 G1 H1 Δ1 k1 s1 e1 p1=>p1 g G1 H1 σ1 _ R k1 (rr.mono s1) λσ2 G2 H2 Δ2 k2 s2 e2 p2=>c σ2 G2 H2 Δ2 k2 (s1.trans s2) (λj hj=>(e2 j hj).trans (e1 j hj)) p2⟩
theorem Zr2 {n m:Nat}{t:TGs}{ds:List D}{P:Evt->Prop}(hl:ds.length=m) (h:JGsn K n t ds Δ P):JGn K n (gTup K m t) (.tup ds) Δ P:=λg G H σ v R k r c=>by
 obtain⟨_,_,rfl,ha,rs⟩:=r.inv
 next=>exact⟨_,_,rfl,SqT.of (k.live _ _ ha),by rw[rs.length];exact hl,h g G H σ _ R k rs c⟩
end
def compD (n:Nat) (sel:List Nat) (Δ:Evt):Evt:=Waj n .any++sel.map λi=>(Δ[i]?).getD .any
def backAt (n:Nat) (sel:List Nat) (Δi:Evt) (i:Nat) (x:Slot):Slot:=match x with
 |.val d=>.val d
 |.any=>.any
 |x=>match sel.idxOf? i with
  |none=>x
  |some j=>match Δi[n+j]? with
   |some (.own o)=>.own o
   |some (.bor o)=>.bor o
   |some (.ownA a o)=>.ownA a o
   |_=>.any
def backD (n:Nat) (sel:List Nat) (Δi:Evt):Nat->Evt->Evt
 |_,[]=>[]
 |i,x::r=>backAt n sel Δi i x::backD n sel Δi (i+1) r
theorem Zc2 (n:Nat) (sel:List Nat) (Δi:Evt):∀(Δ:Evt) (k i:Nat),(backD n sel Δi k Δ)[i]?=(Δ[i]?).map (backAt n sel Δi (k+i))
 |[],k,i=>by simp[backD]
 |x::r,k,0=>by simp[backD]
 |x::r,k,i+1=>by
  have:=Zc2 n sel Δi r (k+1) i;simp only[backD,List.getElem?_cons_succ];rw[this,show k+1+i=k+(i+1) by omega]
theorem Ziy (n:Nat) (sel:List Nat) (Δi:Evt):∀(Δ:Evt) (k:Nat),(backD n sel Δi k Δ).length = Δ.length
 |[],k=>rfl
 |x::r,k=>by simp[backD,Ziy n sel Δi r (k+1)]
theorem Zd8 {sel:List Nat}{i j:Nat}(h:sel.idxOf? i=some j):sel[j]?=some i:=by
 have h2:=List.idxOf?_eq_some_iff.mp h;obtain⟨hj,e,_⟩:=h2;rw[Waa hj,e]
theorem Zmc {n:Nat}{sel:List Nat}{Δi:Evt}{i:Nat}{x y:Slot}{od:OD}(h:backAt n sel Δi i x=y) (ho:y.od=some od) :
  (x=y/\sel.idxOf? i=none)\/∃j,sel[j]?=some i /\ Δi[n+j]?=some y/\∃od',x.od=some od':=by
 unfold backAt at h;cases x with
 |any=>subst h;cases ho
 |val d=>subst h;cases ho
 |own o=>
  dsimp only at h;cases q:sel.idxOf? i with
  |none=>rw[q]at h;exact .inl ⟨h,rfl⟩
  |some j=>
   rw[q]at h;dsimp only at h;refine .inr ⟨j,Zd8 q,?_,o,rfl⟩;cases e:Δi[n+j]? with
   |none=>rw[e]at h;subst h;cases ho
   |some z=>rw[e]at h;cases z <;> (subst h;first|rfl|cases ho)
 |ownA a o=>
  dsimp only at h;cases q:sel.idxOf? i with
  |none=>rw[q]at h;exact .inl ⟨h,rfl⟩
  |some j=>
   rw[q]at h;dsimp only at h;refine .inr ⟨j,Zd8 q,?_,o,rfl⟩;cases e:Δi[n+j]? with
   |none=>rw[e]at h;subst h;cases ho
   |some z=>rw[e]at h;cases z <;> (subst h;first|rfl|cases ho)
 |bor o=>
  dsimp only at h;cases q:sel.idxOf? i with
  |none=>rw[q]at h;exact .inl ⟨h,rfl⟩
  |some j=>
   rw[q]at h;dsimp only at h;refine .inr ⟨j,Zd8 q,?_,o,rfl⟩;cases e:Δi[n+j]? with
   |none=>rw[e]at h;subst h;cases ho
   |some z=>rw[e]at h;cases z <;> (subst h;first|rfl|cases ho)
section
variable {K:W.Frag}{Δ:Evt}
open Classical in
noncomputable def aside (g:Gm) (sel:List Nat) (σ:St) (Δ:Evt) (H:Hp) (acc:Addr) (ys:List V):Hp:=λb=>
 if b=acc then some (.lst ys) else if ∃(i:Nat) (x:Slot) (od:OD),Δ[i]?=some x/\x.od=some od/\i ∉ sel /\ σ[i]?=some (some (.ref b)) then H b else g.Xo b
theorem Zdw {n:Nat}{sel:List Nat}{σ:St}{j i:Nat}(h:sel[j]?=some i):(compSt n sel σ)[n+j]?=some ((σ[i]?).getD none):=by
 unfold compSt;rw[Way (by rw[Wba];omega),Wba,Wc4,Wad,h];rfl
theorem Zcs {n:Nat}{sel:List Nat}{Δ:Evt}{k:Nat}{x:Slot}(h:(compD n sel Δ)[k]?=some x):x=.any\/∃j i,k=n+j/\sel[j]?=some i /\ Δ[i]?=some x:=by
 unfold compD at h;by_cases hk:k<n
 ·rw[Wbc (by simpa using hk),Wcp,if_pos hk]at h
  exact .inl (Wa4.inj h).symm
 ·rw[Way (by simpa using hk),Wba,Wad]at h
  cases e:sel[k-n]? with
  |none=>rw[e]at h;cases h
  |some i=>
   rw[e]at h;have h:(Δ[i]?).getD .any=x:=by simpa using h
   cases q:Δ[i]? with
   |none=>rw[q]at h;exact .inl h.symm
   |some y=>rw[q]at h;cases h;exact .inr ⟨k-n,i,by omega,e,q⟩
theorem Zgo {g:Gm}{G1 H1:Hp}{σ:St}{Δ1:Evt}{n:Nat}{sel:List Nat}{acc:Addr}{X0:Hp}(hsel:sel.Nodup) (k1:Ok K g G1 H1 σ Δ1) (hacc:H1 acc=none)
  (hX:∀b o,X0 b=some o->(b=acc/\o=.lst [])\/(b≠acc/\(((∃(i:Nat) (x:Slot) (od:OD),Δ1[i]?=some x/\x.od=some od/\i ∉ sel /\ σ[i]?=some (some (.ref b)))/\H1 b=some o)\/g.Xo b=some o))):Ok K ⟨g.B,G1,g.Hz,X0⟩ G1 (upd H1 acc (.lst [])) (compSt n sel σ) (compD n sel Δ1):=by
 have hsl:∀{j j' i:Nat},sel[j]?=some i->sel[j']?=some i->j=j':=λ{j j' i} a b=>by
  obtain⟨h1,e1⟩:=Waf.mp a;obtain⟨h2,e2⟩:=Waf.mp b;exact(Wea hsel).mp (e1.trans e2.symm)
 have hGa:G1 acc=none:=by
  cases e:G1 acc with
  |none=>rfl
  |some u=>rw[k1.live _ _ e]at hacc;cases hacc
 have cs:∀{j i:Nat}{a:Addr},sel[j]?=some i->(compSt n sel σ)[n+j]?=some (some (.ref a)) -> σ[i]?=some (some (.ref a)):=λ{j i a} ej e3=>by
  rw[Zdw ej]at e3;cases q:σ[i]? with
  |none=>rw[q]at e3;cases e3
  |some w=>rw[q]at e3;cases e3;rfl
 have oldH:∀b o,H1 b=some o->(upd H1 acc (.lst [])) b=some o:=λb o e=>by rw[Zao (Zas e hacc)];exact e
 refine⟨λb o hb e=>oldH b o (k1.same b o hb e),λb hb z=>?_,Same.refl _,λb o e=>⟨oldH b o (k1.live b o e),.inr e⟩,λb o e=>?_,?_,λi d e=>?_,λi x od e1 e2=>?_,λi j x y od od' a e1 e2 e3 e4 e5 e6=>?_⟩
 ·cases q:H1 b with
  |none=>exact k1.lent b hb q
  |some u=>rw[oldH b u q]at z;cases z
 ·rcases hX b o e with ⟨rfl,rfl⟩|⟨hb,⟨⟨i0,x0,od0,f1,f2,f3,f4⟩,e⟩|e⟩
  ·refine⟨Zan,hGa,λi x od e1 e2 e3=>?_⟩
   rcases Zcs e1 with z|⟨j,i',ei,ej,z⟩
   ·subst z;cases e2
   ·subst ei
    obtain⟨a,o,w1,w2,_⟩:=k1.own i' x od z e2;rw[cs ej e3]at w1;cases w1;rw[hacc]at w2;cases w2
  ·obtain⟨a,oo,w1,w2,w3,w4,w5⟩:=k1.own i0 x0 od0 f1 f2
   rw[f4]at w1;cases w1;refine⟨oldH b o e,w4,λi x od e1 e2 e3=>?_⟩;rcases Zcs e1 with z|⟨j,i',ei,ej,z⟩
   ·subst z;cases e2
   ·subst ei
    have:=k1.dis i0 i' x0 x od0 od b f1 f2 z e2 f4 (cs ej e3);subst this;exact f3 (Waq ej)
  ·obtain⟨w1,w2,w3⟩:=k1.ext b o e
   refine⟨oldH b o w1,w2,λi x od e1 e2 e3=>?_⟩;rcases Zcs e1 with z|⟨j,i',ei,ej,z⟩
   ·subst z;cases e2
   ·subst ei;exact w3 i' x od z e2 (cs ej e3)
 ·unfold compD compSt
  simp
 ·rcases Zcs e with z|⟨j,i',ei,ej,z⟩
  ·cases z
  ·subst ei
   obtain⟨v,w1,w2⟩:=k1.val i' d z;exact⟨v,by rw[Zdw ej,w1];rfl,w2⟩
 ·rcases Zcs e1 with z|⟨j,i',ei,ej,z⟩
  ·subst z;cases e2
  ·subst ei
   obtain⟨a,o,w1,w2,w3,w4,w5⟩:=k1.own i' x od z e2;exact⟨a,o,by rw[Zdw ej,w1];rfl,oldH a o w2,w3,w4,w5⟩
 ·rcases Zcs e1 with z|⟨j1,i1,ei,ej,z⟩
  ·subst z;cases e2
  ·rcases Zcs e3 with z'|⟨j2,i2,ei',ej',z'⟩
   ·subst z';cases e4
   ·subst ei;subst ei'
    have:=k1.dis i1 i2 x y od od' a z e2 z' e4 (cs ej e5) (cs ej' e6);subst this;rw[hsl ej ej']
theorem Zhv {σ σ2:St}{Δ1 Δ2:Evt}{n:Nat}{sel:List Nat}(hσ:∀j,n<=j -> σ2[j]?=(compSt n sel σ)[j]?) (i:Nat) (y:Slot) (od:OD) (e1:(backD n sel Δ2 0 Δ1)[i]?=some y) (e2:y.od=some od) :
  ∃x od',Δ1[i]?=some x/\x.od=some od' /\ ((x=y/\i ∉ sel)\/∃j,sel[j]?=some i /\ Δ2[n+j]?=some y /\ σ2[n+j]?=some ((σ[i]?).getD none)):=by
 rw[Zc2]at e1;cases q:Δ1[i]? with
 |none=>rw[q]at e1;cases e1
 |some x=>
  rw[q]at e1;have e1:backAt n sel Δ2 i x=y:=by simpa using e1
  rcases Zmc e1 e2 with ⟨z1,z2⟩|⟨j,z1,z2,od',z3⟩
  ·refine⟨x,od,rfl,by rw[z1];exact e2,.inl ⟨z1,λhm=>?_⟩⟩
   rw[List.idxOf?_eq_none_iff]at z2;exact z2 hm
  ·exact⟨x,od',rfl,z3,.inr ⟨j,z1,z2,by rw[hσ (n+j) (by omega)];exact Zdw z1⟩⟩
theorem Zf1 {g:Gm}{G1 H1 G2 H2 Xv:Hp}{σ σ2:St}{Δ1 Δ2:Evt}{n:Nat}{sel:List Nat}{acc:Addr}(k1:Ok K g G1 H1 σ Δ1) (hacc:H1 acc=none) (k2:Ok K ⟨g.B,G1,g.Hz,Xv⟩ G2 H2 σ2 Δ2) (hσ:∀j,n<=j -> σ2[j]?=(compSt n sel σ)[j]?)
  (hX:∀b o,b≠acc->(∃(i:Nat) (x:Slot) (od:OD),Δ1[i]?=some x/\x.od=some od/\i ∉ sel /\ σ[i]?=some (some (.ref b)))->H1 b=some o->Xv b=some o) (hY:∀b o,b≠acc->¬ (∃(i:Nat) (x:Slot) (od:OD),Δ1[i]?=some x/\x.od=some od/\i ∉ sel /\ σ[i]?=some (some (.ref b)))->g.Xo b=some o->Xv b=some o):Ok K g G2 H2 σ (backD n sel Δ2 0 Δ1):=by
 have s2:Same G1 G2:=k2.sub;have src:=Zhv (Δ1:=Δ1) (Δ2:=Δ2) hσ;refine⟨k2.same,k2.lent,k1.sub.trans s2,λb o e=>?_,λb o e=>?_,by rw[Ziy,k1.len],λi d e=>?_,λi y od e1 e2=>?_,λi j x y od od' a e1 e2 e3 e4 e5 e6=>?_⟩
 ·obtain⟨q1,q2⟩:=k2.frz b o e
  refine⟨q1,?_⟩;rcases q2 with z|z
  ·exact .inl z
  ·exact(k1.frz b o z).2
 ·obtain⟨w1,w2,w3⟩:=k1.ext b o e
  have hne:b≠acc:=by intro z;subst z;rw[hacc]at w1;cases w1
  obtain⟨u1,u2,u3⟩:=k2.ext b o (hY b o hne (λ⟨i,x,od,f1,f2,f3,f4⟩=>w3 i x od f1 f2 f4) e);refine⟨u1,u2,λi y od e1 e2 e3=>?_⟩;obtain⟨x,od',f1,f2,_⟩:=src i y od e1 e2;exact w3 i x od' f1 f2 e3
 ·rw[Zc2]at e
  cases q:Δ1[i]? with
  |none=>rw[q]at e;cases e
  |some x=>
   rw[q]at e;have e:backAt n sel Δ2 (0+i) x=.val d:=by simpa using e
   have ex:x=.val d:=by
    unfold backAt at e;cases x with
    |any=>cases e
    |val d'=>exact e
    |own o=>dsimp only at e;split at e <;> first|cases e|(split at e <;> cases e)
    |bor o=>dsimp only at e;split at e <;> first|cases e|(split at e <;> cases e)
    |ownA a o=>dsimp only at e;split at e <;> first|cases e|(split at e <;> cases e)
   subst ex;obtain⟨v,w1,w2⟩:=k1.val i d q;exact⟨v,w1,w2.mono s2⟩
 ·obtain⟨x,od',f1,f2,f3⟩:=src i y od e1 e2
  rcases f3 with ⟨f3,f4⟩|⟨j,f3,f4,f5⟩
  ·subst f3
   obtain⟨a,o,w1,w2,w3,w4,w5⟩:=k1.own i x od f1 e2;have hne:a≠acc:=by intro z;subst z;rw[hacc]at w2;cases w2
   obtain⟨u1,u2,u3⟩:=k2.ext a o (hX a o hne ⟨i,x,od,f1,e2,f4,w1⟩ w2);exact⟨a,o,w1,u1,w3.mono s2,u2,w5⟩
  ·obtain⟨a,o,w1,w2,w3,w4,w5⟩:=k2.own (n+j) y od f4 e2
   obtain⟨a0,o0,v1,_⟩:=k1.own i x od' f1 f2;rw[f5,v1]at w1;have ea:a0=a:=by cases w1;rfl
   subst ea;exact⟨a0,o,v1,w2,w3,w4,w5⟩
 ·obtain⟨x',od1,f1,f2,_⟩:=src i x od e1 e2
  obtain⟨y',od2,f3,f4,_⟩:=src j y od' e3 e4;exact k1.dis i j x' y' od1 od2 a f1 f2 f3 f4 e5 e6
theorem Ok.base {g:Gm}{G1 F X G5 H5:Hp}{σ5:St}{Δ5:Evt}(sF:Same G1 F) (hF:∀b o,F b=some o->(g.Hz b=none\/G1 b=some o)) (k5:Ok K ⟨g.B,F,g.Hz,X⟩ G5 H5 σ5 Δ5):Ok K ⟨g.B,G1,g.Hz,X⟩ G5 H5 σ5 Δ5:=
 ⟨k5.same,k5.lent,sF.trans k5.sub,λb o q=>by
  obtain⟨q1,q2⟩:=k5.frz b o q;refine⟨q1,?_⟩;rcases q2 with z|z
  ·exact .inl z
  ·exact hF b o z,k5.ext,k5.len,k5.val,k5.own,k5.dis⟩
theorem Znc {n:Nat}{sel:List Nat}{wi:TI}{t:TG}{tc:TT}{te:TE}{P:OD->Evt->Prop}(hsel:sel.Nodup)
  (h:JI K wi Δ λds Δ1=>ds.length<sizeLine/\∃I:Nat->List D->Evt->Prop,I 0 [] (compD n sel Δ1) ∧
   (∀i d ys Δ2,ds[i]?=some d->I i ys Δ2->JGn K n t d Δ2 λΔ3=>JT K tc Δ3 λb Δ4=>if b=true then JE K te Δ4 λe Δ5=>I (i+1) (ys++[e]) Δ5 else I (i+1) ys Δ4) ∧
   ∀ys Δ2,I ds.length ys Δ2->P (.lst ys) (backD n sel Δ2 0 Δ1)):JO K (tComp n sel wi t tc te) Δ P:=λg G H σ Q k c=>
 h g G H σ _ k λJ ds G1 H1 Δ1 k1 s1 it ⟨hz,I,h0,ht,he⟩ acc hacc=>by
  have nacc:∀(i:Nat) x od,Δ1[i]?=some x->x.od=some od -> σ[i]?≠some (some (.ref acc)):=λi x od e1 e2 e3=>by
   obtain⟨a,o,w1,w2,_⟩:=k1.own i x od e1 e2;rw[e3]at w1;cases w1;rw[hacc]at w2;cases w2
  -- the word at each turn
  let Wd:Nat->St->Hp->Prop:=λi σ' H'=>i<=ds.length/\(∀j,n<=j -> σ'[j]?=(compSt n sel σ)[j]?)/\∃G ys vs Δi,ys.length<=i/\Reps K G vs ys/\Ok K ⟨g.B,G1,g.Hz,aside g sel σ Δ1 H1 acc vs⟩ G H' σ' Δi/\I i ys Δi
  refine⟨λi m σ' H'=>m=ds.length-i/\Wd i σ' H',⟨ds.length,by simp,Wb2 _,λ_ _=>rfl,G1,[],[],compD n sel Δ1,Wah _,.nil,?_,h0⟩,?_⟩
  ·refine Zgo hsel k1 hacc λb o e=>?_
   have e:aside g sel σ Δ1 H1 acc [] b=some o:=e;unfold aside at e;by_cases hb:b=acc
   ·rw[if_pos hb]at e;cases e;exact .inl ⟨hb,rfl⟩
   ·rw[if_neg hb]at e
    split at e
    case isTrue hx=>exact .inr ⟨hb,.inl ⟨hx,e⟩⟩
    case isFalse hx=>exact .inr ⟨hb,.inr e⟩
  ·rintro i m σ2 H2 ⟨rfl,hi,hσ,G2,ys,vs,Δ2,hy,ry,k2,h2⟩
   have s2:Same G1 G2:=k2.sub;obtain⟨stop,go⟩:=it G2 H2 s2 k2.live;have hacc2:∀{G' H':Hp}{σ':St}{Δ':Evt}{vs:List V}{F:Hp},Ok K ⟨g.B,F,g.Hz,aside g sel σ Δ1 H1 acc vs⟩ G' H' σ' Δ' -> H' acc=some (.lst vs)/\G' acc=none/\∀(i:Nat) x od,Δ'[i]?=some x->x.od=some od -> σ'[i]?≠some (some (.ref acc)):=λ{G' H' σ' Δ' vs F} kk=>
    kk.ext acc (.lst vs) (by show aside g sel σ Δ1 H1 acc vs acc=_;unfold aside;rw[if_pos rfl])
   by_cases hlt:i<ds.length
   ·obtain⟨g1,g2⟩:=go i _ (Waa hlt)
    refine .inr ⟨g1,λσ' H'=>Wd (i+1) σ' H',λσ' H' p'=>⟨ds.length-(i+1),by omega,rfl,p'⟩,λx H3 y=>?_⟩;obtain⟨G3,a1,a2,a3,a4⟩:=g2 x H3 y;have k3:=k2.grow a1 a2 a3;have hG3:∀b o,G3 b=some o->(g.Hz b=none\/G1 b=some o):=λb o q=>(k3.frz b o q).2;have k3':Ok K ⟨g.B,G3,g.Hz,aside g sel σ Δ1 H1 acc vs⟩ G3 H3 σ2 Δ2:=⟨k3.same,k3.lent,Same.refl _,λb o q=>⟨(k3.frz b o q).1,.inr q⟩,k3.ext,k3.len,k3.val,k3.own,k3.dis⟩;have ry3:Reps K G3 vs ys:=ry.mono a1;have s13:Same G1 G3:=s2.trans a1;refine ht i _ ys Δ2 (Waa hlt) h2 ⟨g.B,G3,g.Hz,aside g sel σ Δ1 H1 acc vs⟩ G3 H3 σ2 x _ k3' a4 λσ4 G4 H4 Δ4 k4 s4 e4 p4=>?_;have hσ4:∀j,n<=j -> σ4[j]?=(compSt n sel σ)[j]?:=λj hj=>(e4 j hj).trans (hσ j hj);refine p4 _ G4 H4 σ4 _ k4 λb G5 H5 Δ5 k5 s5 p5=>?_;cases b with
    |false=>exact⟨hlt,hσ4,G5,ys,vs,Δ5,by omega,ry3.mono (s4.trans s5),k5.base s13 hG3,p5⟩
    |true=>
     refine(show JE K te Δ5 _ from p5) _ G5 H5 σ4 _ k5 λv d G6 H6 Δ6 k6 s6 r6 p6=>?_;have ry6:Reps K G6 vs ys:=ry3.mono (s4.trans (s5.trans s6));obtain⟨b1,b2,b3⟩:=hacc2 k6;refine⟨vs,b1,by rw[ry6.length];omega,hlt,hσ4,G6,ys++[d],vs++[v],Δ6,by rw[Wao,Wbb];omega,ry6.append (.cons r6 .nil),?_,p6⟩;have k7:=k6.base s13 hG3;have oldH:∀b o,b≠acc->H6 b=some o->(upd H6 acc (.lst (vs++[v]))) b=some o:=λb o hb e=>by rw[Zao hb];exact e
     have aNe:∀b o,b≠acc->aside g sel σ Δ1 H1 acc (vs++[v]) b=some o->aside g sel σ Δ1 H1 acc vs b=some o:=λb o hb e=>by
      unfold aside at e ⊢;rw[if_neg hb]at e ⊢;exact e
     refine⟨λb o hb e=>?_,λb hb=>?_,k7.sub,λb o e=>?_,λb o e=>?_,k7.len,k7.val,λi x od e1 e2=>?_,k7.dis⟩
     ·have hne:b≠acc:=by
       intro z;subst z;have e:g.Hz b=some o:=e;rw[k1.there hacc]at e;cases e
      exact oldH b o hne (k7.same b o hb e)
     ·by_cases hne:b=acc
      ·subst hne;rw[Zan];intro z;cases z
      ·rw[Zao hne];exact k7.lent b hb
     ·have hne:b≠acc:=by intro z;subst z;rw[b2]at e;cases e
      exact⟨oldH b o hne (k7.frz b o e).1,(k7.frz b o e).2⟩
     ·by_cases hne:b=acc
      ·subst hne
       have e:aside g sel σ Δ1 H1 b (vs++[v]) b=some o:=e;unfold aside at e;rw[if_pos rfl]at e;cases e;exact⟨Zan,b2,b3⟩
      ·obtain⟨w1,w2,w3⟩:=k7.ext b o (aNe b o hne e)
       exact⟨oldH b o hne w1,w2,w3⟩
     ·obtain⟨a,o,w1,w2,w3,w4,w5⟩:=k7.own i x od e1 e2
      have hne:a≠acc:=by intro z;subst z;exact b3 i x od e1 e2 w1
      exact⟨a,o,w1,oldH a o hne w2,w3,w4,w5⟩
   ·have e:i=ds.length:=by omega
    subst e;refine .inl ⟨stop,?_⟩;obtain⟨b1,b2,b3⟩:=hacc2 k2;have src:=Zhv (Δ1:=Δ1) (Δ2:=Δ2) hσ;have k9:Ok K g G2 H2 σ (backD n sel Δ2 0 Δ1):=Zf1 k1 hacc k2 hσ (λb o hb hx e=>by show aside g sel σ Δ1 H1 acc vs b=_;unfold aside;rw[if_neg hb,if_pos hx];exact e) (λb o hb hx e=>by show aside g sel σ Δ1 H1 acc vs b=_;unfold aside;rw[if_neg hb,if_neg hx];exact e);refine c acc _ G2 H2 _ k9 (s1.trans s2) ⟨.lst vs,b1,(show OwnRep K G2 (.lst vs) (.lst ys) from ry),b2,k1.there hacc,?_,λi y od e1 e2 e3=>?_⟩ (he ys Δ2 h2)
    ·cases q:g.Xo acc with
     |none=>rfl
     |some u=>have z:=(k1.ext acc u q).1;rw[hacc]at z;cases z
    ·obtain⟨x',od1,f1,f2,_⟩:=src i y od e1 e2
     exact nacc i x' od1 f1 f2 e3
theorem Zl4 {n:Nat}{sel:List Nat}{wi:TI}{t:TG}{tc:TT}{te:TE}{P:D->Evt->Prop}(hsel:sel.Nodup)
  (h:JI K wi Δ λds Δ1=>ds.length<sizeLine/\∃I:Nat->List D->Evt->Prop,I 0 [] (compD n sel Δ1) ∧
   (∀i d ys Δ2,ds[i]?=some d->I i ys Δ2->JGn K n t d Δ2 λΔ3=>JT K tc Δ3 λb Δ4=>if b=true then JE K te Δ4 λe Δ5=>I (i+1) (ys++[e]) Δ5 else I (i+1) ys Δ4) ∧
   ∀ys Δ2,I ds.length ys Δ2->P (.lst ys) (backD n sel Δ2 0 Δ1)):JE K (tComp n sel wi t tc te) Δ P:=
 Zbp (Znc hsel λg G H σ R k c=>h g G H σ R k λJ ds G' H' Δ' k' s' it ⟨z,I,h0,ht,he⟩=>c J ds G' H' Δ' k' s' it ⟨z,I,h0,ht,λys Δ2 q=>⟨ys,rfl,he ys Δ2 q⟩⟩)
theorem Zkm {n:Nat}{sel:List Nat}{wi:TI}{t:TG}{tc:TT}{te:TE}{P:D->Evt->Prop}(hsel:sel.Nodup)
  (h:JI K wi Δ λds Δ1=>ds.length<sizeLine/\∃(fix:Evt) (p:D->Bool) (f:D->D),compD n sel Δ1=Waj n .any++fix ∧
   (∀(i:Nat) d (ts:Evt),ds[i]?=some d->ts.length=n->JGn K n t d (ts++fix) λΔ3=>JT K tc Δ3 λb Δ4=>b=p d/\if b=true then JE K te Δ4 λe Δ5=>e=f d/\∃ts',ts'.length=n /\ Δ5=ts'++fix else ∃ts',ts'.length=n /\ Δ4=ts'++fix) ∧
   P (.lst ((ds.filter p).map f)) (backD n sel (Waj n .any++fix) 0 Δ1)):JE K (tComp n sel wi t tc te) Δ P:=by
 refine Zl4 hsel λg G H σ R k c=>h g G H σ R k λJ ds G' H' Δ' k' s' it ⟨z,fix,p,f,e0,ht,he⟩=>c J ds G' H' Δ' k' s' it ⟨z,λi ys Δ=>ys=((ds.take i).filter p).map f/\∃ts:Evt,ts.length=n /\ Δ = ts++fix,?_,?_,?_⟩
 ·exact⟨by simp,_,by simp,e0⟩
 ·rintro i d ys Δ2 hd ⟨rfl,ts,hts,rfl⟩
  have tk:ds.take (i+1)=ds.take i++[d]:=by
   rw[Wcd,hd];rfl
  intro g G H σ v R k r c;refine ht i d ts hd hts g G H σ v R k r λσ' G' H' Δ' k' s' e' q=>c σ' G' H' Δ' k' s' e' λg G H σ Q k c=>q g G H σ Q k λb G' H' Δ' k' s' ⟨eb,q⟩=>c b G' H' Δ' k' s' ?_;cases b with
  |true=>
   rw[if_pos rfl]at q ⊢;refine q.mono λe Δ5 ⟨e1,ts',h1,h2⟩=>⟨?_,ts',h1,h2⟩;rw[tk,Wcc,Wa1,Wb7,<- eb,e1];rfl
  |false=>
   rw[if_neg Was]at q ⊢;obtain⟨ts',h1,h2⟩:=q;refine⟨?_,ts',h1,h2⟩;rw[tk,Wcc,Wa1,Wb7,<- eb];simp
 ·rintro ys Δ2 ⟨rfl,ts,hts,rfl⟩
  rw[Wb5];have e:backD n sel (ts++fix) 0 Δ'=backD n sel (Waj n .any++fix) 0 Δ':=by
   apply Wb3;intro i;rw[Zc2,Zc2];congr 1
   funext x
   unfold backAt;have e2:∀j,(ts++fix)[n+j]?=(Waj n Slot.any++fix)[n+j]?:=λj=>by
    rw[Way (by omega),Way (by simp),hts,Wba]
   simp only[e2]
  rw[e];exact he
end
end L2
set_option Elab.async false
set_option linter.all false
set_option maxRecDepth 100000
namespace HT
open PySem PyProof.Rows
section
variable {prog:Program}{w:World}{A:Around}{E:Value->Shared->Prop}{s:Shared}
theorem getItem_tuple_whole {t sl:Addr}{items:Array Value}{vl vu:Value}{lo hi:Option Int}{Q:Value->Shared->Prop}(ht:IsTup s.heap t items) (hs:s.heap.IsSliceOf sl vl vu .none) (pl:IsPart vl lo) (pu:IsPart vu hi)
  (hw:sIx items.size 0 lo=0/\sIx items.size items.size hi=items.size) (h:Q (.ref t) s):wpAny (model prog w) A (getItem (.ref t) (.ref sl)) Q E s:=by
 obtain⟨os,hos,hcs,hds⟩:=id hs;have hTs:s.TypeIs (.ref sl) "slice":=⟨os,hos,hcs⟩;unfold getItem
 try with_reducible refine wpAny_holding ?_
 first|refine wpAny_bind (wpAny_pure ?_)|skip
 refine wpAny_bind (wpAny_sequenceKey ht.typeIs (by decide) ?_);refine wpAny_bind (wpAny_callSpecial?_slot (name:=Str.ofString "__getitem__") ht.typeIs PyProof.Rows.slot_tuple_getitem
  (wpAny_call_entry PyProof.Rows.slot_tuple_getitem ht.typeIs entry_tuple_getitem ?_ (args_tuple_getitem _ _)))
 show wpAny _ _ (Builtin.Tuple.tupleItemsOf (.ref t) >>= _) _ _ s;refine wpAny_bind (tupleItemsOf_ ht ?_);refine wpAny_bind (wpAny_typeOf hTs ?_);rw[if_pos (by decide)];refine wpAny_bind (Zdj hs pl pu ?_);have hyes:(((sIx items.size 0 lo:Nat):Int) == 0 && (1:Int) == 1 && (sIx items.size items.size hi-sIx items.size 0 lo) == items.size)=true:=by
  rw[hw.1,hw.2];simp
 show wpAny _ _ (if (((sIx items.size 0 lo:Nat):Int) == 0 && (1:Int) == 1 && (sIx items.size items.size hi-sIx items.size 0 lo) == items.size)=true then _ else _) _ _ s;rw[if_pos hyes]
 first
  |exact wpAny_pure ⟨_,rfl,wpAny_pure h⟩
  |exact wpAny_pure ⟨_,rfl,h⟩
  |exact wpAny_bind (wpAny_pure (wpAny_pure ⟨_,rfl,wpAny_pure h⟩))
  | (refine wpAny_bind (wpAny_bind (wpAny_typeOf ht.typeIs (wpAny_pure ?_)))
     rw[if_pos (by decide)];exact wpAny_bind (wpAny_rule (wpAny_pure ⟨_,rfl,wpAny_pure h⟩)))
theorem tuple_index {t:Addr}{items:Array Value}{x:Value}{e:Value->Bool}{j:Nat}{Q:Value->Shared->Prop}(ht:IsTup s.heap t items) (he:∀y∈items,PySem.SeqAt.EqAt A.in1 s y x (e y)) (hj:j<items.size)
  (hit:e items[j]=true) (hno:∀m (hm:m<items.size),m<j->e items[m]=false) (h:Q (.int j s.toks) { s with toks:=s.toks+1 }) :
  wpAny (model prog w) A (call (.builtin "tuple.index") [.ref t,x]) Q E s:=by
 refine wpAny_call_entry PySem.F.slot_tuple_index ht.typeIs PySem.F.entry_tuple_index ?_ (PySem.F.args_tuple_index_2 _ _);show wpAny _ _ (Builtin.Tuple.tupleItemsOf (.ref t) >>= _) _ _ s;refine wpAny_bind (tupleItemsOf_ ht ?_);refine wpAny_bind (wpAny_pure (wpAny_bind (wpAny_pure (wpAny_bind ?_))));rw[Wcy];simp only[Std.Legacy.Range.forIn_eq_forIn_range',Std.Legacy.Range.size,Wd9,Nat.add_sub_cancel,Nat.div_one];refine wpAny_mono (Q:=λb s'=>s' = { s with toks:=s.toks+1 } /\ b.1=some (Fin.done (.ret (.int j s.toks)))) ?_ (λb s' hb=>?_) λ_ _ z=>z;refine wpAny_forIn_list _ (λl b s'=>s'=s/\∃i,l=List.range' i (items.size-i)/\i<=j) _ ?_ ?_ _ _ ⟨rfl,0,rfl,Wb2 _⟩
 ·rintro i rest b s' ⟨rfl,k,hl,hk⟩
  have hk2:items.size-k=(items.size-k-1)+1:=by omega
  rw[hk2,List.range'_succ]at hl;injection hl with hl1 hl2
  subst hl1;have hi:i<items.size:=by omega
  rw[Array.getElem?_eq_getElem hi];refine wpAny_bind (he _ (Array.getElem_mem hi) prog w _ _ ?_);by_cases hij:i=j
  ·subst hij
   rw[hit,if_pos rfl];exact wpAny_bind (wpAny_bind (wpAny_mkInt (wpAny_pure (wpAny_pure ⟨rfl,rfl⟩))))
  ·rw[hno i hi (by omega),if_neg Was]
   exact wpAny_pure ⟨rfl,i+1,by rw[hl2,show items.size-i-1=items.size-(i+1) by omega],by omega⟩
 ·rintro b s' ⟨rfl,k,hl,hk⟩
  have:=congrArg Wbd hl;simp at this;omega
 ·obtain⟨rfl,e1⟩:=hb
  obtain⟨b1,b2⟩:=b;dsimp only at e1;subst e1;exact wpAny_pure ⟨_,rfl,h⟩
end
end HT
namespace L2
open PySem PySem.Spec PyProof.Rows
section
variable {X:Cx}
def rSlT' (K:W.Frag):V->Option Int->Option Int->Hp->VK->Prop:=λx lo hi H Q=>∃a xs,x=.ref a/\SqT K H a xs ∧
 ((HT.sIx xs.length 0 lo=0/\HT.sIx xs.length xs.length hi=xs.length)->Q (.ref a) H) ∧
 (¬ (HT.sIx xs.length 0 lo=0/\HT.sIx xs.length xs.length hi=xs.length)->∀p,H p=none->Q (.ref p) (upd H p (.tup (cutV xs lo hi))))
theorem Zts:SlR X (rSlT' X.K):=by
 intro pins s σ H x v vl vu lo hi sl Q I rx hs pl pu h;obtain⟨a,xs,rfl,hx,q1,q2⟩:=h;by_cases hw:HT.sIx xs.length 0 lo=0/\HT.sIx xs.length xs.length hi=xs.length
 ·cases rx
  obtain⟨its,r,ht,hz⟩:=I.tuple hx;have hlen:its.toArray.size=xs.length:=by rw[Wag];exact r.length.symm
  exact⟨"tuple",_,PyProof.Rows.slot_tuple_getitem.lookup,ht.typeIs,HT.getItem_tuple_whole ht hs pl pu (by rw[hlen];exact hw) ⟨.ref a,H,I,rfl,q1 hw⟩⟩
 ·exact Zt5 pins s σ H (.ref a) v vl vu lo hi sl Q I rx hs pl pu ⟨a,xs,rfl,hx,hw,q2 hw⟩
def rSlU (K:W.Frag):V->Option Int->Option Int->Hp->VK->Prop:=λx lo hi H Q=>rSlL K x lo hi H Q\/rSlT' K x lo hi H Q
theorem slU:SlR X (rSlU X.K):=Zrt.or Zts
def tSlR (K:W.Frag) (te:TE):TE:=λσ H Q=>te σ H λx H1=>∃a xs,x=.ref a/\SqT K H1 a xs/\∀p,H1 p=none->Q (.ref p) (upd H1 p (.tup xs.reverse))
def rCatT' (K:W.Frag):R2:=λx y H Q=>∃a b xs ys,x=.ref a/\y=.ref b/\SqT K H a xs/\SqT K H b ys/\xs.length+ys.length<=sizeLine ∧
 (xs=[]->Q (.ref b) H)/\(xs≠[]->ys=[]->Q (.ref a) H)/\(xs≠[]->ys≠[]->∀p,H p=none->Q (.ref p) (upd H p (.tup (xs++ys))))
theorem Zo4:OpR X (binaryOp .Add) (rCatT' X.K):=by
 intro pins s σ H x y v u Q I rx ry h;obtain⟨a,b,xs,ys,rfl,rfl,ha,hb,hz,q0,q1,q2⟩:=h;by_cases hx:xs=[]
 ·cases rx
  cases ry;obtain⟨its,r1,p1,_⟩:=I.tuple ha;obtain⟨its2,r2,p2,_⟩:=I.tuple hb;obtain⟨⟨cls,dd,data,sl⟩,ho,hc,n,hd⟩:=id p1;obtain⟨⟨cls2,dd2,data2,sl2⟩,ho2,hc2,n2,hd2⟩:=id p2;simp only at hc hd hc2 hd2;subst hc hd hc2 hd2;exact concat_meets ⟨_,ho,rfl⟩ ⟨_,ho2,rfl⟩ noFill_tuple_add seq_tuple_add PySem.F.slot_tuple_add PySem.F.entry_tuple_add (PySem.F.args_tuple_add_2 _ _)
   (tuple_addW0 a b its.toArray its2.toArray n n2 dd dd2 sl sl2 (by simp[r1.nil_iff.mpr hx])) ⟨ho,ho2,⟨.ref b,H,I,rfl,q0 hx⟩⟩
 ·exact Zru pins s σ H (.ref a) (.ref b) v u Q I rx ry ⟨a,b,xs,ys,rfl,rfl,ha,hb,hx,hz,q1 hx,q2 hx⟩
def rAddU (K:W.Frag):R2:=λx y H Q=>rI0 (λi j=>.int (i+j)) x y H Q\/(rCatT' K x y H Q\/rCat x y H Q)
theorem Zrz:OpR X (binaryOp .Add) (rAddU X.K):=Zt6.or (Zo4.or Zut)
theorem Zct:OpR X (compareOp .Eq) rEq:=Zv4
theorem Ze3:OpR X (compareOp .NotEq) rNe:=Zv8
def rIxD:R2:=λx y H Q=>∃a v,x=.ref a/\DGet H a y (some v)/\Q v H
theorem Zs7 (hu:X.A.units+1<cLine):IxR X rIxD:=by
 intro value slice pins s σ H x y v u Q I rx ry h hs;obtain⟨a,w',rfl,g,q⟩:=h;cases rx;exact tail_any (Zjt I g) PySem.F.slot_dict_getitem.lookup (Zmt hu I g ry λw2 s3 I3 rw'=>⟨w',H,I3,rw',q⟩) hs
def rIxU (K:W.Frag):R2:=λx y H Q=>rIx K x y H Q\/rIxD x y H Q
theorem ixU (hu:X.A.units+1<cLine):IxR X (rIxU X.K):=Zua.or (Zs7 hu)
def rSetD:V->V->V->Hp->(Hp->Prop)->Prop:=λo i v H Q=>∃a H',o=.ref a/\DPut H a i v H' /\ Q H'
theorem Zph (hu:X.A.units+1<cLine):PSet X rSetD:=by
 intro pins s σ H o i v ov iv u Q I ro ri rv h;obtain⟨a,H',rfl,g,q⟩:=h;cases ro;exact Znq hu I g ri rv λs' I'=>⟨H',I',q⟩
theorem PSet.or {t t':TSet}(h:PSet X t) (h':PSet X t'):PSet X (λo i v H Q=>t o i v H Q\/t' o i v H Q):=by
 intro pins s σ H o i v ov iv u Q I ro ri rv q;rcases q with q|q
 ·exact h pins s σ H o i v ov iv u Q I ro ri rv q
 ·exact h' pins s σ H o i v ov iv u Q I ro ri rv q
def rSetU:V->V->V->Hp->(Hp->Prop)->Prop:=λo i v H Q=>rSetL o i v H Q\/rSetD o i v H Q
theorem setU (hu:X.A.units+1<cLine):PSet X rSetU:=Zpq.or (Zph hu)
def rLenU (K:W.Frag):List V->Hp->VK->Prop:=λxs H Q=>(∃p ys,xs=[.ref p]/\(SqL K H p ys\/SqT K H p ys)/\Q (.int ys.length) H)\/∃a kvs,xs=[V.ref a]/\H a=some (.dK kvs)/\Q (.int kvs.length) H
theorem Zmk:CallR X (.builtin "len") (rLenU X.K):=Zh8.or Zma
def rIsi (K:W.Frag):List V->Hp->VK->Prop:=λxs H Q=>∃x n t b,xs=[x,.ty n]/\TyOf K H x t/\PySem.W.kitOne K t (.type n)=some b/\Q (.bl b) H
theorem Zja:CallR X (.builtin "isinstance") (rIsi X.K):=by
 intro pins s σ H xs us Q I r h;obtain⟨x,n,t,b,rfl,ty,e,q⟩:=h;obtain⟨u,u',rfl,rx,rn⟩:=vals2 r;cases (show u'=Value.type n from rn);exact Zm5 I rx ty e λtk=>⟨.bl b,H,I.tok _,rfl,q⟩
def insI (n:Nat) (i:Int):Nat:=if i<0 then (i+(n:Int)).toNat else min i.toNat n
def rInsert:V->List V->Hp->VK->Prop:=λx vs H Q=>∃l xs i y,x=.ref l/\vs=[.int i,y]/\H l=some (.lst xs)/\xs.length<sizeLine /\ -(2 ^ 62)<=i/\i<2 ^ 62/\Q .non (upd H l (.lst (xs.take (insI xs.length i)++y::xs.drop (insI xs.length i))))
theorem Zeg:MtM X "list.insert" rInsert:=by
 intro pins s σ H x vs v us Q I rx rv h;obtain⟨l,xs,i,y,rfl,rfl,hH,hz,h1,h2,q⟩:=h;cases rx;obtain⟨ui,uy,rfl,⟨t,rfl⟩,ry⟩:=rv.two;obtain⟨z,its,n,r,hl,e⟩:=I.lstM hH;refine call_meets F.slot_list_insert ⟨_,e,rfl⟩ F.entry_list_insert (F.args_list_insert_3 _ _ _) (PySem.AutoSeq1.list_insert_list_int_val_1 l its.toArray n i t uy (by
  have hf:Builtin.List.listFitsIndex i=true:=by
   unfold Builtin.List.listFitsIndex;rw[decide_eq_true (by omega),decide_eq_true (by omega)];rfl
  rw[hf];decide) (by rw[Wag];omega)) ⟨e,?_⟩
 refine⟨.non,_,I.lset (its':=its.take (insI xs.length i)++uy::its.drop (insI xs.length i)) hH e ?_ ((r.take _).append (.cons ry (r.drop _))) ?_,rfl,q⟩
 ·have e1:(if i<0 then (i+(its.toArray.size:Int)).toNat else min i.toNat its.toArray.size)=insI xs.length i:=by
   unfold insI;rw[Wag,hl]
  dsimp only;rw[e1];apply Array.ext';simp;rw[Wcs (by rw[Wbo];exact Wah _)]
 ·rw[Wao,War,Wb0,Wbo]
  omega
def rIndexT (K:W.Frag):V->List V->Hp->VK->Prop:=λx vs H Q=>∃a xs y j,x=.ref a/\vs=[y]/\SqT K H a xs/\flatV y=true/\xs.all flatV=true/\j<xs.length ∧
 (∃z,xs[j]?=some z/\eqV z y=true)/\(∀m z,m<j->xs[m]?=some z->eqV z y=false)/\Q (.int j) H
theorem Zgg:MtM X "tuple.index" (rIndexT X.K):=by
 intro pins s σ H x vs v us Q I rx rv h;obtain⟨a,xs,y,j,rfl,rfl,hx,fy,fx,hj,⟨z,hz1,hz2⟩,hno,q⟩:=h;cases rx;obtain⟨u,rfl,ru⟩:=rv.one;obtain⟨its,r,ht,hz⟩:=I.tuple hx;have hl:its.length=xs.length:=r.length.symm;have key:∀w∈its.toArray,SeqAt.EqAt X.A.in1 s w u (eqU y w):=λw hw=>by
  have hw:w∈its:=by simpa using hw
  obtain⟨k,hk,e⟩:=Wbs.mp hw;have hk':k<xs.length:=by omega
  obtain⟨w',hw',rw'⟩:=r.get (Waa hk');have ew:w'=w:=by
   rw[Waa hk]at hw';exact(Wa4.inj hw').symm.trans e
  subst ew;have fk:flatV xs[k]=true:=Wbg.mp fx _ (Wa7 hk');rw[Zku rw' fk];exact Zq7 rw' ru fk fy
 have at_:∀(k:Nat) (hk:k<its.toArray.size) (z:V),xs[k]?=some z->eqU y its.toArray[k]=eqV z y:=λk hk z e=>by
  obtain⟨w',hw',rw'⟩:=r.get e;have hk2:k<its.length:=by simpa using hk
  rw[Waa hk2]at hw';have ew:its.toArray[k]=w':=by simpa using Wa4.inj hw'
  rw[ew];exact Zku rw' (Wbg.mp fx _ (Waq e))
 have hj':j<its.toArray.size:=by simpa [hl] using hj
 refine HT.tuple_index ht key hj' (by rw[at_ j hj' z hz1];exact hz2) (λm hm hmj=>?_) ⟨.int j,H,I.tok _,⟨_,rfl⟩,q⟩;have hm2:m<xs.length:=by simpa [hl] using hm
 rw[at_ m hm _ (Waa hm2)];exact hno m _ hmj (Waa hm2)
end
end L2
namespace L2
open PySem PySem.Spec PyProof.Rows
section
variable {X:Cx}
theorem PI.or {tg iter:Expr}{w w':TI}(h:PI X tg iter w) (h':PI X tg iter w'):PI X tg iter (λσ H R=>w σ H R\/w' σ H R):=by
 intro pins s σ H R I q;rcases q with q|q
 ·exact h pins s σ H R I q
 ·exact h' pins s σ H R I q
def iSeq (K:W.Frag) (tl:TE):TI:=λσ H R=>iList K tl σ H R\/iTup K tl σ H R
theorem Zt9 {tg l:Expr}{tl:TE}(hl:PE X l tl):PI X tg l (iSeq X.K tl):=(Zr8 hl).or (Zvu hl)
def tTru (K:W.Frag) (ta:TE):TT:=λσ H Q=>ta σ H λx H'=>∃k,TruV K x H' k/\Q k H'
theorem Zvs {a:Expr}{ta:TE}(ha:PE X a ta) (he:∀whole,isTrue a X.env whole=(do let v ← whole;standAt a.pos;holding [v] (truthy v))):PT X a (tTru X.K ta):=Zp0 ha he
end
section
variable {K:W.Frag}{Δ:Evt}{P:D->Evt->Prop}
theorem Zds {i j:Int}(p:P (.int (i+j)) Δ):JR2 K (rAddU K) (.int i) (.int j) Δ P:=λg G H σ Q x y k rx ry c=>by
 cases rx.inv;cases ry.inv;exact .inl ⟨i,j,rfl,rfl,c _ _ G H Δ k (Same.refl _) (.int _) p⟩
theorem Zs5 {ds es:List D}(hz:ds.length+es.length<=sizeLine) (p:P (.tup (ds++es)) Δ):JR2 K (rAddU K) (.tup ds) (.tup es) Δ P:=λg G H σ Q x y k rx ry c=>by
 cases rx with
 |tup ha ra=>
  cases ry with
  |tup hb rb=>
   refine .inr (.inl ⟨_,_,_,_,rfl,rfl,SqT.of (k.live _ _ ha),SqT.of (k.live _ _ hb),by rw[ra.length,rb.length];exact hz,λe=>?_,λ_ e=>?_,λ_ _ q hq=>?_⟩)
   ·subst e;cases ra;exact c _ _ G H Δ k (Same.refl _) (.tup hb rb) p
   ·subst e;cases rb;rw[Wbk]at p;exact c _ _ G H Δ k (Same.refl _) (.tup ha ra) p
   ·obtain⟨k2,sg⟩:=k.laid hq (.tup _)
    exact c _ _ _ _ Δ k2 sg (.tup Zan ((ra.append rb).mono sg)) p
theorem Zsv {ds es:List D}(hz:ds.length+es.length<=sizeLine) (p:P (.lst (ds++es)) Δ):JR2 K (rAddU K) (.lst ds) (.lst es) Δ P:=λg G H σ Q x y k rx ry c=>by
 obtain⟨_,_,rfl,ha,ra⟩:=rx.inv
 next=>
  obtain⟨_,_,rfl,hb,rb⟩:=ry.inv
  next=>
   refine .inr (.inr ⟨_,_,_,_,rfl,rfl,k.live _ _ ha,k.live _ _ hb,by rw[ra.length,rb.length];exact hz,λq hq=>?_⟩);obtain⟨k2,sg⟩:=k.laid hq (.lst _);exact c _ _ _ _ Δ k2 sg (.lst Zan ((ra.append rb).mono sg)) p
theorem Zcg {ds:List D}{i:Int}{d:D}(h:atI ds i=some d) (p:P d Δ):JR2 K (rIxU K) (.tup ds) (.int i) Δ P:=λg G H σ Q x y k rx ry c=>
 .inl (.inr (.inl (Zvo h p g G H σ Q x y k rx ry c)))
theorem Zb7 {ds:List D}{i:Int}{d:D}(h:atI ds i=some d) (p:P d Δ):JR2 K (rIxU K) (.lst ds) (.int i) Δ P:=λg G H σ Q x y k rx ry c=>
 .inl (.inl (Zu5 h p g G H σ Q x y k rx ry c))
theorem Zju {n:Nat}{tb:TE}{x:Slot}{ds:List D}(hx:Δ[n]?=some x) (ho:x.od=some (.lst ds)) (h:JE K tb Δ λe Δ1=>∃y es i d,Δ1[n]?=some y/\y.od=some (.lst es)/\e=.int i/\atI es i=some d/\P d Δ1):JE K (tOp (rIxU K) (tVar n) tb) Δ P:=λg G H σ Q k c=>by
 obtain⟨a,o,h1,h2,h3,h4,h5⟩:=k.own n x _ hx ho;refine⟨.ref a,h1,h g G H σ _ k λv e G1 H1 Δ1 k1 s1 r1 ⟨y,es,i,d,q1,q2,q3,q4,p⟩=>?_⟩;subst q3;cases r1.inv;obtain⟨a',o',w1,w2,w3,w4,w5⟩:=k1.own n y _ q1 q2;rw[h1]at w1;cases w1;cases o' with
 |lst vs=>
  obtain⟨u,z1,z2⟩:=Zg0 (show Reps K G1 vs es from w3) q4;exact .inl (.inl ⟨a,vs,i,u,rfl,rfl,SqL.of w2,z1,c u d G1 H1 Δ1 k1 s1 z2 p⟩)
 |_=>exact absurd w3 (λz=>z)
theorem Znf {n:Nat}{ti te:TE}{Pp:Pst}(h:JE K te Δ λd Δ1=>(∃x od,Δ1[n]?=some x/\x.od=some od)/\JE K ti Δ1 λe Δ2=>∃x ds i j,Δ2[n]?=some x/\x.od=some (.lst ds)/\e=.int i/\ixN ds.length i=some j/\Pp.nx (Δ2.set n (x.put (.lst (ds.set j d))))) :
  JS K (tAsg te (gSub (tVar n) ti rSetU)) Δ Pp:=λg G H σ E k c=>
 h g G H σ _ k λv d G1 H1 Δ1 k1 s1 r1 hq_=>by
  obtain⟨⟨x,od,hx,ho⟩,p1⟩:=hq_;obtain⟨a,o,h1,h2,h3,h4,h5⟩:=k1.own n x _ hx ho;refine⟨.ref a,h1,p1 g G1 H1 σ _ k1 λu e G2 H2 Δ2 k2 s2 r2 ⟨y,ds,i,j,q1,q2,q3,q4,p⟩=>?_⟩;subst q3;cases r2.inv;obtain⟨a',o',w1,w2,w3,w4,w5⟩:=k2.own n y _ q1 q2;rw[h1]at w1;cases w1;cases o' with
  |lst vs=>
   have w3:Reps K G2 vs ds:=w3;exact .inl ⟨a,vs,i,j,rfl,rfl,w2,by rw[w3.length];exact q4,c.nx σ G2 _ _ (k2.write q1 q2 h1 (show OwnRep K G2 (.lst (vs.set j v)) (.lst (ds.set j d)) from w3.set j (r1.mono s2))) p⟩
  |_=>exact absurd w3 (λz=>z)
def valD (kvs:List (Key × D)) (k:Key):Option D:=(kvs.find? λkv=>decide (kv.1=k)).map (·.2)
def putD (kvs:List (Key × D)) (k:Key) (v:D):List (Key × D):=if (kvs.any λkv=>decide (kv.1=k))=true then kvs.map (λkv=>if kv.1=k then (kv.1,v) else kv) else kvs++[(k,v)]
theorem Zi2 {G:Hp}{k:Key}{d:D}:∀{kvs:List (Key × V)}{kds:List (Key × D)},Paired (λ(p:Key × V) (q:Key × D)=>p.1=q.1/\Rep K G p.2 q.2) kvs kds->valD kds k=some d->∃v,valV kvs k=some v/\Rep K G v d
 |_,_,.nil,h=>by cases h
 | (k1,v1)::kvs,(k2,d2)::kds,.cons ⟨e,r⟩ t,h=>by
  have e:k1=k2:=e;subst e;by_cases hk:k1=k
  ·subst hk
   have h:some d2=some d:=by simpa [valD,Wco] using h
   cases h;exact⟨v1,Ze8 rfl,r⟩
  ·have h:valD kds k=some d:=by simpa [valD,Wco,hk] using h
   obtain⟨v,h1,h2⟩:=Zi2 t h;exact⟨v,by rw[Zfd hk];exact h1,h2⟩
theorem Zon {G:Hp}{k:Key}:∀{kvs:List (Key × V)}{kds:List (Key × D)},Paired (λ(p:Key × V) (q:Key × D)=>p.1=q.1/\Rep K G p.2 q.2) kvs kds->(kvs.any λkv=>decide (kv.1=k))=(kds.any λkv=>decide (kv.1=k))
 |_,_,.nil=>rfl
 |_::_,_::_,.cons ⟨e,_⟩ t=>by rw[Wc0,Wc0,Zon t,e]
theorem Zn8 {G:Hp}{k:Key}{v:V}{d:D}(rv:Rep K G v d):∀{kvs:List (Key × V)}{kds:List (Key × D)},Paired (λ(p:Key × V) (q:Key × D)=>p.1=q.1/\Rep K G p.2 q.2) kvs kds →
  Paired (λ(p:Key × V) (q:Key × D)=>p.1=q.1/\Rep K G p.2 q.2) (kvs.map λkv=>if kv.1=k then (kv.1,v) else kv) (kds.map λkv=>if kv.1=k then (kv.1,d) else kv)
 |_,_,.nil=>.nil
 | (k1,v1)::kvs,(k2,d2)::kds,.cons ⟨e,r⟩ t=>by
  have e:k1=k2:=e;subst e;rw[Wa3,Wa3];refine .cons ?_ (Zn8 rv t);by_cases hk:k1=k
  ·rw[if_pos hk,if_pos hk];exact⟨rfl,rv⟩
  ·rw[if_neg hk,if_neg hk];exact⟨rfl,r⟩
theorem Zsz {G:Hp}{k:Key}{v:V}{d:D}{kvs:List (Key × V)}{kds:List (Key × D)}(rv:Rep K G v d) (h:Paired (λ(p:Key × V) (q:Key × D)=>p.1=q.1/\Rep K G p.2 q.2) kvs kds) :
  Paired (λ(p:Key × V) (q:Key × D)=>p.1=q.1/\Rep K G p.2 q.2) (putK kvs k v) (putD kds k d):=by
 unfold putK putD;rw[Zon h];split
 ·exact Zn8 rv h
 ·exact Paired.snoc h ⟨rfl,rv⟩
theorem Zsl {Po:OD->Evt->Prop}(p:Po (.dct []) Δ):JO K tDNewK Δ Po:=λg G H σ Q k c q hq=>by
 obtain⟨k2,pd⟩:=k.fresh (od:=.dct []) hq (show OwnRep K G (.dK []) (.dct []) from .nil);exact c q _ G _ Δ k2 (Same.refl _) pd p
theorem Zjw {n:Nat}{tb:TE}{x:Slot}{od:OD}(hx:Δ[n]?=some x) (ho:x.od=some od) (h:JE K tb Δ λe Δ1=>∃y kvs i d,Δ1[n]?=some y/\y.od=some (.dct kvs)/\e=.int i/\valD kvs (.inl i)=some d/\P d Δ1):JE K (tOp (rIxU K) (tVar n) tb) Δ P:=λg G H σ Q k c=>by
 obtain⟨a,o,h1,h2,h3,h4,h5⟩:=k.own n x _ hx ho;refine⟨.ref a,h1,h g G H σ _ k λv e G1 H1 Δ1 k1 s1 r1 ⟨y,kvs,i,d,q1,q2,q3,q4,p⟩=>?_⟩;subst q3;cases r1.inv;obtain⟨a',o',w1,w2,w3,w4,w5⟩:=k1.own n y _ q1 q2;rw[h1]at w1;cases w1;cases o' with
 |dK vs=>
  obtain⟨u,z1,z2⟩:=Zi2 w3 q4;exact .inr ⟨a,u,rfl,(by have:=DGet.k (k:=Sum.inl i) w2;rw[z1]at this;exact this),c u d G1 H1 Δ1 k1 s1 z2 p⟩
 |_=>exact absurd w3 (λz=>z)
theorem Zr9 {n:Nat}{ti te:TE}{Pp:Pst}(h:JE K te Δ λd Δ1=>(∃x od,Δ1[n]?=some x/\x.od=some od)/\JE K ti Δ1 λe Δ2=>∃x kvs i,Δ2[n]?=some x/\x.od=some (.dct kvs)/\e=.int i/\kvs.length<sizeLine/\Pp.nx (Δ2.set n (x.put (.dct (putD kvs (.inl i) d))))) :
  JS K (tAsg te (gSub (tVar n) ti rSetU)) Δ Pp:=λg G H σ E k c=>
 h g G H σ _ k λv d G1 H1 Δ1 k1 s1 r1 hq_=>by
  obtain⟨⟨x,od,hx,ho⟩,p1⟩:=hq_;obtain⟨a,o,h1,h2,h3,h4,h5⟩:=k1.own n x _ hx ho;refine⟨.ref a,h1,p1 g G1 H1 σ _ k1 λu e G2 H2 Δ2 k2 s2 r2 ⟨y,kvs,i,q1,q2,q3,q4,p⟩=>?_⟩;subst q3;cases r2.inv;obtain⟨a',o',w1,w2,w3,w4,w5⟩:=k2.own n y _ q1 q2;rw[h1]at w1;cases w1;cases o' with
  |dK vs=>
   have w3':Paired (λ(p:Key × V) (q:Key × D)=>p.1=q.1/\Rep K G2 p.2 q.2) vs kvs:=w3;exact .inr ⟨a,_,rfl,DPut.k (k:=Sum.inl i) w2 (by rw[Paired.length w3'];exact q4),c.nx σ G2 _ _ (k2.write q1 q2 h1 (show OwnRep K G2 (.dK (putK vs (.inl i) v)) (.dct (putD kvs (.inl i) d)) from Zsz (r1.mono s2) w3')) p⟩
  |_=>exact absurd w3 (λz=>z)
theorem Zb6 {ds es:List D}(he:ds=[.lst es]\/ds=[.tup es]) (p:P (.int es.length) Δ):JC K (rLenU K) ds Δ P:=λg G H σ Q vs k rs c=>.inl (Zvy he p g G H σ Q vs k rs c)
theorem Zh4 {n:Nat}{x:Slot}{ds:List D}(hx:Δ[n]?=some x) (ho:x.od=some (.lst ds)) (p:P (.int ds.length) Δ):JE K (tCB (rLenU K) (tCons (tVar n) tNil)) Δ P:=λg G H σ Q k c=>by
 obtain⟨v,h1,h2⟩:=Ztb hx ho p g G H σ Q k c;exact⟨v,h1,.inl h2⟩
def cutD (ds:List D) (lo hi:Option Int):List D:=(ds.drop (HT.sIx ds.length 0 lo)).take (HT.sIx ds.length ds.length hi-HT.sIx ds.length 0 lo)
theorem Zmn {α:Type}(xs:List α) (lo hi:Option Int) (h:HT.sIx xs.length 0 lo=0/\HT.sIx xs.length xs.length hi=xs.length):(xs.drop (HT.sIx xs.length 0 lo)).take (HT.sIx xs.length xs.length hi-HT.sIx xs.length 0 lo)=xs:=by
 rw[h.1,h.2];simp
def JO2 (t:TO) (Δ:Evt) (K:W.Frag) (P:Option Int->Evt->Prop):Prop:=
 ∀g G H σ (Q:Option Int->Hp->Prop),Ok K g G H σ Δ -> (∀o G' H' Δ',Ok K g G' H' σ Δ' -> Same G G' -> P o Δ' -> Q o H')->t σ H Q
theorem Zhn {P:Option Int->Evt->Prop}(p:P none Δ):JO2 tNoPart Δ K P:=λg G H σ Q k c=>c none G H Δ k (Same.refl _) p
theorem Zhk {te:TE}{P:Option Int->Evt->Prop}(h:JE K te Δ λd Δ1=>∃i,d=.int i/\P (some i) Δ1):JO2 (tPart te) Δ K P:=λg G H σ Q k c=>
 h g G H σ _ k λv d G1 H1 Δ1 k1 s1 r1 hq_=>by obtain⟨i,e,p⟩:=hq_;subst e;cases r1.inv;exact⟨i,rfl,c (some i) G1 H1 Δ1 k1 s1 p⟩
def slD (d:D) (lo hi:Option Int):Option D:=match d with
 |.lst ds=>some (.lst (cutD ds lo hi))
 |.scr ds=>some (.lst (cutD ds lo hi))
 |.tup ds=>some (.tup (cutD ds lo hi))
 |_=>none
theorem Zpp {te:TE}{tl th:TO}(h:JE K te Δ λd Δ1=>JO2 tl Δ1 K λlo Δ2=>JO2 th Δ2 K λhi Δ3=>∃e,slD d lo hi=some e/\P e Δ3):JE K (tSl (rSlU K) te tl th) Δ P:=λg G H σ Q k c=>
 h g G H σ _ k λv d G1 H1 Δ1 k1 s1 r1 p1=>p1 g G1 H1 σ _ k1 λlo G2 H2 Δ2 k2 s2 p2=>p2 g G2 H2 σ _ k2 λhi G3 H3 Δ3 k3 s3 hq_=>by
  obtain⟨e,he,p⟩:=hq_;have r3:=r1.mono (s2.trans s3);have cc:=c.up (s1.trans (s2.trans s3));cases r3 with
  |lst ha rs=>
   cases he;refine .inl ⟨_,_,rfl,SqL.of (k3.live _ _ ha),λq hq=>?_⟩;obtain⟨k4,sg⟩:=k3.laid hq (.lst _);refine cc _ _ _ _ Δ3 k4 sg (.lst Zan (Reps.mono sg ?_)) p;unfold cutV cutD;rw[rs.length];exact(rs.drop _).take _
  |scr ha rs=>
   cases he;refine .inl ⟨_,_,rfl,k3.live.seq ha,λq hq=>?_⟩;obtain⟨k4,sg⟩:=k3.laid hq (.lst _);refine cc _ _ _ _ Δ3 k4 sg (.lst Zan (Reps.mono sg ?_)) p;unfold cutV cutD;rw[rs.length];exact(rs.drop _).take _
  |tup ha rs=>
   cases he;refine .inr ⟨_,_,rfl,SqT.of (k3.live _ _ ha),λhw=>?_,λhw q hq=>?_⟩
   ·rw[rs.length]at hw
    refine cc _ _ _ _ Δ3 k3 (Same.refl _) (.tup ha ?_) p;unfold cutD;rw[Zmn _ _ _ hw];exact rs
   ·obtain⟨k4,sg⟩:=k3.laid hq (.tup _)
    refine cc _ _ _ _ Δ3 k4 sg (.tup Zan (Reps.mono sg ?_)) p;unfold cutV cutD;rw[rs.length];exact(rs.drop _).take _
  |_=>cases he
theorem Zvv {te:TE}(h:JE K te Δ λd Δ1=>∃ds,d=.tup ds/\P (.tup ds.reverse) Δ1):JE K (tSlR K te) Δ P:=λg G H σ Q k c=>
 h g G H σ _ k λv d G1 H1 Δ1 k1 s1 r1 hq_=>by
  obtain⟨ds,e,p⟩:=hq_;subst e;obtain⟨_,_,rfl,ha,rs⟩:=r1.inv
  next=>
   refine⟨_,_,rfl,SqT.of (k1.live _ _ ha),λq hq=>?_⟩;obtain⟨k4,sg⟩:=k1.laid hq (.tup _);exact c _ _ _ _ Δ1 k4 (s1.trans sg) (.tup Zan (rs.reverse.mono sg)) p
theorem Zc3 {tl:TE}{P:List D->Evt->Prop}(h:JE K tl Δ λd Δ1=>∃ds,(d=.lst ds\/d=.scr ds)/\P ds Δ1):JI K (iSeq K tl) Δ P:=λg G H σ R k c=>.inl (Zsk h g G H σ R k c)
theorem Zc9 {tl:TE}{P:List D->Evt->Prop}(h:JE K tl Δ λd Δ1=>∃ds,d=.tup ds/\P ds Δ1):JI K (iSeq K tl) Δ P:=λg G H σ R k c=>.inr (Zu2 h g G H σ R k c)
def truD:D->Option Bool
 |.non=>some false
 |.bl b=>some b
 |.int i=>some (i != 0)
 |.lst ds=>some !ds.isEmpty
 |.tup ds=>some !ds.isEmpty
 |_=>none
theorem Reps.isEmpty {G:Hp}{vs:List V}{ds:List D}(r:Reps K G vs ds):vs.isEmpty=ds.isEmpty:=by cases r <;> rfl
theorem Zcw {t:TE}{Pb:Bool->Evt->Prop}(h:JE K t Δ λd Δ1=>∃b,truD d=some b/\Pb b Δ1):JT K (tTru K t) Δ Pb:=λg G H σ Q k c=>
 h g G H σ _ k λv d G1 H1 Δ1 k1 s1 r1 hq_=>by
  obtain⟨b,e,p1⟩:=hq_;refine⟨b,?_,c b G1 H1 Δ1 k1 s1 p1⟩;cases r1 with
  |non=>cases e;rfl
  |bl b=>cases e;rfl
  |int i=>cases e;rfl
  |str x=>cases e
  |ty n=>cases e
  |scr ha rs=>cases e
  |adr a=>cases e
  |dct ha hl rs=>cases e
  |exc ha=>cases e
  |lst ha rs=>cases e;exact .inl ⟨_,SqL.of (k1.live _ _ ha),by rw[rs.isEmpty]⟩
  |tup ha rs=>cases e;exact .inr (.inl ⟨_,SqT.of (k1.live _ _ ha),by rw[rs.isEmpty]⟩)
def tyD:D->Option String
 |.non=>some "NoneType"
 |.bl _=>some "bool"
 |.int _=>some "int"
 |.str _=>some "str"
 |.lst _=>some "list"
 |.tup _=>some "tuple"
 |.dct _ _=>some "dict"
 |_=>none
theorem Zvr {d:D}{n T:String}{b:Bool}(ht:tyD d=some T) (e:∀K,PySem.W.kitOne K (.type T) (.type n)=some b) (p:P (.bl b) Δ):JC K (rIsi K) [d,.ty n] Δ P:=λg G H σ Q vs k rs c=>by
 obtain⟨_,_,rfl,r,t⟩:=rs.inv
 next=>
  obtain⟨_,_,rfl,r',t⟩:=t.inv
  next=>
   cases t.inv;cases r'.inv;refine⟨_,n,.type T,b,rfl,?_,e K,c _ _ G H Δ k (Same.refl _) (.bl b) p⟩;cases r with
   |non=>cases ht;exact .non
   |bl b=>cases ht;exact .bl b
   |int i=>cases ht;exact .int i
   |str x=>cases ht;exact .str x
   |ty n=>cases ht
   |scr ha rs=>cases ht
   |adr a=>cases ht
   |dct ha hl rs=>cases ht;exact .dK (k.live _ _ ha)
   |exc ha=>cases ht
   |lst ha rs=>cases ht;exact .lst (k.live _ _ ha)
   |tup ha rs=>cases ht;exact .tup (k.live _ _ ha)
theorem Zjg {ta tb:TE}(h:JE K ta Δ λd Δ1=>∃b,d=.bl b/\if b=true then JE K tb Δ1 P else P (.bl false) Δ1):JE K (tAndV ta tb) Δ P:=λg G H σ Q k c=>
 h g G H σ _ k λv d G1 H1 Δ1 k1 s1 r1 hq_=>by
  obtain⟨b,e,p1⟩:=hq_;subst e;cases r1.inv;refine⟨b,rfl,?_⟩;cases b with
  |true=>exact(show JE K tb Δ1 P from p1) g G1 H1 σ Q k1 (c.up s1)
  |false=>exact c _ _ G1 H1 Δ1 k1 s1 (.bl false) p1
theorem Zuh {ta tb:TE}(h:JE K ta Δ λd Δ1=>∃b,d=.bl b/\if b=true then P (.bl true) Δ1 else JE K tb Δ1 P):JE K (tOrV ta tb) Δ P:=λg G H σ Q k c=>
 h g G H σ _ k λv d G1 H1 Δ1 k1 s1 r1 hq_=>by
  obtain⟨b,e,p1⟩:=hq_;subst e;cases r1.inv;refine⟨b,rfl,?_⟩;cases b with
  |false=>exact(show JE K tb Δ1 P from p1) g G1 H1 σ Q k1 (c.up s1)
  |true=>exact c _ _ G1 H1 Δ1 k1 s1 (.bl true) p1
theorem Zow {ta:TE}(h:JE K ta Δ λd Δ1=>∃b,d=.bl b/\P (.bl !b) Δ1):JE K (tNotV ta) Δ P:=λg G H σ Q k c=>
 h g G H σ _ k λv d G1 H1 Δ1 k1 s1 r1 hq_=>by
  obtain⟨b,e,p1⟩:=hq_;subst e;cases r1.inv;exact⟨b,rfl,c _ _ G1 H1 Δ1 k1 s1 (.bl !b) p1⟩
theorem Zkw {to te:TE}(h:JE K to Δ λd Δ1=>∃ns:List Int,d=.tup (ns.map D.int)/\JE K te Δ1 λe Δ2=>∃i j,e=.int i/\ns[j]?=some i/\(∀m,m<j->ns[m]?≠some i)/\P (.int (j:Nat)) Δ2) :
  JE K (tBM K "tuple" (rIndexT K) to (tCons te tNil)) Δ P:=λg G H σ Q k c=>
 h g G H σ _ k λv d G1 H1 Δ1 k1 s1 r1 hq_=>by
  obtain⟨ns,e,p1⟩:=hq_;subst e;obtain⟨a,vs,rfl,ha,rs⟩:=r1.inv
  next=>
   refine⟨.inr (.inl ⟨rfl,.inr ⟨_,k1.live _ _ ha⟩⟩),p1 g G1 H1 σ _ k1 λu e G2 H2 Δ2 k2 s2 r2 ⟨i,j,q1,q2,q3,p⟩=>?_⟩;subst q1;cases r2.inv;have ev:vs=ns.map V.int:=rs.ints;subst ev;have hj:j<ns.length:=(Waf.mp q2).1;refine⟨a,_,.int i,j,rfl,rfl,SqT.of (k2.live _ _ (s2 _ _ ha)),rfl,?_,by simpa using hj,⟨.int i,by rw[Wad,q2];rfl,by simp[eqV]⟩,λm z hm hz=>?_,c _ _ G2 H2 Δ2 k2 (s1.trans s2) (.int _) p⟩
   ·rw[Wd8];exact Wbg.mpr λ_ _=>rfl
   ·rw[Wad]at hz
    cases e:ns[m]? with
    |none=>rw[e]at hz;cases hz
    |some w=>
     rw[e]at hz;have hz:V.int w=z:=by simpa using hz
     subst hz;have hne:w≠i:=λq=>q3 m hm (by rw[e,q]);show (w == i)=false;exact beq_eq_false_iff_ne.mpr hne
end
section
variable {K:W.Frag}{g:Gm}{G H:Hp}{σ:St}{Δ:Evt}
theorem Ok.setVal' (k:Ok K g G H σ Δ) {v:V}{d:D}(i:Nat) (r:Rep K G v d):Ok K g G H (σ.set i (some v)) (Δ.set i (.val d)):=by
 by_cases hi:i < Δ.length
 ·exact k.setVal hi r
 ·have hl:=k.len
  rw[Wc3 (l:=σ) (by omega),Wc3 (l:=Δ) (by omega)];exact k
theorem Ok.setOwn' (k:Ok K g G H σ Δ) {a:Addr}{od:OD}(i:Nat) (p:Pend K g G H σ Δ a od):Ok K g G H (σ.set i (some (.ref a))) (Δ.set i (.own od)):=by
 by_cases hi:i < Δ.length
 ·exact k.setOwn hi p
 ·have hl:=k.len
  rw[Wc3 (l:=σ) (by omega),Wc3 (l:=Δ) (by omega)];exact k
theorem Zuu {te:TE}{i:Nat}{P:Pst}(h:JE K te Δ λd Δ1=>P.nx (Δ1.set i (.val d))):JS K (tAsg te (gName i)) Δ P:=λg G H σ E k c=>
 h g G H σ _ k λv d G1 H1 Δ1 k1 s1 r1 p1=>c.nx _ G1 H1 _ (k1.setVal' i r1) p1
theorem Zsc {te:TE}{i:Nat}{P:Pst}(h:JO K te Δ λod Δ1=>P.nx (Δ1.set i (.own od))):JS K (tAsg te (gName i)) Δ P:=λg G H σ E k c=>
 h g G H σ _ k λa od G1 H1 Δ1 k1 s1 pd p1=>c.nx _ G1 H1 _ (k1.setOwn' i pd) p1
theorem Zsu {i j:Nat}{ta:TA}{P:Pst}(h:JA K ta Δ λds Δ1=>∃d e,ds=[d,e]/\P.nx ((Δ1.set i (.val d)).set j (.val e))):JS K (tPar i j ta) Δ P:=λg G H σ E k c=>
 h g G H σ _ k λvs ds G1 H1 Δ1 k1 s1 r1 hq_=>by
  obtain⟨d,e,hd,p1⟩:=hq_;subst hd;obtain⟨_,_,rfl,ra,rr⟩:=r1.inv
  next=>
   obtain⟨_,_,rfl,rb,rr⟩:=rr.inv
   next=>
    cases rr.inv;exact⟨_,_,rfl,c.nx _ G1 H1 _ ((k1.setVal' i ra).setVal' j rb) p1⟩
theorem Zbu {i:Nat}{d:D}{P:Evt->Prop}(p:P (Δ.set i (.val d))):JG K (gName i) d Δ P:=λg G H σ v R k r c=>c _ G H _ (k.setVal' i r) (Same.refl _) p
theorem Zeq {n i:Nat}{d:D}{P:Evt->Prop}(hn:i<n) (p:P (Δ.set i (.val d))):JGn K n (gName i) d Δ P:=λg G H σ v R k r c=>
 c _ G H _ (k.setVal' i r) (Same.refl _) (λj hj=>Wam (by omega)) p
theorem Zuz {n:Nat}{te:TE}{Pp:Pst}{x:Slot}{ds0:List D}(hx:Δ[n]?=some x) (ho:x.od=some (.lst ds0))
  (h:JE K te Δ λd Δ1=>∃y ds,Δ1[n]?=some y/\y.od=some (.lst ds)/\ds.length<sizeLine/\Pp.nx (Δ1.set n (y.put (.lst (ds++[d]))))) :
  JS K (tDrop (tBM K "list" rAppend (tVar n) (tCons te tNil))) Δ Pp:=Zne hx ho ⟨_,rfl⟩ h
end
section
variable {K:W.Frag}{Δ:Evt}{nx bk ct:Evt->Prop}{rt:D->Evt->Prop}{ro:OD->Evt->Prop}
theorem Za1 (p:nx Δ):JS K tNext Δ ⟨nx,rt,bk,ct,ro⟩:=Zst p
theorem Zal {t u:TS}(h:JS K t Δ ⟨λΔ1=>JS K u Δ1 ⟨nx,rt,bk,ct,ro⟩,rt,bk,ct,ro⟩):JS K (tSeq t u) Δ ⟨nx,rt,bk,ct,ro⟩:=Zrn h
theorem Zbe {t u:TS}(I:Evt->Prop) (h1:JS K t Δ ⟨I,rt,bk,ct,ro⟩) (h2:∀Δ1,I Δ1->JS K u Δ1 ⟨nx,rt,bk,ct,ro⟩):JS K (tSeq t u) Δ ⟨nx,rt,bk,ct,ro⟩:=
 Zrn (h1.mono h2 (λ_ _ z=>z) (λ_ z=>z) (λ_ z=>z) λ_ _ z=>z)
theorem Zbl {te:TE}(h:JE K te Δ rt):JS K (tRet te) Δ ⟨nx,rt,bk,ct,ro⟩:=Zt4 h
theorem Zde {te:TE}(h:JO K te Δ ro):JS K (tRet te) Δ ⟨nx,rt,bk,ct,ro⟩:=Zsq h
theorem Znv {te:TE}(h:JE K te Δ λ_ Δ1=>nx Δ1):JS K (tDrop te) Δ ⟨nx,rt,bk,ct,ro⟩:=Ztu h
theorem Zbv {c:TT}{t u:TS}(h:JT K c Δ λb Δ1=>if b=true then JS K t Δ1 ⟨nx,rt,bk,ct,ro⟩ else JS K u Δ1 ⟨nx,rt,bk,ct,ro⟩):JS K (tIfS c t u) Δ ⟨nx,rt,bk,ct,ro⟩:=Zwa h
theorem Zax {te:TE}{i:Nat}(h:JE K te Δ λd Δ1=>nx (Δ1.set i (.val d))):JS K (tAsg te (gName i)) Δ ⟨nx,rt,bk,ct,ro⟩:=Zuu h
theorem Zc6 {te:TE}{i:Nat}(h:JO K te Δ λod Δ1=>nx (Δ1.set i (.own od))):JS K (tAsg te (gName i)) Δ ⟨nx,rt,bk,ct,ro⟩:=Zsc h
theorem Zft {i j:Nat}{ta:TA}(h:JA K ta Δ λds Δ1=>∃d e,ds=[d,e]/\nx ((Δ1.set i (.val d)).set j (.val e))):JS K (tPar i j ta) Δ ⟨nx,rt,bk,ct,ro⟩:=Zsu h
theorem Zrd {te:TE}{t:TG}(h:JE K te Δ λd Δ1=>JG K t d Δ1 nx):JS K (tAsg te t) Δ ⟨nx,rt,bk,ct,ro⟩:=Zuf h
theorem Zme {n:Nat}{te:TE}{x:Slot}{ds0:List D}(hx:Δ[n]?=some x) (ho:x.od=some (.lst ds0))
  (h:JE K te Δ λd Δ1=>∃y ds,Δ1[n]?=some y/\y.od=some (.lst ds)/\ds.length<sizeLine/\nx (Δ1.set n (y.put (.lst (ds++[d]))))) :
  JS K (tDrop (tBM K "list" rAppend (tVar n) (tCons te tNil))) Δ ⟨nx,rt,bk,ct,ro⟩:=Zuz hx ho h
theorem Zj8 {n:Nat}{ti te:TE}(h:JE K te Δ λd Δ1=>(∃x ds,Δ1[n]?=some x/\x.od=some (.lst ds))/\JE K ti Δ1 λe Δ2=>∃x ds i j,Δ2[n]?=some x/\x.od=some (.lst ds)/\e=.int i/\ixN ds.length i=some j/\nx (Δ2.set n (x.put (.lst (ds.set j d))))) :
  JS K (tAsg te (gSub (tVar n) ti rSetU)) Δ ⟨nx,rt,bk,ct,ro⟩:=Znf (h.mono λd Δ1 ⟨⟨x,ds,h1,h2⟩,h3⟩=>⟨⟨x,_,h1,h2⟩,h3⟩)
theorem Zl6 {n:Nat}{ti te:TE}(h:JE K te Δ λd Δ1=>(∃x kvs,Δ1[n]?=some x/\x.od=some (.dct kvs))/\JE K ti Δ1 λe Δ2=>∃x kvs i,Δ2[n]?=some x/\x.od=some (.dct kvs)/\e=.int i/\kvs.length<sizeLine/\nx (Δ2.set n (x.put (.dct (putD kvs (.inl i) d))))) :
  JS K (tAsg te (gSub (tVar n) ti rSetU)) Δ ⟨nx,rt,bk,ct,ro⟩:=Zr9 (h.mono λd Δ1 ⟨⟨x,ds,h1,h2⟩,h3⟩=>⟨⟨x,_,h1,h2⟩,h3⟩)
theorem Zcv {wi:TI}{t:TG}{tb:TS}(h:JI K wi Δ λds Δ1=>∃I:Nat->Evt->Prop,I 0 Δ1/\(∀i d Δ2,ds[i]?=some d->I i Δ2->JG K t d Δ2 λΔ3=>JS K tb Δ3 ⟨I (i+1),rt,nx,I (i+1),ro⟩)/\∀Δ2,I ds.length Δ2->nx Δ2) :
  JS K (tFor wi t tb) Δ ⟨nx,rt,bk,ct,ro⟩:=Zu1 h
theorem Zj7 {c:TT}{tb:TS}(I:Nat->Evt->Prop) (h0:∃m,I m Δ) (ht:∀m Δ1,I m Δ1->JT K c Δ1 λb Δ2=>if b=true then JS K tb Δ2 ⟨λΔ3=>∃m',m'<m/\I m' Δ3,rt,nx,λΔ3=>∃m',m'<m/\I m' Δ3,ro⟩ else nx Δ2) :
  JS K (tWhile c tb) Δ ⟨nx,rt,bk,ct,ro⟩:=Zpr I h0 ht
end
theorem Znx {α β:Type}{f:α -> β}{xs:List α}{i:Int}(h0:0<=i) (h1:i<(xs.length:Int)):∃c,xs[i.toNat]?=some c/\atI (xs.map f) i=some (f c):=by
 have hk:i.toNat<xs.length:=by omega
 have e:i=((i.toNat:Nat):Int):=by omega
 have q:xs[i.toNat]?=some xs[i.toNat]:=Waa hk;generalize xs[i.toNat]=c at q;refine⟨c,q,?_⟩;have z:atI (xs.map f) ((i.toNat:Nat):Int)=some (f c):=Zbk (by rw[Wad,q];rfl);rw[<- e]at z;exact z
theorem Zn1:bootBuiltins "abs" = some (.builtin "abs"):=by decide +kernel
theorem Za7:bootBuiltins "len" = some (.builtin "len"):=by decide +kernel
theorem Zkt:bootBuiltins "min" = some (.builtin "min"):=by decide +kernel
theorem Zni:bootBuiltins "max" = some (.builtin "max"):=by decide +kernel
theorem Zb3:bootBuiltins "isinstance" = some (.builtin "isinstance"):=by decide +kernel
theorem Zvx:bootBuiltins "all" = some (.builtin "all"):=by decide +kernel
theorem Zdn:bootBuiltins "sorted" = some (.builtin "sorted"):=by decide +kernel
theorem Zbg:bootBuiltins "tuple" = some (.type "tuple"):=by decide +kernel
theorem Zje:bootBuiltins "list" = some (.type "list"):=by decide +kernel
theorem Zra:bootBuiltins "set" = some (.type "set"):=by decide +kernel
theorem Zva:bootBuiltins "int" = some (.type "int"):=by decide +kernel
theorem Ztj:bootBuiltins "bool" = some (.type "bool"):=by decide +kernel
theorem Zu8:bootBuiltins "zip" = some (.type "zip"):=by decide +kernel
structure Callee (P:Program) (w:World) (K:W.Frag) (mg:Str->Option Value) (base:Heap) (k:Nat) (x:Str) (ps:List Str) (sp:Sp):Prop where
 ex:∃(f:Addr) (fd:FuncData),FnOk P w K mg base CX0 k f fd ps sp/\Binds K fd ps []/\W.keepIn K (.ref f)=true/\mg x=some (.ref f)
section
variable {X:Cx}{k:Nat}{x:Str}{ps:List Str}{sp:Sp}{e:Expr}{es:List Expr}{t:TA}{p pos:Pos}
theorem Za2 (C:Callee X.prog X.w X.K X.mg X.base k x ps sp) (hr:Room k X.A) (ha:PA X (e::es) t) (hg:Gl X x:=by rfl) (hdb:(x == ("__debug__":Str))=false:=by decide)
  (he:starEach (e::es) X.env=(false,eval e X.env)::starEach es X.env:=by rfl) (hpl:(backTo pos (starEach es X.env)).any (·.1)=false:=by rfl):PE X (.Call (.Name x p) (e::es) [] pos) (tCall sp [] E0 t):=by
 obtain⟨f,fd,F,b,kp,m⟩:=C.ex;exact Zse F hr hg m kp b .nil pass0 ha hdb he hpl
end
def fixD (sel:List Nat) (Δ:Evt):Evt:=sel.map λi=>(Δ[i]?).getD .any
theorem Zdv {n:Nat}{sel:List Nat}{ts Δ:Evt}(ht:ts.length=n):backD n sel (ts++fixD sel Δ) 0 Δ = Δ:=by
 apply Wb3;intro i;rw[Zc2];cases q:Δ[i]? with
 |none=>rfl
 |some x=>
  show some (backAt n sel (ts++fixD sel Δ) (0+i) x)=some x;congr 1;rw[Nat.zero_add];have key:∀j,sel.idxOf? i=some j->(ts++fixD sel Δ)[n+j]?=some x:=λj hj=>by
   rw[Way (by omega),ht,Wc4];unfold fixD;rw[Wad,Zd8 hj];show some ((Δ[i]?).getD .any)=_;rw[q];rfl
  unfold backAt;cases x with
  |any=>rfl
  |val d=>rfl
  |own o=>
   dsimp only;cases e:sel.idxOf? i with
   |none=>rfl
   |some j=>dsimp only;rw[key j e]
  |bor o=>
   dsimp only;cases e:sel.idxOf? i with
   |none=>rfl
   |some j=>dsimp only;rw[key j e]
  |ownA a o=>
   dsimp only;cases e:sel.idxOf? i with
   |none=>rfl
   |some j=>dsimp only;rw[key j e]
section
variable {K:W.Frag}{Δ:Evt}{P:D->Evt->Prop}
theorem Zbi {sel:List Nat}{wi:TI}{tc:TT}{te:TE}(hsel:sel.Nodup)
  (h:JI K wi Δ λds Δ1=>ds.length<sizeLine/\∃(p:D->Bool) (f:D->D),
   (∀(i:Nat) d,ds[i]?=some d->JT K tc (.val d::fixD sel Δ1) λb Δ4=>b=p d/\if b=true then JE K te Δ4 λe Δ5=>e=f d/\∃x,Δ5=x::fixD sel Δ1 else ∃x,Δ4=x::fixD sel Δ1) ∧
   P (.lst ((ds.filter p).map f)) Δ1):JE K (tComp 1 sel wi (gName 0) tc te) Δ P:=by
 refine Zkm hsel λg G H σ R k c=>h g G H σ R k λJ ds G' H' Δ' k' s' it ⟨z,p,f,ht,he⟩=>c J ds G' H' Δ' k' s' it ⟨z,fixD sel Δ',p,f,rfl,λi d ts hd hts=>?_,?_⟩
 ·refine Zeq (by decide) ?_
  obtain⟨x,rfl⟩:∃x,ts=[x]:=by
   match ts,hts with
   |[x],_=>exact⟨x,rfl⟩
  intro g G H σ Q k c;refine ht i d hd g G H σ Q k λb G1 H1 Δ1 k1 s1 ⟨e1,q⟩=>c b G1 H1 Δ1 k1 s1 ⟨e1,?_⟩;cases b with
  |true=>
   rw[if_pos rfl]at q ⊢;exact q.mono λe Δ5 ⟨e2,x,e3⟩=>⟨e2,[x],rfl,e3⟩
  |false=>
   rw[if_neg Was]at q ⊢;obtain⟨x,e3⟩:=q;exact⟨[x],rfl,e3⟩
 ·rw[Zdv (by simp)];exact he
theorem Zg6 {sel:List Nat}{wi:TI}{tc:TT}{te:TE}{Po:OD->Evt->Prop}(hsel:sel.Nodup)
  (h:JI K wi Δ λds Δ1=>ds.length<sizeLine/\∃(p:D->Bool) (f:D->D),
   (∀(i:Nat) d,ds[i]?=some d->JT K tc (.val d::fixD sel Δ1) λb Δ4=>b=p d/\if b=true then JE K te Δ4 λe Δ5=>e=f d/\∃x,Δ5=x::fixD sel Δ1 else ∃x,Δ4=x::fixD sel Δ1) ∧
   Po (.lst ((ds.filter p).map f)) Δ1):JO K (tComp 1 sel wi (gName 0) tc te) Δ Po:=by
 refine Znc hsel λg G H σ R k c=>h g G H σ R k λJ ds G' H' Δ' k' s' it ⟨z,p,f,ht,he⟩=>c J ds G' H' Δ' k' s' it ⟨z,λi ys Δ=>ys=((ds.take i).filter p).map f/\∃x,Δ = x::fixD sel Δ',⟨by simp,.any,rfl⟩,?_,?_⟩
 ·rintro i d ys Δ2 hd ⟨rfl,x,rfl⟩
  have tk:ds.take (i+1)=ds.take i++[d]:=by
   rw[Wcd,hd];rfl
  refine Zeq (by decide) ?_;intro g G H σ Q k c;refine ht i d hd g G H σ Q k λb G1 H1 Δ1 k1 s1 ⟨e1,q⟩=>c b G1 H1 Δ1 k1 s1 ?_;cases b with
  |true=>
   rw[if_pos rfl]at q ⊢;refine q.mono λe Δ5 ⟨e2,x,e3⟩=>⟨?_,x,e3⟩;rw[tk,Wcc,Wa1,Wb7,<- e1,e2];rfl
  |false=>
   rw[if_neg Was]at q ⊢;obtain⟨x,e3⟩:=q;refine⟨?_,x,e3⟩;rw[tk,Wcc,Wa1,Wb7,<- e1];simp
 ·rintro ys Δ2 ⟨rfl,x,rfl⟩
  rw[Wb5,show (x::fixD sel Δ')=[x]++fixD sel Δ' from rfl,Zdv (by simp)];exact he
theorem Zj3 {sel:List Nat}{wi:TI}{tc:TT}{te:TE}(hsel:sel.Nodup)
  (h:JI K wi Δ λds Δ1=>ds.length<sizeLine/\∃(p:D->Bool) (f:D->D),
   (∀(i:Nat) d,ds[i]?=some d->∃a b,d=.tup [a,b]/\JT K tc (.val a::.val b::fixD sel Δ1) λt Δ4=>t=p d/\if t=true then JE K te Δ4 λe Δ5=>e=f d/\∃x y,Δ5=x::y::fixD sel Δ1 else ∃x y,Δ4=x::y::fixD sel Δ1) ∧
   P (.lst ((ds.filter p).map f)) Δ1):JE K (tComp 2 sel wi (gTup K 2 (gCons (gName 0) (gCons (gName 1) gNil))) tc te) Δ P:=by
 refine Zkm hsel λg G H σ R k c=>h g G H σ R k λJ ds G' H' Δ' k' s' it ⟨z,p,f,ht,he⟩=>c J ds G' H' Δ' k' s' it ⟨z,fixD sel Δ',p,f,rfl,λi d ts hd hts=>?_,?_⟩
 ·obtain⟨a,b,rfl,hj⟩:=ht i d hd
  refine Zr2 rfl (Ziw (Zeq (by decide) (Ziw (Zeq (by decide) (Zpo ?_)))));obtain⟨x,y,rfl⟩:∃x y,ts=[x,y]:=by
   match ts,hts with
   |[x,y],_=>exact⟨x,y,rfl⟩
  intro g G H σ Q k c;refine hj g G H σ Q k λb G1 H1 Δ1 k1 s1 ⟨e1,q⟩=>c b G1 H1 Δ1 k1 s1 ⟨e1,?_⟩;cases b with
  |true=>
   rw[if_pos rfl]at q ⊢;exact q.mono λe Δ5 ⟨e2,x,y,e3⟩=>⟨e2,[x,y],rfl,e3⟩
  |false=>
   rw[if_neg Was]at q ⊢;obtain⟨x,y,e3⟩:=q;exact⟨[x,y],rfl,e3⟩
 ·rw[Zdv (by simp)];exact he
end
def tGhost (base:Nat) (t:TS):TS:=λE σ H=>t { E with nx:=λσ' H'=>∃σ2:St,σ2.length = σ'.length/\(∀i,i<base -> σ2[i]? = σ'[i]?)/\E.nx σ2 H' } σ H
theorem Zhu {X:Cx}{st:Stmt}{t:TS}(base:Nat) (hv:∀x∈X.N.drop base,X.env.scope.names.lookup x=none) (h:PS X st t):PS X st (tGhost base t):=by
 intro pins s σ H E I hw;refine thn (h pins s σ H _ I hw) λf s1 q=>?_;cases f with
 |next=>
  obtain⟨σ',H',I',σ2,hl,hs,q⟩:=q;refine⟨σ2,H',⟨I'.ok,I'.os,I'.bare,I'.base,?_,I'.cell,I'.free,I'.freeC,I'.pin,I'.hok,hl.trans I'.len⟩,q⟩;obtain⟨m,hn,hl'⟩:=I'.loc;refine⟨m,hn,λi x v e1 e2 e3=>?_⟩;by_cases hi:i<base
  ·rw[hs i hi]at e2;exact hl' i x v e1 e2 e3
  ·have hm:x∈X.N.drop base:=by
    refine Waq (i:=i-base) ?_;rw[Wd5,show base+(i-base)=i by omega];exact e1
   have z:=hv x hm;rcases e3 with w|w|w <;> (rw[z]at w;cases w)
 |ret v=>exact q
 |brk=>exact q
 |cont=>exact q
def Nest (K:W.Frag) (g:Gm) (G H:Hp) (σ:St) (Δ:Evt) (cs:List (Addr × HO)) (ods:List OD):Prop:=
 (cs.map (·.1)).Nodup/\Paired (λ(c:Addr × HO) (od:OD)=>OwnRep K G c.2 od) cs ods/\∀c∈cs,H c.1=some c.2/\G c.1=none/\g.Hz c.1=none/\g.Xo c.1=none/\∀(i:Nat) x od',Δ[i]?=some x->x.od=some od' -> σ[i]?≠some (some (.ref c.1))
def JN (K:W.Frag) (t:TE) (Δ:Evt) (P:List OD->Evt->Prop):Prop:=
 ∀g G H σ Q,Ok K g G H σ Δ -> (∀acc cs ods G' H' Δ',Ok K g G' H' σ Δ' -> Same G G' -> Rep K G' (.ref acc) (.lst (cs.map λ(c:Addr × HO)=>D.adr c.1))->g.Hz acc=none->Nest K g G' H' σ Δ' cs ods->P ods Δ' -> Q (.ref acc) H')->t σ H Q
section
variable {K:W.Frag}{Δ:Evt}
def cellAt (cs:List (Addr × HO)) (b:Addr):Option HO:=(cs.find? λc=>decide (c.1=b)).map (·.2)
theorem Zd2 {cs:List (Addr × HO)}{b:Addr}:cellAt cs b=none ↔ ∀c∈cs,c.1≠b:=by
 unfold cellAt;rw[Option.map_eq_none_iff,List.find?_eq_none];constructor
 ·intro h c hc e;exact h c hc (decide_eq_true e)
 ·intro h c hc e;exact h c hc (of_decide_eq_true e)
theorem Zgr {cs:List (Addr × HO)}(nd:(cs.map (·.1)).Nodup) {c:Addr × HO}(hc:c∈cs):cellAt cs c.1=some c.2:=by
 induction cs with
 |nil=>cases hc
 |cons d r ih=>
  rw[Wa3,Wca]at nd;unfold cellAt;rcases Wat.mp hc with e|hc
  ·subst e;simp
  ·have hne:d.1≠c.1:=λe=>nd.1 (by rw[e];exact Wav.mpr ⟨c,hc,rfl⟩)
   rw[Wct (by simpa using hne)];exact ih nd.2 hc
open Classical in
noncomputable def asideN (g:Gm) (sel:List Nat) (σ:St) (Δ:Evt) (H:Hp) (acc:Addr) (cs:List (Addr × HO)):Hp:=λb=>
 if b=acc then some (.lst (cs.map λc=>V.ref c.1)) else match cellAt cs b with
  |some o=>some o
  |none=>if ∃(i:Nat) (x:Slot) (od:OD),Δ[i]?=some x/\x.od=some od/\i ∉ sel /\ σ[i]?=some (some (.ref b)) then H b else g.Xo b
theorem Zc1 {g:Gm}{sel:List Nat}{σ:St}{Δ:Evt}{H:Hp}{acc:Addr}{cs:List (Addr × HO)}:asideN g sel σ Δ H acc cs acc=some (.lst (cs.map λc=>V.ref c.1)):=by unfold asideN;rw[if_pos rfl]
theorem Zcn {g:Gm}{sel:List Nat}{σ:St}{Δ:Evt}{H:Hp}{acc b:Addr}{o:HO}{cs:List (Addr × HO)}(hb:b≠acc) (e:cellAt cs b=some o):asideN g sel σ Δ H acc cs b=some o:=by unfold asideN;rw[if_neg hb,e]
theorem Zc0 {g:Gm}{sel:List Nat}{σ:St}{Δ:Evt}{H:Hp}{acc b:Addr}{cs:List (Addr × HO)}(hb:b≠acc) (e:cellAt cs b=none) (hx:∃(i:Nat) (x:Slot) (od:OD),Δ[i]?=some x/\x.od=some od/\i ∉ sel /\ σ[i]?=some (some (.ref b))):asideN g sel σ Δ H acc cs b=H b:=by
 unfold asideN;rw[if_neg hb,e];exact if_pos hx
theorem Zcq {g:Gm}{sel:List Nat}{σ:St}{Δ:Evt}{H:Hp}{acc b:Addr}{cs:List (Addr × HO)}(hb:b≠acc) (e:cellAt cs b=none) (hx:¬ ∃(i:Nat) (x:Slot) (od:OD),Δ[i]?=some x/\x.od=some od/\i ∉ sel /\ σ[i]?=some (some (.ref b))):asideN g sel σ Δ H acc cs b=g.Xo b:=by
 unfold asideN;rw[if_neg hb,e];exact if_neg hx
theorem Zsm {n:Nat}{sel:List Nat}{wi:TI}{t:TG}{tc:TT}{te:TE}{P:List OD->Evt->Prop}(hsel:sel.Nodup)
  (h:JI K wi Δ λds Δ1=>ds.length<sizeLine/\∃I:Nat->List OD->Evt->Prop,I 0 [] (compD n sel Δ1) ∧
   (∀i d ys Δ2,ds[i]?=some d->I i ys Δ2->JGn K n t d Δ2 λΔ3=>JT K tc Δ3 λb Δ4=>if b=true then JO K te Δ4 λe Δ5=>I (i+1) (ys++[e]) Δ5 else I (i+1) ys Δ4) ∧
   ∀ys Δ2,I ds.length ys Δ2->P ys (backD n sel Δ2 0 Δ1)):JN K (tComp n sel wi t tc te) Δ P:=λg G H σ Q k c=>
 h g G H σ _ k λJ ds G1 H1 Δ1 k1 s1 it ⟨hz,I,h0,ht,he⟩ acc hacc=>by
  have nacc:∀(i:Nat) x od,Δ1[i]?=some x->x.od=some od -> σ[i]?≠some (some (.ref acc)):=λi x od e1 e2 e3=>by
   obtain⟨a,o,w1,w2,_⟩:=k1.own i x od e1 e2;rw[e3]at w1;cases w1;rw[hacc]at w2;cases w2
  let Wd:Nat->St->Hp->Prop:=λi σ' H'=>i<=ds.length/\(∀j,n<=j -> σ'[j]?=(compSt n sel σ)[j]?)/\∃G ys cs Δi,cs.length<=i/\(cs.map (·.1)).Nodup/\(∀c∈cs,c.1≠acc/\g.Hz c.1=none/\g.Xo c.1=none/\∀(i:Nat) x od,Δ1[i]?=some x->x.od=some od->i ∉ sel -> σ[i]?≠some (some (.ref c.1)))/\Paired (λ(c:Addr × HO) (od:OD)=>OwnRep K G c.2 od) cs ys ∧
   Ok K ⟨g.B,G1,g.Hz,asideN g sel σ Δ1 H1 acc cs⟩ G H' σ' Δi/\I i ys Δi
  refine⟨λi m σ' H'=>m=ds.length-i/\Wd i σ' H',⟨ds.length,by simp,Wb2 _,λ_ _=>rfl,G1,[],[],compD n sel Δ1,Wah _,List.nodup_nil,λc hc=>(nomatch hc),.nil,?_,h0⟩,?_⟩
  ·refine Zgo hsel k1 hacc λb o e=>?_
   have e:asideN g sel σ Δ1 H1 acc [] b=some o:=e;by_cases hb:b=acc
   ·subst hb;rw[Zc1]at e;cases e;exact .inl ⟨rfl,rfl⟩
   ·by_cases hx:∃(i:Nat) (x:Slot) (od:OD),Δ1[i]?=some x/\x.od=some od/\i ∉ sel /\ σ[i]?=some (some (.ref b))
    ·rw[Zc0 hb rfl hx]at e;exact .inr ⟨hb,.inl ⟨hx,e⟩⟩
    ·rw[Zcq hb rfl hx]at e;exact .inr ⟨hb,.inr e⟩
  ·rintro i m σ2 H2 ⟨rfl,hi,hσ,G2,ys,cs,Δ2,hy,nd,hcs,ry,k2,h2⟩
   have s2:Same G1 G2:=k2.sub;obtain⟨stop,go⟩:=it G2 H2 s2 k2.live;by_cases hlt:i<ds.length
   ·obtain⟨g1,g2⟩:=go i _ (Waa hlt)
    refine .inr ⟨g1,λσ' H'=>Wd (i+1) σ' H',λσ' H' p'=>⟨ds.length-(i+1),by omega,rfl,p'⟩,λx H3 y=>?_⟩;obtain⟨G3,a1,a2,a3,a4⟩:=g2 x H3 y;have k3:=k2.grow a1 a2 a3;have hG3:∀b o,G3 b=some o->(g.Hz b=none\/G1 b=some o):=λb o q=>(k3.frz b o q).2;have k3':Ok K ⟨g.B,G3,g.Hz,asideN g sel σ Δ1 H1 acc cs⟩ G3 H3 σ2 Δ2:=⟨k3.same,k3.lent,Same.refl _,λb o q=>⟨(k3.frz b o q).1,.inr q⟩,k3.ext,k3.len,k3.val,k3.own,k3.dis⟩;have ry3:Paired (λ(c:Addr × HO) (od:OD)=>OwnRep K G3 c.2 od) cs ys:=Paired.mapP ry λ_ _ z=>z.mono a1;have s13:Same G1 G3:=s2.trans a1;refine ht i _ ys Δ2 (Waa hlt) h2 ⟨g.B,G3,g.Hz,asideN g sel σ Δ1 H1 acc cs⟩ G3 H3 σ2 x _ k3' a4 λσ4 G4 H4 Δ4 k4 s4 e4 p4=>?_;have hσ4:∀j,n<=j -> σ4[j]?=(compSt n sel σ)[j]?:=λj hj=>(e4 j hj).trans (hσ j hj);refine p4 _ G4 H4 σ4 _ k4 λb G5 H5 Δ5 k5 s5 p5=>?_;cases b with
    |false=>exact⟨hlt,hσ4,G5,ys,cs,Δ5,by omega,nd,hcs,Paired.mapP ry3 λ_ _ z=>z.mono (s4.trans s5),k5.base s13 hG3,p5⟩
    |true=>
     refine(show JO K te Δ5 _ from p5) _ G5 H5 σ4 _ k5 λa od G6 H6 Δ6 k6 s6 pd p6=>?_;have ry6:Paired (λ(c:Addr × HO) (od:OD)=>OwnRep K G6 c.2 od) cs ys:=Paired.mapP ry3 λ_ _ z=>z.mono (s4.trans (s5.trans s6));obtain⟨b1,b2,b3⟩:=k6.ext acc _ Zc1;obtain⟨oa,d1,d2,d3,d4,d5,d6⟩:=pd;have d5:asideN g sel σ Δ1 H1 acc cs a=none:=d5;have hane:a≠acc:=by intro z;subst z;rw[Zc1]at d5;cases d5
     have hac:cellAt cs a=none:=by
      cases q:cellAt cs a with
      |none=>rfl
      |some o=>rw[Zcn hane q]at d5;cases d5
     have hax:∀(i:Nat) x od,Δ1[i]?=some x->x.od=some od->i ∉ sel -> σ[i]?≠some (some (.ref a)):=λi x od e1 e2 e3 e4=>by
      rw[Zc0 hane hac ⟨i,x,od,e1,e2,e3,e4⟩]at d5;obtain⟨a',o',w1,w2,_⟩:=k1.own i x od e1 e2;rw[e4]at w1;cases w1;rw[d5]at w2;cases w2
     have hagx:g.Xo a=none:=by
      rw[Zcq hane hac (λ⟨i,x,od,e1,e2,e3,e4⟩=>hax i x od e1 e2 e3 e4)]at d5;exact d5
     have hnm:=Zd2.mp hac;refine⟨cs.map λc=>V.ref c.1,b1,by rw[Wab];omega,hlt,hσ4,G6,ys++[od],cs++[(a,oa)],Δ6,by rw[Wao,Wbb];omega,?_,λc hc=>?_,Paired.snoc ry6 d2,?_,p6⟩
     ·rw[Wa1]
      refine Wcz.mpr ⟨nd,by simp,λx hx y hy=>?_⟩;rw[List.map_singleton,Waz]at hy;subst hy;obtain⟨c,hc,rfl⟩:=Wav.mp hx;exact hnm c hc
     ·rcases Wbl.mp hc with hc|hc
      ·exact hcs c hc
      ·rw[Waz.mp hc];exact⟨hane,d4,hagx,hax⟩
     ·have k7:=k6.base s13 hG3
      have nd':((cs++[(a,oa)]).map (·.1)).Nodup:=by
       rw[Wa1];refine Wcz.mpr ⟨nd,by simp,λx hx y hy=>?_⟩;rw[List.map_singleton,Waz]at hy;subst hy;obtain⟨c,hc,rfl⟩:=Wav.mp hx;exact hnm c hc
      have er:(cs++[(a,oa)]).map (λc=>V.ref c.1)=(cs.map λc=>V.ref c.1)++[V.ref a]:=by simp
      have oldH:∀b o,b≠acc->H6 b=some o->(upd H6 acc (.lst ((cs.map λc=>V.ref c.1)++[V.ref a]))) b=some o:=λb o hb e=>by rw[Zao hb];exact e
      refine⟨λb o hb e=>?_,λb hb=>?_,k7.sub,λb o e=>?_,λb o e=>?_,k7.len,k7.val,λi x od e1 e2=>?_,k7.dis⟩
      ·have hne:b≠acc:=by
        intro z;subst z;have e:g.Hz b=some o:=e;rw[k1.there hacc]at e;cases e
       exact oldH b o hne (k7.same b o hb e)
      ·by_cases hne:b=acc
       ·subst hne;rw[Zan];intro z;cases z
       ·rw[Zao hne];exact k7.lent b hb
      ·have hne:b≠acc:=by intro z;subst z;rw[b2]at e;cases e
       exact⟨oldH b o hne (k7.frz b o e).1,(k7.frz b o e).2⟩
      ·have e:asideN g sel σ Δ1 H1 acc (cs++[(a,oa)]) b=some o:=e
       by_cases hne:b=acc
       ·subst hne
        rw[Zc1,er]at e;cases e;exact⟨Zan,b2,b3⟩
       ·by_cases hba:b=a
        ·subst hba
         rw[Zcn hne (Zgr nd' (c:=(b,oa)) (Wa8 _ (Waz.mpr rfl)))]at e;cases e;exact⟨oldH b _ hne d1,d3,d6⟩
        ·have ec:cellAt (cs++[(a,oa)]) b=cellAt cs b:=by
          unfold cellAt;rw[List.find?_append];cases (cs.find? λc=>decide (c.1=b)) with
          |some c=>rfl
          |none=>
           rw[Wct (by simpa using Ne.symm hba)];rfl
         have e':asideN g sel σ Δ1 H1 acc cs b=some o:=by
          cases q:cellAt cs b with
          |some o'=>rw[Zcn hne (ec.trans q)]at e;rw[Zcn hne q];exact e
          |none=>
           by_cases hx:∃(i:Nat) (x:Slot) (od:OD),Δ1[i]?=some x/\x.od=some od/\i ∉ sel /\ σ[i]?=some (some (.ref b))
           ·rw[Zc0 hne (ec.trans q) hx]at e;rw[Zc0 hne q hx];exact e
           ·rw[Zcq hne (ec.trans q) hx]at e;rw[Zcq hne q hx];exact e
         obtain⟨w1,w2,w3⟩:=k7.ext b o e';exact⟨oldH b o hne w1,w2,w3⟩
      ·obtain⟨a',o,w1,w2,w3,w4,w5⟩:=k7.own i x od e1 e2
       have hne:a'≠acc:=by intro z;subst z;exact b3 i x od e1 e2 w1
       exact⟨a',o,w1,oldH a' o hne w2,w3,w4,w5⟩
   ·have e:i=ds.length:=by omega
    subst e;refine .inl ⟨stop,?_⟩;obtain⟨b1,b2,b3⟩:=k2.ext acc _ Zc1;have src:=Zhv (Δ1:=Δ1) (Δ2:=Δ2) hσ;have k9:Ok K g G2 H2 σ (backD n sel Δ2 0 Δ1):=Zf1 k1 hacc k2 hσ (λb o hb hx e=>by
      show asideN g sel σ Δ1 H1 acc cs b=_;rw[Zc0 hb (Zd2.mpr λc hc z=>?_) hx]
      ·exact e
      ·obtain⟨i0,x0,od0,f1,f2,f3,f4⟩:=hx
       exact(hcs c hc).2.2.2 i0 x0 od0 f1 f2 f3 (by rw[z];exact f4)) (λb o hb hx e=>by
      show asideN g sel σ Δ1 H1 acc cs b=_;rw[Zcq hb (Zd2.mpr λc hc z=>?_) hx]
      ·exact e
      ·have:=(hcs c hc).2.2.1;rw[z,e]at this;cases this)
    -- the outer list is frozen
    have nslot:∀(i:Nat) y od,(backD n sel Δ2 0 Δ1)[i]?=some y->y.od=some od -> σ[i]?≠some (some (.ref acc)):=λi y od e1 e2=>by
     obtain⟨x',od1,f1,f2,_⟩:=src i y od e1 e2;exact nacc i x' od1 f1 f2
    have refs:∀{G:Hp}(l:List (Addr × HO)),Reps K G (l.map λc=>V.ref c.1) (l.map λc=>D.adr c.1):=λ{G} l=>by
     induction l with
     |nil=>exact .nil
     |cons c r ih=>exact .cons (.adr _) ih
    have gX:g.Xo acc=none:=by
     cases q:g.Xo acc with
     |none=>rfl
     |some u=>have z:=(k1.ext acc u q).1;rw[hacc]at z;cases z
    obtain⟨kf,sf,rf⟩:=k9.freeze (a:=acc) (ds:=cs.map λ(c:Addr × HO)=>D.adr c.1) (vs:=cs.map λ(c:Addr × HO)=>V.ref c.1) ⟨_,b1,(show Reps K G2 (cs.map λ(c:Addr × HO)=>V.ref c.1) (cs.map λ(c:Addr × HO)=>D.adr c.1) from refs cs),b2,k1.there hacc,gX,nslot⟩ b1;refine c acc cs ys _ H2 _ kf (s1.trans (s2.trans sf)) rf (k1.there hacc) ⟨nd,Paired.mapP ry λ_ _ z=>z.mono sf,λcc hc=>?_⟩ (he ys Δ2 h2);obtain⟨f1,f2,f3,f4⟩:=hcs cc hc;obtain⟨u1,u2,u3⟩:=k2.ext cc.1 cc.2 (Zcn f1 (Zgr nd hc));refine⟨u1,by rw[Zao f1];exact u2,f2,f3,λi y od e1 e2 e3=>?_⟩;obtain⟨x,od',w1,w2,w3⟩:=src i y od e1 e2;rcases w3 with ⟨w3,w4⟩|⟨j,w3,w4,w5⟩
    ·exact f4 i x od' w1 w2 w4 e3
    ·exact u3 (n+j) y od w4 e2 (by rw[w5,e3];rfl)
def putN:Nat->List (Addr × OD)->Evt->Evt
 |_,[],Δ=>Δ
 |b,c::r,Δ=>putN (b+1) r (Δ.set b (.ownA c.1 c.2))
def putS:Nat->List Addr->St->St
 |_,[],σ=>σ
 |b,a::r,σ=>putS (b+1) r (σ.set b (some (.ref a)))
theorem Zk1:∀(as:List Addr) (b:Nat) (σ:St),(putS b as σ).length = σ.length
 |[],_,_=>rfl
 |a::r,b,σ=>by rw[putS,Zk1 r (b+1),Wby]
theorem Zgt:∀(as:List Addr) (b:Nat) (σ:St) (i:Nat),i<b->(putS b as σ)[i]? = σ[i]?
 |[],_,_,_,_=>rfl
 |a::r,b,σ,i,h=>by rw[putS,Zgt r (b+1) _ i (by omega),Wam (by omega)]
theorem Ok.setOwnA {g:Gm}{G H:Hp}{σ:St}(k:Ok K g G H σ Δ) {a:Addr}{od:OD}{i:Nat}(hi:i < Δ.length) (p:Pend K g G H σ Δ a od):Ok K g G H (σ.set i (some (.ref a))) (Δ.set i (.ownA a od)):=by
 have k1:=k.setOwn hi p;obtain⟨o,p1,p2,p3,p4,p5,p6⟩:=p;have hs:i < σ.length:=by rw[<- k.len];exact hi
 have old:∀(j:Nat) x,j≠i->(Δ.set i (.ownA a od))[j]?=some x->(Δ.set i (.own od))[j]?=some x:=λj x hj e=>by
  rw[Wam (Ne.symm hj)]at e ⊢;exact e
 have cv:∀(j:Nat) x od',(Δ.set i (.ownA a od))[j]?=some x->x.od=some od' -> ∃y,(Δ.set i (.own od))[j]?=some y/\y.od=some od':=λj x od' e1 e2=>by
  by_cases hj:j=i
  ·subst hj
   rw[Wai hi]at e1;cases e1;cases e2;exact⟨.own od,Wai hi,rfl⟩
  ·exact⟨x,old j x hj e1,e2⟩
 refine⟨k1.same,k1.lent,k1.sub,k1.frz,λb u e=>?_,by simp[k.len],λj d e=>?_,λj x od' e1 e2=>?_,λj l x y od1 od2 c e1 e2 e3 e4 e5 e6=>?_⟩
 ·obtain⟨h1,h2,h3⟩:=k1.ext b u e
  refine⟨h1,h2,λj x od' e1 e2=>?_⟩;obtain⟨y,f1,f2⟩:=cv j x od' e1 e2;exact h3 j y od' f1 f2
 ·by_cases hj:j=i
  ·subst hj
   rw[Wai hi]at e;cases e
  ·exact k1.val j d (old j _ hj e)
 ·by_cases hj:j=i
  ·subst hj
   rw[Wai hi]at e1;cases e1;cases e2;exact⟨a,o,Wai hs,p1,p2,p3,rfl,p4⟩
  ·exact k1.own j x od' (old j x hj e1) e2
 ·obtain⟨x',f1,f2⟩:=cv j x od1 e1 e2
  obtain⟨y',f3,f4⟩:=cv l y od2 e3 e4;exact k1.dis j l x' y' od1 od2 c f1 f2 f3 f4 e5 e6
theorem Ok.putN {g:Gm}{G H:Hp}:∀(cs:List (Addr × HO)) (ods:List OD) (b:Nat) (σ:St) (Δ:Evt),Ok K g G H σ Δ -> b+ods.length <= Δ.length->Nest K g G H σ Δ cs ods →
  Ok K g G H (putS b (cs.map (·.1)) σ) (L2.putN b ((cs.map (·.1)).zip ods) Δ)
 |[],[],_,_,_,k,_,_=>k
 |[],_::_,_,_,_,_,_,n=>by cases n.2.1
 |_::_,[],_,_,_,_,_,n=>by cases n.2.1
 |c::cs,od::ods,b,σ,Δ,k,hl,⟨nd,pr,al⟩=>by
  cases pr with
  |cons r t=>
   obtain⟨h1,h2,h3,h4,h5⟩:=al c Wa0;rw[Wa3,Wca]at nd;have hb:b < Δ.length:=by rw[War]at hl;omega
   have k1:=k.setOwnA hb ⟨c.2,h1,r,h2,h3,h4,h5⟩;refine Ok.putN cs ods (b+1) _ _ k1 (by rw[Wby];rw[War]at hl;omega) ⟨nd.2,t,λd hd=>?_⟩;obtain⟨f1,f2,f3,f4,f5⟩:=al d (Wax _ hd);have hne:d.1≠c.1:=λe=>nd.1 (by rw[<- e];exact Wav.mpr ⟨d,hd,rfl⟩);refine⟨f1,f2,f3,f4,λj x od' e1 e2=>?_⟩;by_cases hj:j=b
   ·subst hj
    rw[Wai (by rw[<- k.len];exact hb)];intro z;have:c.1=d.1:=by
     have z1:=Wa4.inj (Wa4.inj z);injection z1
    exact hne this.symm
   ·rw[Wam (Ne.symm hj)]at e1 ⊢
    exact f5 j x od' e1 e2
theorem Zi0:∀(l:List (Addr × OD)) (R T:Evt) (m:Nat),l.length<=m->L2.putN R.length l (R++Waj m Slot.any++T)=R++l.map (λc=>Slot.ownA c.1 c.2)++Waj (m-l.length) Slot.any++T
 |[],R,T,m,_=>by simp[L2.putN]
 |c::r,R,T,m,h=>by
  obtain⟨m',rfl⟩:∃m',m=m'+1:=⟨m-1,by rw[War]at h;omega⟩;have e:(R++Waj (m'+1) Slot.any++T).set R.length (.ownA c.1 c.2)=(R++[.ownA c.1 c.2])++Waj m' Slot.any++T:=by
   rw[Wdz];simp[Wds]
  rw[L2.putN,e];have:=Zi0 r (R++[.ownA c.1 c.2]) T m' (by rw[War]at h;omega);rw[Wao,Wbb]at this;rw[this];simp
theorem Zjd {te:TE}{i base:Nat}{nx bk ct:Evt->Prop}{rt:D->Evt->Prop}{ro:OD->Evt->Prop}
  (h:JN K te Δ λods Δ1=>i<base/\base+ods.length <= Δ1.length/\∀as:List Addr,as.length=ods.length->as.Nodup->nx (L2.putN base (as.zip ods) (Δ1.set i (.val (.lst (as.map D.adr)))))) :
  JS K (tGhost base (tAsg te (gName i))) Δ ⟨nx,rt,bk,ct,ro⟩:=λg G H σ E k c=>
 h g G H σ _ k λacc cs ods G1 H1 Δ1 k1 s1 rr _ nn hq_=>by
  obtain⟨hi,hb,p⟩:=hq_;have hl:cs.length=ods.length:=Paired.length nn.2.1;have e0:(cs.map λc=>D.adr c.1)=(cs.map (·.1)).map D.adr:=by rw[Wan];rfl
  have k2:=k1.setVal' i rr;have n2:Nest K g G1 H1 (σ.set i (some (.ref acc))) (Δ1.set i (.val (.lst (cs.map λc=>D.adr c.1)))) cs ods:=by
   obtain⟨nd,pr,al⟩:=nn;refine⟨nd,pr,λd hd=>?_⟩;obtain⟨f1,f2,f3,f4,f5⟩:=al d hd;refine⟨f1,f2,f3,f4,λj x od' e1 e2=>?_⟩;by_cases hj:j=i
   ·subst hj
    by_cases hlt:j < Δ1.length
    ·rw[Wai hlt]at e1;cases e1;cases e2
    ·rw[Wcj (by rw[Wby];omega)]at e1;cases e1
   ·rw[Wam (Ne.symm hj)]at e1 ⊢
    exact f5 j x od' e1 e2
  have k3:=Ok.putN cs ods base _ _ k2 (by rw[Wby];exact hb) n2;refine⟨putS base (cs.map (·.1)) (σ.set i (some (.ref acc))),Zk1 _ _ _,λj hj=>Zgt _ _ _ j hj,?_⟩;rw[e0]at k3;exact c.nx _ G1 H1 _ k3 (p (cs.map (·.1)) (by rw[Wab,hl]) nn.1)
theorem Zhw {n j:Nat}{a:Addr}{ds:List D}{P:D->Evt->Prop}(hx:Δ[n]?=some (.val (.adr a))) (hj:Δ[j]?=some (.ownA a (.lst ds))) (p:P (.int ds.length) Δ):JE K (tCB (rLenU K) (tCons (tVar n) tNil)) Δ P:=λg G H σ Q k c=>by
 obtain⟨v,h1,h2⟩:=k.val n _ hx;cases h2;obtain⟨a',o,w1,w2,w3,w4,w5⟩:=k.own j _ _ hj rfl;obtain⟨rfl,_⟩:=w5;cases o with
 |lst vs=>
  have w3:Reps K G vs ds:=w3;refine⟨_,h1,.inl ⟨_,vs,rfl,.inl (SqL.of w2),?_⟩⟩;rw[w3.length];exact c _ _ G H Δ k (Same.refl _) (.int _) p
 |_=>exact absurd w3 (λz=>z)
theorem Znn {n:Nat}{t1 t2:TE}{a:Addr}{j0:Nat}{ds0:List D}{nx bk ct:Evt->Prop}{rt:D->Evt->Prop}{ro:OD->Evt->Prop}(hx:Δ[n]?=some (.val (.adr a))) (hj0:Δ[j0]?=some (.ownA a (.lst ds0)))
  (h:JE K t1 Δ λe1 Δ1=>JE K t2 Δ1 λe2 Δ2=>∃j i ds,e1=.int i /\ Δ2[j]?=some (.ownA a (.lst ds))/\ds.length<sizeLine /\ -(2 ^ 62)<=i/\i<2 ^ 62/\nx (Δ2.set j (.ownA a (.lst (ds.take (insI ds.length i)++e2::ds.drop (insI ds.length i)))))) :
  JS K (tDrop (tBM K "list" rInsert (tVar n) (tCons t1 (tCons t2 tNil)))) Δ ⟨nx,rt,bk,ct,ro⟩:=λg G H σ E k c=>by
 obtain⟨v,h1,h2⟩:=k.val n _ hx;cases h2;obtain⟨a',o,w1,w2,w3,w4,w5⟩:=k.own j0 _ _ hj0 rfl;obtain⟨rfl,_⟩:=w5;cases o with
 |lst vs0=>
  refine⟨_,h1,.inl ⟨rfl,_,SqL.of w2⟩,h g G H σ _ k λv1 e1 G1 H1 Δ1 k1 s1 r1 p1=>p1 g G1 H1 σ _ k1 λv2 e2 G2 H2 Δ2 k2 s2 r2 ⟨j,i,ds,q1,q2,q3,q4,q5,p⟩=>?_⟩;subst q1;cases r1.inv;obtain⟨a2,o2,u1,u2,u3,u4,u5⟩:=k2.own j _ _ q2 rfl;obtain⟨rfl,_⟩:=u5;cases o2 with
  |lst vs=>
   have u3:Reps K G2 vs ds:=u3;refine⟨_,vs,i,v2,rfl,rfl,u2,by rw[u3.length];exact q3,q4,q5,?_⟩;have k3:=k2.write q2 rfl u1 (show OwnRep K G2 (.lst (vs.take (insI vs.length i)++v2::vs.drop (insI vs.length i))) (.lst (ds.take (insI ds.length i)++e2::ds.drop (insI ds.length i))) from by
    rw[u3.length];exact(u3.take _).append (.cons r2 (u3.drop _)))
   exact c.nx σ G2 _ _ k3 p
  |_=>exact absurd u3 (λz=>z)
 |_=>exact absurd w3 (λz=>z)
theorem JS.conv {t:TS}{Δ':Evt}{P:Pst}(hc:∀g G H σ,Ok K g G H σ Δ -> ∃G',Same G G' /\ Ok K g G' H σ Δ') (h:JS K t Δ' P):JS K t Δ P:=λg G H σ E k c=>by
 obtain⟨G',s,k'⟩:=hc g G H σ k;exact h g G' H σ E k' c
theorem Ok.freezeA {g:Gm}{G H:Hp}{σ:St}(k:Ok K g G H σ Δ) {i:Nat}{a:Addr}{ds:List D}(h:Δ[i]?=some (.ownA a (.lst ds))):∃G',Same G G' /\ Ok K g G' H σ (Δ.set i .any)/\Rep K G' (.ref a) (.lst ds):=by
 obtain⟨a',o,w1,w2,w3,w4,w5⟩:=k.own i _ _ h rfl;obtain⟨rfl,w6⟩:=w5;cases o with
 |lst vs=>
  have pd:Pend K g G H σ (Δ.set i .any) a (.lst ds):=by
   refine⟨.lst vs,w2,w3,w4,w6,?_,λj x od' e1 e2 e3=>?_⟩
   ·cases q:g.Xo a with
    |none=>rfl
    |some u=>exact absurd w1 ((k.ext a u q).2.2 i _ _ h rfl)
   ·by_cases hj:j=i
    ·subst hj
     rw[Wd7]at e1;simp at e1;obtain⟨_,e1⟩:=e1;subst e1;cases e2
    ·rw[Wam (Ne.symm hj)]at e1
     exact hj (k.dis j i x _ od' _ a e1 e2 h rfl e3 w1)
  obtain⟨k2,sg,r⟩:=(k.drop i).freeze pd w2;exact⟨_,sg,k2,r⟩
 |_=>exact absurd w3 (λz=>z)
theorem Ok.freezeN {g:Gm}{H:Hp}{σ:St}:∀(cs:List (Addr × List D)) (R T:Evt) (G:Hp),Ok K g G H σ (R++cs.map (λc=>Slot.ownA c.1 (.lst c.2))++T) →
  ∃G',Same G G' /\ Ok K g G' H σ (R++Waj cs.length .any++T)/\∀c∈cs,Rep K G' (.ref c.1) (.lst c.2)
 |[],R,T,G,k=>⟨G,Same.refl _,by simpa using k,λc hc=>nomatch hc⟩
 |c::r,R,T,G,k=>by
  have hi:(R++(c::r).map (λc=>Slot.ownA c.1 (.lst c.2))++T)[R.length]?=some (.ownA c.1 (.lst c.2)):=by simp
  obtain⟨G1,s1,k1,r1⟩:=k.freezeA hi;have e:(R++(c::r).map (λc=>Slot.ownA c.1 (.lst c.2))++T).set R.length .any=(R++[.any])++r.map (λc=>Slot.ownA c.1 (.lst c.2))++T:=by
   simp[Wds]
  rw[e]at k1;obtain⟨G2,s2,k2,r2⟩:=Ok.freezeN r (R++[.any]) T G1 k1;refine⟨G2,s1.trans s2,?_,λd hd=>?_⟩
  ·have e2:(R++[Slot.any])++Waj r.length Slot.any++T=R++Waj (c::r).length Slot.any++T:=by
    rw[War,Wdz];simp
   rw[e2]at k2;exact k2
  ·rcases Wat.mp hd with e|hd
   ·subst e;exact r1.mono s2
   ·exact r2 d hd
theorem Ok.thaw {g:Gm}{G H:Hp}{σ:St}{cs:List (Addr × List D)}{R T:Evt}{i:Nat}(k:Ok K g G H σ (R++cs.map (λc=>Slot.ownA c.1 (.lst c.2))++T)) (hi:R[i]?=some (.val (.lst (cs.map λc=>D.adr c.1)))) :
  ∃G',Same G G' /\ Ok K g G' H σ (R.set i (.val (.lst (cs.map λc=>D.lst c.2)))++Waj cs.length .any++T):=by
 have hlt:i<R.length:=(Waf.mp hi).1;obtain⟨v,h1,h2⟩:=k.val i _ (by rw[Wbq,Wbc hlt];exact hi);obtain⟨G1,s1,k1,r1⟩:=Ok.freezeN cs R T G k;refine⟨G1,s1,?_⟩;have rr:Rep K G1 v (.lst (cs.map λc=>D.lst c.2)):=by
  cases h2 with
  |lst ha rs=>
   refine .lst (s1 _ _ ha) ?_;have key:∀(l:List (Addr × List D)) (vs:List V),(∀c∈l,Rep K G1 (.ref c.1) (.lst c.2))->Reps K G vs (l.map λc=>D.adr c.1)->Reps K G1 vs (l.map λc=>D.lst c.2):=by
    intro l
    induction l with
    |nil=>intro vs _ h;cases h;exact .nil
    |cons c r ih=>
     intro vs hc h;cases h with
     |cons h1 h2=>
      cases h1;exact .cons (hc c Wa0) (ih _ (λd hd=>hc d (Wax _ hd)) h2)
   exact key cs _ r1 rs
 have k2:=k1.setVal' i rr;have e1:σ.set i (some v) = σ:=by
  apply Wb3;intro j;by_cases hj:j=i
  ·subst hj;rw[Wai (by obtain⟨z,_⟩:=Waf.mp h1;exact z),h1]
  ·rw[Wam (Ne.symm hj)]
 rw[e1]at k2;have e2:(R++Waj cs.length Slot.any++T).set i (.val (.lst (cs.map λc=>D.lst c.2)))=R.set i (.val (.lst (cs.map λc=>D.lst c.2)))++Waj cs.length Slot.any++T:=by
  rw[Wbq,Wbq,Wdx _ _ hlt]
 rw[e2]at k2;exact k2
end
section
variable {X:Cx}(K:W.Frag)
theorem ixK (hu:X.A.units+1<cLine) (hK:X.K=K:=by rfl):IxR X (rIxU K):=hK ▸ ixU hu
theorem slK (hK:X.K=K:=by rfl):SlR X (rSlU K):=hK ▸ slU
theorem addK (hK:X.K=K:=by rfl):OpR X (binaryOp .Add) (rAddU K):=hK ▸ Zrz
theorem lenK (hK:X.K=K:=by rfl):CallR X (.builtin "len") (rLenU K):=hK ▸ Zmk
def rTup (K:W.Frag):List V->Hp->VK->Prop:=λxs H Q=>∃p ys,xs=[.ref p]/\((SqL K H p ys/\∀l,H l=none->Q (.ref l) (upd H l (.tup ys)))\/(SqT K H p ys/\Q (.ref p) H))
theorem tupK (hK:X.K=K:=by rfl):CallR X (.type "tuple") (rTup K):=hK ▸ Zhq
def rLst (K:W.Frag):List V->Hp->VK->Prop:=λxs H Q=>∃p ys,xs=[.ref p]/\(SqL K H p ys\/SqT K H p ys)/\∀l,H l=none->Q (.ref l) (upd H l (.lst ys))
theorem lstK (hK:X.K=K:=by rfl):CallR X (.type "list") (rLst K):=hK ▸ Zik
theorem idxK (hK:X.K=K:=by rfl):MtM X "tuple.index" (rIndexT K):=hK ▸ Zgg
theorem seqK {tg l:Expr}{tl:TE}(hl:PE X l tl) (hK:X.K=K:=by rfl):PI X tg l (iSeq K tl):=hK ▸ Zt9 hl
theorem truK {a:Expr}{ta:TE}(ha:PE X a ta) (he:∀whole,isTrue a X.env whole=(do let v ← whole;standAt a.pos;holding [v] (truthy v))) (hK:X.K=K:=by rfl):PT X a (tTru K ta):=hK ▸ Zvs ha he
theorem gtupK {es:List Expr}{k:Nat}{t:TGs}{n:Nat}{pos:Pos}(hc:X.calm=true) (h:PGs X es t)
  (hn:(assignEach es X.env).length=n:=by rfl) (hst:(assignEach es X.env).findIdx? (·.1)=none:=by rfl) (hK:X.K=K:=by rfl):PG X (.Tuple es k pos) (gTup K n t):=hK ▸ Zt8 hc h hn hst
variable {o e:Expr}{es:List Expr}{to:TE}{t:TA}{name:Str}{apos cpos:Pos}{T id:String}{r:V->List V->Hp->VK->Prop}
theorem bm0K (pa:PlainAttrs T) (slot:PySem.Slot T name id) (hty:typeOf (.builtin id)=pure (.type "method_descriptor")) (hm:MtR X id r) (ho:PE X o to)
  (hbase:attributeBase o name X.env (eval o X.env)=eval o X.env:=by rfl) (hline:(apos.endLine == cpos.line)=true:=by rfl) (hK:X.K=K:=by rfl):PE X (.Call (.Attribute o name apos) [] [] cpos) (tBM0 K T r to):=hK ▸ Zvz pa slot hty hm ho hbase hline
theorem bmK (pa:PlainAttrs T) (slot:PySem.Slot T name id) (hty:typeOf (.builtin id)=pure (.type "method_descriptor")) (hm:MtR X id r) (ho:PE X o to) (ha:PA X (e::es) t)
  (hbase:attributeBase o name X.env (eval o X.env)=eval o X.env:=by rfl)
  (hfew:((backTo cpos (starEach (e::es) X.env)).all (λx=>!x.1) && (backToKw cpos (keywordEach [] X.env)).all (λx=>x.1.isSome)
   && decide ((e::es).length+([]:List Keyword).length+(if ([]:List Keyword).isEmpty then 0 else 1)<30))=true:=by rfl)
  (hline:(apos.endLine == cpos.line)=true:=by rfl) (hs:starEach (e::es) X.env=(false,eval e X.env)::starEach es X.env:=by rfl) (hplain:(backTo cpos (starEach es X.env)).any (·.1)=false:=by rfl) (hK:X.K=K:=by rfl) :
  PE X (.Call (.Attribute o name apos) (e::es) [] cpos) (tBM K T r to t):=hK ▸ Zwh pa slot hty hm ho ha hbase hfew hline hs hplain
end
section
variable {K:W.Frag}{Δ:Evt}{P:D->Evt->Prop}
theorem Zcb {ds es:List D}(he:ds=[.lst es]\/ds=[.tup es]) (p:P (.tup es) Δ):JC K (rTup K) ds Δ P:=Zp8 he p
theorem Zrc {ds es:List D}(he:ds=[.lst es]\/ds=[.tup es]) (p:P (.lst es) Δ):JC K (rLst K) ds Δ P:=λg G H σ Q vs k rs c=>by
 rcases he with he|he <;> subst he
 ·obtain⟨_,_,rfl,r,t⟩:=rs.inv
  next=>
   cases t.inv;obtain⟨_,_,rfl,ha,rs⟩:=r.inv
   next=>
    refine⟨_,_,rfl,.inl (SqL.of (k.live _ _ ha)),λl hl=>?_⟩;obtain⟨k2,sg⟩:=k.laid hl (.lst _);exact c _ _ _ _ Δ k2 sg (.lst Zan (rs.mono sg)) p
 ·obtain⟨_,_,rfl,r,t⟩:=rs.inv
  next=>
   cases t.inv;obtain⟨_,_,rfl,ha,rs⟩:=r.inv
   next=>
    refine⟨_,_,rfl,.inr (SqT.of (k.live _ _ ha)),λl hl=>?_⟩;obtain⟨k2,sg⟩:=k.laid hl (.lst _);exact c _ _ _ _ Δ k2 sg (.lst Zan (rs.mono sg)) p
theorem Zg5 {sel:List Nat}{wi:TI}{tc:TT}{te:TE}{Po:List OD->Evt->Prop}(hsel:sel.Nodup)
  (h:JI K wi Δ λds Δ1=>ds.length<sizeLine/\∃(p:D->Bool) (f:D->OD),
   (∀(i:Nat) d,ds[i]?=some d->JT K tc (.val d::fixD sel Δ1) λb Δ4=>b=p d/\if b=true then JO K te Δ4 λe Δ5=>e=f d/\∃x,Δ5=x::fixD sel Δ1 else ∃x,Δ4=x::fixD sel Δ1) ∧
   Po ((ds.filter p).map f) Δ1):JN K (tComp 1 sel wi (gName 0) tc te) Δ Po:=by
 refine Zsm hsel λg G H σ R k c=>h g G H σ R k λJ ds G' H' Δ' k' s' it ⟨z,p,f,ht,he⟩=>c J ds G' H' Δ' k' s' it ⟨z,λi ys Δ=>ys=((ds.take i).filter p).map f/\∃x,Δ = x::fixD sel Δ',⟨by simp,.any,rfl⟩,?_,?_⟩
 ·rintro i d ys Δ2 hd ⟨rfl,x,rfl⟩
  have tk:ds.take (i+1)=ds.take i++[d]:=by
   rw[Wcd,hd];rfl
  refine Zeq (by decide) ?_;intro g G H σ Q k c;refine ht i d hd g G H σ Q k λb G1 H1 Δ1 k1 s1 ⟨e1,q⟩=>c b G1 H1 Δ1 k1 s1 ?_;cases b with
  |true=>
   rw[if_pos rfl]at q ⊢;intro g G H σ Q k c;refine q g G H σ Q k λa od G2 H2 Δ2 k2 s2 pd ⟨e2,x,e3⟩=>c a od G2 H2 Δ2 k2 s2 pd ⟨?_,x,e3⟩;rw[tk,Wcc,Wa1,Wb7,<- e1,e2];rfl
  |false=>
   rw[if_neg Was]at q ⊢;obtain⟨x,e3⟩:=q;refine⟨?_,x,e3⟩;rw[tk,Wcc,Wa1,Wb7,<- e1];simp
 ·rintro ys Δ2 ⟨rfl,x,rfl⟩
  rw[Wb5,show (x::fixD sel Δ')=[x]++fixD sel Δ' from rfl,Zdv (by simp)];exact he
end
section
variable {K:W.Frag}{Δ:Evt}
abbrev OSp:=List D->(OD->Prop)->Prop
def spO (K:W.Frag) (f:OSp):Sp:=λvs H Q _=>∃F ds Post,Same F H/\Reps K F vs ds/\f ds Post ∧
 ∀a H' o od,Same H H' -> H a=none->H' a=some o->OwnRep K (λb=>if b=a then none else glue F H H' b) o od->Post od->Q (.ref a) H'
theorem Zff {f:OSp}{ta:TA}{E:XK}{Po:OD->Evt->Prop}(h:JA K ta Δ λds Δ1=>f ds λod=>Po od Δ1):JO K (tCall (spO K f) [] E ta) Δ Po:=λg G H σ Q k c=>
 h g G H σ _ k λvs ds G1 H1 Δ1 k1 s1 r1 p1=>by
  show spO K f (vs++[]) H1 Q E;rw[Wbk];refine⟨G1,ds,_,k1.live,r1,p1,λa H' o od sh ha hn rr pd=>?_⟩;have sg:Same G1 (λb=>if b=a then none else glue G1 H1 H' b):=λb o e=>by
   have hb:b≠a:=by intro z;subst z;rw[k1.live _ _ e]at ha;cases ha
   show (if b=a then none else glue G1 H1 H' b)=some o;rw[if_neg hb];exact Zfh k1.live b o e
  have k2:Ok K g (λb=>if b=a then none else glue G1 H1 H' b) H' σ Δ1:=k1.grow sg sh λb o e=>by
   have e:(if b=a then none else glue G1 H1 H' b)=some o:=e;by_cases hb:b=a
   ·rw[if_pos hb]at e;cases e
   ·rw[if_neg hb]at e;exact Zhl k1.live (λb o _ e=>sh b o e) b o e
  refine c a _ _ H' Δ1 k2 (s1.trans sg) ⟨o,hn,rr,by simp,k1.there ha,?_,λj x od' e1 e2 e3=>?_⟩ pd
  ·cases q:g.Xo a with
   |none=>rfl
   |some u=>have z:=(k1.ext a u q).1;rw[ha]at z;cases z
  ·obtain⟨b,oo,w1,w2,_⟩:=k1.own j x od' e1 e2
   rw[e3]at w1;cases w1;rw[ha]at w2;cases w2
theorem Zwc {f:OSp}{t:TS}{N:List Str}{vs:List V}{H:Hp}{Q:VK}{E:XK}(ht:∀ds Post,f ds Post->ds.length<=N.length/\JS K t (startD N ds) ⟨λ_=>False,λ_ _=>False,λ_=>False,λ_=>False,λod _=>Post od⟩) (h:spO K f vs H Q E) :
  t { nx:=λ_ H'=>Q .non H',rt:=Q } (start N vs) H:=by
 obtain⟨F,ds,Post,l,rs,hf,q⟩:=h;obtain⟨hl,hj⟩:=ht ds Post hf;refine hj ⟨λ_=>False,F,H,λ_=>none⟩ F H (start N vs) _ (Zfa rs hl (λ_ _ _ e=>e) (λ_ z=>z.elim) (Same.refl _) (λb o e=>⟨l b o e,.inr e⟩) λ_=>rfl) ⟨λ_ _ _ _ _ z=>z.elim,λ_ _ _ _ _ _ _ _ z=>z.elim,λ_ _ _ _ _ z=>z.elim,λ_ _ _ _ _ z=>z.elim,λa od σ G H' Δ k pd p=>?_⟩;obtain⟨o,h1,h2,h3,h4,h5,h6⟩:=pd;refine q a H' o od (λb o e=>k.same b o (λz=>z) e) h4 h1 (h2.mono λb o e=>?_) p;have hb:b≠a:=by intro z;subst z;rw[h3]at e;cases e
 show (if b=a then none else glue F H H' b)=some o;rw[if_neg hb];obtain⟨e1,e2⟩:=k.frz b o e;rcases e2 with z|z
 ·rw[Zeb z];exact e1
 ·rw[Zdd (l b o z)];exact z
theorem Zs6 {f:OSp}{n:Nat}(h:∀ds Post,f ds Post->ds.length=n):∀vs H Q E,spO K f vs H Q E->vs.length=n:=λvs H Q E hq_=>by obtain⟨F,ds,Post,l,rs,hf,q⟩:=hq_;rw[rs.length];exact h ds Post hf
end
def fLaw:DSp:=λds Post=>∃ns:List Int,ds=[.scr (ns.map .int)]/\ns.length<=63/\Post (.bl true)
def spLaw (K:W.Frag):Sp:=λvs H Q _=>∃(a:Addr) (ns:List Int),vs=[.ref a]/\SqL K H a (ns.map V.int)/\ns.length<=63/\∀H',Q (.bl true) H'
theorem Zp7 {K:W.Frag}{vs:List V}{H:Hp}{Q:VK}{E:XK}(h:spLaw K vs H Q E):spD K fLaw vs H Q E:=by
 obtain⟨a,ns,rfl,hs,hl,q⟩:=h;refine⟨H,[.scr (ns.map .int)],λd=>d=.bl true,Same.refl _,.cons (.scr hs (Reps.ofInts ns)) .nil,⟨ns,rfl,hl,rfl⟩,λr H' d sh rr e=>?_⟩;subst e;cases rr.inv;exact q H'
theorem walk_law {l:PySem.W.OpenLaw}{q:Program}{loose:List Str}{XP:(Str->Option Value)->Heap->Prop}{YP:World->Heap->Prop}{d:DefRec}{K:Params->W.Frag}{k:Nat}{x:Str}(hk:Room k callerA) (hn:l.most=some 63) (hdf:d.params.defaults=[])
  (hY:∀(w:World) (h:Heap),YP w h->(K w.params).In h)
  (F:∀(w:World) (mg:Str->Option Value) (fa:Addr) (h:Heap),(K w.params).In h->h.Ns mainGlobals mg->mg d.name=some (.ref fa) →
   ∃fd:FuncData,(∀(s:Shared) (u:Value),BindsTo s fd ⟨[u],[]⟩ [(x,u)])/\∀base:Heap,(K w.params).In base->base.Ns mainGlobals mg->FnOk l.prog w (K w.params) mg base CX0 k fa fd [x] (spD (K w.params) fLaw)) :
  PySem.W.WalkO q loose XP YP l.row.toRowW d [] (λf vs=>PySem.call f vs):=
 L2.walk_of (n:=63) (k:=k) (x:=x) (CX:=λ_=>CX0) (sp:=λw=>spLaw (K w.params)) hn (by decide) hdf hk hY
  (λw mg fa h h1 h2 h3=>by
   obtain⟨fd,b,f⟩:=F w mg fa h h1 h2 h3;exact⟨fd,b,λbase kb nb=>(f base kb nb).imp λvs H Q E z=>Zp7 z⟩)
  (λ_ _ a ns hl _ hS=>⟨a,ns,rfl,hS,hl,λ_=>rfl⟩) λ_ _ _ _ _ z=>z
def SqB (b:Bool) (K:W.Frag) (H:Hp) (a:Addr) (xs:List V):Prop:=match b with|true=>SqT K H a xs|false=>SqL K H a xs
def ItB (b:Bool) (h:Heap) (j a:Addr) (i:Nat):Prop:=match b with|true=>h.IsTupleIter j a i|false=>h.IsListIter j a i
def HsB (b:Bool) (h:Heap) (a:Addr) (ws:Array Value):Prop:=match b with|true=>h.IsTuple a ws|false=>h.IsList a ws
theorem ItB.at {b:Bool}{h h':Heap}{j a:Addr}{i:Nat}(x:ItB b h j a i) (e:∀o,h.get? j=some o->h'.get? j=some o):ItB b h' j a i:=by
 cases b
 ·exact Heap.IsListIter.at (show h.IsListIter j a i from x) e
 ·exact Heap.IsTupleIter.at (show h.IsTupleIter j a i from x) e
theorem ItB.off {b:Bool}{h h':Heap}{j a c:Addr}{i:Nat}(x:ItB b h j a i) (e:Heap.ExtBut c h h') (n:j≠c):ItB b h' j a i:=x.at λo q=>e j o n q
theorem ItB.obj {b:Bool}{h:Heap}{j a:Addr}{i:Nat}(x:ItB b h j a i):∃o,h.get? j=some o/\o.data=.fields #[.ref a,.int i 0]:=by
 cases b <;> (obtain⟨o,e,_,d⟩:=x;exact⟨o,e,d⟩)
theorem HsB.off {b:Bool}{h h':Heap}{a c:Addr}{ws:Array Value}(x:HsB b h a ws) (e:Heap.ExtBut c h h') (n:a≠c):HsB b h' a ws:=by
 cases b <;> (obtain⟨o,q,r⟩:=x;exact⟨o,e a o n q,r⟩)
theorem HsB.lt {b:Bool}{h:Heap}{a:Addr}{ws:Array Value}(x:HsB b h a ws):a<h.objs.size:=by
 cases b <;> (obtain⟨o,q,r⟩:=x;exact Wap q)
theorem Inv.seqB {X:Cx}{pins:List (Addr × Obj)}{σ:St}{H:Hp}{s:Shared}{b:Bool}{a:Addr}{xs:List V}(I:Inv X pins σ H s) (h:SqB b X.K H a xs):∃its:List Value,Vals xs its/\HsB b s.heap a its.toArray:=by
 cases b
 ·obtain⟨its,r,p,_⟩:=I.list h
  exact⟨its,r,p.isList⟩
 ·obtain⟨its,r,p,_⟩:=I.tuple h
  exact⟨its,r,p⟩
theorem Inv.seqB_inj {X:Cx}{pins:List (Addr × Obj)}{σ:St}{H:Hp}{s:Shared}{b:Bool}{a:Addr}{xs ys:List V}(I:Inv X pins σ H s) (h:SqB b X.K H a xs) (h':SqB b X.K H a ys):xs=ys:=by
 cases b
 ·exact I.list_inj h h'
 ·exact I.tuple_inj h h'
section
variable {prog:Program}{w:World}{A:Around}{E:Value->Shared->Prop}{s:Shared}
theorem Zi3 {b:Bool}{j a:Addr}{i:Nat}{ws:Array Value}{x:Value}{Q:Value->Shared->Prop}(g:ItB b s.heap j a i) (l:HsB b s.heap a ws) (e:ws[i]?=some x)
  (q:∀h',ItB b h' j a (i+1)->Heap.SameBut j s.heap h' -> Q x { s with heap:=h' }):wpAny (model prog w) A (Builtin.SmallTypes.nextOf (.ref j)) Q E s:=by
 cases b
 ·exact wpAny_nextOf_list_item g l e q
 ·obtain⟨o,g1,g2,g3⟩:=id g
  obtain⟨u,l1,_,n,l2⟩:=l;have ty:s.TypeIs (.ref j) "tuple_iterator":=⟨o,g1,g2⟩;unfold Builtin.SmallTypes.nextOf;refine wpAny_bind (wpAny_callSpecial?_slot (name:=Str.ofString "__next__") ty F.slot_tuple_iterator_next (wpAny_call_entry F.slot_tuple_iterator_next ty F.entry_tuple_iterator_next ?_ (F.args_tuple_iterator_next_1 _)));refine(show wpAny _ _ (field (.ref j) 0 >>= _) _ _ s from wpAny_bind (wpAny_field g1 g3 (x:=.ref a) rfl ?_));refine(show wpAny _ _ (if (Value.ref a == Value.none)=true then _ else _) _ _ s from ?_);rw[if_neg (by exact Was)];refine(show wpAny _ _ (field (.ref j) 1 >>= _) _ _ s from wpAny_bind (wpAny_field g1 g3 (x:=.int i 0) rfl ?_));refine(show wpAny _ _ (seqItems? (.ref a) >>= _) _ _ s from wpAny_bind (wpAny_seqItems l1 l2 ?_));simp only[Wak,e];refine wpAny_bind (wpAny_setField g1 g3 (by simp) (wpAny_pure ⟨x,rfl,wpAny_pure (q _ ⟨_,Wcx _ g1 (Obj.isFreed_of_fields (Obj.data_mapFields g3 _)),(Obj.cls_mapFields ..).trans g2,?_⟩ (Heap.SameBut.update ..))⟩));rw[Obj.data_mapFields g3];simp[rawInt]
theorem Zre {b:Bool}{j a:Addr}{i:Nat}{ws:Array Value}{Q:Value->Shared->Prop}(hh:A.handled=none) (g:ItB b s.heap j a i) (l:HsB b s.heap a ws) (e:ws[i]?=none)
  (q:∀h' x,Heap.ExtBut j s.heap h' -> (∃o,h'.get? x=some o/\o.cls=.type "StopIteration")->E (.ref x) { s with heap:=h' }):wpAny (model prog w) A (Builtin.SmallTypes.nextOf (.ref j)) Q E s:=by
 cases b
 ·exact wpAny_nextOf_list_end hh g l e q
 ·obtain⟨o,g1,g2,g3⟩:=id g
  obtain⟨u,l1,_,n,l2⟩:=l;have ty:s.TypeIs (.ref j) "tuple_iterator":=⟨o,g1,g2⟩;unfold Builtin.SmallTypes.nextOf;refine wpAny_bind (wpAny_callSpecial?_slot (name:=Str.ofString "__next__") ty F.slot_tuple_iterator_next (wpAny_call_entry F.slot_tuple_iterator_next ty F.entry_tuple_iterator_next ?_ (F.args_tuple_iterator_next_1 _)));refine(show wpAny _ _ (field (.ref j) 0 >>= _) _ _ s from wpAny_bind (wpAny_field g1 g3 (x:=.ref a) rfl ?_));refine(show wpAny _ _ (if (Value.ref a == Value.none)=true then _ else _) _ _ s from ?_);rw[if_neg (by exact Was)];refine(show wpAny _ _ (field (.ref j) 1 >>= _) _ _ s from wpAny_bind (wpAny_field g1 g3 (x:=.int i 0) rfl ?_));refine(show wpAny _ _ (seqItems? (.ref a) >>= _) _ _ s from wpAny_bind (wpAny_seqItems l1 l2 ?_));simp only[Wak,e];refine wpAny_bind (wpAny_rule (wpAny_bind (wpAny_setField g1 g3 (by simp) (show wpAny _ _ (newExc (.type "StopIteration") [] >>= _) _ _ _ from wpAny_bind ?_))));simp only[newExc,newTuple];refine wpAny_bind (wpAny_newObj_type (wpAny_bind (m:=firstArgMember _ _) (wpAny_of_eq (a:=Value.none) (by first|rfl|(simp only[firstArgMember];rfl)) (wpAny_newObj_type ?_ (by size_fits)))) (by size_fits));simp only[raiseNew];refine wpAny_bind (wpAny_handled ?_)
  first|rw[show A.in1.handled=none from hh]|rw[hh]
  exact wpAny_bind (wpAny_pure (wpAny_throw (q _ _ (((Heap.SameBut.update ..).extBut.push _).push _) ⟨_,Wal _ rfl,rfl⟩)))
theorem Zsw {b c:Bool}{z U O j1 j2 a1 a2:Addr}{k1 k2:Nat}{vs us:Array Value}{x y p r:Value}{Q:Option Value->Shared->Prop}(D:ZipApart z U O j1 j2 a1 a2)
  (gz:IsZip s.heap z U O .none) (gU:IsPair s.heap U (.ref j1) (.ref j2)) (gO:IsPair s.heap O p r) (g1:ItB b s.heap j1 a1 k1) (g2:ItB c s.heap j2 a2 k2) (l1:HsB b s.heap a1 vs) (l2:HsB c s.heap a2 us) (ex:vs[k1]?=some x) (ey:us[k2]?=some y)
  (q:∀h',IsZip h' z U O (rawInt s.heap.objs.size)->IsPair h' O x y->ItB b h' j1 a1 (k1+1)->ItB c h' j2 a2 (k2+1)->IsPair h' s.heap.objs.size x y->h'.objs.size=s.heap.objs.size+1 →
   (∀d o,d≠z->d≠O->d≠j1->d≠j2->s.heap.get? d=some o->h'.get? d=some o)->Q (some (.ref s.heap.objs.size)) { s with heap:=h' }):wpAny (model prog w) A (pyNext (.ref z)) Q E s:=by
 have ty:s.TypeIs (.ref z) "zip":=⟨_,gz,rfl⟩;unfold pyNext;refine wpAny_bind (wpAny_attempt (wpAny_callSpecial?_slot (name:=Str.ofString "__next__") ty F.slot_zip_next (wpAny_call_entry F.slot_zip_next ty F.entry_zip_next ?_ (F.args_zip_next_1 _))));refine(show wpAny _ _ (field (.ref z) 2 >>= _) _ _ _ from wpAny_bind (wpAny_field gz rfl (x:=.bool false) rfl ?_));refine(show wpAny _ _ (field (.ref z) 3 >>= _) _ _ _ from wpAny_bind (wpAny_field gz rfl (x:=.ref U) rfl (wpAny_bind (wpAny_seqItems gU rfl ?_))));refine(show wpAny _ _ (Builtin.SmallTypes.ownedTupleIsFree (.ref z) >>= _) _ _ _ from wpAny_bind ?_);unfold Builtin.SmallTypes.ownedTupleIsFree;refine wpAny_bind (wpAny_field gz rfl (x:=.none) rfl (wpAny_pure ?_));simp only[if_true];refine wpAny_bind (wpAny_rule (wpAny_bind (wpAny_field gz rfl (x:=.ref O) rfl (wpAny_bind (wpAny_setField_rec gz (by simp) λh₁ z₁ s₁=>wpAny_bind ?_)))))
 replace z₁:IsZip h₁ z U O .ellipsis:=z₁
 simp only[List.zipIdx_cons,List.zipIdx_nil,List.forIn_cons,List.forIn_nil];refine wpAny_bind (wpAny_bind (wpAny_onRaise (show wpAny _ _ (Builtin.SmallTypes.nextOf (.ref j1) >>= _) _ _ _ from wpAny_bind (Zi3 (g1.off s₁.extBut D.i1z) (l1.off s₁.extBut D.l1z) ex λh₂ g₂ s₂=>wpAny_pure ?_))));have o₂:IsPair h₂ O p r:=s₂.extBut _ _ D.TOi1 (s₁.extBut _ _ D.TOz gO);refine wpAny_bind (wpAny_seqItems o₂ rfl (wpAny_bind (wpAny_updateSeq_pair o₂ λh₃ o₃ s₃=>wpAny_bind (wpAny_letGo (wpAny_pure ?_)))))
 replace o₃:IsPair h₃ O x r:=o₃
 refine wpAny_bind (wpAny_bind (wpAny_onRaise (show wpAny _ _ (Builtin.SmallTypes.nextOf (.ref j2) >>= _) _ _ _ from wpAny_bind (Zi3 (((g2.off s₁.extBut D.i2z).off s₂.extBut D.i12.symm).off s₃.extBut D.TOi2.symm) (((l2.off s₁.extBut D.l2z).off s₂.extBut D.l2i1).off s₃.extBut D.l2TO) ey λh₄ g₄ s₄=>wpAny_pure ?_))));have o₄:IsPair h₄ O x r:=s₄.extBut _ _ D.TOi2 o₃;refine wpAny_bind (wpAny_seqItems o₄ rfl (wpAny_bind (wpAny_updateSeq_pair o₄ λh₅ o₅ s₅=>wpAny_bind (wpAny_letGo (wpAny_pure (wpAny_pure ?_))))))
 replace o₅:IsPair h₅ O x y:=o₅
 refine wpAny_bind (wpAny_seqItems o₅ rfl (wpAny_bind (wpAny_newTuple ?_)));have n5:h₅.objs.size=s.heap.objs.size:=by rw[s₅.1,s₄.1,s₃.1,s₂.1,s₁.1]
 have z₅:IsZip h₅ z U O .ellipsis:=s₅.extBut _ _ D.TOz.symm (s₄.extBut _ _ D.i2z.symm (s₃.extBut _ _ D.TOz.symm (s₂.extBut _ _ D.i1z.symm z₁)));have old:∀d o,d≠z->d≠O->d≠j1->d≠j2->s.heap.get? d=some o->h₅.get? d=some o:=λd o c1 c2 c3 c4 e=>s₅.extBut _ _ c2 (s₄.extBut _ _ c4 (s₃.extBut _ _ c2 (s₂.extBut _ _ c3 (s₁.extBut _ _ c1 e))));have t1:ItB b h₅ j1 a1 (k1+1):=((g₂.off s₃.extBut D.TOi1.symm).off s₄.extBut D.i12).off s₅.extBut D.TOi1.symm;have t2:ItB c h₅ j2 a2 (k2+1):=g₄.off s₅.extBut D.TOi2.symm;have zl:z<h₅.objs.size:=Wap z₅;refine(show wpAny _ _ (Builtin.SmallTypes.ownedTupleHandOut (.ref z) (.ref h₅.objs.size) >>= _) _ _ _ from wpAny_bind ?_);unfold Builtin.SmallTypes.ownedTupleHandOut;have z₆:IsZip (h₅.push { cls:=.type "tuple",data:=.seq #[x,y] }) z U O .ellipsis:=Wae _ z₅;refine wpAny_bind (wpAny_setField_rec z₆ (by simp) λh₇ z₇ s₇=>?_)
 replace z₇:IsZip h₇ z U O (rawInt h₅.objs.size):=z₇
 refine wpAny_setField_rec z₇ (by simp) λh₈ z₈ s₈=>?_
 replace z₈:IsZip h₈ z U O (rawInt h₅.objs.size):=z₈
 have up:∀d o,d≠z->h₅.get? d=some o->h₈.get? d=some o:=λd o c1 e=>s₈.extBut _ _ c1 (s₇.extBut _ _ c1 (Wae _ e));have new8:IsPair h₈ h₅.objs.size x y:=s₈.extBut _ _ (Wc8 zl) (s₇.extBut _ _ (Wc8 zl) (Wal _ rfl));have n8:h₈.objs.size=h₅.objs.size+1:=by rw[s₈.1,s₇.1,Wcl]
 rw[n5]at z₈ new8 n8;refine wpAny_pure ⟨_,rfl,wpAny_pure ?_⟩;refine(show Q (some (.ref h₅.objs.size)) _ from ?_);rw[n5];exact q h₈ z₈ (up _ _ D.TOz o₅) (t1.at λo e=>up _ o D.i1z e) (t2.at λo e=>up _ o D.i2z e) new8 n8 λd o c1 c2 c3 c4 e=>up d o c1 (old d o c1 c2 c3 c4 e)
theorem Zul {b c:Bool}{z U O j1 j2 a1 a2:Addr}{k1 k2:Nat}{vs us:Array Value}{p r:Value}{Q:Option Value->Shared->Prop}(hh:A.handled=none) (D:ZipApart z U O j1 j2 a1 a2)
  (gz:IsZip s.heap z U O .none) (gU:IsPair s.heap U (.ref j1) (.ref j2)) (gO:IsPair s.heap O p r) (g1:ItB b s.heap j1 a1 k1) (g2:ItB c s.heap j2 a2 k2) (l1:HsB b s.heap a1 vs) (l2:HsB c s.heap a2 us) (e:vs[k1]?=none\/us[k2]?=none)
  (q:∀h',(∀d o,d≠z->d≠O->d≠j1->d≠j2->s.heap.get? d=some o->h'.get? d=some o)->Q none { s with heap:=h' }):wpAny (model prog w) A (pyNext (.ref z)) Q E s:=by
 have ty:s.TypeIs (.ref z) "zip":=⟨_,gz,rfl⟩;have fin:∀{h':Heap}{x:Addr},(∀d o,d≠z->d≠O->d≠j1->d≠j2->s.heap.get? d=some o->h'.get? d=some o)->(∃o,h'.get? x=some o/\o.cls=.type "StopIteration")->wpAny (model prog w) A (do if (← isInstance (.ref x) (.type "StopIteration")) then pure none else throw (.ref x)) Q E { s with heap:=h' }:=λ{h' x} hk ⟨o,ho,hc⟩=>by
  refine wpAny_bind (wpAny_isInstance (T:="StopIteration") (b:=true) ⟨o,ho,hc⟩ isSubtype_stop ?_);exact wpAny_pure (q _ hk)
 unfold pyNext;refine wpAny_bind (wpAny_attempt (wpAny_callSpecial?_slot (name:=Str.ofString "__next__") ty F.slot_zip_next (wpAny_call_entry F.slot_zip_next ty F.entry_zip_next ?_ (F.args_zip_next_1 _))));refine(show wpAny _ _ (field (.ref z) 2 >>= _) _ _ _ from wpAny_bind (wpAny_field gz rfl (x:=.bool false) rfl ?_));refine(show wpAny _ _ (field (.ref z) 3 >>= _) _ _ _ from wpAny_bind (wpAny_field gz rfl (x:=.ref U) rfl (wpAny_bind (wpAny_seqItems gU rfl ?_))));refine(show wpAny _ _ (Builtin.SmallTypes.ownedTupleIsFree (.ref z) >>= _) _ _ _ from wpAny_bind ?_);unfold Builtin.SmallTypes.ownedTupleIsFree;refine wpAny_bind (wpAny_field gz rfl (x:=.none) rfl (wpAny_pure ?_));simp only[if_true];refine wpAny_bind (wpAny_rule (wpAny_bind (wpAny_field gz rfl (x:=.ref O) rfl (wpAny_bind (wpAny_setField_rec gz (by simp) λh₁ z₁ s₁=>wpAny_bind ?_)))))
 replace z₁:IsZip h₁ z U O .ellipsis:=z₁
 simp only[List.zipIdx_cons,List.zipIdx_nil,List.forIn_cons,List.forIn_nil];refine wpAny_bind (wpAny_bind (wpAny_onRaise (show wpAny _ _ (Builtin.SmallTypes.nextOf (.ref j1) >>= _) _ _ _ from ?_)));cases ex:vs[k1]? with
 |none=>
  refine wpAny_bind (Zre hh (g1.off s₁.extBut D.i1z) (l1.off s₁.extBut D.l1z) ex λh₂ y s₂ ⟨u,u1,u2⟩=>?_);have z₂:IsZip h₂ z U O .ellipsis:=s₂ _ _ D.i1z.symm z₁;have yz:y≠z:=λx=>by subst x;rw[z₂]at u1;cases u1;simp at u2
  exact wpAny_setField_rec z₂ (by simp) λh₃ _ s₃=>fin (λd o c1 _ c3 _ x=>s₃.extBut _ _ c1 (s₂ _ _ c3 (s₁.extBut _ _ c1 x))) ⟨u,s₃.extBut _ _ yz u1,u2⟩
 |some x=>
  have ey:us[k2]?=none:=by rcases e with h|h;rw[ex]at h;cases h;exact h
  refine wpAny_bind (Zi3 (g1.off s₁.extBut D.i1z) (l1.off s₁.extBut D.l1z) ex λh₂ g₂ s₂=>wpAny_pure ?_);have o₂:IsPair h₂ O p r:=s₂.extBut _ _ D.TOi1 (s₁.extBut _ _ D.TOz gO);refine wpAny_bind (wpAny_seqItems o₂ rfl (wpAny_bind (wpAny_updateSeq_pair o₂ λh₃ o₃ s₃=>wpAny_bind (wpAny_letGo (wpAny_pure ?_)))));refine wpAny_bind (wpAny_bind (wpAny_onRaise (show wpAny _ _ (Builtin.SmallTypes.nextOf (.ref j2) >>= _) _ _ _ from ?_)));refine wpAny_bind (Zre hh (((g2.off s₁.extBut D.i2z).off s₂.extBut D.i12.symm).off s₃.extBut D.TOi2.symm) (((l2.off s₁.extBut D.l2z).off s₂.extBut D.l2i1).off s₃.extBut D.l2TO) ey λh₄ y s₄ ⟨u,u1,u2⟩=>?_);have z₄:IsZip h₄ z U O .ellipsis:=s₄ _ _ D.i2z.symm (s₃.extBut _ _ D.TOz.symm (s₂.extBut _ _ D.i1z.symm z₁));have yz:y≠z:=λx=>by subst x;rw[z₄]at u1;cases u1;simp at u2
  exact wpAny_setField_rec z₄ (by simp) λh₅ _ s₅=>fin (λd o c1 c2 c3 c4 x=>s₅.extBut _ _ c1 (s₄ _ _ c4 (s₃.extBut _ _ c2 (s₂.extBut _ _ c3 (s₁.extBut _ _ c1 x))))) ⟨u,s₅.extBut _ _ yz u1,u2⟩
end
section
abbrev zt1 (h:Heap) (a:Addr):Heap:=h.push ⟨.type "tuple_iterator",none,.fields #[.ref a,.int 0 0],#[]⟩
abbrev zt2 (h:Heap) (a c:Addr):Heap:=(zt1 h a).push ⟨.type "tuple_iterator",none,.fields #[.ref c,.int 0 0],#[]⟩
abbrev zt3 (h:Heap) (a c:Addr):Heap:=(zt2 h a c).push ⟨.type "tuple",none,.seq #[.ref h.objs.size,.ref (zt1 h a).objs.size],#[]⟩
abbrev zt4 (h:Heap) (a c:Addr):Heap:=(zt3 h a c).push ⟨.type "tuple",none,.seq #[.none,.none],#[]⟩
abbrev zt5 (h:Heap) (a c:Addr):Heap:=(zt4 h a c).push ⟨.type "zip",none,.fields #[.none,.bool false,.bool false,.ref (zt2 h a c).objs.size,.ref (zt3 h a c).objs.size],#[]⟩
theorem Zpe (a c:Addr) (vs us:Array Value) :
  Meets (Builtin.«zip.__new__» ⟨[.type "zip",.ref a,.ref c],[]⟩) (λ_ R s=>s.heap.IsTuple a vs/\s.heap.IsTuple c us/\R (.ok (.ret (.ref (zt4 s.heap a c).objs.size))) { s with heap:=zt5 s.heap a c }):=.of_wp λprog w A R s h=>by
 obtain⟨hp,g,d,tk,os⟩:=s;obtain⟨u1,u2,h⟩:=h;have sub0:=sub_zip;have v1:Heap.IsTuple (Shared.heap ⟨hp,g,d,tk,os⟩) a vs:=u1;have v2:Heap.IsTuple (Shared.heap ⟨hp.push { cls:=.type "tuple_iterator",data:=.fields #[.ref a,.int 0 0] },g,d,tk,os⟩) c us:=Heap.IsTuple.push u2 _
 wp_walk using wpAny_pyIter_tuple v1,wpAny_pyIter_tuple v2
 exact⟨_,rfl,h⟩
variable {prog:Program}{w:World}{A:Around}{E:Value->Shared->Prop}{s:Shared}
theorem Zs1 {b:Bool}{a c:Addr}{vs us:Array Value}{Q:Value->Shared->Prop}(l1:HsB b s.heap a vs) (l2:HsB b s.heap c us)
  (q:∀h',IsZip h' (s.heap.objs.size+4) (s.heap.objs.size+2) (s.heap.objs.size+3) .none->IsPair h' (s.heap.objs.size+2) (.ref s.heap.objs.size) (.ref (s.heap.objs.size+1))->IsPair h' (s.heap.objs.size+3) .none .none →
   ItB b h' s.heap.objs.size a 0->ItB b h' (s.heap.objs.size+1) c 0->(∀d o,s.heap.get? d=some o->h'.get? d=some o)->Q (.ref (s.heap.objs.size+4)) { s with heap:=h' }):wpAny (model prog w) A (call (.type "zip") [.ref a,.ref c]) Q E s:=by
 cases b
 ·exact call_zip_2 l1 l2 λh' b1 b2 b3 b4 b5 b6 hk=>q h' b1 b2 b3 b4 b5 hk
 ·refine callType_new F.called_zip (by decide) (F.typeCall_zip_2 _ _) (F.newCall_zip_2 _ _) (λobj=>F.args_object_init_3 obj _ _) F.entry_zip_new (Zpe a c vs us) ⟨l1,l2,?_⟩
  have z1:(zt1 s.heap a).objs.size=s.heap.objs.size+1:=Wcl ..;have z2:(zt2 s.heap a c).objs.size=s.heap.objs.size+2:=by rw[Wcl,z1]
  have z3:(zt3 s.heap a c).objs.size=s.heap.objs.size+3:=by rw[Wcl,z2]
  have z4:(zt4 s.heap a c).objs.size=s.heap.objs.size+4:=by rw[Wcl,z3]
  have p5:(zt5 s.heap a c).get? (zt4 s.heap a c).objs.size=some _:=Wal _ rfl;have p4:(zt5 s.heap a c).get? (zt3 s.heap a c).objs.size=some _:=Wae _ (Wal _ rfl);have p3:(zt5 s.heap a c).get? (zt2 s.heap a c).objs.size=some _:=Wae _ (Wae _ (Wal _ rfl));have p2:(zt5 s.heap a c).get? (zt1 s.heap a).objs.size=some _:=Wae _ (Wae _ (Wae _ (Wal _ rfl)));have p1:(zt5 s.heap a c).get? s.heap.objs.size=some _:=Wae _ (Wae _ (Wae _ (Wae _ (Wal _ rfl))));show _/\_;rw[z2,z3,z4]at p5;rw[z1,z2]at p3;rw[z3]at p4;rw[z1]at p2;rw[z4];exact⟨⟨_,p5,rfl⟩,q _ p5 p3 p4 ⟨_,p1,rfl,rfl⟩ ⟨_,p2,rfl,rfl⟩ λd o e=>Wae _ (Wae _ (Wae _ (Wae _ (Wae _ e))))⟩
end
def Izb (b:Bool) (K:W.Frag) (l1 l2:Addr):It:=
 ⟨λi H=>∃xs ys x y,SqB b K H l1 xs/\SqB b K H l2 ys/\xs[i]?=some x/\ys[i]?=some y,
  λi H v H'=>∃p x y,H p=none/\v=.ref p/\H'=upd H p (.tup [x,y])/\∀xs ys,SqB b K H l1 xs->SqB b K H l2 ys->xs[i]?=some x/\ys[i]?=some y,
  λi H=>∃xs ys,SqB b K H l1 xs/\SqB b K H l2 ys/\(xs.length<=i\/ys.length<=i)⟩
theorem Ztf {b:Bool}{P:Program}{w:World}{K:W.Frag}{es:List Expr}{kk:Nat}{tp:Pos}(l1 l2 z TI TO i1 i2:Addr) (D:ZipApart z TI TO i1 i2 l1 l2):Turn P w K (.Tuple es kk tp) (Izb b K l1 l2) [z,TI,TO,i1,i2] z
  (λi h=>IsZip h z TI TO .none/\IsPair h TI (.ref i1) (.ref i2)/\(∃a b,IsPair h TO a b)/\ItB b h i1 l1 i/\ItB b h i2 l2 i) where
 mem:=by simp
 obj:=λi h st b2 hb=>by
  obtain⟨hz,hTI,⟨a,b',hTO⟩,h1,h2⟩:=st;obtain⟨o1,e1,d1⟩:=h1.obj;obtain⟨o2,e2,d2⟩:=h2.obj;simp only[Wat,Wb6,or_false]at hb;rcases hb with rfl|rfl|rfl|rfl|rfl
  ·exact⟨_,hz,λv q=>by cases q⟩
  ·exact⟨_,hTI,λv q=>by cases q⟩
  ·exact⟨_,hTO,λv q=>by cases q⟩
  ·exact⟨o1,e1,λv q=>by rw[d1]at q;cases q⟩
  ·exact⟨o2,e2,λv q=>by rw[d2]at q;cases q⟩
 keep:=λi h h' st k=>by
  obtain⟨hz,hTI,⟨a,b',hTO⟩,h1,h2⟩:=st;exact⟨k z (by simp) _ hz,k TI (by simp) _ hTI,⟨a,b',k TO (by simp) _ hTO⟩,h1.at λo e=>k i1 (by simp) o e,h2.at λo e=>k i2 (by simp) o e⟩
 item:=by
  intro X hP hw hK hc i pins s σ H E I hf st hg;subst hP hw hK;obtain⟨hz,hTI,⟨a,b',hTO⟩,h1,h2⟩:=st;obtain⟨xs,ys,x,y,hq1,hq2,hx,hy⟩:=hg;obtain⟨its1,r1,p1⟩:=I.seqB hq1;obtain⟨its2,r2,p2⟩:=I.seqB hq2;obtain⟨u1,hu1,ru1⟩:=r1.get hx;obtain⟨u2,hu2,ru2⟩:=r2.get hy;refine Zsw D hz hTI hTO h1 h2 p1 p2 (x:=u1) (y:=u2) (by simpa using hu1) (by simpa using hu2) λh' b1 b2 b3 b4 b5 b6 hk=>?_;refine⟨_,rfl,wpAny_letOwnedTupleGo_zip (s:={ s with heap:=h' }) b1 λh'' hz'' hs''=>?_⟩;have lt:∀{c o},s.heap.get? c=some o->c≠s.heap.objs.size:=λe=>Waw (Wap e);have hTz:s.heap.objs.size≠z:=Ne.symm (lt hz);have hTfree:H s.heap.objs.size=none:=I.hok.fresh (Wah _);have kept:∀c o,c ∉ [z,TI,TO,i1,i2]->s.heap.get? c=some o->h''.get? c=some o:=λc o hc e=>by
   simp only[Wat,Wb6,or_false,not_or]at hc;exact hs''.extBut _ _ hc.1 (hk c o hc.1 hc.2.2.1 hc.2.2.2.1 hc.2.2.2.2 e)
  have hT:h''.get? s.heap.objs.size=some { cls:=.type "tuple",data:=.seq #[u1,u2] }:=hs''.extBut _ _ hTz b5;have ntr:∀c o,H c=some o->c ∉ [z,TI,TO,i1,i2]:=λc o e hc=>by rw[(hf c hc).1]at e;cases e
  have hok:HOk X.prog X.w (upd H s.heap.objs.size (.tup [x,y])) h'':=λc o e=>by
   by_cases hcT:c=s.heap.objs.size
   ·subst hcT
    rw[Zan]at e;cases e;exact⟨by show 2<=sizeLine;decide,[u1,u2],.cons ru1 (.cons ru2 .nil),_,hT,⟨rfl,_,rfl⟩,rfl⟩
   ·rw[Zao hcT]at e
    refine(I.hok c o e).stay (λd v hd q=>kept d v ?_ q) (λd q=>by rw[Zao (Zas q hTfree)];exact q) λd zs q=>by rw[Zao (Zas q hTfree)];exact q
    rcases hd with hd|hd
    ·rw[hd];exact ntr c o e
    ·exact ntr d _ hd
  have I2:Inv X pins σ (upd H s.heap.objs.size (.tup [x,y])) { s with heap:=h'' }:=by
   refine I.call (g':=s.gens) (t':=s.toks) (d':=s.drawn) (ch:=[z,TI,TO,i1,i2]) ⟨λc o e n hc hx=>kept c o hx e,λc o e n hc hx=>⟨o.slots,kept c o hx e⟩,λc o e n hx=>by rw[Zao (lt e)];exact n,λc o e hx=>⟨o,kept c o hx e⟩,
    λc zs q=>by rw[Zao (Zas q hTfree)];exact q,λc o zs q=>by rw[Zao (Zas q hTfree)];exact q,λc zs q=>⟨#[],by rw[Zao (Zas q hTfree),q];simp⟩⟩ hok I.bare λc hcc=>?_
   obtain⟨f0,f1,f2,f3,f4,f5⟩:=hf c hcc;exact⟨f3,f1,f4,f5⟩
  refine⟨.ref s.heap.objs.size,_,I2,rfl,⟨s.heap.objs.size,x,y,hTfree,rfl,rfl,λxs' ys' q1 q2=>?_⟩,⟨hz'',hs''.extBut _ _ D.TIz (hk _ _ D.TIz D.TITO D.TIi1 D.TIi2 hTI),⟨_,_,hs''.extBut _ _ D.TOz b2⟩,b3.off hs''.extBut D.i1z,b4.off hs''.extBut D.i2z⟩,λc hcc=>?_⟩
  ·rw[I.seqB_inj q1 hq1,I.seqB_inj q2 hq2];exact⟨hx,hy⟩
  ·have hcl:c≠s.heap.objs.size:=by
    simp only[Wat,Wb6,or_false]at hcc;obtain⟨_,e1,_⟩:=h1.obj;obtain⟨_,e2,_⟩:=h2.obj;rcases hcc with rfl|rfl|rfl|rfl|rfl
    ·exact lt hz
    ·exact lt hTI
    ·exact lt hTO
    ·exact lt e1
    ·exact lt e2
   rw[Zao hcl];exact(hf c hcc).1
 done:=by
  intro X hP hw hK hc i pins s σ H E I hf st hg;subst hP hw hK;obtain⟨hz,hTI,⟨a,b',hTO⟩,h1,h2⟩:=st;obtain⟨xs,ys,hq1,hq2,hend⟩:=hg;obtain⟨its1,r1,p1⟩:=I.seqB hq1;obtain⟨its2,r2,p2⟩:=I.seqB hq2;have l1':=r1.length;have l2':=r2.length;refine Zul (I.ok.hd hc) D hz hTI hTO h1 h2 p1 p2 ?_ λh' hk=>⟨rfl,?_⟩
  ·rcases hend with q|q
   ·left;simp;omega
   ·right;simp;omega
  ·have kept:∀c o,c ∉ [z,TI,TO,i1,i2]->s.heap.get? c=some o->h'.get? c=some o:=λc o hc e=>by
    simp only[Wat,Wb6,or_false,not_or]at hc;exact hk c o hc.1 hc.2.2.1 hc.2.2.2.1 hc.2.2.2.2 e
   have ntr:∀c o,H c=some o->c ∉ [z,TI,TO,i1,i2]:=λc o e hc=>by rw[(hf c hc).1]at e;cases e
   refine I.call (g':=s.gens) (t':=s.toks) (d':=s.drawn) (ch:=[z,TI,TO,i1,i2]) ⟨λc o e n hc hx=>kept c o hx e,λc o e n hc hx=>⟨o.slots,kept c o hx e⟩,λc o e n hx=>n,λc o e hx=>⟨o,kept c o hx e⟩,
    λc zs q=>q,λc o zs q=>q,λc zs q=>⟨#[],by rw[q];simp⟩⟩ (λc o e=>?_) I.bare λc hcc=>?_
   ·refine(I.hok c o e).stay (λd v hd q=>kept d v ?_ q) (λd q=>q) λd zs q=>q
    rcases hd with hd|hd
    ·rw[hd];exact ntr c o e
    ·exact ntr d _ hd
   ·obtain⟨f0,f1,f2,f3,f4,f5⟩:=hf c hcc
    exact⟨f3,f1,f4,f5⟩
 self:=λ_ _ _ _ _ st h=>wpAny_pyIter_zip st.1 h
section
variable {X:Cx}
def iZip (K:W.Frag) (ta:TA):TI:=λσ H R=>ta σ H λvs H1=>∃b l1 l2,vs=[.ref l1,.ref l2]/\(∃xs,SqB b K H1 l1 xs)/\(∃ys,SqB b K H1 l2 ys)/\R (Izb b K l1 l2) H1
theorem Zun (K:W.Frag) {es:List Expr}{kk:Nat}{tp:Pos}{a b:Expr}{ta:TA}{p pos:Pos}(hg:Gl X "zip") (hm:X.mg "zip" = none) (ha:PA X [a,b] ta) (hs:starEach [a,b] X.env=[(false,eval a X.env),(false,eval b X.env)]:=by rfl) (hs2:starEach [b] X.env=[(false,eval b X.env)]:=by rfl) (hK:X.K=K:=by rfl) :
  PI X (.Tuple es kk tp) (.Call (.Name "zip" p) [a,b] [] pos) (iZip K ta):=by
 subst hK;intro pins s σ H R I h;refine Call_ (Zdl I hg hm (Zu8) (PyProof.Rows.callWith_type1 (thn (ha pos pins s σ H _ I h) λus s1 ⟨vs,H1,I1,r1,q1⟩=>?_) (by rw[hs,hs2]) (by rw[hs2];rfl)));obtain⟨b,l1,l2,e,⟨xs,hx⟩,⟨ys,hy⟩,q⟩:=q1;subst e;obtain⟨u1,u2,rfl,q1,q2⟩:=r1.two;cases (show u1=Value.ref l1 from q1);cases (show u2=Value.ref l2 from q2);obtain⟨its1,w1,p1⟩:=I1.seqB hx;obtain⟨its2,w2,p2⟩:=I1.seqB hy;have lt1:l1<s1.heap.objs.size:=p1.lt;have lt2:l2<s1.heap.objs.size:=p2.lt;refine Zs1 p1 p2 λh' b1 b2 b3 b4 b5 hk=>?_;refine wpAny_pyIter_zip b1 ?_;have I2:Inv X pins σ H1 { s1 with heap:=h' }:=I1.kept (t':=s1.toks) hk;refine⟨s1.heap.objs.size+4,[s1.heap.objs.size+4,s1.heap.objs.size+2,s1.heap.objs.size+3,s1.heap.objs.size,s1.heap.objs.size+1],_,_,H1,rfl,I2,Ztf l1 l2 _ _ _ _ _ (zipApart_new lt1 lt2),⟨b1,b2,⟨_,_,b3⟩,b4,b5⟩,λb hb=>?_,q⟩;have hge:s1.heap.objs.size<=b:=by
  simp only[Wat,Wb6,or_false]at hb;rcases hb with rfl|rfl|rfl|rfl|rfl <;> omega
 exact I1.fpOk hge (I1.hok.fresh hge)
def rAll (K:W.Frag):List V->Hp->VK->Prop:=λxs H Q=>∃(p:Addr) (bs:List Bool),xs=[.ref p]/\SqL K H p (bs.map V.bl)/\Q (.bl (bs.all id)) H
theorem allK (K:W.Frag) (hc:X.calm=true) (hK:X.K=K:=by rfl):CallR X (.builtin "all") (rAll K):=by
 subst hK;intro pins s σ H xs us Q I r h;obtain⟨p,bs,rfl,hx,q⟩:=h;obtain⟨u,rfl,ru⟩:=vals1 r;cases (show u=Value.ref p from ru);obtain⟨its,w1,p1,_⟩:=I.list hx;have hlt:p<s.heap.objs.size:=by obtain⟨o,e,_⟩:=p1.isList;exact Wap e
 have hval:∀(bs:List Bool) (its:List Value),Vals (bs.map V.bl) its->its=bs.map Value.bool:=by
  intro bs
  induction bs with
  |nil=>intro its h;cases h;rfl
  |cons b r ih=>intro its h;cases h with|cons h1 h2=>cases (show _=Value.bool b from h1);rw[ih _ h2];rfl
 have e:=hval bs its w1;subst e;refine call_all_walk (wpAny_pyIter_list p1.isList ?_);refine⟨s.heap.objs.size,_,_,_,_,_,λi=>bs.getD i false,rfl,Walks.list (prog:=X.prog) (w:=X.w) (A:=X.A.in1) (show X.A.in1.handled=none from I.ok.hd hc) s.heap.objs.size p (Waw hlt) (bs.map Value.bool).toArray,⟨⟨_,Wal _ rfl,rfl,rfl⟩,p1.isList.push _⟩,?_,λh' tk hk=>?_⟩
 ·intro i v s0 Q0 E0 hv hq
  have hv:(bs.map Value.bool).toArray[i]?=some v:=hv;have hv:(bs.map Value.bool)[i]?=some v:=by simpa using hv
  rw[Wad]at hv;cases z:bs[i]? with
  |none=>rw[z]at hv;cases hv
  |some b=>
   rw[z]at hv;have hv:Value.bool b=v:=by simpa using hv
   subst hv;have e0:bs.getD i false=b:=by rw[Wac,z];rfl
   have hq:Q0 (bs.getD i false) s0:=hq;rw[e0]at hq;exact wpAny_truthy_bool hq
 ·have e:(Wau (bs.map Value.bool).toArray.size).all (λi=>bs.getD i false)=bs.all id:=by
   rw[Wag,Wab];rw[Wcb,Wbg,Wbg];constructor
   ·intro hh b hb
    obtain⟨i,hi,rfl⟩:=Wbs.mp hb;have:=hh i (Wa2.mpr hi);rw[Wac,Waa hi]at this;exact this
   ·intro hh i hi
    rw[Wa2]at hi;rw[Wac,Waa hi];exact hh _ (Wa7 hi)
  rw[e];have I0:Inv X pins σ H { s with heap:=s.heap.push { cls:=.type "list_iterator",data:=.fields #[.ref p,.int 0 0] },toks:=s.toks }:=I.kept λb o e=>Wae _ e;refine⟨.bl (bs.all id),H,I0.turned (it:=s.heap.objs.size) (λb o hb e=>hk b o (by simpa using hb) e) (I.hok.fresh (Wah _)) (Wc8 I.lt) (.inr I.sz) ?_ ?_,rfl,q⟩
  ·have:=I.fpOk (b:=s.heap.objs.size) (H':=H) (Wah _) (I.hok.fresh (Wah _))
   exact this.2.2.2.2.1
  ·have:=I.fpOk (b:=s.heap.objs.size) (H':=H) (Wah _) (I.hok.fresh (Wah _))
   exact this.2.2.2.2.2
def rIsiU (K:W.Frag):List V->Hp->VK->Prop:=λxs H Q=>rIsi K xs H Q\/∃(x:V) (p:Addr) (ns:List String) (T:String) (b:Bool),xs=[x,.ref p]/\H p=some (.tup (ns.map V.ty))/\TyOf K H x (.type T)/\PySem.W.kitAny K (.type T) (ns.map Value.type)=some b/\Q (.bl b) H
theorem Zlo {pins:List (Addr × Obj)}{σ:St}{H:Hp}{s:Shared}{x:V}{u t:Value}(I:Inv X pins σ H s) (rx:RelV x u) (ty:TyOf X.K H x t) (nt:∃T,t=.type T):∃Hh:Heap->Prop,PySem.W.KitX X.K u t Hh/\Hh s.heap/\u≠.builtin "__main__.__loader__#opaque":=by
 cases ty with
 |non=>cases (show u=Value.none from rx);exact⟨_,PySem.W.kitx_none,True.intro,λz=>nomatch z⟩
 |bl y=>cases (show u=Value.bool y from rx);exact⟨_,PySem.W.kitx_bool,True.intro,λz=>nomatch z⟩
 |int i=>obtain⟨t,q⟩:=(show ∃t,u=Value.int i t from rx);cases q;exact⟨_,PySem.W.kitx_int,True.intro,λz=>nomatch z⟩
 |str y=>obtain⟨t,q⟩:=(show ∃t,u=Value.str y t from rx);cases q;exact⟨_,PySem.W.kitx_str,True.intro,λz=>nomatch z⟩
 |flt y=>obtain⟨t,q⟩:=(show ∃t,u=Value.float y t from rx);cases q;exact⟨_,PySem.W.kitx_float,True.intro,λz=>nomatch z⟩
 |@lst a xs ea=>
  cases (show u=Value.ref a from rx);obtain⟨_,_,n,_,h1⟩:=(show ObjOk X.prog X.w H s.heap a (.lst xs) from I.hok a _ ea);exact⟨_,PySem.W.kitx_list,⟨_,h1,rfl⟩,λz=>nomatch z⟩
 |@frz a ob xs ea=>
  cases (show u=Value.ref a from rx);obtain⟨_,_,_,n,_,h1⟩:=(show ObjOk X.prog X.w H s.heap a (.frz ob (.lst xs)) from I.hok a _ ea);exact⟨_,PySem.W.kitx_list,⟨_,h1,rfl⟩,λz=>nomatch z⟩
 |@tup a xs ea=>
  cases (show u=Value.ref a from rx);obtain⟨_,_,_,p⟩:=(show ObjOk X.prog X.w H s.heap a (.tup xs) from I.hok a _ ea);obtain⟨o,h1,⟨h2,_⟩,_⟩:=p;exact⟨_,PySem.W.kitx_tuple,⟨o,h1,h2⟩,λz=>nomatch z⟩
 |@dK a kvs ea=>
  cases (show u=Value.ref a from rx);obtain⟨_,_,vs,_,p⟩:=(show ObjOk X.prog X.w H s.heap a (.dK kvs) from I.hok a _ ea);obtain⟨o,es,ep,h1,h2,_⟩:=p;exact⟨_,PySem.W.kitx_dict,⟨o,h1,h2.1⟩,λz=>nomatch z⟩
 |@dT a kvs ea=>
  cases (show u=Value.ref a from rx);obtain⟨_,_,xs,_,o,es,ep,h1,h2,_⟩:=(show ObjOk X.prog X.w H s.heap a (.dT kvs) from I.hok a _ ea);exact⟨_,PySem.W.kitx_dict,⟨o,h1,h2.1⟩,λz=>nomatch z⟩
 |@ins a C dx fs ea cl ha hn htk hm=>obtain⟨T,e⟩:=nt;cases e
theorem isiUK (K:W.Frag) (hK:X.K=K:=by rfl):CallR X (.builtin "isinstance") (rIsiU K):=by
 subst hK;refine CallR.or Zja ?_;intro pins s σ H xs us Q I r h;obtain⟨x,p,ns,T,b,rfl,hp,ty,e,q⟩:=h;obtain⟨u,u',rfl,rx,rn⟩:=vals2 r;cases (show u'=Value.ref p from rn);obtain⟨Hh,Z,hz,hne⟩:=Zlo I rx ty ⟨T,rfl⟩;obtain⟨_,its,rv,o,ho,⟨hc,n,hd⟩,hdd⟩:=I.hok p _ hp;have hv:∀(ns:List String) (its:List Value),Vals (ns.map V.ty) its->its=ns.map Value.type:=by
  intro ns
  induction ns with
  |nil=>intro its h;cases h;rfl
  |cons b r ih=>intro its h;cases h with|cons h1 h2=>cases (show _=Value.type b from h1);rw[ih _ h2];rfl
 have e2:=hv ns its rv;subst e2;obtain⟨cls,dd,data,sl⟩:=o;simp only at hc hd hdd;subst hc hd hdd;exact PySem.W.kia_tup Z I.kIn hz ho e hne λtk=>⟨.bl b,H,I.tok _,rfl,q⟩
end
section
variable {K:W.Frag}{Δ:Evt}
theorem Zp6 {b:Bool}{G:Hp}{l1 l2:Addr}{xs ys:List V}{ds es:List D}(h1:∀G1 H1,Same G G1->Same G1 H1->SqB b K H1 l1 xs) (h2:∀G1 H1,Same G G1->Same G1 H1->SqB b K H1 l2 ys) (r1:Reps K G xs ds) (r2:Reps K G ys es) (hl:ds.length=es.length) :
  ItOk K G (Izb b K l1 l2) ((ds.zip es).map λp=>D.tup [p.1,p.2]):=λG1 H1 sg sh=>by
 have hl1:=r1.length;have hl2:=r2.length;have e1:=h1 G1 H1 sg sh;have e2:=h2 G1 H1 sg sh;refine⟨⟨xs,ys,e1,e2,.inl (by rw[Wab,Wcv];omega)⟩,λi d hd=>?_⟩;rw[Wad]at hd;cases q:(ds.zip es)[i]? with
 |none=>rw[q]at hd;cases hd
 |some pr=>
  rw[q]at hd;have hd:D.tup [pr.1,pr.2]=d:=by simpa using hd
  subst hd;rw[Wbh]at q;obtain⟨u,hu,ru⟩:=r1.get q.1;obtain⟨v,hv,rv⟩:=r2.get q.2;refine⟨⟨xs,ys,u,v,e1,e2,hu,hv⟩,λx H2 ⟨p,a,b',hp,ex,eH,hab⟩=>?_⟩;obtain⟨ha,hb⟩:=hab xs ys e1 e2;rw[hu]at ha;rw[hv]at hb;cases ha;cases hb;subst ex;subst eH;have hG:G1 p=none:=by
   cases z:G1 p with
   |none=>rfl
   |some o=>rw[sh _ _ z]at hp;cases hp
  refine⟨upd G1 p (.tup [u,v]),λc o e=>by rw[Zao (Zas e hG)];exact e,λc o e=>by rw[Zao (Zas e hp)];exact e,λc o e=>?_,?_⟩
  ·by_cases hc:c=p
   ·subst hc;rw[Zan]at e ⊢;exact⟨e,.inr hp⟩
   ·rw[Zao hc]at e ⊢;exact⟨sh c o e,.inl e⟩
  ·have sg2:Same G1 (upd G1 p (.tup [u,v])):=λc o e=>by rw[Zao (Zas e hG)];exact e
   exact .tup Zan (.cons ((ru.mono sg).mono sg2) (.cons ((rv.mono sg).mono sg2) .nil))
theorem Zsa {ta:TA}{P:List D->Evt->Prop}(h:JA K ta Δ λds Δ1=>∃as bs,ds=[.tup as,.tup bs]/\as.length=bs.length/\P ((as.zip bs).map λp=>D.tup [p.1,p.2]) Δ1):JI K (iZip K ta) Δ P:=λg G H σ R k c=>
 h g G H σ _ k λvs ds G1 H1 Δ1 k1 s1 r1 hq_=>by
  obtain⟨as,bs,e,hl,p1⟩:=hq_;subst e;obtain⟨_,_,rfl,ra,rr⟩:=r1.inv
  next=>
   obtain⟨_,_,rfl,rb,rr⟩:=rr.inv
   next=>
    cases rr.inv;obtain⟨_,_,rfl,ha,rsa⟩:=ra.inv
    next=>
     obtain⟨_,_,rfl,hb,rsb⟩:=rb.inv
     next=>
      exact⟨true,_,_,rfl,⟨_,SqT.of (k1.live _ _ ha)⟩,⟨_,SqT.of (k1.live _ _ hb)⟩,c _ _ G1 H1 Δ1 k1 s1 (Zp6 (λ_ _ sg sh=>SqT.of (sh _ _ (sg _ _ ha))) (λ_ _ sg sh=>SqT.of (sh _ _ (sg _ _ hb))) rsa rsb hl) p1⟩
theorem Zu4 {bs:List Bool}{P:D->Evt->Prop}(p:P (.bl (bs.all id)) Δ):JC K (rAll K) [.lst (bs.map D.bl)] Δ P:=λg G H σ Q vs k rs c=>by
 obtain⟨_,_,rfl,r,t⟩:=rs.inv
 next=>
  cases t.inv;obtain⟨a,ws,rfl,ha,rs⟩:=r.inv
  next=>
   have e:∀(bs:List Bool) (ws:List V),Reps K G ws (bs.map D.bl)->ws=bs.map V.bl:=by
    intro bs
    induction bs with
    |nil=>intro ws h;cases h;rfl
    |cons b r ih=>intro ws h;cases h with|cons h1 h2=>cases h1;rw[ih _ h2];rfl
   have:=e bs ws rs;subst this;exact⟨_,bs,rfl,SqL.of (k.live _ _ ha),c _ _ G H Δ k (Same.refl _) (.bl _) p⟩
theorem Zen {d:D}{n T:String}{b:Bool}{P:D->Evt->Prop}(ht:tyD d=some T) (e:∀K,PySem.W.kitOne K (.type T) (.type n)=some b) (p:P (.bl b) Δ):JC K (rIsiU K) [d,.ty n] Δ P:=λg G H σ Q vs k rs c=>.inl (Zvr ht e p g G H σ Q vs k rs c)
end
section
variable {X:Cx}
def rMin1 (K:W.Frag):List V->Hp->VK->Prop:=λxs H Q=>∃(b:Bool) (p:Addr) (ns:List Int),xs=[.ref p]/\SqB b K H p (ns.map V.int)/\0<ns.length/\∀m,m∈ns->(∀a∈ns,m<=a)->Q (.int m) H
theorem minK (K:W.Frag) (hc:X.calm=true) (hK:X.K=K:=by rfl):CallR X (.builtin "min") (rMin1 K):=by
 subst hK;intro pins s σ H xs us Q I r h;obtain⟨b,p,ns,rfl,hx,hne,q⟩:=h;obtain⟨u,rfl,ru⟩:=vals1 r;cases (show u=Value.ref p from ru);obtain⟨its,w1,p1⟩:=I.seqB hx;have hlt:=p1.lt;have hl:=w1.length;rw[Wab]at hl;have hv:∀(i:Nat) v,its.toArray[i]?=some v->∃t,v=Value.int (ns.getD i 0) t:=λi v e=>by
  have hi:i<its.length:=by simpa using (Array.getElem?_eq_some_iff.mp e).1
  obtain⟨v',e1,t,e2⟩:=w1.get (i:=i) (x:=.int (ns.getD i 0)) (by rw[Wad,Wac,Waa (by omega)];rfl);rw[Wc6,e1]at e;cases e;exact⟨t,e2⟩
 have fin:∀{h':Heap}{tk:Nat}{v:Value},its.toArray[argBest (λi j=>decide (ns.getD i 0<ns.getD j 0)) (its.toArray.size-1)]?=some v->(∀c o,s.heap.get? c=some o->h'.get? c=some o)->EP X pins σ Q v { s with heap:=h',toks:=tk }:=λ{h' tk v} hP hk=>by
  obtain⟨t,rfl⟩:=hv _ _ hP;obtain⟨h1,h2⟩:=argBest_lt (λi=>ns.getD i 0) (its.toArray.size-1);have hz:its.toArray.size=ns.length:=by simp[hl]
  rw[hz]at h1 h2 ⊢;refine⟨.int (ns.getD (argBest (λi j=>decide (ns.getD i 0<ns.getD j 0)) (ns.length-1)) 0),H,I.kept hk,⟨_,rfl⟩,q _ ?_ λa ha=>?_⟩
  ·rw[Wac,Waa (by omega)];exact Wa7 _
  ·obtain⟨j,hj,rfl⟩:=Wbs.mp ha
   have:=h2 j (by omega);rw[Wac (l:=ns) (i:=j),Waa hj]at this;exact this
 have old:∀{o:Obj}{h':Heap},(∀c u,c ∉ [s.heap.objs.size]->(s.heap.push o).get? c=some u->h'.get? c=some u)->∀c u,s.heap.get? c=some u->h'.get? c=some u:=λhk c u e=>hk c u (λhm=>by
  have:c=s.heap.objs.size:=by simpa using hm
  exact absurd (this ▸ Wap e) (Wc1 _)) (Wae _ e)
 have fp:∀o:Obj,∀c∈[s.heap.objs.size,p],c<(s.heap.push o).objs.size:=λo c hc=>by
  rw[Wcl];simp only[Wat,Wb6,or_false]at hc;rcases hc with rfl|rfl
  ·exact Nat.lt_succ_self _
  ·exact Wbr hlt
 cases b
 ·refine call_min_walk (wpAny_pyIter_list p1 ?_)
  exact⟨_,_,_,_,_,_,_,rfl,Walks.list (A:=X.A.in1) (I.ok.hd hc) _ p (Waw hlt) its.toArray,⟨⟨_,Wal _ rfl,rfl,rfl⟩,Heap.IsList.push p1 _⟩,fp _,by simp;omega,CmpOf.ints_lt (λi=>ns.getD i 0) hv,λv h' tk hP hk=>fin hP (old hk)⟩
 ·refine call_min_walk (wpAny_pyIter_tuple p1 ?_)
  exact⟨_,_,_,_,_,_,_,rfl,Walks.tuple (A:=X.A.in1) (I.ok.hd hc) _ p (Waw hlt) its.toArray,⟨⟨_,Wal _ rfl,rfl,rfl⟩,Heap.IsTuple.push p1 _⟩,fp _,by simp;omega,CmpOf.ints_lt (λi=>ns.getD i 0) hv,λv h' tk hP hk=>fin hP (old hk)⟩
end
section
variable {K:W.Frag}{Δ:Evt}
theorem Ztv {ns:List Int}{m:Int}{d:D}{P:D->Evt->Prop}(hd:d=.lst (ns.map .int)\/d=.tup (ns.map .int)) (hm:m∈ns) (hle:∀a∈ns,m<=a) (p:P (.int m) Δ):JC K (rMin1 K) [d] Δ P:=λg G H σ Q vs k rs c=>by
 have fin:∀m',m'∈ns->(∀a∈ns,m' <= a)->Q (.int m') H:=λm' h1 h2=>by
  have:m'=m:=Int.le_antisymm (h2 m hm) (hle m' h1);subst this;exact c _ _ G H Δ k (Same.refl _) (.int _) p
 have pos:0<ns.length:=Wcf hm;obtain⟨_,_,rfl,r,t⟩:=rs.inv
 next=>
  cases t.inv;rcases hd with hd|hd <;> subst hd
  ·obtain⟨_,_,rfl,ha,rs⟩:=r.inv
   next=>have:=rs.ints;subst this;exact⟨false,_,ns,rfl,SqL.of (k.live _ _ ha),pos,fin⟩
  ·obtain⟨_,_,rfl,ha,rs⟩:=r.inv
   next=>have:=rs.ints;subst this;exact⟨true,_,ns,rfl,SqT.of (k.live _ _ ha),pos,fin⟩
end
open PySem PySem.Spec PyProof.Rows PySem.SeqAt
section
variable {prog:Program}{w:World}{A:Around}{E:Value->Shared->Prop}{s:Shared}
def KeepBut (a:Addr) (h h':Heap):Prop:=∀b o,b≠a->h.get? b=some o->h'.get? b=some o
end
def RowAt (h:Heap) (v:Value) (r:List Int):Prop:=∃(a:Addr) (its:List Value),v=.ref a/\IsTup h a its.toArray/\IntsAre its r
theorem RowAt.keep {h h':Heap}{v:Value}{r:List Int}(x:RowAt h v r) (k:∀b o,h.get? b=some o->h'.get? b=some o):RowAt h' v r:=by
 obtain⟨a,its,e,⟨o,ho,hc⟩,i⟩:=x;exact⟨a,its,e,⟨o,k a o ho,hc⟩,i⟩
theorem Ze5 {its:List Value}{x:Int}{r:List Int}(h:IntsAre its (x::r)):∃t us,its=.int x t::us/\IntsAre us r:=by
 cases its with
 |nil=>have:=h.length;simp at this
 |cons v us=>
  cases h with
  |cons _ _ b=>exact⟨_,_,rfl,b⟩
theorem Zjh {its:List Value}(h:IntsAre its []):its=[]:=by
 cases its with
 |nil=>rfl
 |cons v us=>have:=h.length;simp at this
section
variable {prog:Program}{w:World}{A:Around}{E:Value->Shared->Prop}{s:Shared}
theorem Zd0:∀(vs:List Value) (rs:List (List Int)) {Q:List (Option Value)->Shared->Prop},Paired (RowAt s.heap) vs rs →
  (∀fs:List (Option Value),Paired (λ(f:Option Value) (r:List Int)=>(r=[]/\f=none)\/∃x t l,r=x::l/\f=some (.int x t)) fs rs->Q fs s)->wpAny (model prog w) A (vs.mapM firstOfTuple') Q E s
 |[],[],_,_,h=>by rw[List.mapM_nil];exact wpAny_pure (h [] .nil)
 |v::vs,r::rs,Q,.cons p t,h=>by
  obtain⟨a,its,rfl,⟨o,ho,hc,n,hd⟩,hi⟩:=p;rw[List.mapM_cons];refine wpAny_bind ?_;rw[PySem.W.kas_first_eq];refine wpAny_bind (PySem.W.Looks.here (show PySem.W.Looks (model prog w) s.heap (typeOf (.ref a)) o.cls from (PySem.W.Looks.ld ho).andThen .now) ?_);rw[hc,if_neg (by first|decide|simp)];refine wpAny_bind (listItems_at ho hd (wpAny_pure ?_));refine wpAny_bind (Zd0 vs rs (Q:=λbs s'=>wpAny _ A (pure (its.toArray[0]?::bs)) Q E s') t λfs pf=>wpAny_pure (h _ (.cons ?_ pf)));cases r with
  |nil=>rw[Zjh hi];exact .inl ⟨rfl,rfl⟩
  |cons x l=>
   obtain⟨t,us,rfl,_⟩:=Ze5 hi;exact .inr ⟨x,t,l,rfl,by simp⟩
theorem Zla {vs:List Value}{rs:List (List Int)}(p:Paired (RowAt s.heap) vs rs):∀v∈vs,PySem.W.Looks (model prog w) s.heap (typeOf v) (.type "tuple"):=by
 intro v hv
 induction p with
 |nil=>cases hv
 |cons q t ih=>
  rcases Wat.mp hv with e|hv
  ·subst e
   obtain⟨a,its,rfl,⟨o,ho,hc,_⟩,_⟩:=q;have z:PySem.W.Looks (model prog w) s.heap (typeOf (.ref a)) o.cls:=(PySem.W.Looks.ld ho).andThen .now;rw[hc]at z;exact z
  ·exact ih hv
theorem Zlz {vs:List Value}{rs:List (List Int)}{Q:SortKind->Shared->Prop}(p:Paired (RowAt s.heap) vs ([]::rs)) (h:Q oneType' s):wpAny (model prog w) A (keyKind' vs.toArray) Q E s:=by
 have hT:=Zla (prog:=prog) (w:=w) p;rw[keyKind'_eq,Wd6,map_eq_pure_bind];refine wpAny_bind (wpAny_bind (Zd0 vs _ p λfs pf=>wpAny_pure ?_));cases pf with
 |@cons f _ fs _ hf _=>
  have hf:f=none:=by
   rcases hf with z|⟨x,t,l,z,_⟩
   ·exact z.2
   ·cases z
  subst hf;rw[if_neg (by simp),if_neg (by simp)];rw[oneTypeOnly'_eq,Wd6,map_eq_pure_bind];refine wpAny_bind (wpAny_bind (wpAny_bind (PySem.W.kas_mapM (r:=.type "tuple") _ (λv hv Q' hq=>(hT v hv).here hq) (wpAny_pure ?_))));cases p with
  |@cons v _ vs _ _ _=>
   have hall:((Wbp (λ_=>Value.type "tuple") (v::vs)).toArray.all λx=>x == Value.type "tuple")=true:=by
    simp only[List.all_toArray,Wd8,Wbg];intro _ _;exact(by decide:(Value.type "tuple" == Value.type "tuple")=true)
   have h0:(Wbp (λ_=>Value.type "tuple") (v::vs)).toArray[0]?=some (Value.type "tuple"):=by simp
   rw[h0];simp only[hall,if_true];exact wpAny_pure (wpAny_pure h)
theorem Zls {vs:List Value}{rs:List (List Int)}{Q:SortKind->Shared->Prop}(p:Paired (RowAt s.heap) vs rs) (hne:∀r∈rs,r≠[]) (h1:rs≠[]) (h:Q (tuples' true) s):wpAny (model prog w) A (keyKind' vs.toArray) Q E s:=by
 have ex:∃fs:List Value,PySem.W.KatTups s.heap vs fs/\fs.length=rs.length/\∀v∈fs,PySem.W.Looks (model prog w) s.heap (typeOf v) (.type "int"):=by
  clear h h1
  induction p with
  |nil=>exact⟨[],trivial,rfl,λ_ h=>nomatch h⟩
  |@cons v r vs rs q t ih=>
   obtain⟨fs,k1,k2,k3⟩:=ih λr hr=>hne r (Wax _ hr);obtain⟨a,its,rfl,⟨o,ho,hc,n,hd⟩,hi⟩:=q;cases r with
   |nil=>exact absurd rfl (hne [] Wa0)
   |cons x l=>
    obtain⟨tk,us,rfl,_⟩:=Ze5 hi;refine⟨.int x tk::fs,.cons ho hc hd (by simp) k1,by rw[War,War,k2],λv hv=>?_⟩;rcases Wat.mp hv with e|hv
    ·subst e;exact .now
    ·exact k3 v hv
 obtain⟨fs,k1,k2,k3⟩:=ex;have hpos:0<rs.length:=Wd1.mpr h1;exact PySem.W.kat_kind k1 (by omega) k3 (by decide) h
end
section
variable {X:Cx}
def rInU (K:W.Frag) (neg:Bool):R2:=λx y H Q=>rIn K neg x y H Q\/(∃a o,y=.ref a/\DGet H a x o/\Q (.bl (if neg then !o.isSome else o.isSome)) H) ∨
 ∃a S n i,y=.ref a/\x=.int i/\H a=some (.set S n)/\Q (.bl (if neg then !S i else S i)) H
theorem notinK (K:W.Frag) (hu:X.A.units+1<cLine) (hK:X.K=K:=by rfl):OpR X (compareOp .NotIn) (rInU K true):=by
 subst hK;intro pins s σ H x y v u Q I rx ry h;rcases h with h|⟨a,o,rfl,hd,q⟩|⟨a,S,n,i,rfl,rfl,hs,q⟩
 ·exact Zij pins s σ H x y v u Q I rx ry h
 ·cases ry
  exact Zsr hu I hd rx λs' I'=>⟨.bl _,H,I',rfl,q⟩
 ·cases ry
  obtain⟨t,rfl⟩:=rx;exact wpAny_notInSet_of (knd:=intKind X.prog X.w) (k:=i) (by simp[intKind,Value.isInt]) rfl (I.hok a _ hs) ⟨.bl _,H,I.tok _,rfl,q⟩
def rIndexL (K:W.Frag):V->List V->Hp->VK->Prop:=λx vs H Q=>∃(a:Addr) (ns:List Int) (i:Int),x=.ref a/\vs=[.int i]/\SqL K H a (ns.map V.int)/\ns.length<=1000/\i∈ns/\Q (.int (ns.idxOf i:Nat)) H
theorem idxLK (K:W.Frag) (hK:X.K=K:=by rfl):MtM X "list.index" (rIndexL K):=by
 subst hK;intro pins s σ H x vs v us Q I rx rv h;obtain⟨a,ns,i,rfl,rfl,hx,hl,hm,q⟩:=h;cases rx;obtain⟨u,rfl,ru⟩:=rv.one;obtain⟨t,rfl⟩:=ru;obtain⟨its,r,pl,hz⟩:=I.list hx;have hi:=Zc5 r;have hlen:=hi.length;obtain⟨⟨cls,dd,data,sl⟩,ho,hc,n,hd⟩:=pl.isList;simp only at hc hd;subst hc hd;have hj:ns.idxOf i<ns.length:=List.idxOf_lt_length_iff.mpr hm;refine call_meets PySem.F.slot_list_index ⟨_,ho,rfl⟩ PySem.F.entry_list_index (PySem.F.args_list_index_2 _ _)
  (list_indexAt a its.toArray n dd sl (.int i t) (isInt i) (ns.idxOf i) (by simpa [hlen] using hj) (by omega) ?_ ?_) ⟨ho,λy hy=>(eq_isInt i t hi y (by simpa using hy)).at _ _,⟨.int _,H,I.tok _,⟨_,rfl⟩,q⟩⟩
 ·show isInt i its[ns.idxOf i]=true
  rw[isInt_at i hi _ (by omega) hj];simpa using List.getElem_idxOf hj
 ·intro j hjs hlt
  show isInt i its[j]=false;rw[isInt_at i hi j (by simpa using hjs) (by omega)];exact ne_of_lt_idxOf hlt _
theorem Zjy {pins:List (Addr × Obj)}{σ:St}{H:Hp}{s:Shared}(I:Inv X pins σ H s):∀{us:List V}{its:List Value}{rs:List (List Int)},Vals us its->Paired (λ(u:V) (r:List Int)=>∃a,u=.ref a/\SqT X.K H a (r.map V.int)) us rs->Paired (RowAt s.heap) its rs
 |_,_,_,.nil,.nil=>.nil
 |_,_,_,.cons r t,.cons p q=>by
  obtain⟨a,rfl,hs⟩:=p;cases r;obtain⟨its,r',pl,_⟩:=I.tuple hs;exact .cons ⟨a,its,rfl,pl,Zc5 r'⟩ (Zjy I t q)
theorem Paired.len {R:Value->List Int->Prop}:∀{vs:List Value}{rs:List (List Int)},Paired R vs rs->vs.length=rs.length
 |_,_,.nil=>rfl
 |_,_,.cons _ t=>by rw[War,War,Paired.len t]
theorem Paired.up {R R':Value->List Int->Prop}(f:∀v r,R v r->R' v r):∀{vs:List Value}{rs:List (List Int)},Paired R vs rs->Paired R' vs rs
 |_,_,.nil=>.nil
 |_,_,.cons p t=>.cons (f _ _ p) (Paired.up f t)
end
section
variable {K:W.Frag}{Δ:Evt}{P:D->Evt->Prop}
theorem Zii {G:Hp}{k:Key}:∀{kvs:List (Key × V)}{kds:List (Key × D)},Paired (λ(p:Key × V) (q:Key × D)=>p.1=q.1/\Rep K G p.2 q.2) kvs kds->(valV kvs k).isSome=(valD kds k).isSome
 |_,_,.nil=>rfl
 | (k1,v1)::kvs,(k2,d2)::kds,.cons ⟨e,r⟩ t=>by
  have e:k1=k2:=e;subst e;have ih:=Zii (k:=k) t;unfold valV valD at ih ⊢;by_cases h:k1=k
  ·rw[Wdr (by simpa using h),Wdr (by simpa using h)];rfl
  ·rw[Wct (by simpa using h),Wct (by simpa using h)];exact ih
theorem Zt0 {neg:Bool}{n:Nat}{ta:TE}(h:JE K ta Δ λd Δ1=>∃x kvs i,Δ1[n]?=some x/\x.od=some (.dct kvs)/\d=.int i/\P (.bl (if neg then !(valD kvs (.inl i)).isSome else (valD kvs (.inl i)).isSome)) Δ1):JE K (tOp (rInU K neg) ta (tVar n)) Δ P:=λg G H σ Q k c=>
 h g G H σ _ k λv d G1 H1 Δ1 k1 s1 r1 hq_=>by
  obtain⟨x,kvs,i,q1,q2,q3,p⟩:=hq_;subst q3;cases r1.inv;obtain⟨a,o,w1,w2,w3,w4,w5⟩:=k1.own n x _ q1 q2;cases o with
  |dK vs=>
   refine⟨.ref a,w1,.inr (.inl ⟨a,_,rfl,DGet.k (k:=Sum.inl i) w2,?_⟩)⟩;rw[Zii (K:=K) (G:=G1) w3];exact c _ _ G1 H1 Δ1 k1 s1 (.bl _) p
  |_=>exact absurd w3 (λz=>z)
theorem Zo3 (i:Int) (ns:List Int):inV (.int i) (ns.map V.int)=decide (i∈ns):=by
 unfold inV;rw[List.any_map]
 induction ns with
 |nil=>rfl
 |cons n ns ih=>
  rw[Wc0,ih];show ((n == i) || decide (i∈ns))=_;by_cases h:n=i
  ·subst h;simp
  ·rw[beq_eq_false_iff_ne.mpr h,Bool.false_or]
   have:(i∈n::ns)↔i∈ns:=by simp[Ne.symm h]
   exact decide_eq_decide.mpr this.symm
theorem Zm2 (ns:List Int):(ns.map V.int).all flatV=true:=by rw[Wd8];exact Wbg.mpr λ_ _=>rfl
theorem Zej {to te:TE}(h:JE K to Δ λd Δ1=>∃ns:List Int,d=.lst (ns.map D.int)/\ns.length<=1000/\JE K te Δ1 λe Δ2=>∃i,e=.int i/\i∈ns/\P (.int (ns.idxOf i:Nat)) Δ2) :
  JE K (tBM K "list" (rIndexL K) to (tCons te tNil)) Δ P:=λg G H σ Q k c=>
 h g G H σ _ k λv d G1 H1 Δ1 k1 s1 r1 hq_=>by
  obtain⟨ns,e,hl,p1⟩:=hq_;subst e;obtain⟨a,vs,rfl,ha,rs⟩:=r1.inv
  next=>
   refine⟨.inl ⟨rfl,_,SqL.of (k1.live _ _ ha)⟩,p1 g G1 H1 σ _ k1 λu e G2 H2 Δ2 k2 s2 r2 ⟨i,q1,q2,p⟩=>?_⟩;subst q1;cases r2.inv;have ev:vs=ns.map V.int:=rs.ints;subst ev;exact⟨a,ns,i,rfl,rfl,SqL.of (k2.live _ _ (s2 _ _ ha)),hl,q2,c _ _ G2 H2 Δ2 k2 (s1.trans s2) (.int _) p⟩
def rowD (r:List Int):D:=.tup (r.map D.int)
theorem Zj6 {G H:Hp}(l:Same G H):∀{vs:List V}{rs:List (List Int)},Reps K G vs (rs.map rowD)->Paired (λ(u:V) (r:List Int)=>∃a,u=.ref a/\SqT K H a (r.map V.int)) vs rs
 |[],[],_=>.nil
 |[],_::_,h=>by cases h
 |_::_,[],h=>by cases h
 |v::vs,r::rs,h=>by
  cases h with
  |cons r1 t=>
   obtain⟨a,us,rfl,ha,rr⟩:=r1.inv
   next=>
    have ev:=rr.ints;subst ev;exact .cons ⟨a,rfl,SqT.of (l _ _ ha)⟩ (Zj6 l t)
end
theorem Zk2 {A:Around}{k:Nat}(hr:Room k A):A.units+8<cLine:=Wcu (Nat.add_le_add_left (by decide:8<=64) _) hr.units
open PySem PySem.Spec PyProof.Rows PySem.SeqAt
def flatD:D->Option V
 |.non=>some .non
 |.bl b=>some (.bl b)
 |.int i=>some (.int i)
 |.str x=>some (.str x)
 |_=>none
def eqFlat (d e:D):Bool:=match flatD d,flatD e with
 |some x,some y=>eqV x y
 |_,_=>false
def eqF:Nat->D->D->Bool
 |0,_,_=>false
 |n+1,.tup xs,.tup ys=>xs.length == ys.length && (xs.zip ys).all λp=>eqF n p.1 p.2
 |n+1,.lst xs,.lst ys=>xs.length == ys.length && (xs.zip ys).all λp=>eqF n p.1 p.2
 |_+1,d,e=>eqFlat d e
def Dp:Nat->D->Prop
 |0,_=>False
 |_+1,.int _=>True
 |n+1,.tup xs=>∀d∈xs,Dp n d
 |n+1,.lst xs=>∀d∈xs,Dp n d
 |_,_=>False
theorem Rep.uniq {K:W.Frag}{G:Hp}:∀(n:Nat) {v:V}{d e:D},Rep K G v d->Rep K G v e->Dp n d->Dp n e->d=e
 |0,_,_,_,_,_,h,_=>h.elim
 |n+1,v,d,e,hd,he,pd,pe=>by
  have all:∀{vs:List V}{xs ys:List D},Reps K G vs xs->Reps K G vs ys->(∀d∈xs,Dp n d)->(∀d∈ys,Dp n d)->xs=ys:=by
   intro vs
   induction vs with
   |nil=>intro xs ys h1 h2 _ _;cases h1;cases h2;rfl
   |cons v vs ih=>
    intro xs ys h1 h2 p1 p2;cases h1 with
    |cons a1 b1=>
     cases h2 with
     |cons a2 b2=>
      rw[Rep.uniq n a1 a2 (p1 _ Wa0) (p2 _ Wa0),ih b1 b2 (λd hd=>p1 d (Wax _ hd)) λd hd=>p2 d (Wax _ hd)]
  cases d with
  |int i=>cases hd;cases he;rfl
  |tup xs=>
   cases hd with
   |tup ha ra=>
    cases e with
    |tup ys=>cases he with|tup hb rb=>rw[ha]at hb;cases hb;rw[all ra rb pd pe]
    |lst ys=>cases he with|lst hb rb=>rw[ha]at hb;cases hb
    |int i=>cases he
    |_=>exact pe.elim
  |lst xs=>
   cases hd with
   |lst ha ra=>
    cases e with
    |lst ys=>cases he with|lst hb rb=>rw[ha]at hb;cases hb;rw[all ra rb pd pe]
    |tup ys=>cases he with|tup hb rb=>rw[ha]at hb;cases hb
    |int i=>cases he
    |_=>exact pe.elim
  |_=>exact pd.elim
theorem Zhs:∀(n:Nat) (d:D),Dp n d->eqF n d d=true
 |0,_,h=>h.elim
 |n+1,.int i,_=>by show (i == i)=true;simp
 |n+1,.tup xs,h=>by
  show (xs.length == xs.length && (xs.zip xs).all λp=>eqF n p.1 p.2)=true;rw[beq_self_eq_true,Wdl,Wbg];intro p hp;obtain⟨i,hi⟩:=Wbn.mp hp;rw[Wbh]at hi;have e:p.1=p.2:=Wa4.inj (hi.1.symm.trans hi.2);rw[<- e];exact Zhs n _ (h _ (Waq hi.1))
 |n+1,.lst xs,h=>by
  show (xs.length == xs.length && (xs.zip xs).all λp=>eqF n p.1 p.2)=true;rw[beq_self_eq_true,Wdl,Wbg];intro p hp;obtain⟨i,hi⟩:=Wbn.mp hp;rw[Wbh]at hi;have e:p.1=p.2:=Wa4.inj (hi.1.symm.trans hi.2);rw[<- e];exact Zhs n _ (h _ (Waq hi.1))
 |_+1,.non,h=>h.elim
 |_+1,.bl _,h=>h.elim
 |_+1,.str _,h=>h.elim
 |_+1,.ty _,h=>h.elim
 |_+1,.scr _,h=>h.elim
 |_+1,.adr _,h=>h.elim
 |_+1,.dct _ _,h=>h.elim
 |_+1,.exc _ _,h=>h.elim
def atZip (n:Nat) (xs ys:List D) (j:Nat):Bool:=match xs[j]?,ys[j]? with
 |some a,some b=>eqF n a b
 |_,_=>false
theorem Zjz (n:Nat):∀(xs ys:List D),(Wau (min xs.length ys.length)).all (atZip n xs ys)=(xs.zip ys).all λp=>eqF n p.1 p.2
 |[],ys=>by simp
 |_::_,[]=>by simp
 |x::xs,y::ys=>by
  rw[War,War,Nat.succ_min_succ,List.range_succ_eq_map,Wdk,Wd8,Wci,Wdk,<- Zjz n xs ys];rfl
section
variable {X:Cx}
theorem Zot:∀(n:Nat) {A:Around}{pins:List (Addr × Obj)}{σ:St}{H G:Hp}{s:Shared}{x y:V}{v u:Value}{d e:D},Inv X pins σ H s->Same G H->Rep X.K G x d->Rep X.K G y e->RelV x v->RelV y u->Dp n d->Dp n e->A.units+n<cLine →
  EqAt A s v u (eqF n d e)/\(∀a b,v=.ref a->u=.ref b->RcAt A s v u (eqF n d e))
 |0,_,_,_,_,_,_,_,_,_,_,_,_,_,_,_,_,_,_,h,_,_=>h.elim
 |n+1,A,pins,σ,H,G,s,x,y,v,u,d,e,I,sg,rx,ry,rv,ru,pd,pe,hu=>by
  have hu0:A.units<cLine:=by omega
  have hu1:A.in1.units+n<cLine:=by show A.units+1+n<cLine;omega
  have items:∀{vs us:List V}{its its2:List Value}{xs ys:List D},Vals vs its->Vals us its2->Reps X.K G vs xs->Reps X.K G us ys->(∀d∈xs,Dp n d)->(∀d∈ys,Dp n d) →
    ∀j (h1:j<its.toArray.size) (h2:j<its2.toArray.size),EqAt A.in1 s its.toArray[j] its2.toArray[j] (atZip n xs ys j):=by
   intro vs us its its2 xs ys w1 w2 r1 r2 p1 p2 j h1 h2;have l1:=w1.length;have l2:=r1.length;have l3:=w2.length;have l4:=r2.length;have h1':j<its.length:=by simpa using h1
   have h2':j<its2.length:=by simpa using h2
   have hx:j<xs.length:=by omega
   have hy:j<ys.length:=by omega
   obtain⟨a,ha1,ha2⟩:=r1.get (Waa hx);obtain⟨b,hb1,hb2⟩:=r2.get (Waa hy);obtain⟨va,hv1,hv2⟩:=w1.get ha1;obtain⟨vb,hw1,hw2⟩:=w2.get hb1;have e1:its.toArray[j]=va:=by
    rw[Waa h1']at hv1;simpa using Wa4.inj hv1
   have e2:its2.toArray[j]=vb:=by
    rw[Waa h2']at hw1;simpa using Wa4.inj hw1
   have e3:atZip n xs ys j=eqF n xs[j] ys[j]:=by unfold atZip;rw[Waa hx,Waa hy]
   rw[e1,e2,e3];exact(Zot n I sg ha2 hb2 hv2 hw2 (p1 _ (Wa7 hx)) (p2 _ (Wa7 hy)) hu1).1
  have same:∀a,v=.ref a->u=.ref a->eqF (n+1) d e=true:=λa h1 h2=>by
   have hx:x=.ref a:=by cases x <;> simp[RelV,h1]at rv <;> first|(rw[rv])|skip
   have hy:y=.ref a:=by cases y <;> simp[RelV,h2]at ru <;> first|(rw[ru])|skip
   rw[hx]at rx;rw[hy]at ry;rw[Rep.uniq (n+1) rx ry pd pe];exact Zhs (n+1) e pe
  have lift:(∃a,v=.ref a)->(∃b,u=.ref b)->(∀a b,v=.ref a->u=.ref b->RcAt A s v u (eqF (n+1) d e))->EqAt A s v u (eqF (n+1) d e)/\(∀a b,v=.ref a->u=.ref b->RcAt A s v u (eqF (n+1) d e)):=by
   rintro⟨a,rfl⟩ ⟨b,rfl⟩ h;refine⟨?_,h⟩;by_cases hab:a=b
   ·subst hab
    rw[same a rfl rfl];exact EqAt.same _
   ·exact .of_refs hab (h a b rfl rfl)
  cases d with
  |int i=>
   cases rx;obtain⟨t,rfl⟩:=rv;refine⟨?_,λa b z=>nomatch z⟩;cases e with
   |int j=>
    cases ry;obtain⟨t',rfl⟩:=ru;exact EqAt.int_int i t j t'
   |tup ys=>
    cases ry with
    |tup hb rb=>
     cases ru;obtain⟨its,w1,pl,_⟩:=I.tuple (SqT.of (sg _ _ hb));exact EqAt.int_tuple i t pl hu0
   |lst ys=>
    cases ry with
    |lst hb rb=>
     cases ru;obtain⟨its,w1,pl,_⟩:=I.list (SqL.of (sg _ _ hb));exact EqAt.int_list i t pl.isList hu0
   |_=>exact pe.elim
  |tup xs=>
   cases rx with
   |@tup a vs _ ha ra=>
    cases rv;obtain⟨its,w1,pl,_⟩:=I.tuple (SqT.of (sg _ _ ha));cases e with
    |int j=>
     cases ry;obtain⟨t',rfl⟩:=ru;exact⟨EqAt.tuple_int j t' pl hu0,λa b _ z=>nomatch z⟩
    |tup ys=>
     cases ry with
     |@tup b us _ hb rb=>
      cases ru;obtain⟨its2,w2,pl2,_⟩:=I.tuple (SqT.of (sg _ _ hb));refine lift ⟨_,rfl⟩ ⟨_,rfl⟩ λ_ _ _ _=>?_;have z:=RcAt.tuples (A:=A) (s:=s) pl pl2 hu0 (items w1 w2 ra rb pd pe);have e1:((Wau (min its.toArray.size its2.toArray.size)).all (atZip n xs ys) && its.toArray.size == its2.toArray.size)=eqF (n+1) (.tup xs) (.tup ys):=by
       show _=(xs.length == ys.length && (xs.zip ys).all λp=>eqF n p.1 p.2);rw[<- Zjz,Wag,Wag,<- w1.length,<- w2.length,ra.length,rb.length,Bool.and_comm]
      rw[e1]at z;exact z
    |lst ys=>
     cases ry with
     |@lst b us _ hb rb=>
      cases ru;obtain⟨its2,w2,pl2,_⟩:=I.list (SqL.of (sg _ _ hb));exact⟨EqAt.tuple_list pl pl2.isList hu0,λ_ _ _ _=>RcAt.tuple_list pl pl2.isList hu0⟩
    |_=>exact pe.elim
  |lst xs=>
   cases rx with
   |@lst a vs _ ha ra=>
    cases rv;obtain⟨its,w1,pl,_⟩:=I.list (SqL.of (sg _ _ ha));cases e with
    |int j=>
     cases ry;obtain⟨t',rfl⟩:=ru;exact⟨EqAt.list_int j t' pl.isList hu0,λa b _ z=>nomatch z⟩
    |tup ys=>
     cases ry with
     |@tup b us _ hb rb=>
      cases ru;obtain⟨its2,w2,pl2,_⟩:=I.tuple (SqT.of (sg _ _ hb));exact⟨EqAt.list_tuple pl.isList pl2 hu0,λ_ _ _ _=>RcAt.list_tuple pl.isList pl2 hu0⟩
    |lst ys=>
     cases ry with
     |@lst b us _ hb rb=>
      cases ru;obtain⟨its2,w2,pl2,_⟩:=I.list (SqL.of (sg _ _ hb));refine lift ⟨_,rfl⟩ ⟨_,rfl⟩ λ_ _ _ _=>?_;have l1:=w1.length;have l2:=w2.length;have l3:=ra.length;have l4:=rb.length;by_cases hl:xs.length=ys.length
      ·have hsz:its.toArray.size=its2.toArray.size:=by rw[Wag,Wag];omega
       have z:=RcAt.lists (A:=A) (s:=s) pl.isList pl2.isList hsz hu0 (items w1 w2 ra rb pd pe);have e1:(Wau its.toArray.size).all (atZip n xs ys)=eqF (n+1) (.lst xs) (.lst ys):=by
        show _=(xs.length == ys.length && (xs.zip ys).all λp=>eqF n p.1 p.2);rw[<- Zjz,Wag,hl,beq_self_eq_true,Wdl,Wcy,show its.length=ys.length by omega]
       rw[e1]at z;exact z
      ·have z:=RcAt.lists_lengths (A:=A) (s:=s) pl.isList pl2.isList (by rw[Wag,Wag];simp;omega) hu0
       have e1:eqF (n+1) (.lst xs) (.lst ys)=false:=by
        show (xs.length == ys.length && (xs.zip ys).all λp=>eqF n p.1 p.2)=false;rw[beq_eq_false_iff_ne.mpr hl,Wdy]
       rw[e1];exact z
    |_=>exact pe.elim
  |_=>exact pd.elim
def rEqD (K:W.Frag):R2:=λx y H Q=>∃G d e n,Same G H/\Rep K G x d/\Rep K G y e/\Dp n d/\Dp n e/\n<=5/\(∃a,x=.ref a)/\(∃b,y=.ref b)/\Q (.bl (eqF n d e)) H
theorem eqDK (K:W.Frag) (hv:X.A.units+8<cLine) (hK:X.K=K:=by rfl):OpR X (compareOp .Eq) (rEqD K):=by
 subst hK;intro pins s σ H x y v u Q I rx ry h;obtain⟨G,d,e,n,sg,r1,r2,p1,p2,hn,⟨a,rfl⟩,⟨b,rfl⟩,q⟩:=h;cases rx;cases ry;exact(Zot n I sg r1 r2 rfl rfl p1 p2 (A:=X.A) (by omega)).2 a b rfl rfl X.prog X.w _ _ ⟨.bl _,H,I,rfl,q⟩
theorem Zcx:∀{vs:List Value}{ns:List Int},vs.length=ns.length->(∀(i:Nat) v,vs[i]?=some v->∃t,v=.int (ns.getD i 0) t)->IntsAre vs ns
 |[],[],_,_=>.nil
 |[],_::_,h,_=>by simp at h
 |_::_,[],h,_=>by simp at h
 |v::vs,n::ns,h,g=>by
  obtain⟨t,rfl⟩:=g 0 v rfl;exact .cons n t (Zcx (by simpa using h) λi u e=>by simpa using g (i+1) u (by simpa using e))
def tLR (ta:TA):TE:=λσ H Q=>ta σ H λvs H1=>∃n:Nat,vs=[.int (n:Int)]/\n<=1000/\∀l,H1 l=none->Q (.ref l) (upd H1 l (.lst ((Wau n).map λi:Nat=>V.int (i:Int))))
theorem Zib {a:Expr}{ta:TA}{p p2 pos pos2:Pos}(hc:X.calm=true) (hgL:Gl X "list") (hmL:X.mg "list" = none) (hgR:Gl X "range") (hmR:X.mg "range" = none) (ha:PA X [a] ta) (hs:starEach [a] X.env=[(false,eval a X.env)]:=by rfl)
  (he:starEach [.Call (.Name "range" p2) [a] [] pos2] X.env=[(false,eval (.Call (.Name "range" p2) [a] [] pos2) X.env)]:=by rfl) :
  PE X (.Call (.Name "list" p) [.Call (.Name "range" p2) [a] [] pos2] [] pos) (tLR ta):=by
 intro pins s σ H Q I h;refine wpAny_Call_Name_kw (Zdl I hgL hmL Zje ?_);refine PyProof.Rows.callWith_type1 ?_ he rfl;rw[he];show wpAny _ _ (spliced ((false,eval (.Call (.Name "range" p2) [a] [] pos2) X.env)::backTo pos [])) _ _ s;refine Calls.spliced_cons ?_;refine Call_ (Zdl I hgR hmR boot_range (PyProof.Rows.callWith_type1 (thn (ha pos2 pins s σ H _ I h) λus s1 ⟨vs,H1,I1,r1,q1⟩=>?_) hs rfl));obtain⟨n,e,hn,q⟩:=q1;subst e;cases r1 with
 |cons r rr=>
  cases rr;obtain⟨t,rfl⟩:=r;refine call_range_1 (Calls.spliced_nil ?_);have I2:Inv X pins σ H1 { s1 with heap:=s1.heap.push { cls:=.type "range",data:=.fields #[.int 0 s1.toks,.int (n:Int) t,.int 1 (s1.toks+1)] },toks:=s1.toks+1+1 }:=I1.kept λb o e=>Wae _ e;refine call_list_range (a:=0) (b:=(n:Int)) (c:=1) (n:=n) (I1.ok.hd hc) (IsRange.new ..) (small_one (by decide) (by decide) (by omega) (by omega)) (by rw[rangeSize_one];split <;> omega) (by omega) λh' tk acc c' hk hD hI=>?_
  have hl:acc.size=n:=hI.1;refine⟨.ref _,_,I2.laid (t':=tk) hk (Wah _) (show ObjOk X.prog X.w _ h' _ (.lst ((Wau n).map λi:Nat=>V.int (i:Int))) from ⟨?_,acc.toList,c',?_,?_⟩),rfl,q _ (I2.hok.fresh (Wah _))⟩
  ·rw[Wab,Wbe];exact Wb4 (small1000 hn)
  ·have:IntsAre acc.toList ((Wau n).map λi:Nat=>(i:Int)):=by
    refine Zcx (by rw[Array.length_toList,hl,Wab,Wbe]) λi v e=>?_;have hi:i<n:=by
     have:=(Waf.mp e).1;rw[Array.length_toList,hl]at this;exact this
    obtain⟨t',rfl⟩:=hI.2 i v (by rw[<- Array.getElem?_toList];exact e);refine⟨t',?_⟩;rw[Wac,Wad,Wcq hi];show Value.int (0+(i:Int)*1) t'=Value.int (i:Int) t';rw[Wbm,Int.mul_one]
   have:=Zc4 this;rw[Wan]at this;exact this
  ·rw[Array.toArray_toList];exact hD
end
section
variable {K:W.Frag}{Δ:Evt}{P:D->Evt->Prop}
def isSeqD:D->Bool
 |.tup _=>true
 |.lst _=>true
 |_=>false
theorem Zmf {G:Hp}{x:V}{d:D}(r:Rep K G x d) (h:isSeqD d=true):∃a,x=.ref a:=by
 cases r with
 |tup _ _=>exact⟨_,rfl⟩
 |lst _ _=>exact⟨_,rfl⟩
 |_=>cases h
theorem Zq6 {n:Nat}{d e:D}(hn:n<=5) (pd:Dp n d) (pe:Dp n e) (sd:isSeqD d=true) (se:isSeqD e=true) (p:P (.bl (eqF n d e)) Δ):JR2 K (rEqD K) d e Δ P:=λg G H σ Q x y k rx ry c=>
 ⟨G,d,e,n,k.live,rx,ry,pd,pe,hn,Zmf rx sd,Zmf ry se,c _ _ G H Δ k (Same.refl _) (.bl _) p⟩
theorem Zv7 {ta:TA}{Po:OD->Evt->Prop}(h:JA K ta Δ λds Δ1=>∃n:Nat,ds=[.int (n:Int)]/\n<=1000/\Po (.lst ((Wau n).map λi:Nat=>D.int (i:Int))) Δ1):JO K (tLR ta) Δ Po:=λg G H σ Q k c=>
 h g G H σ _ k λvs ds G1 H1 Δ1 k1 s1 r1 hq_=>by
  obtain⟨n,e,hl,p⟩:=hq_;subst e;obtain⟨_,_,rfl,r,t⟩:=r1.inv
  next=>
   cases t.inv;cases r.inv;refine⟨n,rfl,hl,λl hl=>?_⟩;obtain⟨k2,pd⟩:=k1.fresh (od:=.lst ((Wau n).map λi:Nat=>D.int (i:Int))) hl (show OwnRep K G1 (.lst ((Wau n).map λi:Nat=>V.int (i:Int))) (.lst ((Wau n).map λi:Nat=>D.int (i:Int))) from by
    have:=Reps.ofInts (K:=K) (G:=G1) ((Wau n).map λi:Nat=>(i:Int));rw[Wan,Wan]at this;exact this)
   exact c l _ G1 _ Δ1 k2 s1 pd p
theorem Zoh {n:Nat}{t1 t2:TE}{x:Slot}{ds0:List D}{nx bk ct:Evt->Prop}{rt:D->Evt->Prop}{ro:OD->Evt->Prop}(hx:Δ[n]?=some x) (ho:x.od=some (.lst ds0))
  (h:JE K t1 Δ λe1 Δ1=>JE K t2 Δ1 λe2 Δ2=>∃y i ds,e1=.int i /\ Δ2[n]?=some y/\y.od=some (.lst ds)/\ds.length<sizeLine /\ -(2 ^ 62)<=i/\i<2 ^ 62/\nx (Δ2.set n (y.put (.lst (ds.take (insI ds.length i)++e2::ds.drop (insI ds.length i)))))) :
  JS K (tDrop (tBM K "list" rInsert (tVar n) (tCons t1 (tCons t2 tNil)))) Δ ⟨nx,rt,bk,ct,ro⟩:=λg G H σ E k c=>by
 obtain⟨a,o,h1,h2,h3,h4,h5⟩:=k.own n x _ hx ho;cases o with
 |lst vs0=>
  refine⟨.ref a,h1,.inl ⟨rfl,_,SqL.of h2⟩,h g G H σ _ k λv1 e1 G1 H1 Δ1 k1 s1 r1 p1=>p1 g G1 H1 σ _ k1 λv2 e2 G2 H2 Δ2 k2 s2 r2 ⟨y,i,ds,q1,q2,q2',q3,q4,q5,p⟩=>?_⟩;subst q1;cases r1.inv;obtain⟨a2,o2,u1,u2,u3,u4,u5⟩:=k2.own n y _ q2 q2';rw[h1]at u1;cases u1;cases o2 with
  |lst vs=>
   have u3:Reps K G2 vs ds:=u3;refine⟨_,vs,i,v2,rfl,rfl,u2,by rw[u3.length];exact q3,q4,q5,?_⟩;have k3:=k2.write q2 q2' h1 (show OwnRep K G2 (.lst (vs.take (insI vs.length i)++v2::vs.drop (insI vs.length i))) (.lst (ds.take (insI ds.length i)++e2::ds.drop (insI ds.length i))) from by
    rw[u3.length];exact(u3.take _).append (.cons r2 (u3.drop _)))
   exact c.nx σ G2 _ _ k3 p
  |_=>exact absurd u3 (λz=>z)
 |_=>exact absurd h3 (λz=>z)
end
open PySem PySem.Spec PyProof.Rows PySem.SeqAt
def Ris (xs:Array Nat):Prop:=∀(i j a b:Nat),i<j->xs[i]?=some a->xs[j]?=some b->a<b
theorem Zhj (xs:Array Nat) (R:Ris xs) (j:Nat):∀(fuel lo hi:Nat),hi-lo<=fuel->lo<=hi->hi<=xs.size->(∀(i a:Nat),i<lo->xs[i]?=some a->a<j)->(∀(i a:Nat),hi<=i->xs[i]?=some a->j<=a) →
  SetTable.below.go xs j fuel lo hi<=xs.size/\(∀(i a:Nat),i<SetTable.below.go xs j fuel lo hi->xs[i]?=some a->a<j)/\∀(i a:Nat),SetTable.below.go xs j fuel lo hi<=i->xs[i]?=some a->j<=a
 |0,lo,hi,h1,h2,h3,h4,h5=>by
  have:lo=hi:=by omega
  subst this;show lo<=xs.size/\_;exact⟨h3,h4,h5⟩
 |fuel+1,lo,hi,h1,h2,h3,h4,h5=>by
  unfold SetTable.below.go;by_cases hlt:lo<hi
  ·rw[if_pos hlt]
   dsimp only;have hm:(lo+hi) / 2<xs.size:=by omega
   have hg:xs.getD ((lo+hi) / 2) j=xs[(lo+hi) / 2]:=by simp[Array.getD,hm]
   by_cases hc:xs.getD ((lo+hi) / 2) j<j
   ·rw[if_pos hc]
    refine Zhj xs R j fuel _ _ (by omega) (by omega) h3 (λi a hi' e=>?_) h5;by_cases hi2:i=(lo+hi) / 2
    ·subst hi2
     rw[Array.getElem?_eq_getElem hm]at e;cases e;omega
    ·have:=R i ((lo+hi) / 2) a _ (by omega) e (Array.getElem?_eq_getElem hm)
     omega
   ·rw[if_neg hc]
    refine Zhj xs R j fuel _ _ (by omega) (by omega) (by omega) h4 λi a hi' e=>?_;by_cases hi2:i=(lo+hi) / 2
    ·subst hi2
     rw[Array.getElem?_eq_getElem hm]at e;cases e;omega
    ·have:=R ((lo+hi) / 2) i _ a (by omega) (Array.getElem?_eq_getElem hm) e
     omega
  ·rw[if_neg hlt]
   have:lo=hi:=by omega
   subst this;exact⟨h3,h4,h5⟩
theorem Zgq {xs:Array Nat}(R:Ris xs) (j:Nat):SetTable.below xs j<=xs.size/\(∀(i a:Nat),i<SetTable.below xs j->xs[i]?=some a->a<j)/\∀(i a:Nat),SetTable.below xs j<=i->xs[i]?=some a->j<=a:=
 Zhj xs R j xs.size 0 xs.size (by omega) (Wb2 _) (Wah _) (λi a h=>by omega) λi a h e=>by
  have:=(Array.getElem?_eq_some_iff.mp e).1;omega
theorem Zhb {α:Type}(xs:Array α) (p:Nat) (x:α) (h:p<=xs.size):(SetTable.insertAt xs p x).toList=xs.toList.take p++x::xs.toList.drop p:=by
 unfold SetTable.insertAt;rw[Array.toList_append,Array.toList_push,Array.toList_extract,Array.toList_extract];simp[List.extract_eq_take_drop,Wbq];rw[Wcs (by simp)]
theorem Ziv {α:Type}(xs:Array α) (p:Nat) (x:α) (h:p<=xs.size) (i:Nat):(SetTable.insertAt xs p x)[i]?=if i<p then xs[i]? else if i=p then some x else xs[i-1]?:=by
 rw[<- Array.getElem?_toList,Zhb xs p x h];by_cases h1:i<p
 ·rw[if_pos h1,Wbc (by rw[Wb0,Array.length_toList];omega),List.getElem?_take_of_lt h1,Array.getElem?_toList]
 ·rw[if_neg h1,Way (by rw[Wb0,Array.length_toList];omega),Wb0,Array.length_toList,Nat.min_eq_left h]
  by_cases h2:i=p
  ·rw[if_pos h2,h2,Nat.sub_self];rfl
  ·rw[if_neg h2,show i-p=(i-1-p)+1 by omega,List.getElem?_cons_succ,Wd5,Array.getElem?_toList,show p+(i-1-p)=i-1 by omega]
theorem Ztd {xs:Array Nat}(R:Ris xs) {j:Nat}(hj:xs[SetTable.below xs j]?≠some j):Ris (SetTable.insertAt xs (SetTable.below xs j) j):=by
 obtain⟨b1,b2,b3⟩:=Zgq R j;have b4:∀(i a:Nat),SetTable.below xs j<=i->xs[i]?=some a->j<a:=λi a h e=>by
  have h1:=b3 i a h e;by_cases hi:i=SetTable.below xs j
  ·subst hi
   rcases Nat.lt_or_eq_of_le h1 with z|z
   ·exact z
   ·subst z;exact absurd e hj
  ·obtain⟨s1,s2⟩:=Array.getElem?_eq_some_iff.mp e
   have hlt:SetTable.below xs j<xs.size:=by omega
   have h2:=b3 _ _ (Wah _) (Array.getElem?_eq_getElem hlt);have:=R (SetTable.below xs j) i _ a (by omega) (Array.getElem?_eq_getElem hlt) e;omega
 intro i k a b hik ha hb;rw[Ziv _ _ _ b1]at ha hb;split at ha
 ·split at hb
  ·exact R i k a b hik ha hb
  ·split at hb
   ·cases hb;exact b2 i a (by omega) ha
   ·exact R i (k-1) a b (by omega) ha hb
 ·split at ha
  ·cases ha
   rw[if_neg (by omega),if_neg (by omega)]at hb;exact b4 (k-1) b (by omega) hb
  ·rw[if_neg (by omega),if_neg (by omega)]at hb
   exact R (i-1) (k-1) a b (by omega) ha hb
theorem Zrx:Ris #[]:=λi j a b _ e=>by simp at e
theorem Zos (n:Nat):Ris (Array.range n):=λi j a b h e1 e2=>by
 simp[Array.getElem?_range]at e1 e2;omega
structure TabOk (led:Bool) (t:SetTable):Prop where
 led:t.led=led
 dum:t.dummies = #[]
 ris:Ris t.place
theorem TabOk.fresh (led:Bool):TabOk led (SetTable.fresh 0 0 led):=⟨rfl,rfl,Zrx⟩
theorem TabOk.standIn {led:Bool}{t:SetTable}(h:TabOk led t) (n:Nat):TabOk led (t.standIn n):=⟨h.led,rfl,Zos n⟩
theorem Zmz (j:Nat):SetTable.has #[] j=false:=by unfold SetTable.has;simp
theorem Zfn {t:SetTable}(hd:t.dummies = #[]) {hashAt:Nat->Int}{h:Int}:∀(fuel:Nat) (p:SetTable.Probe) {j:Nat}{dm:Option Nat},p.dummy=none->SetTable.probe.go t hashAt h fuel p=some (.empty j dm)->dm=none/\t.place[SetTable.below t.place j]?≠some j
 |0,_,_,_,_,e=>by cases e
 |fuel+1,p,j,dm,hp,e=>by
  unfold SetTable.probe.go at e;have adv:(t.advance p).dummy=none:=by unfold SetTable.advance;split <;> exact hp
  unfold SetTable.slot at e;dsimp only at e;by_cases hl:(t.place[SetTable.below t.place p.j]? == some p.j)=true
  ·rw[if_pos hl]at e
   dsimp only at e;split at e
   ·cases e
   ·exact Zfn hd fuel _ adv e
  ·rw[if_neg hl,hd,Zmz]at e
   simp only[Wbi,if_false]at e;injection e with e
   injection e with e1 e2
   subst e1 e2;exact⟨hp,λz=>hl (by rw[z];simp)⟩
theorem TabOk.put {led:Bool}{t:SetTable}(h:TabOk led t) {j:Nat}(hj:t.place[SetTable.below t.place j]?≠some j):TabOk led (t.put j).1:=by
 refine⟨h.led,?_,Ztd h.ris hj⟩;show (if SetTable.has t.dummies j=true then _ else t.dummies) = #[];rw[h.dum,Zmz];rfl
theorem TabOk.layNew {led:Bool}{t:SetTable}(h:TabOk led t) (es:Array (Int × Value)) (hs:Int) (x:Value):TabOk led (layNew t es hs x).2.1:=by
 unfold PySem.layNew;unfold SetTable.freeSlot;cases q:t.probe (λ_=>hs+1) hs (t.probeStart hs) with
 |none=>exact h.standIn _
 |some m=>
  cases m with
  |candidate j i p=>exact h.standIn _
  |empty j dm=>
   obtain⟨e1,e2⟩:=Zfn h.dum _ (t.probeStart hs) rfl (show SetTable.probe.go t (λ_=>hs+1) hs (10*SetTable.turns t.mask) (t.probeStart hs)=some (.empty j dm) from q);subst e1;show TabOk led ((t.put j).1.orStandIn _);unfold SetTable.orStandIn;split
   ·exact h.put e2
   ·exact(h.put e2).standIn _
theorem Zqr (owner:Array (Option Nat)) (m:Nat):Ris ((((Wau m).filterMap λj=>(owner.getD j none).map (j,·)).map (·.1)).toArray):=by
 have pw:((Wau m).filterMap λj=>(owner.getD j none).map (j,·)).Pairwise (λa b=>a.1<b.1):=by
  rw[List.pairwise_filterMap];refine List.Pairwise.imp ?_ Wbw;intro a b hab c hc d hd;cases qa:owner.getD a none with
  |none=>rw[qa]at hc;cases hc
  |some k=>
   cases qb:owner.getD b none with
   |none=>rw[qb]at hd;cases hd
   |some l=>
    rw[qa]at hc;rw[qb]at hd;have hc:(a,k)=c:=by simpa using hc
    have hd:(b,l)=d:=by simpa using hd
    subst hc hd;exact hab
 intro i j a b hij ea eb;rw[Wc6,Wad]at ea eb;cases qa:((Wau m).filterMap λj=>(owner.getD j none).map (j,·))[i]? with
 |none=>rw[qa]at ea;cases ea
 |some c=>
  cases qb:((Wau m).filterMap λj=>(owner.getD j none).map (j,·))[j]? with
  |none=>rw[qb]at eb;cases eb
  |some d=>
   rw[qa]at ea;rw[qb]at eb;have ea:c.1=a:=by simpa using ea
   have eb:d.1=b:=by simpa using eb
   subst ea eb;obtain⟨i1,i2⟩:=Waf.mp qa;obtain⟨j1,j2⟩:=Waf.mp qb;have:=Wck.mp pw i j i1 j1 hij;rw[i2,j2]at this;exact this
theorem TabOk.relay {led:Bool}{t:SetTable}(h:TabOk led t) (es:Array (Int × Value)) (wanted:Nat):TabOk led (relayAll t es wanted).2.1:=by
 unfold PySem.relayAll;cases q:t.relaid (es.map (·.1)) wanted with
 |none=>exact h.standIn _
 |some r=>
  obtain⟨t',order⟩:=r;dsimp only;split
  ·unfold SetTable.relaid SetTable.laid at q
   cases q2:SetTable.layClean (SetTable.sizeAbove wanted-1) (es.map (·.1)) with
   |none=>rw[q2]at q;cases q
   |some owner=>
    rw[q2]at q;have q:_=some (t',order):=q;have e:=congrArg Prod.fst (Wa4.inj q);dsimp only at e;rw[<- e];exact⟨h.led,rfl,Zqr owner _⟩
  ·exact h.standIn _
def numOf:Value->Int
 |.int i _=>i
 |_=>0
section
variable {prog:Program}{w:World}
def byTextB (w:World):Bool:=w.params.followText "set-order"
structure SetG (prog:Program) (w:World) (h:Heap) (a:Addr) (o:Obj) (es:Array (Int × Value)) (ep:Nat) (t:SetTable) (ks:List Int):Prop where
 get:h.get? a=some o
 ex:o.ExactSet
 dat:o.data=.set es ep t
 el:ElemsOf (intKind prog w) es.toList
 room:es.size<scanBound
 fit:t.fits es.size=true
 tab:TabOk (!byTextB w) t
 perm:(es.toList.map λe=>numOf e.2).Perm ks
 nd:ks.Nodup
def SetI (prog:Program) (w:World) (h:Heap) (a:Addr) (ks:List Int):Prop:=∃o es ep t,SetG prog w h a o es ep t ks
theorem SetI.keep {h h':Heap}{a:Addr}{ks:List Int}(x:SetI prog w h a ks) (k:∀o,h.get? a=some o->h'.get? a=some o):SetI prog w h' a ks:=by
 obtain⟨o,es,ep,t,g⟩:=x;exact⟨o,es,ep,t,k _ g.get,g.ex,g.dat,g.el,g.room,g.fit,g.tab,g.perm,g.nd⟩
theorem SetG.size {h:Heap}{a:Addr}{o:Obj}{es:Array (Int × Value)}{ep:Nat}{t:SetTable}{ks:List Int}(g:SetG prog w h a o es ep t ks):es.size=ks.length:=by
 have:=g.perm.length_eq;rw[Wab,Array.length_toList]at this;exact this
theorem Zih {k:Int}{v:Value}(h:(intKind prog w).is k v=true):numOf v=k/\∃t,v=.int k t:=by
 obtain⟨t,rfl⟩:=Value.isInt_shape (show Value.isInt k v=true from h);exact⟨rfl,t,rfl⟩
theorem Zj9 {es:List (Int × Value)}(h:ElemsOf (intKind prog w) es) {e:Int × Value}(he:e∈es):∃t,e.2=.int (numOf e.2) t:=by
 obtain⟨⟨k,hk,_⟩,_⟩:=h e he;obtain⟨h1,t,h2⟩:=Zih hk;exact⟨t,by rw[h2];rfl⟩
theorem Zoj {es:List (Int × Value)}(h:ElemsOf (intKind prog w) es) {k:Int}:(∃e∈es,(intKind prog w).is k e.2=true)↔k∈es.map λe=>numOf e.2:=by
 rw[Wav];constructor
 ·rintro⟨e,he,hp⟩;exact⟨e,he,(Zih hp).1⟩
 ·rintro⟨e,he,rfl⟩
  obtain⟨t,ht⟩:=Zj9 h he;exact⟨e,he,by rw[ht];exact intKind_is _ _ _ _⟩
section
variable {A:Around}{E:Value->Shared->Prop}{s:Shared}
theorem SetG.store {h:Heap}{a:Addr}{o:Obj}{es:Array (Int × Value)}{ep:Nat}{t:SetTable}{ks:List Int}(g:SetG prog w h a o es ep t ks) {es':Array (Int × Value)}{t':SetTable}{ks':List Int}
  (hel:ElemsOf (intKind prog w) es'.toList) (hb:es'.size<scanBound) (hf:t'.fits es'.size=true) (ht:TabOk (!byTextB w) t') (hp:(es'.toList.map λe=>numOf e.2).Perm ks') (hn:ks'.Nodup) :
  SetG prog w (h.update a (Obj.putSet es' t')) a { o with data:=.set es' (ep+1) t' } es' (ep+1) t' ks':=by
 have hg:(h.update a (Obj.putSet es' t')).get? a=some { o with data:=.set es' (ep+1) t' }:=by
  have:=Wcx (Obj.putSet es' t') g.get (by rw[putSet_of es' t' g.dat];rfl);rw[putSet_of es' t' g.dat]at this;exact this
 exact⟨hg,g.ex,rfl,hel,hb,hf,ht,hp,hn⟩
def addE (ks:List Int) (k:Int):List Int:=if k∈ks then ks else ks++[k]
theorem Zp1 {a:Addr}{ks:List Int}{k:Int}{tk:Tok}{Q:Bool->Shared->Prop}(hS:SetI prog w s.heap a ks) (hroom:ks.length+1<scanBound)
  (h:∀b h',Heap.SameBut a s.heap h' -> SetI prog w h' a (addE ks k)->Q b { s with heap:=h' }) :
  wpAny (model prog w) A (setAddHashed a (.int k tk) (hashInt k)) Q E s:=by
 obtain⟨o,es,ep,t,g⟩:=hS;have hsz:=g.size;have hkey:(intKind prog w).is k (.int k tk)=true:=intKind_is _ _ _ _;unfold setAddHashed setAddHashedIn;refine wpAny_holding (wpAny_bind (wpAny_setState_of g.get g.dat g.fit ?_));dsimp only;rw[byScan_of (knd:=intKind prog w) rfl g.room g.el];simp only[↓reduceIte];unfold setAddByScan;refine wpAny_bind ?_;refine wpAny_bind (wpAny_rule ?_);refine wpAny_bind (wpAny_setScan_of (knd:=intKind prog w) (k:=k) hkey g.get g.dat g.fit g.el ?_);cases hr:List.findIdx? (λe=>(intKind prog w).is k e.2) es.toList with
 |some j=>
  dsimp only;obtain⟨hj,hpj,_⟩:=List.findIdx?_eq_some_iff_getElem.mp hr;have hk:k∈ks:=g.perm.mem_iff.mp ((Zoj g.el).mp ⟨es.toList[j],Wa7 hj,hpj⟩);refine wpAny_pure (wpAny_pure ?_);have e:s = { s with heap:=s.heap }:=by cases s;rfl
  rw[e];refine h _ s.heap (Heap.SameBut.refl a s.heap) ?_;unfold addE;rw[if_pos hk];exact⟨o,es,ep,t,g⟩
 |none=>
  dsimp only;have hk:k ∉ ks:=λz=>by
   obtain⟨e,he,hp⟩:=(Zoj g.el).mpr (g.perm.mem_iff.mpr z);have:=List.findIdx?_eq_none_iff.mp hr e he;rw[hp]at this;cases this
  have hgw:∀(b:Bool) {s₁:Shared}{Q':Unit->Shared->Prop},Q' () s₁ -> wpAny (model prog w) A (match b with|true=>rule "set.scan.the-table-gave-way" |false=>pure ()) Q' E s₁:=
   λb s₁ Q' hq=>by cases b <;> first|exact wpAny_pure hq|exact wpAny_rule hq
  have hperm:=layNew_perm t es (hashInt k) (.int k tk);have hfits:=layNew_fits t es (hashInt k) (.int k tk);have htab:=g.tab.layNew es (hashInt k) (.int k tk);generalize hL:layNew t es (hashInt k) (.int k tk)=L at hperm hfits htab ⊢;obtain⟨es1,t1,wasDummy,gave⟩:=L;dsimp only at hperm hfits htab ⊢;rw[Array.toList_push]at hperm;have hel1:ElemsOf (intKind prog w) es1.toList:=(g.el.push (k:=k) hkey rfl).perm hperm;have hsz1:es1.size=es.size+1:=by rw[<- Array.length_toList,hperm.length_eq,Wao,Array.length_toList];rfl
  have hb1:es1.size<scanBound:=by omega
  have hp1:(es1.toList.map λe=>numOf e.2).Perm (ks++[k]):=by
   refine(hperm.map _).trans ?_;rw[Wa1];exact List.Perm.append_right _ g.perm
  have hnd1:(ks++[k]).Nodup:=by
   rw[Wcz];refine⟨g.nd,by simp,λa ha b hb e=>?_⟩;rw[Waz.mp hb]at e;exact hk (e ▸ ha)
  have eadd:addE ks k=ks++[k]:=by unfold addE;rw[if_neg hk]
  refine wpAny_bind (hgw _ ?_);have tail:∀(Q2:Option Bool->Shared->Prop),(∀h',Heap.SameBut a s.heap h' -> SetI prog w h' a (ks++[k])->Q2 (some true) { s with heap:=h' })->∀(g0:Bool->Sem Unit),(∀(b:Bool) (s₁:Shared) (Q':Unit->Shared->Prop),Q' () s₁ -> wpAny (model prog w) A (g0 b) Q' E s₁) →
    wpAny (model prog w) A (do
     storeSet a es1 t1
     if (!wasDummy && t1.tooFull)=true then do
       g0 (relayAll t1 es1 (SetTable.grown es1.size)).2.2
       storeSet a (relayAll t1 es1 (SetTable.grown es1.size)).1 (relayAll t1 es1 (SetTable.grown es1.size)).2.1
       pure (some true)
      else pure (some true)) Q2 E s:=by
   intro Q2 hq g0 hg0;refine wpAny_bind (wpAny_storeSet_of g.get g.dat ?_ (fits_of_scanBound hb1));have g1:=g.store (es':=es1) (t':=t1) hel1 hb1 hfits htab hp1 hnd1;have sb1:=Heap.SameBut.update s.heap a (Obj.putSet es1 t1);split
   ·have hp:=relayAll_perm t1 es1 (SetTable.grown es1.size)
    have hfr:=relayAll_fits t1 es1 (SetTable.grown es1.size);have htr:=htab.relay es1 (SetTable.grown es1.size);generalize hRl:relayAll t1 es1 (SetTable.grown es1.size)=Rl at hp hfr htr ⊢;obtain⟨es2,t3,gave2⟩:=Rl;dsimp only at hp hfr htr ⊢;have hsz2:es2.size=es1.size:=by rw[<- Array.length_toList,hp.length_eq,Array.length_toList]
    refine wpAny_bind (hg0 _ _ _ ?_);refine wpAny_bind (wpAny_storeSet_of g1.get rfl ?_ (fits_of_scanBound (by omega)));have g2:=g1.store (es':=es2) (t':=t3) (hel1.perm hp) (by omega) hfr htr ((hp.map _).trans hp1) hnd1;exact wpAny_pure (hq _ (sb1.trans (Heap.SameBut.update _ a _)) ⟨_,_,_,_,g2⟩)
   ·exact wpAny_pure (hq _ sb1 ⟨_,_,_,_,g1⟩)
  have hgv:∀(b:Bool) (s₁:Shared) (Q':Unit->Shared->Prop),Q' () s₁ -> wpAny (model prog w) A (match b with|true=>rule "set.scan.the-table-gave-way" |false=>pure ()) Q' E s₁:=λb s₁ Q' hq=>hgw b hq;split
  ·refine wpAny_bind ?_
   rw[hashByValue_scannable 8 (x:=.int k tk) rfl];refine wpAny_pure ?_;simp only[plainKind,if_true];exact tail _ (λh' sb hS'=>by dsimp only;exact wpAny_pure (h _ h' sb (by rw[eadd];exact hS'))) _ hgv
  ·refine wpAny_bind (wpAny_pure ?_)
   simp only[↓reduceIte];exact tail _ (λh' sb hS'=>by dsimp only;exact wpAny_pure (h _ h' sb (by rw[eadd];exact hS'))) _ hgv
end
end
def metK (val:Nat->Int):Nat->List Int
 |0=>[]
 |i+1=>addE (metK val i) (val i)
theorem Zho (val:Nat->Int) (i:Nat):(metK val i).length<=i:=by
 induction i with
 |zero=>exact Wah _
 |succ i ih=>
  show (addE (metK val i) (val i)).length<=i+1;unfold addE;split
  ·omega
  ·rw[Wao,Wbb];omega
theorem Zfg {val:Nat->Int}{i:Nat}{x:Int}:x∈metK val i ↔ ∃j,j<i/\val j=x:=by
 induction i with
 |zero=>simp[metK]
 |succ i ih=>
  show x∈addE (metK val i) (val i)↔_;unfold addE;constructor
  ·intro h
   split at h
   ·obtain⟨j,hj,e⟩:=ih.mp h;exact⟨j,by omega,e⟩
   ·rcases Wbl.mp h with h|h
    ·obtain⟨j,hj,e⟩:=ih.mp h;exact⟨j,by omega,e⟩
    ·exact⟨i,by omega,(Waz.mp h).symm⟩
  ·rintro⟨j,hj,rfl⟩
   by_cases hji:j=i
   ·subst hji
    split
    ·assumption
    ·exact Wa8 _ (by simp)
   ·have:=ih.mpr ⟨j,by omega,rfl⟩
    split
    ·exact this
    ·exact Wbj _ this
section
variable {prog:Program}{w:World}{A:Around}{R:Result->Shared->Prop}{I:Addr}{fp wr:List Addr}{G:Array GenState->Array GenState->Prop}{n:Nat}{P:Nat->Value->Prop}{St:Nat->Shared->Prop}
theorem Zjo (W:WalksS prog w A.in1 I fp wr G n P St) (S:Addr) (hSf:S ∉ fp)
  (val:Nat->Int) (hval:∀i v,P i v->∃t,v=.int (val i) t) (hb:n+1<scanBound) :
  ∀(k i:Nat) (s:Shared),n-i=k->i<=n->St i s->SetI prog w s.heap S (metK val i) →
   (∀s',Moved (S::wr) G s s' -> SetI prog w s'.heap S (metK val n)->R (.ok (.ret .none)) s') →
   codeAny (model prog w) A (.builtin "set.update.loop" ⟨[.ref S,.ref I],[]⟩) R s:=by
 have hSw:S ∉ wr:=λh=>hSf (W.sub _ h);have hsub:∀b∈wr,b∈S::wr:=λb hb=>Wax _ hb;intro k
 induction k with
 |zero=>
  intro i s hk hi hst hS hR;have hin:i=n:=by omega
  subst hin;refine codeAny_builtin F.entry_set_update_loop ?_;rw[Around.under_plainId F.plain_set_update_loop _];show wpAny _ A.in1 (pyNext (.ref I) >>= _) _ _ s;refine wpAny_bind (W.done s _ _ hst λs' hm=>?_);show wpAny _ A.in1 (ret Value.none) _ _ s';exact wpAny_pure (hR s' (hm.mono hsub) (hS.keep λo e=>hm.heap S o hSw e))
 |succ k ih=>
  intro i s hk hi hst hS hR;have hlt:i<n:=by omega
  refine codeAny_builtin F.entry_set_update_loop ?_;rw[Around.under_plainId F.plain_set_update_loop _];show wpAny _ A.in1 (pyNext (.ref I) >>= _) _ _ s;refine wpAny_bind (W.item i s _ _ hlt hst λv s' hP hst' hm=>?_);obtain⟨t,rfl⟩:=hval i v hP;have hS':SetI prog w s'.heap S (metK val i):=hS.keep λo e=>hm.heap S o hSw e;show wpAny _ A.in1 (holding [Value.int (val i) t] (setAdd S (.int (val i) t)) >>= _) _ _ s';refine wpAny_bind (wpAny_holding ?_);unfold setAdd;refine wpAny_holding ?_;refine wpAny_bind ((intKind prog w).pyHash (k:=val i) (intKind_is _ _ _ _) ?_);have hroom:(metK val i).length+1<scanBound:=by have:=Zho val i;omega
  refine Zp1 (s:={ s' with toks:=s'.toks+1 }) hS' hroom λb h' hsb hS2=>?_;refine wpAny_pure ⟨plainId_quiet F.plain_set_update_loop _,ih (i+1) _ (by omega) hlt (W.frame _ s' _ _ hst' (Wcr _) λb hb o e=>?_) hS2 λs'' hm'' hS''=>?_⟩
  ·rw[hsb.2 b (λh:b=S=>hSf (by rw[<- h];exact hb))];exact e
  ·refine hR s'' (Moved.trans W.gtrans ((hm.mono hsub).then_heap (Wcr _) λb o hb e=>?_) hm'') hS''
   rw[hsb.2 b (λh:b=S=>hb (by rw[h];exact Wa0))];exact e
end
section
variable {prog:Program}{w:World}{A:Around}{E:Value->Shared->Prop}{s:Shared}
abbrev set0 (w:World):Obj:={ cls:=.type "set",dict:=none,data:=.set #[] 0 (.fresh 0 0 (!byTextB w)) }
theorem Zq1 (x:Value) {N:Value->Shared->Prop}(h:N (.ref s.heap.objs.size) { s with heap:=s.heap.push (set0 w) }) :
  codeAny (model prog w) A (.call (.builtin "set.__new__") ⟨[.type "set",x],[]⟩) (wants N E) s:=
 codeAny_of_tree (by
  have su:=sub_set_self;obtain⟨hp,g,d,tk,os⟩:=s;refine wpAny_bind (m:=checkBuiltinCall "set.__new__" ⟨[.type "set",x],[]⟩) (wpAny_of_eq (F.newCall_set_1 x) (wpAny_pure ⟨plainId_quiet F.plain_set_new _,codeAny_builtin F.entry_set_new ?_⟩));rw[Around.under_plainId F.plain_set_new _];unfold Builtin.«set.__new__» Builtin.Frozenset.newClass
  wp_walk
  refine wpAny_askSetting (wpAny_pure ?_);simp only[newObj];exact wpAny_bind (wpAny_alloc (wpAny_pure (wpAny_pure h))))
theorem Zna {S l:Addr}{its:Array Value}{ns:List Int}{N:Result->Shared->Prop}(hh:A.handled=none) (hS:s.heap.get? S=some (set0 w)) (hl:s.heap.IsList l its) (hi:IntsAre its.toList ns) (hb:its.size+1<scanBound)
  (q:∀h' tk,SetI prog w h' S (metK (λi=>ns.getD i 0) its.size)->(∀b o,b≠S->s.heap.get? b=some o->h'.get? b=some o)->N (.ok (.ret .none)) { s with heap:=h',toks:=tk }) :
  wpAny (model prog w) A.in1 (Builtin.«set.__init__» ⟨[.ref S,.ref l],[]⟩) (λfin s'=>match fin with|.done f=>N (.ok f) s'|.again c=>c.quiet=true/\codeAny (model prog w) A c N s') (λe s'=>N (.error e) s') s:=by
 have lS:l≠S:=by
  obtain⟨o,e,c,_⟩:=hl;intro z;subst z;rw[hS]at e;cases e;exact absurd (show Value.type "set" = Value.type "list" from c) (by decide)
 have lt:l<s.heap.objs.size:=by obtain⟨o,e,_⟩:=hl;exact Wap e
 have ltS:S<s.heap.objs.size:=Wap hS;obtain⟨⟨c0,d0,dt0,sl0⟩,e0,hc0,n0,hd0⟩:=id hl;simp only at hc0 hd0;subst hc0 hd0;have hT:s.TypeIs (.ref S) "set":=⟨_,hS,rfl⟩;have k1:=F.sub_list_set;have k2:=F.sub_list_frozenset;have k3:(Value.type "list" == Value.type "dict")=false:=by decide
 unfold Builtin.«set.__init__» noKeywords Builtin.Frozenset.updateFrom;generalize hPI:pyIter=PI
 wp_walk
 subst hPI;refine wpAny_pyIter_list hl (wpAny_bind (wpAny_runValue ?_));have ne1:l≠s.heap.objs.size:=Waw lt;have ne2:S ∉ [s.heap.objs.size,l]:=by
  simp only[Wat,Wb6,or_false,not_or];exact⟨Waw ltS,Ne.symm lS⟩
 refine Zjo (Walks.list (by simp[hh]) _ l ne1 its).toS S ne2 (λi=>ns.getD i 0) (λi v e=>IntsAre.int_at hi i v (by rw[Array.getElem?_toList];exact e)) hb its.size 0 _ (by omega) (Wb2 _) ⟨⟨_,Wal _ rfl,rfl,rfl⟩,hl.push _⟩ ?_ λs2 mv fin=>?_
 ·exact⟨_,#[],0,_,Wae _ hS,⟨rfl,rfl,rfl⟩,rfl,λe he=>by simp at he,by decide,by rfl,TabOk.fresh _,List.Perm.refl _,List.nodup_nil⟩
 ·rw[Moved.eq_with mv]
  refine wpAny_pure (wpAny_pure (q _ _ fin λb o hb e=>mv.heap b o ?_ (Wae _ e)));simp only[Wat,Wb6,or_false,not_or];exact⟨hb,Waw (Wap e)⟩
set_option maxHeartbeats 3200000 in
theorem Zh6 {l:Addr}{its:Array Value}{ns:List Int}{Q:Value->Shared->Prop}(hh:A.handled=none) (hl:s.heap.IsList l its) (hi:IntsAre its.toList ns) (hb:its.size+1<scanBound)
  (q:∀(h':Heap) (tk:Nat),SetI prog w h' s.heap.objs.size (metK (λi=>ns.getD i 0) its.size)->(∀b o,s.heap.get? b=some o->h'.get? b=some o)->Q (.ref s.heap.objs.size) { s with heap:=h',toks:=tk }) :
  wpAny (model prog w) A (call (.type "set") [.ref l]) Q E s:=by
 have ft:=F.called_set;obtain⟨c,tl,e1⟩:=ft.mro;have e2:=ft.made;have e3:=ft.sub;have e4:=ft.notType;have e5:=ft.canCreate;have e6:=F.typeCall_set_1 (.ref l);refine wpAny_call (codeAny_of_tree (show wpAny _ _ (callAny (.type "set") _) _ _ _ from wpAny_pure ⟨Code.quiet_builtin _ (by decide +kernel),codeAny_builtin F.entry_type_call ?_⟩));rw[Around.under_plain (weight_type_call_type _ _ _) rfl]
 repeat (any_goals (first|assumption|wp_step))
 refine codeAny_mono (Zq1 (.ref l) (E:=E) (N:=λv s1=>v=.ref s.heap.objs.size/\s1 = { s with heap:=s.heap.push (set0 w) }) ⟨rfl,rfl⟩) λr s1 hr=>?_;cases r with
 |error e=>exact hr
 |ok fl=>
  cases fl with
  |ret v=>
   obtain⟨rfl,rfl⟩:=hr;have hS:(s.heap.push (set0 w)).get? s.heap.objs.size=some (set0 w):=Wal _ rfl;have hT:Shared.TypeIs { s with heap:=s.heap.push (set0 w) } (.ref s.heap.objs.size) "set":=⟨_,hS,rfl⟩;have f1:=ft.init.lookup;have f2:=ft.init.bind (.ref s.heap.objs.size)
   repeat (any_goals (first|assumption|wp_step))
   refine codeAny_mono (codeAny_call_builtin (R:=wants (λr s2=>r=.none/\Q (.ref s.heap.objs.size) s2) E) ft.init.plain F.entry_set_init (check_set_init_1 hT (Zna (by simp[hh]) hS (hl.push _) hi hb λh' tk z1 z2=>⟨rfl,q h' tk z1 λb o e=>z2 b o (Waw (Wap e)) (Wae _ e)⟩))) λr2 s2 hr2=>?_;cases r2 with
   |error e=>exact hr2
   |ok fl2=>
    cases fl2 with
    |ret r=>
     obtain⟨rfl,hq⟩:=hr2
     repeat (any_goals (first|assumption|wp_step))
    |_=>exact hr2.elim
  |_=>exact hr.elim
end
end L2
namespace L2
open PySem PySem.Spec PyProof.Rows PySem.SeqAt
theorem Zat:PySem.Slot "set_iterator" "__next__" "set_iterator.__next__":=
 .of (owner:="set_iterator") (n:="__next__") (by rw[typeLookup_type,builtinLookup_eq_fast];kernel_rfl) (by decide +kernel) (by decide +kernel) (by decide +kernel)
  (by first|exact .inl (by decide +kernel)|exact .inr (by decide +kernel)) (by rw[isSubtype_type];kernel_rfl)
theorem Zby:entryFor table "set_iterator.__next__" = some Builtin.«set_iterator.__next__»:=entryFor_of_tree (by kernel_rfl)
theorem Zgi:entryFor table "set.__iter__" = some Builtin.«frozenset.__iter__»:=entryFor_alias (id':="frozenset.__iter__") (by kernel_rfl) rfl (by decide +kernel) (by kernel_rfl)
theorem Zb2 (a:Value):argsOk "set_iterator.__next__" ⟨[a],[]⟩:=by
 unfold argsOk;kernel_rfl
abbrev setItO (first:Value) (i:Nat) (a:Addr) (n ep:Nat):Obj:={ cls:=.type "set_iterator",dict:=none,data:=.fields #[first,.int i 0,.ref a,.int n 0,.int ep 0],slots:=#[] }
section
variable {prog:Program}{w:World}{A:Around}{E:Value->Shared->Prop}{s:Shared}
theorem Zly {I a:Addr}{slot i next:Nat}{x:Value}{o:Obj}{es:Array (Int × Value)}{ep:Nat}{t:SetTable}{ks:List Int}{Q:Option Value->Shared->Prop}(hI:s.heap.get? I=some (setItO (.int slot 0) i a es.size ep)) (g:SetG prog w s.heap a o es ep t ks)
  (hn:∀(A:Around) (E:Value->Shared->Prop) (Q':Option (Value × Nat)->Shared->Prop),Q' (some (x,next)) s->wpAny (model prog w) A (setNext a slot i ep) Q' E s)
  (q:∀h',h'.get? I=some (setItO (.int next 0) (i+1) a es.size ep)->Heap.SameBut I s.heap h' -> Q (some x) { s with heap:=h' }):wpAny (model prog w) A (pyNext (.ref I)) Q E s:=by
 have hT:s.TypeIs (.ref I) "set_iterator":=⟨_,hI,rfl⟩;unfold pyNext;refine wpAny_bind (wpAny_attempt (wpAny_callSpecial?_slot (name:=Str.ofString "__next__") hT Zat (wpAny_call_entry Zat hT Zby ?_ (Zb2 _))));refine wpAny_bind (wpAny_pure ?_);refine wpAny_bind (wpAny_fieldsOf hI rfl ?_);refine wpAny_bind (wpAny_setEntries_of g.get g.dat g.fit ?_);rw[if_neg (by simp)];refine wpAny_bind (hn _ _ _ ?_);refine wpAny_bind (wpAny_setField_rec hI (by simp) λh1 e1 sb1=>?_);refine wpAny_bind (wpAny_setField_rec (s:={ s with heap:=h1 }) e1 (by simp) λh2 e2 sb2=>?_);exact wpAny_pure ⟨_,rfl,wpAny_pure (q h2 (by rw[e2];rfl) (sb1.trans sb2))⟩
theorem Zlh {I a:Addr}{slot i:Nat}{o:Obj}{es:Array (Int × Value)}{ep:Nat}{t:SetTable}{ks:List Int}{Q:Option Value->Shared->Prop}(hh:A.handled=none) (hI:s.heap.get? I=some (setItO (.int slot 0) i a es.size ep)) (g:SetG prog w s.heap a o es ep t ks)
  (hn:∀(A:Around) (E:Value->Shared->Prop) (Q':Option (Value × Nat)->Shared->Prop),Q' none s->wpAny (model prog w) A (setNext a slot i ep) Q' E s)
  (q:∀h',Heap.ExtBut I s.heap h' -> Q none { s with heap:=h' }):wpAny (model prog w) A (pyNext (.ref I)) Q E s:=by
 have hT:s.TypeIs (.ref I) "set_iterator":=⟨_,hI,rfl⟩;unfold pyNext;refine wpAny_bind (wpAny_attempt (wpAny_callSpecial?_slot (name:=Str.ofString "__next__") hT Zat (wpAny_call_entry Zat hT Zby ?_ (Zb2 _))));refine wpAny_bind (wpAny_pure ?_);refine wpAny_bind (wpAny_fieldsOf hI rfl ?_);refine wpAny_bind (wpAny_setEntries_of g.get g.dat g.fit ?_);rw[if_neg (by simp)];refine wpAny_bind (hn _ _ _ ?_);refine wpAny_bind (wpAny_setField_rec hI (by simp) λh1 e1 sb1=>wpAny_bind ?_);simp only[newExc,newTuple];refine wpAny_bind (wpAny_newObj_type ?_ (by size_fits));refine wpAny_bind (m:=firstArgMember _ _) (wpAny_of_eq (a:=Value.none) (by first|rfl|(simp only[firstArgMember];rfl)) ?_);refine wpAny_newObj_type ?_ (by size_fits);simp only[raiseNew];refine wpAny_bind (wpAny_handled ?_);rw[show A.in1.handled=none from hh];refine wpAny_bind (wpAny_pure (wpAny_throw ?_));refine wpAny_bind (wpAny_isInstance (T:="StopIteration") (b:=true) ⟨_,Wal _ rfl,rfl⟩ isSubtype_stop ?_);exact wpAny_pure (q _ ((sb1.extBut.push _).push _))
theorem Zi7 {I a T:Addr}{i k:Nat}{e:Int × Value}{o:Obj}{es:Array (Int × Value)}{ep:Nat}{t:SetTable}{ks:List Int}{pl:List Nat}{Q:Option Value->Shared->Prop}(hI:s.heap.get? I=some (setItO (.ref T) i a es.size ep)) (g:SetG prog w s.heap a o es ep t ks)
  (hT:s.heap.get? T=some { cls:=.type "tuple",data:=.seq (pl.map λj:Nat=>rawInt (j:Int)).toArray }) (hk:pl[i]?=some k) (he:es[k]?=some e)
  (q:∀h',h'.get? I=some (setItO (.ref T) (i+1) a es.size ep)->Heap.SameBut I s.heap h' -> Q (some e.2) { s with heap:=h' }):wpAny (model prog w) A (pyNext (.ref I)) Q E s:=by
 have hTy:s.TypeIs (.ref I) "set_iterator":=⟨_,hI,rfl⟩;unfold pyNext;refine wpAny_bind (wpAny_attempt (wpAny_callSpecial?_slot (name:=Str.ofString "__next__") hTy Zat (wpAny_call_entry Zat hTy Zby ?_ (Zb2 _))));refine wpAny_bind (wpAny_pure ?_);refine wpAny_bind (wpAny_fieldsOf hI rfl ?_);refine wpAny_bind (wpAny_setEntries_of g.get g.dat g.fit ?_);rw[if_neg (by simp)];refine wpAny_bind (wpAny_seqItems hT rfl ?_);have e1:(pl.map λj:Nat=>rawInt (j:Int)).toArray[(i:Int).toNat]?=some (.int (k:Int) 0):=by
  rw[Wak,Wc6,Wad,hk];rfl
 dsimp only;rw[e1];dsimp only;unfold setNextDrawn;refine wpAny_bind (wpAny_bind (wpAny_setState_of g.get g.dat g.fit ?_));dsimp only;rw[if_neg (by simp)];rw[show es[(k:Int).toNat]?=some e from by rw[Wak];exact he];obtain⟨e1,e2⟩:=e;refine wpAny_pure ?_;refine wpAny_bind (wpAny_setField_rec hI (by simp) λh2 e2' sb2=>?_);exact wpAny_pure ⟨_,rfl,wpAny_pure (q h2 (by rw[e2'];rfl) sb2)⟩
theorem Zge {I a T:Addr}{i:Nat}{o:Obj}{es:Array (Int × Value)}{ep:Nat}{t:SetTable}{ks:List Int}{pl:List Nat}{Q:Option Value->Shared->Prop}(hh:A.handled=none) (hI:s.heap.get? I=some (setItO (.ref T) i a es.size ep)) (g:SetG prog w s.heap a o es ep t ks)
  (hT:s.heap.get? T=some { cls:=.type "tuple",data:=.seq (pl.map λj:Nat=>rawInt (j:Int)).toArray }) (hk:pl[i]?=none)
  (q:∀h',Heap.ExtBut I s.heap h' -> Q none { s with heap:=h' }):wpAny (model prog w) A (pyNext (.ref I)) Q E s:=by
 have hTy:s.TypeIs (.ref I) "set_iterator":=⟨_,hI,rfl⟩;unfold pyNext;refine wpAny_bind (wpAny_attempt (wpAny_callSpecial?_slot (name:=Str.ofString "__next__") hTy Zat (wpAny_call_entry Zat hTy Zby ?_ (Zb2 _))));refine wpAny_bind (wpAny_pure ?_);refine wpAny_bind (wpAny_fieldsOf hI rfl ?_);refine wpAny_bind (wpAny_setEntries_of g.get g.dat g.fit ?_);rw[if_neg (by simp)];refine wpAny_bind (wpAny_seqItems hT rfl ?_);have e1:(pl.map λj:Nat=>rawInt (j:Int)).toArray[(i:Int).toNat]?=none:=by
  rw[Wak,Wc6,Wad,hk];rfl
 dsimp only;rw[e1];dsimp only;refine wpAny_bind (wpAny_setField_rec hI (by simp) λh1 e1 sb1=>?_);refine wpAny_bind (wpAny_setField_rec (s:={ s with heap:=h1 }) e1 (by simp) λh2 e2 sb2=>wpAny_bind ?_);simp only[newExc,newTuple];refine wpAny_bind (wpAny_newObj_type ?_ (by size_fits));refine wpAny_bind (m:=firstArgMember _ _) (wpAny_of_eq (a:=Value.none) (by first|rfl|(simp only[firstArgMember];rfl)) ?_);refine wpAny_newObj_type ?_ (by size_fits);simp only[raiseNew];refine wpAny_bind (wpAny_handled ?_);rw[show A.in1.handled=none from hh];refine wpAny_bind (wpAny_pure (wpAny_throw ?_));refine wpAny_bind (wpAny_isInstance (T:="StopIteration") (b:=true) ⟨_,Wal _ rfl,rfl⟩ isSubtype_stop ?_);exact wpAny_pure (q _ (((sb1.trans sb2).extBut.push _).push _))
theorem Zgx (a:Addr) (slot given ep:Nat):setNext a slot given ep=(do
  let (es,epoch,t) ← setState a
  if ← setsByText then
   if epoch != ep then unsupported "set_iterator.__next__:elements-changed"
   return ((← setWalk a)[given]?).map λe=>(e.2,slot)
  if !t.plain && es.size > 1 then unsupported "set_iterator.__next__:the-table-is-plain-no-more"
  let _ ← (if !t.led && !es.isEmpty then unsupported "set:maker-not-led" else pure ():Sem Unit)
  let i:=SetTable.below t.place slot
  return match es[i]?,t.place[i]? with
   |some (_,x),some j=>some (x,j+1)
   |_,_=>none):=rfl
theorem Zlx (a:Addr):setWalk a=(do
  let (es,epoch,t) ← setState a
  if ← setsByText then return pickOrder ((← ask).params.setOrder a epoch) es
  if !t.plain && es.size > 1 then return (← drawOrder es.size es.toList).toArray
  let _ ← (if !t.led && es.size > 1 then unsupported "set:maker-not-led" else pure ():Sem Unit)
  return es):=rfl
theorem Zjv (a:Addr):setDrawn a=(do
  let (es,_,t) ← setState a
  let byText ← setsByText
  return !byText && (!t.plain && es.size > 1)):=rfl
end
end L2
namespace L2
open PySem PySem.Spec PyProof.Rows PySem.SeqAt
theorem Zdq:PySem.Slot "set_iterator" "__iter__" "set_iterator.__iter__":=
 .of (owner:="set_iterator") (n:="__iter__") (by rw[typeLookup_type,builtinLookup_eq_fast];kernel_rfl) (by decide +kernel) (by decide +kernel) (by decide +kernel)
  (by first|exact .inl (by decide +kernel)|exact .inr (by decide +kernel)) (by rw[isSubtype_type];kernel_rfl)
theorem Ze7:entryFor table "set_iterator.__iter__" = some Builtin.«dict_keyiterator.__iter__»:=entryFor_alias (id':="dict_keyiterator.__iter__") (by kernel_rfl) rfl (by decide +kernel) (by kernel_rfl)
theorem Zgb (a:Value):argsOk "set_iterator.__iter__" ⟨[a],[]⟩:=by unfold argsOk;kernel_rfl
section
variable {prog:Program}{w:World}{A:Around}{E:Value->Shared->Prop}{s:Shared}
theorem Zgz {I:Addr}{first:Value}{i n ep:Nat}{a:Addr}{Q:Value->Shared->Prop}(hI:s.heap.get? I=some (setItO first i a n ep)) (q:Q (.ref I) s):wpAny (model prog w) A (pyIter (.ref I)) Q E s:=by
 have hT:s.TypeIs (.ref I) "set_iterator":=⟨_,hI,rfl⟩;refine wpAny_pyIter_slot hT Zdq (wpAny_call_entry Zdq hT Ze7 ?_ (Zgb _));show wpAny _ _ (ret (.ref I)) _ _ s;exact wpAny_pure ⟨_,rfl,"set_iterator",_,hT,Zat.lookup,q⟩
theorem Zd6 {Q:Bool->Shared->Prop}(q:Q (byTextB w) s):wpAny (model prog w) A setsByText Q E s:=by
 unfold setsByText;exact wpAny_bind (wpAny_askSetting (wpAny_pure q))
theorem Ziz {a:Addr}{slot given ep:Nat}{o:Obj}{es:Array (Int × Value)}{t:SetTable}{ks:List Int}{Q:Option (Value × Nat)->Shared->Prop}(hb:byTextB w=true) (g:SetG prog w s.heap a o es ep t ks)
  (q:Q (((pickOrder (w.params.setOrder a ep) es)[given]?).map λe=>(e.2,slot)) s):wpAny (model prog w) A (setNext a slot given ep) Q E s:=by
 rw[Zgx];refine wpAny_bind (wpAny_setState_of g.get g.dat g.fit (wpAny_bind (Zd6 ?_)));rw[hb];simp only[if_true];rw[if_neg (by simp),Zlx];refine wpAny_bind (wpAny_bind (wpAny_setState_of g.get g.dat g.fit (wpAny_bind (Zd6 ?_))));rw[hb];simp only[if_true];exact wpAny_bind (wpAny_askSetting (wpAny_pure (wpAny_pure q)))
theorem Zgw {a:Addr}{slot given ep:Nat}{o:Obj}{es:Array (Int × Value)}{t:SetTable}{ks:List Int}{Q:Option (Value × Nat)->Shared->Prop}(hb:byTextB w=false) (g:SetG prog w s.heap a o es ep t ks) (hd:(!t.plain && decide (es.size > 1))=false)
  (q:Q (match es[SetTable.below t.place slot]?,t.place[SetTable.below t.place slot]? with|some (_,x),some j=>some (x,j+1)|_,_=>none) s):wpAny (model prog w) A (setNext a slot given ep) Q E s:=by
 have hl:t.led=true:=by rw[g.tab.led,hb];rfl
 rw[Zgx];refine wpAny_bind (wpAny_setState_of g.get g.dat g.fit (wpAny_bind (Zd6 ?_)));rw[hb];simp only[Wbi,if_false,hd,hl,Bool.not_true,Wdy];exact wpAny_bind (wpAny_pure (wpAny_pure q))
theorem Zet {α:Type}:∀{l:List α}{i:Nat}(h:i<l.length),(l[i]::l.eraseIdx i).Perm l
 |x::l,0,_=>List.Perm.refl _
 |x::l,i+1,h=>by
  have h':i<l.length:=by simpa using h
  show (l[i]::x::l.eraseIdx i).Perm (x::l);exact(List.Perm.swap _ _ _).trans (List.Perm.cons _ (Zet h'))
theorem Zmr {α:Type}(next:Nat->Nat):∀(fuel k:Nat) (left:List α) (out:Array α),left.length=fuel->(pickOrder.go next fuel k left out).toList.Perm (out.toList++left)
 |0,k,left,out,h=>by
  have:left=[]:=Wb1 h;subst this;unfold pickOrder.go;rw[Wbk]
 |fuel+1,k,left,out,h=>by
  unfold pickOrder.go;have hi:next k % left.length<left.length:=Wc5 _ (by omega)
  rw[Waa hi];dsimp only;refine(Zmr next fuel (k+1) _ _ (by rw[List.length_eraseIdx_of_lt hi];omega)).trans ?_;rw[Array.toList_push,Wbq];refine List.Perm.append_left _ ?_;exact Zet hi
theorem Zou {α:Type}(next:Nat->Nat) (xs:Array α):(pickOrder next xs).toList.Perm xs.toList:=by
 unfold pickOrder;exact Zmr next xs.size 0 xs.toList #[] (by simp)
def slotAt (pl:Array Nat):Nat->Nat
 |0=>0
 |j+1=>pl.getD j 0+1
theorem Ze1 {pl:Array Nat}(R:Ris pl) {j:Nat}(hj:j<=pl.size):SetTable.below pl (slotAt pl j)=j:=by
 obtain⟨b1,b2,b3⟩:=Zgq R (slotAt pl j);cases j with
 |zero=>
  apply Classical.byContradiction;intro h;have hlt:0<pl.size:=by omega
  have:=b2 0 _ (by omega) (Array.getElem?_eq_getElem hlt);exact absurd this (by show ¬ _<0;omega)
 |succ j=>
  have hlt:j<pl.size:=by omega
  have hg:pl.getD j 0=pl[j]:=by simp[Array.getD,hlt]
  have es:slotAt pl (j+1)=pl[j]+1:=by show pl.getD j 0+1=_;rw[hg]
  rw[es]at b1 b2 b3 ⊢;rcases Nat.lt_trichotomy (SetTable.below pl (pl[j]+1)) (j+1) with z|z|z
  ·have:=b3 j _ (by omega) (Array.getElem?_eq_getElem hlt)
   omega
  ·exact z
  ·have hlt2:j+1<pl.size:=by omega
   have h1:=b2 (j+1) _ z (Array.getElem?_eq_getElem hlt2);have h2:=R j (j+1) _ _ (by omega) (Array.getElem?_eq_getElem hlt) (Array.getElem?_eq_getElem hlt2);omega
theorem SetG.keep {h h':Heap}{a:Addr}{o:Obj}{es:Array (Int × Value)}{ep:Nat}{t:SetTable}{ks:List Int}(g:SetG prog w h a o es ep t ks) (k:∀o,h.get? a=some o->h'.get? a=some o):SetG prog w h' a o es ep t ks:=
 ⟨k _ g.get,g.ex,g.dat,g.el,g.room,g.fit,g.tab,g.perm,g.nd⟩
theorem Zgk (hh:A.handled=none) {I a:Addr}(hne:a≠I) {o:Obj}{es:Array (Int × Value)}{ep:Nat}{t:SetTable}{ks:List Int}(sl:Nat->Nat) (L:List (Int × Value))
  (hs:∀(s:Shared) j e,SetG prog w s.heap a o es ep t ks->L[j]?=some e->∀(A:Around) (E:Value->Shared->Prop) (Q':Option (Value × Nat)->Shared->Prop),Q' (some (e.2,sl (j+1))) s->wpAny (model prog w) A (setNext a (sl j) j ep) Q' E s)
  (hd:∀(s:Shared),SetG prog w s.heap a o es ep t ks->∀(A:Around) (E:Value->Shared->Prop) (Q':Option (Value × Nat)->Shared->Prop),Q' none s->wpAny (model prog w) A (setNext a (sl L.length) L.length ep) Q' E s) :
  Walks prog w A I [I,a] [I] L.length (λj v=>∃e,L[j]?=some e/\v=e.2) (λj h=>h.get? I=some (setItO (.int (sl j) 0) j a es.size ep)/\SetG prog w h a o es ep t ks) where
 sub:=λb hb=>by simp at hb;simp[hb]
 frame:=λ_ _ _ st hk=>⟨hk I (by simp) _ st.1,st.2.keep λo e=>hk a (by simp) o e⟩
 item:=λi s Q E hi st hQ=>by
  refine Zly st.1 st.2 (hs s i _ st.2 (Waa hi)) λh' e sb=>?_;refine hQ _ h' s.toks ⟨_,Waa hi,rfl⟩ ⟨e,st.2.keep λo q=>(sb.2 a hne).trans q⟩ λb o hb q=>(sb.2 b (λz=>hb (by simp[z]))).trans q
 done:=λs Q E st hQ=>Zlh hh st.1 st.2 (hd s st.2) λh' eb=>hQ h' s.toks λb o hb e=>eb b o (λz=>hb (by simp[z])) e
 self:=λ_ _ _ _ st hQ=>Zgz st.1 hQ
theorem Zjs (hh:A.handled=none) {I a T:Addr}(hne:a≠I) (hnt:T≠I) {o:Obj}{es:Array (Int × Value)}{ep:Nat}{t:SetTable}{ks:List Int}(pl:List Nat) (L:List (Int × Value)) (hl:L.length=pl.length) (hs:∀(j k:Nat) e,pl[j]?=some k->L[j]?=some e->es[k]?=some e) :
  Walks prog w A I [I,a,T] [I] L.length (λj v=>∃e,L[j]?=some e/\v=e.2) (λj h=>h.get? I=some (setItO (.ref T) j a es.size ep)/\SetG prog w h a o es ep t ks/\h.get? T=some { cls:=.type "tuple",data:=.seq (pl.map λj:Nat=>rawInt (j:Int)).toArray }) where
 sub:=λb hb=>by simp at hb;simp[hb]
 frame:=λ_ _ _ st hk=>⟨hk I (by simp) _ st.1,st.2.1.keep λo e=>hk a (by simp) o e,hk T (by simp) _ st.2.2⟩
 item:=λi s Q E hi st hQ=>by
  have hp:i<pl.length:=by omega
  refine Zi7 st.1 st.2.1 st.2.2 (Waa hp) (hs i _ _ (Waa hp) (Waa hi)) λh' e sb=>?_;refine hQ _ h' s.toks ⟨_,Waa hi,rfl⟩ ⟨e,st.2.1.keep λo q=>(sb.2 a hne).trans q,(sb.2 T hnt).trans st.2.2⟩ λb o hb q=>(sb.2 b (λz=>hb (by simp[z]))).trans q
 done:=λs Q E st hQ=>Zge hh st.1 st.2.1 st.2.2 (Wcj (by omega)) λh' eb=>hQ h' s.toks λb o hb e=>eb b o (λz=>hb (by simp[z])) e
 self:=λ_ _ _ _ st hQ=>Zgz st.1 hQ
theorem Zmj {src:Source}{n:Nat}{Q:Nat->Shared->Prop}(hn:n≠0) (q:∀k dr,k<n->Q k { s with drawn:=dr }):wpAny (model prog w) A (choose src n) Q E s:=by
 intro Γ p _;unfold choose;rw[Sem.wp_choose];refine⟨hn,?_⟩;show Sem.wp _ _ (Sem.pure _) _ _ _ _
 first|rw[Sem.wp_pure]|simp only[Sem.wp]
 exact q _ _ (Wc5 _ (Nat.pos_of_ne_zero hn))
theorem Zl5:∀(n:Nat) {s:Shared}{xs:List Nat}{Q:List Nat->Shared->Prop},xs.length=n->(∀ys dr,ys.Perm xs->Q ys { s with drawn:=dr })->wpAny (model prog w) A (drawOrder n xs) Q E s
 |0,s,xs,Q,h,q=>by
  have:xs=[]:=Wb1 h;subst this;unfold drawOrder;exact wpAny_pure (q [] s.drawn (List.Perm.refl _))
 |n+1,s,[],Q,h,q=>by simp at h
 |n+1,s,x::xs,Q,h,q=>by
  unfold drawOrder;refine wpAny_bind (Zmj (by simp) λk dr hk=>?_);rw[Waa hk];refine wpAny_bind (Zl5 n (by rw[List.length_eraseIdx_of_lt hk];omega) λys dr' hy=>wpAny_pure (q _ dr' ?_));exact(List.Perm.cons _ hy).trans (Zet hk)
end
end L2
namespace L2
open PySem PySem.Spec PyProof.Rows PySem.SeqAt
section
variable {prog:Program}{w:World}{A:Around}{E:Value->Shared->Prop}{s:Shared}
structure SWalk (prog:Program) (w:World) (A:Around) (a:Addr) (es:Array (Int × Value)) (s s1:Shared) (I:Addr) where
 fp:List Addr
 L:List (Int × Value)
 St:Nat->Heap->Prop
 old:∀b o,s.heap.get? b=some o->s1.heap.get? b=some o
 new:s.heap.objs.size<=I
 fpo:∀b∈fp,b=a\/s.heap.objs.size<=b
 perm:L.Perm es.toList
 W:Walks prog w A I fp [I] L.length (λj v=>∃e,L[j]?=some e/\v=e.2) St
 st:St 0 s1.heap
theorem Zlq (es:Array (Int × Value)):(Wau es.size).map (λk=>es.getD k (0,.none))=es.toList:=by
 apply List.ext_getElem
 ·simp
 ·intro i h1 h2
  simp only[List.getElem_map,List.getElem_range,Array.getElem_toList];simp only[Array.length_toList]at h2;simp[Array.getD,h2]
theorem set_iter {a:Addr}{o:Obj}{es:Array (Int × Value)}{ep:Nat}{t:SetTable}{ks:List Int}{Q:Value->Shared->Prop}(hh:A.handled=none) (g:SetG prog w s.heap a o es ep t ks)
  (q:∀(h1:Heap) dr (I:Addr),Nonempty (SWalk prog w A a es s { s with heap:=h1,drawn:=dr } I)->Q (.ref I) { s with heap:=h1,drawn:=dr }):wpAny (model prog w) A (pyIter (.ref a)) Q E s:=by
 have hT:s.TypeIs (.ref a) "set":=⟨o,g.get,g.ex.1⟩;have hlt:a<s.heap.objs.size:=Wap g.get;have hne1:a≠s.heap.objs.size:=Waw hlt;have hne2:a≠s.heap.objs.size+1:=Waw (Wbr hlt);have hroom:es.size<=sizeLine:=by
  have:=g.room;rw[sizeLine_eq];unfold scanBound at this;omega
 refine wpAny_pyIter_slot hT F.slot_set_iter (wpAny_call_entry F.slot_set_iter hT Zgi ?_ (F.args_set_iter_1 _));unfold Builtin.«frozenset.__iter__» Builtin.Frozenset.slot0 slotArgs;simp only[List.isEmpty_nil,Bool.not_true,Wbi,↓reduceIte,bind_assoc,Wcn,bne_self_eq_false];unfold Builtin.Frozenset.addrOf Builtin.Frozenset.sizeOf;refine wpAny_bind (wpAny_pure ?_)
 try dsimp only
 refine wpAny_bind (wpAny_pure ?_);refine wpAny_bind (wpAny_bind (wpAny_setEntries_of g.get g.dat g.fit (wpAny_pure ?_)));rw[Zjv];refine wpAny_bind (wpAny_bind (wpAny_setState_of g.get g.dat g.fit (wpAny_bind (Zd6 (wpAny_pure ?_)))));by_cases hd:(!byTextB w && (!t.plain && decide (es.size > 1)))=true
 ·have hd2:=hd
  rw[if_pos hd];refine wpAny_bind (Zl5 es.size (by simp) λys dr hy=>?_);have hyl:=hy.length_eq;rw[Wbe]at hyl;refine wpAny_bind (wpAny_newTuple ?_ (by rw[Wab,hyl];exact hroom));have g1:=g.keep (h':=s.heap.push (seqObj "tuple" (ys.map λi:Nat=>rawInt (i:Int)).toArray 0)) λo e=>Wae _ e;refine wpAny_bind (wpAny_setEpoch_of g1.get g1.dat g1.fit ?_);refine wpAny_bind (wpAny_newObj_type ?_ (by size_fits));have hsz:(s.heap.push (seqObj "tuple" (ys.map λi:Nat=>rawInt (i:Int)).toArray 0)).objs.size=s.heap.objs.size+1:=size_push' _ _;have hI:((s.heap.push (seqObj "tuple" (ys.map λi:Nat=>rawInt (i:Int)).toArray 0)).push (setItO (.ref s.heap.objs.size) 0 a es.size ep)).get? (s.heap.objs.size+1)=some (setItO (.ref s.heap.objs.size) 0 a es.size ep):=by
   rw[<- hsz];exact Wal _ rfl
  have hTu:((s.heap.push (seqObj "tuple" (ys.map λi:Nat=>rawInt (i:Int)).toArray 0)).push (setItO (.ref s.heap.objs.size) 0 a es.size ep)).get? s.heap.objs.size=some { cls:=.type "tuple",data:=.seq (ys.map λj:Nat=>rawInt (j:Int)).toArray }:=
   Wae _ (Wal _ rfl)
  show wpAny _ _ (ret (.ref (s.heap.push (seqObj "tuple" (ys.map λi:Nat=>rawInt (i:Int)).toArray 0)).objs.size)) _ _ { s with heap:=(s.heap.push (seqObj "tuple" (ys.map λi:Nat=>rawInt (i:Int)).toArray 0)).push (setItO (.ref s.heap.objs.size) 0 a es.size ep),drawn:=dr };rw[hsz];refine wpAny_pure ⟨_,rfl,"set_iterator",_,⟨_,hI,rfl⟩,Zat.lookup,?_⟩;have hin:∀k∈ys,k<es.size:=λk hk=>Wa2.mp (hy.mem_iff.mp hk);have hL:(ys.map λk=>es.getD k (0,.none)).length=ys.length:=Wab _;refine q _ dr (s.heap.objs.size+1) ⟨⟨[s.heap.objs.size+1,a,s.heap.objs.size],ys.map λk=>es.getD k (0,.none),_,λb o e=>Wae _ (Wae _ e),Wcr _,?_,?_,Zjs hh hne2 (Waw (Nat.lt_succ_self _)) ys _ hL ?_,hI,g1.keep λo e=>Wae _ e,hTu⟩⟩
  ·intro b hb
   simp only[Wat,Wb6,or_false]at hb;rcases hb with h|h|h
   ·exact .inr (by rw[h];exact Wcr _)
   ·exact .inl h
   ·exact .inr (Nat.le_of_eq h.symm)
  ·exact(hy.map _).trans (List.Perm.of_eq (Zlq es))
  ·intro j k e h1 h2
   rw[Wad,h1]at h2;cases h2;have:=hin k (Waq h1);simp[Array.getD,this]
 ·rw[if_neg hd]
  refine wpAny_bind (wpAny_pure ?_);refine wpAny_bind (wpAny_setEpoch_of g.get g.dat g.fit ?_);refine wpAny_bind (wpAny_newObj_type ?_ (by size_fits));have hI:(s.heap.push (setItO (.int 0 0) 0 a es.size ep)).get? s.heap.objs.size=some (setItO (.int 0 0) 0 a es.size ep):=Wal _ rfl;refine wpAny_pure ⟨_,rfl,"set_iterator",_,⟨_,hI,rfl⟩,Zat.lookup,?_⟩;have g1:=g.keep (h':=s.heap.push (setItO (.int 0 0) 0 a es.size ep)) λo e=>Wae _ e;have fpo:∀b∈[s.heap.objs.size,a],b=a\/s.heap.objs.size<=b:=λb hb=>by
   simp at hb;rcases hb with h|h
   ·right;omega
   ·exact .inl h
  cases hb:byTextB w with
  |true=>
   refine q _ s.drawn s.heap.objs.size ⟨⟨[s.heap.objs.size,a],(pickOrder (w.params.setOrder a ep) es).toList,_,λb o e=>Wae _ e,Wah _,fpo,Zou _ _,Zgk hh hne1 (λ_=>0) _ ?_ ?_,hI,g1⟩⟩
   ·intro s j e g he A E Q' hq
    refine Ziz hb g ?_;rw[Array.getElem?_toList]at he;rw[he];exact hq
   ·intro s g A E Q' hq
    refine Ziz hb g ?_;rw[Array.getElem?_eq_none (by simp)];exact hq
  |false=>
   have hd':(!t.plain && decide (es.size > 1))=false:=by
    rw[hb]at hd;simpa using hd
   have hps:t.place.size=es.size:=by
    have:=g.fit;unfold SetTable.fits at this;simp only[Wch,beq_iff_eq]at this;exact this.1
   refine q _ s.drawn s.heap.objs.size ⟨⟨[s.heap.objs.size,a],es.toList,_,λb o e=>Wae _ e,Wah _,fpo,List.Perm.refl _,Zgk hh hne1 (slotAt t.place) _ ?_ ?_,hI,g1⟩⟩
   ·intro s j e g he A E Q' hq
    refine Zgw hb g hd' ?_;rw[Array.getElem?_toList]at he;have hj:=(Array.getElem?_eq_some_iff.mp he).1;rw[Ze1 g.tab.ris (by omega),he,Array.getElem?_eq_getElem (by omega)];have:slotAt t.place (j+1)=t.place[j]+1:=by
     show t.place.getD j 0+1=_;simp[Array.getD,show j<t.place.size by omega]
    rw[this]at hq;exact hq
   ·intro s g A E Q' hq
    refine Zgw hb g hd' ?_;rw[Array.length_toList,Ze1 g.tab.ris (Nat.le_of_eq hps.symm),Array.getElem?_eq_none (Wah _)];exact hq
end
end L2
namespace L2
open PySem PySem.Spec PyProof.Rows PySem.SeqAt
section
variable {prog:Program}{w:World}{A:Around}{E:Value->Shared->Prop}{s:Shared}
theorem Zp9 {r:Addr}{Q:Bool->Shared->Prop}(hT:s.TypeIs (.ref r) "set") (h:Q false s):wpAny (model prog w) A (Builtin.List.listLengthHint (.ref r)) Q E s:=by
 unfold Builtin.List.listLengthHint;refine wpAny_bind (wpAny_specialOf hT F.slot_set_len.lookup ?_);generalize hid:("set.__len__":String)=nm
 wp_delta
 rw[show splitId nm=some ("set","__len__") by subst hid;decide +kernel];subst hid;refine wpAny_bind (wpAny_isInstance (T:="set") (b:=true) hT (by rw[isSubtype_type];kernel_rfl) ?_);refine wpAny_ite_split (λz=>absurd z (by decide)) λ_=>?_;refine wpAny_ite_split (λ_=>wpAny_bind (wpAny_typeOf hT (wpAny_pure h))) λz=>absurd (by decide +kernel) z
theorem Zi8 {L:List (Int × Value)}{acc:Array Value}(h:ItemsOf (λj v=>∃e,L[j]?=some e/\v=e.2) acc L.length):acc.toList=L.map (·.2):=by
 obtain⟨h1,h2⟩:=h;apply Wb3;intro i;rw[Array.getElem?_toList,Wad];by_cases hi:i<acc.size
 ·obtain⟨e,e1,e2⟩:=h2 i _ (Array.getElem?_eq_getElem hi)
  rw[e1,Array.getElem?_eq_getElem hi,e2];rfl
 ·rw[Array.getElem?_eq_none (by omega),Wcj (by omega)];rfl
theorem Zlp {R:Result->Shared->Prop}{a S:Addr}{o:Obj}{es:Array (Int × Value)}{ep c₀:Nat}{t:SetTable}{ks:List Int}(hh:A.handled=none) (g:SetG prog w s.heap a o es ep t ks) (hSa:S≠a) (res:Value) (hS:s.heap.get? S=some { cls:=.type "list",data:=.seq #[] c₀ })
  (hR:∀h' tk dr c' (L:List (Int × Value)),(∀b o,b≠S->s.heap.get? b=some o->h'.get? b=some o)->L.Perm es.toList->h'.get? S=some { cls:=.type "list",dict:=none,data:=.seq (L.map (·.2)).toArray c',slots:=#[] } -> R (.ok (.ret res)) { s with heap:=h',toks:=tk,drawn:=dr }) :
  wpAny (model prog w) A.in1 (Builtin.List.listExtendWith (.ref S) (.ref a) res)
   (λfin s'=>match fin with|.done f=>R (.ok f) s'|.again c'=>c'.quiet=true/\codeAny (model prog w) A c' R s') (λe s'=>R (.error e) s') s:=by
 have hT:s.TypeIs (.ref a) "set":=⟨o,g.get,g.ex.1⟩;have hSl:S<s.heap.objs.size:=Wap hS;unfold Builtin.List.listExtendWith;refine wpAny_bind (wpAny_typeOf (T:="set") hT ?_);have h1:Builtin.List.listSameRef (.ref S) (.ref a)=false:=by simp[Builtin.List.listSameRef,hSa]
 have h2:(Value.type "set" == Value.type "list")=false:=by decide +kernel
 have h3:(Value.type "set" == Value.type "tuple")=false:=by decide +kernel
 simp only[h1,h2,h3,Bool.or_false,Wbi,if_false];refine wpAny_bind (set_iter hh g λh1 dr I ⟨K⟩=>?_);have hK:=K.perm.length_eq;have hn:K.L.length<=sizeLine:=by
  have:=g.room;rw[hK,Array.length_toList,sizeLine_eq];unfold scanBound at this;omega
 have hSf:S ∉ K.fp:=λz=>by
  rcases K.fpo S z with z|z
  ·exact hSa z
  ·exact absurd hSl (Nat.not_lt.mpr z)
 have key:∀(h:Heap) (c₁ tk:Nat),K.St 0 h->(∀b o,b≠S->s.heap.get? b=some o->h.get? b=some o) →
   h.get? S=some { cls:=.type "list",data:=.seq #[] c₁ } -> codeAny (model prog w) A (.builtin "list.extend.loop" ⟨[.ref S,.ref I,res],[]⟩) R { s with heap:=h,toks:=tk,drawn:=dr }:=by
  intro h c₁ tk hst hk hS₁;refine codeAny_extend_loopS K.W.toS hn S hSf res _ 0 _ #[] c₁ rfl (Wb2 _) hst hS₁ (ItemsOf.nil _) λs' acc' c' hm hS' hacc=>?_;rw[Moved.eq_with hm];have ea:=Zi8 hacc;refine hR s'.heap s'.toks dr c' K.L (λb o hb e=>hm.heap b o (λhmem=>?_) (hk b o hb e)) K.perm ?_
  ·rcases Wat.mp hmem with e'|hmem
   ·exact hb e'
   ·exact absurd (Wap e) (by rw[Waz.mp hmem];exact Nat.not_lt.mpr K.new)
  ·rw[<- ea,Array.toArray_toList];exact hS'
 have hS₁:=K.old _ _ hS;refine wpAny_bind (wpAny_holding (Zp9 ⟨o,K.old _ _ g.get,g.ex.1⟩ ?_));refine wpAny_ite_split (λ_=>?_) (λ_=>wpAny_pure ⟨plainId_quiet F.plain_extend_loop _,key _ c₀ _ K.st (λb o _ e=>K.old _ _ e) hS₁⟩);refine wpAny_bind (wpAny_rule ?_);refine wpAny_bind ?_;show wpAny _ _ (updateSeq S (·.push .none) >>= λ_=>updateSeq S (·.pop)) _ _ _;refine wpAny_bind (wpAny_updateSeq hS₁ rfl ?_);have hS₂:=Wcx (Obj.mapSeq (·.push Value.none)) hS₁ rfl;refine wpAny_updateSeq (hz:=by seq_fits) hS₂ rfl ?_;have hS₃:=Wcx (Obj.mapSeq (·.pop)) hS₂ rfl;refine wpAny_pure ⟨plainId_quiet F.plain_extend_loop _,key _ _ _ ?_ (λb o hb e=>?_) hS₃⟩
 ·refine K.W.frame 0 _ _ K.st λb hb o e=>?_
  have hbS:S≠b:=λh=>hSf (h ▸ hb);exact(Wcg _ _ hbS).trans ((Wcg _ _ hbS).trans e)
 ·exact(Wcg _ _ (Ne.symm hb)).trans ((Wcg _ _ (Ne.symm hb)).trans (K.old _ _ e))
theorem Zjn {R:List Value->Shared->Prop}{a:Addr}{o:Obj}{es:Array (Int × Value)}{ep:Nat}{t:SetTable}{ks:List Int}(hh:A.handled=none) (g:SetG prog w s.heap a o es ep t ks)
  (h:∀(h':Heap) (tk:Nat) dr (L:List (Int × Value)),(∀b o,s.heap.get? b=some o->h'.get? b=some o)->s.heap.objs.size<h'.objs.size->L.Perm es.toList->R (L.map (·.2)) { s with heap:=h',toks:=tk,drawn:=dr }) :
  wpAny (model prog w) A (collect (.ref a)) R E s:=by
 have hlt:a<s.heap.objs.size:=Wap g.get;unfold collect;refine wpAny_bind (wpAny_runValue (codeAny_builtin entry_proto_collect' ?_));rw[Around.under_plainId F.plain_proto_collect _];show wpAny _ A.in1 (newList [] >>= λl=>again (.builtin "list.__iadd__" ⟨[l,.ref a],[]⟩)) _ _ s;refine wpAny_bind (wpAny_newList ?_);refine wpAny_pure ⟨plainId_quiet F.plain_list_iadd _,codeAny_builtin entry_list_iadd' ?_⟩;rw[Around.under_plainId F.plain_list_iadd _];show wpAny _ A.in1 (Builtin.List.listExtendWith (.ref s.heap.objs.size) (.ref a) (.ref s.heap.objs.size)) _ _ _;have hS₁:(s.heap.push (seqObj "list" ([]:List Value).toArray 0)).get? s.heap.objs.size=some { cls:=.type "list",data:=.seq #[] 0 }:=Wal _ rfl;have z:=Zlp (A:=A) (s:={ s with heap:=s.heap.push (seqObj "list" ([]:List Value).toArray 0) })
  (R:=λ(q:Result) (s':Shared)=>∃(h':Heap) (tk:Nat) (dr:_) (c':Nat) (L:List (Int × Value)),q=.ok (.ret (.ref s.heap.objs.size))/\s' = { s with heap:=h',toks:=tk,drawn:=dr } ∧
   (∀b o,s.heap.get? b=some o->h'.get? b=some o)/\L.Perm es.toList/\h'.get? s.heap.objs.size=some { cls:=.type "list",dict:=none,data:=.seq (L.map (·.2)).toArray c',slots:=#[] })
  hh (g.keep λo e=>Wae _ e) (Wc8 hlt) (.ref s.heap.objs.size) hS₁
  λh' tk dr c' L hk hp hS'=>⟨h',tk,dr,c',L,rfl,rfl,λb o e=>hk b o (Waw (Wap e)) (Wae _ e),hp,hS'⟩
 refine wpAny_mono z (λfin s' x=>?_) λe s' x=>?_
 ·cases fin with
  |done f=>
   obtain⟨h',tk,dr,c',L,e,rfl,hk,hp,hS'⟩:=x;cases e;show wpAny _ A (load s.heap.objs.size >>= _) _ _ _;refine wpAny_bind (wpAny_load hS' ?_);exact wpAny_pure (h h' tk dr L hk (Wap hS') hp)
  |again c₁=>
   refine⟨x.1,codeAny_mono x.2 λq s₂ y=>?_⟩;obtain⟨h',tk,dr,c',L,rfl,rfl,hk,hp,hS'⟩:=y;show wpAny _ A (load s.heap.objs.size >>= _) _ _ _;refine wpAny_bind (wpAny_load hS' ?_);exact wpAny_pure (h h' tk dr L hk (Wap hS') hp)
 ·obtain⟨h',tk,dr,c',L,e,_⟩:=x
  cases e
theorem Zfv:∀{vs:List Value},(∀v∈vs,∃t,v=.int (numOf v) t)->IntsAre vs (vs.map numOf)
 |[],_=>.nil
 |v::vs,h=>by
  obtain⟨t,e⟩:=h v (by simp);have:=Zfv (vs:=vs) λu hu=>h u (Wax _ hu);rw[Wa3];generalize numOf v=n at e ⊢;subst e;exact .cons _ t this
theorem Zk4 {a:Addr}{ks:List Int}{Q:Value->Shared->Prop}(hh:A.handled=none) (hS:SetI prog w s.heap a ks) (h64:ks.length<64)
  (h:∀(h':Heap) (tk:Nat) dr (l:Addr) (out:List Value) (ms:List Int) (c:Nat),(∀b o,s.heap.get? b=some o->h'.get? b=some o)->s.heap.objs.size<=l->h'.get? l=some (seqObj "list" out.toArray c)->IntsAre out ms->ms.Perm ks->ms.Pairwise (· <= ·)->Q (.ref l) { s with heap:=h',toks:=tk,drawn:=dr }) :
  wpAny (model prog w) A (call (.builtin "sorted") [.ref a]) Q E s:=by
 obtain⟨o,es,ep,t,g⟩:=hS;refine Calls.call_function_entry kind_sorted plain_sorted entry_sorted (args_sorted1 _) ?_;unfold Builtin.«sorted»;refine wpAny_bind (m:=checkCount "sorted" 1 1 _) (wpAny_pure ?_);refine wpAny_bind (Zjn hh g λh' tk dr L hk hsz hp=>?_);have hI:IntsAre (L.map (·.2)) ((L.map (·.2)).map numOf):=Zfv λv hv=>by
  obtain⟨e,he,rfl⟩:=Wav.mp hv;exact Zj9 g.el (hp.mem_iff.mp he)
 have hpk:((L.map (·.2)).map numOf).Perm ks:=by
  rw[Wan];exact(hp.map _).trans g.perm
 have hlen:(L.map (·.2)).length<64:=by
  have:=hpk.length_eq;rw[Wab]at this;omega
 refine wpAny_bind (wpAny_newList ?_ (by rw[sizeLine_eq];omega));have hoL:(h'.push (seqObj "list" (L.map (·.2)).toArray 0)).get? h'.objs.size=some (seqObj "list" (L.map (·.2)).toArray 0):=Wal _ rfl;refine wpAny_bind (wpAny_holding (wpAny_call_entry slot_list_sort ⟨_,hoL,rfl⟩ entry_list_sort (list_sort_tree hoL hI hlen λout ms a1 a2 a3=>⟨_,rfl,?_⟩) (args_list_sort _)));obtain⟨c,hc⟩:=sortedHeap_at (out:=out) hoL;refine wpAny_pure ⟨_,rfl,h _ tk dr _ out.toList ms c (λb o e=>?_) (Wb4 hsz) (by rw[Array.toArray_toList];exact hc) a1 (a2.trans hpk) a3⟩;have hb:=hk b o e;have hbl:=Wap hb;rw[sortedHeap_old (Waw hbl) (by rw[size_push'];exact Wbr hbl)];exact Wae _ hb
end
end L2
namespace L2
open PySem PySem.Spec PyProof.Rows PySem.SeqAt
section
variable {X:Cx}
theorem Inv.drew {pins:List (Addr × Obj)}{σ:List (Option V)}{H:Hp}{s:Shared}(I:Inv X pins σ H s) (dr:_):Inv X pins σ H { s with drawn:=dr }:=
 ⟨I.ok,I.os,I.bare,I.base,I.loc,I.cell,I.free,I.freeC,I.pin,I.hok,I.len⟩
theorem Zop {ms:List Int}(h1:ms.Pairwise (· <= ·)) (h2:ms.Nodup):ms.Pairwise (· < ·):=by
 have:=List.Pairwise.and h1 h2;exact this.imp λhq_=>by obtain⟨a,b⟩:=hq_;omega
theorem Zhh {ns:List Int}{x:Int}:x∈metK (λi=>ns.getD i 0) ns.length↔x∈ns:=by
 rw[Zfg];constructor
 ·rintro⟨j,hj,rfl⟩
  rw[Wac,Waa hj];exact Wa7 hj
 ·intro h
  obtain⟨j,hj,rfl⟩:=List.getElem_of_mem h;exact⟨j,hj,by rw[Wac,Waa hj];rfl⟩
def tSS (K:W.Frag) (ta:TA):TE:=λσ H Q=>ta σ H λvs H1=>∃(p:Addr) (ns:List Int),vs=[.ref p]/\SqL K H1 p (ns.map V.int)/\ns.length<64/\∀(l:Addr) (ms:List Int),ms.Pairwise (· < ·)->(∀x,x∈ms↔x∈ns)->H1 l=none->Q (.ref l) (upd H1 l (.lst (ms.map V.int)))
theorem Zlf {a:Expr}{ta:TA}{p p2 pos pos2:Pos}{K:W.Frag}(hK:X.K=K) (hc:X.calm=true) (hgL:Gl X "sorted") (hmL:X.mg "sorted" = none) (hgR:Gl X "set") (hmR:X.mg "set" = none) (ha:PA X [a] ta) (hs:starEach [a] X.env=[(false,eval a X.env)]:=by rfl)
  (he:starEach [.Call (.Name "set" p2) [a] [] pos2] X.env=[(false,eval (.Call (.Name "set" p2) [a] [] pos2) X.env)]:=by rfl) :
  PE X (.Call (.Name "sorted" p) [.Call (.Name "set" p2) [a] [] pos2] [] pos) (tSS K ta):=by
 subst hK;intro pins s σ H Q I h;refine wpAny_Call_Name_kw (Zdl I hgL hmL Zdn ?_);refine PyProof.Rows.callWith_builtin1 ?_ he rfl;rw[he];show wpAny _ _ (spliced ((false,eval (.Call (.Name "set" p2) [a] [] pos2) X.env)::backTo pos [])) _ _ s;refine Calls.spliced_cons ?_;refine wpAny_Call_Name_kw (Zdl I hgR hmR Zra ?_);refine PyProof.Rows.callWith_type1 (thn (ha pos2 pins s σ H _ I h) λus s1 ⟨vs,H1,I1,r1,q1⟩=>?_) hs rfl;obtain⟨p,ns,e,hx,hl,q⟩:=q1;subst e;obtain⟨u,rfl,ru⟩:=vals1 r1;cases (show u=Value.ref p from ru);obtain⟨its,w1,p1,hz⟩:=I1.list hx;have hi:=Zc5 w1;have hlen:=hi.length;refine Zh6 (I1.ok.hd hc) p1.isList (by simpa using hi) (by rw[Wag];unfold scanBound;omega) λh' tk hS hk=>?_;rw[show its.toArray.size=ns.length by rw[Wag];exact hlen]at hS;refine Calls.spliced_nil ?_;have I2:Inv X pins σ H1 { s1 with heap:=h',toks:=tk }:=I1.kept hk;have hm:=Zho (λi=>ns.getD i 0) ns.length;refine Zk4 (s:={ s1 with heap:=h',toks:=tk }) (I1.ok.hd hc) hS (by omega) λh2 tk2 dr l out ms c k2 hl2 ho2 hi2 hp2 hs2=>?_;have hml:=hp2.length_eq;have nd:ms.Nodup:=by
  obtain⟨_,_,_,_,g⟩:=hS;exact hp2.nodup_iff.mpr g.nd
 have I3:=(I2.laid (t':=tk2) k2 hl2 (show ObjOk X.prog X.w _ h2 l (.lst (ms.map V.int)) from ⟨by rw[Wab];exact Wb4 (small1000 (by omega)),out,c,Zc4 hi2,ho2⟩)).drew dr;exact⟨.ref l,_,I3,rfl,q l ms (Zop hs2 nd) (λx=>hp2.mem_iff.trans Zhh) (I2.hok.fresh hl2)⟩
end
section
variable {K:W.Frag}{Δ:Evt}
theorem Zv6 {ta:TA}{Po:OD->Evt->Prop}(h:JA K ta Δ λds Δ1=>∃ns:List Int,ds=[.lst (ns.map .int)]/\ns.length<64/\∀ms:List Int,ms.Pairwise (· < ·)->(∀x,x∈ms↔x∈ns)->Po (.lst (ms.map .int)) Δ1):JO K (tSS K ta) Δ Po:=λg G H σ Q k c=>
 h g G H σ _ k λvs ds G1 H1 Δ1 k1 s1 r1 hq_=>by
  obtain⟨ns,e,hl,p⟩:=hq_;subst e;obtain⟨_,_,rfl,r,t⟩:=r1.inv
  next=>
   cases t.inv;obtain⟨a,us,rfl,ha,rr⟩:=r.inv
   next=>
    have ev:=rr.ints;subst ev;refine⟨a,ns,rfl,SqL.of (k1.live _ _ ha),hl,λl ms o1 o2 hl=>?_⟩;obtain⟨k2,pd⟩:=k1.fresh (od:=.lst (ms.map .int)) hl (show OwnRep K G1 (.lst (ms.map V.int)) (.lst (ms.map .int)) from Reps.ofInts ms);exact c l _ G1 _ Δ1 k2 s1 pd (p ms o1 o2)
end
structure CompScK (osc:Scope) (oN:List Str) (y:Str) (scope:Scope) (fvs:List Str) (sel:List Nat):Prop where
 kind:scope.kind=.function
 one:scope.names.filter (λz=>z.2 == .cell)=[(y,.cell)]
 own:∀z∈scope.names,z.1=y->z.2=.cell
 names:∀z∈scope.names,z.2=.local->scope.names.lookup z.1=some .local
 free:∀z∈scope.names,z.2=.free->osc.names.lookup z.1=some .cell\/osc.names.lookup z.1=some .free
 len:fvs.length=sel.length
 fv:∀p∈fvs.zip sel,oN[p.2]?=some p.1/\scope.names.lookup p.1=some .free
def compCxK (X:Cx) (y:Str) (scope:Scope) (N:List Str) (C:Addr) (s:Shared) (H:Hp) (ex:List Addr) (pn:List (Addr × Obj)):Cx:=
 { compCx X scope N C s H ex pn with env:=compEnvC scope ((y,C+1)::clOf X.env scope.names []) C X.env,fn:=λx=>x == y }
theorem Zdf {y:Str}:∀(names:List (Str × NameKind)) (n:Nat) (acc:List (Str × Addr)),(names.filter (λz=>z.2 == .cell)=[]->cellsFrom n names acc=acc)/\(names.filter (λz=>z.2 == .cell)=[(y,.cell)]->cellsFrom n names acc=(y,n)::acc)
 |[],n,acc=>⟨λ_=>rfl,λh=>by simp at h⟩
 | (x,k)::r,n,acc=>by
  unfold cellsFrom;rw[Wb7];cases hk:k == NameKind.cell with
  |true=>
   simp only[hk,if_true];refine⟨λh=>by simp at h,λh=>?_⟩;have h1:=(List.cons.inj h).1;have h2:=(List.cons.inj h).2;cases h1;exact(Zdf (y:=y) r (n+1) _).1 h2
  |false=>
   simp only[hk,Wbi,if_false];exact Zdf r n acc
theorem Zc8 {y:Str}:∀(names:List (Str × NameKind)) (h:Heap),(names.filter (λz=>z.2 == .cell)=[]->pushCells h names=h)/\(names.filter (λz=>z.2 == .cell)=[(y,.cell)]->pushCells h names=h.push { cls:=.type "cell",data:=.cell none })
 |[],h=>⟨λ_=>rfl,λh=>by simp at h⟩
 | (x,k)::r,h=>by
  unfold pushCells;rw[Wb7];cases hk:k == NameKind.cell with
  |true=>
   simp only[hk,if_true];exact⟨λh=>by simp at h,λe=>(Zc8 (y:=y) r _).1 (List.cons.inj e).2⟩
  |false=>
   simp only[hk,Wbi,if_false];exact Zc8 r h
section
variable {X:Cx}{pins:List (Addr × Obj)}{σ:St}{H:Hp}{s:Shared}{fp:List Addr}{scope:Scope}{tgs fvs:List Str}{sel:List Nat}{y:Str}
theorem newEnvK {M:Model}{A:Around}{E:Value->Shared->Prop}{osc:Scope}{oN:List Str}{g:Addr}{cl:List (Str × Addr)}{qual:Str}{env:Env}{Q:Env->Shared->Prop}(S:CompScK osc oN y scope fvs sel)
  (q:∀h',h'.Ns s.heap.objs.size (λ_=>none)->h'.IsCell (s.heap.objs.size+1) none->(∀b o,s.heap.get? b=some o->h'.get? b=some o) →
   Q { scope,locals:=s.heap.objs.size,globals:=g,cells:=(y,s.heap.objs.size+1)::cl,qual,func:=none,code:=env.code,frame:=env.frame,builtins:=env.builtins } { s with heap:=h' }) :
  wpAny M A (newFunctionEnv scope g cl [] qual none .none (some env)) Q E s:=by
 simp only[newFunctionEnv,Option.isSome_some,if_true];refine wpAny_bind (wpAny_alloc ?_);refine wpAny_bind (wpAny_layCells _ (λname kind cells=>by cases hkc:kind == NameKind.cell <;> simp[hkc]) _ _ _ _ ?_)
 have hsz:(s.heap.push { cls:=.type "dict",data:=.dict #[] }).objs.size=s.heap.objs.size+1:=Wcl ..;rw[(Zdf (y:=y) _ _ _).2 S.one,(Zc8 (y:=y) _ _).2 S.one];show wpAny M A _ Q E { s with heap:=(s.heap.push { cls:=.type "dict",data:=.dict #[] }).push { cls:=.type "cell",data:=.cell none } };refine wpAny_bind (wpAny_pure (wpAny_pure ?_));have hc:((s.heap.push { cls:=.type "dict",data:=.dict #[] }).push { cls:=.type "cell",data:=.cell none }).get? (s.heap.objs.size+1)=some { cls:=.type "cell",data:=.cell none }:=by
  rw[<- hsz];exact Wal _ rfl
 have z:=q _ ((Heap.Ns.new s.heap (.type "dict")).keeps λb o e=>Wae { cls:=.type "cell",data:=.cell none } e) ⟨_,hc,rfl⟩ λb o e=>Wae _ (Wae _ e);rw[<- hsz]at z;exact z
theorem ownK {env:Env}{names:List (Str × NameKind)}{n:Nat}{x:Str}{c:Addr}(e:((y,n)::clOf env names []).lookup x=some c):(x=y/\c=n)\/env.cells.lookup x=some c:=by
 rw[Wbz]at e;split at e
 ·rename_i h
  cases e;exact .inl ⟨by simpa using h,rfl⟩
 ·exact .inr (Zbm _ _ (λ_ _ z=>by simp at z) e)
theorem Zfl (S:CompScK X.env.scope X.N y scope fvs sel) (ok:X.Ok):∀n,(n,NameKind.free)∈scope.names->∃a,X.env.cells.lookup n=some a:=λn hn=>
 ok.has n (S.free _ hn rfl)
theorem Zqc (S:CompScK X.env.scope X.N y scope fvs sel) (N:List Str) (I:Inv X pins σ H s) (hf:∀b∈fp,FpOk X pins H b) (hlt:∀b∈fp,b<s.heap.objs.size):(compCxK X y scope N s.heap.objs.size s H fp (X.pn++pins)).Ok where
 mod:=I.ok.mod
 kind:=S.kind
 glob:=I.ok.glob
 blt:=I.ok.blt
 above:=Wah _
 inj:=λx z c h1 h2=>by
  have old:∀x,X.env.cells.lookup x=some c->c≠s.heap.objs.size+1:=λx e=>by
   obtain⟨v,q⟩:=I.cell x c e;exact Waw (Wbr q.lt)
  rcases ownK h1 with ⟨a,b⟩|a
  ·rcases ownK h2 with ⟨a',b'⟩|a'
   ·rw[a,a']
   ·exact absurd b (old _ a')
  ·rcases ownK h2 with ⟨a',b'⟩|a'
   ·exact absurd b' (old _ a)
   ·exact I.ok.inj x z c a a'
 has:=λx hx=>by
  by_cases hxy:x=y
  ·subst hxy
   exact⟨s.heap.objs.size+1,by show ((x,_)::clOf X.env scope.names []).lookup x=_;simp⟩
  have hm:(x,NameKind.free)∈scope.names:=by
   have key:∀k,(k=.cell\/k=.free)->(relab X.env.scope scope).names.lookup x=some k->(x,NameKind.free)∈scope.names:=λk hk h=>by
    obtain⟨⟨n,j⟩,hy,e⟩:=Wav.mp (PySem.mem_of_lookup h);dsimp only at e;split at e
    ·rename_i hj
     have e1:n=x:=congrArg Prod.fst e;have hj':j=.free:=by
      simp only[Wch,beq_iff_eq]at hj;exact hj.1.1
     rw[<- e1,<- hj'];exact hy
    ·have e1:n=x:=congrArg Prod.fst e
     have e2:j=k:=congrArg Prod.snd e;rcases hk with z|z
     ·have hin:((n,j):Str × NameKind)∈scope.names.filter (λz=>z.2 == .cell):=Wbx.mpr ⟨hy,by rw[e2,z];rfl⟩
      rw[S.one,Waz]at hin;exact absurd (e1.symm.trans (congrArg Prod.fst hin)) hxy
     ·rw[<- e1,<- z,<- e2];exact hy
   rcases hx with z|z
   ·exact key _ (.inl rfl) z
   ·exact key _ (.inr rfl) z
  obtain⟨c,hc⟩:=Zdh scope.names [] hm (Zfl S I.ok x hm);exact⟨c,by
   show ((y,_)::clOf X.env scope.names []).lookup x=_;rw[Wbz,show (x == y)=false from by simpa using hxy];exact hc⟩
 cab:=λx c h e=>by
  rcases ownK e with ⟨_,z⟩|z
  ·rw[z];exact Wcr _
  ·have hx:x=y:=by simpa using (show (x == y)=true from h)
   subst hx;have:((x,s.heap.objs.size+1)::clOf X.env scope.names []).lookup x=some c:=e;simp at this;rw[<- this];exact Wcr _
 hd:=I.ok.hd
 frames:=I.ok.frames
 stk:=.inl rfl
 exf:=λb hb=>⟨Waw (hlt b hb),λx c e=>by
  rcases ownK e with ⟨_,z⟩|z
  ·rw[z];exact Wc8 (Wbr (hlt b hb))
  ·exact(hf b hb).2.2.2.2.1 x c z⟩
 bs:=I.bs
 bsz:=Wbu I.ok.bsz I.sz
 noex:=λb o e hb=>by
  rcases(hf b hb).2.2.2.1 with z|z
  ·exact I.ok.noex b o e z
  ·exact absurd (Wbf (Wap e) (Wbu I.ok.bsz z)) (Wc1 _)
 exfs:=λb hb z=>by
  rcases Wat.mp (I.stkSub b z) with e|z
  ·exact(hf b hb).2.1 e
  ·exact(hf b hb).2.2.1 z
 funs:=I.stack
 frf:=I.stkFree
theorem Znw (S:CompScK X.env.scope X.N y scope fvs sel) (I:Inv X pins σ H s) (hf:∀b∈fp,FpOk X pins H b) (hlt:∀b∈fp,b<s.heap.objs.size) {h':Heap}{tk:Nat}{m:Str->Option Value}
  (hns:h'.Ns s.heap.objs.size m) (hcl:h'.IsCell (s.heap.objs.size+1) none) (old:∀b o,s.heap.get? b=some o->h'.get? b=some o) :
  Inv (compCxK X y scope (tgs++fvs) s.heap.objs.size s H fp (X.pn++pins)) [] (compSt tgs.length sel σ) H { s with heap:=h',toks:=tk } where
 ok:=Zqc S _ I hf hlt
 os:=rfl
 bare:=I.bare
 base:=Un.kept old
 loc:=by
  refine⟨m,hns,λi x v h1 h2 h3=>?_⟩;have h1:(tgs++fvs)[i]?=some x:=h1;unfold compSt at h2;by_cases hi:i<tgs.length
  ·rw[Wbc (by simpa using hi),Wcp,if_pos hi]at h2
   cases h2
  ·have hi':tgs.length<=i:=Nat.le_of_not_lt hi
   rw[Way (by simpa using hi'),Wad,Wba]at h2;rw[Way hi']at h1;cases hj:sel[i-tgs.length]? with
   |none=>rw[hj]at h2;cases h2
   |some j=>
    rw[hj]at h2;have h2:(σ[j]?).getD none=some v:=by simpa using h2
    have hz:(x,j)∈fvs.zip sel:=by
     refine Waq (i:=i-tgs.length) ?_;rw[Wbh];exact⟨h1,hj⟩
    obtain⟨hN,hfr⟩:=S.fv _ hz;have hσ:σ[j]?=some (some v):=by
     cases q:σ[j]? with
     |none=>rw[q]at h2;cases h2
     |some o=>rw[q]at h2;exact congrArg some h2
    have hko:X.env.scope.names.lookup x=some .cell\/X.env.scope.names.lookup x=some .free:=S.free (x,.free) (PySem.mem_of_lookup hfr) rfl;obtain⟨m0,hn0,hl0⟩:=I.loc;obtain⟨u,r,l⟩:=hl0 j x v hN hσ (.inr hko);refine⟨u,r,.inr ⟨Zem hfr,?_⟩⟩;rcases l with ⟨hk,_⟩|⟨_,c,hc,hcell⟩
    ·have hk:X.env.scope.names.lookup x=some .local:=hk
     rcases hko with z|z <;> (rw[hk]at z;cases z)
    ·obtain⟨c',hc'⟩:=Zdh scope.names [] (PySem.mem_of_lookup hfr) ⟨c,hc⟩
     have e:=Zbm scope.names [] (λ_ _ z=>by simp at z) hc';rw[hc]at e;cases e;obtain⟨o,ho,hd⟩:=hcell;have hxy:(x == y)=false:=by
      cases q:x == y with
      |false=>rfl
      |true=>
       have:x=y:=by simpa using q
       have:=S.own (x,.free) (PySem.mem_of_lookup hfr) this;cases this
     exact⟨c,by show ((y,s.heap.objs.size+1)::clOf X.env scope.names []).lookup x=some c;rw[Wbz,hxy];exact hc',o,old _ _ ho,hd⟩
 cell:=λx c e=>by
  rcases ownK e with ⟨_,z⟩|z
  ·rw[z];exact⟨none,hcl⟩
  ·obtain⟨v,o,ho,hd⟩:=I.cell x c z
   exact⟨v,o,old _ _ ho,hd⟩
 free:=I.hok.fresh (Wah _)
 freeC:=λx c e=>by
  rcases ownK e with ⟨_,z⟩|z
  ·rw[z];exact I.hok.fresh (Wcr _)
  ·exact I.freeC x c z
 pin:=λp hp=>by
  have hp:p∈(X.pn++pins)++[]:=hp;rw[Wbk]at hp;obtain⟨e,n,ne,nf,d⟩:=I.pin p hp;refine⟨old _ _ e,n,Waw (Wap e),λz=>?_,d⟩;rcases Wat.mp (I.stkSub p.1 z) with q|q
  ·exact ne q
  ·exact nf q
 hok:=I.hok.kept old
 len:=by
  unfold compSt;show _=(tgs++fvs).length;rw[Wao,Wao,Wba,Wab,S.len]
theorem Zlb {N:List Str}{σ':St}{H':Hp}{s':Shared}{h':Heap}(I:Inv X pins σ H s) (hf:∀b∈fp,FpOk X pins H b)
  (J:Inv (compCxK X y scope N s.heap.objs.size s H fp (X.pn++pins)) [] σ' H' s') (sb:Heap.SameBut s.heap.objs.size s'.heap h'):Inv X pins σ H' { s' with heap:=h' }:=by
 have B:Un (frs X.stack) fp H H' s.heap s'.heap:=J.base;have ne:∀b o,s.heap.get? b=some o->b≠s.heap.objs.size:=λb o e=>Waw (Wap e);have fr:H' s.heap.objs.size=none:=J.free;refine I.call' (s':={ s' with heap:=h' }) (ch:=fp) J.os ⟨λb o e n h1 h2=>?_,λb o e n h1 h2=>?_,B.free,λb o e h2=>?_,B.tups,B.frzs,B.tbls⟩ (λb ob e=>?_) J.bare λb hb=>?_
 ·exact(sb.2 b (ne b o e)).trans (B.keep b o e n h1 h2)
 ·obtain⟨sl,q⟩:=B.slot b o e n h1 h2
  exact⟨sl,(sb.2 b (ne b o e)).trans q⟩
 ·obtain⟨o',q⟩:=B.there b o e h2
  exact⟨o',(sb.2 b (ne b o e)).trans q⟩
 ·refine(J.hok b ob e).stay (λc w' hc q=>(sb.2 c ?_).trans q) (λ_ q=>q) λ_ _ q=>q
  intro z;rcases hc with hc|hc
  ·rw[<- hc,z,fr]at e;cases e
  ·rw[z,fr]at hc;cases hc
 ·exact⟨(hf b hb).2.2.2.1,(hf b hb).2.1,(hf b hb).2.2.2.2.1,(hf b hb).2.2.2.2.2⟩
end
section
variable {X:Cx}
theorem Zln {y:Str}{elt tg iter:Expr}{ifs:List Expr}{scope:Scope}{pos:Pos}{tgs fvs:List Str}{sel:List Nat}{g:TG}{tc:TT}{te:TE}(S:CompScK X.env.scope X.N y scope fvs sel) (hc:X.calm=true)
  (hg:∀C s H ex pn,PG (compCxK X y scope (tgs++fvs) C s H ex pn) tg g) (ht:∀C s H ex pn,PTs (compCxK X y scope (tgs++fvs) C s H ex pn) ifs tc) (he:∀C s H ex pn,PE (compCxK X y scope (tgs++fvs) C s H ex pn) elt te)
  {pins:List (Addr × Obj)}{σ:St}{s:Shared}{itv:Value}{Q:VK}{E:Value->Shared->Prop}{RR:Value->Addr->Result->Shared->Prop}
  (h2:PIE X pins σ tg (λJ H1=>∀acc,H1 acc=none->∃W:Nat->Nat->St->Hp->Prop,
   (∃m,W 0 m (compSt tgs.length sel σ) (upd H1 acc (.lst [])))/\∀i m σ' H',W i m σ' H' →
   (J.stop i H' /\ Q (.ref acc) H')\/(J.go i H' /\ ∃N:St->Hp->Prop,(∀σ2 H2,N σ2 H2->∃m',m'<m/\W (i+1) m' σ2 H2) ∧
   ∀x H2,J.yld i H' x H2->g x σ' H2 λσ2 H3=>tc σ2 H3 λb H4=>if b=true then te σ2 H4 λy H5=>∃ys,H5 acc=some (.lst ys)/\ys.length<sizeLine/\N σ2 (upd H5 acc (.lst (ys++[y]))) else N σ2 H4)) itv s)
  (fin:∀(s':Shared) (C acc:Addr) (H':Hp) (m:Str->Option Value),s'.heap.Ns C m->FpOk X pins H' C->(∀h',Heap.SameBut C s'.heap h' -> Inv X pins σ H' { s' with heap:=h' })->Q (.ref acc) H' -> RR (.ref acc) C (.ok .next) s') :
  wpAny (model X.prog X.w) X.A (newList []) (λacc s3=>wpAny (model X.prog X.w) X.A (newFunctionEnv scope X.env.globals (clOf X.env scope.names []) [] X.env.qual none .none (some X.env)) (λcenv s4=>
   codeAny (model X.prog X.w) X.A (.compStart (.ListComp elt [⟨tg,iter,ifs,0⟩] scope pos) 0 itv acc { cenv with scope:=relabel scope X.env }) (RR acc cenv.locals) s4) E s3) E s:=by
 obtain⟨it,fp,tn,J,H1,e,I,T,st,f2,h2⟩:=h2;subst e;have hlt:∀b∈fp,b<s.heap.objs.size:=λb hb=>let ⟨o,ho,_⟩:=T.obj 0 _ st b hb; Wap ho
 refine wpAny_newObj_type (newEnvK S λh1 hns hcl old=>?_);dsimp only at hns hcl old ⊢;have I3:Inv X pins σ (upd H1 s.heap.objs.size (.lst [])) { s with heap:=s.heap.push { cls:=.type "list",data:=.seq ([]:List Value).toArray },toks:=s.toks }:=I.lnew (its:=[]) .nil (by decide);have hacc:H1 s.heap.objs.size=none:=I.hok.fresh (Wah _);obtain⟨W,⟨m0,w0⟩,turn⟩:=h2 s.heap.objs.size hacc;generalize hs3:({ s with heap:=s.heap.push { cls:=.type "list",data:=.seq ([]:List Value).toArray },toks:=s.toks }:Shared)=s3 at I3;have hh3:s3.heap=s.heap.push { cls:=.type "list",data:=.seq ([]:List Value).toArray }:=by rw[<- hs3]
 have old3:∀b o,s.heap.get? b=some o->s3.heap.get? b=some o:=λb o q=>by rw[hh3];exact Wae _ q
 have hf3:∀b∈fp,FpOk X pins (upd H1 s.heap.objs.size (.lst [])) b:=λb hb=>⟨by rw[Zao (Waw (hlt b hb))];exact(f2 b hb).1,(f2 b hb).2⟩;have hlt3:∀b∈fp,b<s3.heap.objs.size:=λb hb=>by rw[hh3,Wcl];exact Wbr (hlt b hb)
 have tn3:tn 0 s3.heap:=T.keep 0 _ _ st λb hb o q=>old3 b o q;have old4:∀b o,s3.heap.get? b=some o->h1.get? b=some o:=λb o q=>by
  rw[hh3]at q;exact old b o q
 have tn4:tn 0 h1:=T.keep 0 _ _ tn3 λb hb o q=>old4 b o q;have hC:(s.heap.push { cls:=.type "list",data:=.seq ([]:List Value).toArray }).objs.size=s3.heap.objs.size:=by rw[hh3]
 rw[hC]at hns hcl;have J0:=Znw (tgs:=tgs) (tk:=s.toks) S I3 hf3 hlt3 hns hcl old4;have es:({ s3 with heap:=h1,toks:=s.toks }:Shared) = { s with heap:=h1,toks:=s.toks }:=by rw[<- hs3]
 rw[es]at J0;generalize hY:compCxK X y scope (tgs++fvs) s3.heap.objs.size s3 (upd H1 s.heap.objs.size (.lst [])) fp (X.pn++pins)=Y at J0;have hYp:Y.prog=X.prog:=by rw[<- hY];rfl
 have hYw:Y.w=X.w:=by rw[<- hY];rfl
 have hYK:Y.K=X.K:=by rw[<- hY];rfl
 have hYA:Y.A=X.A:=by rw[<- hY];rfl
 have hYc:Y.calm=true:=by rw[<- hY];exact hc
 have hYx:Y.xe=λ_ _=>False:=by rw[<- hY];rfl
 have hYe:Y.env=compEnvC scope ((y,s3.heap.objs.size+1)::clOf X.env scope.names []) s3.heap.objs.size X.env:=by rw[<- hY];rfl
 have stat:∀{H':Hp},(∀b∈fp,H' b=none)->∀b∈fp,FpOk Y [] H' b:=λhn b hb=>by
  rw[<- hY];refine⟨hn b hb,Waw (hlt3 b hb),λz=>?_,.inl hb,λx c e=>?_,λp hp z=>?_⟩
  ·rcases Wat.mp (I3.stkSub b z) with q|q
   ·exact(hf3 b hb).2.1 q
   ·exact(hf3 b hb).2.2.1 q
  ·rcases ownK e with ⟨_,z⟩|z
   ·rw[z];exact Wc8 (Wbr (hlt3 b hb))
   ·exact(hf3 b hb).2.2.2.2.1 x c z
  ·have hp:p∈(X.pn++pins)++[]:=hp
   rw[Wbk]at hp;exact(hf3 b hb).2.2.2.2.2 p hp z
 have loop:codeAny (model X.prog X.w) X.A (.compLoop (.ListComp elt [⟨tg,iter,ifs,0⟩] scope pos) 0 (.ref it) (.ref s.heap.objs.size) Y.env) (RR (.ref s.heap.objs.size) s3.heap.objs.size)
   { s with heap:=h1,toks:=s.toks }:=by
  refine codeAny_loop rfl (λn s'=>∃i σ' H',Inv Y [] σ' H' s' /\ tn i s'.heap/\(∀b∈fp,H' b=none)/\W i n σ' H') ?_ m0 ⟨0,_,_,J0,tn4,λb hb=>(hf3 b hb).1,w0⟩;rintro n s5 ⟨i,σ5,H5,I5,st5,fr5,w5⟩;show wpAny _ X.A ((compTurn (.ListComp elt [⟨tg,iter,ifs,0⟩] scope pos) 0 (.ref it) (.ref s.heap.objs.size) Y.env).onRaise (λx=>do noteFrame x Y.env;theTreesLotGoes x)) _ _ s5;refine wpAny_noted (wpAny_mono (E:=λ_ _=>False) ?_ (λ_ _ q=>q) λ_ _ z=>z.elim);rw[compTurn_list];refine wpAny_bind (wpAny_standAt (wpAny_bind ?_));rcases turn i n σ5 H5 w5 with ⟨stop,qn⟩|⟨go,N,hN,step⟩
  ·have D:=T.done Y hYp hYw hYK hYc i [] s5 σ5 H5 (λ_ _=>False) I5 (stat fr5) st5 stop
   rw[hYA]at D;refine thn D λr s6 ⟨hr,I6⟩=>?_;subst hr;refine wpAny_pure ?_;obtain⟨m6,hn6,_⟩:=I6.loc;rw[hYe]at hn6;refine fin s6 _ _ H5 m6 hn6 (I3.fpOk (Wah _) (by have z:=I6.free;rw[hYe]at z;exact z)) (λh' sb=>?_) qn;have I6':Inv (compCxK X y scope (tgs++fvs) s3.heap.objs.size s3 (upd H1 s.heap.objs.size (.lst [])) fp (X.pn++pins)) [] σ5 H5 s6:=by rw[hY];exact I6
   exact Zlb I3 hf3 I6' sb
  ·have D:=T.item Y hYp hYw hYK hYc i [] s5 σ5 H5 (λ_ _=>False) I5 (stat fr5) st5 go
   rw[hYA]at D;refine thn D λr s6 ⟨u,hr,h6⟩=>?_;subst hr;refine wpAny_bind (thn h6 λ_ s7 ⟨x,H7,I7,r7,y7,st7,fr7⟩=>?_);have I7':=I7.pinned (stat fr7) (T.obj _ _ st7);have G:=hg s3.heap.objs.size s3 (upd H1 s.heap.objs.size (.lst [])) fp (X.pn++pins);have TT:=ht s3.heap.objs.size s3 (upd H1 s.heap.objs.size (.lst [])) fp (X.pn++pins);have EE:=he s3.heap.objs.size s3 (upd H1 s.heap.objs.size (.lst [])) fp (X.pn++pins);rw[hY]at G TT EE;have G1:=G _ s7 σ5 H7 x u _ I7' r7 (step x H7 y7);rw[hYp,hYw,hYA,hYx]at G1;refine wpAny_bind (thn G1 λ_ s8 ⟨σ8,H8,I8,q8⟩=>?_);have T1:=TT _ s8 σ8 H8 _ I8 q8;rw[hYp,hYw,hYA,hYx]at T1;refine wpAny_bind (thn T1 λok s9 ⟨H9,I9,q9⟩=>?_);have again:∀{s':Shared}{σ':St}{H':Hp},Inv Y ([]++pinsAt fp s7.heap) σ' H' s' -> N σ' H' -> ∃m,m<n/\∃i σ' H',Inv Y [] σ' H' s' /\ tn i s'.heap/\(∀b∈fp,H' b=none)/\W i m σ' H':=λ{s' σ' H'} K7 n7=>by
    obtain⟨m',hm,w7⟩:=hN σ' H' n7;refine⟨m',hm,i+1,σ',H',K7.unpinned,T.keep _ _ _ st7 λb hb o e=>(K7.pin (b,o) (Wa8 _ (Wa8 _ (Zcm hb e)))).1,λb hb=>?_,w7⟩;obtain⟨o,e,d⟩:=T.obj _ _ st7 b hb;exact(K7.pin (b,o) (Wa8 _ (Wa8 _ (Zcm hb e)))).2.1
   cases ok with
   |false=>
    have q9:N σ8 H9:=q9;exact wpAny_pure ⟨by rw[hYe],again I9 q9⟩
   |true=>
    have q9:te σ8 H9 λy H5=>∃ys,H5 s.heap.objs.size=some (.lst ys)/\ys.length<sizeLine/\N σ8 (upd H5 s.heap.objs.size (.lst (ys++[y]))):=q9;have E1:=EE _ s9 σ8 H9 _ I9 q9;rw[hYp,hYw,hYA,hYx]at E1;refine wpAny_bind (wpAny_bind (thn E1 λv sa ⟨y,Ha,Ia,ra,ys,ea,za,na⟩=>?_));have M:=Zdr (X:=Y) _ sa σ8 Ha (.ref s.heap.objs.size) [y] (.ref s.heap.objs.size) [v] (λ_ H=>N σ8 H) Ia rfl (.cons ra .nil) ⟨_,ys,y,rfl,rfl,ea,za,na⟩;rw[hYp,hYw,hYA,hYx]at M;refine wpAny_bind (thn M λ_ sb ⟨_,Hb,Ib,_,nb⟩=>wpAny_pure (wpAny_pure ⟨by rw[hYe],again Ib nb⟩))
 have hcs:(relabel scope X.env)=(relabel scope X.env):=rfl;have loop':=loop;rw[hYe]at loop';show codeAny (model X.prog X.w) X.A (.compStart (.ListComp elt [⟨tg,iter,ifs,0⟩] scope pos) 0 (.ref it) (.ref s.heap.objs.size) (compEnvC scope ((y,(s.heap.push { cls:=.type "list",data:=.seq ([]:List Value).toArray }).objs.size+1)::clOf X.env scope.names []) (s.heap.push { cls:=.type "list",data:=.seq ([]:List Value).toArray }).objs.size X.env)) (RR (.ref s.heap.objs.size) (s.heap.push { cls:=.type "list",data:=.seq ([]:List Value).toArray }).objs.size) _;rw[hC];exact codeAny_compStart_list loop' (T.self _ 0 _ _ _ tn4 loop')
theorem Zoc {y:Str}{elt tg iter:Expr}{ifs:List Expr}{scope:Scope}{pos:Pos}{fvs:List Str}{sel:List Nat}{wi:TI}{g:TG}{tc:TT}{te:TE}(tgs:List Str) (S:CompScK X.env.scope X.N y scope fvs sel) (hc:X.calm=true)
  (hi:PI X tg iter wi) (hg:∀C s H ex pn,PG (compCxK X y scope (tgs++fvs) C s H ex pn) tg g) (ht:∀C s H ex pn,PTs (compCxK X y scope (tgs++fvs) C s H ex pn) ifs tc) (he:∀C s H ex pn,PE (compCxK X y scope (tgs++fvs) C s H ex pn) elt te)
  (hs:∀x,foldedSetIterable iter X.env x=pure x:=by intro _;rfl) :
  PE X (.ListComp elt [⟨tg,iter,ifs,0⟩] scope pos) (tComp tgs.length sel wi g tc te):=by
 intro pins s σ H Q I h;rw[eval_ListComp];refine wpAny_comprehension_free (use:=none) rfl hs (Zcr (Zfl S I.ok)) S.kind S.names (thn (hi pins s σ H _ I h) λv s1 h1=>thn h1 λitv s2 h2=>?_);refine Zln S hc hg ht he (RR:=λacc C=>compPost (model X.prog X.w) X.A X.xe none (EP X pins σ Q) acc C) (Q:=Q) h2 ?_;intro s' C acc H' m hn _ hI q;exact⟨m,hn,λh' sb=>⟨.ref acc,H',hI h' sb,rfl,q⟩⟩
end
open PySem PySem.Spec PyProof.Rows PySem.SeqAt
section
variable {X:Cx}
theorem Zo9 {pins:List (Addr × Obj)}{σ:St}{H G:Hp}{s:Shared}{y:V}{u:Value}{e:D}{n:Nat}(I:Inv X pins σ H s) (hv:X.A.units+8<cLine) (sg:Same G H) (ry:Rep X.K G y e) (ru:RelV y u) (pe:Dp n e) (hn:n<=5) :
  ∀{xs:List V}{its:List Value}{ds:List D},Vals xs its->Reps X.K G xs ds->(∀d∈ds,Dp n d)->∃f:Value->Bool,(∀w∈its,EqAt X.A.in1 s w u (f w))/\its.countP f=ds.countP λd=>eqF n d e:=by
 classical
 intro xs its ds w1 rs pd;have eqv:∀w∈its,∃d x,d∈ds/\Rep X.K G x d/\RelV x w:=by
  intro w hw;obtain⟨i,hi⟩:=Wbn.mp hw;have hl1:=w1.length;have hil:=(Waf.mp hi).1;obtain⟨w',h1,h2⟩:=w1.get (Waa (by omega:i<xs.length));rw[hi]at h1;cases h1;obtain⟨d,h3,h4⟩:=rs.get' (Waa (by omega:i<xs.length));exact⟨d,_,Waq h3,h4,h2⟩
 refine⟨λw=>if h:∃d x,d∈ds/\Rep X.K G x d/\RelV x w then eqF n h.choose e else false,λw hw=>?_,?_⟩
 ·have h:=eqv w hw
  dsimp only;rw[dif_pos h];obtain⟨x,h1,h2,h3⟩:=h.choose_spec;exact(Zot n I sg h2 ry h3 ru (pd _ h1) pe (A:=X.A.in1) (by show X.A.units+1+n<cLine;omega)).1
 ·have go:∀{xs':List V}{its':List Value}{ds':List D},Vals xs' its' -> Reps X.K G xs' ds' -> (∀d∈ds',d∈ds)->its'.countP (λw=>if h:∃d x,d∈ds/\Rep X.K G x d/\RelV x w then eqF n h.choose e else false)=ds'.countP λd=>eqF n d e:=by
   intro xs' its' ds' w rs sub
   induction w generalizing ds' with
   |nil=>cases rs;rfl
   |@cons x w' xs2 its2 r t ih=>
    cases rs with
    |@cons _ d _ ds2 ra rb=>
     have hd:=sub d Wa0;have hex:∃d x,d∈ds/\Rep X.K G x d/\RelV x w':=⟨d,x,hd,ra,r⟩;have heq:eqF n hex.choose e=eqF n d e:=by
      obtain⟨x',h1,h2,h3⟩:=hex.choose_spec;have ec:hex.choose=d:=by
       have p1:=pd _ h1;have p2:=pd _ hd;have e1:x'=x\/∃i,x'=.int i/\x=.int i:=by
        cases hx':hex.choose with
        |int i=>
         rw[hx']at h2;cases h2;obtain⟨t,rfl⟩:=h3;cases x <;> simp[RelV]at r
         exact .inl (by rw[r])
        |tup l=>
         rw[hx']at h2;cases h2 with
         |tup ha _=>cases h3;cases x <;> simp[RelV]at r;exact .inl (by rw[r])
        |lst l=>
         rw[hx']at h2;cases h2 with
         |lst ha _=>cases h3;cases x <;> simp[RelV]at r;exact .inl (by rw[r])
        |_=>rw[hx']at p1;cases n <;> exact p1.elim
       rcases e1 with rfl|⟨i,rfl,rfl⟩
       ·exact Rep.uniq n h2 ra p1 p2
       ·exact Rep.uniq n h2 ra p1 p2
      rw[ec]
     rw[List.countP_cons,List.countP_cons,ih rb λd hd=>sub d (Wax _ hd),dif_pos hex,heq]
  exact go w1 rs λd hd=>hd
theorem Zlw {α β:Type}{p:α -> Bool}{q:β -> Bool}{l:List α}{m:List β}(h:l.countP p=m.countP q):l.any p=m.any q:=by
 have a:∀{γ:Type}(r:γ -> Bool) (l:List γ),l.any r=decide (0<l.countP r):=λr l=>by
  rw[Wcb,decide_eq_true_iff,List.countP_pos_iff,Wdo]
 rw[a,a,h]
def rInD (K:W.Frag) (neg:Bool):R2:=λx y H Q=>∃(l:Addr) (G:Hp) (xs:List V) (ds:List D) (e:D) (n:Nat),y=.ref l/\Same G H/\SqL K H l xs/\Reps K G xs ds/\Rep K G x e/\(∀d∈ds,Dp n d)/\Dp n e/\n<=5/\Q (.bl (if neg then !ds.any (λd=>eqF n d e) else ds.any λd=>eqF n d e)) H
theorem notinDK (K:W.Frag) (hv:X.A.units+8<cLine) (hK:X.K=K:=by rfl):OpR X (compareOp .NotIn) (rInD K true):=by
 subst hK;intro pins s σ H x y v u Q I rx ry h;obtain⟨l,G,xs,ds,e,n,rfl,sg,hl,rs,r,pd,pe,hn,q⟩:=h;cases ry;obtain⟨its,w1,pl,hz⟩:=I.list hl;obtain⟨f,hf1,hf2⟩:=Zo9 I hv sg r rx pe hn w1 rs pd;refine notIn_listAt f pl.isList (λy hy=>hf1 y (by simpa using hy)) ?_;rw[List.any_toArray,Zlw hf2];exact⟨.bl _,H,I,rfl,q⟩
end
section
variable {K:W.Frag}{Δ:Evt}{P:D->Evt->Prop}
theorem Zr3 {neg:Bool}{n:Nat}{e:D}{ds:List D}(hn:n<=5) (pd:∀d∈ds,Dp n d) (pe:Dp n e) (p:P (.bl (if neg then !ds.any (λd=>eqF n d e) else ds.any λd=>eqF n d e)) Δ):JR2 K (rInD K neg) e (.lst ds) Δ P:=λg G H σ Q x y k rx ry c=>by
 obtain⟨a,vs,rfl,ha,rs⟩:=ry.inv
 next=>exact⟨a,G,vs,ds,e,n,rfl,k.live,SqL.of (k.live _ _ ha),rs,rx,pd,pe,hn,c _ _ G H Δ k (Same.refl _) (.bl _) p⟩
end
section
variable {K:W.Frag}{Δ:Evt}
theorem Ztw {ta:TA}{Po:OD->Evt->Prop}(h:JA K ta Δ λds Δ1=>∃es,(ds=[.tup es]\/ds=[.lst es])/\Po (.lst es) Δ1):JO K (tCB (rLst K) ta) Δ Po:=λg G H σ Q k c=>
 h g G H σ _ k λvs ds G1 H1 Δ1 k1 s1 r1 hq_=>by
  obtain⟨es,e,p⟩:=hq_;rcases e with e|e <;> subst e
  ·obtain⟨_,_,rfl,r,t⟩:=r1.inv
   next=>
    cases t.inv;obtain⟨_,_,rfl,ha,rs⟩:=r.inv
    next=>
     refine⟨_,_,rfl,.inr (SqT.of (k1.live _ _ ha)),λl hl=>?_⟩;obtain⟨k2,pd⟩:=k1.fresh (od:=.lst es) hl (show OwnRep K G1 (.lst _) (.lst es) from rs);exact c l _ G1 _ Δ1 k2 s1 pd p
  ·obtain⟨_,_,rfl,r,t⟩:=r1.inv
   next=>
    cases t.inv;obtain⟨_,_,rfl,ha,rs⟩:=r.inv
    next=>
     refine⟨_,_,rfl,.inl (SqL.of (k1.live _ _ ha)),λl hl=>?_⟩;obtain⟨k2,pd⟩:=k1.fresh (od:=.lst es) hl (show OwnRep K G1 (.lst _) (.lst es) from rs);exact c l _ G1 _ Δ1 k2 s1 pd p
theorem Zvd {i:Nat}{te:TE}{ti:TIp}{d:D}{nx bk ct:Evt->Prop}{rt:D->Evt->Prop}{ro:OD->Evt->Prop}(hx:Δ[i]?=some (.val d)) (h:JE K te Δ λe Δ1=>Δ1[i]?=some (.val d)/\JR2 K ti d e Δ1 λz Δ2=>nx (Δ2.set i (.val z))):JS K (tAug i te ti) Δ ⟨nx,rt,bk,ct,ro⟩:=λg G H σ E k c=>by
 obtain⟨v,h1,h2⟩:=k.val i d hx;refine⟨v,h1,h g G H σ _ k λu e G1 H1 Δ1 k1 s1 r1 ⟨_,p1⟩=>p1 g G1 H1 σ _ v u k1 (h2.mono s1) r1 λz dz G2 H2 Δ2 k2 s2 r2 p2=>?_⟩;exact c.nx _ G2 H2 _ (k2.setVal' i r2) p2
end
open PySem PySem.Spec PyProof.Rows PySem.SeqAt
section
variable {K:W.Frag}{Δ:Evt}{P:D->Evt->Prop}
end
section
variable {K:W.Frag}{Δ:Evt}
end
section
variable {prog:Program}{w:World}{A:Around}{E:Value->Shared->Prop}{s:Shared}
theorem Zf2 {l:Addr}{vs:List Value}{Q:List Value->Shared->Prop}(hl:s.heap.IsTuple l vs.toArray)
  (h:Q vs { s with heap:=(s.heap.push (seqObj "list" #[] 0)).update s.heap.objs.size (Obj.mapSeq (· ++ vs.toArray)) }) (hsz:vs.length<=sizeLine) :
  wpAny (model prog w) A (collect (.ref l)) Q E s:=by
 obtain⟨o,ho,hc,n,hd⟩:=id hl;unfold collect;refine wpAny_bind (wpAny_runValue (codeAny_builtin entry_proto_collect' ?_));show wpAny _ _ (do again (.builtin "list.__iadd__" ⟨[← newList [],.ref l],[]⟩)) _ _ s;refine wpAny_bind (wpAny_newList (wpAny_pure ⟨Code.quiet_builtin _ (by decide +kernel),codeAny_builtin entry_list_iadd' ?_⟩));show wpAny _ _ (Builtin.List.listExtendWith (.ref s.heap.objs.size) (.ref l) (.ref s.heap.objs.size)) _ _ { s with heap:=s.heap.push (seqObj "list" #[] 0) };unfold Builtin.List.listExtendWith;have ho':(s.heap.push (seqObj "list" #[] 0)).get? l=some o:=Wae _ ho;refine wpAny_bind (wpAny_typeOf (T:="tuple") ⟨o,ho',hc⟩ ?_);have ht:(Value.type "tuple" == Value.type "tuple")=true:=by rfl
 rw[if_pos (by rw[ht];simp)];refine wpAny_bind (listItems_at ho' hd ?_);refine wpAny_bind (listItems_at (xs:=#[]) (n:=0) (Wal _ rfl) rfl ?_);rw[if_neg (by simp)];refine wpAny_bind (listUpdate_at (xs:=#[]) (n:=0) (Wal _ rfl) rfl ?_ (Wb2 _) (by show (#[]++vs.toArray).size<=sizeLine+1;simp only[Array.size_append,Wag,Wcn];omega));refine wpAny_pure ?_;show wpAny (model prog w) A (do
   let o ← load s.heap.objs.size
   match o.data with
   |.seq xs _=>pure xs.toList
   |_=>unsupported "internal:collect") Q E { s with heap:=(s.heap.push (seqObj "list" #[] 0)).update s.heap.objs.size (Obj.mapSeq (· ++ vs.toArray)) }
 refine wpAny_bind (wpAny_load (get?_update_seq (Wal _ rfl) _) ?_);show wpAny _ _ (pure ((#[]:Array Value)++vs.toArray).toList) Q E _;rw[show ((#[]:Array Value)++vs.toArray).toList=vs by simp];exact wpAny_pure h
theorem Zif {l:Addr}{vs:List Value}{ns:List Int}{Q:Value->Shared->Prop}(hl:s.heap.IsTuple l vs.toArray) (hI:IntsAre vs ns) (h64:vs.length<64)
  (h:∀(out:Array Value) (ns':List Int),IntsAre out.toList ns' -> ns'.Perm ns->ns'.Pairwise (· <= ·)->Q (.ref (s.heap.objs.size+1)) { s with heap:=sortedAll s.heap vs out }) :
  wpAny (model prog w) A (call (.builtin "sorted") [.ref l]) Q E s:=by
 refine Calls.call_function_entry kind_sorted plain_sorted entry_sorted (args_sorted1 _) ?_;unfold Builtin.«sorted»;refine wpAny_bind (m:=checkCount "sorted" 1 1 _) (wpAny_pure ?_);refine wpAny_bind (Zf2 hl ?_ (Wb4 (small1000 (by omega))));refine wpAny_bind (wpAny_newList ?_);have hsz:((s.heap.push (seqObj "list" #[] 0)).update s.heap.objs.size (Obj.mapSeq (· ++ vs.toArray))).objs.size=s.heap.objs.size+1:=by
  rw[Wdp,size_push']
 have hoL:(((s.heap.push (seqObj "list" #[] 0)).update s.heap.objs.size (Obj.mapSeq (· ++ vs.toArray))).push (seqObj "list" vs.toArray 0)).get? (s.heap.objs.size+1)=some (seqObj "list" vs.toArray 0):=by
  rw[<- hsz];exact Wal _ rfl
 show wpAny _ _ _ _ _ { s with heap:=((s.heap.push (seqObj "list" #[] 0)).update s.heap.objs.size (Obj.mapSeq (· ++ vs.toArray))).push (seqObj "list" vs.toArray 0) };rw[hsz];refine wpAny_bind (wpAny_holding (wpAny_call_entry slot_list_sort ⟨_,hoL,rfl⟩ entry_list_sort (list_sort_tree hoL hI h64 λout ns' a1 a2 a3=>⟨_,rfl,?_⟩) (args_list_sort _)));exact wpAny_pure ⟨_,rfl,h out ns' a1 a2 a3⟩
end
section
variable {X:Cx}
def rSortT (K:W.Frag):List V->Hp->VK->Prop:=λxs H Q=>∃(p:Addr) (ns:List Int),xs=[.ref p]/\SqT K H p (ns.map V.int)/\ns.length<64/\∀(l:Addr) (ms:List Int),ms.Perm ns->ms.Pairwise (· <= ·)->H l=none->Q (.ref l) (upd H l (.lst (ms.map V.int)))
theorem sortTK (K:W.Frag) (hK:X.K=K:=by rfl):CallR X (.builtin "sorted") (rSortT K):=by
 subst hK;intro pins s σ H xs us Q I r h;obtain⟨p,ns,rfl,hx,hl,q⟩:=h;obtain⟨u,rfl,ru⟩:=vals1 r;cases (show u=Value.ref p from ru);obtain⟨its,w1,p1⟩:=I.seqB (b:=true) hx;have hi:=Zc5 w1;have hlen:=hi.length;refine Zif p1 hi (by omega) λout ms o1 o2 o3=>?_;obtain⟨e,he⟩:=sortedAll_at s.heap its out;have hml:=o2.length_eq;refine⟨.ref (s.heap.objs.size+1),_,I.laid (t':=s.toks) (λ_ _ z=>sortedAll_old z) (Wcr _) (show ObjOk X.prog X.w _ _ _ (.lst (ms.map V.int)) from ⟨?_,out.toList,e,Zc4 o1,?_⟩),rfl,q _ ms o2 o3 (I.hok.fresh (Wcr _))⟩
 ·rw[Wab];exact Wb4 (small1000 (by omega))
 ·rw[Array.toArray_toList];exact he
end
section
variable {K:W.Frag}{Δ:Evt}{P:D->Evt->Prop}
theorem Zka {ta:TA}{Po:OD->Evt->Prop}(h:JA K ta Δ λds Δ1=>∃ns:List Int,ds=[.tup (ns.map .int)]/\ns.length<64/\∀ms:List Int,ms.Perm ns->ms.Pairwise (· <= ·)->Po (.lst (ms.map .int)) Δ1):JO K (tCB (rSortT K) ta) Δ Po:=λg G H σ Q k c=>
 h g G H σ _ k λvs ds G1 H1 Δ1 k1 s1 r1 hq_=>by
  obtain⟨ns,e,hl,p⟩:=hq_;subst e;obtain⟨_,_,rfl,r,t⟩:=r1.inv
  next=>
   cases t.inv;obtain⟨a,us,rfl,ha,rr⟩:=r.inv
   next=>
    have ev:=rr.ints;subst ev;refine⟨a,ns,rfl,SqT.of (k1.live _ _ ha),hl,λl ms o1 o2 hl=>?_⟩;obtain⟨k2,pd⟩:=k1.fresh (od:=.lst (ms.map .int)) hl (show OwnRep K G1 (.lst (ms.map V.int)) (.lst (ms.map .int)) from Reps.ofInts ms);exact c l _ G1 _ Δ1 k2 s1 pd (p ms o1 o2)
end
section
variable {X:Cx}
end
structure GB (kd:SortKind) (a0:Array Keyed) (t:SortSt):Prop where
 pm:(arrOf t).Perm a0
 kd:kindOf t=kd
 fl:failedOf t=none
 pd:pendingOf t = #[]
theorem GB.sz {kd:SortKind}{a0:Array Keyed}{t:SortSt}(g:GB kd a0 t):(arrOf t).size=a0.size:=g.pm.size_eq
theorem GB.put {kd:SortKind}{a0:Array Keyed}{t:SortSt}(g:GB kd a0 t) {xs:Array Keyed}(hp:xs.Perm (arrOf t)):GB kd a0 (setArr t xs):=⟨hp.trans g.pm,g.kd,g.fl,g.pd⟩
section
variable {prog:Program}{w:World}{A:Around}{E:Value->Shared->Prop}{s:Shared}{a0:Array Keyed}{κ:KeyKind}{kd:SortKind}
def Orc (prog:Program) (w:World) (A:Around) (E:Value->Shared->Prop) (s:Shared) (κ:KeyKind) (kd:SortKind) (a0:Array Keyed):Prop:=
 ∀t,GB kd a0 t->∀i j,i<a0.size->j<a0.size->∀Q:Option Bool->SortSt->Prop,Q (some (κ.blt (KK κ (arrOf t) i) (KK κ (arrOf t) j))) t->wpS (model prog w) A E s (ltAt' i j) Q t
theorem Zub {xs:Array Keyed}{m:Nat}(h:SortedToK κ xs m) (hl:m=0 \/ κ.kle (KK κ xs (m-1)) (KK κ xs m)):SortedToK κ xs (m+1):=λi j hij hj=>by
 rcases Wdv j m with z|z
 ·exact h i j hij z
 ·have e:j=m:=by omega
  subst e;rcases Wdv i j with y|y
  ·rcases hl with q|q
   ·omega
   ·exact KeyOrd.kle_trans (h i (j-1) (by omega) (by omega)) q
  ·have e:i=j:=by omega
   subst e;exact KeyOrd.kle_refl _
theorem Zd7 {xs:Array Keyed}{m:Nat}(h:NonIncK κ xs m) (hl:m=0 \/ κ.kle (KK κ xs m) (KK κ xs (m-1))):NonIncK κ xs (m+1):=λi j hij hj=>by
 rcases Wdv j m with z|z
 ·exact h i j hij z
 ·have e:j=m:=by omega
  subst e;rcases Wdv i j with y|y
  ·rcases hl with q|q
   ·omega
   ·exact KeyOrd.kle_trans q (h i (j-1) (by omega) (by omega))
  ·have e:i=j:=by omega
   subst e;exact KeyOrd.kle_refl _
theorem Zv1 (O:Orc prog w A E s κ kd a0) {t:SortSt}{n ok:Nat}{Q:Bool->SortSt->Prop}(hn:n<=a0.size) (hok:ok<=n) (g:GB kd a0 t) (hs:SortedToK κ (arrOf t) ok)
  (h:∀u,GB kd a0 u->SortedToK κ (arrOf u) n->Q true u):wpS (model prog w) A E s (binarySort' 0 n ok) Q t:=by
 rw[binarySort'_eq];simp only[Nat.zero_add];refine wpS_bind (wpS_mono (wpS_forRange (I:=λk c u=>c=(none,())/\GB kd a0 u/\SortedToK κ (arrOf u) (min k n)) (Q:=λc u=>c=(none,())/\GB kd a0 u/\SortedToK κ (arrOf u) n) ?st ?fi ?be) ?po)
 case po=>
  rintro c u ⟨rfl,g',h'⟩;exact wpS_pure (h u g' h')
 case be=>
  refine⟨rfl,g,λi j hij hj=>?_⟩;rcases Nat.eq_zero_or_pos ok with z|z
  ·have e:i=j:=by omega
   subst e;exact KeyOrd.kle_refl _
  ·exact hs i j hij (by omega)
 case fi=>
  rintro c u ⟨hc,g',h'⟩;rw[show min (max (max ok 1) n) n=n by omega]at h';exact⟨hc,g',h'⟩
 case st=>
  rintro k c u hak hkn ⟨rfl,g',h'⟩;rw[show min k n=k by omega]at h';have hk:k<a0.size:=by omega
  refine wpS_bind (wpS_mono (wpS_forRange
   (I:=λx c v=>v=u/\∃l r,c=(none,l,r)/\l<=r/\r<=k/\r-l<=k-x/\(∀i,i<l -> κ.kle (KK κ (arrOf u) i) (KK κ (arrOf u) k))/\∀i,r<=i->i<k -> κ.klt (KK κ (arrOf u) k) (KK κ (arrOf u) i))
   (Q:=λc v=>v=u/\∃l r,c=(none,l,r)/\l<=k/\(∀i,i<l -> κ.kle (KK κ (arrOf u) i) (KK κ (arrOf u) k))/\∀i,l<=i->i<k -> κ.klt (KK κ (arrOf u) k) (KK κ (arrOf u) i)) ?ist ?ifi ?ibe) ?ipo)
  case ibe=>exact⟨rfl,0,k,rfl,by omega,by omega,by omega,λi z=>by omega,λi z y=>by omega⟩
  case ifi=>
   rintro c v ⟨rfl,l,r,rfl,z1,z2,z3,lo,hi⟩;obtain rfl:l=r:=by omega
   exact⟨rfl,l,l,rfl,z2,lo,hi⟩
  case ist=>
   rintro x c v _ hx ⟨rfl,l,r,rfl,z1,z2,z3,lo,hi⟩;dsimp only;by_cases hge:l ≥ r
   ·obtain rfl:l=r:=by omega
    rw[if_pos hge];exact wpS_pure ⟨rfl,l,l,rfl,z2,lo,hi⟩
   ·rw[if_neg hge]
    refine wpS_bind (O v g' _ _ hk (by omega) _ ?_);cases e:κ.blt (KK κ (arrOf v) k) (KK κ (arrOf v) ((l+r) / 2)) with
    |true=>
     simp only[if_true];exact wpS_pure ⟨rfl,l,(l+r) / 2,rfl,by omega,by omega,by omega,lo,λi y1 y2=>KeyOrd.klt_of_klt_of_kle e (h' _ _ y1 y2)⟩
    |false=>
     simp only[Wbi,if_false];exact wpS_pure ⟨rfl,(l+r) / 2+1,r,rfl,by omega,by omega,by omega,λi y1=>KeyOrd.kle_trans (h' i ((l+r) / 2) (by omega) (by omega)) e,hi⟩
  case ipo=>
   rintro c v ⟨rfl,l,r,rfl,hl,lo,hi⟩;show wpS _ _ _ _ (do moveDown' k l;pure (ForInStep.yield (none,()))) _ _;rw[moveDown'_eq];refine wpS_bind (wpS_modify (wpS_pure ⟨rfl,g'.put (bubble_perm _ _ _),?_⟩));rw[show min (k+1) n=k+1 by omega];have hz:k<(arrOf v).size:=by rw[g'.sz];exact hk
   intro i j hij hj;show κ.kle (KK κ (bubble (arrOf v) k (k-l)) i) (KK κ (bubble (arrOf v) k (k-l)) j);rw[KK_bubble hz (by omega),KK_bubble hz (by omega),show k-(k-l)=l by omega];by_cases i1:i=l
   ·rw[if_pos i1]
    by_cases j1:j=l
    ·rw[if_pos j1];exact KeyOrd.kle_refl _
    ·rw[if_neg j1,if_pos (by omega)]
     exact KeyOrd.kle_of_klt (hi _ (by omega) (by omega))
   ·rw[if_neg i1]
    by_cases j1:j=l
    ·rw[if_pos j1,if_neg (by omega)]
     exact lo _ (by omega)
    ·rw[if_neg j1]
     by_cases i2:l<i/\i<=k
     ·rw[if_pos i2,if_pos (by omega)]
      exact h' _ _ (by omega) (by omega)
     ·rw[if_neg i2]
      by_cases j2:l<j/\j<=k
      ·rw[if_pos j2]
       exact h' _ _ (by omega) (by omega)
      ·rw[if_neg j2]
       exact h' _ _ (by omega) (by omega)
theorem Zvk (O:Orc prog w A E s κ kd a0) {t:SortSt}{a nr:Nat}{Q:AscSt->SortSt->Prop}(hn:nr<=a0.size) (ha:1<=a) (han:a<=nr) (g:GB kd a0 t) (hs:SortedToK κ (arrOf t) a)
  (h:∀n,a<=n->n<=nr->SortedToK κ (arrOf t) n->(n=nr \/ κ.klt (KK κ (arrOf t) n) (KK κ (arrOf t) (n-1)))->Q (none,n) t):wpS (model prog w) A E s (ascLoop a nr) Q t:=by
 unfold ascLoop;refine wpS_forRange (I:=λx c u=>u=t/\c=(none,x)/\SortedToK κ (arrOf t) x) ?st ?fi ⟨rfl,rfl,hs⟩
 case fi=>
  rintro c u ⟨rfl,rfl,h'⟩;rw[show max a nr=nr by omega]at h' ⊢;exact h nr han (Wah _) h' (Or.inl rfl)
 case st=>
  rintro x c u hax hxn ⟨rfl,rfl,h'⟩;dsimp only;refine wpS_bind (O u g _ _ (by omega) (by omega) _ ?_);cases e:κ.blt (KK κ (arrOf u) x) (KK κ (arrOf u) (x-1)) with
  |true=>
   simp only[if_true];exact wpS_pure (h x hax (by omega) h' (Or.inr e))
  |false=>
   simp only[Wbi,if_false];exact wpS_pure ⟨rfl,rfl,Zub h' (Or.inr e)⟩
theorem Zq8 (O:Orc prog w A E s κ kd a0) {t:SortSt}{n nr:Nat}{Q:Option Nat->SortSt->Prop}(hn:nr<=a0.size) (h1:1<=n) (hnn:n<=nr) (g:GB kd a0 t) (hs:NonIncK κ (arrOf t) n)
  (h:∀m u,GB kd a0 u->1<=m->m<=nr->SortedToK κ (arrOf u) m->Q (some m) u):wpS (model prog w) A E s (tail3 n nr) Q t:=by
 unfold tail3;have hz:n<=(arrOf t).size:=by rw[g.sz];omega
 refine wpS_bind (wpS_reverse ?_);have g2:GB kd a0 (setArr t (mirror (arrOf t) 0 n ((n-0) / 2))):=g.put (mirror_perm _ _ _ _);refine wpS_bind (Zvk O hn h1 hnn g2 (λi j hij hj=>?_) λm m1 m2 m3 _=>wpS_pure (h m _ g2 (by omega) m2 m3));show κ.kle (KK κ (mirror (arrOf t) 0 n ((n-0) / 2)) i) (KK κ (mirror (arrOf t) 0 n ((n-0) / 2)) j);rw[KK_mirror hz,KK_mirror hz,if_pos (by omega),if_pos (by omega)];exact hs _ _ (by omega) (by omega)
theorem Zud (O:Orc prog w A E s κ kd a0) {t:SortSt}{n nr:Nat}{Q:DescSt->SortSt->Prop}(hn:nr<=a0.size) (h1:1<=n) (hnn:n<=nr) (g:GB kd a0 t) (hs:NonIncK κ (arrOf t) n)
  (h:∀m q u,GB kd a0 u->n<=m->m<=nr->NonIncK κ (arrOf u) m->q+1<=m->(∀i,m-(q+1)<=i->i<m->KK κ (arrOf u) i=KK κ (arrOf u) (m-1))->Q (none,m,q) u):wpS (model prog w) A E s (descLoop n nr) Q t:=by
 unfold descLoop;refine wpS_forRange (I:=λx c u=>∃q,c=(none,x,q)/\GB kd a0 u/\NonIncK κ (arrOf u) x/\q+1<=x/\∀i,x-(q+1)<=i->i<x->KK κ (arrOf u) i=KK κ (arrOf u) (x-1)) ?st ?fi ⟨0,rfl,g,hs,by omega,λi y1 y2=>by rw[show i=n-1 by omega]⟩
 case fi=>
  rintro c u ⟨q,rfl,g',h',q1,q2⟩;rw[show max n nr=nr by omega]at h' q1 q2 ⊢;exact h nr q u g' hnn (Wah _) h' q1 q2
 case st=>
  rintro x c u hax hxn ⟨q,rfl,g',h',q1,q2⟩;dsimp only;have hz:x<=(arrOf u).size:=by rw[g'.sz];omega
  refine wpS_bind (O u g' _ _ (by omega) (by omega) _ ?_);cases e:κ.blt (KK κ (arrOf u) x) (KK κ (arrOf u) (x-1)) with
  |true=>
   simp only[if_true];by_cases hq:q > 0
   ·rw[if_pos hq]
    have same:=KK_mirror_equal hz q2;refine wpS_bind (wpS_reverse (wpS_pure ⟨0,rfl,g'.put (mirror_perm _ _ _ _),?_,by omega,λi y1 y2=>by rw[show i=x+1-1 by omega]⟩));refine Zd7 (λi j hij hj=>?_) (Or.inr ?_)
    ·show κ.kle (KK κ (mirror (arrOf u) _ _ _) j) (KK κ (mirror (arrOf u) _ _ _) i)
     rw[same,same];exact h' i j hij hj
    ·show κ.kle (KK κ (mirror (arrOf u) _ _ _) x) (KK κ (mirror (arrOf u) _ _ _) (x-1))
     rw[same,same];exact KeyOrd.kle_of_klt e
   ·rw[if_neg hq]
    exact wpS_pure ⟨0,rfl,g',Zd7 h' (Or.inr (KeyOrd.kle_of_klt e)),by omega,λi y1 y2=>by rw[show i=x+1-1 by omega]⟩
  |false=>
   simp only[Wbi,if_false];refine wpS_bind (O u g' _ _ (by omega) (by omega) _ ?_);cases e2:κ.blt (KK κ (arrOf u) (x-1)) (KK κ (arrOf u) x) with
   |true=>
    simp only[if_true];exact wpS_pure (h x q u g' hax (by omega) h' q1 q2)
   |false=>
    simp only[Wbi,if_false];have ex:KK κ (arrOf u) x=KK κ (arrOf u) (x-1):=KeyOrd.kle_antisymm e2 e;refine wpS_pure ⟨q+1,rfl,g',Zd7 h' (Or.inr e2),by omega,λi y1 y2=>?_⟩;show _=KK κ (arrOf u) x;rcases Wdv i x with y|y
    ·rw[ex];exact q2 i (by omega) y
    ·rw[show i=x by omega]
theorem Zgs (O:Orc prog w A E s κ kd a0) {t:SortSt}{n nr:Nat}{Q:Option Nat->SortSt->Prop}(hn:nr<=a0.size) (hnn:n+1<=nr) (g:GB kd a0 t) (hs:NonIncK κ (arrOf t) (n+1))
  (h:∀m u,GB kd a0 u->1<=m->m<=nr->SortedToK κ (arrOf u) m->Q (some m) u):wpS (model prog w) A E s (descPart n nr) Q t:=by
 unfold descPart;refine wpS_bind (wpS_lift (wpAny_rule ⟨rfl,?_⟩));refine wpS_bind (Zud O hn (by omega) hnn g hs λm q u g' m1 m2 h' q1 q2=>?_);dsimp only;have hz:m<=(arrOf u).size:=by rw[g'.sz];omega
 by_cases hq:q > 0
 ·rw[if_pos hq]
  have same:=KK_mirror_equal hz q2;refine wpS_bind (wpS_reverse (Zq8 O hn (by omega) m2 (g'.put (mirror_perm _ _ _ _)) (λi j hij hj=>?_) h));show κ.kle (KK κ (mirror (arrOf u) _ _ _) j) (KK κ (mirror (arrOf u) _ _ _) i);rw[same,same];exact h' i j hij hj
 ·rw[if_neg hq]
  exact Zq8 O hn (by omega) m2 g' h' h
theorem Zsj (O:Orc prog w A E s κ kd a0) {t:SortSt}{nr:Nat}{Q:Option Nat->SortSt->Prop}(hn:nr<=a0.size) (h1:1<=nr) (g:GB kd a0 t)
  (h:∀m u,GB kd a0 u->1<=m->m<=nr->SortedToK κ (arrOf u) m->Q (some m) u):wpS (model prog w) A E s (countRun' 0 nr) Q t:=by
 rw[countRun0_eq];refine wpS_bind (Zvk O hn (Wah 1) h1 g (λi j hij hj=>by have e:i=j:=(by omega);subst e;exact KeyOrd.kle_refl _) λn n1 n2 n3 n4=>?_);dsimp only;by_cases hnn:n=nr
 ·rw[if_pos (by simpa using hnn)]
  exact wpS_pure (h n t g n1 n2 n3)
 ·rw[if_neg (by simpa using hnn)]
  have lt:=n4.resolve_left hnn;by_cases hg:n > 1
  ·rw[if_pos hg]
   refine wpS_bind (O t g _ _ (by omega) (by omega) _ ?_);cases e:κ.blt (KK κ (arrOf t) 0) (KK κ (arrOf t) (n-1)) with
   |true=>
    simp only[if_true];exact wpS_pure (h n t g n1 n2 n3)
   |false=>
    simp only[Wbi,if_false];have hz:n<=(arrOf t).size:=by rw[g.sz];omega
    have all:∀k,0<=k->k<n->KK κ (arrOf t) k=KK κ (arrOf t) (n-1):=λk _ hk=>
     KeyOrd.kle_antisymm (n3 k (n-1) (by omega) (by omega)) (KeyOrd.kle_trans e (n3 0 k (by omega) hk))
    have same:=KK_mirror_equal hz all;refine wpS_bind (wpS_reverse (Zgs O hn (by omega) (g.put (mirror_perm _ _ _ _)) (Zd7 (λi j hij hj=>?_) (Or.inr ?_)) h))
    ·show κ.kle (KK κ (mirror (arrOf t) _ _ _) j) (KK κ (mirror (arrOf t) _ _ _) i)
     rw[same,same,all i (by omega) (by omega),all j (by omega) hj];exact KeyOrd.kle_refl _
    ·show κ.kle (KK κ (mirror (arrOf t) _ _ _) n) (KK κ (mirror (arrOf t) _ _ _) (n-1))
     rw[same,same];exact KeyOrd.kle_of_klt lt
  ·rw[if_neg hg]
   obtain rfl:n=1:=by omega
   refine Zgs O hn (by omega) g (Zd7 (λi j hij hj=>?_) (Or.inr (KeyOrd.kle_of_klt lt))) h;obtain rfl:i=j:=by omega
   exact KeyOrd.kle_refl _
theorem Zuq (O:Orc prog w A E s κ kd a0) {t:SortSt}{Q:Unit->SortSt->Prop}(g:GB kd a0 t) (h2:2<=a0.size) (h64:a0.size<64)
  (h:∀u,(arrOf u).Perm a0->failedOf u=none->SortedToK κ (arrOf u) a0.size->Q () u):wpS (model prog w) A E s sortRuns' Q t:=by
 have hmr:minRun' a0.size a0.size 0=a0.size:=by
  obtain⟨f,hf⟩:∃f,a0.size=f+1:=⟨a0.size-1,by omega⟩;have:=minRun'_succ f a0.size 0;rw[if_pos h64,<- hf]at this;exact this
 rw[sortRuns'_eq];refine wpS_bind (wpS_get ?_);dsimp only;simp only[g.sz,hmr];refine wpS_bind (wpS_mono (wpS_forRange
  (I:=λx c u=>(x=0/\c=(none,0)/\GB kd a0 u)\/(1<=x/\c=(none,a0.size)/\(arrOf u).Perm a0/\failedOf u=none/\pendingOf u = #[(0,a0.size,0)]/\SortedToK κ (arrOf u) a0.size))
  (Q:=λc u=>c=(none,a0.size)/\(arrOf u).Perm a0/\failedOf u=none/\pendingOf u = #[(0,a0.size,0)]/\SortedToK κ (arrOf u) a0.size) ?st ?fi (Or.inl ⟨rfl,rfl,g⟩)) ?po)
 case fi=>
  rintro c u (⟨z,_,_⟩|⟨_,z⟩)
  ·omega
  ·exact z
 case st=>
  rintro x c u _ hx (⟨rfl,rfl,g'⟩|⟨x1,rfl,z⟩)
  ·dsimp only
   rw[if_neg (by omega)];simp only[Wd9,Wcy,Nat.zero_add];refine wpS_bind (Zsj O (Wah _) (by omega) g' λm v gv m1 m2 m3=>?_);have fin:∀v',GB kd a0 v' -> SortedToK κ (arrOf v') a0.size->(arrOf (setPending v' ((pendingOf v').push (0,a0.size,0)))).Perm a0/\failedOf (setPending v' ((pendingOf v').push (0,a0.size,0)))=none/\pendingOf (setPending v' ((pendingOf v').push (0,a0.size,0))) = #[(0,a0.size,0)]/\SortedToK κ (arrOf (setPending v' ((pendingOf v').push (0,a0.size,0)))) a0.size:=λv' gw sw=>
    ⟨gw.pm,gw.fl,by show (pendingOf v').push _=_;rw[gw.pd];rfl,sw⟩
   dsimp only;by_cases hlt:m<a0.size
   ·rw[if_pos hlt]
    refine wpS_bind (wpS_lift (wpAny_rule ⟨rfl,?_⟩));refine wpS_bind (Zv1 O (Wah _) m2 gv m3 λv' gw sw=>?_);simp only[Bool.not_true,Wbi,if_false];refine wpS_bind (wpS_get ?_);rw[show (pendingOf v').back?=none by rw[gw.pd];rfl];dsimp only;exact wpS_bind (wpS_modify (wpS_pure (Or.inr ⟨by omega,rfl,fin v' gw sw⟩)))
   ·rw[if_neg hlt]
    obtain rfl:m=a0.size:=by omega
    refine wpS_bind (wpS_get ?_);rw[show (pendingOf v).back?=none by rw[gv.pd];rfl];dsimp only;exact wpS_bind (wpS_modify (wpS_pure (Or.inr ⟨by omega,rfl,fin v gv m3⟩)))
  ·dsimp only
   rw[if_pos (Wah _)];exact wpS_pure ⟨rfl,z⟩
 case po=>
  rintro c u ⟨rfl,z1,z2,z3,z4⟩;dsimp only;refine wpS_bind (wpS_mono (wpS_forRange (I:=λ_ c v=>v=u/\c=(none,())) (Q:=λc v=>v=u/\c=(none,())) ?_ (λ_ _ q=>q) ⟨rfl,rfl⟩) ?_)
  ·rintro x c v _ _ ⟨rfl,rfl⟩
   refine wpS_bind (wpS_get ?_);rw[if_pos (by rw[z3];exact Wah 1)];exact wpS_pure ⟨rfl,rfl⟩
  ·rintro c v ⟨rfl,rfl⟩
   exact wpS_pure (h _ z1 z2 z4)
end
abbrev rlt:=HT.lexLt
theorem Zfk (x y:Int) (xs ys:List Int):rlt (x::xs) (y::ys)=if x=y then rlt xs ys else decide (x<y):=rfl
theorem Znj:∀a:List Int,rlt a a=false
 |[]=>rfl
 |x::a=>by rw[Zfk,if_pos rfl];exact Znj a
theorem Zro:∀a b c:List Int,rlt a b=true->rlt b c=true->rlt a c=true
 |[],[],_,h,_=>by cases h
 |[],_::_,[],_,h=>by cases h
 |[],_::_,_::_,_,_=>rfl
 |_::_,[],_,h,_=>by cases h
 |_::_,_::_,[],_,h=>by cases h
 |x::a,y::b,z::c,h1,h2=>by
  rw[Zfk]at h1 h2 ⊢;by_cases e1:x=y
  ·by_cases e2:y=z
   ·rw[if_pos e1]at h1;rw[if_pos e2]at h2;rw[if_pos (e1.trans e2)]
    exact Zro a b c h1 h2
   ·rw[if_neg e2,decide_eq_true_eq]at h2
    rw[if_neg (by omega),decide_eq_true_eq];omega
  ·rw[if_neg e1,decide_eq_true_eq]at h1
   by_cases e2:y=z
   ·rw[if_neg (by omega),decide_eq_true_eq];omega
   ·rw[if_neg e2,decide_eq_true_eq]at h2
    rw[if_neg (by omega),decide_eq_true_eq];omega
theorem Zl2:∀a b c:List Int,rlt a c=true->rlt a b=true\/rlt b c=true
 |[],[],_,h=>Or.inr h
 |[],_::_,_,_=>Or.inl rfl
 |_::_,_,[],h=>by cases h
 |_::_,[],_::_,_=>Or.inr rfl
 |x::a,y::b,z::c,h=>by
  rw[Zfk]at h;rw[Zfk,Zfk];by_cases e:x=z
  ·subst e
   rw[if_pos rfl]at h;by_cases e1:x=y
   ·subst e1;rw[if_pos rfl,if_pos rfl];exact Zl2 a b c h
   ·rw[if_neg e1,if_neg (Ne.symm e1),decide_eq_true_eq,decide_eq_true_eq];omega
  ·rw[if_neg e,decide_eq_true_eq]at h
   by_cases e1:x=y
   ·subst e1;right;rw[if_neg e,decide_eq_true_eq];exact h
   ·rw[if_neg e1]
    by_cases e2:y=z
    ·left;rw[decide_eq_true_eq];omega
    ·rw[if_neg e2,decide_eq_true_eq,decide_eq_true_eq];omega
theorem Zjr:∀a b:List Int,rlt a b=false->rlt b a=false->a=b
 |[],[],_,_=>rfl
 |[],_::_,h,_=>by cases h
 |_::_,[],_,h=>by cases h
 |x::a,y::b,h1,h2=>by
  rw[Zfk]at h1 h2;by_cases e:x=y
  ·subst e
   rw[if_pos rfl]at h1 h2;rw[Zjr a b h1 h2]
  ·rw[if_neg e,decide_eq_false_iff_not]at h1
   rw[if_neg (Ne.symm e),decide_eq_false_iff_not]at h2;omega
theorem RowAt.inj {h:Heap}{v:Value}{a b:List Int}(x:RowAt h v a) (y:RowAt h v b):a=b:=by
 obtain⟨p,its,rfl,⟨o,ho,hc,n,hd⟩,hi⟩:=x;obtain⟨q,its2,e,⟨o2,ho2,hc2,n2,hd2⟩,hi2⟩:=y;cases e;rw[ho]at ho2;cases ho2;rw[hd]at hd2;have e:its=its2:=by
  have:=Data.seq.inj hd2;simpa using this.1
 subst e;clear hd hd2
 induction hi generalizing b with
 |nil=>cases hi2;rfl
 |cons n t _ ih=>cases hi2 with|cons _ _ r=>rw[ih r]
open Classical in
noncomputable def rowKey (h:Heap):PyProof.Rows.KeyKind where
 α:=List Int
 blt:=rlt
 irrefl:=Znj
 trans:=Zro
 negTrans:=Zl2
 total:=Zjr
 keyOf:=λv=>if e:∃r,RowAt h v r then some (Classical.choose e) else none
 dflt:=[]
open Classical in
theorem Zf5 {h:Heap}{v:Value}{r:List Int}(x:RowAt h v r):(rowKey h).keyOf v=some r:=by
 show (if e:∃r,RowAt h v r then some (Classical.choose e) else none)=some r;rw[dif_pos ⟨r,x⟩];exact congrArg some ((Classical.choose_spec (⟨r,x⟩:∃r,RowAt h v r)).inj x)
section
variable {prog:Program}{w:World}{A:Around}{E:Value->Shared->Prop}{s:Shared}
theorem Zj1 {Q:Bool->Shared->Prop}:∀{us vs:List Value}{as bs:List Int}(i:Nat),IntsAre us as->IntsAre vs bs->Q (rlt as bs) s->PySem.W.KatLex prog w A true (decide (as.length<bs.length)) Q (us.zip vs) i s
 |_,_,[],[],i,.nil,.nil,h=>h
 |_,_,[],b::bs,i,.nil,.cons _ _ _,h=>by
  rw[List.zip_nil_left];refine PySem.W.kat_nil ?_;rw[decide_eq_true (by simp)];exact h
 |_,_,a::as,[],i,.cons _ _ _,.nil,h=>by
  rw[List.zip_nil_right];refine PySem.W.kat_nil ?_;rw[decide_eq_false (by simp)];exact h
 |_,_,a::as,b::bs,i,.cons _ t x,.cons _ t' y,h=>by
  rw[Wci];refine PySem.W.kat_cons (SeqAt.EqAt.int_int a t b t' prog w _ _ ?_);rw[Zfk]at h;by_cases e:a=b
  ·rw[if_pos e]at h
   rw[show (a == b)=true by simp[e]];refine PySem.W.kat_yes ?_;have:=Zj1 (Q:=Q) (i+1) x y h;rw[War,War,show decide (as.length+1<bs.length+1)=decide (as.length<bs.length) by simp];exact this
  ·rw[if_neg e]at h
   rw[show (a == b)=false by simp[e]];refine PySem.W.kat_no ?_;cases z:(true && i == 0) with
   |true=>exact oneLt_int h
   |false=>exact PySem.W.kat_one _ _ (lt_int h)
theorem Zpm {v u:Value}{a b:List Int}{Q:Bool->Shared->Prop}(pa:RowAt s.heap v a) (pb:RowAt s.heap u b) (h:Q (rlt a b) s):wpAny (model prog w) A (keyLt' (tuples' true) v u) Q E s:=by
 obtain⟨l,its,rfl,⟨o1,ho,hc,n,hd⟩,hi⟩:=pa;obtain⟨k,its2,rfl,⟨o2,ho2,hc2,n2,hd2⟩,hi2⟩:=pb;refine PySem.W.kat_lt ho hd ho2 hd2 ?_;have:=Zj1 (prog:=prog) (w:=w) (A:=A) (Q:=Q) 0 hi hi2 h;rw[<- hi.length,<- hi2.length]at this;simpa using this
theorem Zpu {v u:Value}{a b:List Int}{Q:Bool->Shared->Prop}(hu:A.units<cLine) (pa:RowAt s.heap v a) (pb:RowAt s.heap u b) (h:Q (rlt a b) s):wpAny (model prog w) A (keyLt' oneType' v u) Q E s:=by
 obtain⟨l,its,rfl,⟨⟨c1,d1,dt1,sl1⟩,ho,hc,n,hd⟩,hi⟩:=pa;obtain⟨k,its2,rfl,⟨⟨c2,d2,dt2,sl2⟩,ho2,hc2,n2,hd2⟩,hi2⟩:=pb;simp only at hc hd hc2 hd2;subst hc hd hc2 hd2;rw[keyLt'_oneType,oneLt'_eq];simp only[if_true];refine wpAny_bind (wpAny_cRoomFor hu ?_);refine wpAny_bind (wpAny_callSpecialIfBound?_slot (T:="tuple") ⟨_,ho,rfl⟩ F.slot_tuple_lt (call_meets F.slot_tuple_lt ⟨_,ho,rfl⟩ F.entry_tuple_lt (F.args_tuple_lt_2 _ _) (HT.tuple_lt_ints l k its.toArray its2.toArray n n2 d1 d2 sl1 sl2 a b (by simpa using hi) (by simpa using hi2)) ⟨ho,ho2,?_⟩));exact wpAny_truthy_bool h
theorem Zqy {v u:Value}{a b:List Int}{Q:Bool->Shared->Prop}(hu:A.units<cLine) (pa:RowAt s.heap v a) (pb:RowAt s.heap u b) (h:Q (rlt a b) s):wpAny (model prog w) A (keyLt' general' v u) Q E s:=by
 obtain⟨l,its,rfl,⟨⟨c1,d1,dt1,sl1⟩,ho,hc,n,hd⟩,hi⟩:=pa;obtain⟨k,its2,rfl,⟨⟨c2,d2,dt2,sl2⟩,ho2,hc2,n2,hd2⟩,hi2⟩:=pb;simp only at hc hd hc2 hd2;subst hc hd hc2 hd2;refine PySem.W.kat_one _ _ ?_;exact richCompare_meets_room (op:=.Lt) ⟨_,ho,rfl⟩ ⟨_,ho2,rfl⟩ PySem.F.slot_tuple_lt PySem.F.entry_tuple_lt (PySem.F.args_tuple_lt_2 _ _) (HT.tuple_lt_ints l k its.toArray its2.toArray n n2 d1 d2 sl1 sl2 a b (by simpa using hi) (by simpa using hi2))
  ⟨ho,ho2,show Value.bool (HT.lexLt a b)≠Value.notImplemented/\_ from ⟨(λx=>nomatch x),h⟩⟩ hu
theorem Zk7 {vs:List Value}{r:List Int}{rs:List (List Int)}{Q:SortKind->Shared->Prop}(p:Paired (RowAt s.heap) vs (r::rs)) (hr:r≠[]) (he:[]∈rs) (h:Q general' s):wpAny (model prog w) A (keyKind' vs.toArray) Q E s:=by
 rw[keyKind'_eq,Wd6,map_eq_pure_bind];refine wpAny_bind (wpAny_bind (Zd0 vs _ p λfs pf=>wpAny_pure ?_));cases pf with
 |@cons f _ fs _ hf pt=>
  obtain⟨x,t,l,e1,rfl⟩:=hf.resolve_left λz=>hr z.1;have no:none∈fs:=by
   clear p h hf
   induction pt with
   |nil=>cases he
   |@cons f r' fs rs q t' ih=>
    rcases Wat.mp he with z|z
    ·subst z
     rcases q with ⟨_,y⟩|⟨_,_,_,y,_⟩
     ·subst y;exact Wa0
     ·cases y
    ·exact Wax _ (ih z)
  have:((some (Value.int x t)::fs).toArray.all λx=>x.isSome)=false:=by
   rw[List.all_toArray,Wdj];intro z;rw[Wbg]at z;have:=z none (Wax _ no);cases this
  rw[this,if_neg (by simp),if_pos (by simp)];exact wpAny_pure h
end
def keyD (κ:PyProof.Rows.KeyKind) (v:Value):κ.α:=(κ.keyOf v).getD κ.dflt
def Sortd (κ:PyProof.Rows.KeyKind) (out:List Value):Prop:=out.Pairwise λa b=>κ.kle (keyD κ a) (keyD κ b)
theorem twins {vs:List Value}{xs:Array Keyed}(hp:xs.Perm (vs.toArray.zip vs.toArray)):∀p∈xs.toList,p.1=p.2/\p.1∈vs:=λp hm=>by
 have h1:p∈(vs.toArray.zip vs.toArray).toList:=(Array.perm_iff_toList_perm.mp hp).mem_iff.mp hm;rw[Array.toList_zip]at h1;have h1:p∈vs.zip vs:=h1;obtain⟨i,hi⟩:=Wbn.mp h1;rw[Wbh]at hi;exact⟨Wa4.inj (hi.1.symm.trans hi.2),Waq hi.1⟩
theorem Zpd {κ:PyProof.Rows.KeyKind}{vs:List Value}{xs:Array Keyed}(hp:xs.Perm (vs.toArray.zip vs.toArray)) (hs:SortedToK κ xs (vs.toArray.zip vs.toArray).size):(xs.map (·.2)).toList.Perm vs/\Sortd κ (xs.map (·.2)).toList:=by
 have hsz:=hp.size_eq;refine⟨?_,?_⟩
 ·rw[Array.toList_map]
  have:=(Array.perm_iff_toList_perm.mp hp).map (·.2);rw[Array.toList_zip]at this;refine this.trans ?_;rw[show (vs.toArray.toList.zip vs.toArray.toList)=vs.zip vs from rfl,Wc9 (Wah _)]
 ·unfold Sortd
  rw[Wck];intro i j hi hj hij;rw[Array.length_toList,Array.size_map]at hi hj;have key:∀k (hk:k<xs.size),KK κ xs k=keyD κ (xs.map (·.2)).toList[k]!:=λk hk=>by
   unfold KK keyD;have e:xs[k]?=some xs[k]:=getElem?_pos xs k hk;rw[e];have e2:(xs.map (·.2)).toList[k]! = xs[k].2:=by simp[hk]
   rw[e2,<- (twins hp xs[k] (by simp)).1]
  have:=hs i j (Wb4 hij) (by omega);rw[key i hi,key j hj]at this;simpa [hi,hj] using this
section
variable {prog:Program}{w:World}{A:Around}{E:Value->Shared->Prop}{s:Shared}
theorem Zhc {a:Addr}{vs:List Value}{n:Nat}{kd:SortKind}{κ:PyProof.Rows.KeyKind}{P:Fin->Shared->Prop}(ho:s.heap.get? a=some (seqObj "list" vs.toArray n)) (hz:vs.length<64)
  (hk:2<=vs.length->∀h',KeepBut a s.heap h' -> ∀Q:SortKind->Shared->Prop,Q kd { s with heap:=h' } -> wpAny (model prog w) A (keyKind' vs.toArray) Q E { s with heap:=h' })
  (hc:∀h',KeepBut a s.heap h' -> ∀x∈vs,∀y∈vs,∀(E:Value->Shared->Prop) (Q:Bool->Shared->Prop),Q (κ.blt (keyD κ x) (keyD κ y)) { s with heap:=h' } -> wpAny (model prog w) A (keyLt' kd x y) Q E { s with heap:=h' })
  (h:∀out:List Value,out.Perm vs->Sortd κ out->P (.done (.ret .none)) { s with heap:=sortedHeap s.heap a vs out.toArray }):wpAny (model prog w) A (Builtin.«list.sort» ⟨[.ref a],[]⟩) P E s:=by
 rw[list_sort_plain];have ha:a<s.heap.objs.size:=Wap ho;have hsz:vs.toArray.size=vs.length:=by simp
 have hline:vs.length<=sizeLine:=by rw[sizeLine_eq];omega
 refine wpAny_bind (listItems_at ho rfl ?_);refine wpAny_bind (listUpdate_at ho rfl ?_ (by rw[hsz];exact hline) (Wb2 _));obtain⟨e1,ho1⟩:∃e1,(s.heap.update a (Obj.mapSeq λ_=>#[])).get? a=some (seqObj "list" #[] e1):=⟨_,get?_update_seq ho (λ_=>#[])⟩;refine wpAny_bind (seqEpoch_at ho1 rfl ?_);refine wpAny_bind (wpAny_newTuple ?_ hline);refine wpAny_bind (wpAny_newList ?_ (Wb2 _));refine wpAny_holding ?_;have ho6:(((s.heap.update a (Obj.mapSeq λ_=>#[])).push (seqObj "tuple" vs.toArray 0)).push (seqObj "list" #[] 0)).get? a=some (seqObj "list" #[] e1):=by
  rw[Wdi _ _ _ (by rw[size_push',Wdp];exact Waw (Wbr ha)),Wdi _ _ _ (by rw[Wdp];exact Waw ha)];exact ho1
 have keep:KeepBut a s.heap (((s.heap.update a (Obj.mapSeq λ_=>#[])).push (seqObj "tuple" vs.toArray 0)).push (seqObj "list" #[] 0)):=λb o hb q=>
  Wae _ (Wae _ ((Heap.get?_update_ne _ _ _ _ hb).trans q))
 show wpAny (model prog w) A _ P E { s with heap:=((s.heap.update a (Obj.mapSeq λ_=>#[])).push (seqObj "tuple" vs.toArray 0)).push (seqObj "list" #[] 0) };dsimp only;have zsz:(vs.toArray.zip vs.toArray).size=vs.length:=by rw[Array.size_zip,hsz,Wcy]
 by_cases h2:vs.toArray.size<2
 ·have out:((vs.toArray.zip vs.toArray).map (·.2))=vs.toArray:=by
   apply Array.toList_inj.mp;rw[Array.toList_map,Array.toList_zip];exact Wc9 (Wah _)
  rw[if_pos h2,if_pos h2];refine wpAny_bind (wpAny_pure ?_);rw[StateT.run_pure];refine wpAny_bind (wpAny_pure ?_);dsimp only;refine wpAny_bind (seqEpoch_at ho6 rfl ?_);rw[show arrOf (SortSt.mk' general' (vs.toArray.zip vs.toArray) #[] 7 none)=vs.toArray.zip vs.toArray from rfl,out];refine wpAny_bind (listUpdate_at ho6 rfl ?_ (Wb2 _) (by rw[hsz];exact Nat.le_succ_of_le hline));simp only[bne_self_eq_false,Wbi,if_false];refine wpAny_pure (h vs (List.Perm.refl _) ?_);unfold Sortd
  match vs,h2 with
  |[],_=>exact .nil
  |[_],_=>exact List.pairwise_singleton _ _
  |_::_::_,z=>simp at z;omega
 ·rw[if_neg h2,if_neg h2]
  refine wpAny_bind (hk (by omega) _ keep _ ?_);have O:Orc prog w A E { s with heap:=((s.heap.update a (Obj.mapSeq λ_=>#[])).push (seqObj "tuple" vs.toArray 0)).push (seqObj "list" #[] 0) } κ kd (vs.toArray.zip vs.toArray):=λt g i j hi hj Q hq=>by
   have at':∀k,k<(vs.toArray.zip vs.toArray).size->∃p,(arrOf t)[k]?=some p/\p.1∈vs/\KK κ (arrOf t) k=keyD κ p.1:=λk hk=>by
    have hk':k<(arrOf t).size:=by rw[g.sz];exact hk
    have e:(arrOf t)[k]?=some (arrOf t)[k]:=getElem?_pos _ k hk';refine⟨_,e,(twins g.pm (arrOf t)[k] (by simp)).2,?_⟩;unfold KK keyD;rw[e]
   obtain⟨p,p1,p2,p3⟩:=at' i hi;obtain⟨q,q1,q2,q3⟩:=at' j hj;rw[p3,q3]at hq;rw[ltAt'_eq];refine wpS_bind (wpS_get ?_);show wpS _ _ _ _ (do let x ← elem' (arrOf t) i;let y ← elem' (arrOf t) j;lt' x y) Q _;rw[elem'_eq,elem'_eq,p1,q1];refine wpS_bind (wpS_pure (wpS_bind (wpS_pure ?_)));rw[lt'_eq];refine wpS_bind (wpS_get ?_);rw[g.kd];refine wpS_bind (wpS_lift (wpAny_attempt (hc _ keep p.1 p2 q.1 q2 _ _ ⟨rfl,?_⟩)));exact wpS_pure hq
  refine wpAny_bind (wpAny_mono (Zuq (t:=SortSt.mk' kd (vs.toArray.zip vs.toArray) #[] 7 none) O (Q:=λ_ u=>(arrOf u).Perm (vs.toArray.zip vs.toArray)/\failedOf u=none/\SortedToK κ (arrOf u) (vs.toArray.zip vs.toArray).size) ⟨Array.Perm.refl _,rfl,rfl,rfl⟩ (by rw[zsz];omega) (by rw[zsz];exact hz) λu u1 u2 u3=>⟨u1,u2,u3⟩) ?_ λ_ _ e=>e);rintro⟨⟨⟩,u⟩ s' ⟨rfl,hp,hf,hs⟩;dsimp only;obtain⟨o1,o2⟩:=Zpd hp hs;have hfin:=h _ o1 o2;rw[Array.toArray_toList]at hfin;refine wpAny_bind (seqEpoch_at ho6 rfl ?_);refine wpAny_bind (listUpdate_at ho6 rfl ?_ (Wb2 _) (by rw[Array.size_map,hp.size_eq,zsz];exact Nat.le_succ_of_le hline));rw[hf];simp only[bne_self_eq_false,Wbi,if_false];exact wpAny_pure hfin
theorem Zez {l:Addr}{b:Bool}{vs:List Value}{kd:SortKind}{κ:PyProof.Rows.KeyKind}{Q:Value->Shared->Prop}(hl:HsB b s.heap l vs.toArray) (hz:vs.length<64)
  (hk:2<=vs.length->∀h',(∀b o,s.heap.get? b=some o->h'.get? b=some o)->∀(E:Value->Shared->Prop) (Q:SortKind->Shared->Prop),Q kd { s with heap:=h' } -> wpAny (model prog w) A.in1.in1 (keyKind' vs.toArray) Q E { s with heap:=h' })
  (hc:∀h',(∀b o,s.heap.get? b=some o->h'.get? b=some o)->∀x∈vs,∀y∈vs,∀(E:Value->Shared->Prop) (Q:Bool->Shared->Prop),Q (κ.blt (keyD κ x) (keyD κ y)) { s with heap:=h' } -> wpAny (model prog w) A.in1.in1 (keyLt' kd x y) Q E { s with heap:=h' })
  (h:∀out:List Value,out.Perm vs->Sortd κ out->Q (.ref (s.heap.objs.size+1)) { s with heap:=sortedAll s.heap vs out.toArray }):wpAny (model prog w) A (call (.builtin "sorted") [.ref l]) Q E s:=by
 have hline:vs.length<=sizeLine:=by rw[sizeLine_eq];omega
 refine Calls.call_function_entry kind_sorted plain_sorted entry_sorted (args_sorted1 _) ?_;unfold Builtin.«sorted»;refine wpAny_bind (m:=checkCount "sorted" 1 1 _) (wpAny_pure ?_);refine wpAny_bind (show wpAny (model prog w) A.in1 (collect (.ref l)) _ _ s from ?_);have go:∀{Q':List Value->Shared->Prop}{E':Value->Shared->Prop},Q' vs { s with heap:=(s.heap.push (seqObj "list" #[] 0)).update s.heap.objs.size (Obj.mapSeq (· ++ vs.toArray)) } -> wpAny (model prog w) A.in1 (collect (.ref l)) Q' E' s:=λ{Q' E'} q=>by
  cases b with
  |true=>exact Zf2 hl q hline
  |false=>exact collect_list hl q hline
 refine go ?_;refine wpAny_bind (wpAny_newList ?_ hline);have hsz:((s.heap.push (seqObj "list" #[] 0)).update s.heap.objs.size (Obj.mapSeq (· ++ vs.toArray))).objs.size=s.heap.objs.size+1:=by
  rw[Wdp,size_push']
 have hoL:(((s.heap.push (seqObj "list" #[] 0)).update s.heap.objs.size (Obj.mapSeq (· ++ vs.toArray))).push (seqObj "list" vs.toArray 0)).get? (s.heap.objs.size+1)=some (seqObj "list" vs.toArray 0):=by
  rw[<- hsz];exact Wal _ rfl
 have keep:∀b o,s.heap.get? b=some o->(((s.heap.push (seqObj "list" #[] 0)).update s.heap.objs.size (Obj.mapSeq (· ++ vs.toArray))).push (seqObj "list" vs.toArray 0)).get? b=some o:=λb o q=>by
  have hlt:b<s.heap.objs.size:=Wap q;rw[Wdi _ _ _ (by rw[hsz];exact Waw (Wbr hlt)),Heap.get?_update_ne _ _ _ _ (Waw hlt),Wdi _ _ _ (Waw hlt)];exact q
 have up:∀h',KeepBut (s.heap.objs.size+1) (((s.heap.push (seqObj "list" #[] 0)).update s.heap.objs.size (Obj.mapSeq (· ++ vs.toArray))).push (seqObj "list" vs.toArray 0)) h' -> ∀b o,s.heap.get? b=some o->h'.get? b=some o:=λh' k b o q=>
  k b o (Waw (Wbr (Wap q))) (keep b o q)
 show wpAny _ _ _ _ _ { s with heap:=((s.heap.push (seqObj "list" #[] 0)).update s.heap.objs.size (Obj.mapSeq (· ++ vs.toArray))).push (seqObj "list" vs.toArray 0) };rw[hsz];refine wpAny_bind (wpAny_holding (wpAny_call_entry slot_list_sort ⟨_,hoL,rfl⟩ entry_list_sort (Zhc (kd:=kd) (κ:=κ) hoL hz (λh2 h' k Q q=>hk h2 h' (up h' k) _ Q q) (λh' k x hx y hy E Q q=>hc h' (up h' k) x hx y hy E Q q) λout o1 o2=>⟨_,rfl,?_⟩) (args_list_sort _)));exact wpAny_pure ⟨_,rfl,h out o1 o2⟩
end
section
variable {X:Cx}
def SqU (K:W.Frag) (H:Hp) (p:Addr) (us:List V):Prop:=SqL K H p us\/SqT K H p us
def IsRows (K:W.Frag) (H:Hp) (us:List V) (rs:List (List Int)):Prop:=Paired (λ(u:V) (r:List Int)=>∃a,u=.ref a/\SqT K H a (r.map V.int)) us rs
def rSortG (K:W.Frag):List V->Hp->VK->Prop:=λxs H Q=>∃p us rs,xs=[.ref p]/\SqU K H p us/\us.length<64/\IsRows K H us rs ∧
 ∀(l:Addr) (ps:List (V × List Int)),ps.Perm (us.zip rs)->(ps.map (·.2)).Pairwise (λa b=>rlt b a=false)->H l=none->Q (.ref l) (upd H l (.lst (ps.map (·.1))))
theorem Paired.mem {R:Value->List Int->Prop}:∀{vs:List Value}{rs:List (List Int)},Paired R vs rs->∀v∈vs,∃r∈rs,R v r
 |_,_,.nil,v,h=>by cases h
 |_,_,.cons p t,v,h=>by
  rcases Wat.mp h with e|e
  ·subst e;exact⟨_,Wa0,p⟩
  ·obtain⟨r,h1,h2⟩:=Paired.mem t v e
   exact⟨r,Wax _ h1,h2⟩
theorem Zob {R:V->List Int->Prop}{us:List V}{its:List Value}{rs:List (List Int)}{out:List Value}(hv:Vals us its) (hp:Paired R us rs) (ho:out.Perm its):∃ps:List (V × List Int),Vals (ps.map (·.1)) out/\Paired R (ps.map (·.1)) (ps.map (·.2))/\ps.Perm (us.zip rs):=by
 suffices key:∀{out its:List Value},out.Perm its->∀ps:List (V × List Int),Vals (ps.map (·.1)) its->Paired R (ps.map (·.1)) (ps.map (·.2))->∃qs:List (V × List Int),Vals (qs.map (·.1)) out/\Paired R (qs.map (·.1)) (qs.map (·.2))/\qs.Perm ps by
  have hl:us.length=rs.length:=by
   clear key hv ho
   induction hp with
   |nil=>rfl
   |cons _ _ ih=>rw[War,War,ih]
  refine key ho (us.zip rs) ?_ ?_
  ·rw[Wdn (by omega)];exact hv
  ·rw[Wdn (by omega),Wc9 (by omega)];exact hp
 intro out its ho
 induction ho with
 |nil=>
  intro ps hv hp;cases ps with
  |nil=>exact⟨[],.nil,.nil,.refl _⟩
  |cons _ _=>cases hv
 |cons x h ih=>
  intro ps hv hp;cases ps with
  |nil=>cases hv
  |cons a ps=>
   cases hv with
   |cons r t=>
    cases hp with
    |cons p q=>
     obtain⟨qs,a1,a2,a3⟩:=ih ps t q;exact⟨a::qs,.cons r a1,.cons p a2,a3.cons _⟩
 |swap x y l=>
  intro ps hv hp;cases ps with
  |nil=>cases hv
  |cons a ps=>
   cases ps with
   |nil=>cases hv with|cons _ t=>cases t
   |cons b ps=>
    cases hv with
    |cons r t=>
     cases t with
     |cons r2 t=>
      cases hp with
      |cons p q=>
       cases q with
       |cons p2 q=>exact⟨b::a::ps,.cons r2 (.cons r t),.cons p2 (.cons p q),.swap _ _ _⟩
 |trans h1 h2 ih1 ih2=>
  intro ps hv hp;obtain⟨qs,a1,a2,a3⟩:=ih2 ps hv hp;obtain⟨qs2,b1,b2,b3⟩:=ih1 qs a1 a2;exact⟨qs2,b1,b2,b3.trans a3⟩
theorem Paired.get2 {R:Value->List Int->Prop}:∀{vs:List Value}{rs:List (List Int)}{i:Nat}{r:List Int},Paired R vs rs->rs[i]?=some r->∃v,vs[i]?=some v/\R v r
 |_,_,_,_,.nil,h=>by simp at h
 |_,_,0,_,.cons p _,h=>by simp at h;subst h;exact⟨_,rfl,p⟩
 |_,_,i+1,r,.cons _ t,h=>by
  obtain⟨v,h1,h2⟩:=Paired.get2 (i:=i) (r:=r) t (by simpa using h);exact⟨v,by simpa using h1,h2⟩
theorem sortGK (K:W.Frag) (hu:X.A.units+8<cLine) (hK:X.K=K:=by rfl):CallR X (.builtin "sorted") (rSortG K):=by
 subst hK;intro pins s σ H xs us Q I r h;obtain⟨p,ys,rs,rfl,hx,hl,hp,q⟩:=h;obtain⟨u,rfl,ru⟩:=vals1 r;cases (show u=Value.ref p from ru);obtain⟨b,hx⟩:∃b,SqB b X.K H p ys:=by
  rcases hx with z|z
  ·exact⟨false,z⟩
  ·exact⟨true,z⟩
 obtain⟨its,w1,p1⟩:=I.seqB hx;have pr:=Zjy I w1 hp;have hlen:=w1.length;have hrl:=Paired.len pr;have hu2:X.A.in1.in1.units<cLine:=Wcu (by show X.A.units+1+1<=X.A.units+8;omega) hu;have fin:∀out:List Value,out.Perm its->Sortd (rowKey s.heap) out->EP X pins σ Q (.ref (s.heap.objs.size+1)) { s with heap:=sortedAll s.heap its out.toArray }:=λout o1 o2=>by
  obtain⟨ps,a1,a2,a3⟩:=Zob w1 hp o1;have pr':=Zjy I a1 a2;obtain⟨e,he⟩:=sortedAll_at s.heap its out.toArray;have hs:(ps.map (·.2)).Pairwise (λa b=>rlt b a=false):=by
   rw[Wck];intro i j hi hj hij;obtain⟨v,v1,v2⟩:=Paired.get2 pr' (Waa hi);obtain⟨u,u1,u2⟩:=Paired.get2 pr' (Waa hj);obtain⟨g1,g2⟩:=Waf.mp v1;obtain⟨g3,g4⟩:=Waf.mp u1;have:=(Wck.mp o2) i j g1 g3 hij;rw[g2,g4]at this;unfold keyD at this;rw[Zf5 v2,Zf5 u2]at this;exact this
  have hl':=a1.length;have ho':=o1.length_eq;refine⟨.ref (s.heap.objs.size+1),_,I.laid (t':=s.toks) (λ_ _ z=>sortedAll_old z) (Wcr _) (show ObjOk X.prog X.w _ _ _ (.lst (ps.map (·.1))) from ⟨Wb4 (small1000 (by omega)),out,e,a1,he⟩),rfl,q _ ps a3 hs (I.hok.fresh (Wcr _))⟩
 have cmp:∀h',(∀b o,s.heap.get? b=some o->h'.get? b=some o)->∀x∈its,∃a,RowAt h' x a/\keyD (rowKey s.heap) x=a:=λh' k x hx=>by
  obtain⟨a,_,ha⟩:=Paired.mem pr x hx;refine⟨a,ha.keep k,?_⟩;unfold keyD;rw[Zf5 ha];rfl
 by_cases hne:∀r∈rs,r≠[]
 ·refine Zez (b:=b) (kd:=tuples' true) (κ:=rowKey s.heap) p1 (by omega) (λh2 h' k E Q hq=>?_) (λh' k x hx y hy E Q hq=>?_) fin
  ·exact Zls (s:={ s with heap:=h' }) (Paired.up (λv r z=>z.keep k) pr) hne (by intro z;subst z;rw[Wcn]at hrl;omega) hq
  ·obtain⟨a,a1,a2⟩:=cmp h' k x hx
   obtain⟨c,c1,c2⟩:=cmp h' k y hy;rw[a2,c2]at hq;exact Zpm (s:={ s with heap:=h' }) a1 c1 hq
 ·cases rs with
  |nil=>exact absurd (λr h=>nomatch h) hne
  |cons r0 rs=>
   by_cases h0:r0=[]
   ·subst h0
    refine Zez (b:=b) (kd:=oneType') (κ:=rowKey s.heap) p1 (by omega) (λh2 h' k E Q hq=>?_) (λh' k x hx y hy E Q hq=>?_) fin
    ·exact Zlz (s:={ s with heap:=h' }) (Paired.up (λv r z=>z.keep k) pr) hq
    ·obtain⟨a,a1,a2⟩:=cmp h' k x hx
     obtain⟨c,c1,c2⟩:=cmp h' k y hy;rw[a2,c2]at hq;exact Zpu (s:={ s with heap:=h' }) hu2 a1 c1 hq
   ·have he:[]∈rs:=by
     apply Classical.byContradiction;intro z;refine hne λr hr e=>?_;subst e;rcases Wat.mp hr with y|y
     ·exact h0 y.symm
     ·exact z y
    refine Zez (b:=b) (kd:=general') (κ:=rowKey s.heap) p1 (by omega) (λh2 h' k E Q hq=>?_) (λh' k x hx y hy E Q hq=>?_) fin
    ·exact Zk7 (s:={ s with heap:=h' }) (Paired.up (λv r z=>z.keep k) pr) h0 he hq
    ·obtain⟨a,a1,a2⟩:=cmp h' k x hx
     obtain⟨c,c1,c2⟩:=cmp h' k y hy;rw[a2,c2]at hq;exact Zqy (s:={ s with heap:=h' }) hu2 a1 c1 hq
end
section
variable {K:W.Frag}{Δ:Evt}
theorem Zko {G:Hp}:∀{us:List V}{ds:List D},Reps K G us ds->∀p∈us.zip ds,Rep K G p.1 p.2
 |_,_,.nil,p,h=>by cases h
 |_,_,.cons r t,p,h=>by
  rcases Wat.mp h with e|e
  ·subst e;exact r
  ·exact Zko t p e
theorem Zgl {G:Hp}:∀ps:List (V × List Int),(∀p∈ps,Rep K G p.1 (rowD p.2))->Reps K G (ps.map (·.1)) ((ps.map (·.2)).map rowD)
 |[],_=>.nil
 |p::ps,h=>.cons (h p Wa0) (Zgl ps λq hq=>h q (Wax _ hq))
theorem Zqi {ta:TA}{Po:OD->Evt->Prop}(h:JA K ta Δ λds Δ1=>∃rs:List (List Int),(ds=[.lst (rs.map rowD)]\/ds=[.tup (rs.map rowD)])/\rs.length<64/\∀ms:List (List Int),ms.Perm rs->ms.Pairwise (λa b=>rlt b a=false)->Po (.lst (ms.map rowD)) Δ1):JO K (tCB (rSortG K) ta) Δ Po:=λg G H σ Q k c=>
 h g G H σ _ k λvs ds G1 H1 Δ1 k1 s1 r1 hq_=>by
  obtain⟨rs,e,hl,p⟩:=hq_;obtain⟨a,us,ea,hs,rr⟩:∃a us,vs=[.ref a]/\SqU K H1 a us/\Reps K G1 us (rs.map rowD):=by
   rcases e with e|e <;> subst e
   ·obtain⟨_,_,rfl,r,t⟩:=r1.inv
    next=>cases t.inv;cases r with|lst ha' rr=>exact⟨_,_,rfl,.inl (SqL.of (k1.live _ _ ha')),rr⟩
   ·obtain⟨_,_,rfl,r,t⟩:=r1.inv
    next=>cases t.inv;cases r with|tup ha' rr=>exact⟨_,_,rfl,.inr (SqT.of (k1.live _ _ ha')),rr⟩
  subst ea;have hlen:=rr.length;rw[Wab]at hlen;refine⟨a,us,rs,rfl,hs,by omega,Zj6 k1.live rr,λl ps a1 a2 hl=>?_⟩;have hr:Reps K G1 (ps.map (·.1)) ((ps.map (·.2)).map rowD):=Zgl ps λp hp=>by
   have h1:=a1.mem_iff.mp hp;refine Zko rr (p.1,rowD p.2) ?_;obtain⟨i,hi⟩:=Wbn.mp h1;rw[Wbh]at hi;refine Wbn.mpr ⟨i,?_⟩;rw[Wbh,Wad,hi.2];exact⟨hi.1,rfl⟩
  have hp2:(ps.map (·.2)).Perm rs:=by
   have:=a1.map (·.2);rw[Wc9 (by omega)]at this;exact this
  obtain⟨k2,pd⟩:=k1.fresh (od:=.lst ((ps.map (·.2)).map rowD)) hl (show OwnRep K G1 (.lst (ps.map (·.1))) (.lst ((ps.map (·.2)).map rowD)) from hr);exact c l _ G1 _ Δ1 k2 s1 pd (p _ hp2 a2)
end
section
variable {K:W.Frag}{Δ:Evt}{P:D->Evt->Prop}
end
section
variable {X:Cx}{pins:List (Addr × Obj)}{σ:St}{H H':Hp}{s:Shared}{h':Heap}{b:Addr}
end
section
variable {X:Cx}{pins:List (Addr × Obj)}{σ:St}{H H':Hp}{s:Shared}{h':Heap}{a C T:Addr}
variable {M:Model}{E:Value->Shared->Prop}{Q:Unit->Shared->Prop}
end
section
variable {X:Cx}{pins:List (Addr × Obj)}{σ:St}{H:Hp}{s:Shared}{a C:Addr}
end
section
variable {X:Cx}
end
section
variable {P:Program}{w:World}{K:W.Frag}{mg:Str->Option Value}{base:Heap}
end
section
variable {K:W.Frag}{Δ:Evt}{E:XK}{Xp:Addr->Prop}{nx bk ct:Evt->Prop}{rt:D->Evt->Prop}{ro:OD->Evt->Prop}
end
open PySem PySem.Spec PyProof.Rows PySem.SeqAt
theorem Zcd {A:Around}{s:Shared}{x:V}{v u:Value}(h:flatV x=true) (rv:RelV x v) (ru:RelV x u):EqAt A s v u true:=by
 cases x with
 |non=>cases (show v=Value.none from rv);cases (show u=Value.none from ru);exact EqAt.same _
 |bl b=>cases (show v=Value.bool b from rv);cases (show u=Value.bool b from ru);exact EqAt.same _
 |int i=>
  obtain⟨t,rfl⟩:=rv;obtain⟨t',rfl⟩:=ru;have:=EqAt.int_int (A:=A) (s:=s) i t i t'
  rwa [beq_self_eq_true]at this
 |str i=>
  obtain⟨t,rfl⟩:=rv;obtain⟨t',rfl⟩:=ru;have:=EqAt.str_str (A:=A) (s:=s) i t i t'
  rwa [beq_self_eq_true]at this
 |_=>cases h
section
variable {K:W.Frag}{Δ:Evt}{P:D->Evt->Prop}
def flatE:D->Bool
 |.non=>true
 |.bl _=>true
 |.int _=>true
 |.str _=>true
 |_=>false
end
section
variable {K:W.Frag}{Δ:Evt}
end
section
variable {X:Cx}
def CDivB (i j:Int):Prop:=0<j/\j<=100000000000000000000000000000000000000000000000000000000000
theorem Zhe:OpR X (binaryOp .FloorDiv) (rI CDivB λi j=>.int (i / j)):=opI λi j _ _ _ _ _ hc q=>by
 have h1:(0:Int)<j:=hc.1;have h2:=hc.2;refine floordiv_int (by omega) (by rw[Int.fdiv_eq_ediv_of_nonneg i (by omega)];exact q) (.inl (PyProof.noPylong_of_log2 ?_));have h3:j.natAbs<=100000000000000000000000000000000000000000000000000000000000:=by omega
 have h4:j.natAbs<2 ^ 200:=Wcu h3 (by decide);exact Nat.lt_trans ((Nat.log2_lt (by omega)).2 h4) (by decide)
end
section
variable {K:W.Frag}{Δ:Evt}{E:XK}{Xp:Addr->Prop}{P:D->Evt->Prop}
end
def keyPd:Key->PyData
 |.inl i=>.int i
 |.inr x=>.str x
mutual
def D.pd:D->PyData
 |.non=>.none
 |.bl b=>.bool b
 |.int i=>.int i
 |.str x=>.str x
 |.tup ds=>.tuple (D.pds ds)
 |.lst ds=>.list (D.pds ds)
 |.dct ks ds=>.dict ((ks.map keyPd).zip (D.pds ds))
 |_=>.none
def D.pds:List D->List PyData
 |[]=>[]
 |d::ds=>D.pd d::D.pds ds
end
section
variable {X:Cx}
end
section
variable {K:W.Frag}{Δ:Evt}{P:D->Evt->Prop}
theorem Znb (p:P (.bl false) Δ):JR2 K (λx y H Q=>y=.non/\Q (.bl (!decide (x=.non))) H) .non .non Δ P:=λg G H σ Q u v k rx ry c=>by
 cases rx.inv;cases ry.inv;refine⟨rfl,?_⟩;rw[decide_eq_true rfl];exact c _ _ G H Δ k (Same.refl _) (.bl false) p
end
section
variable {X:Cx}
end
def PV (K:W.Frag) (te:TE) (Δ:Evt) (d:D):Prop:=∀P:D->Evt->Prop,P d Δ -> JE K te Δ P
def PVs (K:W.Frag) (ta:TA) (Δ:Evt) (ds:List D):Prop:=∀P:List D->Evt->Prop,P ds Δ -> JA K ta Δ P
def PR2 (K:W.Frag) (r:R2) (d e:D) (Δ:Evt) (x:D):Prop:=∀P:D->Evt->Prop,P x Δ -> JR2 K r d e Δ P
section
variable {K:W.Frag}{Δ:Evt}
theorem Zbn {te:TE}{d:D}{P:D->Evt->Prop}(h:PV K te Δ d) (p:P d Δ):JE K te Δ P:=h P p
theorem Zd5 {ta:TA}{ds:List D}{P:List D->Evt->Prop}(h:PVs K ta Δ ds) (p:P ds Δ):JA K ta Δ P:=h P p
theorem Zak {i:Nat}{d:D}(h:Δ[i]?=some (.val d)):PV K (tVar i) Δ d:=λP p=>Zac h p
theorem Zbh {i:Int}:PV K (tC (.int i)) Δ (.int i):=λP p=>Za3 p
theorem Zcf:PVs K tNil Δ []:=λP p=>Zaf p
theorem Zam {ta:TE}{tr:TA}{d:D}{ds:List D}(h:PV K ta Δ d) (t:PVs K tr Δ ds):PVs K (tCons ta tr) Δ (d::ds):=λP p=>Zab (h _ (t _ p))
theorem Zrh {ta:TA}{ds:List D}(h:PVs K ta Δ ds) (z:ds.length<=sizeLine):PV K (tTup ta) Δ (.tup ds):=λP p=>Zbw (h _ ⟨z,p⟩)
theorem Zve {ta:TA}{ds:List D}(h:PVs K ta Δ ds) (z:ds.length<=sizeLine):PV K (tLst ta) Δ (.lst ds):=λP p=>Zgv (h _ ⟨z,p⟩)
theorem Zcc {r:R2}{ta tb:TE}{d e x:D}(a:PV K ta Δ d) (b:PV K tb Δ e) (h:PR2 K r d e Δ x):PV K (tOp r ta tb) Δ x:=λP p=>Zau (a _ (b _ (h P p)))
theorem Zuj {ds:List D}{i:Int}{d:D}(h:atI ds i=some d):PR2 K (rIxU K) (.tup ds) (.int i) Δ d:=λP p=>Zcg h p
theorem Zuo {ds:List D}{i:Int}{d:D}(h:atI ds i=some d):PR2 K (rIxU K) (.lst ds) (.int i) Δ d:=λP p=>Zb7 h p
theorem Zc7 {i j:Int}:PR2 K (rAddU K) (.int i) (.int j) Δ (.int (i+j)):=λP p=>Zds p
theorem Zv3 {f:Int->Int->Int}{i j:Int}:PR2 K (rI0 λi j=>.int (f i j)) (.int i) (.int j) Δ (.int (f i j)):=λP p=>Zpb p
theorem pr_I {C:Int->Int->Prop}{f:Int->Int->Int}{i j:Int}(hc:C i j):PR2 K (rI C λi j=>.int (f i j)) (.int i) (.int j) Δ (.int (f i j)):=λP p=>jr_I hc p
theorem Zec {ta tb:TE}{ds:List D}{i:Int}{d:D}(a:PV K ta Δ (.tup ds)) (b:PV K tb Δ (.int i)) (h:atI ds i=some d):PV K (tOp (rIxU K) ta tb) Δ d:=Zcc a b (Zuj h)
theorem Zdm {ta tb:TE}{ds:List D}{i:Int}{d:D}(a:PV K ta Δ (.lst ds)) (b:PV K tb Δ (.int i)) (h:atI ds i=some d):PV K (tOp (rIxU K) ta tb) Δ d:=Zcc a b (Zuo h)
theorem Zb1 {n:Nat}{ds:List D}{i:Int}{d:D}(hx:Δ[n]?=some (.val (.tup ds))) (h:atI ds i=some d):PV K (tOp (rIxU K) (tVar n) (tC (.int i))) Δ d:=Zec (Zak hx) Zbh h
theorem Zrp {n:Nat}{ds:List D}{i:Int}{d:D}(hx:Δ[n]?=some (.val (.lst ds))) (h:atI ds i=some d):PV K (tOp (rIxU K) (tVar n) (tC (.int i))) Δ d:=Zdm (Zak hx) Zbh h
theorem Zfo {ta:TE}{ds:List D}(a:PV K ta Δ (.tup ds)):PV K (tCB (rLenU K) (tCons ta tNil)) Δ (.int ds.length):=λP p=>Za9 (Zab (a _ (Zaf (Zb6 (.inr rfl) p))))
theorem Zsd {ta:TE}{ds:List D}(a:PV K ta Δ (.lst ds)):PV K (tCB (rLenU K) (tCons ta tNil)) Δ (.int ds.length):=λP p=>Za9 (Zab (a _ (Zaf (Zb6 (.inl rfl) p))))
end
open PySem PySem.Spec PyProof.Rows PySem.SeqAt
def Sm:Nat->D->Bool
 |0,d=>flatE d
 |n+1,d=>match d with
  |.lst ds=>ds.all (Sm n)
  |.tup ds=>ds.all (Sm n)
  |d=>flatE d
section
variable {X:Cx}
theorem Zf6:∀(n:Nat) {A:Around}{pins:List (Addr × Obj)}{σ:St}{H G:Hp}{s:Shared}{x y:V}{v u:Value}{d:D},Inv X pins σ H s->Same G H->Rep X.K G x d->Rep X.K G y d->RelV x v->RelV y u->Sm n d=true->A.units+n<cLine->EqAt A s v u true
 |0,A,pins,σ,H,G,s,x,y,v,u,d,I,sg,rx,ry,rv,ru,h,hu=>by
  cases d with
  |non=>cases rx;cases ry;exact Zcd rfl rv ru
  |bl _=>cases rx;cases ry;exact Zcd rfl rv ru
  |int _=>cases rx;cases ry;exact Zcd rfl rv ru
  |str _=>cases rx;cases ry;exact Zcd rfl rv ru
  |_=>exact nomatch h
 |n+1,A,pins,σ,H,G,s,x,y,v,u,d,I,sg,rx,ry,rv,ru,h,hu=>by
  cases d with
  |non=>cases rx;cases ry;exact Zcd rfl rv ru
  |bl _=>cases rx;cases ry;exact Zcd rfl rv ru
  |int _=>cases rx;cases ry;exact Zcd rfl rv ru
  |str _=>cases rx;cases ry;exact Zcd rfl rv ru
  |lst ds=>
   cases rx with
   |@lst a vs _ ha ra=>
    cases ry with
    |@lst b us _ hb rb=>
     cases rv;cases ru;obtain⟨its,w1,pl,_⟩:=I.list (SqL.of (sg _ _ ha));obtain⟨its2,w2,pl2,_⟩:=I.list (SqL.of (sg _ _ hb));have l1:=w1.length;have l2:=w2.length;have l3:=ra.length;have l4:=rb.length;have h:ds.all (Sm n)=true:=h;by_cases hab:a=b
     ·subst hab;exact EqAt.same _
     ·refine .of_refs hab ?_
      have z:=RcAt.lists (A:=A) (s:=s) (e:=λ_=>true) pl.isList pl2.isList (by rw[Wag,Wag];omega) (by omega) λj h1 h2=>by
       have h1':j<its.length:=by simpa using h1
       have h2':j<its2.length:=by simpa using h2
       have hx:j<ds.length:=by omega
       obtain⟨p,hp1,hp2⟩:=ra.get (Waa hx);obtain⟨q,hq1,hq2⟩:=rb.get (Waa hx);obtain⟨va,hv1,hv2⟩:=w1.get hp1;obtain⟨vb,hw1,hw2⟩:=w2.get hq1;rw[Waa h1']at hv1;rw[Waa h2']at hw1;rw[Wcm,Wcm,Wa4.inj hv1,Wa4.inj hw1];exact Zf6 n I sg hp2 hq2 hv2 hw2 (Wbg.mp h _ (Wa7 hx)) (by show A.units+1+n<cLine;omega)
      rw[Wbg.mpr (λ_ _=>rfl)]at z;exact z
  |tup ds=>
   cases rx with
   |@tup a vs _ ha ra=>
    cases ry with
    |@tup b us _ hb rb=>
     cases rv;cases ru;obtain⟨its,w1,pl,_⟩:=I.tuple (SqT.of (sg _ _ ha));obtain⟨its2,w2,pl2,_⟩:=I.tuple (SqT.of (sg _ _ hb));have l1:=w1.length;have l2:=w2.length;have l3:=ra.length;have l4:=rb.length;have h:ds.all (Sm n)=true:=h;by_cases hab:a=b
     ·subst hab;exact EqAt.same _
     ·refine .of_refs hab ?_
      have z:=RcAt.tuples (A:=A) (s:=s) (e:=λ_=>true) pl pl2 (by omega) λj h1 h2=>by
       have h1':j<its.length:=by simpa using h1
       have h2':j<its2.length:=by simpa using h2
       have hx:j<ds.length:=by omega
       obtain⟨p,hp1,hp2⟩:=ra.get (Waa hx);obtain⟨q,hq1,hq2⟩:=rb.get (Waa hx);obtain⟨va,hv1,hv2⟩:=w1.get hp1;obtain⟨vb,hw1,hw2⟩:=w2.get hq1;rw[Waa h1']at hv1;rw[Waa h2']at hw1;rw[Wcm,Wcm,Wa4.inj hv1,Wa4.inj hw1];exact Zf6 n I sg hp2 hq2 hv2 hw2 (Wbg.mp h _ (Wa7 hx)) (by show A.units+1+n<cLine;omega)
      rw[Wbg.mpr (λ_ _=>rfl),show (its.toArray.size == its2.toArray.size)=true by rw[Wag,Wag];exact beq_iff_eq.mpr (by omega),Bool.and_self]at z;exact z
  |_=>exact nomatch h
def rNeSm (K:W.Frag):R2:=λx y H Q=>Q (.bl false) H/\∃(G:Hp) (n:Nat) (a b:Addr) (xs ys:List V) (ds:List D),Same G H/\Reps K G xs ds/\Reps K G ys ds/\ds.all (Sm n)=true/\n<=5/\x=.ref a/\y=.ref b/\SqL K H a xs/\SqL K H b ys
theorem neSmK (K:W.Frag) (hv:X.A.units+8<cLine) (hK:X.K=K:=by rfl):OpR X (compareOp .NotEq) (rNeSm K):=by
 subst hK;intro pins s σ H x y v u Q I rx ry h;obtain⟨q,G,n,a,b,xs,ys,ds,sg,ra,rb,hd,hn,rfl,rfl,h1,h2⟩:=h;cases rx;cases ry;obtain⟨its,w1,p1,_⟩:=I.list h1;obtain⟨its2,w2,p2,_⟩:=I.list h2;have l1:=w1.length;have l2:=w2.length;have l3:=ra.length;have l4:=rb.length;refine RcNeAt.lists (A:=X.A) (s:=s) (e:=λ_=>true) p1.isList p2.isList (by rw[Wag,Wag];omega) (by omega) (λj h1 h2=>?_) X.prog X.w _ _ ?_
 ·have h1':j<its.length:=by simpa using h1
  have h2':j<its2.length:=by simpa using h2
  have hx:j<ds.length:=by omega
  obtain⟨p,hp1,hp2⟩:=ra.get (Waa hx);obtain⟨q,hq1,hq2⟩:=rb.get (Waa hx);obtain⟨va,hv1,hv2⟩:=w1.get hp1;obtain⟨vb,hw1,hw2⟩:=w2.get hq1;rw[Waa h1']at hv1;rw[Waa h2']at hw1;rw[Wcm,Wcm,Wa4.inj hv1,Wa4.inj hw1];exact Zf6 n I sg hp2 hq2 hv2 hw2 (Wbg.mp hd _ (Wa7 hx)) (by show X.A.units+1+n<cLine;omega)
 ·rw[Wbg.mpr (λ_ _=>rfl)]
  exact⟨.bl false,H,I,rfl,q⟩
end
theorem Zs4 {K:W.Frag}{Δ:Evt}{P:D->Evt->Prop}{n:Nat}{ds:List D}(hn:n<=5) (h:ds.all (Sm n)=true) (p:P (.bl false) Δ):JR2 K (rNeSm K) (.lst ds) (.lst ds) Δ P:=λg G H σ Q x y k rx ry c=>by
 obtain⟨_,_,rfl,ha,ra⟩:=rx.inv
 next=>
  obtain⟨_,_,rfl,hb,rb⟩:=ry.inv
  next=>exact⟨c _ _ G H Δ k (Same.refl _) (.bl false) p,G,n,_,_,_,_,ds,k.live,ra,rb,h,hn,rfl,rfl,SqL.of (k.live _ _ ha),SqL.of (k.live _ _ hb)⟩
def rEqL0 (K:W.Frag):R2:=λx y H Q=>∃(a b:Addr) (xs:List V),x=.ref a/\y=.ref b/\SqL K H a xs/\SqL K H b []/\Q (.bl xs.isEmpty) H
theorem eqL0K {X:Cx}(K:W.Frag) (hu:X.A.units+1<cLine) (hK:X.K=K:=by rfl):OpR X (compareOp .Eq) (rEqL0 K):=by
 subst hK;intro pins s σ H x y v u Q I rx ry h;obtain⟨a,b,xs,rfl,rfl,h1,h2,q⟩:=h;cases rx;cases ry;obtain⟨its,w1,p1,_⟩:=I.list h1;obtain⟨its2,w2,p2,_⟩:=I.list h2;cases w2;cases w1 with
 |nil=>exact RcAt.lists (A:=X.A) (s:=s) (e:=λ_=>true) p1.isList p2.isList rfl (by omega) (λj _ z=>absurd z (by simp)) X.prog X.w _ _ ⟨.bl _,H,I,rfl,q⟩
 |cons r t=>exact RcAt.lists_lengths (A:=X.A) (s:=s) p1.isList p2.isList (by simp) (by omega) X.prog X.w _ _ ⟨.bl _,H,I,rfl,q⟩
theorem Zr7 {K:W.Frag}{Δ:Evt}{P:D->Evt->Prop}{ds:List D}(p:P (.bl ds.isEmpty) Δ):JR2 K (rEqL0 K) (.lst ds) (.lst []) Δ P:=λg G H σ Q x y k rx ry c=>by
 obtain⟨_,_,rfl,ha,ra⟩:=rx.inv;obtain⟨_,_,rfl,hb,rb⟩:=ry.inv;cases rb.inv;refine⟨_,_,_,rfl,rfl,SqL.of (k.live _ _ ha),SqL.of (k.live _ _ hb),?_⟩;rw[ra.isEmpty];exact c _ _ G H Δ k (Same.refl _) (.bl _) p
open PySem PySem.Spec PyProof.Rows PySem.SeqAt
section
variable {K:W.Frag}{Δ:Evt}
end
section
variable {K:W.Frag}{Δ:Evt}{nx bk ct:Evt->Prop}{rt:D->Evt->Prop}{ro:OD->Evt->Prop}
end
section
variable {K:W.Frag}{Δ:Evt}{P:D->Evt->Prop}
theorem Zto {neg:Bool}{n:Nat}{ta:TE}(h:JE K ta Δ λd Δ1=>∃(x:Slot) (ns:List Int) (i:Int),Δ1[n]?=some x/\x.od=some (.lst (ns.map D.int))/\d=.int i/\P (.bl (if neg then !decide (i∈ns) else decide (i∈ns))) Δ1):JE K (tOp (rInU K neg) ta (tVar n)) Δ P:=λg G H σ Q k c=>
 h g G H σ _ k λv d G1 H1 Δ1 k1 s1 r1 hq_=>by
  obtain⟨x,ns,i,q1,q2,q3,p⟩:=hq_;subst q3;cases r1.inv;obtain⟨a,o,w1,w2,w3,w4,w5⟩:=k1.own n x _ q1 q2;cases o with
  |lst vs=>
   have rs:Reps K G1 vs (ns.map D.int):=w3;have ev:=rs.ints;subst ev;refine⟨.ref a,w1,.inl ⟨_,_,rfl,.inl (SqL.of w2),rfl,Zm2 ns,?_⟩⟩;rw[Zo3];exact c _ _ G1 H1 Δ1 k1 s1 (.bl _) p
  |_=>exact absurd w3 (λz=>z)
theorem Zuv {f:Int->Int->Int}{i j:Int}(p:P (.int (f i j)) Δ):JR2 K (ipI f) (.int i) (.int j) Δ P:=λg G H σ Q x y k rx ry c=>by
 cases rx.inv;cases ry.inv;exact⟨i,j,rfl,rfl,c _ _ G H Δ k (Same.refl _) (.int _) p⟩
theorem Zkl {G:Hp}:∀{kvs:List (Key × V)}{kds:List (Key × D)},Paired (λ(p:Key × V) (q:Key × D)=>p.1=q.1/\Rep K G p.2 q.2) kvs kds->(kds.map (·.1)).zip (kvs.map (·.2))=kvs/\Reps K G (kvs.map (·.2)) (kds.map (·.2))
 |_,_,.nil=>⟨rfl,.nil⟩
 | (k1,v1)::kvs,(k2,d2)::kds,.cons ⟨e,r⟩ t=>by
  have e:k1=k2:=e;subst e;obtain⟨h1,h2⟩:=Zkl t;refine⟨?_,.cons r h2⟩;show (k1,v1)::(kds.map (·.1)).zip (kvs.map (·.2))=_;rw[h1]
theorem Zkv {G:Hp}:∀{ks:List Key}{vs:List V}{ds:List D},ks.length=vs.length->Reps K G vs ds->Paired (λ(p:Key × V) (q:Key × D)=>p.1=q.1/\Rep K G p.2 q.2) (ks.zip vs) (ks.zip ds)
 |[],_,_,_,_=>.nil
 |_::_,_,_,l,.nil=>by cases l
 |k::ks,_,_,l,.cons r rs=>.cons ⟨rfl,r⟩ (Zkv (Nat.succ.inj l) rs)
theorem Zpy (kds:List (Key × D)):(kds.map (·.1)).zip (kds.map (·.2))=kds:=by
 induction kds with
 |nil=>rfl
 |cons a t ih=>rw[Wa3,Wa3,Wci,ih]
theorem Ok.freezeD {g:Gm}{G H:Hp}{σ:St}(k:Ok K g G H σ Δ) {a:Addr}{kds:List (Key × D)}{kvs:List (Key × V)}(p:Pend K g G H σ Δ a (.dct kds)) (hv:H a=some (.dK kvs)):Ok K g (upd G a (.dK kvs)) H σ Δ /\ Same G (upd G a (.dK kvs))/\Rep K (upd G a (.dK kvs)) (.ref a) (.dct (kds.map (·.1)) (kds.map (·.2))):=by
 obtain⟨o,p1,p2,p3,p4,p5,p6⟩:=p;rw[hv]at p1;cases p1;obtain⟨r1,r2⟩:=Zkl (K:=K) p2;have sg:Same G (upd G a (.dK kvs)):=λb u e=>by rw[Zao (Zas e p3)];exact e
 refine⟨⟨k.same,k.lent,k.sub.trans sg,λb u e=>?_,λb u e=>?_,k.len,λj d h=>?_,λj x od e1 e2=>?_,k.dis⟩,sg,.dct (vs:=kvs.map (·.2)) (by rw[r1];exact Zan) (by rw[Wab,Wab];exact(Paired.length p2).symm) (r2.mono sg)⟩
 ·by_cases hb:b=a
  ·subst hb;rw[Zan]at e;cases e;exact⟨hv,.inl p4⟩
  ·rw[Zao hb]at e;exact k.frz b u e
 ·obtain⟨h1,h2,h3⟩:=k.ext b u e
  have hb:b≠a:=by intro z;subst z;rw[p5]at e;cases e
  exact⟨h1,by rw[Zao hb];exact h2,h3⟩
 ·obtain⟨v,h1,h2⟩:=k.val j d h
  exact⟨v,h1,h2.mono sg⟩
 ·obtain⟨c,o,w1,w2,w3,w4,w5⟩:=k.own j x od e1 e2
  have hc:c≠a:=by intro z;subst z;exact p6 j x od e1 e2 w1
  exact⟨c,o,w1,w2,w3.mono sg,by rw[Zao hc];exact w4,w5⟩
def dctD (kds:List (Key × D)):D:=.dct (kds.map (·.1)) (kds.map (·.2))
theorem Zed {t:TE}(h:JO K t Δ λod Δ1=>∃kds,od=.dct kds/\P (dctD kds) Δ1):JE K t Δ P:=λg G H σ Q k c=>
 h g G H σ Q k λa od G1 H1 Δ1 k1 s1 pd hq_=>by
  obtain⟨kds,e,p1⟩:=hq_;subst e;obtain⟨o,q1,q2,_⟩:=id pd;cases o with
  |dK kvs=>
   obtain⟨k2,sg,r⟩:=k1.freezeD pd q1;exact c _ _ _ H1 Δ1 k2 (s1.trans sg) r p1
  |_=>exact absurd q2 (λz=>z)
theorem Zf3 {kds:List (Key × D)}{i:Int}{d:D}(h:valD kds (.inl i)=some d) (p:P d Δ):JR2 K (rIxU K) (dctD kds) (.int i) Δ P:=λg G H σ Q x y k rx ry c=>by
 obtain⟨a,vs,rfl,ha,hl,rs⟩:=rx.inv;cases ry.inv;have pr:=Zkv hl rs;rw[Zpy]at pr;obtain⟨u,z1,z2⟩:=Zi2 pr h;exact .inr ⟨a,u,rfl,(by have:=DGet.k (k:=Sum.inl i) (k.live _ _ ha);rw[z1]at this;exact this),c u d G H Δ k (Same.refl _) z2 p⟩
end
end L2
set_option Elab.async false
set_option linter.all false
set_option maxRecDepth 100000
namespace HT
open PySem PyProof.Rows
section
variable {prog:Program}{w:World}{A:Around}{E:Value->Shared->Prop}{s:Shared}
theorem Zel {sl:Addr}{t0 t:Tok}{n:Nat}{Q:Int × Int × Nat->Shared->Prop}(hs:s.heap.IsSliceOf sl .none (.int 0 t0) (.int (-1) t))
  (h:Q (((n:Int)-1),-1,n-1) s):wpAny (model prog w) A (Builtin.Slice.sliceApplied (.ref sl) (pure (n:Int))) Q E s:=by
 obtain⟨os,hos,hcs,hds⟩:=id hs;unfold Builtin.Slice.sliceApplied Builtin.Slice.sliceFields;refine wpAny_bind (wpAny_bind (wpAny_field hos hds (x:=.none) rfl (wpAny_bind (wpAny_field hos hds (x:=.int 0 t0) rfl (wpAny_bind (wpAny_field hos hds (x:=.int (-1) t) rfl (wpAny_pure ?_)))))));refine wpAny_bind (Zdx (.int (-1) t) ?_);show wpAny _ _ (if ((-1:Int) == 0)=true then _ else _) _ _ s;rw[if_neg (by decide)];refine wpAny_bind (slicePart_none (wpAny_bind (Zdx (.int 0 t0) (wpAny_bind (wpAny_pure ?_)))));have e:Builtin.Slice.sliceAdjust none (some 0) (-1) (n:Int)=((n:Int)-1,if n=0 then -1 else 0):=by
  by_cases hn:n=0
  ·subst hn;rfl
  ·rw[if_neg hn]
   simp[Builtin.Slice.sliceAdjust];omega
 show wpAny _ _ (match Builtin.Slice.sliceAdjust none (some 0) (-1) (n:Int) with|(lo,hi)=>pure (lo,(-1:Int),Builtin.Slice.slicePlaces lo hi (-1))) _ _ s;rw[e];have e2:Builtin.Slice.slicePlaces ((n:Int)-1) (if n=0 then -1 else 0) (-1)=n-1:=by
  unfold Builtin.Slice.slicePlaces;rw[if_neg (by decide)];by_cases hn:n=0
  ·subst hn;rfl
  ·rw[if_neg hn]
   by_cases h1:n=1
   ·subst h1;rfl
   ·rw[if_pos (by omega),show (n:Int)-1-0-1=(n:Int)-2 by omega,show -(-1:Int)=1 by rfl,Int.ediv_one]
    omega
 show wpAny _ _ (pure ((n:Int)-1,(-1:Int),Builtin.Slice.slicePlaces ((n:Int)-1) (if n=0 then -1 else 0) (-1))) _ _ s;rw[e2];exact wpAny_pure h
theorem Zno (xs:Array Value):((Wau (xs.size-1)).filterMap λ(m:Nat)=>xs[(((xs.size:Int)-1)+(m:Int) * -1).toNat]?).toArray=(xs.toList.drop 1).reverse.toArray:=by
 congr 1;have key:∀(l:List Nat),(∀m∈l,m<xs.size)->(l.filterMap λ(m:Nat)=>xs[(((xs.size:Int)-1)+(m:Int) * -1).toNat]?)=l.map λm=>xs.toList.reverse.getD m .none:=by
  intro l
  induction l with
  |nil=>intro _;rfl
  |cons a r ih=>
   intro h;have ha:=h a Wa0;have e:(((xs.size:Int)-1)+(a:Int) * -1).toNat=xs.size-1-a:=by omega
   have e2:xs[(((xs.size:Int)-1)+(a:Int) * -1).toNat]?=some (xs.toList.reverse.getD a .none):=by
    rw[e,Wac,List.getElem?_reverse (by simpa using ha)];simp only[Array.length_toList,Array.getElem?_toList];rw[Array.getElem?_eq_getElem (by omega)];rfl
   rw[Wce,e2,Wa3,ih λm hm=>h m (Wax _ hm)]
 rw[key _ (λm hm=>by have:=Wa2.mp hm;omega),List.reverse_drop,Array.length_toList];apply Wb3;intro i;rw[Wad,List.getElem?_take];by_cases hi:i<xs.size-1
 ·rw[Wcq hi,if_pos hi,Waa (by rw[Wc2,Array.length_toList];omega)]
  show some (xs.toList.reverse.getD i .none)=_;rw[Wac,Waa (by rw[Wc2,Array.length_toList];omega)];rfl
 ·rw[Wcj (by rw[Wbe];omega),if_neg hi];rfl
theorem getItem_tuple_rev0 {t sl:Addr}{items:Array Value}{tk0 tk:Tok}{Q:Value->Shared->Prop}(ht:IsTup s.heap t items) (hs:s.heap.IsSliceOf sl .none (.int 0 tk0) (.int (-1) tk))
  (h:Q (.ref s.heap.objs.size) { s with heap:=s.heap.push { cls:=.type "tuple",data:=.seq (items.toList.drop 1).reverse.toArray } })
  (hsz:items.size<=sizeLine):wpAny (model prog w) A (getItem (.ref t) (.ref sl)) Q E s:=by
 have htake:sizeOk (.seq (items.toList.drop 1).reverse.toArray):=by
  show (items.toList.drop 1).reverse.toArray.size<=sizeLine;rw[Wag,Wc2,Wbo,Array.length_toList];omega
 obtain⟨os,hos,hcs,hds⟩:=id hs;have hTs:s.TypeIs (.ref sl) "slice":=⟨os,hos,hcs⟩;unfold getItem
 try with_reducible refine wpAny_holding ?_
 first|refine wpAny_bind (wpAny_pure ?_)|skip
 refine wpAny_bind (wpAny_sequenceKey ht.typeIs (by decide) ?_);refine wpAny_bind (wpAny_callSpecial?_slot (name:=Str.ofString "__getitem__") ht.typeIs PyProof.Rows.slot_tuple_getitem
  (wpAny_call_entry PyProof.Rows.slot_tuple_getitem ht.typeIs entry_tuple_getitem ?_ (args_tuple_getitem _ _)))
 show wpAny _ _ (Builtin.Tuple.tupleItemsOf (.ref t) >>= _) _ _ s;refine wpAny_bind (tupleItemsOf_ ht ?_);refine wpAny_bind (wpAny_typeOf hTs ?_);rw[if_pos (by decide)];refine wpAny_bind (Zel (n:=items.size) hs ?_);have hno:¬ ((((items.size:Int)-1) == 0 && (-1:Int) == 1 && items.size-1 == items.size)=true):=by simp
 show wpAny _ _ (if ((((items.size:Int)-1) == 0 && (-1:Int) == 1 && items.size-1 == items.size))=true then _ else _) _ _ s;rw[if_neg hno,Zno]
 first
  |exact wpAny_bind (m:=Builtin.Tuple.tupleExact _) (wpAny_newObj_type (wpAny_pure ⟨_,rfl,wpAny_pure h⟩) htake)
  |exact wpAny_bind (m:=Builtin.Tuple.tupleExact _) (wpAny_newObj_type (wpAny_bind (wpAny_pure (wpAny_pure ⟨_,rfl,wpAny_pure h⟩))) htake)
  |exact wpAny_bind (wpAny_bind (m:=Builtin.Tuple.tupleExact _) (wpAny_newObj_type (wpAny_pure (wpAny_pure ⟨_,rfl,wpAny_pure h⟩)) htake))
end
end HT
namespace L2
open PySem PySem.Spec PyProof.Rows
section
variable {X:Cx}
def tSlR0 (K:W.Frag) (te:TE):TE:=λσ H Q=>te σ H λx H1=>∃a xs,x=.ref a/\SqT K H1 a xs/\∀p,H1 p=none->Q (.ref p) (upd H1 p (.tup (xs.drop 1).reverse))
theorem Zle {e:Expr}{te:TE}{pos p0 p2 p3 p4:Pos}{k0 k:Nat}(he:PE X e te):PE X (.Subscript e (.Slice none (some (.Constant (.int 0) k0 p0)) (some (.UnaryOp .USub (.Constant (.int 1) k p4) p3)) p2) pos) (tSlR0 X.K te):=by
 intro pins s σ H Q I h;refine Subscript_ (thn (he pins s σ H _ I h) λv s1 ⟨x,H1,I1,r1,q1⟩=>?_);obtain⟨a,xs,rfl,hx,q⟩:=q1;cases r1;refine wpAny_Slice ?_;rw[evalPart_none];refine wpAny_pure ?_;have st0:=Zek (X:=X) (Zag (X:=X) (i:=0) (j:=k0) (pos:=p0)) (e:=.Constant (.int 0) k0 p0) pins s1 σ H1 (λo H2=>o=some 0/\H2=H1) I1 ⟨0,rfl,rfl,rfl⟩;refine thn st0 λu0 s2 ⟨o0,H2,I2,pu0,e1,e2⟩=>?_;subst e1;subst e2;cases pu0 with
 |int i0 t0=>
  have st:=Zek (X:=X) (Zv5 Zvt (Zag (X:=X) (i:=1) (j:=k) (pos:=p4))) (e:=.UnaryOp .USub (.Constant (.int 1) k p4) p3) pins s2 σ H2 (λo H3=>o=some (-1)/\H3=H2) I2 ⟨1,rfl,-1,rfl,rfl,rfl⟩;refine thn st λu s3 ⟨o,H3,I3,pu,e1,e2⟩=>?_;subst e1;subst e2;cases pu with
  |int i t=>
   have I4:Inv X pins σ H3 { s3 with heap:=s3.heap.push { cls:=.type "slice",data:=.fields #[.none,.int 0 t0,.int (-1) t] } }:=I3.kept (t':=s3.toks) λb ob q=>Wae _ q;obtain⟨its,r,ht,hz⟩:=I4.tuple hx;show wpAny (model X.prog X.w) X.A (subscriptTail e (.Slice none (some (.Constant (.int 0) k0 p0)) (some (.UnaryOp .USub (.Constant (.int 1) k p4) p3)) p2) (.ref a) (.ref s3.heap.objs.size)) (EP X pins σ Q) X.xe { s3 with heap:=s3.heap.push { cls:=.type "slice",data:=.fields #[.none,.int 0 t0,.int (-1) t] } };refine tail_any (ops:=[.ref a,.ref s3.heap.objs.size]) ht.typeIs PyProof.Rows.slot_tuple_getitem.lookup (HT.getItem_tuple_rev0 ht (tk0:=t0) (tk:=t) (Heap.IsSliceOf.new ..) ?_ (by rw[Wag,<- r.length];exact hz)) (by with_unfolding_all rfl);refine⟨.ref _,_,I4.laid (t':=s3.toks) (o:=.tup (xs.drop 1).reverse) (λb ob q=>Wae _ q) (Wah _) ?_,rfl,q _ (I4.hok.fresh (Wah _))⟩;exact⟨by rw[Wc2,Wbo];omega,_,(r.drop 1).reverse,IsTupN.new _ _⟩
theorem slR0K {e:Expr}{te:TE}{pos p0 p2 p3 p4:Pos}{k0 k:Nat}(K:W.Frag) (he:PE X e te) (hK:X.K=K:=by rfl):PE X (.Subscript e (.Slice none (some (.Constant (.int 0) k0 p0)) (some (.UnaryOp .USub (.Constant (.int 1) k p4) p3)) p2) pos) (tSlR0 K te):=hK ▸ Zle he
end
section
variable {K:W.Frag}{Δ:Evt}{P:D->Evt->Prop}
theorem Zrw {te:TE}(h:JE K te Δ λd Δ1=>∃ds,d=.tup ds/\P (.tup (ds.drop 1).reverse) Δ1):JE K (tSlR0 K te) Δ P:=λg G H σ Q k c=>
 h g G H σ _ k λv d G1 H1 Δ1 k1 s1 r1 hq_=>by
  obtain⟨ds,e,p⟩:=hq_;subst e;obtain⟨_,_,rfl,ha,rs⟩:=r1.inv
  next=>
   refine⟨_,_,rfl,SqT.of (k1.live _ _ ha),λq hq=>?_⟩;obtain⟨k4,sg⟩:=k1.laid hq (.tup _);exact c _ _ _ _ Δ1 k4 (s1.trans sg) (.tup Zan ((rs.drop 1).reverse.mono sg)) p
end
section
variable {prog:Program}{w:World}{A:Around}{R:Result->Shared->Prop}{I:Addr}{fp wr:List Addr}{G:Array GenState->Array GenState->Prop}{n:Nat}{P:Nat->Value->Prop}{St:Nat->Shared->Prop}{K:Type}[DecidableEq K] {knd:KeyKind prog w K}
end
section
variable {X:Cx}
end
def distN (ns:List Int):Nat:=(metK (λi=>ns.getD i 0) ns.length).length
def tLSV (to:TE):TE:=λσ H Q=>to σ H λx H1=>∃(a:Addr) (kvs:List (Key × V)) (ns:List Int),x=.ref a/\H1 a=some (.dK kvs)/\kvs.map (·.2)=ns.map V.int/\ns.length<64/\Q (.int (distN ns:Int)) H1
theorem Zm3 {κ:Type}:∀{kvs:List (κ × V)}{vs:List (κ × Value)},KV kvs vs->Vals (kvs.map (·.2)) (vs.map (·.2))
 |_,_,.nil=>.nil
 |_,_,.cons h t=>.cons h.2 (Zm3 t)
section
variable {X:Cx}
theorem Zg3 {o:Expr}{to:TE}{p p2 p3 apos cpos pos pos2 pos3:Pos}(hc:X.calm=true) (hgL:Gl X "len") (hmL:X.mg "len" = none) (hgS:Gl X "set") (hmS:X.mg "set" = none) (hgI:Gl X "list") (hmI:X.mg "list" = none) (ho:PE X o to)
  (hbase:attributeBase o "values" X.env (eval o X.env)=eval o X.env:=by rfl) (hline:(apos.endLine == cpos.line)=true:=by rfl)
  (h3:starEach [.Call (.Attribute o "values" apos) [] [] cpos] X.env=[(false,eval (.Call (.Attribute o "values" apos) [] [] cpos) X.env)]:=by rfl)
  (h2:starEach [.Call (.Name "list" p3) [.Call (.Attribute o "values" apos) [] [] cpos] [] pos3] X.env=[(false,eval (.Call (.Name "list" p3) [.Call (.Attribute o "values" apos) [] [] cpos] [] pos3) X.env)]:=by rfl)
  (h1:starEach [.Call (.Name "set" p2) [.Call (.Name "list" p3) [.Call (.Attribute o "values" apos) [] [] cpos] [] pos3] [] pos2] X.env=[(false,eval (.Call (.Name "set" p2) [.Call (.Name "list" p3) [.Call (.Attribute o "values" apos) [] [] cpos] [] pos3] [] pos2) X.env)]:=by rfl) :
  PE X (.Call (.Name "len" p) [.Call (.Name "set" p2) [.Call (.Name "list" p3) [.Call (.Attribute o "values" apos) [] [] cpos] [] pos3] [] pos2] [] pos) (tLSV to):=by
 intro pins s σ H Q I h;refine wpAny_Call_Name_kw (Zdl I hgL hmL Za7 ?_);refine PyProof.Rows.callWith_builtin1 ?_ h1 rfl;rw[h1];show wpAny _ _ (spliced ((false,eval (.Call (.Name "set" p2) [.Call (.Name "list" p3) [.Call (.Attribute o "values" apos) [] [] cpos] [] pos3] [] pos2) X.env)::backTo pos [])) _ _ s;refine Calls.spliced_cons ?_;refine wpAny_Call_Name_kw (Zdl I hgS hmS Zra ?_);refine PyProof.Rows.callWith_type1 ?_ h2 rfl;rw[h2];show wpAny _ _ (spliced ((false,eval (.Call (.Name "list" p3) [.Call (.Attribute o "values" apos) [] [] cpos] [] pos3) X.env)::backTo pos2 [])) _ _ s;refine Calls.spliced_cons ?_;refine wpAny_Call_Name_kw (Zdl I hgI hmI Zje ?_);refine PyProof.Rows.callWith_type1 ?_ h3 rfl;rw[h3];show wpAny _ _ (spliced ((false,eval (.Call (.Attribute o "values" apos) [] [] cpos) X.env)::backTo pos3 [])) _ _ s;refine Calls.spliced_cons ?_;refine wpAny_Call_method0_late hbase hline (thn (ho pins s σ H _ I h) λv s1 ⟨x,H1,I1,r1,a,kvs,ns,ex,ha,hns,hl,q⟩=>?_);subst ex;cases (show v=Value.ref a from r1);obtain⟨t1,t2⟩:=Znh (T:="dict") I1 (show RelV (.ref a) (.ref a) from rfl) (.inr (.inr (.inl ⟨rfl,.inl ⟨kvs,ha⟩⟩)));refine⟨"dict","dict.values",PySem.F.plainAttrs_dict,PySem.F.slot_dict_values,PySem.F.type_dict_values,t1,t2,Calls.callWith_builtin rfl (PySem.evalArgs_none ?_)⟩;obtain⟨hz,hS,vs,rel,dd⟩:=Zqk I1.hok ha;refine call_meetsIn PySem.F.slot_dict_values dd.typeIs PySem.F.entry_dict_values (PySem.F.args_dict_values_1 _) (meets_dict_values (mixKind X.prog X.w) a hS) ⟨⟨vs,dd⟩,?_⟩;refine Calls.spliced_nil ?_;obtain⟨ep,hat⟩:=(dd.push (o:={ cls:=.type "dict_values",data:=.fields #[.ref a] })).dictAt;have hvl:vs.length=ns.length:=by have:=congrArg Wbd hns;rw[Wab,Wab]at this;rw[<- rel.length];exact this
 refine PySem.W.kdl_call (PySem.W.kdl_values (knd:=mixKind X.prog X.w) (kvs:=vs) (ep:=ep)) (I1.ok.hd hc) ⟨⟨_,Wal _ rfl,rfl,rfl⟩,hat⟩ (Wb4 (small1000 (by omega))) λh' tk acc c' hk hD hI=>?_;refine Calls.spliced_nil ?_;have hal:acc.size=vs.length:=hI.1;have hia:IntsAre acc.toList ns:=by
  have e:=PySem.W.kdl_vals_eq acc.toList (by rw[Array.length_toList];exact hal) λj v e=>hI.2 j v (by rw[<- Array.getElem?_toList];exact e);rw[e];refine Zc5 ?_;rw[<- hns];exact Zm3 rel
 refine Zh6 (s:={ s1 with heap:=h',toks:=tk }) (I1.ok.hd hc) ⟨_,hD,rfl,c',rfl⟩ hia (by unfold scanBound;omega) λh2 tk2 hS2 hk2=>?_;refine Calls.spliced_nil ?_;obtain⟨o2,es,ep2,t,g⟩:=hS2;have gs:=g.size;have I2:Inv X pins σ H1 { s1 with heap:=h2,toks:=tk2+1+1 }:=I1.kept λb o e=>hk2 b o (hk b o (Wae _ e));refine call_len_set g.get g.ex g.dat g.fit (by have:=g.room;unfold scanBound at this;omega) ?_;refine⟨.int (distN ns:Int),H1,I2,⟨tk2+1,?_⟩,q⟩;rw[gs,show (metK (λi=>ns.getD i 0) acc.size).length=distN ns by unfold distN;rw[hal,hvl]]
end
end L2
namespace L2
open PySem PySem.Spec PyProof.Rows
section
variable {prog:Program}{w:World}{A:Around}{E:Value->Shared->Prop}{s:Shared}
end
section
variable {K:W.Frag}{Δ:Evt}{P:D->Evt->Prop}
theorem Zvf {te:TE}(h:JE K te Δ λd Δ1=>∃(kds:List (Key × D)) (ns:List Int),d=dctD kds/\kds.map (·.2)=ns.map D.int/\ns.length<64/\P (.int (distN ns:Int)) Δ1):JE K (tLSV te) Δ P:=λg G H σ Q k c=>
 h g G H σ _ k λv d G1 H1 Δ1 k1 s1 r1 hq_=>by
  obtain⟨kds,ns,e,hns,hl,p⟩:=hq_;subst e;obtain⟨a,vs,rfl,ha,hlen,rs⟩:=r1.inv;rw[hns]at rs;have ev:=rs.ints;subst ev;refine⟨a,_,ns,rfl,k1.live _ _ ha,?_,hl,c _ _ G1 H1 Δ1 k1 s1 (.int _) p⟩;exact Wc9 (by rw[hlen];exact Wah _)
theorem Zpg {i:Nat}{kds:List (Key × D)}(h:Δ[i]?=some (.own (.dct kds))) (p:P (dctD kds) (Δ.set i (.val (dctD kds)))):JE K (tVar i) Δ P:=λg G H σ Q k c=>by
 obtain⟨a,h1,pd⟩:=k.take h;obtain⟨o,q1,q2,_⟩:=id pd;cases o with
 |dK vs=>
  obtain⟨k2,sg,r⟩:=(k.drop i).freezeD pd q1;have k3:=k2.setVal (i:=i) (by simpa using (Waf.mp h).1) r;have e1:σ.set i (some (.ref a)) = σ:=by
   apply Wb3;intro j;by_cases hj:j=i
   ·subst hj;rw[Wai (k.lt h),h1]
   ·rw[Wam (Ne.symm hj)]
  rw[e1,List.set_set]at k3;exact⟨.ref a,h1,c _ _ _ H _ k3 sg r p⟩
 |_=>exact absurd q2 (λz=>z)
theorem Zus {n:Nat}{i:Int}{d:D}{Po:OD->Evt->Prop}(hv:Δ[n]?=some (.val d)) (p:Po (.dct [(.inl i,d)]) Δ):JO K (tDisp [(tC (.int i),tVar n)]) Δ Po:=λg G H σ Q k c q hq=>by
 obtain⟨v,w1,w2⟩:=k.val n _ hv;refine⟨v,w1,Zan,[(.inl i,v)],rfl,by simp,?_⟩;obtain⟨k2,pd⟩:=k.fresh (od:=.dct [(.inl i,d)]) hq (show OwnRep K G (.dK [(.inl i,v)]) (.dct [(.inl i,d)]) from .cons ⟨rfl,w2⟩ .nil);rw[Zor];exact c q _ G _ Δ k2 (Same.refl _) pd p
def onlyV:Slot->Slot
 |.val d=>.val d
 |_=>.any
theorem Zky {x:Slot}:(onlyV x).od=none:=by cases x <;> rfl
theorem Ok.peek {g:Gm}{G H:Hp}{σ:St}(k:Ok K g G H σ Δ) {i:Nat}{x:Slot}{ds:List D}(h:Δ[i]?=some x) (ho:x.od=some (.lst ds)) :
  ∃(g':Gm) (G':Hp),Ok K g' G' H σ ((Δ.map onlyV).set i (.val (.lst ds)))/\Same G G' /\ ∀G2 H2 Δ2,Ok K g' G2 H2 σ Δ2->Ok K g G H2 σ Δ:=by
 obtain⟨a,o,w1,w2,w3,w4,w5⟩:=k.own i x _ h ho;cases o with
 |lst vs=>
  have sg:Same G (upd G a (.lst vs)):=λb u e=>by rw[Zao (Zas e w4)];exact e
  have hlt:i<(Δ.map onlyV).length:=by rw[Wab];exact(Waf.mp h).1
  refine⟨⟨λ_=>False,upd G a (.lst vs),H,λ_=>none⟩,upd G a (.lst vs),⟨λb o _ e=>e,λb z=>z.elim,λb o e=>e,λb o e=>?_,λb o e=>(by cases e),?_,λj d e=>?_,λj y od e1 e2=>?_,λj l y z od od' b e1 e2 e3 e4=>?_⟩,sg,λG2 H2 Δ2 k2=>?_⟩
  ·refine⟨?_,.inr e⟩
   by_cases hb:b=a
   ·subst hb;rw[Zan]at e;cases e;exact w2
   ·rw[Zao hb]at e;exact k.live b o e
  ·rw[Wby,Wab];exact k.len
  ·by_cases hj:j=i
   ·subst hj
    rw[Wai hlt]at e;cases e;exact⟨.ref a,w1,.lst Zan (Reps.mono sg w3)⟩
   ·rw[Wam (Ne.symm hj),Wad]at e
    cases z:Δ[j]? with
    |none=>rw[z]at e;cases e
    |some y=>
     rw[z]at e;cases y with
     |val d'=>
      have e:Slot.val d'=Slot.val d:=Wa4.inj e;cases e;obtain⟨v,q1,q2⟩:=k.val j d z;exact⟨v,q1,q2.mono sg⟩
     |_=>cases e
  ·exfalso
   by_cases hj:j=i
   ·subst hj
    rw[Wai hlt]at e1;cases e1;cases e2
   ·rw[Wam (Ne.symm hj),Wad]at e1
    cases z:Δ[j]? with
    |none=>rw[z]at e1;cases e1
    |some y=>
     rw[z]at e1;have e1:onlyV y=_:=Wa4.inj e1;rw[<- e1,Zky]at e2;cases e2
  ·exfalso
   by_cases hj:j=i
   ·subst hj
    rw[Wai hlt]at e1;cases e1;cases e2
   ·rw[Wam (Ne.symm hj),Wad]at e1
    cases z:Δ[j]? with
    |none=>rw[z]at e1;cases e1
    |some y=>
     rw[z]at e1;have e1:onlyV y=_:=Wa4.inj e1;rw[<- e1,Zky]at e2;cases e2
  ·have kp:∀b o,H b=some o->H2 b=some o:=λb o e=>k2.same b o (λz=>z) e
   refine⟨λb o n e=>kp b o (k.same b o n e),λb n z=>?_,k.sub,λb o e=>⟨kp b o (k.frz b o e).1,(k.frz b o e).2⟩,λb o e=>?_,k.len,k.val,λj y od e1 e2=>?_,k.dis⟩
   ·cases e:H b with
    |none=>exact k.lent b n e
    |some o=>rw[kp b o e]at z;cases z
   ·obtain⟨q1,q2,q3⟩:=k.ext b o e
    exact⟨kp b o q1,q2,q3⟩
   ·obtain⟨b,o,q1,q2,q3⟩:=k.own j y od e1 e2
    exact⟨b,o,q1,kp b o q2,q3⟩
 |_=>exact absurd w3 (λz=>z)
theorem Zsf {i:Nat}{x:Slot}{ds:List D}{t:TT}{Pb:Bool->Evt->Prop}(h:Δ[i]?=some x) (ho:x.od=some (.lst ds)) (p:JT K t ((Δ.map onlyV).set i (.val (.lst ds))) λb _=>Pb b Δ):JT K t Δ Pb:=λg G H σ Q k c=>by
 obtain⟨g',G',k',_,back⟩:=k.peek h ho;exact p g' G' H σ Q k' λb G2 H2 Δ2 k2 _ q=>c b G H2 Δ (back G2 H2 Δ2 k2) (Same.refl _) q
end
end L2
namespace L2
open PySem PySem.Spec PyProof.Rows
def rNeL0 (K:W.Frag):R2:=λx y H Q=>∃(a b:Addr) (xs:List V),x=.ref a/\y=.ref b/\SqL K H a xs/\SqL K H b []/\Q (.bl (!xs.isEmpty)) H
theorem neL0K {X:Cx}(K:W.Frag) (hu:X.A.units+1<cLine) (hK:X.K=K:=by rfl):OpR X (compareOp .NotEq) (rNeL0 K):=by
 subst hK;intro pins s σ H x y v u Q I rx ry h;obtain⟨a,b,xs,rfl,rfl,h1,h2,q⟩:=h;cases rx;cases ry;obtain⟨its,w1,p1,_⟩:=I.list h1;obtain⟨its2,w2,p2,_⟩:=I.list h2;cases w2;cases w1 with
 |nil=>exact PySem.SeqAt.RcNeAt.lists (A:=X.A) (s:=s) (e:=λ_=>true) p1.isList p2.isList rfl (by omega) (λj _ z=>absurd z (by simp)) X.prog X.w _ _ ⟨.bl _,H,I,rfl,q⟩
 |cons r t=>exact PySem.SeqAt.RcNeAt.lists_lengths (A:=X.A) (s:=s) p1.isList p2.isList (by simp) (by omega) X.prog X.w _ _ ⟨.bl _,H,I,rfl,q⟩
section
variable {K:W.Frag}{Δ:Evt}{P:D->Evt->Prop}
theorem Zs9 {ds:List D}(p:P (.bl (!ds.isEmpty)) Δ):JR2 K (rNeL0 K) (.lst ds) (.lst []) Δ P:=λg G H σ Q x y k rx ry c=>by
 obtain⟨_,_,rfl,ha,ra⟩:=rx.inv;obtain⟨_,_,rfl,hb,rb⟩:=ry.inv;cases rb.inv;refine⟨_,_,_,rfl,rfl,SqL.of (k.live _ _ ha),SqL.of (k.live _ _ hb),?_⟩;rw[ra.isEmpty];exact c _ _ G H Δ k (Same.refl _) (.bl _) p
theorem Ztg {n:Nat}{x:Slot}{ds:List D}{d:D}(hx:Δ[n]?=some x) (ho:x.od=some (.lst (ds++[d]))) (p:P d (Δ.set n (x.put (.lst ds)))):JE K (tBM0 K "list" rPop (tVar n)) Δ P:=λg G H σ Q k c=>by
 obtain⟨a,o,h1,h2,h3,h4,h5⟩:=k.own n x _ hx ho;cases o with
 |lst vs=>
  have rs:Reps K G vs (ds++[d]):=h3;have hl:=rs.length;rw[Wao,Wbb]at hl;obtain⟨u,z1,z2⟩:=rs.get (i:=ds.length) (d:=d) (by rw[Way (Wah _),Nat.sub_self];rfl);have rd:Reps K G vs.dropLast ds:=by
   have:=rs.take ds.length;rw[List.take_left]at this;rw[List.dropLast_eq_take,hl];exact this
  refine⟨.ref a,h1,.inl ⟨rfl,_,SqL.of h2⟩,a,vs,u,rfl,rfl,h2,by rw[hl];exact z1,?_⟩;exact c u d G _ _ (k.write hx ho h1 (show OwnRep K G (.lst vs.dropLast) (.lst ds) from rd)) (Same.refl _) z2 p
 |_=>exact absurd h3 (λz=>z)
end
open PySem PySem.Spec PyProof.Rows PySem.SeqAt
section
variable {K:W.Frag}{Δ:Evt}{P:D->Evt->Prop}
theorem Zsg {n:Nat}{ti te:TE}{nx bk ct:Evt->Prop}{rt:D->Evt->Prop}{ro:OD->Evt->Prop}
  (h:JE K te Δ λd Δ1=>(∃a,Δ1[n]?=some (.val (.adr a)))/\JE K ti Δ1 λe Δ2=>∃a j ds i m,Δ2[n]?=some (.val (.adr a)) /\ Δ2[j]?=some (.ownA a (.lst ds))/\e=.int i/\ixN ds.length i=some m/\nx (Δ2.set j (.ownA a (.lst (ds.set m d))))) :
  JS K (tAsg te (gSub (tVar n) ti rSetU)) Δ ⟨nx,rt,bk,ct,ro⟩:=λg G H σ E k c=>
 h g G H σ _ k λv d G1 H1 Δ1 k1 s1 r1 hq_=>by
  obtain⟨⟨a,hx⟩,p1⟩:=hq_;obtain⟨u,h1,h2⟩:=k1.val n _ hx;cases h2;refine⟨_,h1,p1 g G1 H1 σ _ k1 λu e G2 H2 Δ2 k2 s2 r2 ⟨a',j,ds,i,m,q0,q1,q3,q4,p⟩=>?_⟩;subst q3;cases r2.inv;obtain⟨u',h1',h2'⟩:=k2.val n _ q0;cases h2';rw[h1]at h1';cases h1';obtain⟨b,o',w1,w2,w3,w4,w5⟩:=k2.own j _ _ q1 rfl;obtain⟨rfl,_⟩:=w5;cases o' with
  |lst vs=>
   have w3:Reps K G2 vs ds:=w3;exact .inl ⟨_,vs,i,m,rfl,rfl,w2,by rw[w3.length];exact q4,c.nx σ G2 _ _ (k2.write q1 rfl w1 (show OwnRep K G2 (.lst (vs.set m v)) (.lst (ds.set m d)) from w3.set m (r1.mono s2))) p⟩
  |_=>exact absurd w3 (λz=>z)
theorem Ztm {n j:Nat}{a:Addr}{ds:List D}{d:D}(hx:Δ[n]?=some (.val (.adr a))) (hj:Δ[j]?=some (.ownA a (.lst (ds++[d])))) (p:P d (Δ.set j (.ownA a (.lst ds)))):JE K (tBM0 K "list" rPop (tVar n)) Δ P:=λg G H σ Q k c=>by
 obtain⟨v,h1,h2⟩:=k.val n _ hx;cases h2;obtain⟨a',o,w1,w2,w3,w4,w5⟩:=k.own j _ _ hj rfl;obtain⟨rfl,_⟩:=w5;cases o with
 |lst vs=>
  have rs:Reps K G vs (ds++[d]):=w3;have hl:=rs.length;rw[Wao,Wbb]at hl;obtain⟨u,z1,z2⟩:=rs.get (i:=ds.length) (d:=d) (by rw[Way (Wah _),Nat.sub_self];rfl);have rd:Reps K G vs.dropLast ds:=by
   have:=rs.take ds.length;rw[List.take_left]at this;rw[List.dropLast_eq_take,hl];exact this
  refine⟨_,h1,.inl ⟨rfl,_,SqL.of w2⟩,_,vs,u,rfl,rfl,w2,by rw[hl];exact z1,?_⟩;exact c u d G _ _ (k.write hj rfl w1 (show OwnRep K G (.lst vs.dropLast) (.lst ds) from rd)) (Same.refl _) z2 p
 |_=>exact absurd w3 (λz=>z)
end
section
variable {prog:Program}{w:World}{A:Around}{E:Value->Shared->Prop}{s:Shared}
theorem Zi1 {a:Addr}{vs:List (Key × Value)}{ks:List Int}{Q:Value->Shared->Prop}(hh:A.handled=none) (lo:(a == sysModules)=false) (hD:s.heap.DictOf (mixKind prog w) a vs) (hk:vs.map (·.1)=ks.map .inl) (h64:ks.length<64)
  (h:∀(h1 h':Heap) (tk:Nat) (out:List Value) (ms:List Int) (c:Nat),(∀b o,s.heap.get? b=some o->h1.get? b=some o)->(∀b o,h1.get? b=some o->h'.get? b=some o)->h'.get? h1.objs.size=some (seqObj "list" out.toArray c)->IntsAre out ms->ms.Perm ks->ms.Pairwise (· <= ·)->Q (.ref h1.objs.size) { s with heap:=h',toks:=tk }) :
  wpAny (model prog w) A (call (.builtin "sorted") [.ref a]) Q E s:=by
 obtain⟨ep,hat⟩:=hD.dictAt;have hvl:vs.length=ks.length:=by have:=congrArg Wbd hk;rw[Wab,Wab]at this;exact this
 refine Calls.call_function_entry kind_sorted plain_sorted entry_sorted (args_sorted1 _) ?_;unfold Builtin.«sorted»;refine wpAny_bind (m:=checkCount "sorted" 1 1 _) (wpAny_pure ?_);refine wpAny_bind (PySem.W.kdu_collect (A:=A.in1) (PySem.W.kdl_dict (knd:=mixKind prog w) (kvs:=vs) (ep:=ep) lo) hh hat (by rw[sizeLine_eq];omega) λh' tk acc hk2 hacc=>?_);have hal:acc.toList.length=ks.length:=by rw[Array.length_toList,hacc.1,hvl]
 have hI:IntsAre acc.toList ks:=by
  refine Zcx hal λi v e=>?_;have hi:i<ks.length:=by rw[<- hal];exact(Waf.mp e).1
  obtain⟨k,x,hx,hkx⟩:=hacc.2 i v (by rw[<- Array.getElem?_toList];exact e);have e1:(vs.map (·.1))[i]?=some k:=by rw[Wad,hx];rfl
  rw[hk,Wad,Waa hi]at e1;have e1:k=.inl ks[i]:=(Wa4.inj e1).symm;subst e1;have:(mixKind prog w).is (.inl ks[i]) v=true:=hkx;obtain⟨t,rfl⟩:∃t,v=Value.int ks[i] t:=by
   rw[Zli]at this;rcases Zbj this with ⟨j,t,e1,e2⟩|⟨x,t,e1,e2⟩
   ·exact⟨t,by rw[Sum.inl.inj e1];exact e2⟩
   ·cases e1
  exact⟨t,by rw[Wac,Waa hi];rfl⟩
 refine wpAny_bind (wpAny_newList ?_ (by rw[sizeLine_eq];omega));have hoL:(h'.push (seqObj "list" acc.toList.toArray 0)).get? h'.objs.size=some (seqObj "list" acc.toList.toArray 0):=Wal _ rfl;refine wpAny_bind (wpAny_holding (wpAny_call_entry slot_list_sort ⟨_,hoL,rfl⟩ entry_list_sort (list_sort_tree hoL hI (by omega) λout ms a1 a2 a3=>⟨_,rfl,?_⟩) (args_list_sort _)));obtain⟨c,hc⟩:=sortedHeap_at (out:=out) hoL;refine wpAny_pure ⟨_,rfl,h h' _ tk out.toList ms c hk2 (λb o hb=>?_) (by rw[Array.toArray_toList];exact hc) a1 a2 a3⟩;have hbl:=Wap hb;rw[sortedHeap_old (Waw hbl) (by rw[size_push'];exact Wbr hbl)];exact Wae _ hb
end
def rSortK (K:W.Frag):List V->Hp->VK->Prop:=λxs H Q=>∃(p:Addr) (kvs:List (Key × V)) (ks:List Int),xs=[.ref p]/\H p=some (.dK kvs)/\kvs.map (·.1)=ks.map .inl/\ks.length<64/\∀(l:Addr) (ms:List Int),ms.Perm ks->ms.Pairwise (· <= ·)->H l=none->Q (.ref l) (upd H l (.lst (ms.map V.int)))
theorem Zl9 {κ:Type}:∀{kvs:List (κ × V)}{vs:List (κ × Value)},KV kvs vs->vs.map (·.1)=kvs.map (·.1)
 |_,_,.nil=>rfl
 |_,_,.cons h t=>by rw[Wa3,Wa3,Zl9 t,h.1]
section
variable {X:Cx}
theorem sortKK (K:W.Frag) (hc:X.calm=true) (hK:X.K=K:=by rfl):CallR X (.builtin "sorted") (rSortK K):=by
 subst hK;intro pins s σ H xs us Q I r h;obtain⟨p,kvs,ks,rfl,hp,hks,hl,q⟩:=h;obtain⟨u,rfl,ru⟩:=vals1 r;cases (show u=Value.ref p from ru);obtain⟨hz,hS,vs,rel,dd⟩:=Zqk I.hok hp;refine Zi1 (I.ok.hd hc) hS dd ((Zl9 rel).trans hks) hl λh1 h' tk out ms c k1 k2 ho hi pm pw=>?_;have I1:Inv X pins σ H { s with heap:=h1 }:=I.kept (t':=s.toks) k1;have hml:=pm.length_eq;exact⟨.ref h1.objs.size,_,I1.laid (t':=tk) k2 (Wah _) (show ObjOk X.prog X.w _ h' _ (.lst (ms.map V.int)) from ⟨by rw[Wab];exact Wb4 (small1000 (by omega)),out,c,Zc4 hi,ho⟩),rfl,q _ ms pm pw (I1.hok.fresh (Wah _))⟩
end
section
variable {K:W.Frag}{Δ:Evt}
theorem Zo5 {ta:TA}{Po:OD->Evt->Prop}(h:JA K ta Δ λds Δ1=>∃(kds:List (Key × D)) (ks:List Int),ds=[dctD kds]/\kds.map (·.1)=ks.map .inl/\ks.length<64/\∀ms:List Int,ms.Perm ks->ms.Pairwise (· <= ·)->Po (.lst (ms.map .int)) Δ1):JO K (tCB (rSortK K) ta) Δ Po:=λg G H σ Q k c=>
 h g G H σ _ k λvs ds G1 H1 Δ1 k1 s1 r1 hq_=>by
  obtain⟨kds,ks,e,hks,hl,p⟩:=hq_;subst e;obtain⟨_,_,rfl,r,t⟩:=r1.inv;cases t.inv;obtain⟨a,us,rfl,ha,hlen,rr⟩:=r.inv;refine⟨a,_,ks,rfl,k1.live _ _ ha,?_,hl,λl ms pm pw hl=>?_⟩
  ·rw[Wdn (by omega)];exact hks
  obtain⟨k2,pd⟩:=k1.fresh (od:=.lst (ms.map .int)) hl (show OwnRep K G1 (.lst (ms.map V.int)) (.lst (ms.map .int)) from Reps.ofInts ms);exact c l _ G1 _ Δ1 k2 s1 pd (p ms pm pw)
end
end L2
set_option Elab.async false
set_option linter.all false
set_option maxRecDepth 100000
set_option maxHeartbeats 4000000
namespace Lw
open PySem L2
def top (i:Nat):Stmt:=PySem.Challenge.pw_holefloor_k77_whole_floors_alike.main.body.getD i (.Pass ⟨0,0,0,0⟩)
abbrev s_place_of:Stmt:=top 4
abbrev s_parts_of:Stmt:=top 5
abbrev s_refuse_parts:Stmt:=top 6
abbrev s_follower:Stmt:=top 8
abbrev s_alike:Stmt:=top 10
abbrev s_renamings:Stmt:=top 11
abbrev s_numbered_from:Stmt:=top 12
abbrev s_code_by:Stmt:=top 13
abbrev s_law_pen:Stmt:=top 15
abbrev s_law_draw:Stmt:=top 16
abbrev s_law_order:Stmt:=top 17
abbrev s_law_partner:Stmt:=top 18
abbrev s_law_whole:Stmt:=top 19
abbrev s_law_begun:Stmt:=top 20
abbrev s_law_same:Stmt:=top 21
abbrev s_law_one_part:Stmt:=top 22
abbrev s_law_shuffled:Stmt:=top 23
abbrev s_law_renamed:Stmt:=top 24
abbrev s_law_after:Stmt:=top 25
abbrev s_law_carried:Stmt:=top 26
abbrev s_law_renamings:Stmt:=top 27
abbrev s_law_plain_order:Stmt:=top 28
abbrev s_law_other_floor:Stmt:=top 29
abbrev s_law_is_renaming:Stmt:=top 30
abbrev s_law_right:Stmt:=top 31
abbrev s_law:Stmt:=top 32
theorem sc_place_of:FnScope ["web","end"] ["web","end"] (defScope s_place_of):=⟨rfl,rfl,rfl,by decide +kernel,rfl,by decide +kernel,by decide +kernel⟩
theorem sc_parts_of:FnScope ["web","many","ties","firsts","a","b","low","high"] ["web"] (defScope s_parts_of):=⟨rfl,rfl,rfl,by decide +kernel,rfl,by decide +kernel,by decide +kernel⟩
theorem sc_refuse_parts:FnScope ["web"] ["web"] (defScope s_refuse_parts):=⟨rfl,rfl,rfl,by decide +kernel,rfl,by decide +kernel,by decide +kernel⟩
theorem sc_follower:FnScope ["web","order","end","row"] ["web","order","end"] (defScope s_follower):=⟨rfl,rfl,rfl,by decide +kernel,rfl,by decide +kernel,by decide +kernel⟩
theorem sc_alike:FnScope ["one","order","other","its_order","told"] ["one","order","other","its_order"] (defScope s_alike):=⟨rfl,rfl,rfl,by decide +kernel,rfl,by decide +kernel,by decide +kernel⟩
theorem sc_renamings:FnScope ["one","order","other","its_order","ends","own","told","end","its_ends"] ["one","order","other","its_order"] (defScope s_renamings):=⟨rfl,rfl,rfl,by decide +kernel,rfl,by decide +kernel,by decide +kernel⟩
theorem sc_numbered_from:FnScope ["web","order","end","ends","at","come"] ["web","order","end"] (defScope s_numbered_from):=⟨rfl,rfl,rfl,by decide +kernel,rfl,by decide +kernel,by decide +kernel⟩
theorem sc_code_by:FnScope ["web","order","ends"] ["web","order","ends"] (defScope s_code_by):=⟨rfl,rfl,rfl,by decide +kernel,rfl,by decide +kernel,by decide +kernel⟩
theorem sc_law_pen:FnScope ["_law_script"] ["_law_script"] (defScope s_law_pen):=⟨rfl,rfl,rfl,by decide +kernel,rfl,by decide +kernel,by decide +kernel⟩
theorem sc_law_draw:FnScope ["_law_pen_here","_law_many","_law_digit","_law_at","_law_cell","_law_number"] ["_law_pen_here","_law_many"] (defScope s_law_draw):=⟨rfl,rfl,rfl,by decide +kernel,rfl,by decide +kernel,by decide +kernel⟩
theorem sc_law_order:FnScope ["_law_pen_here","_law_web","_law_rows","_law_k","_law_row","!0","!1","!2","!3","!4","!5","!6","!7","!8","!9","!10","!11","!12","!13","!14","!15","!16","!17","!18","!19","!20","!21","!22","!23","!24"] ["_law_pen_here","_law_web"] (defScope s_law_order):=⟨rfl,rfl,rfl,by decide +kernel,rfl,by decide +kernel,by decide +kernel⟩
theorem sc_law_partner:FnScope ["_law_end"] ["_law_end"] (defScope s_law_partner):=⟨rfl,rfl,rfl,by decide +kernel,rfl,by decide +kernel,by decide +kernel⟩
theorem sc_law_whole:FnScope ["_law_found"] ["_law_found"] (defScope s_law_whole):=⟨rfl,rfl,rfl,by decide +kernel,rfl,by decide +kernel,by decide +kernel⟩
theorem sc_law_begun:FnScope ["_law_row","_law_at"] ["_law_row"] (defScope s_law_begun):=⟨rfl,rfl,rfl,by decide +kernel,rfl,by decide +kernel,by decide +kernel⟩
theorem sc_law_same:FnScope ["_law_found","_law_due"] ["_law_found","_law_due"] (defScope s_law_same):=⟨rfl,rfl,rfl,by decide +kernel,rfl,by decide +kernel,by decide +kernel⟩
theorem sc_law_one_part:FnScope ["_law_pen_here","_law_limit","_law_count","_law_way","_law_many","_law_ties","_law_k","_law_a","_law_b"] ["_law_pen_here","_law_limit"] (defScope s_law_one_part):=⟨rfl,rfl,rfl,by decide +kernel,rfl,by decide +kernel,by decide +kernel⟩
theorem sc_law_shuffled:FnScope ["_law_pen_here","_law_many","_law_found","_law_k"] ["_law_pen_here","_law_many"] (defScope s_law_shuffled):=⟨rfl,rfl,rfl,by decide +kernel,rfl,by decide +kernel,by decide +kernel⟩
theorem sc_law_renamed:FnScope ("_law_pen_here" :: "_law_web" :: "_law_order_here" :: "_law_count" :: "_law_numbers" :: "_law_turned" :: "_law_places" :: "_law_names" :: "_law_ties" :: "_law_end" :: "_law_tie" :: "_law_rows" :: "_law_place" :: "!0" :: "!1" :: "!2" :: "!3" :: "!4" :: "!5" :: "!6" :: "!7" :: "!8" :: "!9" :: "!10" :: "!11" :: "!12" :: "!13" :: "!14" :: "!15" :: "!16" :: "!17" :: "!18" :: "!19" :: "!20" :: "!21" :: "!22" :: "!23" :: []) ["_law_pen_here","_law_web","_law_order_here"] (defScope s_law_renamed):=⟨rfl,rfl,rfl,by decide +kernel,rfl,by decide +kernel,by decide +kernel⟩
theorem sc_law_after:FnScope ["_law_order_here","_law_after_here","_law_row","_law_k"] ["_law_order_here"] (defScope s_law_after):=⟨rfl,rfl,rfl,by decide +kernel,rfl,by decide +kernel,by decide +kernel⟩
theorem sc_law_carried:FnScope ["_law_after_here","_law_its_after","_law_image","_law_names","_law_waiting","_law_end","_law_one","_law_other"] ["_law_after_here","_law_its_after","_law_image"] (defScope s_law_carried):=⟨rfl,rfl,rfl,by decide +kernel,rfl,by decide +kernel,by decide +kernel⟩
theorem sc_law_renamings:FnScope ["_law_order_here","_law_its_order","_law_after_here","_law_its_after","_law_tried"] ["_law_order_here","_law_its_order"] (defScope s_law_renamings):=⟨rfl,rfl,rfl,by decide +kernel,rfl,by decide +kernel,by decide +kernel⟩
theorem sc_law_plain_order:FnScope ["_law_pen_here","_law_web","_law_found","_law_way","_law_rows"] ["_law_pen_here","_law_web"] (defScope s_law_plain_order):=⟨rfl,rfl,rfl,by decide +kernel,rfl,by decide +kernel,by decide +kernel⟩
theorem sc_law_other_floor:FnScope ("_law_pen_here" :: "_law_web" :: "_law_order_here" :: "_law_way" :: "_law_rows" :: "_law_row" :: "_law_end" :: "_law_other" :: "!0" :: "!1" :: "!2" :: "!3" :: "!4" :: "!5" :: "!6" :: "!7" :: "!8" :: "!9" :: "!10" :: "!11" :: "!12" :: "!13" :: "!14" :: "!15" :: "!16" :: "!17" :: "!18" :: "!19" :: "!20" :: "!21" :: "!22" :: "!23" :: "!24" :: []) ["_law_pen_here","_law_web","_law_order_here"] (defScope s_law_other_floor):=⟨rfl,rfl,rfl,by decide +kernel,rfl,by decide +kernel,by decide +kernel⟩
theorem sc_law_is_renaming:FnScope ["_law_order_here","_law_its_order","_law_names","_law_after_here","_law_its_after","_law_end"] ["_law_order_here","_law_its_order","_law_names"] (defScope s_law_is_renaming):=⟨rfl,rfl,rfl,by decide +kernel,rfl,by decide +kernel,by decide +kernel⟩
theorem sc_law_right:FnScope ["_law_one","_law_other","_law_dues","_law_again","_law_found"] ["_law_one","_law_other","_law_dues"] (defScope s_law_right):=⟨rfl,rfl,rfl,by decide +kernel,rfl,by decide +kernel,by decide +kernel⟩
theorem sc_law:FnScope ["_law_script","_law_pen_here","_law_web","_law_order_here","_law_its_web","_law_its_order","_law_names","_law_other","_law_dues"] ["_law_script"] (defScope s_law):=⟨rfl,rfl,rfl,by decide +kernel,rfl,by decide +kernel,by decide +kernel⟩
def Mb (mg:Str->Option Value):Prop:=∀x∈["abs","all","bool","int","isinstance","len","list","max","min","range","set","sorted","tuple","zip"],mg x=none
local macro_rules | `(tactic| walk_at "js")=>`(tactic| first
 |with_reducible refine Zal (t:=tAsg _ _) ?_
 |with_reducible refine Zal (t:=tPar _ _ _) ?_
 |with_reducible refine Zal (t:=tDrop _) ?_
 |with_reducible refine iteF ?_
 |with_reducible refine iteT ?_
 |with_reducible refine Za1 ?_
 |with_reducible refine Zbl ?_
 |with_reducible refine Zbv ?_
 |with_reducible refine Zft ?_
 |with_reducible refine Zax ?_
 |refine Zju rfl rfl ?_
 |refine Zh4 rfl rfl ?_
 |with_reducible refine Zau ?_
 |with_reducible refine Zwg ?_
 |with_reducible refine Za3 ?_
 |with_reducible refine Zpv ?_
 |with_reducible refine Zgc ?_
 |with_reducible refine Zjc ?_
 |with_reducible refine Za9 ?_
 |with_reducible refine Zbb ?_
 |refine Zcy rfl rfl ?_
 |refine Zmh rfl rfl ?_
 |with_reducible refine Zbw ?_
 |with_reducible refine Zjg ?_
 |with_reducible refine Zuh ?_
 |with_reducible refine Zow ?_
 |with_reducible refine Zpp ?_
 |with_reducible refine Zvv ?_
 |with_reducible refine Zkw ?_
 |with_reducible refine Zhn ?_
 |with_reducible refine Zhk ?_
 |with_reducible refine Zaf ?_
 |with_reducible refine Zab ?_
 |with_reducible refine Za0 ?_
 |with_reducible refine Zrj ?_
 |with_reducible refine Zix ?_
 |with_reducible refine Zd9 ?_
 |with_reducible refine Zcw ?_
 |with_reducible refine Zbc ?_
 |with_reducible refine Zds ?_
 |with_reducible refine Zpb ?_
 |with_reducible refine Znm ?_
 |with_reducible refine Zh9 ?_
 |with_reducible refine Zhr ?_
 |with_reducible refine Zvp ?_
 |with_reducible refine Zgd ?_
 |with_reducible refine Zbu ?_
 |refine Zac rfl ?_
 |refine Zcg rfl ?_
 |refine Zb7 rfl ?_
 |refine Zb6 (Or.inl rfl) ?_
 |refine Zb6 (Or.inr rfl) ?_
 |refine Zcb (Or.inl rfl) ?_
 |refine Zcb (Or.inr rfl) ?_
 |refine Zrc (Or.inl rfl) ?_
 |refine Zrc (Or.inr rfl) ?_
 |refine Zj8 ?_
 |refine⟨⟨_,_,rfl,rfl⟩,?_⟩
 |refine⟨_,_,_,_,rfl,rfl,rfl,rfl,?_⟩
 |refine⟨_,rfl,?_⟩
 |refine jr_I (by first|(show (0:Int)<_;omega)|exact⟨by omega,by omega⟩|exact Or.inl ⟨by omega,by omega⟩|exact Or.inr ⟨by omega,by omega⟩|exact⟨by decide,by decide,by decide⟩) ?_)
local macro_rules | `(tactic| walk_at "draw")=>`(tactic| first|refine Zch rfl rfl (by assumption) (by omega) (by omega) λ_ _ _ _ _=>?_|refine⟨_,_,rfl,rfl,by assumption,_,rfl,by omega,by omega,λ_ _ _ _ _=>?_⟩)
def Pen (ps:List D):Prop:=∃(cs:List Int) (at_ num:Int),ps=[.lst (cs.map .int),.int at_,.int num]/\0<=at_/\0<=num/\cs.length<=63
def fDraw:BSp:=λps ds Post=>Pen ps/\∃m:Int,ds=[.int m]/\1<=m/\m<=100000000000000000000000000000000000000000000000000000000000/\∀r ps',Pen ps' -> 0<=r->r<m->Post (.int r) ps'
abbrev LendQ (f:BSp) (i:Nat) (P:D->Evt->Prop):List D->Evt->Prop:=λds Δ1=>∃y ps,Δ1[i]?=some y/\y.od=some (.lst ps)/\f ps ds λd ps'=>P d (Δ1.set i (y.put (.lst ps')))
theorem Zcy {K:W.Frag}{Δ:Evt}{P:D->Evt->Prop}{f:BSp}{ta:TA}{E:XK}{i:Nat}{x:Slot}{od:OD}(hx:Δ[i]?=some x) (ho:x.od=some od) (h:JA K ta Δ (LendQ f i P)):JE K (tCall (spB K f) [] E (tCons (tVar i) ta)) Δ P:=Zmh hx ho h
theorem Zch {Δ1:Evt}{i:Nat}{y:Slot}{ps:List D}{m:Int}{P:D->Evt->Prop}(hx:Δ1[i]?=some y) (ho:y.od=some (.lst ps)) (hp:Pen ps) (h1:1<=m) (h2:m<=100000000000000000000000000000000000000000000000000000000000) (h:∀r ps',Pen ps' -> 0<=r->r<m->P (.int r) (Δ1.set i (y.put (.lst ps')))) :
  LendQ fDraw i P [.int m] Δ1:=⟨y,ps,hx,ho,hp,m,rfl,h1,h2,h⟩
theorem Zn4 {K:W.Frag}{Δ:Evt}{E:XK}{i:Nat}{y:Slot}{ps:List D}{m:Int}{P:D->Evt->Prop}(hx:Δ[i]?=some y) (ho:y.od=some (.lst ps)) (hp:Pen ps) (h1:1<=m) (h2:m<=100000000000000000000000000000000000000000000000000000000000) (h:∀r ps',Pen ps' -> 0<=r->r<m->P (.int r) (Δ.set i (y.put (.lst ps')))) :
  JE K (tCall (spB K fDraw) [] E (tCons (tVar i) (tCons (tC (.int m)) tNil))) Δ P:=Zcy hx ho (Zab (Za3 (Zaf (Zch hx ho hp h1 h2 h))))
section
variable {P:Program}{w:World}{K:W.Frag}{mg:Str->Option Value}{base:Heap}{f:Addr}{fd:FuncData}
theorem Zsi (mb:Mb mg) (F:Fun K "_law_draw" "_law_draw" s_law_draw f fd):FnOk P w K mg base CX0 1 f fd ["_law_pen_here","_law_many"] (spB K fDraw):=by
 refine F.ok sc_law_draw (Zd4 λps ds Post h=>by obtain⟨_,m,rfl,_⟩:=h;rfl) (λcdv A outer s H vs Q E hr h=>?_);have hu:=Zb9 hr;refine⟨_,(Zae (Zbq (Zaq Zp5 (Zar (ixK K hu) (pv 0) Zag (λ_ _=>rfl)) Zag (nomark _)) (Zae (Zap (i:=2) sc_law_draw.nd rfl (Or.inl rfl) (Zaw Zca (Zar (ixK K hu) (pv 0) Zag (λ_ _=>rfl)) (pv 1))) (Zae (Zee (Zaw Zhe (Zar (ixK K hu) (pv 0) Zag (λ_ _=>rfl)) (pv 1)) (Zf7 (pv 0) Zag (setU hu))) (Zah (Zav (pv 2))))) Zay) (Zae (Zap (i:=3) sc_law_draw.nd rfl (Or.inl rfl) (Zar (ixK K hu) (pv 0) Zag (λ_ _=>rfl))) (Zae (Zee (Zaw (addK K) (pv 3) Zag) (Zf7 (pv 0) Zag (setU hu))) (Zae (Zap (i:=4) sc_law_draw.nd rfl (Or.inl rfl) Zag) (Zae (Zbq (Zaq Zp5 (Zai (lenK K) rfl (mb "len" (by decide)) Za7 (Zaa (Zar (ixK K hu) (pv 0) Zag (λ_ _=>rfl)) Zad)) Zag (nomark _)) (Zah (Zap (i:=4) sc_law_draw.nd rfl (Or.inl rfl) (Zar (ixK K hu) (Zar (ixK K hu) (pv 0) Zag (λ_ _=>rfl)) (Zaw Zca (pv 3) (Zai (lenK K) rfl (mb "len" (by decide)) Za7 (Zaa (Zar (ixK K hu) (pv 0) Zag (λ_ _=>rfl)) Zad))) (λ_ _=>rfl)))) Zay) (Zae (Zbq (PW.pt (pw_and (Zaq Ztx (pv 3) (Zai (lenK K) rfl (mb "len" (by decide)) Za7 (Zaa (Zar (ixK K hu) (pv 0) Zag (λ_ _=>rfl)) Zad)) (nomark _)) (pw_and1 (Zaq Zwd (Zai Zg2 rfl (mb "abs" (by decide)) Zn1 (Zaa (pv 4) Zad)) (Zaw Zu6 Zag Zag) (nomark _))))) (Zae (Zee (Zaw Zhe (Zai Zg2 rfl (mb "abs" (by decide)) Zn1 (Zaa (pv 4) Zad)) (pv 1)) (Zf7 (pv 0) Zag (setU hu))) (Zah (Zav (Zaw Zca (Zai Zg2 rfl (mb "abs" (by decide)) Zn1 (Zaa (pv 4) Zad)) (pv 1))))) Zay) (Zae (Zap (i:=5) sc_law_draw.nd rfl (Or.inl rfl) (Zaw Zca (Zaw Zdp (Zaw (addK K) (Zaw (addK K) (Zaw Zca (pv 4) Zag) (Zaw Zdp Zag (pv 3))) Zag) Zag) Zag)) (Zae (Zap (i:=5) sc_law_draw.nd rfl (Or.inl rfl) (Zaw Zca (Zaw (addK K) (Zaw (addK K) (Zaw Zdp (pv 5) (pv 5)) (Zaw Zdp Zag (pv 5))) (pv 3)) Zag)) (Zah (Zav (Zaw Zca (Zaw Zhe (Zaw Zca (Zaw Zdp (pv 5) Zag) Zag) Zag) (pv 1)))))))))))),Zjp (λps ds Post hf=>?_) h⟩;obtain⟨⟨cs,at_,num,rfl,h1,h2,h3⟩,m,rfl,h4,h5,q⟩:=hf;refine⟨by simp,?_⟩;dsimp only[cxOf,startD,Wbt,Wbp,Wbd,Waj];refine Zbe (λΔ=>¬ 0<num /\ Δ = [.bor (.lst [.lst (cs.map .int),.int at_,.int num]),.val (.int m),.any,.any,.any,.any]) ?_ ?_
 ·repeat walk_at "js"
  refine ite2 (λc=>?_) (λc=>?_)
  ·have c:=of_decide_eq_true c
   repeat walk_at "js"
   exact q _ _ ⟨cs,at_,num / m,rfl,h1,Int.ediv_nonneg h2 (by omega),h3⟩ (Wdw _ (by omega)) (Wdg _ (by omega))
  ·repeat walk_at "js"
   exact⟨of_decide_eq_false (Wdj.mpr c),rfl⟩
 rintro Δ1 ⟨hn,rfl⟩
 repeat walk_at "js"
 refine Zbe (λΔ=>∃c:Int,Δ = [.bor (.lst [.lst (cs.map .int),.int (at_+1),.int num]),.val (.int m),.any,.val (.int at_),.val (.int c),.any]) ?_ ?_
 ·repeat walk_at "js"
  refine ite2 (λc=>?_) (λc=>?_)
  ·have c:=of_decide_eq_true c
   rw[Wab]at c
   repeat walk_at "js"
   rw[Wab]
   repeat walk_at "js"
   obtain⟨cell,_,hc⟩:=Znx (f:=D.int) (xs:=cs) (i:=at_ % (cs.length:Int)) (Wdw _ (by omega)) (Wdg _ (by omega));refine Zb7 hc ?_;exact⟨cell,rfl⟩
  ·repeat walk_at "js"
   exact⟨11,rfl⟩
 rintro Δ1 ⟨cell,rfl⟩;refine Zbe (λΔ=>Δ = [.bor (.lst [.lst (cs.map .int),.int (at_+1),.int num]),.val (.int m),.any,.val (.int at_),.val (.int cell),.any]) ?_ ?_
 ·repeat walk_at "js"
  refine ite2 (λc=>?_) (λc=>?_)
  ·repeat walk_at "js"
   refine ite2 (λc=>?_) (λc=>?_)
   ·repeat walk_at "js"
    have ha:0<=(if cell<0 then -cell else cell):=by split <;> omega
    exact q _ _ ⟨cs,at_+1,_,rfl,by omega,Int.ediv_nonneg ha (by omega),h3⟩ (Wdw _ (by omega)) (Wdg _ (by omega))
   ·repeat walk_at "js"
    rfl
  ·repeat walk_at "js"
   rfl
 rintro Δ1 rfl
 repeat walk_at "js"
 exact q _ _ ⟨cs,at_+1,num,rfl,by omega,h2,h3⟩ (Wdw _ (by omega)) (Wdg _ (by omega))
end
def fPen:NSp:=λds Post=>∃ns:List Int,ds=[.scr (ns.map .int)]/\ns.length<=63/\∀ps,Pen ps->Post ps
section
variable {P:Program}{w:World}{K:W.Frag}{mg:Str->Option Value}{base:Heap}{f:Addr}{fd:FuncData}
theorem Zvl (mb:Mb mg) (F:Fun K "_law_pen" "_law_pen" s_law_pen f fd):FnOk P w K mg base CX0 1 f fd ["_law_script"] (spN K fPen):=by
 refine F.ok sc_law_pen (Zfw λds Post h=>by obtain⟨ns,rfl,_⟩:=h;rfl) (λcdv A outer s H vs Q E hr h=>?_);have hu:=Zb9 hr;refine⟨_,(Zah (Zav (Zb4 (Zaa (Zbd ["_law_cell"] (show CompSc (defScope s_law_pen) ["_law_script"] _ [] [] from ⟨rfl,by decide +kernel,by decide +kernel,by decide +kernel,rfl,by decide +kernel⟩) rfl (seqK K (Ze9 (slK K) (pv 0) Zg7 (Zek Zag))) (λ_ _ _ _ _=>(Zaj (i:=0) (show List.Nodup (["_law_cell"]:List Str) from by decide) rfl (Or.inl rfl))) (λ_ _ _ _ _=>Zba) (λ_ _ _ _ _=>(pv 0))) (Zaa Zag (Zaa Zag Zad)))))),Zn0 (λds Post hf=>?_) h⟩;obtain⟨ns,rfl,h1,q⟩:=hf;refine⟨by simp,?_⟩;dsimp only[cxOf,startD,Wbt,Wbp,Wbd,Waj];refine Zde (Zdk (Zab (Zbi (by decide) (Zc3 ?_))))
 repeat walk_at "js"
 have e:cutD (ns.map D.int) none (some 63)=ns.map D.int:=by
  unfold cutD;have e1:HT.sIx (ns.map D.int).length 0 none=0:=rfl;have e2:HT.sIx (ns.map D.int).length (ns.map D.int).length (some 63)=ns.length:=by
   rw[Wab];show min (Int.toNat 63) ns.length=_;omega
  rw[e1,e2,List.drop_zero,Wd9,Wcs (by simp)]
 rw[e];refine⟨_,Or.inl rfl,by rw[Wab];exact Wcu h1 (by decide),λ_=>true,λd=>d,λi d hd=>?_,?_⟩
 ·repeat walk_at "js"
  exact⟨rfl,Zac rfl ⟨rfl,_,rfl⟩⟩
 ·repeat walk_at "js"
  refine⟨by show 3<=sizeLine;decide,_,rfl,q _ ⟨ns,0,0,?_,by decide,by decide,h1⟩⟩;simp
end
def encTie (t:Int × Int):D:=.tup [.int t.1,.int t.2]
def encWeb (n:Int) (ts:List (Int × Int)):D:=.tup [.int n,.tup (ts.map encTie)]
structure WebOk (n:Int) (ts:List (Int × Int)):Prop where
 lo:1<=n
 hi:n<=25
 len:ts.length<=24
 tie:∀t∈ts,0<=t.1/\t.1<n/\0<=t.2/\t.2<n
theorem Ze2 {K:W.Frag}{Δ:Evt}{i:Nat}{v c:Int}{P:Bool->Evt->Prop}(hx:Δ[i]?=some (.val (.int v))) (h1:v=c->P true Δ) (h2:¬ v=c->P false Δ):JT K (tTest (tOp rEq (tVar i) (tC (.int c)))) Δ P:=
 Za0 (Zau (Zac hx (Za3 (Zh9 ⟨_,rfl,by
  by_cases h:v=c
  ·rw[decide_eq_true h];exact h1 h
  ·rw[decide_eq_false h];exact h2 h⟩))))
def placeAt (ts:List (Int × Int)) (e:Nat):Int:=match ts[e / 2]? with
 |some t=>if e % 2=0 then t.1 else t.2
 |none=>-1
def encRow (r:List Int):D:=.tup (r.map .int)
def encOrd (o:List (List Int)):D:=.tup (o.map encRow)
def endsBelow (ts:List (Int × Int)) (m:Nat) (p:Int):List Int:=((Wau m).filter λe=>decide (placeAt ts e=p)).map λe:Nat=>(e:Int)
structure RowOk (ts:List (Int × Int)) (m:Nat) (p:Int) (r:List Int):Prop where
 perm:r.Perm (endsBelow ts m p)
 first:r.head?=(endsBelow ts m p).head?
structure OrdOk (n:Int) (ts:List (Int × Int)) (o:List (List Int)):Prop where
 len:(o.length:Int)=n
 row:∀(p:Nat) r,o[p]?=some r->RowOk ts (2*ts.length) (p:Int) r
theorem Zdz (ts:List (Int × Int)) (k:Nat) (p:Int):endsBelow ts (k+1) p=endsBelow ts k p++(if placeAt ts k=p then [(k:Int)] else []):=by
 unfold endsBelow;rw[List.range_succ,Wcc,Wa1];congr 1;by_cases h:placeAt ts k=p
 ·simp[Wb7,h]
 ·simp[Wb7,h]
theorem Zhy (ts:List (Int × Int)) (m:Nat) (p:Int):(endsBelow ts m p).length<=m:=by
 unfold endsBelow;rw[Wab];exact Wbu (Wcw _ _) (by rw[Wbe];exact Wah _)
theorem RowOk.len {ts:List (Int × Int)}{m:Nat}{p:Int}{r:List Int}(h:RowOk ts m p r):r.length<=m:=by rw[h.perm.length_eq];exact Zhy ts m p
theorem RowOk.stay {ts:List (Int × Int)}{k:Nat}{p:Int}{r:List Int}(h:RowOk ts k p r) (hp:placeAt ts k≠p):RowOk ts (k+1) p r:=by
 have e:=Zdz ts k p;rw[if_neg hp,Wbk]at e;exact⟨by rw[e];exact h.perm,by rw[e];exact h.first⟩
theorem RowOk.put {ts:List (Int × Int)}{k j:Nat}{p:Int}{r:List Int}(h:RowOk ts k p r) (hp:placeAt ts k=p) (hj:j<=r.length) (h1:r≠[]->1<=j):RowOk ts (k+1) p (r.take j++(k:Int)::r.drop j):=by
 have e:=Zdz ts k p;rw[if_pos hp]at e;refine⟨?_,?_⟩
 ·rw[e]
  refine List.perm_middle.trans ?_;rw[Wb9];exact(List.Perm.cons _ h.perm).trans (List.perm_append_singleton _ _).symm
 ·rw[e]
  cases r with
  |nil=>
   have z:endsBelow ts k p=[]:=List.Perm.eq_nil h.perm.symm;rw[z];have:j=0:=by simpa using hj
   subst this;rfl
  |cons x r'=>
   have h2:=h1 (by simp);obtain⟨j',rfl⟩:∃j',j=j'+1:=⟨j-1,by omega⟩;have h3:=h.first;show some x=_;cases q:endsBelow ts k p with
   |nil=>rw[q]at h3;cases h3
   |cons y l=>rw[q]at h3;exact h3
theorem Zok {ts:List (Int × Int)}{k:Nat}(h:k<2*ts.length):∃t,ts[k / 2]?=some t/\atI (ts.map encTie) ((0+(k:Int)) / 2)=some (encTie t)/\atI [D.int t.1,D.int t.2] ((0+(k:Int)) % 2)=some (.int (placeAt ts k)):=by
 have hk:k / 2<ts.length:=by omega
 refine⟨ts[k / 2],Waa hk,?_,?_⟩
 ·have e:(0+(k:Int)) / 2=((k / 2:Nat):Int):=by omega
  rw[e];exact Zbk (by rw[Wad,Waa hk];rfl)
 ·have e2:placeAt ts k=if k % 2=0 then ts[k / 2].1 else ts[k / 2].2:=by
   unfold placeAt;rw[Waa hk]
  rw[e2];have e:(0+(k:Int)) % 2=((k % 2:Nat):Int):=by omega
  rw[e];by_cases h0:k % 2=0
  ·rw[if_pos h0,h0];exact Zbk rfl
  ·have h1:k % 2=1:=by omega
   rw[if_neg h0,h1];exact Zbk rfl
theorem Zci {n:Int}{ts:List (Int × Int)}(hW:WebOk n ts) {k:Nat}(h:k<2*ts.length):0<=placeAt ts k/\placeAt ts k<n:=by
 have hk:k / 2<ts.length:=by omega
 have:=hW.tie _ (Wa7 hk);unfold placeAt;rw[Waa hk];dsimp only;split <;> omega
def fOrder:BSp:=λps ds Post=>Pen ps/\∃n ts,ds=[encWeb n ts]/\WebOk n ts/\∀o ps',Pen ps' -> OrdOk n ts o->Post (encOrd o) ps'
theorem Zo7 {Δ1:Evt}{i:Nat}{y:L2.Slot}{ps:List D}{n:Int}{ts:List (Int × Int)}{P:D->Evt->Prop}(hx:Δ1[i]?=some y) (ho:y.od=some (.lst ps)) (hp:Pen ps) (hW:WebOk n ts) (h:∀o ps',Pen ps' -> OrdOk n ts o->P (encOrd o) (Δ1.set i (y.put (.lst ps')))) :
  LendQ fOrder i P [encWeb n ts] Δ1:=⟨y,ps,hx,ho,hp,n,ts,rfl,hW,h⟩
def oSt (ps:List D) (n:Int) (ts:List (Int × Int)) (cs:List (Addr × List Int)) (x3 x4:L2.Slot):Evt:=.bor (.lst ps)::.val (encWeb n ts)::.val (.lst (cs.map λc=>D.adr c.1))::x3::x4::(cs.map (λc=>L2.Slot.ownA c.1 (.lst (c.2.map D.int)))++Waj (25-n.toNat) .any)
def oP (n:Int) (ts:List (Int × Int)) (k:Nat):Evt->Prop:=λΔ=>∃(ps:List D) (cs:List (Addr × List Int)) (x3 x4:L2.Slot),Pen ps/\cs.length=n.toNat/\(∀(p:Nat) c,cs[p]?=some c->RowOk ts k (p:Int) c.2) /\ Δ = oSt ps n ts cs x3 x4
theorem Zmg {n:Int}{ts:List (Int × Int)}{ps:List D}{as:List Addr}(hn2:n<=25) (hal:as.length=(Wbp (λ_=>OD.lst []) ((rngD 0 n.toNat).filter λ_=>true)).length):∃cs:List (Addr × List Int),cs.length=n.toNat/\(∀(p:Nat) c,cs[p]?=some c->c.2=[]) ∧
  L2.putN 5 (as.zip (Wbp (λ_=>OD.lst []) ((rngD 0 n.toNat).filter λ_=>true))) ([.bor (.lst ps),.val (encWeb n ts),.val (.lst (as.map D.adr)),.any,.any]++Waj 25 .any)=oSt ps n ts cs .any .any:=by
 have eR:(rngD 0 n.toNat).filter (λ_=>true)=rngD 0 n.toNat:=by simp
 rw[eR,Wab,Zaz]at hal;have eO:(rngD 0 n.toNat).map (λ_=>OD.lst [])=Waj n.toNat (OD.lst []):=by
  rw[Wdu,Zaz]
 rw[eR,eO];generalize hcs:as.map (λa=>((a,[]):Addr × List Int))=cs;have hcl:cs.length=n.toNat:=by rw[<- hcs,Wab,hal]
 have e1:as.map D.adr=cs.map λc=>D.adr c.1:=by rw[<- hcs,Wan];rfl
 have e2:as.zip (Waj n.toNat (OD.lst []))=cs.map λc=>(c.1,OD.lst (c.2.map D.int)):=by
  rw[<- hcs,Wan,<- hal];clear e1 hcl hcs hal
  induction as with
  |nil=>rfl
  |cons a r ih=>rw[War,Wdz,Wci,ih];rfl
 have e3:=Zi0 (cs.map λc=>(c.1,OD.lst (c.2.map D.int))) [.bor (.lst ps),.val (encWeb n ts),.val (.lst (cs.map λc=>D.adr c.1)),.any,.any] [] 25 (by rw[Wab];omega);rw[Wbk,Wbk,Wan,Wab,hcl]at e3;refine⟨cs,hcl,λp c hc=>?_,by rw[e1,e2];exact e3⟩;rw[<- hcs,Wad]at hc;cases q:as[p]? with
 |none=>rw[q]at hc;cases hc
 |some a=>rw[q]at hc;cases hc;rfl
theorem Zvi {ps:List D}{n:Int}{ts:List (Int × Int)}{cs:List (Addr × List Int)}{x3 x4:L2.Slot}{p:Nat}{c:Addr × List Int}(h:cs[p]?=some c):(oSt ps n ts cs x3 x4)[p+5]?=some (.ownA c.1 (.lst (c.2.map D.int))):=by
 show (cs.map (λc=>L2.Slot.ownA c.1 (.lst (c.2.map D.int)))++Waj (25-n.toNat) .any)[p]?=_;rw[Wbc (by rw[Wab];exact(Waf.mp h).1),Wad,h];rfl
theorem Zr0 {ps ps':List D}{n:Int}{ts:List (Int × Int)}{cs:List (Addr × List Int)}{x3 x4:L2.Slot}{p:Nat}{c:Addr × List Int}{r:List Int}{v:L2.Slot}(h:cs[p]?=some c) (hv:v=.ownA c.1 (.lst (r.map D.int))):(oSt ps n ts cs x3 x4).set (p+5) v=oSt ps n ts (cs.set p (c.1,r)) x3 x4:=by
 have hp:=(Waf.mp h).1;have ea:(cs.set p (c.1,r)).map (λc=>D.adr c.1)=cs.map λc=>D.adr c.1:=by
  rw[Wde];apply Wb3;intro i;by_cases hii:i=p
  ·subst hii
   rw[Wai (by rw[Wab];exact hp),Wad,h];rfl
  ·rw[Wam (Ne.symm hii)]
 unfold oSt;rw[ea,Wde,hv,<- Wdx _ _ (by rw[Wab];exact hp)];rfl
section
variable {P:Program}{w:World}{K:W.Frag}{mg:Str->Option Value}{base:Heap}{f:Addr}{fd:FuncData}
theorem Zql (mb:Mb mg) (C29:Callee P w K mg base 1 "_law_draw" ["_law_pen_here","_law_many"] (spB K fDraw)) (F:Fun K "_law_order" "_law_order" s_law_order f fd):FnOk P w K mg base CX0 2 f fd ["_law_pen_here","_law_web"] (spB K fOrder):=by
 refine F.ok sc_law_order (Zd4 λps ds Post h=>by obtain⟨_,n,ts,rfl,_⟩:=h;rfl) (λcdv A outer s H vs Q E hr h=>?_);have hu:=Zb9 hr;refine⟨_,(Zae (Zhu 5 (show ∀x∈(["_law_pen_here","_law_web","_law_rows","_law_k","_law_row","!0","!1","!2","!3","!4","!5","!6","!7","!8","!9","!10","!11","!12","!13","!14","!15","!16","!17","!18","!19","!20","!21","!22","!23","!24"]:List Str).drop 5,(defScope s_law_order).names.lookup x=none from by decide +kernel) (Zdy (i:=2) ["_law_place"] (show CompSc (defScope s_law_order) ["_law_pen_here","_law_web","_law_rows","_law_k","_law_row","!0","!1","!2","!3","!4","!5","!6","!7","!8","!9","!10","!11","!12","!13","!14","!15","!16","!17","!18","!19","!20","!21","!22","!23","!24"] _ [] [] from ⟨rfl,by decide +kernel,by decide +kernel,by decide +kernel,rfl,by decide +kernel⟩) rfl sc_law_order.nd rfl (Or.inl rfl) (Za6 rfl (mb "range" (by decide)) (Zaa (Zar (ixK K hu) (pv 1) Zag (λ_ _=>rfl)) Zad)) (λ_ _ _ _ _=>(Zaj (i:=0) (show List.Nodup (["_law_place"]:List Str) from by decide) rfl (Or.inl rfl))) (λ_ _ _ _ _=>Zba) (λ_ _ _ _ _=>(Zb4 Zad)))) (Zae (Zcu PassesOwn.never rfl (Za6 rfl (mb "range" (by decide)) (Zaa (Zaw Zdp Zag (Zai (lenK K) rfl (mb "len" (by decide)) Za7 (Zaa (Zar (ixK K hu) (pv 1) Zag (λ_ _=>rfl)) Zad))) Zad)) (Zaj (i:=3) sc_law_order.nd rfl (Or.inl rfl)) (Zae (Zap (i:=4) sc_law_order.nd rfl (Or.inl rfl) (Zar (ixK K hu) (pv 2) (Zar (ixK K hu) (Zar (ixK K hu) (Zar (ixK K hu) (pv 1) Zag (λ_ _=>rfl)) (Zaw Zep (pv 3) Zag) (λ_ _=>rfl)) (Zaw Zca (pv 3) Zag) (λ_ _=>rfl)) (λ_ _=>rfl))) (Zah (Zdi (bmK K PySem.F.plainAttrs_list PySem.F.slot_list_insert PySem.F.type_list_insert Zeg (pv 4) (Zaa (Zai (Zfr rfl) rfl (mb "min" (by decide)) Zkt (Zaa (Zai (lenK K) rfl (mb "len" (by decide)) Za7 (Zaa (pv 4) Zad)) (Zaa (Zaw (addK K) Zag (Za2 C29 (hr.mono (by decide)) (Zaa (pv 0) (Zaa (Zai (Zfm rfl) rfl (mb "max" (by decide)) Zni (Zaa Zag (Zaa (Zai (lenK K) rfl (mb "len" (by decide)) Za7 (Zaa (pv 4) Zad)) Zad))) Zad)))) Zad))) (Zaa (pv 3) Zad))))))) (Zah (Zav (Za8 (tupK K) rfl (mb "tuple" (by decide)) Zbg (Zaa (Zbd ["_law_row"] (show CompSc (defScope s_law_order) ["_law_pen_here","_law_web","_law_rows","_law_k","_law_row","!0","!1","!2","!3","!4","!5","!6","!7","!8","!9","!10","!11","!12","!13","!14","!15","!16","!17","!18","!19","!20","!21","!22","!23","!24"] _ [] [] from ⟨rfl,by decide +kernel,by decide +kernel,by decide +kernel,rfl,by decide +kernel⟩) rfl (seqK K (pv 2)) (λ_ _ _ _ _=>(Zaj (i:=0) (show List.Nodup (["_law_row"]:List Str) from by decide) rfl (Or.inl rfl))) (λ_ _ _ _ _=>Zba) (λ_ _ _ _ _=>(Za8 (tupK K) rfl (mb "tuple" (by decide)) Zbg (Zaa (pv 0) Zad)))) Zad)))))),Zjp (λps ds Post hf=>?_) h⟩;obtain⟨hp,n,ts,rfl,hW,q⟩:=hf;refine⟨by simp,?_⟩;dsimp only[cxOf,startD,Wbt,Wbp,Wbd];have hn:=hW.lo;have hn2:=hW.hi;have hts:=hW.len
 -- the rows
 refine Zal (Zjd (Zg5 (by decide) (Za5 ?_)));refine Zab (Zau (Zac rfl (Za3 (Zcg (d:=.int n) rfl (Zaf ⟨n,rfl,by omega,by omega,?_⟩)))));refine⟨by rw[Zaz];exact small1000 (by omega),λ_=>true,λ_=>.lst [],λi d hd=>?_,by decide,?_,λas hal hnd=>?_⟩
 ·exact Zbc ⟨rfl,Zdk (Zaf ⟨by decide,rfl,_,rfl⟩)⟩
 ·rw[Wab]
  have e:((rngD 0 n.toNat).filter λ_=>true).length<=25:=Wbu (Wcw _ _) (by rw[Zaz];omega);show 5+_<=30;omega
 obtain⟨cs,hcl,hce,e⟩:=Zmg (ps:=ps) (ts:=ts) hn2 hal;refine Eq.mpr (congrArg (λΔ=>JS K _ Δ _) e) ?_
 -- the loop
 refine Zbe (oP n ts (2*ts.length)) ?_ ?_
 ·refine Zcv (Za5 (Zab (Zbn (Zcc Zbh (Zfo (Zb1 (ds:=[.int n,.tup (ts.map encTie)]) rfl rfl)) (pr_I (Or.inl ⟨by decide,by decide⟩))) (Zaf ⟨_,rfl,?_,?_,?_⟩))))
  ·rw[Wab];omega
  ·rw[Wab];omega
  have eL:((2:Int)*((ts.map encTie).length:Int)).toNat=2*ts.length:=by rw[Wab];omega
  refine⟨oP n ts,⟨ps,cs,.any,.any,hp,hcl,λp c hc=>by rw[hce p c hc];exact⟨List.Perm.refl _,rfl⟩,rfl⟩,?_,λΔ h=>by rw[Zaz,eL]at h;exact h⟩
  ·rintro k d Δ2 hd ⟨ps,cs,x3,x4,hp,hcl,hrow,rfl⟩
   rw[eL]at hd;obtain⟨hk,rfl⟩:=Zbo hd;obtain⟨t,ht1,ht2,ht3⟩:=Zok hk;obtain⟨pl0,pl1⟩:=Zci hW hk;obtain⟨c,hc1,hc2⟩:=Znx (f:=λc:Addr × List Int=>D.adr c.1) (xs:=cs) (i:=placeAt ts k) pl0 (by omega);have hR:=hrow _ c hc1;have hRl:=hR.len;have ep:((placeAt ts k).toNat:Int)=placeAt ts k:=Wb8 pl0;have hsl:∀(ps:List D) (x3 x4:L2.Slot),(oSt ps n ts cs x3 x4)[(placeAt ts k).toNat+5]?=some (.ownA c.1 (.lst (c.2.map D.int))):=λps x3 x4=>Zvi hc1;have hlen:(c.2.map D.int).length=c.2.length:=Wab _;refine Zbu (Zal (Zax (Zbn (Zdm (d:=.adr c.1) (Zak rfl) (Zec (Zec (Zb1 (d:=.tup (ts.map encTie)) rfl rfl) (Zcc (Zak rfl) Zbh (pr_I ⟨by decide,by decide⟩)) ht2) (Zcc (Zak rfl) Zbh (pr_I (by show (0:Int)<2;decide))) ht3) hc2) ?_)));refine Znn (a:=c.1) rfl (hsl ps _ _) ?_;refine Za9 (Zab (Zhw rfl (hsl ps _ _) (Zab (Zau (Za3 (Zcy rfl rfl (Zab (Za9 (Zab (Za3 (Zab (Zhw rfl (hsl ps _ _) (Zaf (Zgd (Zaf ?_)))))))))))))));refine Zch rfl rfl hp (by split <;> omega) (by split <;> omega) λr ps' hp' hr0 hr1=>?_
   refine Zds (Zaf (Zgd (Zac rfl ⟨_,_,_,rfl,hsl ps' _ _,by rw[hlen];exact small1000 (by omega),by split <;> omega,by split <;> omega,?_⟩)))
   generalize hi:insI (c.2.map D.int).length (if 1+r<((c.2.map D.int).length:Int) then 1+r else ((c.2.map D.int).length:Int))=j;have hj:j<=c.2.length/\(c.2≠[]->1<=j):=by
    rw[<- hi,hlen];unfold insI;refine⟨?_,λh=>?_⟩
    ·split <;> split <;> omega
    ·have:=Wd1.mpr h
     split <;> split <;> omega
   refine⟨ps',cs.set (placeAt ts k).toNat (c.1,c.2.take j++(k:Int)::c.2.drop j),.val (.int (0+(k:Int))),.val (.adr c.1),hp',by rw[Wby];exact hcl,λp c' hc'=>?_,Zr0 (ps:=ps') (ps':=ps') hc1 ?_⟩
   ·by_cases hpp:p=(placeAt ts k).toNat
    ·subst hpp
     rw[Wai (by omega)]at hc';cases hc';exact hR.put (by omega) hj.1 hj.2
    ·rw[Wam (Ne.symm hpp)]at hc'
     exact(hrow p c' hc').stay (by omega)
   ·rw[Wa1,Wda,Wa3,Wdb,Wbm]
 -- the end
 rintro Δ1 ⟨ps3,cs3,x3,x4,hp3,hcl3,hrow3,rfl⟩;refine JS.conv (Δ':=.bor (.lst ps3)::.val (encWeb n ts)::.val (.lst (cs3.map λc=>D.lst (c.2.map D.int)))::x3::x4::(Waj cs3.length .any++Waj (25-n.toNat) .any)) (λg G H σ k=>?_) ?_
 ·have:=Ok.thaw (cs:=cs3.map λc=>(c.1,c.2.map D.int)) (R:=[.bor (.lst ps3),.val (encWeb n ts),.val (.lst (cs3.map λc=>D.adr c.1)),x3,x4]) (T:=Waj (25-n.toNat) .any) (i:=2) (g:=g) (G:=G) (H:=H) (σ:=σ) (K:=K) (by rw[Wan];exact k) (by rw[Wan];rfl)
  rw[Wan,Wab]at this;exact this
 refine Zbl (Za9 (Zab (Zbi (by decide) (Zc3 (Zac rfl ⟨_,Or.inl rfl,?_,λ_=>true,λd=>match d with|.lst ds=>.tup ds|d=>d,λi d hd=>?_,?_⟩)))))
 ·rw[Wab];exact small1000 (by omega)
 ·rw[Wad]at hd
  cases q:cs3[i]? with
  |none=>rw[q]at hd;cases hd
  |some c=>
   rw[q]at hd;have hd:D.lst (c.2.map D.int)=d:=by simpa using hd
   subst hd;exact Zbc ⟨rfl,Za9 (Zab (Zac rfl (Zaf (Zcb (Or.inl rfl) ⟨rfl,_,rfl⟩))))⟩
 ·refine Zaf (Zcb (Or.inl rfl) ⟨ps3,rfl,?_⟩)
  have e:((cs3.map λc=>D.lst (c.2.map D.int)).filter λ_=>true).map (λd=>match d with|.lst ds=>D.tup ds|d=>d)=(cs3.map (·.2)).map encRow:=by
   rw[Wa5.mpr (by simp),Wan,Wan];rfl
  rw[e];exact q _ _ hp3 ⟨by rw[Wab];omega,λp r hr=>by
   rw[Wad]at hr;cases z:cs3[p]? with
   |none=>rw[z]at hr;cases hr
   |some c=>rw[z]at hr;cases hr;exact hrow3 p c z⟩
end
def nextIn (r:List Int) (x:Int):Int:=r.getD ((r.idxOf x+1) % r.length) 0
def rowAt (ts:List (Int × Int)) (o:List (List Int)) (e:Nat):List Int:=o.getD (placeAt ts e).toNat []
def turnRow (r:List Int):List Int:=r.take 1++(r.drop 1).reverse
def partner (e:Nat):Nat:=if e % 2=0 then e+1 else e-1
theorem Zlu {e m:Nat}(h:e<2*m):partner e<2*m:=by unfold partner;split <;> omega
theorem Zg8 {ts:List (Int × Int)}{m:Nat}{p x:Int}:x∈endsBelow ts m p ↔ ∃e:Nat,e<m/\placeAt ts e=p/\(e:Int)=x:=by
 unfold endsBelow;rw[Wav];constructor
 ·rintro⟨e,he,rfl⟩
  rw[Wbx,Wa2]at he;exact⟨e,he.1,of_decide_eq_true he.2,rfl⟩
 ·rintro⟨e,h1,h2,rfl⟩
  exact⟨e,by rw[Wbx,Wa2];exact⟨h1,decide_eq_true h2⟩,rfl⟩
theorem Zfs (ts:List (Int × Int)) (m:Nat) (p:Int):(endsBelow ts m p).Nodup:=by
 unfold endsBelow;refine List.Pairwise.map _ (λa b h=>?_) (List.Pairwise.filter _ List.nodup_range);intro e;exact h (by omega)
theorem RowOk.nodup {ts:List (Int × Int)}{m:Nat}{p:Int}{r:List Int}(h:RowOk ts m p r):r.Nodup:=h.perm.nodup_iff.mpr (Zfs ts m p)
theorem RowOk.mem {ts:List (Int × Int)}{m:Nat}{p x:Int}{r:List Int}(h:RowOk ts m p r):x∈r ↔ ∃e:Nat,e<m/\placeAt ts e=p/\(e:Int)=x:=h.perm.mem_iff.trans Zg8
theorem RowOk.turn {ts:List (Int × Int)}{m:Nat}{p:Int}{r:List Int}(h:RowOk ts m p r):RowOk ts m p (turnRow r):=by
 refine⟨List.Perm.trans ?_ h.perm,?_⟩
 ·unfold turnRow
  exact(List.Perm.append_left _ (List.reverse_perm _)).trans (by rw[Wb9])
 ·rw[<- h.first]
  unfold turnRow;cases r with
  |nil=>rfl
  |cons x r=>rfl
theorem OrdOk.turn {n:Int}{ts:List (Int × Int)}{o:List (List Int)}(h:OrdOk n ts o):OrdOk n ts (o.map turnRow):=by
 refine⟨by rw[Wab];exact h.len,λp r hr=>?_⟩;rw[Wad]at hr;cases q:o[p]? with
 |none=>rw[q]at hr;cases hr
 |some r'=>rw[q]at hr;cases hr;exact(h.row p r' q).turn
theorem Zce {n:Int}{ts:List (Int × Int)}{o:List (List Int)}(hW:WebOk n ts) (hO:OrdOk n ts o) {e:Nat}(he:e<2*ts.length) :
  o[(placeAt ts e).toNat]?=some (rowAt ts o e)/\RowOk ts (2*ts.length) (placeAt ts e) (rowAt ts o e)/\(e:Int)∈rowAt ts o e:=by
 obtain⟨p0,p1⟩:=Zci hW he;have hl:=hO.len;have hk:(placeAt ts e).toNat<o.length:=by omega
 have q:o[(placeAt ts e).toNat]?=some (rowAt ts o e):=by
  unfold rowAt;rw[Waa hk,Wac,Waa hk];rfl
 have r:=hO.row _ _ q;rw[show ((placeAt ts e).toNat:Int)=placeAt ts e by omega]at r;exact⟨q,r,r.mem.mpr ⟨e,he,rfl,rfl⟩⟩
theorem OrdOk.flat {n:Int}{ts:List (Int × Int)}{o:List (List Int)}(h:OrdOk n ts o):o.flatten.Nodup:=by
 unfold List.Nodup;rw[List.pairwise_flatten];refine⟨λr hr=>?_,?_⟩
 ·obtain⟨p,hp,e⟩:=Wbs.mp hr
  exact(h.row p r (by rw[Waa hp,e])).nodup
 ·rw[Wck]
  intro i j hi hj hij x hx y hy hxy;subst hxy;obtain⟨e,_,e1,e2⟩:=(h.row i _ (Waa hi)).mem.mp hx;obtain⟨f,_,f1,f2⟩:=(h.row j _ (Waa hj)).mem.mp hy;have:e=f:=by omega
  subst this;omega
theorem Za4 {r:List Int}{x:Int}(h:x∈r):r.idxOf x<r.length/\r[r.idxOf x]?=some x/\∀m,m<r.idxOf x->r[m]?≠some x:=by
 have hl:=List.idxOf_lt_length_of_mem h;refine⟨hl,?_,λm hm e=>?_⟩
 ·rw[Waa hl,List.getElem_idxOf hl]
 ·obtain⟨h1,h2⟩:=Waf.mp e
  have:=List.not_of_lt_findIdx (p:=(· == x)) (xs:=r) hm;rw[h2]at this;simp at this
def encPair (y:Int × Int):Key × D:=(.inl y.1,.int y.2)
theorem Ztr {l:List (Int × Int)}{x y:Int}(h:x ∉ l.map (·.1)):putD (l.map encPair) (.inl x) (.int y)=(l++[(x,y)]).map encPair:=by
 unfold putD;rw[if_neg,Wa1]
 ·rfl
 ·rw[List.any_map,Wdo]
  rintro⟨z,hz,e⟩;have e:(Sum.inl z.1:Key)=Sum.inl x:=of_decide_eq_true e;injection e with e
  exact h (Wav.mpr ⟨z,hz,e⟩)
theorem Zf9 {l:List (Int × Int)}(nd:(l.map (·.1)).Nodup) {x y:Int}(h:(x,y)∈l):valD (l.map encPair) (.inl x)=some (.int y):=by
 induction l with
 |nil=>cases h
 |cons z r ih=>
  rw[Wa3,Wca]at nd;rw[Wa3];unfold valD;rcases Wat.mp h with e|h
  ·subst e
   rw[Wdr (by simp[encPair])];rfl
  ·have hne:z.1≠x:=λe=>nd.1 (by rw[e];exact Wav.mpr ⟨_,h,rfl⟩)
   rw[Wct (by simp[encPair];exact λe=>hne e)];exact ih nd.2 h
theorem Zvq (k:Nat):k ||| 1=2*(k / 2)+1:=by
 apply Nat.eq_of_testBit_eq;intro i;rw[Nat.testBit_or];cases i with
 |zero=>rw[Nat.testBit_zero,Nat.testBit_zero,Nat.testBit_zero];simp
 |succ i=>
  rw[Nat.testBit_succ,Nat.testBit_succ,Nat.testBit_succ,show (2*(k / 2)+1) / 2=k / 2 by omega];simp
theorem Zoi (k:Nat):Builtin.bitXor (k:Int) 1=(partner k:Int):=by
 have e1:Builtin.bitAnd (k:Int) 1=((k % 2:Nat):Int):=by
  unfold Builtin.bitAnd;rw[decide_eq_true (show (0:Int)<=(k:Int) by omega),decide_eq_true (show (0:Int)<=1 by decide)];show ((((k:Int).toNat &&& (1:Int).toNat:Nat)):Int)=_;rw[Wak,show (1:Int).toNat=1 from rfl,Nat.and_one_is_mod]
 have e2:Builtin.bitOr (k:Int) 1=((2*(k / 2)+1:Nat):Int):=by
  unfold Builtin.bitOr Builtin.bitAnd;rw[decide_eq_false (show ¬ (0:Int)<=Builtin.bitNot (k:Int) by unfold Builtin.bitNot;omega),decide_eq_false (show ¬ (0:Int)<=Builtin.bitNot 1 by decide)];show Builtin.bitNot (Builtin.bitNot (((Builtin.bitNot (Builtin.bitNot (k:Int))).toNat ||| (Builtin.bitNot (Builtin.bitNot 1)).toNat:Nat):Int))=_;have n1:∀x:Int,Builtin.bitNot (Builtin.bitNot x)=x:=λx=>by unfold Builtin.bitNot;omega
  rw[n1,n1,n1,Wak,show (1:Int).toNat=1 from rfl,Zvq]
 unfold Builtin.bitXor;rw[e1,e2];unfold partner;split <;> omega
theorem Zbs {α:Type}[DecidableEq α]:∀{l m:List α},l.Nodup->(∀x∈l,x∈m)->l.length<=m.length
 |[],_,_,_=>Wb2 _
 |x::l,m,nd,h=>by
  rw[Wca]at nd;have hx:=h x Wa0;have:=Zbs (l:=l) (m:=m.erase x) nd.2 λy hy=>by
   have hne:y≠x:=λe=>nd.1 (e ▸ hy);exact(List.mem_erase_of_ne hne).mpr (h y (Wax _ hy))
  rw[List.length_erase_of_mem hx]at this;have hpos:0<m.length:=Wcf hx;rw[War];omega
theorem OrdOk.flat_len {n:Int}{ts:List (Int × Int)}{o:List (List Int)}(h:OrdOk n ts o):o.flatten.length<=2*ts.length:=by
 have:=Zbs (m:=(Wau (2*ts.length)).map λe:Nat=>(e:Int)) h.flat λx hx=>by
  obtain⟨r,hr,hx⟩:=Wdm.mp hx;obtain⟨p,hp,e⟩:=Wbs.mp hr;obtain⟨k,hk,_,rfl⟩:=(h.row p r (by rw[Waa hp,e])).mem.mp hx;exact Wav.mpr ⟨k,Wa2.mpr hk,rfl⟩
 rw[Wab,Wbe]at this;exact this
theorem Ze4 (ts:List (Int × Int)) (m:Nat) (p:Int):(endsBelow ts m p).Pairwise (· < ·):=by
 unfold endsBelow;refine List.Pairwise.map _ (λa b h=>?_) (List.Pairwise.filter _ Wbw);omega
def rotAt (l:List Int) (j:Nat):List Int:=l.drop j++l.take j
theorem Zdg:∀(l:List Int),l≠[]->∃m,m∈l/\∀a∈l,m<=a
 |[],h=>absurd rfl h
 |[x],_=>⟨x,Wa0,λa ha=>by rw[Waz.mp ha];exact Wd3 _⟩
 |x::y::l,_=>by
  obtain⟨m,h1,h2⟩:=Zdg (y::l) (by simp);by_cases h:x<=m
  ·refine⟨x,Wa0,λa ha=>?_⟩
   rcases Wat.mp ha with z|z
   ·omega
   ·have:=h2 a z;omega
  ·refine⟨m,Wax _ h1,λa ha=>?_⟩
   rcases Wat.mp ha with z|z
   ·omega
   ·exact h2 a z
theorem Zdo {l:List Int}(nd:l.Nodup) {j:Nat}{x:Int}(h:l[j]?=some x):l.idxOf x=j:=by
 obtain⟨h1,h2⟩:=Waf.mp h;obtain⟨i1,i2,_⟩:=Za4 (r:=l) (x:=x) (by rw[<- h2];exact Wa7 h1);obtain⟨i3,i4⟩:=Waf.mp i2;exact(Wea nd).mp (i4.trans h2.symm)
theorem Zqp (ds:List D) {j:Nat}(h:j<=ds.length):cutD ds (some (j:Int)) none=ds.drop j:=by
 unfold cutD;rw[HT.sIx_nat,HT.sIx_none,Nat.min_eq_left h,Wcs (by rw[Wbo];exact Wah _)]
theorem Zur (ds:List D) {j:Nat}(h:j<=ds.length):cutD ds none (some (j:Int))=ds.take j:=by
 unfold cutD;rw[HT.sIx_nat,HT.sIx_none,Nat.min_eq_left h,List.drop_zero,Wd9]
section
variable {P:Program}{w:World}{K:W.Frag}{mg:Str->Option Value}{base:Heap}{f:Addr}{fd:FuncData}
def fPlace:DSp:=λds Post=>∃n ts,∃e:Nat,ds=[encWeb n ts,.int e]/\e<2*ts.length/\Post (.int (placeAt ts e))
def folOf (ts:List (Int × Int)) (o:List (List Int)) (e:Nat):Int:=nextIn (rowAt ts o e) e
def fFol:DSp:=λds Post=>∃n ts o,∃e:Nat,ds=[encWeb n ts,encOrd o,.int e]/\WebOk n ts/\OrdOk n ts o/\e<2*ts.length/\Post (.int (folOf ts o e))
def fPart:DSp:=λds Post=>∃e:Nat,ds=[.int e]/\Post (.int (partner e))
def fWhole:DSp:=λds Post=>∃e:Int,ds=[.int e]/\Post (.bl true)
theorem Zo0 (mb:Mb mg) (F:Fun K "place_of" "place_of" s_place_of f fd):FnOk P w K mg base CX0 1 f fd ["web","end"] (spD K fPlace):=by
 refine F.ok sc_place_of (Zb8 λds Post h=>by obtain⟨_,_,_,rfl,_⟩:=h;rfl) (λcdv A outer s H vs Q E hr h=>?_);have hu:=Zb9 hr;refine⟨_,(Zah (Zav (Zar (ixK K hu) (Zar (ixK K hu) (Zar (ixK K hu) (pv 0) Zag (λ_ _=>rfl)) (Zaw Zep (pv 1) Zag) (λ_ _=>rfl)) (Zaw Zca (pv 1) Zag) (λ_ _=>rfl)))),Zeu (λds Post hf=>?_) h⟩;obtain⟨n,ts,e,rfl,he,q⟩:=hf;refine⟨by simp,?_⟩;dsimp only[startD,Wbt,Wbp,Wbd];obtain⟨t,h1,h2,h3⟩:=Zok he;rw[Wbm]at h2 h3;refine Zbl (Zau (Zau (Zau (Zac rfl (Za3 (Zcg (d:=.tup (ts.map encTie)) rfl ?_))))));refine Zau (Zac rfl (Za3 (jr_I ⟨by omega,by omega⟩ (Zcg h2 ?_))));exact Zau (Zac rfl (Za3 (jr_I (by show (0:Int)<2;omega) (Zcg h3 q))))
theorem Zjj (mb:Mb mg) (C48:Callee P w K mg base 1 "place_of" ["web","end"] (spD K fPlace)) (F:Fun K "follower" "follower" s_follower f fd):FnOk P w K mg base CX0 2 f fd ["web","order","end"] (spD K fFol):=by
 refine F.ok sc_follower (Zb8 λds Post h=>by obtain⟨_,_,_,_,rfl,_⟩:=h;rfl) (λcdv A outer s H vs Q E hr h=>?_);have hu:=Zb9 hr;refine⟨_,(Zae (Zap (i:=3) sc_follower.nd rfl (Or.inl rfl) (Zar (ixK K hu) (pv 1) (Za2 C48 (hr.mono (by decide)) (Zaa (pv 0) (Zaa (pv 2) Zad))) (λ_ _=>rfl))) (Zah (Zav (Zar (ixK K hu) (pv 3) (Zaw Zca (Zaw (addK K) (bmK K PySem.F.plainAttrs_tuple PySem.F.slot_tuple_index PySem.F.type_tuple_index (idxK K) (pv 3) (Zaa (pv 2) Zad)) Zag) (Zai (lenK K) rfl (mb "len" (by decide)) Za7 (Zaa (pv 3) Zad))) (λ_ _=>rfl))))),Zeu (λds Post hf=>?_) h⟩;obtain⟨n,ts,o,e,rfl,hW,hO,he,q⟩:=hf;refine⟨by simp,?_⟩;dsimp only[startD,Wbt,Wbp,Wbd];obtain⟨g1,g2,g3⟩:=Zce hW hO he;obtain⟨p0,p1⟩:=Zci hW he;obtain⟨i1,i2,i3⟩:=Za4 g3;have hat:atI (o.map encRow) (placeAt ts e)=some (encRow (rowAt ts o e)):=by
  have ep:placeAt ts e=(((placeAt ts e).toNat:Nat):Int):=by omega
  rw[ep];exact Zbk (by rw[Wad,g1];rfl)
 refine Zal (Zax (Zau (Zac rfl (Zbb (Zab (Zac rfl (Zab (Zac rfl (Zaf ⟨n,ts,e,rfl,he,Zcg hat ?_⟩)))))))));refine Zbl (Zau (Zac rfl (Zau (Zau (Zkw (Zac rfl ⟨rowAt ts o e,rfl,Zac rfl ⟨e,(rowAt ts o e).idxOf (e:Int),rfl,i2,i3,?_⟩⟩))))));refine Za3 (Zds ?_);refine Za9 (Zab (Zac rfl (Zaf (Zb6 (Or.inr rfl) ?_))));rw[Wab];refine jr_I (by show (0:Int)<_;omega) ?_;have e1:(((rowAt ts o e).idxOf (e:Int):Int)+1) % ((rowAt ts o e).length:Int)=((((rowAt ts o e).idxOf (e:Int)+1) % (rowAt ts o e).length:Nat):Int):=by push_cast;rfl
 rw[e1];have hm:((rowAt ts o e).idxOf (e:Int)+1) % (rowAt ts o e).length<(rowAt ts o e).length:=Wc5 _ (by omega);refine Zcg (d:=.int (folOf ts o e)) (Zbk ?_) q;rw[Wad,Waa hm];unfold folOf nextIn;rw[Wac,Waa hm];rfl
theorem Zll (mb:Mb mg) (F:Fun K "_law_partner" "_law_partner" s_law_partner f fd):FnOk P w K mg base CX0 1 f fd ["_law_end"] (spD K fPart):=by
 refine F.ok sc_law_partner (Zb8 λds Post h=>by obtain⟨_,rfl,_⟩:=h;rfl) (λcdv A outer s H vs Q E hr h=>?_);have hu:=Zb9 hr;refine⟨_,(Zah (Zav (Zaw Zq5 (Zaw (addK K) (pv 0) Zag) (Zaw Zdp Zag (Zaw Zca (pv 0) Zag))))),Zeu (λds Post hf=>?_) h⟩;obtain⟨e,rfl,q⟩:=hf;refine⟨by simp,?_⟩;dsimp only[startD,Wbt,Wbp,Wbd]
 repeat walk_at "js"
 have e1:(e:Int)+1-2*((e:Int) % 2)=(partner e:Int):=by unfold partner;split <;> omega
 rw[e1];exact q
theorem Zq2 (mb:Mb mg) (F:Fun K "_law_whole" "_law_whole" s_law_whole f fd):FnOk P w K mg base CX0 1 f fd ["_law_found"] (spD K fWhole):=by
 refine F.ok sc_law_whole (Zb8 λds Post h=>by obtain⟨_,rfl,_⟩:=h;rfl) (λcdv A outer s H vs Q E hr h=>?_);have hu:=Zb9 hr;refine⟨_,(Zah (Zav (Zrm (Zai (isiUK K) rfl (mb "isinstance" (by decide)) Zb3 (Zaa (pv 0) (Zaa (Zf0 rfl (mb "int" (by decide)) Zva (show RelV (.ty "int") _ from rfl)) Zad))) (Zrs (Zvh (Zai (isiUK K) rfl (mb "isinstance" (by decide)) Zb3 (Zaa (pv 0) (Zaa (Zf0 rfl (mb "bool" (by decide)) Ztj (show RelV (.ty "bool") _ from rfl)) Zad)))))))),Zeu (λds Post hf=>?_) h⟩;obtain⟨e,rfl,q⟩:=hf;refine⟨by simp,?_⟩;dsimp only[startD,Wbt,Wbp,Wbd];refine Zbl (Zjg (Za9 (Zab (Zac rfl (Zab (Zjc (Zaf (Zen (T:="int") (b:=true) rfl (λ_=>by rfl) ⟨_,rfl,?_⟩))))))));rw[if_pos rfl];refine Zow (Za9 (Zab (Zac rfl (Zab (Zjc (Zaf (Zen (T:="int") (b:=false) rfl (λ_=>by rfl) ⟨_,rfl,?_⟩)))))));exact q
theorem Zb0:2<=sizeLine:=by decide
end
def iter (f:Int->Int) (e:Int):Nat->Int
 |0=>e
 |n+1=>f (iter f e n)
def walkL (f:Int->Int) (e:Int) (n:Nat):List Int:=(Wau n).map (iter f e)
structure OneOne (f:Int->Int) (m:Nat):Prop where
 to:∀x,0<=x->x<(m:Int)->0<=f x/\f x<(m:Int)
 inj:∀x y,0<=x->x<(m:Int)->0<=y->y<(m:Int)->f x=f y->x=y
def NdTo (f:Int->Int) (e:Int) (n:Nat):Prop:=∀i j,i<n->j<n->iter f e i=iter f e j->i=j
structure IsOrb (f:Int->Int) (e:Int) (n:Nat):Prop where
 pos:0<n
 back:iter f e n=e
 nd:NdTo f e n
noncomputable def per (f:Int->Int) (e:Int):Nat:=Classical.epsilon (IsOrb f e)
noncomputable def orb (f:Int->Int) (e:Int):List Int:=walkL f e (per f e)
section
variable {f:Int->Int}{m:Nat}(F:OneOne f m) {e:Int}(h0:0<=e) (h1:e<(m:Int))
include F h0 h1
end
section
variable {f:Int->Int}{m:Nat}(F:OneOne f m)
include F
end
theorem Zqw {r:List Int}{x:Int}(h:x∈r):nextIn r x∈r:=by
 obtain⟨h1,_,_⟩:=Za4 h;have hm:(r.idxOf x+1) % r.length<r.length:=Wc5 _ (by omega);unfold nextIn;rw[Wac,Waa hm];exact Wa7 hm
theorem Ztk {n:Int}{ts:List (Int × Int)}{o:List (List Int)}(hW:WebOk n ts) (hO:OrdOk n ts o) {e:Nat}(he:e<2*ts.length):∃g:Nat,g<2*ts.length/\placeAt ts g=placeAt ts e/\(g:Int)=folOf ts o e:=by
 obtain⟨g1,g2,g3⟩:=Zce hW hO he;exact g2.mem.mp (Zqw g3)
theorem OrdOk.flat_eq {n:Int}{ts:List (Int × Int)}{o:List (List Int)}(hW:WebOk n ts) (h:OrdOk n ts o):o.flatten.length=2*ts.length:=by
 have h1:=h.flat_len;have h2:=Zbs (l:=(Wau (2*ts.length)).map λe:Nat=>(e:Int)) (m:=o.flatten) ?_ λx hx=>by
  obtain⟨e,he,rfl⟩:=Wav.mp hx;rw[Wa2]at he;obtain⟨g1,g2,g3⟩:=Zce hW h he;exact Wdm.mpr ⟨_,Waq g1,g3⟩
 ·rw[Wab,Wbe]at h2;omega
 ·refine List.Pairwise.map _ (λa b q=>?_) List.nodup_range
  intro e;exact q (by omega)
section
variable {P:Program}{w:World}{K:W.Frag}{mg:Str->Option Value}{base:Heap}{f:Addr}{fd:FuncData}
def intD:D->Int
 |.int i=>i
 |_=>0
theorem Zip (n:Int) (ts:List (Int × Int)):atI [D.int n,D.tup (ts.map encTie)] 1=some (.tup (ts.map encTie)):=rfl
end
def addN (l:List Int) (x:Int):List Int:=if x∈l then l else l++[x]
def numT (p q:Int->Int) (j:Nat) (l:List Int):List Int:=addN (addN l (p (l.getD j 0))) (q (l.getD j 0))
def numGo (p q:Int->Int) (e:Int):Nat->List Int
 |0=>[e]
 |j+1=>numT p q j (numGo p q e j)
theorem Zeh {l:List Int}{x y:Int}(h:y∈l):y∈addN l x:=by unfold addN;split;exact h;exact Wbj _ h
theorem Zmb (l:List Int) (x:Int):x∈addN l x:=by unfold addN;split;assumption;simp
theorem Zhz {l:List Int}{x y:Int}(h:y∈addN l x):y∈l\/y=x:=by
 unfold addN at h;split at h
 ·exact .inl h
 ·simpa using h
theorem Znt {l:List Int}{x:Int}(h:l.Nodup):(addN l x).Nodup:=by
 unfold addN;split
 ·exact h
 ·rename_i z
  rw[Wcz];exact⟨h,by simp,λa ha b hb e=>by rw[Waz]at hb;subst hb;subst e;exact z ha⟩
theorem Zkj {l:List Int}{x:Int}{i:Nat}(h:i<l.length):(addN l x).getD i 0=l.getD i 0/\i<(addN l x).length:=by
 unfold addN;split
 ·exact⟨rfl,h⟩
 ·rw[Wac,Wbc h,<- Wac,Wao]
  exact⟨rfl,by omega⟩
theorem Zpj (l:List Int) (x:Int):(addN l x).length<=l.length+1:=by
 unfold addN;split
 ·omega
 ·rw[Wao,Wbb];exact Wah _
def stg (L:List Int) (a b:Int):Nat->List Int
 |0=>L
 |1=>addN L a
 |_=>addN (addN L a) b
structure NumI (p q:Int->Int) (m:Nat) (e:Int) (j:Nat) (l:List Int):Prop where
 nd:l.Nodup
 rg:∀x∈l,0<=x/\x<(m:Int)
 le:j<=l.length
 he:l.getD 0 0=e/\0<l.length
 cl:∀i,i<j->p (l.getD i 0)∈l/\q (l.getD i 0)∈l
section
variable {p q:Int->Int}{m:Nat}{e:Int}
theorem Zht {l:List Int}{i:Nat}(h:i<l.length):l.getD i 0∈l:=by
 rw[Wac,Waa h];exact Wa7 h
theorem Zjl {j:Nat}{l:List Int}(h:NumI p q m e j l):l.length<=m:=by
 have:=Zbs (l:=l) (m:=(Wau m).map λi:Nat=>(i:Int)) h.nd λx hx=>by
  have:=h.rg x hx;exact Wav.mpr ⟨x.toNat,Wa2.mpr (by omega),by omega⟩
 rwa [Wab,Wbe]at this
theorem Zoy (h0:0<=e) (h1:e<(m:Int)):NumI p q m e 0 [e]:=⟨by simp,λx hx=>by rw[Waz]at hx;subst hx;exact⟨h0,h1⟩,by simp,⟨rfl,by simp⟩,λi hi=>by omega⟩
theorem Zqo (hp:∀x,0<=x->x<(m:Int)->0<=p x/\p x<(m:Int)) (hq:∀x,0<=x->x<(m:Int)->0<=q x/\q x<(m:Int)) {j:Nat}{l:List Int}(h:NumI p q m e j l) (hj:j<l.length):NumI p q m e (j+1) (numT p q j l):=by
 have hx:=h.rg _ (Zht hj);have keep:∀{i:Nat},i<l.length->(numT p q j l).getD i 0=l.getD i 0/\i<(numT p q j l).length:=λ{i} hi=>by
  have a1:=Zkj (x:=p (l.getD j 0)) hi;have a2:=Zkj (x:=q (l.getD j 0)) a1.2;exact⟨a2.1.trans a1.1,a2.2⟩
 refine⟨Znt (Znt h.nd),λx hx'=>?_,?_,?_,λi hi=>?_⟩
 ·rcases Zhz hx' with z|z
  ·rcases Zhz z with z|z
   ·exact h.rg x z
   ·rw[z];exact hp _ hx.1 hx.2
  ·rw[z];exact hq _ hx.1 hx.2
 ·have:=(keep hj).2;omega
 ·have:=keep h.he.2;exact⟨this.1.trans h.he.1,this.2⟩
 ·have:=keep (i:=i) (by omega)
  rw[this.1];by_cases c:i=j
  ·subst c;exact⟨Zeh (Zmb _ _),Zmb _ _⟩
  ·have:=h.cl i (by omega);exact⟨Zeh (Zeh this.1),Zeh (Zeh this.2)⟩
end
def NumAt (p q:Int->Int) (e:Int) (J:Nat):Prop:=(numGo p q e J).length=J/\∀i,i<J->i<(numGo p q e i).length
theorem Zqu {p q:Int->Int}{e:Int}{J J':Nat}(h:NumAt p q e J) (h':NumAt p q e J'):J=J':=by
 rcases Nat.lt_trichotomy J J' with z|z|z
 ·have:=h'.2 J z;have:=h.1;omega
 ·exact z
 ·have:=h.2 J' z;have:=h'.1;omega
theorem Zex {p q:Int->Int}{m:Nat}{e:Int}(hp:∀x,0<=x->x<(m:Int)->0<=p x/\p x<(m:Int)) (hq:∀x,0<=x->x<(m:Int)->0<=q x/\q x<(m:Int)) (h0:0<=e) (h1:e<(m:Int)) {J:Nat}(h:∀i,i<J->i<(numGo p q e i).length):NumI p q m e J (numGo p q e J):=by
 induction J with
 |zero=>exact Zoy h0 h1
 |succ J ih=>exact Zqo hp hq (ih λi hi=>h i (by omega)) (h J (by omega))
def pI (x:Int):Int:=(partner x.toNat:Int)
noncomputable def fI (ts:List (Int × Int)) (o:List (List Int)) (x:Int):Int:=folOf ts o x.toNat
theorem Zlg {m:Nat}(x:Int) (h0:0<=x) (h1:x<((2*m:Nat):Int)):0<=pI x/\pI x<((2*m:Nat):Int):=by
 have:=Zlu (show x.toNat<2*m by omega);unfold pI;omega
theorem Zk8 {n:Int}{ts:List (Int × Int)}{o:List (List Int)}(hW:WebOk n ts) (hO:OrdOk n ts o) (x:Int) (h0:0<=x) (h1:x<((2*ts.length:Nat):Int)):0<=fI ts o x/\fI ts o x<((2*ts.length:Nat):Int):=by
 obtain⟨g,hg,_,eg⟩:=Ztk hW hO (show x.toNat<2*ts.length by omega);unfold fI;omega
noncomputable def numF (ts:List (Int × Int)) (o:List (List Int)) (e:Nat) (J:Nat):List Int:=numGo pI (fI ts o) (e:Int) J
def fNum:NSp:=λds Post=>∃n ts o,∃e:Nat,ds=[encWeb n ts,encOrd o,.int e]/\WebOk n ts/\OrdOk n ts o/\e<2*ts.length/\∀J,NumAt pI (fI ts o) (e:Int) J->Post ((numF ts o e J).map .int)
def cdP (ts:List (Int × Int)) (o:List (List Int)) (l:List Int) (x:Int):D:=.tup [.int (l.idxOf (pI x):Nat),.int (l.idxOf (folOf ts o x.toNat):Nat)]
def fCodeBy:DSp:=λds Post=>∃n ts o,∃l:List Int,ds=[encWeb n ts,encOrd o,.lst (l.map .int)]/\WebOk n ts/\OrdOk n ts o/\l.length<=48/\(∀x∈l,0<=x/\x<((2*ts.length:Nat):Int)/\pI x∈l/\fI ts o x∈l)/\Post (.tup (l.map (cdP ts o l)))
section
variable {P:Program}{w:World}{K:W.Frag}{mg:Str->Option Value}{base:Heap}{f:Addr}{fd:FuncData}
theorem Zvg (l:List Int) (x:Int):(if (!decide (x∈l))=true then l.map D.int++[.int x] else l.map D.int)=(addN l x).map D.int:=by
 unfold addN;by_cases h:x∈l
 ·rw[decide_eq_true h,if_pos h];rfl
 ·rw[decide_eq_false h,if_neg h,Wa1];rfl
theorem Ztt (mb:Mb mg) (C45:Callee P w K mg base 2 "follower" ["web","order","end"] (spD K fFol)) (F:Fun K "numbered_from" "numbered_from" s_numbered_from f fd):FnOk P w K mg base CX0 3 f fd ["web","order","end"] (spN K fNum):=by
 refine F.ok sc_numbered_from (Zfw λds Post h=>by obtain⟨_,_,_,_,rfl,_⟩:=h;rfl) (λcdv A outer s H vs Q E hr h=>?_);have hu:=Zb9 hr;refine⟨_,(Zae (Zap (i:=3) sc_numbered_from.nd rfl (Or.inl rfl) (Zb4 (Zaa (pv 2) Zad))) (Zae (Zap (i:=4) sc_numbered_from.nd rfl (Or.inl rfl) Zag) (Zae (Zkz PassesOwn.never (Zaq Ztx (pv 4) (Zai (lenK K) rfl (mb "len" (by decide)) Za7 (Zaa (pv 3) Zad)) (nomark _)) (Zae (Zcu PassesOwn.never rfl (seqK K (Zbx (Zaa (Zaw Zrr (Zar (ixK K hu) (pv 3) (pv 4) (λ_ _=>rfl)) Zag) (Zaa (Za2 C45 (hr.mono (by decide)) (Zaa (pv 0) (Zaa (pv 1) (Zaa (Zar (ixK K hu) (pv 3) (pv 4) (λ_ _=>rfl)) Zad)))) Zad)))) (Zaj (i:=5) sc_numbered_from.nd rfl (Or.inl rfl)) (Zah (Zbq (Zaq (notinK K hu) (pv 5) (pv 3) rfl) (Zah (Zdi (bmK K PySem.F.plainAttrs_list PySem.F.slot_list_append PySem.F.type_list_append Zdr (pv 3) (Zaa (pv 5) Zad)))) Zay))) (Zah (Zue (i:=4) sc_numbered_from.nd rfl (Or.inl rfl) Zag Zvw)))) (Zah (Zav (pv 3)))))),Zn0 (λds Post hf=>?_) h⟩;obtain⟨n,ts,o,e,rfl,hW,hO,he,q⟩:=hf;refine⟨by simp,?_⟩;dsimp only[startD,Wbt,Wbp,Wbd,Waj];have hw:=hW.len;have hp:=λx=>Zlg (m:=ts.length) x;have hq:=Zk8 hW hO;refine Zal (Zc6 (Zdk (Zab (Zac rfl (Zaf ⟨by show 1<=sizeLine;decide,?_⟩)))));refine Zal (Zax (Za3 ?_));refine Zbe (λΔ=>∃(J:Nat) (x5:L2.Slot),NumAt pI (fI ts o) (e:Int) J /\ Δ = [.val (encWeb n ts),.val (encOrd o),.val (.int e),.own (.lst ((numF ts o e J).map .int)),.val (.int (J:Int)),x5]) ?_ ?_
 ·refine Zj7 (fun μ Δ=>∃(j:Nat) (x5:L2.Slot),(∀i,i<j->i<(numF ts o e i).length) /\ μ = 2*ts.length-j /\ Δ = [.val (encWeb n ts),.val (encOrd o),.val (.int e),.own (.lst ((numF ts o e j).map .int)),.val (.int (j:Int)),x5]) ⟨_,0,_,λi hi=>by omega,rfl,rfl⟩ ?_
  rintro μ Δ1 ⟨j,x5,hj,rfl,rfl⟩;have I:NumI pI (fI ts o) (2*ts.length) (e:Int) j (numF ts o e j):=Zex hp hq (show (0:Int)<=(e:Int) by omega) (show (e:Int)<((2*ts.length:Nat):Int) by omega) hj;have Il:=Zjl I;refine Za0 (Zau (Zac rfl (Zh4 rfl rfl (Znm ⟨_,rfl,?_⟩))));rw[Wab];by_cases c:j<(numF ts o e j).length
  ·rw[decide_eq_true (show (j:Int)<((numF ts o e j).length:Int) by omega)]
   have hx:=I.rg _ (Zht c);generalize hL:numF ts o e j=L at *;have at1:atI (L.map D.int) (j:Int)=some (.int (L.getD j 0)):=Zbk (by rw[Wad,Wac,Waa c];rfl);obtain⟨x,ex⟩:∃x:Nat,L.getD j 0=(x:Int):=⟨(L.getD j 0).toNat,(Wb8 hx.1).symm⟩;rw[ex]at at1;have hxl:x<2*ts.length:=by omega
   refine iteT (Zbe (λΔ=>∃x5:L2.Slot,Δ = [.val (encWeb n ts),.val (encOrd o),.val (.int e),.own (.lst ((numF ts o e (j+1)).map .int)),.val (.int (j:Int)),x5]) ?_ ?_)
   ·refine Zcv (Zc9 (Zbw (Zab (Zau (Zju rfl rfl (Zac rfl ⟨_,_,_,_,rfl,rfl,rfl,at1,Za3 (Zpb ?_)⟩))))))
    rw[Zoi];refine Zab (Zbb (Zab (Zac rfl (Zab (Zac rfl (Zab (Zju rfl rfl (Zac rfl ⟨_,_,_,_,rfl,rfl,rfl,at1,Zaf ⟨n,ts,o,x,rfl,hW,hO,hxl,Zaf ⟨Zb0,?_⟩⟩⟩))))))));have e1:pI (L.getD j 0)=(partner x:Int):=by rw[ex];rfl
    have e2:fI ts o (L.getD j 0)=folOf ts o x:=by rw[ex];rfl
    refine⟨_,rfl,λk Δ=>∃x5:L2.Slot,Δ = [.val (encWeb n ts),.val (encOrd o),.val (.int e),.own (.lst ((stg L (partner x:Int) (folOf ts o x) k).map .int)),.val (.int (j:Int)),x5],⟨_,rfl⟩,?_,?_⟩
    ·rintro k d Δ2 hd ⟨x5,rfl⟩
     obtain⟨M,y,eM,rfl,eN,hM⟩:∃(M:List Int) (y:Int),stg L (partner x:Int) (folOf ts o x) k=M/\d=.int y/\stg L (partner x:Int) (folOf ts o x) (k+1)=addN M y/\M.length<=L.length+1:=by
      rcases k with _|_|k
      ·cases hd;exact⟨L,_,rfl,rfl,rfl,by omega⟩
      ·cases hd;exact⟨_,_,rfl,rfl,rfl,Zpj _ _⟩
      ·cases hd
     rw[eM];refine Zbu (Zbv (Za0 (Zto (Zac rfl ⟨_,M,y,rfl,rfl,rfl,_,rfl,?_⟩))));show if (!decide (y∈M))=true then _ else _
     have ed:=Zvg M y;by_cases c2:y∈M
     ·rw[decide_eq_true c2]at ed ⊢
      refine iteF (Za1 ⟨.val (.int y),?_⟩);show _=[_,_,_,L2.Slot.own (.lst ((stg L (partner x:Int) (folOf ts o x) (k+1)).map D.int)),_,_];rw[eN,<- ed];rfl
     ·rw[decide_eq_false c2]at ed ⊢
      refine iteT (Zme rfl rfl (Zac rfl ⟨_,_,rfl,rfl,?_,.val (.int y),?_⟩))
      ·rw[Wab];exact small1000 (by omega)
      ·show _=[_,_,_,L2.Slot.own (.lst ((stg L (partner x:Int) (folOf ts o x) (k+1)).map D.int)),_,_]
       rw[eN,<- ed];rfl
    ·rintro Δ2 ⟨x5,rfl⟩
     refine⟨x5,?_⟩;have:numF ts o e (j+1)=addN (addN L (partner x:Int)) (folOf ts o x):=by
      show numT pI (fI ts o) j (numF ts o e j)=_;rw[hL];unfold numT;rw[e1,e2]
     rw[this];rfl
   rintro Δ2 ⟨x5,rfl⟩;refine Zvd rfl (Za3 ⟨rfl,Zuv ⟨2*ts.length-(j+1),by omega,j+1,x5,λi hi=>?_,rfl,rfl⟩⟩);by_cases z:i=j
   ·subst z;rw[hL];exact c
   ·exact hj i (by omega)
  ·rw[decide_eq_false (show ¬ (j:Int)<((numF ts o e j).length:Int) by omega)]
   refine iteF ⟨j,x5,⟨?_,hj⟩,rfl⟩;have:=I.le;show (numF ts o e j).length=j;have:j<=(numF ts o e j).length:=this;omega
 rintro Δ1 ⟨J,x5,hJ,rfl⟩;exact Zde (Zoa rfl ⟨_,rfl,q J hJ⟩)
theorem Zmu (mb:Mb mg) (C45:Callee P w K mg base 2 "follower" ["web","order","end"] (spD K fFol)) (F:Fun K "code_by" "code_by" s_code_by f fd):FnOk P w K mg base CX0 3 f fd ["web","order","ends"] (spD K fCodeBy):=by
 refine F.ok sc_code_by (Zb8 λds Post h=>by obtain⟨_,_,_,_,rfl,_⟩:=h;rfl) (λcdv A outer s H vs Q E hr h=>?_);have hu:=Zb9 hr;refine⟨_,(Zah (Zav (Za8 (tupK K) rfl (mb "tuple" (by decide)) Zbg (Zaa (Zbd ["end"] (show CompSc (defScope s_code_by) ["web","order","ends"] _ ["web","order","ends"] [0,1,2] from ⟨rfl,by decide +kernel,by decide +kernel,by decide +kernel,rfl,by decide +kernel⟩) rfl (seqK K (pv 2)) (λ_ _ _ _ _=>(Zaj (i:=0) (show List.Nodup (["end","web","order","ends"]:List Str) from by decide) rfl (Or.inl rfl))) (λ_ _ _ _ _=>Zba) (λ_ _ _ _ _=>(Zbx (Zaa (bmK K PySem.F.plainAttrs_list PySem.F.slot_list_index PySem.F.type_list_index (idxLK K) (pv 3) (Zaa (Zaw Zrr (pv 0) Zag) Zad)) (Zaa (bmK K PySem.F.plainAttrs_list PySem.F.slot_list_index PySem.F.type_list_index (idxLK K) (pv 3) (Zaa (Za2 C45 (hr.mono (by decide)) (Zaa (pv 1) (Zaa (pv 2) (Zaa (pv 0) Zad)))) Zad)) Zad))))) Zad)))),Zeu (λds Post hf=>?_) h⟩;obtain⟨n,ts,o,l,rfl,hW,hO,hl,hin,q⟩:=hf;refine⟨by simp,?_⟩;dsimp only[startD,Wbt,Wbp,Wbd,Waj];refine Zbl (Za9 (Zab (Zbi (by decide) (Zc3 (Zac rfl ⟨_,Or.inl rfl,by rw[Wab];exact small1000 (by omega),λ_=>true,λd=>cdP ts o l (intD d),λi d hd=>?_,?_⟩)))))
 ·rw[Wad]at hd
  cases z:l[i]? with
  |none=>rw[z]at hd;cases hd
  |some y=>
   rw[z]at hd;have hd:D.int y=d:=by simpa using hd
   subst hd;obtain⟨y0,y1,y2,y3⟩:=hin y (Waq z);obtain⟨x,rfl⟩:∃x:Nat,y=(x:Int):=⟨y.toNat,(Wb8 y0).symm⟩;refine Zbc ⟨rfl,Zbw (Zab (Zej (Zac rfl ⟨l,rfl,by omega,Zau (Zac rfl (Za3 (Zpb ?_)))⟩)))⟩;rw[Zoi];refine⟨_,rfl,y2,?_⟩;refine Zab (Zej (Zac rfl ⟨l,rfl,by omega,Zbb (Zab (Zac rfl (Zab (Zac rfl (Zab (Zac rfl (Zaf ⟨n,ts,o,x,rfl,hW,hO,by omega,_,rfl,y3,Zaf ⟨Zb0,rfl,_,rfl⟩⟩)))))))⟩))
 have e1:((l.map D.int).filter λ_=>true).map (λd=>cdP ts o l (intD d))=l.map (cdP ts o l):=by
  rw[Wa5.mpr (by simp),Wan];rfl
 rw[e1];exact Zaf (Zcb (Or.inl rfl) q)
end
def loI (a b:Int):Int:=if b<a then b else a
def hiI (a b:Int):Int:=if b > a then b else a
def mergeL (l:List Int) (a b:Int):List Int:=l.map λf=>if f=hiI (l.getD a.toNat 0) (l.getD b.toNat 0) then loI (l.getD a.toNat 0) (l.getD b.toNat 0) else f
def marksL (n:Nat) (ts:List (Int × Int)):List Int:=ts.foldl (λl t=>mergeL l t.1 t.2) ((Wau n).map λi:Nat=>(i:Int))
theorem Zgm (l:List Int) (a b:Int):(mergeL l a b).length=l.length:=by unfold mergeL;rw[Wab]
theorem Zb5 (n:Nat) (ts:List (Int × Int)):(marksL n ts).length=n:=by
 unfold marksL;have:∀(ts:List (Int × Int)) (l:List Int),(ts.foldl (λl t=>mergeL l t.1 t.2) l).length=l.length:=by
  intro ts
  induction ts with
  |nil=>intro l;rfl
  |cons t ts ih=>intro l;rw[List.foldl_cons,ih,Zgm]
 rw[this,Wab,Wbe]
theorem Zdb {n:Nat}{ts:List (Int × Int)}{i:Nat}{t:Int × Int}(h:ts[i]?=some t):marksL n (ts.take (i+1))=mergeL (marksL n (ts.take i)) t.1 t.2:=by
 unfold marksL;rw[Wcd,h,List.foldl_append];rfl
def Firsts (ms l:List Int):Prop:=ms.Pairwise (· < ·)/\∀x,x∈ms↔x∈l
theorem Zey:∀{ms l:List Int},ms.Nodup->(∀x∈ms,x∈l)->ms.length<=l.length
 |[],_,_,_=>by simp
 |x::ms,l,h1,h2=>by
  rw[Wca]at h1;have hx:=h2 x (by simp);have:=Zey (ms:=ms) (l:=l.erase x) h1.2 λy hy=>(List.mem_erase_of_ne (λz:y=x=>h1.1 (z ▸ hy))).mpr (h2 y (by simp[hy]));rw[List.length_erase_of_mem hx]at this;have:=Wcf hx;rw[War];omega
theorem Firsts.len {ms l:List Int}(h:Firsts ms l):ms.length<=l.length:=Zey (h.1.imp λz=>Int.ne_of_lt z) λx hx=>(h.2 x).mp hx
def partI (l:List Int) (n:Nat) (f:Int):List Int:=((Wau n).map λi:Nat=>(i:Int)).filter λp=>decide (l.getD p.toNat 0=f)
def lstI (r:List Int):D:=.lst (r.map .int)
def partsL (n:Nat) (ts:List (Int × Int)) (ms:List Int):List (List Int):=ms.map (partI (marksL n ts) n)
def fParts:NSp:=λds Post=>∃n ts,ds=[encWeb n ts]/\WebOk n ts/\∀ms,Firsts ms (marksL n.toNat ts)->Post ((partsL n.toNat ts ms).map lstI)
theorem Zuy (l:List Int) (n:Nat) (f:Int) (p:D->Bool) (hp:∀i:Int,p (.int i)=decide (l.getD i.toNat 0=f)) (g:D->D) (hg:∀d,g d=d):D.lst (((rngD 0 n).filter p).map g)=lstI (partI l n f):=by
 have e1:rngD 0 n=((Wau n).map λi:Nat=>(i:Int)).map D.int:=by
  unfold rngD;rw[Wan];apply Wa9;intro i _;show D.int (0+(i:Int))=D.int (i:Int);rw[Wbm]
 unfold lstI partI;rw[e1,List.filter_map,show g=id from funext hg,Wd0];have e2:(p∘D.int)=λq:Int=>decide (l.getD q.toNat 0=f):=funext hp;rw[e2]
theorem Zso {n:Nat}{l ms:List Int}(q:D->Bool) (hq:∀d,q d=true) (g:D->D) (hg:∀f:Int,g (.int f)=lstI (partI l n f)):((ms.map D.int).filter q).map g=(ms.map (partI l n)).map lstI:=by
 rw[Wa5.mpr (λd _=>hq d),Wan,Wan];apply Wa9;intro f _;exact hg f
section
variable {P:Program}{w:World}{K:W.Frag}{mg:Str->Option Value}{base:Heap}{f:Addr}{fd:FuncData}
theorem Zh2 {l:List Int}{x:Int}{n:Nat}(hl:l.length=n) (h0:0<=x) (h1:x<(n:Int)):atI (l.map D.int) x=some (.int (l.getD x.toNat 0)):=by
 rw[show x=((x.toNat:Nat):Int) by omega];refine Zbk ?_;rw[Wad,Wac,Wak,Waa (by omega:x.toNat<l.length)];rfl
theorem Zjf (mb:Mb mg) (F:Fun K "parts_of" "parts_of" s_parts_of f fd):FnOk P w K mg base CX0 1 f fd ["web"] (spN K fParts):=by
 refine F.ok sc_parts_of (Zfw λds Post h=>by obtain⟨_,_,rfl,_⟩:=h;rfl) (λcdv A outer s H vs Q E hr h=>?_);have hu:=Zb9 hr;have hv:=Zk2 hr;refine⟨_,(Zae (Zee (pv 0) (gtupK (n:=2) K rfl (Zbr (Zaj (i:=1) sc_parts_of.nd rfl (Or.inr rfl)) (Zbr (Zaj (i:=2) sc_parts_of.nd rfl (Or.inl rfl)) Zeo)))) (Zae (Zap (i:=3) sc_parts_of.nd rfl (Or.inr rfl) (Zib rfl rfl (mb "list" (by decide)) rfl (mb "range" (by decide)) (Zaa (pv 1) Zad))) (Zae (Zcu PassesOwn.never rfl (seqK K (pv 2)) (gtupK (n:=2) K rfl (Zbr (Zaj (i:=4) sc_parts_of.nd rfl (Or.inl rfl)) (Zbr (Zaj (i:=5) sc_parts_of.nd rfl (Or.inl rfl)) Zeo))) (Zae (Zap (i:=6) sc_parts_of.nd rfl (Or.inr rfl) (Zai (Zfr rfl) rfl (mb "min" (by decide)) Zkt (Zaa (Zar (ixK K hu) (pv 3) (pv 4) (λ_ _=>rfl)) (Zaa (Zar (ixK K hu) (pv 3) (pv 5) (λ_ _=>rfl)) Zad)))) (Zae (Zap (i:=7) sc_parts_of.nd rfl (Or.inr rfl) (Zai (Zfm rfl) rfl (mb "max" (by decide)) Zni (Zaa (Zar (ixK K hu) (pv 3) (pv 4) (λ_ _=>rfl)) (Zaa (Zar (ixK K hu) (pv 3) (pv 5) (λ_ _=>rfl)) Zad)))) (Zah (Zap (i:=3) sc_parts_of.nd rfl (Or.inr rfl) (Zbd ["first"] (show CompSc (defScope s_parts_of) ["web","many","ties","firsts","a","b","low","high"] _ ["low","high"] [6,7] from ⟨rfl,by decide +kernel,by decide +kernel,by decide +kernel,rfl,by decide +kernel⟩) rfl (seqK K (pv 3)) (λ_ _ _ _ _=>(Zaj (i:=0) (show List.Nodup (["first","low","high"]:List Str) from by decide) rfl (Or.inl rfl))) (λ_ _ _ _ _=>Zba) (λ_ _ _ _ _=>(Zg9 (Zaq Zct (pv 0) (pv 2) (nomark _)) (pv 1) (pv 0))))))))) (Zah (Zav (Zoc ["first"] (show CompScK (defScope s_parts_of) ["web","many","ties","firsts","a","b","low","high"] "first" _ ["many","firsts"] [1,3] from ⟨rfl,by decide +kernel,by decide +kernel,by decide +kernel,by decide +kernel,rfl,by decide +kernel⟩) rfl (seqK K (Zlf rfl rfl rfl (mb "sorted" (by decide)) rfl (mb "set" (by decide)) (Zaa (pv 3) Zad))) (λ_ _ _ _ _=>(Zaj (i:=0) (show List.Nodup (["first","many","firsts"]:List Str) from by decide) rfl (Or.inr rfl))) (λ_ _ _ _ _=>Zba) (λ_ _ _ _ _=>(Zbd ["place"] (show CompSc (relab (defScope s_parts_of) _) ["first","many","firsts"] _ ["first","firsts"] [0,2] from ⟨rfl,by decide +kernel,by decide +kernel,by decide +kernel,rfl,by decide +kernel⟩) rfl (Za6 rfl (mb "range" (by decide)) (Zaa (pv 1) Zad)) (λ_ _ _ _ _=>(Zaj (i:=0) (show List.Nodup (["place","first","firsts"]:List Str) from by decide) rfl (Or.inl rfl))) (λ_ _ _ _ _=>(Zm7 (Zaq Zct (Zar (ixK K hu) (pv 2) (pv 0) (λ_ _=>rfl)) (pv 1) (nomark _)))) (λ_ _ _ _ _=>(pv 0)))))))))),Zn0 (λds Post hf=>?_) h⟩;obtain⟨n,ts,rfl,hW,q⟩:=hf;refine⟨by simp,?_⟩;dsimp only[startD,Wbt,Wbp,Wbd,Waj];have hn0:=hW.lo;have hn1:=hW.hi;have hts:=hW.len;obtain⟨N,rfl⟩:∃N:Nat,n=(N:Int):=⟨n.toNat,by omega⟩;rw[Wak]at q;refine Zal (Zrd (Zac rfl (Zj5 rfl (Zck (Zbu (Zck (Zbu (Zhd ?_))))))));refine Zal (Zax (Zbp (Zv7 (Zab (Zac rfl (Zaf ⟨N,rfl,by omega,_,rfl,?_⟩))))));have e0:(Wau N).map (λi:Nat=>D.int (i:Int))=(marksL N (ts.take 0)).map D.int:=by
  show _=((Wau N).map λi:Nat=>(i:Int)).map D.int;rw[Wan];rfl
 rw[e0];refine Zbe (λΔ=>∃(x4 x5 x6 x7:L2.Slot),Δ = [.val (encWeb (N:Int) ts),.val (.int (N:Int)),.val (.tup (ts.map encTie)),.val (.lst ((marksL N ts).map D.int)),x4,x5,x6,x7]) ?_ ?_
 ·refine Zcv (Zc9 (Zac rfl ⟨_,rfl,λi Δ=>∃(x4 x5 x6 x7:L2.Slot),Δ = [.val (encWeb (N:Int) ts),.val (.int (N:Int)),.val (.tup (ts.map encTie)),.val (.lst ((marksL N (ts.take i)).map D.int)),x4,x5,x6,x7],⟨_,_,_,_,rfl⟩,?_,?_⟩))
  ·rintro i d Δ2 hd ⟨x4,x5,x6,x7,rfl⟩
   rw[Wad]at hd;cases z:ts[i]? with
   |none=>rw[z]at hd;cases hd
   |some t=>
    rw[z]at hd;have hd:encTie t=d:=by simpa using hd
    subst hd;have ht:=hW.tie t (Waq z);have hl:=Zb5 N (ts.take i);have hs:=Zdb (n:=N) z;obtain⟨l,el⟩:∃l,marksL N (ts.take i)=l:=⟨_,rfl⟩;rw[el]at hl hs ⊢;have a1:=Zh2 hl ht.1 ht.2.1;have a2:=Zh2 hl ht.2.2.1 ht.2.2.2;refine Zj5 rfl (Zck (Zbu (Zck (Zbu (Zhd ?_)))));refine Zal (Zax (Za9 (Zab (Zau (Zac rfl (Zac rfl (Zb7 a1 (Zab (Zau (Zac rfl (Zac rfl (Zb7 a2 (Zaf (Zgd ?_))))))))))))));refine Zal (Zax (Za9 (Zab (Zau (Zac rfl (Zac rfl (Zb7 a1 (Zab (Zau (Zac rfl (Zac rfl (Zb7 a2 (Zaf (Zgd ?_))))))))))))));refine Zax (Zbi (by decide) (Zc3 (Zac rfl ⟨_,Or.inl rfl,?_,λ_=>true,λd=>match d with|.int g=>.int (if g=hiI (l.getD t.1.toNat 0) (l.getD t.2.toNat 0) then loI (l.getD t.1.toNat 0) (l.getD t.2.toNat 0) else g)|d=>d,λj d hd=>?_,?_⟩)))
    ·rw[Wab];exact small1000 (by omega)
    ·rw[Wad]at hd
     cases zz:l[j]? with
     |none=>rw[zz]at hd;cases hd
     |some g=>
      rw[zz]at hd;have hd:D.int g=d:=by simpa using hd
      subst hd;refine Zbc ⟨rfl,Zhp (Za0 (Zau (Zac rfl (Zac rfl (Zh9 ⟨_,rfl,?_⟩)))))⟩;show if decide (g=hiI (l.getD t.1.toNat 0) (l.getD t.2.toNat 0))=true then _ else _
      by_cases hg:g=hiI (l.getD t.1.toNat 0) (l.getD t.2.toNat 0)
      ·rw[decide_eq_true hg]
       refine iteT (Zac rfl ⟨?_,_,rfl⟩);dsimp only;rw[if_pos hg];rfl
      ·rw[decide_eq_false hg]
       refine iteF (Zac rfl ⟨?_,_,rfl⟩);dsimp only;rw[if_neg hg]
    ·have e1:((l.map D.int).filter λ_=>true).map (λd=>match d with|.int g=>D.int (if g=hiI (l.getD t.1.toNat 0) (l.getD t.2.toNat 0) then loI (l.getD t.1.toNat 0) (l.getD t.2.toNat 0) else g)|d=>d)=(marksL N (ts.take (i+1))).map D.int:=by
      rw[hs,Wa5.mpr (by simp),Wan];unfold mergeL;rw[Wan];rfl
     rw[e1];exact⟨_,_,_,_,rfl⟩
  ·rintro Δ2 ⟨x4,x5,x6,x7,rfl⟩
   rw[Wab,Wb5];exact⟨_,_,_,_,rfl⟩
 rintro Δ1 ⟨x4,x5,x6,x7,rfl⟩;have hl:=Zb5 N ts;refine Zde (Zg6 (by decide) (Zc3 (Zbp (Zv6 (Zab (Zac rfl (Zaf ⟨_,rfl,by omega,λms m1 m2=>⟨_,rfl,_,Or.inl rfl,?_,λ_=>true,λd=>match d with|.int g=>lstI (partI (marksL N ts) N g)|d=>d,λi d hd=>?_,?_⟩⟩)))))))
 ·have:=Firsts.len ⟨m1,m2⟩
  rw[Wab];exact small1000 (by omega)
 ·rw[Wad]at hd
  cases zz:ms[i]? with
  |none=>rw[zz]at hd;cases hd
  |some g=>
   rw[zz]at hd;have hd:D.int g=d:=by simpa using hd
   subst hd;refine Zbc ⟨rfl,Zbi (by decide) (Za5 (Zab (Zac rfl (Zaf ⟨_,rfl,by omega,by omega,?_,λd=>match d with|.int p=>decide ((marksL N ts).getD p.toNat 0=g)|_=>false,λd=>d,λj d hd=>?_,?_⟩))))⟩
   ·rw[Zaz];exact small1000 (by omega)
   ·obtain⟨hj,rfl⟩:=Zbo hd
    refine Za0 (Zau (Zau (Zac rfl (Zac rfl (Zb7 (Zh2 hl (by omega) (by omega)) (Zac rfl (Zh9 ⟨_,rfl,rfl,?_⟩)))))));split
    ·exact Zac rfl ⟨rfl,_,rfl⟩
    ·exact⟨_,rfl⟩
   ·refine⟨?_,_,rfl⟩
    rw[Wak];exact Zuy _ _ _ _ (λ_=>rfl) _ λ_=>rfl
 ·refine⟨_,rfl,?_⟩
  rw[Zso (l:=marksL N ts) (n:=N) _ (λ_=>rfl) _ λ_=>rfl];exact q ms ⟨m1,m2⟩
end
section
variable {f:Int->Int}{m:Nat}(F:OneOne f m)
include F
end
theorem Zcz (l:List Int) (a b:Int) {p:Nat}(hp:p<l.length):(mergeL l a b).getD p 0=if l.getD p 0=hiI (l.getD a.toNat 0) (l.getD b.toNat 0) then loI (l.getD a.toNat 0) (l.getD b.toNat 0) else l.getD p 0:=by
 unfold mergeL;rw[Wac,Wad,Waa hp,Wac (l:=l) (i:=p),Waa hp];rfl
theorem lohi (a b:Int):(a=loI a b\/a=hiI a b)/\(b=loI a b\/b=hiI a b):=by
 unfold loI hiI;constructor
 ·by_cases h:b<a
  ·right;rw[if_neg (by omega)]
  ·left;rw[if_neg h]
 ·by_cases h:b<a
  ·left;rw[if_pos h]
  ·by_cases h2:b > a
   ·right;rw[if_pos h2]
   ·left;rw[if_neg h];omega
theorem Zlt (l:List Int) {t:Int × Int}(h1:t.1.toNat<l.length) (h2:t.2.toNat<l.length):(mergeL l t.1 t.2).getD t.1.toNat 0=loI (l.getD t.1.toNat 0) (l.getD t.2.toNat 0)/\(mergeL l t.1 t.2).getD t.2.toNat 0=loI (l.getD t.1.toNat 0) (l.getD t.2.toNat 0):=by
 obtain⟨a,b⟩:=lohi (l.getD t.1.toNat 0) (l.getD t.2.toNat 0);rw[Zcz _ _ _ h1,Zcz _ _ _ h2];constructor
 ·split
  ·rfl
  ·rename_i h;rcases a with a|a
   ·exact a
   ·exact absurd a h
 ·split
  ·rfl
  ·rename_i h;rcases b with b|b
   ·exact b
   ·exact absurd b h
section
variable {N:Nat}{ts:List (Int × Int)}(hW:WebOk (N:Int) ts)
include hW
theorem Zil:∀i,i<=ts.length->∀t∈ts.take i,(marksL N (ts.take i)).getD t.1.toNat 0=(marksL N (ts.take i)).getD t.2.toNat 0
 |0,_,t,ht=>by simp at ht
 |i+1,hi,t,ht=>by
  have hlt:i<ts.length:=hi;have z:=Waa hlt;rw[Zdb z];have hl:=Zb5 N (ts.take i);have hu:=hW.tie _ (Wa7 hlt);rw[Wcd,z]at ht;rcases Wbl.mp ht with h|h
  ·have ih:=Zil i (by omega) t h
   have hr:=hW.tie t (List.mem_of_mem_take h);rw[Zcz _ _ _ (by omega),Zcz _ _ _ (by omega),ih]
  ·have e:t=ts[i]:=by simpa using h
   subst e;obtain⟨a,b⟩:=Zlt (marksL N (ts.take i)) (t:=ts[i]) (by omega) (by omega);rw[a,b]
theorem Zpa {t:Int × Int}(ht:t∈ts):(marksL N ts).getD t.1.toNat 0=(marksL N ts).getD t.2.toNat 0:=by
 have:=Zil hW ts.length (Wah _) t (by rw[Wb5];exact ht);rw[Wb5]at this;exact this
end
section
variable {N:Nat}{ts:List (Int × Int)}{o:List (List Int)}(hW:WebOk (N:Int) ts) (hO:OrdOk (N:Int) ts o)
include hW
include hO
end
theorem Zqa {l:List Int}{a b:Int}(h:l.getD a.toNat 0=l.getD b.toNat 0):mergeL l a b=l:=by
 unfold mergeL
 conv=>rhs;rw[<- Wd0 l]
 apply Wa9;intro f _;have e1:hiI (l.getD a.toNat 0) (l.getD b.toNat 0)=l.getD a.toNat 0:=by rw[<- h];unfold hiI;split <;> rfl
 have e2:loI (l.getD a.toNat 0) (l.getD b.toNat 0)=l.getD a.toNat 0:=by rw[<- h];unfold loI;split <;> rfl
 rw[e1,e2];split
 ·rename_i z;exact z.symm
 ·rfl
structure Goes (N:Nat) (l l':List Int) (lo hi:Int):Prop where
 len:l.length=N
 len':l'.length=N
 lt:lo<hi
 inL:lo∈l
 inH:hi∈l
 to:∀p:Nat,p<N->l'.getD p 0=if l.getD p 0=hi then lo else l.getD p 0
theorem Zlm {N:Nat}{l:List Int}{t:Int × Int}(hl:l.length=N) (h1:t.1.toNat<N) (h2:t.2.toNat<N) (hne:l.getD t.1.toNat 0≠l.getD t.2.toNat 0) :
  Goes N l (mergeL l t.1 t.2) (loI (l.getD t.1.toNat 0) (l.getD t.2.toNat 0)) (hiI (l.getD t.1.toNat 0) (l.getD t.2.toNat 0)):=by
 have m1:l.getD t.1.toNat 0∈l:=by rw[Wac,Waa (by omega:t.1.toNat<l.length)];exact Wa7 _
 have m2:l.getD t.2.toNat 0∈l:=by rw[Wac,Waa (by omega:t.2.toNat<l.length)];exact Wa7 _
 refine⟨hl,by rw[Zgm,hl],?_,?_,?_,λp hp=>Zcz _ _ _ (by omega)⟩
 ·unfold loI hiI;split <;> split <;> omega
 ·unfold loI;split
  ·exact m2
  ·exact m1
 ·unfold hiI;split
  ·exact m2
  ·exact m1
section
variable {N:Nat}{l l' ms ms':List Int}{lo hi:Int}(G:Goes N l l' lo hi)
theorem Zrq {l:List Int}{x:Int}(h:x∈l):∃p:Nat,p<l.length/\l.getD p 0=x:=by
 obtain⟨p,hp,rfl⟩:=List.getElem_of_mem h;exact⟨p,hp,by rw[Wac,Waa hp];rfl⟩
theorem Zn6 {l:List Int}{p:Nat}(h:p<l.length):l.getD p 0∈l:=by
 rw[Wac,Waa h];exact Wa7 h
include G
theorem Goes.mem {x:Int}:x∈l'↔x∈l/\x≠hi:=by
 have h1:=G.len;have h2:=G.len';have h3:=G.lt;constructor
 ·intro h
  obtain⟨p,hp,e⟩:=Zrq h;rw[G.to p (by omega)]at e;split at e
  ·rw[<- e];exact⟨G.inL,by omega⟩
  ·rename_i z
   rw[<- e];exact⟨Zn6 (by omega),z⟩
 ·rintro⟨h,hne⟩
  obtain⟨p,hp,e⟩:=Zrq h;have:l'.getD p 0=x:=by rw[G.to p (by omega),e,if_neg hne]
  rw[<- this];exact Zn6 (by omega)
end
section
variable {f:Int->Int}{m:Nat}(F:OneOne f m)
include F
end
section
variable {f:Int->Int}{m:Nat}(F:OneOne f m) {a b:Int}(a0:0<=a) (a1:a<(m:Int)) (b0:0<=b) (b1:b<(m:Int)) (hab:a≠b) (hin:b∈orb f a)
include F a0 a1 b0 b1 hab hin
end
section
variable {P:Program}{w:World}{K:W.Frag}{mg:Str->Option Value}{base:Heap}{f:Addr}{fd:FuncData}
theorem Zf4:∀l:List Int,∃ms,Firsts ms l
 |[]=>⟨[],.nil,λx=>Iff.rfl⟩
 |x::l=>by
  obtain⟨ms,h1,h2⟩:=Zf4 l;by_cases c:x∈ms
  ·refine⟨ms,h1,λy=>?_⟩
   rw[Wat,h2];exact⟨.inr,λz=>z.elim (λq=>q ▸ (h2 x).mp c) id⟩
  ·refine⟨(ms.filter λy=>decide (y<x))++x::(ms.filter λy=>decide (x<y)),?_,λy=>?_⟩
   ·rw[List.pairwise_append,List.pairwise_cons]
    refine⟨List.Pairwise.filter _ h1,⟨λa ha=>?_,List.Pairwise.filter _ h1⟩,λa ha b hb=>?_⟩
    ·rw[Wbx,decide_eq_true_iff]at ha;exact ha.2
    ·rw[Wbx,decide_eq_true_iff]at ha
     rcases Wat.mp hb with z|z
     ·rw[z];exact ha.2
     ·rw[Wbx,decide_eq_true_iff]at z;omega
   ·rw[Wbl,Wat,Wat,Wbx,Wbx,decide_eq_true_iff,decide_eq_true_iff,h2]
    constructor
    ·rintro(z|z|z)
     ·exact .inr z.1
     ·exact .inl z
     ·exact .inr z.1
    ·rintro(z|z)
     ·exact .inr (.inl z)
     ·rcases Int.lt_trichotomy y x with q|q|q
      ·exact .inl ⟨z,q⟩
      ·exact .inr (.inl q)
      ·exact .inr (.inr ⟨z,q⟩)
theorem Zrv {N r:Nat}(hr:r<N):(marksL N []).getD r 0=(r:Int):=by
 show ((Wau N).map λi:Nat=>(i:Int)).getD r 0=_;rw[Wac,Wad,Wcq hr];rfl
end
section
variable {f:Int->Int}{m:Nat}(F:OneOne f m) {a b:Int}(a0:0<=a) (a1:a<(m:Int)) (b0:0<=b) (b1:b<(m:Int)) (hout:b ∉ orb f a)
include F a0 a1 b0 b1 hout
end
section
variable {N:Nat}{ts:List (Int × Int)}{o:List (List Int)}(hW:WebOk (N:Int) ts) (hO:OrdOk (N:Int) ts o)
include hW hO
end
structure Own (N:Nat) (ts:List (Int × Int)) (S:Int->Bool):Prop where
 tie:∀t∈ts,S t.1=S t.2
theorem Zj2 {N:Nat}{ts:List (Int × Int)}{S:Int->Bool}(hW:WebOk (N:Int) ts) (hS:Own N ts S):∀k,k<=ts.length->∀p:Nat,p<N->S ((marksL N (ts.take k)).getD p 0)=S (p:Int)
 |0,_,p,hp=>by
  rw[List.take_zero];show S (((Wau N).map λi:Nat=>(i:Int)).getD p 0)=_;rw[Wac,Wad,Wcq hp];rfl
 |k+1,hk,p,hp=>by
  have hlt:k<ts.length:=hk;have hl:=Zb5 N (ts.take k);have ht:=hW.tie _ (Wa7 hlt);have ih:=Zj2 hW hS k (by omega);rw[Zdb (Waa hlt),Zcz _ _ _ (by omega)];have s1:=ih ts[k].1.toNat (by omega);have s2:=ih ts[k].2.toNat (by omega);have st:=hS.tie _ (Wa7 hlt);rw[show ((ts[k].1.toNat:Nat):Int)=ts[k].1 by omega]at s1;rw[show ((ts[k].2.toNat:Nat):Int)=ts[k].2 by omega]at s2;split
  ·rename_i c
   have sp:=ih p hp;rw[c]at sp;rw[<- sp];unfold loI hiI;split <;> split
   all_goals first|rfl|rw[s2,s1,st]|rw[s1,s2,st]
  ·exact ih p hp
section
variable {N:Nat}{ts:List (Int × Int)}{o:List (List Int)}{S:Int->Bool}(hW:WebOk (N:Int) ts) (hO:OrdOk (N:Int) ts o) (hS:Own N ts S)
include hW hO hS
end
section
variable {P:Program}{w:World}{K:W.Frag}{mg:Str->Option Value}{base:Heap}{f:Addr}{fd:FuncData}
def OneP (N:Nat) (ts:List (Int × Int)):Prop:=∀ms,Firsts ms (marksL N ts)->ms.length<=1
def fRef:DSp:=λds Post=>∃n ts,ds=[encWeb n ts]/\WebOk n ts/\OneP n.toNat ts/\Post .non
theorem Zt3 (mb:Mb mg) (C47:Callee P w K mg base 1 "parts_of" ["web"] (spN K fParts)) (F:Fun K "refuse_parts" "refuse_parts" s_refuse_parts f fd):FnOk P w K mg base CX0 2 f fd ["web"] (spD K fRef):=by
 refine F.ok sc_refuse_parts (Zb8 λds Post h=>by obtain⟨_,_,rfl,_⟩:=h;rfl) (λcdv A outer s H vs Q E hr h=>?_);have hu:=Zb9 hr;refine⟨_,(Zah (Zbq (Zaq Zp5 (Zai (lenK K) rfl (mb "len" (by decide)) Za7 (Zaa (Za2 C47 (hr.mono (by decide)) (Zaa (pv 0) Zad)) Zad)) Zag (nomark _)) Zmx Zay)),Zeu (λds Post hf=>?_) h⟩;obtain⟨n,ts,rfl,hW,h1,q⟩:=hf;refine⟨by simp,?_⟩;dsimp only[startD,Wbt,Wbp,Wbd,Waj];refine Zbv (Za0 (Zau (Za9 (Zab (Zbp (Zd1 (Zab (Zac rfl (Zaf ⟨n,ts,rfl,hW,λms hm=>⟨_,rfl,?_⟩⟩)))))))));refine Zaf (Zb6 (Or.inl rfl) ?_);have:=h1 ms hm;rw[Wab,show (partsL n.toNat ts ms).length=ms.length from Wab _];refine Za3 (Znm ⟨_,rfl,?_⟩);rw[decide_eq_false (by omega)];exact iteF (Za1 q)
def mk (N:Nat) (ts:List (Int × Int)) (p:Int):Int:=(marksL N ts).getD p.toNat 0
theorem Zm8 {N:Nat}{ts:List (Int × Int)}(hW:WebOk (N:Int) ts) {g:Int->Int}(hg:∀t∈ts,g t.1=g t.2) {p:Int}(p0:0<=p) (p1:p<(N:Int)):g (mk N ts p)=g p:=by
 have:=Zj2 (S:=λx=>decide (g x=g p)) hW ⟨λt ht=>by rw[hg t ht]⟩ ts.length (Wah _) p.toNat (by omega);rw[Wb5,show ((p.toNat:Nat):Int)=p by omega,decide_eq_true rfl]at this;exact of_decide_eq_true this
theorem Zog {N:Nat}{ts:List (Int × Int)}(hW:WebOk (N:Int) ts) {g:Int->Int}(hg:∀t∈ts,g t.1=g t.2) {p q:Int}(p0:0<=p) (p1:p<(N:Int)) (q0:0<=q) (q1:q<(N:Int)) (h:mk N ts p=mk N ts q):g p=g q:=by
 rw[<- Zm8 hW hg p0 p1,<- Zm8 hW hg q0 q1,h]
theorem Zq9 {N:Nat}{ts:List (Int × Int)}(hW:WebOk (N:Int) ts) {t:Int × Int}(ht:t∈ts):mk N ts t.1=mk N ts t.2:=Zpa hW ht
theorem Zny {N:Nat}{ts:List (Int × Int)}{p:Int}(p0:0<=p) (p1:p<(N:Int)):mk N ts p∈marksL N ts:=Zn6 (by rw[Zb5];omega)
theorem Zfq {n:Int}{ts:List (Int × Int)}{o:List (List Int)}(hW:WebOk n ts) (hO:OrdOk n ts o) {p:Nat}{r:List Int}(hr:o[p]?=some r) {y:Int}(hy:y∈r):0<=y/\y<((2*ts.length:Nat):Int)/\rowAt ts o y.toNat=r/\folOf ts o y.toNat=nextIn r y:=by
 obtain⟨k,hk,hp,rfl⟩:=(hO.row p r hr).mem.mp hy;have er:rowAt ts o k=r:=by unfold rowAt;rw[hp,Wak,Wac,hr];rfl
 rw[Wak];refine⟨by omega,by omega,er,?_⟩;unfold folOf;rw[er]
end
theorem Zk9 {r:List Int}{S:Int->Prop}(hS:∀x∈r,S x->S (nextIn r x)) (nd:r.Nodup) {x:Int}(hx:x∈r) (h:S x):∀y∈r,S y:=by
 have step:∀k:Nat,S (r.getD ((r.idxOf x+k) % r.length) 0):=by
  intro k;have hl:0<r.length:=Wcf hx
  induction k with
  |zero=>
   obtain⟨h1,h2,_⟩:=Za4 hx;rw[Nat.add_zero,Wdq h1,Wac,h2];exact h
  |succ k ih=>
   have hm:(r.idxOf x+k) % r.length<r.length:=Wc5 _ hl;have hin:r.getD ((r.idxOf x+k) % r.length) 0∈r:=by rw[Wac,Waa hm];exact Wa7 hm
   have e:=hS _ hin ih;have ei:r.idxOf (r.getD ((r.idxOf x+k) % r.length) 0)=(r.idxOf x+k) % r.length:=Zdo nd (by rw[Wac,Waa hm];rfl);unfold nextIn at e;rw[ei]at e;have e2:((r.idxOf x+k) % r.length+1) % r.length=(r.idxOf x+(k+1)) % r.length:=by rw[Nat.mod_add_mod,Nat.add_assoc]
   rw[e2]at e;exact e
 intro y hy;obtain⟨h1,h2,_⟩:=Za4 hx;obtain⟨g1,g2,_⟩:=Za4 hy;have:=step (r.idxOf y+r.length-r.idxOf x);rw[show r.idxOf x+(r.idxOf y+r.length-r.idxOf x)=r.idxOf y+r.length by omega,Nat.add_mod_right,Wdq g1,Wac,g2]at this;exact this
theorem Zss {N:Nat}{ts:List (Int × Int)}(h:OneP N ts) {p q:Int}(p0:0<=p) (p1:p<(N:Int)) (q0:0<=q) (q1:q<(N:Int)):mk N ts p=mk N ts q:=by
 obtain⟨ms,hm⟩:=Zf4 (marksL N ts);have hl:=h ms hm;have a:=(hm.2 _).mpr (Zny (ts:=ts) p0 p1);have b:=(hm.2 _).mpr (Zny (ts:=ts) q0 q1)
 match ms,hl,a,b with
 |[c],_,a,b=>rw[Waz]at a b;rw[a,b]
 |[],_,a,_=>cases a
theorem Zfy {N:Nat}{ts:List (Int × Int)}{o:List (List Int)}(hW:WebOk (N:Int) ts) (hO:OrdOk (N:Int) ts o) (h1:OneP N ts) {S:Int->Prop}(hp:∀x:Nat,x<2*ts.length->S (x:Int)->S (partner x:Int)) (hf:∀x:Nat,x<2*ts.length->S (x:Int)->S (folOf ts o x)) {e:Nat}(he:e<2*ts.length) (hS:S (e:Int)):∀x:Nat,x<2*ts.length->S (x:Int):=by
 have place:∀x y:Nat,x<2*ts.length->y<2*ts.length->placeAt ts x=placeAt ts y->S (x:Int)->S (y:Int):=by
  intro x y hx hy exy sx;obtain⟨g1,g2,g3⟩:=Zce hW hO hx;obtain⟨k1,k2,k3⟩:=Zce hW hO hy;have er:rowAt ts o y=rowAt ts o x:=by rw[exy]at g1;rw[g1]at k1;exact(Wa4.inj k1).symm
  rw[er]at k3;refine Zk9 (S:=S) (λz hz sz=>?_) g2.nodup g3 sx _ k3;obtain⟨z0,z1,_,zf⟩:=Zfq hW hO g1 hz;have:=hf z.toNat (by omega) (by rw[Wb8 z0];exact sz);rw[zf]at this;exact this
 classical
 have hg:∀t∈ts,(λp:Int=>if ∃y:Nat,y<2*ts.length/\S (y:Int)/\placeAt ts y=p then (1:Int) else 0) t.1=(λp:Int=>if ∃y:Nat,y<2*ts.length/\S (y:Int)/\placeAt ts y=p then (1:Int) else 0) t.2:=λt ht=>by
  obtain⟨i,hi⟩:=Wbn.mp ht;have hil:=(Waf.mp hi).1;have pa:placeAt ts (2*i)=t.1:=by unfold placeAt;rw[show 2*i / 2=i by omega,hi];simp
  have pb:placeAt ts (2*i+1)=t.2:=by unfold placeAt;rw[show (2*i+1) / 2=i by omega,hi];simp
  have q1:partner (2*i)=2*i+1:=by unfold partner;split <;> omega
  have q2:partner (2*i+1)=2*i:=by unfold partner;split <;> omega
  show (if _ then (1:Int) else 0)=if _ then 1 else 0
  have:(∃y:Nat,y<2*ts.length/\S (y:Int)/\placeAt ts y=t.1) ↔ ∃y:Nat,y<2*ts.length/\S (y:Int)/\placeAt ts y=t.2:=by
   constructor
   ·rintro⟨y,h1,h2,h3⟩
    have:=hp (2*i) (by omega) (place y (2*i) h1 (by omega) (h3.trans pa.symm) h2);rw[q1]at this;exact⟨2*i+1,by omega,this,pb⟩
   ·rintro⟨y,h1,h2,h3⟩
    have:=hp (2*i+1) (by omega) (place y (2*i+1) h1 (by omega) (h3.trans pb.symm) h2);rw[q2]at this;exact⟨2*i,by omega,this,pa⟩
  by_cases c:∃y:Nat,y<2*ts.length/\S (y:Int)/\placeAt ts y=t.1
  ·rw[if_pos c,if_pos (this.mp c)]
  ·rw[if_neg c,if_neg λz=>c (this.mpr z)]
 intro x hx;obtain⟨p0,p1⟩:=Zci hW he;obtain⟨q0,q1⟩:=Zci hW hx;have:=Zog (g:=(λp:Int=>if ∃y:Nat,y<2*ts.length/\S (y:Int)/\placeAt ts y=p then (1:Int) else 0)) hW hg p0 p1 q0 q1 (Zss h1 p0 p1 q0 q1);have this:(if ∃y:Nat,y<2*ts.length/\S (y:Int)/\placeAt ts y=placeAt ts e then (1:Int) else 0)=if ∃y:Nat,y<2*ts.length/\S (y:Int)/\placeAt ts y=placeAt ts x then 1 else 0:=this
 rw[if_pos ⟨e,he,hS,rfl⟩]at this;by_cases c:∃y:Nat,y<2*ts.length/\S (y:Int)/\placeAt ts y=placeAt ts x
 ·obtain⟨y,h1,h2,h3⟩:=c
  exact place y x h1 hx h3 h2
 ·rw[if_neg c]at this;omega
section
variable {P:Program}{w:World}{K:W.Frag}{mg:Str->Option Value}{base:Heap}{f:Addr}{fd:FuncData}
theorem eqL {α:Type}[DecidableEq α] (f:α -> D) (n:Nat) (h:∀x y,eqF n (f x) (f y)=decide (x=y)):∀a b:List α,((a.map f).length == (b.map f).length && ((a.map f).zip (b.map f)).all λp=>eqF n p.1 p.2)=decide (a=b)
 |[],[]=>rfl
 |[],y::b=>by rw[decide_eq_false (by simp)];rfl
 |x::a,[]=>by rw[decide_eq_false (by simp)];rfl
 |x::a,y::b=>by
  have ih:=eqL f n h a b;rw[Wa3,Wa3,War,War,Wci,Wdk,h];have e:((a.map f).length+1 == (b.map f).length+1)=((a.map f).length == (b.map f).length):=by
   rw[Wcb,beq_iff_eq,beq_iff_eq];omega
  rw[e];by_cases c:x=y
  ·rw[decide_eq_true c,Wdl,ih]
   by_cases c2:a=b
   ·rw[decide_eq_true c2,decide_eq_true (by rw[c,c2])]
   ·rw[decide_eq_false c2,decide_eq_false (λz=>c2 (List.cons.inj z).2)]
  ·rw[decide_eq_false c,Wdy,Bool.and_false,decide_eq_false (λz=>c (List.cons.inj z).1)]
end
noncomputable def numS (ts:List (Int × Int)) (o:List (List Int)) (e:Nat):List Int:=by
 classical exact if h:∃J,NumAt pI (fI ts o) (e:Int) J then numF ts o e (Classical.choose h) else []
theorem Zfz {ts:List (Int × Int)}{o:List (List Int)}{e J:Nat}(h:NumAt pI (fI ts o) (e:Int) J):numF ts o e J=numS ts o e:=by
 have hx:∃J,NumAt pI (fI ts o) (e:Int) J:=⟨J,h⟩;unfold numS;rw[dif_pos hx,Zqu h (Classical.choose_spec hx)]
structure NumOk (ts:List (Int × Int)) (o:List (List Int)) (e:Nat) (l:List Int):Prop where
 nd:l.Nodup
 len:l.length<=2*ts.length
 here:(e:Int)∈l
 cl:∀x∈l,0<=x/\x<((2*ts.length:Nat):Int)/\pI x∈l/\fI ts o x∈l
theorem Zfj {n:Int}{ts:List (Int × Int)}{o:List (List Int)}(hW:WebOk n ts) (hO:OrdOk n ts o) {e J:Nat}(he:e<2*ts.length) (hJ:NumAt pI (fI ts o) (e:Int) J):NumOk ts o e (numS ts o e):=by
 rw[<- Zfz hJ];have I:NumI pI (fI ts o) (2*ts.length) (e:Int) J (numF ts o e J):=Zex (λx=>Zlg (m:=ts.length) x) (Zk8 hW hO) (by omega) (by omega) hJ.2;refine⟨I.nd,Zjl I,?_,λx hx=>?_⟩
 ·have:=Zht I.he.2;rw[I.he.1]at this;exact this
 have hr:=I.rg x hx;obtain⟨i,hi⟩:=Wbn.mp hx;have hil:=(Waf.mp hi).1;have eJ:(numF ts o e J).length=J:=hJ.1;have c:=I.cl i (by omega);rw[Wac,hi]at c;exact⟨hr.1,hr.2,c.1,c.2⟩
theorem Zfb {N:Nat}{ts:List (Int × Int)}{o:List (List Int)}(hW:WebOk (N:Int) ts) (hO:OrdOk (N:Int) ts o) (h1:OneP N ts) {e:Nat}(he:e<2*ts.length) {l:List Int}(hl:NumOk ts o e l):(∀x:Nat,x<2*ts.length->(x:Int)∈l)/\l.length=2*ts.length:=by
 have all:=Zfy hW hO h1 (S:=λx=>x∈l) (λx _ sx=>(hl.cl x sx).2.2.1) (λx _ sx=>(hl.cl x sx).2.2.2) he hl.here;refine⟨all,?_⟩;have:=Zbs (l:=(Wau (2*ts.length)).map λi:Nat=>(i:Int)) (m:=l) (by
  rw[Wa6,Wbv];exact Wbw.imp λh=>by omega) λx hx=>by
   obtain⟨i,hi,rfl⟩:=Wav.mp hx;exact all i (Wa2.mp hi)
 rw[Wab,Wbe]at this;have:=hl.len;omega
noncomputable def cdL (ts:List (Int × Int)) (o:List (List Int)) (l:List Int):List (Int × Int):=l.map λx=>(((l.idxOf (pI x):Nat):Int),((l.idxOf (folOf ts o x.toNat):Nat):Int))
theorem Zuw (ts:List (Int × Int)) (o:List (List Int)) (l:List Int):l.map (cdP ts o l)=(cdL ts o l).map encTie:=by unfold cdL;rw[Wan];rfl
theorem Zha (ts:List (Int × Int)) (o:List (List Int)) (l:List Int):(cdL ts o l).length=l.length:=Wab _
theorem Zti (x y:Int × Int):eqF 2 (encTie x) (encTie y)=decide (x=y):=by
 show (true && ((x.1 == y.1) && ((x.2 == y.2) && true)))=_;rw[Wcb];simp[Prod.ext_iff]
theorem Zj4 (A B:List (Int × Int)):eqF 3 (.tup (A.map encTie)) (.tup (B.map encTie))=decide (A=B):=eqL encTie 2 Zti A B
theorem Zjm (A:List (Int × Int)):Dp 3 (.tup (A.map encTie)):=λd hd=>by
 obtain⟨t,_,rfl⟩:=Wav.mp hd;intro d hd;rcases Wat.mp hd with rfl|hd
 ·trivial
 ·rcases Wat.mp hd with rfl|hd
  ·trivial
  ·cases hd
noncomputable def namesR (ts:List (Int × Int)) (o:List (List Int)) (us:List (Int × Int)) (v:List (List Int)) (e:Nat):List Int:=(Wau (2*ts.length)).map λk:Nat=>(numS us v e).getD ((numS ts o 0).idxOf (k:Int)) 0
noncomputable def renL (ts:List (Int × Int)) (o:List (List Int)) (us:List (Int × Int)) (v:List (List Int)):List (List Int):=
 if ts.length=0 then (if us.length=0 then [[]] else []) else ((Wau (2*us.length)).filter λe=>decide (cdL us v (numS us v e)=cdL ts o (numS ts o 0))).map (namesR ts o us v)
def fRen:NSp:=λds Post=>∃(N:Nat) (ts:List (Int × Int)) (o:List (List Int)) (M:Nat) (us:List (Int × Int)) (v:List (List Int)),ds=[encWeb (N:Int) ts,encOrd o,encWeb (M:Int) us,encOrd v]/\WebOk (N:Int) ts/\OrdOk (N:Int) ts o/\OneP N ts/\WebOk (M:Int) us/\OrdOk (M:Int) us v/\Post ((renL ts o us v).map rowD)
section
variable {P:Program}{w:World}{K:W.Frag}{mg:Str->Option Value}{base:Heap}{f:Addr}{fd:FuncData}
theorem Zo1 {Δ:Evt}{c:TT}{ta tb:TE}{Po:OD->Evt->Prop}(h:JT K c Δ λb Δ1=>if b=true then JO K ta Δ1 Po else JO K tb Δ1 Po):JO K (tIf c ta tb) Δ Po:=λg G H σ Q k q=>
 h g G H σ _ k λb G1 H1 Δ1 k1 s1 p1=>by
  cases b with
  |true=>exact(show JO K ta Δ1 Po from p1) g G1 H1 σ Q k1 λa od G2 H2 Δ2 k2 s2 pd p=>q a od G2 H2 Δ2 k2 (s1.trans s2) pd p
  |false=>exact(show JO K tb Δ1 Po from p1) g G1 H1 σ Q k1 λa od G2 H2 Δ2 k2 s2 pd p=>q a od G2 H2 Δ2 k2 (s1.trans s2) pd p
theorem Zm9 (ds:List (Int × Int)):truD (.tup (ds.map encTie))=some (!decide (ds.length=0)):=by
 cases ds <;> rfl
theorem Zu9 (mb:Mb mg) (C46:Callee P w K mg base 3 "numbered_from" ["web","order","end"] (spN K fNum)) (C44:Callee P w K mg base 3 "code_by" ["web","order","ends"] (spD K fCodeBy)) (F:Fun K "renamings" "renamings" s_renamings f fd):FnOk P w K mg base CX0 4 f fd ["one","order","other","its_order"] (spN K fRen):=by
 refine F.ok sc_renamings (Zfw λds Post h=>by obtain⟨_,_,_,_,_,_,rfl,_⟩:=h;rfl) (λcdv A outer s H vs Q E hr h=>?_);have hu:=Zb9 hr;have hv:=Zk2 hr;refine⟨_,(Zae (Zbq (Ze0 (truK K (Zar (ixK K hu) (pv 0) Zag (λ_ _=>rfl)) (λ_=>rfl))) (Zah (Zav (Zg9 (truK K (Zar (ixK K hu) (pv 2) Zag (λ_ _=>rfl)) (λ_=>rfl)) (Zb4 Zad) (Zb4 (Zaa (Zbx Zad) Zad))))) Zay) (Zae (Zap (i:=4) sc_renamings.nd rfl (Or.inr rfl) (Za2 C46 (hr.mono (by decide)) (Zaa (pv 0) (Zaa (pv 1) (Zaa Zag Zad))))) (Zae (Zap (i:=5) sc_renamings.nd rfl (Or.inl rfl) (Za2 C44 (hr.mono (by decide)) (Zaa (pv 0) (Zaa (pv 1) (Zaa (pv 4) Zad))))) (Zae (Zap (i:=6) sc_renamings.nd rfl (Or.inl rfl) (Zb4 Zad)) (Zae (Zcu PassesOwn.never rfl (Za6 rfl (mb "range" (by decide)) (Zaa (Zaw Zdp Zag (Zai (lenK K) rfl (mb "len" (by decide)) Za7 (Zaa (Zar (ixK K hu) (pv 2) Zag (λ_ _=>rfl)) Zad))) Zad)) (Zaj (i:=7) sc_renamings.nd rfl (Or.inl rfl)) (Zae (Zap (i:=8) sc_renamings.nd rfl (Or.inr rfl) (Za2 C46 (hr.mono (by decide)) (Zaa (pv 2) (Zaa (pv 3) (Zaa (pv 7) Zad))))) (Zah (Zbq (Zaq (eqDK K hv) (Za2 C44 (hr.mono (by decide)) (Zaa (pv 2) (Zaa (pv 3) (Zaa (pv 8) Zad)))) (pv 5) (nomark _)) (Zah (Zdi (bmK K PySem.F.plainAttrs_list PySem.F.slot_list_append PySem.F.type_list_append Zdr (pv 6) (Zaa (Za8 (tupK K) rfl (mb "tuple" (by decide)) Zbg (Zaa (Zbd ["old"] (show CompSc (defScope s_renamings) ["one","order","other","its_order","ends","own","told","end","its_ends"] _ ["ends","its_ends"] [4,8] from ⟨rfl,by decide +kernel,by decide +kernel,by decide +kernel,rfl,by decide +kernel⟩) rfl (Za6 rfl (mb "range" (by decide)) (Zaa (Zai (lenK K) rfl (mb "len" (by decide)) Za7 (Zaa (pv 4) Zad)) Zad)) (λ_ _ _ _ _=>(Zaj (i:=0) (show List.Nodup (["old","ends","its_ends"]:List Str) from by decide) rfl (Or.inl rfl))) (λ_ _ _ _ _=>Zba) (λ_ _ _ _ _=>(Zar (ixK K hu) (pv 2) (bmK K PySem.F.plainAttrs_list PySem.F.slot_list_index PySem.F.type_list_index (idxLK K) (pv 1) (Zaa (pv 0) Zad)) (λ_ _=>rfl)))) Zad)) Zad)))) Zay)))) (Zah (Zav (pv 6)))))))),Zn0 (λds Post hf=>?_) h⟩;obtain⟨N,ts,o,M,us,v,rfl,hW,hO,h1,hV,hU,q⟩:=hf;refine⟨by simp,?_⟩;dsimp only[startD,Wbt,Wbp,Wbd,Waj];have hw:=hW.len;have hw2:=hV.len;refine Zbe (λΔ=>ts.length≠0 /\ Δ = [.val (encWeb (N:Int) ts),.val (encOrd o),.val (encWeb (M:Int) us),.val (encOrd v),.any,.any,.any,.any,.any]) ?_ ?_
 ·refine Zbv (Zd9 (Zcw (Zbn (Zb1 rfl (Zip (N:Int) ts)) ⟨_,Zm9 ts,?_⟩)))
  by_cases z:ts.length=0
  ·rw[decide_eq_true z]
   have er:renL ts o us v=if us.length=0 then [[]] else []:=by unfold renL;rw[if_pos z]
   refine iteT (Zde (Zo1 (Zcw (Zbn (Zb1 rfl (Zip (M:Int) us)) ⟨_,Zm9 us,?_⟩))));by_cases y:us.length=0
   ·rw[decide_eq_true y]
    rw[if_pos y]at er;rw[er]at q;exact iteF (Zdk (Zab (Zbw (Zaf ⟨by decide,Zaf ⟨by show 1<=sizeLine;decide,_,rfl,q⟩⟩))))
   ·rw[decide_eq_false y]
    rw[if_neg y]at er;rw[er]at q;exact iteT (Zdk (Zaf ⟨by decide,_,rfl,q⟩))
  ·rw[decide_eq_false z]
   exact iteF (Za1 ⟨z,rfl⟩)
 rintro Δ1 ⟨hz,rfl⟩;have he0:0<2*ts.length:=by omega
 refine Zal (Zax (Zbp (Zd1 (Zab (Zac rfl (Zab (Zac rfl (Zab (Za3 (Zaf ⟨(N:Int),ts,o,0,rfl,hW,hO,he0,λJ hJ=>⟨_,rfl,?_⟩⟩))))))))));have A0:=Zfj hW hO he0 hJ;rw[Zfz hJ];obtain⟨full,fl⟩:=Zfb hW hO h1 he0 A0;refine Zal (Zax (Zbb (Zd5 (Zam (Zak rfl) (Zam (Zak rfl) (Zam (Zak rfl) Zcf))) ⟨(N:Int),ts,o,_,rfl,hW,hO,by have:=A0.len;omega,A0.cl,?_⟩)));rw[Zuw];refine Zal (Zc6 (Zdk (Zaf ⟨by decide,?_⟩)));refine Zbe (λΔ=>∃x7 x8:L2.Slot,Δ = [.val (encWeb (N:Int) ts),.val (encOrd o),.val (encWeb (M:Int) us),.val (encOrd v),.val (.lst ((numS ts o 0).map .int)),.val (.tup ((cdL ts o (numS ts o 0)).map encTie)),.own (.lst ((renL ts o us v).map rowD)),x7,x8]) ?_ ?_
 ·refine Zcv (Za5 (Zab (Zbn (Zcc Zbh (Zfo (Zb1 rfl (Zip (M:Int) us))) (pr_I (Or.inl ⟨by decide,by decide⟩))) (Zaf ⟨_,rfl,?_,?_,?_⟩))))
  ·rw[Wab];omega
  ·rw[Wab];omega
  rw[Wab,show (2*(us.length:Int)).toNat=2*us.length by omega];refine⟨λi Δ=>∃x7 x8:L2.Slot,Δ = [.val (encWeb (N:Int) ts),.val (encOrd o),.val (encWeb (M:Int) us),.val (encOrd v),.val (.lst ((numS ts o 0).map .int)),.val (.tup ((cdL ts o (numS ts o 0)).map encTie)),.own (.lst ((((Wau i).filter λe=>decide (cdL us v (numS us v e)=cdL ts o (numS ts o 0))).map (namesR ts o us v)).map rowD)),x7,x8],⟨_,_,rfl⟩,?_,?_⟩
  ·rintro i d Δ2 hd ⟨x7,x8,rfl⟩
   obtain⟨hi,rfl⟩:=Zbo hd;rw[Wbm];refine Zbu (Zal (Zax (Zbp (Zd1 (Zab (Zac rfl (Zab (Zac rfl (Zab (Zac rfl (Zaf ⟨(M:Int),us,v,i,rfl,hV,hU,hi,λJ' hJ'=>⟨_,rfl,?_⟩⟩)))))))))));have A1:=Zfj hV hU hi hJ';rw[Zfz hJ'];have rs:(Wau (i+1)).filter (λe=>decide (cdL us v (numS us v e)=cdL ts o (numS ts o 0)))=(Wau i).filter (λe=>decide (cdL us v (numS us v e)=cdL ts o (numS ts o 0)))++if cdL us v (numS us v i)=cdL ts o (numS ts o 0) then [i] else []:=by
    rw[List.range_succ,Wcc];congr 1;by_cases c:cdL us v (numS us v i)=cdL ts o (numS ts o 0)
    ·rw[if_pos c];simp[c]
    ·rw[if_neg c];simp[c]
   refine Zbv (Za0 (Zau (Zbb (Zd5 (Zam (Zak rfl) (Zam (Zak rfl) (Zam (Zak rfl) Zcf))) ⟨(M:Int),us,v,_,rfl,hV,hU,by have:=A1.len;omega,A1.cl,?_⟩))));rw[Zuw];refine Zac rfl (Zq6 (n:=3) (by omega) (Zjm _) (Zjm _) rfl rfl ⟨_,rfl,?_⟩);rw[Zj4];by_cases c:cdL us v (numS us v i)=cdL ts o (numS ts o 0)
   ·rw[decide_eq_true c]
    have ll:(numS us v i).length=(numS ts o 0).length:=by have:=congrArg Wbd c;rw[Zha,Zha]at this;exact this
    refine iteT (Zme rfl rfl (Za9 (Zab (Zbi (by decide) (Za5 (Zab (Zbn (Zsd (Zak rfl)) (Zaf ⟨_,rfl,by omega,?_,?_⟩))))))))
    ·rw[Wab];omega
    rw[Wab,Wak];refine⟨by rw[Zaz];exact small1000 (by omega),λ_=>true,λd=>.int ((numS us v i).getD ((numS ts o 0).idxOf (intD d)) 0),λk d hd=>?_,?_⟩
    ·obtain⟨hk,rfl⟩:=Zbo hd
     rw[Wbm];have mem:=full k (by omega);have ik:=(Za4 mem).1;refine Zbc ⟨rfl,Zau (Zac rfl (Zej (Zac rfl ⟨numS ts o 0,rfl,by omega,Zac rfl ⟨_,rfl,mem,Zb7 (d:=.int ((numS us v i).getD ((numS ts o 0).idxOf (k:Int)) 0)) (Zbk ?_) ⟨rfl,_,rfl⟩⟩⟩)))⟩;rw[Wad,Wac,Waa (by omega)];rfl
    have e6:((rngD 0 (numS ts o 0).length).filter λ_=>true).map (λd=>D.int ((numS us v i).getD ((numS ts o 0).idxOf (intD d)) 0))=(namesR ts o us v i).map D.int:=by
     rw[Wa5.mpr (by simp),fl];unfold namesR rngD;rw[Wan,Wan];exact Wa9 λk _=>by show D.int ((numS us v i).getD ((numS ts o 0).idxOf (0+(k:Int))) 0)=_;rw[Wbm];rfl
    rw[e6];refine Zaf (Zcb (Or.inl rfl) ⟨_,_,rfl,rfl,?_,.val (.int (i:Int)),.val (.lst ((numS us v i).map .int)),?_⟩)
    ·rw[Wab,Wab]
     exact small1000 (Wbu (Wcw _ _) (by rw[Wbe];omega))
    ·rw[rs,if_pos c,Wa1,Wa1];rfl
   ·rw[decide_eq_false c]
    refine iteF (Za1 ⟨.val (.int (i:Int)),.val (.lst ((numS us v i).map .int)),?_⟩);rw[rs,if_neg c,Wbk];rfl
  ·rintro Δ2 ⟨x7,x8,rfl⟩
   rw[Zaz];refine⟨x7,x8,?_⟩;unfold renL;rw[if_neg hz]
 rintro Δ1 ⟨x7,x8,rfl⟩;exact Zde (Zoa rfl ⟨_,rfl,q⟩)
end
def InE (m:Nat) (x:Int):Prop:=0<=x/\x<((2*m:Nat):Int)
structure Cm (ts:List (Int × Int)) (o:List (List Int)) (us:List (Int × Int)) (v:List (List Int)) (σ:Int->Int):Prop where
 len:ts.length=us.length
 rg:∀x,InE ts.length x->InE us.length (σ x)
 inj:∀x y,InE ts.length x->InE ts.length y -> σ x = σ y->x=y
 cp:∀x,InE ts.length x -> σ (pI x)=pI (σ x)
 cf:∀x,InE ts.length x -> σ (fI ts o x)=fI us v (σ x)
def rowOf (σ:Int->Int) (m:Nat):List Int:=(Wau (2*m)).map λk:Nat=>σ (k:Int)
theorem Ziu (σ:Int->Int) (m:Nat):(rowOf σ m).length=2*m:=by unfold rowOf;rw[Wab,Wbe]
theorem Zim {σ:Int->Int}{m k:Nat}(h:k<2*m):(rowOf σ m)[k]?=some (σ (k:Int)):=by unfold rowOf;rw[Wad,Wcq h];rfl
theorem Zj0 {σ τ:Int->Int}{m:Nat}(h:∀x,InE m x -> σ x = τ x):rowOf σ m=rowOf τ m:=by
 unfold rowOf;exact Wa9 λk hk=>h _ ⟨by omega,by have:=Wa2.mp hk;omega⟩
noncomputable def renAt (ts:List (Int × Int)) (o:List (List Int)) (us:List (Int × Int)) (v:List (List Int)) (e:Int):Option (List Int):=by
 classical exact if h:∃σ,Cm ts o us v σ /\ σ 0=e then some (rowOf (Classical.choose h) ts.length) else none
noncomputable def renS (ts:List (Int × Int)) (o:List (List Int)) (us:List (Int × Int)) (v:List (List Int)):List (List Int):=
 if ts.length=0 then (if us.length=0 then [[]] else []) else (Wau (2*us.length)).filterMap λe:Nat=>renAt ts o us v (e:Int)
theorem Zbt {m:Nat}{x:Int}(h:InE m x):∃k:Nat,x=(k:Int)/\k<2*m:=⟨x.toNat,by have:=h.1;omega,by have:=h.1;have:=h.2;omega⟩
theorem Zbz {m k:Nat}(h:k<2*m):InE m (k:Int):=⟨by omega,by omega⟩
section
variable {N:Nat}{ts:List (Int × Int)}{o:List (List Int)}(hW:WebOk (N:Int) ts) (hO:OrdOk (N:Int) ts o) (h1:OneP N ts)
include hW hO
theorem pI_E {x:Int}(h:InE ts.length x):InE ts.length (pI x):=Zlg x h.1 h.2
theorem fI_E {x:Int}(h:InE ts.length x):InE ts.length (fI ts o x):=Zk8 hW hO x h.1 h.2
include h1
theorem Zq4 {σ τ:Int->Int}{us:List (Int × Int)}{v:List (List Int)}(s1:∀x,InE ts.length x -> σ (pI x)=pI (σ x)) (s2:∀x,InE ts.length x -> σ (fI ts o x)=fI us v (σ x)) (t1:∀x,InE ts.length x -> τ (pI x)=pI (τ x)) (t2:∀x,InE ts.length x -> τ (fI ts o x)=fI us v (τ x)) {e:Int}(he:InE ts.length e) (h:σ e = τ e):∀x,InE ts.length x -> σ x = τ x:=by
 obtain⟨k,rfl,hk⟩:=Zbt he;have:=Zfy hW hO h1 (S:=λx=>σ x = τ x) (λx hx sx=>by
  have a:=s1 _ (Zbz hx);have b:=t1 _ (Zbz hx);have sx:σ (x:Int) = τ (x:Int):=sx;show σ (pI (x:Int)) = τ (pI (x:Int));rw[a,b,sx]) (λx hx sx=>by
  have a:=s2 _ (Zbz hx);have b:=t2 _ (Zbz hx);have sx:σ (x:Int) = τ (x:Int):=sx;show σ (fI ts o (x:Int)) = τ (fI ts o (x:Int));rw[a,b,sx]) hk h
 intro x hx;obtain⟨j,rfl,hj⟩:=Zbt hx;exact this j hj
theorem Zew {us:List (Int × Int)}{v:List (List Int)}{σ:Int->Int}{e:Int}(hz:ts.length≠0) (h:Cm ts o us v σ) (h0:σ 0=e):renAt ts o us v e=some (rowOf σ ts.length):=by
 have hx:∃σ,Cm ts o us v σ /\ σ 0=e:=⟨σ,h,h0⟩;unfold renAt;rw[dif_pos hx];obtain⟨c1,c2⟩:=Classical.choose_spec hx;rw[Zj0 (Zq4 hW hO h1 c1.cp c1.cf h.cp h.cf (e:=0) ⟨Wd3 _,by omega⟩ (c2.trans h0.symm))]
end
theorem Zdu {ts:List (Int × Int)}{o:List (List Int)}{us:List (Int × Int)}{v:List (List Int)}{e:Int}(h:¬ ∃σ,Cm ts o us v σ /\ σ 0=e):renAt ts o us v e=none:=by
 unfold renAt;rw[dif_neg h]
theorem Zki {σ:Int->Int}{l:List Int}{x:Int}(inj:∀y∈l,σ y = σ x->y=x):addN (l.map σ) (σ x)=(addN l x).map σ:=by
 unfold addN;by_cases c:x∈l
 ·rw[if_pos c,if_pos (List.mem_map_of_mem c)]
 ·rw[if_neg c,if_neg,Wa1];rfl
  intro z;obtain⟨y,hy,e⟩:=Wav.mp z;exact c (by rw[<- inj y hy e];exact hy)
theorem Zg1 {σ:Int->Int}{l:List Int}{i:Nat}(h:i<l.length):(l.map σ).getD i 0 = σ (l.getD i 0):=by
 rw[Wac,Wac,Wad,Waa h];rfl
section
variable {N:Nat}{ts:List (Int × Int)}{o:List (List Int)}(hW:WebOk (N:Int) ts) (hO:OrdOk (N:Int) ts o)
variable {us:List (Int × Int)}{v:List (List Int)}{σ:Int->Int}
include hW hO
theorem Ztc (h:Cm ts o us v σ) {e:Int}(he:InE ts.length e):∀j,(∀i,i<j->i<(numGo pI (fI ts o) e i).length)->numGo pI (fI us v) (σ e) j=(numGo pI (fI ts o) e j).map σ:=by
 intro j
 induction j with
 |zero=>intro _;rfl
 |succ j ih=>
  intro hj;have I:NumI pI (fI ts o) (2*ts.length) e j (numGo pI (fI ts o) e j):=Zex (λx=>Zlg (m:=ts.length) x) (Zk8 hW hO) he.1 he.2 λi hi=>hj i (by omega);have hjl:=hj j (by omega);show numT pI (fI us v) j (numGo pI (fI us v) (σ e) j)=(numT pI (fI ts o) j (numGo pI (fI ts o) e j)).map σ;rw[ih λi hi=>hj i (by omega)];generalize numGo pI (fI ts o) e j=l at *;unfold numT;have hx:InE ts.length (l.getD j 0):=I.rg _ (Zht hjl);rw[Zg1 hjl,<- h.cp _ hx,<- h.cf _ hx];have a1:∀y∈l,InE ts.length y:=λy hy=>I.rg y hy;rw[Zki λy hy e=>h.inj y _ (a1 y hy) (pI_E hW hO hx) e];rw[Zki λy hy e=>h.inj y _ (by
   rcases Zhz hy with z|z
   ·exact a1 y z
   ·rw[z];exact pI_E hW hO hx) (fI_E hW hO hx) e]
theorem Zmo (h:Cm ts o us v σ) {e:Int}(he:InE ts.length e) {J:Nat}(hJ:NumAt pI (fI ts o) e J):NumAt pI (fI us v) (σ e) J/\numGo pI (fI us v) (σ e) J=(numGo pI (fI ts o) e J).map σ:=by
 have e1:∀j,j<=J->numGo pI (fI us v) (σ e) j=(numGo pI (fI ts o) e j).map σ:=λj hj=>Ztc hW hO h he j λi hi=>hJ.2 i (by omega);refine⟨⟨?_,λi hi=>?_⟩,e1 J (Wah _)⟩
 ·rw[e1 J (Wah _),Wab];exact hJ.1
 ·rw[e1 i (by omega),Wab];exact hJ.2 i hi
end
theorem Zpk {p q:Int->Int}{m:Nat}{e:Int}(hp:∀x,0<=x->x<(m:Int)->0<=p x/\p x<(m:Int)) (hq:∀x,0<=x->x<(m:Int)->0<=q x/\q x<(m:Int)) (h0:0<=e) (h1:e<(m:Int)):∃J,NumAt p q e J:=by
 apply Classical.byContradiction;intro hn;have all:∀J,∀i,i<J->i<(numGo p q e i).length:=by
  intro J
  induction J with
  |zero=>intro i hi;omega
  |succ J ih=>
   intro i hi;by_cases c:i<J
   ·exact ih i c
   ·have:i=J:=by omega
    subst this;have I:=Zex hp hq h0 h1 ih;have:=I.le;by_cases c2:(numGo p q e i).length=i
    ·exact absurd ⟨i,c2,ih⟩ hn
    ·omega
 have I:=Zex hp hq h0 h1 (all (m+1));have:=Zjl I;have:=I.le;omega
section
variable {N:Nat}{ts:List (Int × Int)}{o:List (List Int)}(hW:WebOk (N:Int) ts) (hO:OrdOk (N:Int) ts o) (h1:OneP N ts)
variable {M:Nat}{us:List (Int × Int)}{v:List (List Int)}(hV:WebOk (M:Int) us) (hU:OrdOk (M:Int) us v) (h2:OneP M us)
include hW hO
theorem Zh3 {e:Nat}(he:e<2*ts.length):∃J,NumAt pI (fI ts o) (e:Int) J/\numS ts o e=numGo pI (fI ts o) (e:Int) J/\NumOk ts o e (numS ts o e):=by
 obtain⟨J,hJ⟩:=Zpk (p:=pI) (q:=fI ts o) (m:=2*ts.length) (e:=(e:Int)) (λx=>Zlg (m:=ts.length) x) (Zk8 hW hO) (by omega) (by omega);exact⟨J,hJ,(Zfz hJ).symm,Zfj hW hO he hJ⟩
theorem Zia {e:Nat}(he:e<2*ts.length):(numS ts o e)[0]?=some (e:Int):=by
 obtain⟨J,hJ,e1,_⟩:=Zh3 hW hO he;have I:NumI pI (fI ts o) (2*ts.length) (e:Int) J (numGo pI (fI ts o) (e:Int) J):=Zex (λx=>Zlg (m:=ts.length) x) (Zk8 hW hO) (by omega) (by omega) hJ.2;rw[e1];have:=I.he;rw[Wac,Waa this.2]at this;rw[Waa this.2];exact congrArg some this.1
include h1 hV hU h2
theorem Zqz (hz:ts.length≠0) {e:Nat}(he:e<2*us.length) (hc:cdL us v (numS us v e)=cdL ts o (numS ts o 0)):Cm ts o us v (λx=>(numS us v e).getD ((numS ts o 0).idxOf x) 0)/\(numS us v e).getD ((numS ts o 0).idxOf 0) 0=(e:Int):=by
 obtain⟨_,_,_,A⟩:=Zh3 hW hO (e:=0) (by omega);obtain⟨_,_,_,B⟩:=Zh3 hV hU he;obtain⟨fa,la⟩:=Zfb hW hO h1 (by omega) A;obtain⟨fb,lb⟩:=Zfb hV hU h2 he B;have ha:=Zia hW hO (e:=0) (by omega);have hb:=Zia hV hU he;generalize numS ts o 0=l at *;generalize numS us v e=m at *;have ll:m.length=l.length:=by have:=congrArg Wbd hc;rw[Zha,Zha]at this;exact this
 have inl:∀x,InE ts.length x->x∈l:=λx hx=>by obtain⟨k,rfl,hk⟩:=Zbt hx;exact fa k hk
 have gm:∀x∈l,m[l.idxOf x]?=some (m.getD (l.idxOf x) 0):=λx hx=>by
  have:=(Za4 hx).1;rw[Wac,Waa (by omega)];rfl
 have cd:∀x∈l,m.idxOf (pI (m.getD (l.idxOf x) 0))=l.idxOf (pI x)/\m.idxOf (fI us v (m.getD (l.idxOf x) 0))=l.idxOf (fI ts o x):=λx hx=>by
  have i1:=Za4 hx;have c1:(cdL us v m)[l.idxOf x]?=(cdL ts o l)[l.idxOf x]?:=by rw[hc]
  unfold cdL at c1;rw[Wad,Wad,i1.2.1,gm x hx]at c1;have c2:=Wa4.inj c1;have e1:=congrArg Prod.fst c2;have e2:=congrArg Prod.snd c2;exact⟨by exact Int.ofNat.inj e1,by exact Int.ofNat.inj e2⟩
 have back:∀y∈m,∀k,m.idxOf y=k->m.getD k 0=y:=λy hy k hk=>by
  have:=(Za4 hy).2.1;rw[hk]at this;rw[Wac,this];rfl
 refine⟨⟨by omega,λx hx=>?_,λx y hx hy hxy=>?_,λx hx=>?_,λx hx=>?_⟩,?_⟩
 ·have:=B.cl _ (Waq (gm x (inl x hx)))
  exact⟨this.1,this.2.1⟩
 ·have g1:=gm x (inl x hx)
  have g2:=gm y (inl y hy);have hxy:m.getD (l.idxOf x) 0=m.getD (l.idxOf y) 0:=hxy;rw[<- hxy]at g2;have:l.idxOf x=l.idxOf y:=(Zdo B.nd g1).symm.trans (Zdo B.nd g2);have a1:=(Za4 (inl x hx)).2.1;have a2:=(Za4 (inl y hy)).2.1;rw[this]at a1;exact Wa4.inj (a1.symm.trans a2)
 ·have c:=cd x (inl x hx)
  have:=B.cl _ (Waq (gm x (inl x hx)));exact back _ this.2.2.1 _ c.1
 ·have c:=cd x (inl x hx)
  have:=B.cl _ (Waq (gm x (inl x hx)));exact back _ this.2.2.2 _ c.2
 ·have:l.idxOf 0=0:=Zdo A.nd ha
  rw[this,Wac,hb];rfl
theorem Zkr (hz:ts.length≠0) {σ:Int->Int}(h:Cm ts o us v σ) {e:Nat}(h0:σ 0=(e:Int)):cdL us v (numS us v e)=cdL ts o (numS ts o 0)/\namesR ts o us v e=rowOf σ ts.length:=by
 have z0:InE ts.length 0:=⟨Wd3 _,by omega⟩;obtain⟨J,hJ,e1,A⟩:=Zh3 hW hO (e:=0) (by omega);obtain⟨k1,k2⟩:=Zmo hW hO h z0 hJ;rw[h0]at k1 k2;have e2:numS us v e=(numS ts o 0).map σ:=by rw[<- Zfz k1,e1];exact k2
 obtain⟨fa,la⟩:=Zfb hW hO h1 (by omega) A;generalize hln:numS ts o 0=l at *;have inE:∀x∈l,InE ts.length x:=λx hx=>by have:=A.cl x hx;exact⟨this.1,this.2.1⟩
 have ix:∀x∈l,(l.map σ).idxOf (σ x)=l.idxOf x:=λx hx=>by
  have nd:(l.map σ).Nodup:=by
   rw[Wa6,Wbv];exact List.Pairwise.imp_of_mem (λ{a b} ha hb hab e=>hab (h.inj a b (inE a ha) (inE b hb) e)) (Wa6.mp A.nd)
  exact Zdo nd (by rw[Wad,(Za4 hx).2.1];rfl)
 refine⟨?_,?_⟩
 ·rw[e2]
  unfold cdL;rw[Wan];refine Wa9 λx hx=>?_;have c:=A.cl x hx;show (((((l.map σ).idxOf (pI (σ x)):Nat):Int)),(((l.map σ).idxOf (fI us v (σ x)):Nat):Int))=((((l.idxOf (pI x):Nat):Int)),((l.idxOf (fI ts o x):Nat):Int));rw[<- h.cp x (inE x hx),<- h.cf x (inE x hx),ix _ c.2.2.1,ix _ c.2.2.2]
 ·unfold namesR rowOf
  refine Wa9 λk hk=>?_;have hk:=Wa2.mp hk;have mem:=fa k hk;rw[e2,hln,Zg1 (Za4 mem).1];congr 1;rw[Wac,(Za4 mem).2.1];rfl
theorem Zt2:renL ts o us v=renS ts o us v:=by
 unfold renL renS;by_cases hz:ts.length=0
 ·rw[if_pos hz,if_pos hz]
 ·rw[if_neg hz,if_neg hz]
  have key:∀l:List Nat,(∀e∈l,e<2*us.length)->(l.filter λe=>decide (cdL us v (numS us v e)=cdL ts o (numS ts o 0))).map (namesR ts o us v)=l.filterMap λe:Nat=>renAt ts o us v (e:Int):=by
   intro l
   induction l with
   |nil=>intro _;rfl
   |cons e l ih=>
    intro hl;have he:=hl e Wa0;have ih:=ih λx hx=>hl x (Wax _ hx);by_cases c:cdL us v (numS us v e)=cdL ts o (numS ts o 0)
    ·obtain⟨m1,m2⟩:=Zqz hW hO h1 hV hU h2 hz he c
     rw[List.filter_cons_of_pos (by simpa using c),Wa3,Wce,Zew hW hO h1 hz m1 m2,ih];show namesR ts o us v e::_=rowOf _ _::_;rw[(Zkr hW hO h1 hV hU h2 hz m1 m2).2]
    ·rw[List.filter_cons_of_neg (by simpa using c),Wce,Zdu,ih]
     rintro⟨σ,hs,h0⟩;exact c (Zkr hW hO h1 hV hU h2 hz hs h0).1
  exact key _ λe he=>Wa2.mp he
end
section
variable {P:Program}{w:World}{K:W.Frag}{mg:Str->Option Value}{base:Heap}{f:Addr}{fd:FuncData}
def rowPairsF (r:List Int):List (Int × Int):=(Wau r.length).map λk=>(r.getD k 0,r.getD ((k+1) % r.length) 0)
theorem Zdc (r:List Int):(rowPairsF r).length=r.length:=by simp[rowPairsF]
theorem Zda {r:List Int}{k:Nat}(h:k<r.length):(rowPairsF r)[k]?=some (r.getD k 0,r.getD ((k+1) % r.length) 0):=by
 unfold rowPairsF;rw[Wad,Wcq h];rfl
theorem Zgh (r:List Int):(rowPairsF r).map (·.1)=r:=by
 apply Wb3;intro k;rw[Wad];by_cases h:k<r.length
 ·rw[Zda h,Waa h,Wac,Waa h];rfl
 ·rw[Wcj (by rw[Zdc];omega),Wcj (by omega)];rfl
theorem Zl1 {r:List Int}{x:Int}(h:x∈r):(x,nextIn r x)∈rowPairsF r:=by
 obtain⟨h1,h2,_⟩:=Za4 h;refine Waq (i:=r.idxOf x) ?_;rw[Zda h1];congr 1;rw[Wac,h2];rfl
theorem Zcp (o:List (List Int)):(o.flatMap rowPairsF).map (·.1)=o.flatten:=by
 induction o with
 |nil=>rfl
 |cons r o ih=>rw[List.flatMap_cons,Wa1,ih,Zgh,List.flatten_cons]
theorem Zfc {n:Int}{ts:List (Int × Int)}{o:List (List Int)}(hW:WebOk n ts) (hO:OrdOk n ts o) {e:Nat}(he:e<2*ts.length):valD ((o.flatMap rowPairsF).map encPair) (.inl (e:Int))=some (.int (folOf ts o e)):=by
 obtain⟨g1,g2,g3⟩:=Zce hW hO he;exact Zf9 (by rw[Zcp];exact hO.flat) (List.mem_flatMap.mpr ⟨_,Waq g1,Zl1 g3⟩)
theorem Zlj {A B:List (Int × Int)}{y:Int × Int}(h:((A++y::B).map (·.1)).Nodup):y.1 ∉ A.map (·.1):=by
 rw[Wa1,Wcz]at h;intro hm;exact h.2.2 _ hm _ (by rw[Wa3];exact Wa0) rfl
def fAfter:OSp:=λds Post=>∃n ts o,ds=[encOrd o]/\WebOk n ts/\OrdOk n ts o/\Post (.dct ((o.flatMap rowPairsF).map encPair))
theorem Zpx (mb:Mb mg) (F:Fun K "_law_after" "_law_after" s_law_after f fd):FnOk P w K mg base CX0 1 f fd ["_law_order_here"] (spO K fAfter):=by
 refine F.ok sc_law_after (Zs6 λds Post h=>by obtain⟨_,_,_,rfl,_⟩:=h;rfl) (λcdv A outer s H vs Q E hr h=>?_);have hu:=Zb9 hr;refine⟨_,(Zae (Zap (i:=1) sc_law_after.nd rfl (Or.inl rfl) Zpl) (Zae (Zcu PassesOwn.never rfl (seqK K (pv 0)) (Zaj (i:=2) sc_law_after.nd rfl (Or.inl rfl)) (Zah (Zcu PassesOwn.never rfl (Za6 rfl (mb "range" (by decide)) (Zaa (Zai (lenK K) rfl (mb "len" (by decide)) Za7 (Zaa (pv 2) Zad)) Zad)) (Zaj (i:=3) sc_law_after.nd rfl (Or.inl rfl)) (Zah (Zee (Zar (ixK K hu) (pv 2) (Zaw Zca (Zaw (addK K) (pv 3) Zag) (Zai (lenK K) rfl (mb "len" (by decide)) Za7 (Zaa (pv 2) Zad))) (λ_ _=>rfl)) (Zf7 (pv 1) (Zar (ixK K hu) (pv 2) (pv 3) (λ_ _=>rfl)) (setU hu))))))) (Zah (Zav (pv 1))))),Zwc (λds Post hf=>?_) h⟩;obtain⟨n,ts,o,rfl,hW,hO,q⟩:=hf;refine⟨by simp,?_⟩;dsimp only[startD,Wbt,Wbp,Wbd,Waj];have hw:=hW.len;have hfe:=hO.flat_eq hW;have hpn:((o.flatMap rowPairsF).map (·.1)).Nodup:=by rw[Zcp];exact hO.flat
 have hpl:(o.flatMap rowPairsF).length=2*ts.length:=by rw[<- hfe,<- Zcp,Wab]
 refine Zal (Zc6 (Zsl ?_));refine Zbe (λΔ=>∃x2 x3:L2.Slot,Δ = [.val (encOrd o),.own (.dct ((o.flatMap rowPairsF).map encPair)),x2,x3]) ?_ ?_
 ·refine Zcv (Zc9 (Zac rfl ⟨o.map encRow,rfl,λi Δ=>∃x2 x3:L2.Slot,Δ = [.val (encOrd o),.own (.dct (((o.take i).flatMap rowPairsF).map encPair)),x2,x3],⟨_,_,rfl⟩,?_,?_⟩))
  ·rintro i d Δ2 hd ⟨x2,x3,rfl⟩
   rw[Wad]at hd;cases z:o[i]? with
   |none=>rw[z]at hd;cases hd
   |some r=>
    rw[z]at hd;have hd:encRow r=d:=by simpa using hd
    subst hd;have hi:i<o.length:=(Waf.mp z).1;have tk:o.take (i+1)=o.take i++[r]:=by rw[Wcd,z];rfl
    have eo:o.flatMap rowPairsF=(o.take i).flatMap rowPairsF++(rowPairsF r++(o.drop (i+1)).flatMap rowPairsF):=by
     conv=>lhs;rw[<- Wb9 (i+1) o,tk]
     rw[Wd2,Wd2];simp[Wbq]
    have hrl:r.length<=48:=by have:=(hO.row i r z).len;omega
    refine Zbu (Zcv (Za5 (Zab (Za9 (Zab (Zac rfl (Zaf (Zb6 (Or.inr rfl) (Zaf ⟨_,rfl,?_,?_,?_⟩)))))))))
    ·rw[Wab];omega
    ·rw[Wab];omega
    rw[Wab,Wak];refine⟨λk Δ=>∃x3:L2.Slot,Δ = [.val (encOrd o),.own (.dct (((o.take i).flatMap rowPairsF++(rowPairsF r).take k).map encPair)),.val (encRow r),x3],⟨_,by rw[List.take_zero,Wbk];rfl⟩,?_,?_⟩
    ·rintro k d Δ2 hd ⟨x3,rfl⟩
     obtain⟨hk,rfl⟩:=Zbo hd;have hg:=Zda hk;have a1:atI (r.map D.int) (0+(k:Int))=some (.int (r.getD k 0)):=by
      rw[Wbm];exact Zbk (by rw[Wad,Wac,Waa hk];rfl)
     have hm:(k+1) % r.length<r.length:=Wc5 _ (by omega);have a2:atI (r.map D.int) ((0+(k:Int)+1) % (r.length:Int))=some (.int (r.getD ((k+1) % r.length) 0)):=by
      rw[show (0+(k:Int)+1) % (r.length:Int)=(((k+1) % r.length:Nat):Int) by push_cast;rw[Wbm]];exact Zbk (by rw[Wad,Wac,Waa hm];rfl)
     refine Zbu (Zl6 (Zau (Zac rfl (Zau (Zau (Zac rfl (Za3 (Zds ?_))))))));refine Za9 (Zab (Zac rfl (Zaf (Zb6 (Or.inr rfl) ?_))));rw[Wab];refine jr_I (by show (0:Int)<_;omega) (Zcg a2 ⟨⟨_,_,rfl,rfl⟩,Zau (Zac rfl (Zac rfl (Zcg a1 ⟨_,_,_,rfl,rfl,rfl,?_,?_⟩)))⟩)
     ·rw[Wab,Wao,Wb0]
      rw[eo,Wao,Wao,Zdc]at hpl;exact small1000 (by omega)
     ·have eT:(rowPairsF r).take (k+1)=(rowPairsF r).take k++[(r.getD k 0,r.getD ((k+1) % r.length) 0)]:=by rw[Wcd,hg];rfl
      have eD:rowPairsF r=(rowPairsF r).take k++(r.getD k 0,r.getD ((k+1) % r.length) 0)::(rowPairsF r).drop (k+1):=by
       conv=>lhs;rw[<- Wb9 (k+1) (rowPairsF r),eT]
       simp
      have hk2:=hpn;rw[eo,eD,Wbq,<- Wbq,List.cons_append]at hk2;refine⟨.val (.int (0+(k:Int))),?_⟩;show [_,L2.Slot.own (.dct (putD _ _ _)),_,_]=_;rw[Ztr (Zlj hk2),eT,Wbq]
    ·rintro Δ2 ⟨x3,rfl⟩
     rw[Zaz];refine⟨.val (encRow r),x3,?_⟩;rw[Wcs (l:=rowPairsF r) (by rw[Zdc];exact Wah _),tk,Wd2];simp
  ·rintro Δ2 ⟨x2,x3,rfl⟩
   rw[Wab,Wb5];exact⟨x2,x3,rfl⟩
 rintro Δ1 ⟨x2,x3,rfl⟩;exact Zde (Zoa rfl q)
end
structure Car (ts:List (Int × Int)) (o:List (List Int)) (us:List (Int × Int)) (v:List (List Int)) (e:Int) (nm:List (Int × Int)) (wt:List Int) (x:Int->Prop):Prop where
 nd:(nm.map (·.1)).Nodup
 rg:∀p∈nm,InE ts.length p.1/\InE us.length p.2
 st:(0,e)∈nm
 wk:∀z∈wt,∃y,(z,y)∈nm
 cl:∀p∈nm,p.1 ∉ wt->¬ x p.1->(pI p.1,pI p.2)∈nm/\(fI ts o p.1,fI us v p.2)∈nm
 gd:∀σ,Cm ts o us v σ -> σ 0=e->∀p∈nm,σ p.1=p.2
theorem Zpc {nm:List (Int × Int)}(nd:(nm.map (·.1)).Nodup) {x y z:Int}(h:(x,y)∈nm) (k:(x,z)∈nm):y=z:=by
 have a:=Zf9 nd h;have b:=Zf9 nd k;rw[a]at b;exact D.int.inj (Wa4.inj b)
theorem Zn7 (nm:List (Int × Int)) (x:Int):(valD (nm.map encPair) (.inl x)).isSome=decide (x∈nm.map (·.1)):=by
 unfold valD;rw[Wdf,List.find?_map,Wdf,Wcb,List.find?_isSome,decide_eq_true_iff,Wav];constructor
 ·rintro⟨p,hp,e⟩
  exact⟨p,hp,Sum.inl.inj (of_decide_eq_true e)⟩
 ·rintro⟨p,hp,e⟩
  exact⟨p,hp,decide_eq_true (by show (Sum.inl p.1:Key)=.inl x;rw[e])⟩
theorem Zq0 {nm:List (Int × Int)}{a b:Int}(h:a ∉ nm.map (·.1)):putD (nm.map encPair) (.inl a) (.int b)=(nm++[(a,b)]).map encPair:=by
 unfold putD;rw[if_neg,Wa1];rfl;intro z;obtain⟨q,hq,e⟩:=Wdo.mp z;obtain⟨p,hp,rfl⟩:=Wav.mp hq;exact h (Wav.mpr ⟨p,hp,Sum.inl.inj (of_decide_eq_true e)⟩)
theorem Zi5 {nm:List (Int × Int)}{x y:Int}(h:(x,y)∈nm):x∈nm.map (·.1):=Wav.mpr ⟨_,h,rfl⟩
theorem Zes {nm:List (Int × Int)}{x:Int}(h:x∈nm.map (·.1)):∃y,(x,y)∈nm:=by
 obtain⟨⟨a,b⟩,hp,e⟩:=Wav.mp h;exact⟨b,by rw[<- (show a=x from e)];exact hp⟩
def lookI (nm:List (Int × Int)) (x:Int):Int:=match valD (nm.map encPair) (.inl x) with|some (.int y)=>y|_=>0
theorem Zcj {nm:List (Int × Int)}(nd:(nm.map (·.1)).Nodup) {x y:Int}(h:(x,y)∈nm):lookI nm x=y:=by unfold lookI;rw[Zf9 nd h]
section
variable {ts:List (Int × Int)}{o:List (List Int)}{us:List (Int × Int)}{v:List (List Int)}{e:Int}
theorem Zji {nm:List (Int × Int)}{wt:List Int}{X:Int->Prop}(h:Car ts o us v e nm wt X):nm.length<=2*ts.length:=by
 have a:=Zbs (l:=nm.map (·.1)) (m:=(Wau (2*ts.length)).map λi:Nat=>(i:Int)) h.nd λx hx=>by
  obtain⟨y,hy⟩:=Zes hx;obtain⟨k,e,hk⟩:=Zbt (h.rg _ hy).1;exact Wav.mpr ⟨k,Wa2.mpr hk,e.symm⟩
 rwa [Wab,Wab,Wbe]at a
theorem Zmd (he:InE us.length e) (hz:ts.length≠0):Car ts o us v e [(0,e)] [0] (λ_=>False):=by
 refine⟨by simp,λp hp=>?_,by simp,λz hz=>?_,λp hp hw=>?_,λσ _ h0 p hp=>?_⟩
 ·rw[Waz]at hp;subst hp;exact⟨⟨Wd3 _,by show (0:Int)<_;omega⟩,he⟩
 ·rw[Waz]at hz;subst hz;exact⟨e,by simp⟩
 ·rw[Waz]at hp;subst hp;exact absurd (by simp) hw
 ·rw[Waz]at hp;subst hp;exact h0
theorem Ztl {nm:List (Int × Int)}{wt:List Int}{x:Int}(h:Car ts o us v e nm (wt++[x]) (λ_=>False)):Car ts o us v e nm wt (λz=>z=x):=
 ⟨h.nd,h.rg,h.st,λz hz=>h.wk z (Wbj _ hz),λp hp hw hx=>h.cl p hp (λz=>by
  rcases Wbl.mp z with z|z
  ·exact hw z
  ·exact hx (by simpa using z)) (λz=>z),h.gd⟩
theorem Zr4 {nm:List (Int × Int)}{wt:List Int}{x:Int}{X:Int->Prop}{a b:Int}(h:Car ts o us v e nm wt X) (ha:a ∉ nm.map (·.1)) (ra:InE ts.length a) (rb:InE us.length b) (g:∀σ,Cm ts o us v σ -> σ 0=e -> σ a=b):Car ts o us v e (nm++[(a,b)]) (wt++[a]) X:=by
 refine⟨?_,λp hp=>?_,Wbj _ h.st,λz hz=>?_,λp hp hw hx=>?_,λσ hs h0 p hp=>?_⟩
 ·rw[Wa1,Wcz]
  exact⟨h.nd,by simp,λc hc d hd e=>by rw[Wa3,Wdt,Waz]at hd;subst hd;subst e;exact ha hc⟩
 ·rcases Wbl.mp hp with hp|hp
  ·exact h.rg p hp
  ·rw[Waz]at hp;subst hp;exact⟨ra,rb⟩
 ·rcases Wbl.mp hz with hz|hz
  ·obtain⟨y,hy⟩:=h.wk z hz;exact⟨y,Wbj _ hy⟩
  ·rw[Waz]at hz;subst hz;exact⟨b,by simp⟩
 ·rcases Wbl.mp hp with hp|hp
  ·have:=h.cl p hp (λz=>hw (Wbj _ z)) hx
   exact⟨Wbj _ this.1,Wbj _ this.2⟩
  ·rw[Waz]at hp;subst hp;exact absurd (by simp) hw
 ·rcases Wbl.mp hp with hp|hp
  ·exact h.gd σ hs h0 p hp
  ·rw[Waz]at hp;subst hp;exact g σ hs h0
theorem Zmw {nm:List (Int × Int)}{wt:List Int}{x y:Int}(h:Car ts o us v e nm wt (λz=>z=x)) (hx:(x,y)∈nm) (c1:(pI x,pI y)∈nm) (c2:(fI ts o x,fI us v y)∈nm):Car ts o us v e nm wt (λ_=>False):=
 ⟨h.nd,h.rg,h.st,h.wk,λp hp hw _=>by
  by_cases c:p.1=x
  ·obtain⟨a,b⟩:=p
   have c:a=x:=c;subst c;have:b=y:=Zpc h.nd hp hx;subst this;exact⟨c1,c2⟩
  ·exact h.cl p hp hw c,h.gd⟩
end
theorem Zol {val:Nat->Int}:∀n,(metK val n).length=n->∀i j,i<n->j<n->val i=val j->i=j
 |0,_,i,j,hi,_,_=>by omega
 |n+1,h,i,j,hi,hj,e=>by
  have hl:=Zho val n;have h:(addE (metK val n) (val n)).length=n+1:=h;unfold addE at h;split at h
  ·omega
  ·rename_i hm
   rw[Wao,Wbb]at h;have ih:=Zol (val:=val) n (by omega);have no:∀k,k<n->val k≠val n:=λk hk z=>hm (by
    first
    |exact Zfg.mpr ⟨k,hk,z⟩
    | (have:=Zfg.mpr ⟨k,hk,z⟩;simpa using this))
   by_cases a:i=n
   ·by_cases b:j=n
    ·omega
    ·subst a;exact absurd e.symm (no j (by omega))
   ·by_cases b:j=n
    ·subst b;exact absurd e (no i (by omega))
    ·exact ih i j (by omega) (by omega) e
theorem Zm0 {val:Nat->Int}:∀n,(∀i j,i<n->j<n->val i=val j->i=j)->(metK val n).length=n
 |0,_=>rfl
 |n+1,h=>by
  have ih:=Zm0 n λi j hi hj=>h i j (by omega) (by omega);show (addE (metK val n) (val n)).length=n+1;unfold addE;split
  ·rename_i hm
   exfalso
   have hm:val n∈metK val n:=by simpa using hm
   obtain⟨k,hk,e⟩:=Zfg.mp hm;have:=h k n (by omega) (by omega) e;omega
  ·rw[Wao,Wbb,ih]
section
variable {N:Nat}{ts:List (Int × Int)}{o:List (List Int)}(hW:WebOk (N:Int) ts) (hO:OrdOk (N:Int) ts o) (h1:OneP N ts)
variable {M:Nat}{us:List (Int × Int)}{v:List (List Int)}(hV:WebOk (M:Int) us) (hU:OrdOk (M:Int) us v) {e:Int}
include hW hO h1
theorem Zkg (hz:ts.length≠0) {nm:List (Int × Int)}(h:Car ts o us v e nm [] (λ_=>False)):(∀x,InE ts.length x->∃y,(x,y)∈nm)/\nm.length=2*ts.length:=by
 have st:((0:Nat):Int)∈nm.map (·.1):=Zi5 h.st;have all:=Zfy hW hO h1 (S:=λx=>x∈nm.map (·.1)) (λx hx sx=>by
  obtain⟨y,hy⟩:=Zes sx;exact Zi5 (h.cl _ hy (by simp) (λz=>z)).1) (λx hx sx=>by
  obtain⟨y,hy⟩:=Zes sx;exact Zi5 (h.cl _ hy (by simp) (λz=>z)).2) (e:=0) (by omega) st
 refine⟨λx hx=>by obtain⟨k,rfl,hk⟩:=Zbt hx;exact Zes (all k hk),?_⟩;have a:=Zbs (l:=nm.map (·.1)) (m:=(Wau (2*ts.length)).map λi:Nat=>(i:Int)) h.nd λx hx=>by
  obtain⟨y,hy⟩:=Zes hx;obtain⟨k,e,hk⟩:=Zbt (h.rg _ hy).1;exact Wav.mpr ⟨k,Wa2.mpr hk,e.symm⟩
 have b:=Zbs (l:=(Wau (2*ts.length)).map λi:Nat=>(i:Int)) (m:=nm.map (·.1)) (by
  rw[Wa6,Wbv];exact Wbw.imp λh=>by omega) λx hx=>by
   obtain⟨i,hi,rfl⟩:=Wav.mp hx;exact all i (Wa2.mp hi)
 rw[Wab,Wab,Wbe]at a b;omega
include hV hU
theorem Zpn (hz:ts.length≠0) (hl:ts.length=us.length) {nm:List (Int × Int)}(h:Car ts o us v e nm [] (λ_=>False)) :
  (distN (nm.map (·.2))=2*us.length->renAt ts o us v e=some (rowOf (lookI nm) ts.length))/\(distN (nm.map (·.2))≠2*us.length->renAt ts o us v e=none):=by
 obtain⟨full,fl⟩:=Zkg hW hO h1 hz h;have cp:∀x,InE ts.length x->lookI nm (pI x)=pI (lookI nm x):=λx hx=>by
  obtain⟨y,hy⟩:=full x hx;rw[Zcj h.nd hy,Zcj h.nd (h.cl _ hy (by simp) (λz=>z)).1]
 have cf:∀x,InE ts.length x->lookI nm (fI ts o x)=fI us v (lookI nm x):=λx hx=>by
  obtain⟨y,hy⟩:=full x hx;rw[Zcj h.nd hy,Zcj h.nd (h.cl _ hy (by simp) (λz=>z)).2]
 have gv:∀i,i<nm.length->(nm.map (·.2)).getD i 0=(nm.getD i (0,0)).2:=λi hi=>by
  rw[Wac,Wad,Wac,Waa hi];rfl
 have gi:∀i,i<nm.length->nm.getD i (0,0)∈nm:=λi hi=>by
  rw[Wac,Waa hi];exact Wa7 hi
 have ki:∀i j,i<nm.length->j<nm.length->(nm.getD i (0,0)).1=(nm.getD j (0,0)).1->i=j:=λi j hi hj e=>by
  have nd:=h.nd;have a:(nm.map (·.1))[i]?=some (nm.getD i (0,0)).1:=by rw[Wad,Wac,Waa hi];rfl
  have b:(nm.map (·.1))[j]?=some (nm.getD j (0,0)).1:=by rw[Wad,Wac,Waa hj];rfl
  rw[e]at a;exact(Zdo nd a).symm.trans (Zdo nd b)
 refine⟨λhd=>?_,λhd=>Zdu ?_⟩
 ·have inj:=Zol (val:=λi=>(nm.map (·.2)).getD i 0) (nm.map (·.2)).length (by
   show distN (nm.map (·.2))=_;rw[hd,Wab,fl,hl])
  rw[Wab]at inj;refine Zew hW hO h1 hz ⟨hl,λx hx=>?_,λx y hx hy e=>?_,cp,cf⟩ (Zcj h.nd h.st)
  ·obtain⟨y,hy⟩:=full x hx
   rw[Zcj h.nd hy];exact(h.rg _ hy).2
  ·obtain⟨a,ha⟩:=full x hx
   obtain⟨b,hb⟩:=full y hy;rw[Zcj h.nd ha,Zcj h.nd hb]at e;subst e;obtain⟨i,hi,ei⟩:=Wbs.mp ha;obtain⟨j,hj,ej⟩:=Wbs.mp hb;have g1:nm.getD i (0,0)=(x,a):=by rw[Wac,Waa hi];exact ei
   have g2:nm.getD j (0,0)=(y,a):=by rw[Wac,Waa hj];exact ej
   have:=inj i j hi hj (by show (nm.map (·.2)).getD i 0=(nm.map (·.2)).getD j 0;rw[gv i hi,gv j hj,g1,g2]);subst this;rw[g1]at g2;exact congrArg Prod.fst g2
 ·rintro⟨σ,hs,h0⟩
  apply hd;have inj:∀i j,i<nm.length->j<nm.length->(λi=>(nm.map (·.2)).getD i 0) i=(λi=>(nm.map (·.2)).getD i 0) j->i=j:=by
   intro i j hi hj e;have e:(nm.map (·.2)).getD i 0=(nm.map (·.2)).getD j 0:=e;rw[gv i hi,gv j hj]at e;have a:=hs;have p1:=h.gd σ hs h0 _ (gi i hi);have p2:=h.gd σ hs h0 _ (gi j hj);exact ki i j hi hj (hs.inj _ _ (h.rg _ (gi i hi)).1 (h.rg _ (gi j hj)).1 (by rw[p1,p2,e]))
  have:=Zm0 (val:=λi=>(nm.map (·.2)).getD i 0) nm.length inj;unfold distN;rw[Wab,this,fl,hl]
end
def optD:Option (List Int)->D
 |some l=>rowD l
 |none=>.non
def aftD (o:List (List Int)):D:=dctD ((o.flatMap rowPairsF).map encPair)
def fCar:DSp:=λds Post=>∃(N:Nat) (ts:List (Int × Int)) (o:List (List Int)) (M:Nat) (us:List (Int × Int)) (v:List (List Int)) (e:Nat),ds=[aftD o,aftD v,.int (e:Int)]/\WebOk (N:Int) ts/\OrdOk (N:Int) ts o/\OneP N ts/\WebOk (M:Int) us/\OrdOk (M:Int) us v/\ts.length≠0/\ts.length=us.length/\e<2*us.length/\Post (optD (renAt ts o us v (e:Int)))
theorem Zer {n:Int}{ts:List (Int × Int)}{o:List (List Int)}(hW:WebOk n ts) (hO:OrdOk n ts o):((o.flatMap rowPairsF).map encPair).length=2*ts.length:=by
 rw[Wab,<- hO.flat_eq hW,<- Zcp,Wab]
noncomputable def twoPr (ts:List (Int × Int)) (o:List (List Int)) (us:List (Int × Int)) (v:List (List Int)) (x y:Int):List (Int × Int):=[(pI x,pI y),(fI ts o x,fI us v y)]
section
variable {P:Program}{w:World}{K:W.Frag}{mg:Str->Option Value}{base:Heap}{f:Addr}{fd:FuncData}
theorem Zcl {K:W.Frag}{Δ:Evt}{P:D->Evt->Prop}{kds:List (Key × D)}(p:P (.int kds.length) Δ):JC K (rLenU K) [dctD kds] Δ P:=λg G H σ Q vs k rs c=>by
 obtain⟨_,_,rfl,r,t⟩:=rs.inv;cases t.inv;obtain⟨a,ws,rfl,ha,hl,rr⟩:=r.inv;refine .inr ⟨a,_,rfl,k.live _ _ ha,?_⟩;have e:((kds.map (·.1)).zip ws).length=kds.length:=by rw[Wcv,<- hl,Wcy,Wab]
 rw[e];exact c _ _ G H Δ k (Same.refl _) (.int _) p
theorem Zum (mb:Mb mg) (C34:Callee P w K mg base 1 "_law_partner" ["_law_end"] (spD K fPart)) (F:Fun K "_law_carried" "_law_carried" s_law_carried f fd):FnOk P w K mg base CX0 2 f fd ["_law_after_here","_law_its_after","_law_image"] (spD K fCar):=by
 refine F.ok sc_law_carried (Zb8 λds Post h=>by obtain⟨_,_,_,_,_,_,_,rfl,_⟩:=h;rfl) (λcdv A outer s H vs Q E hr h=>?_);have hu:=Zb9 hr;refine⟨_,(Zae (Zap (i:=3) sc_law_carried.nd rfl (Or.inr rfl) (Zsn (Zp3 Zag (pv 2) Zs8) rfl rfl (List.cons_ne_nil _ _) (by show 1<=15;decide))) (Zae (Zap (i:=4) sc_law_carried.nd rfl (Or.inl rfl) (Zb4 (Zaa Zag Zad))) (Zae (Zkz PassesOwn.never (Zaq (neL0K K hu) (pv 4) (Zb4 Zad) (nomark _)) (Zae (Zap (i:=5) sc_law_carried.nd rfl (Or.inl rfl) (bm0K K PySem.F.plainAttrs_list PySem.F.slot_list_pop PySem.F.type_list_pop Zrl (pv 4))) (Zah (Zcu PassesOwn.never rfl (seqK K (Zb4 (Zaa (Zbx (Zaa (Za2 C34 (hr.mono (by decide)) (Zaa (pv 5) Zad)) (Zaa (Za2 C34 (hr.mono (by decide)) (Zaa (Zar (ixK K hu) (pv 3) (pv 5) (λ_ _=>rfl)) Zad)) Zad))) (Zaa (Zbx (Zaa (Zar (ixK K hu) (pv 0) (pv 5) (λ_ _=>rfl)) (Zaa (Zar (ixK K hu) (pv 1) (Zar (ixK K hu) (pv 3) (pv 5) (λ_ _=>rfl)) (λ_ _=>rfl)) Zad))) Zad)))) (gtupK (n:=2) K rfl (Zbr (Zaj (i:=6) sc_law_carried.nd rfl (Or.inl rfl)) (Zbr (Zaj (i:=7) sc_law_carried.nd rfl (Or.inl rfl)) Zeo))) (Zah (Zbq (Zaq (notinK K hu) (pv 6) (pv 3) rfl) (Zae (Zee (pv 7) (Zf7 (pv 3) (pv 6) (setU hu))) (Zah (Zdi (bmK K PySem.F.plainAttrs_list PySem.F.slot_list_append PySem.F.type_list_append Zdr (pv 4) (Zaa (pv 6) Zad))))) (Zah (Zbq (Zaq Ze3 (Zar (ixK K hu) (pv 3) (pv 6) (λ_ _=>rfl)) (pv 7) (nomark _)) (Zah (Zav Zie)) Zay)))))))) (Zae (Zbq (PW.pt (pw_or (Zaq Ze3 (Zai (lenK K) rfl (mb "len" (by decide)) Za7 (Zaa (pv 0) Zad)) (Zai (lenK K) rfl (mb "len" (by decide)) Za7 (Zaa (pv 1) Zad)) (nomark _)) (pw_or1 (Zaq Ze3 (Zg3 rfl rfl (mb "len" (by decide)) rfl (mb "set" (by decide)) rfl (mb "list" (by decide)) (pv 3)) (Zai (lenK K) rfl (mb "len" (by decide)) Za7 (Zaa (pv 1) Zad)) (nomark _))))) (Zah (Zav Zie)) Zay) (Zah (Zav (Za8 (tupK K) rfl (mb "tuple" (by decide)) Zbg (Zaa (Zbd ["_law_end"] (show CompSc (defScope s_law_carried) ["_law_after_here","_law_its_after","_law_image","_law_names","_law_waiting","_law_end","_law_one","_law_other"] _ ["_law_names"] [3] from ⟨rfl,by decide +kernel,by decide +kernel,by decide +kernel,rfl,by decide +kernel⟩) rfl (Za6 rfl (mb "range" (by decide)) (Zaa (Zai (lenK K) rfl (mb "len" (by decide)) Za7 (Zaa (pv 0) Zad)) Zad)) (λ_ _ _ _ _=>(Zaj (i:=0) (show List.Nodup (["_law_end","_law_names"]:List Str) from by decide) rfl (Or.inl rfl))) (λ_ _ _ _ _=>Zba) (λ_ _ _ _ _=>(Zar (ixK K hu) (pv 1) (pv 0) (λ_ _=>rfl)))) Zad)))))))),Zeu (λds Post hf=>?_) h⟩;obtain⟨N,ts,o,M,us,v,e,rfl,hW,hO,h1,hV,hU,hz,hlen,he,q⟩:=hf;refine⟨by simp,?_⟩;dsimp only[startD,Wbt,Wbp,Wbd,Waj];have hw:=hW.len;have la:=Zer hW hO;have lb:=Zer hV hU;refine Zal (Zc6 (Zus rfl ?_));refine Zal (Zc6 (Zdk (Zab (Za3 (Zaf ⟨by show 1<=sizeLine;decide,?_⟩)))));refine Zbe (λΔ=>∃(nm:List (Int × Int)) (x4 x5 x6 x7:L2.Slot),Car ts o us v (e:Int) nm [] (λ_=>False) /\ Δ = [.val (aftD o),.val (aftD v),.val (.int (e:Int)),.own (.dct (nm.map encPair)),x4,x5,x6,x7]) ?_ ?_
 ·refine Zj7 (fun μ Δ=>∃(nm:List (Int × Int)) (wt:List Int) (x5 x6 x7:L2.Slot),Car ts o us v (e:Int) nm wt (λ_=>False) /\ μ = 2*(2*ts.length-nm.length)+wt.length /\ μ <= 96 /\ Δ = [.val (aftD o),.val (aftD v),.val (.int (e:Int)),.own (.dct (nm.map encPair)),.own (.lst (wt.map .int)),x5,x6,x7]) ⟨_,[(0,(e:Int))],[0],_,_,_,Zmd (Zbz he) hz,rfl,by show 2*(2*ts.length-1)+1<=96;omega,rfl⟩ ?_
  rintro μ Δ1 ⟨nm,wt,x5,x6,x7,hc,rfl,hwl,rfl⟩;refine Zsf (i:=4) rfl rfl (Za0 (Zau (Zac rfl (Zgv (Zaf ⟨Wb2 _,Zs9 ⟨_,rfl,?_⟩⟩)))));by_cases hwt:wt=[]
  ·subst hwt
   exact iteF ⟨nm,_,x5,x6,x7,hc,rfl⟩
  obtain⟨wt,x,rfl⟩:∃l z,wt=l++[z]:=⟨wt.dropLast,wt.getLast hwt,(List.dropLast_concat_getLast hwt).symm⟩;rw[show ((wt++[x]).map D.int).isEmpty=false by rw[Wa1];cases wt <;> rfl]
  have hwl2:=hwl;rw[Wao,Wbb]at hwl2;obtain⟨y,hy⟩:=hc.wk x (by simp);have hc:=Ztl hc;obtain⟨rx,ry⟩:=hc.rg _ hy;obtain⟨k,rfl,hk⟩:=Zbt rx;obtain⟨j,rfl,hj⟩:=Zbt ry;have vy:=Zf9 hc.nd hy;rw[Wa1];refine iteT (Zal (Zax (Ztg rfl rfl ?_)));refine Zcv (Zc3 (Zgv (Zab (Zbw (Zab (Zbb (Zab (Zac rfl (Zaf ⟨k,rfl,?_⟩)))))))));refine Zab (Zbb (Zab (Zjw rfl rfl (Zac rfl ⟨_,_,_,_,rfl,rfl,rfl,vy,Zaf ⟨j,rfl,Zaf ⟨Zb0,?_⟩⟩⟩))));refine Zab (Zbw (Zab (Zau (Zac rfl (Zac rfl (Zf3 (Zfc hW hO hk) ?_))))));refine Zab (Zau (Zac rfl (Zjw rfl rfl (Zac rfl ⟨_,_,_,_,rfl,rfl,rfl,vy,Zf3 (Zfc hV hU hj) (Zaf ⟨Zb0,Zaf ⟨Zb0,?_⟩⟩)⟩))));refine⟨_,Or.inl rfl,λi Δ=>∃(nm':List (Int × Int)) (wt':List Int) (x6 x7:L2.Slot),Car ts o us v (e:Int) nm' wt' (λz=>z=(k:Int))/\((k:Int),(j:Int))∈nm' /\ (∀p∈(twoPr ts o us v k j).take i,p∈nm')/\2*(2*ts.length-nm'.length)+wt'.length<=2*(2*ts.length-nm.length)+wt.length /\ Δ = [.val (aftD o),.val (aftD v),.val (.int (e:Int)),.own (.dct (nm'.map encPair)),.own (.lst (wt'.map .int)),.val (.int (k:Int)),x6,x7],⟨nm,wt,_,_,hc,hy,(λp hp=>absurd hp (by simp)),Wah _,rfl⟩,?_,?_⟩
  ·rintro i d Δ2 hd ⟨nm',wt',x6,x7,hc',hy',hp',hm',rfl⟩
   have hl':=Zji hc';obtain⟨a,b,hpr,ra,rb,rfl,gd⟩:∃a b:Int,(twoPr ts o us v k j)[i]?=some (a,b)/\InE ts.length a/\InE us.length b/\d=.tup [.int a,.int b]/\∀σ,Cm ts o us v σ -> σ 0=(e:Int) -> σ a=b:=by
    have gx:∀σ,Cm ts o us v σ -> σ 0=(e:Int) -> σ (k:Int)=(j:Int):=λσ hs h0=>hc'.gd σ hs h0 _ hy';rcases i with _|_|i
    ·cases hd
     exact⟨_,_,rfl,pI_E hW hO rx,pI_E hV hU ry,rfl,λσ hs h0=>by rw[hs.cp _ rx,gx σ hs h0]⟩
    ·cases hd
     exact⟨_,_,rfl,fI_E hW hO rx,fI_E hV hU ry,rfl,λσ hs h0=>by rw[hs.cf _ rx,gx σ hs h0]⟩
    ·cases hd
   have tk:∀nm2:List (Int × Int),(∀p∈nm',p∈nm2)->(a,b)∈nm2->∀p∈(twoPr ts o us v k j).take (i+1),p∈nm2:=λnm2 hs hab p hp=>by
    rw[Wcd,hpr]at hp;rcases Wbl.mp hp with hp|hp
    ·exact hs p (hp' p hp)
    ·have:p=(a,b):=by simpa using hp
     rw[this];exact hab
   refine Zj5 rfl (Zck (Zbu (Zck (Zbu (Zhd ?_)))));refine Zbv (Za0 (Zt0 (Zac rfl ⟨_,_,a,rfl,rfl,rfl,_,rfl,?_⟩)));show if (!(valD (nm'.map encPair) (.inl a)).isSome)=true then _ else _
   rw[Zn7];by_cases c:a∈nm'.map (·.1)
   ·rw[decide_eq_true c]
    obtain⟨b',hb'⟩:=Zes c;refine iteF (Zbv (Za0 (Zau (Zjw rfl rfl (Zac rfl ⟨_,_,_,_,rfl,rfl,rfl,Zf9 hc'.nd hb',Zac rfl (Zhr ⟨_,rfl,?_⟩)⟩)))));by_cases cb:b'=b
    ·rw[decide_eq_true cb]
     subst cb;exact iteF (Za1 ⟨nm',wt',_,_,hc',hy',tk nm' (λp hp=>hp) hb',hm',rfl⟩)
    ·rw[decide_eq_false cb]
     have:renAt ts o us v (e:Int)=none:=Zdu λ⟨σ,hs,h0⟩=>cb ((hc'.gd σ hs h0 _ hb').symm.trans (gd σ hs h0));rw[this]at q;exact iteT (Zbl (Zgc q))
   ·rw[decide_eq_false c]
    have hc2:=Zr4 (x:=0) hc' c ra rb gd;have hl2:=Zji hc2;rw[Wao,Wbb]at hl2;refine iteT (Zal (Zl6 (Zac rfl ⟨⟨_,_,rfl,rfl⟩,Zac rfl ⟨_,_,_,rfl,rfl,rfl,?_,?_⟩⟩)))
    ·rw[Wab];exact small1000 (by omega)
    refine Zme rfl rfl (Zac rfl ⟨_,_,rfl,rfl,?_,nm'++[(a,b)],wt'++[a],.val (.int a),.val (.int b),hc2,Wbj _ hy',tk _ (λp hp=>Wbj _ hp) (by simp),?_,?_⟩)
    ·rw[Wab];exact small1000 (by omega)
    ·rw[Wao,Wao,Wbb,Wbb];omega
    ·show [_,_,_,L2.Slot.own (.dct (putD (nm'.map encPair) (.inl a) (.int b))),L2.Slot.own (.lst (wt'.map D.int++[D.int a])),_,_,_]=_
     rw[Zq0 c,Wa1 (f:=D.int)];rfl
  ·rintro Δ2 ⟨nm',wt',x6,x7,hc',hy',hp',hm',rfl⟩
   have p1:(pI (k:Int),pI (j:Int))∈nm':=hp' _ (by simp[twoPr]);have p2:(fI ts o (k:Int),fI us v (j:Int))∈nm':=hp' _ (by simp[twoPr]);refine⟨2*(2*ts.length-nm'.length)+wt'.length,?_,nm',wt',_,_,_,Zmw hc' hy' p1 p2,rfl,?_,rfl⟩
   ·rw[Wao,Wbb];omega
   ·rw[Wao,Wbb]at hwl;omega
 rintro Δ1 ⟨nm,x4,x5,x6,x7,hc,rfl⟩;have hn:=Zji hc;obtain⟨full,fl⟩:=Zkg hW hO h1 hz hc;obtain⟨d1,d2⟩:=Zpn hW hO h1 hV hU hz hlen hc;refine Zal (Zbv (Zix (Za0 (Zau (Za9 (Zab (Zac rfl (Zaf (Zcl ?_)))))))));refine Za9 (Zab (Zac rfl (Zaf (Zcl (Zhr ⟨_,rfl,?_⟩)))));rw[la,lb,hlen,decide_eq_true rfl];refine iteF (Za0 (Zau (Zvf (Zpg rfl ⟨_,nm.map (·.2),rfl,?_,?_,?_⟩))))
 ·rw[Wan,Wan];rfl
 ·rw[Wab];omega
 refine Za9 (Zab (Zac rfl (Zaf (Zcl (Zhr ⟨_,rfl,?_⟩)))));rw[lb];by_cases c:distN (nm.map (·.2))=2*us.length
 ·rw[decide_eq_true (by rw[c])]
  rw[d1 c]at q;refine iteF (Za1 ?_);refine Zbl (Za9 (Zab (Zbi (by decide) (Za5 (Zab (Za9 (Zab (Zac rfl (Zaf (Zcl (Zaf ⟨_,rfl,?_,?_,?_⟩)))))))))))
  ·omega
  ·rw[la];omega
  rw[la,Wak];refine⟨by rw[Zaz];exact small1000 (by omega),λ_=>true,λd=>.int (lookI nm (intD d)),λi d hd=>?_,?_⟩
  ·obtain⟨hi,rfl⟩:=Zbo hd
   rw[Wbm];obtain⟨y,hy⟩:=full (i:Int) (Zbz hi);refine Zbc ⟨rfl,Zau (Zac rfl (Zac rfl (Zf3 (Zf9 hc.nd hy) ⟨?_,_,rfl⟩)))⟩;show D.int y=D.int (lookI nm (i:Int));rw[Zcj hc.nd hy]
  have e1:((rngD 0 (2*ts.length)).filter λ_=>true).map (λd=>D.int (lookI nm (intD d)))=(rowOf (lookI nm) ts.length).map D.int:=by
   rw[Wa5.mpr (by simp)];unfold rowOf rngD;rw[Wan,Wan];exact Wa9 λk _=>by show D.int (lookI nm (0+(k:Int)))=_;rw[Wbm];rfl
  rw[e1];exact Zaf (Zcb (Or.inl rfl) q)
 ·rw[decide_eq_false (by omega)]
  rw[d2 c]at q;exact iteT (Zbl (Zgc q))
end
def fLRen:NSp:=λds Post=>∃(N:Nat) (ts:List (Int × Int)) (o:List (List Int)) (M:Nat) (us:List (Int × Int)) (v:List (List Int)),ds=[encOrd o,encOrd v]/\WebOk (N:Int) ts/\OrdOk (N:Int) ts o/\OneP N ts/\WebOk (M:Int) us/\OrdOk (M:Int) us v/\Post ((renS ts o us v).map rowD)
def notNon:D->Bool
 |.non=>false
 |_=>true
theorem Zsp (g:Nat->Option (List Int)) (l:List Nat):((l.map λe=>optD (g e)).filter notNon)=(l.filterMap g).map rowD:=by
 induction l with
 |nil=>rfl
 |cons e l ih=>
  rw[Wa3,Wce];cases z:g e with
  |none=>rw[List.filter_cons_of_neg (by show ¬ false=true;decide)];exact ih
  |some r=>rw[List.filter_cons_of_pos (by rfl),ih];rfl
theorem Zpf {ts:List (Int × Int)}{o:List (List Int)}{us:List (Int × Int)}{v:List (List Int)}(h:ts.length≠us.length):renS ts o us v=[]:=by
 unfold renS;by_cases z:ts.length=0
 ·rw[if_pos z,if_neg (by omega)]
 ·rw[if_neg z]
  rw[List.filterMap_eq_nil_iff];exact λe _=>Zdu λ⟨σ,hs,_⟩=>h hs.len
section
variable {P:Program}{w:World}{K:W.Frag}{mg:Str->Option Value}{base:Heap}{f:Addr}{fd:FuncData}
theorem Zqb {K:W.Frag}{Δ:Evt}{P:D->Evt->Prop}{ds:List D}(p:P (.bl true) Δ):JR2 K (λx y H Q=>y=.non/\Q (.bl (!decide (x=.non))) H) (.tup ds) .non Δ P:=λg G H σ Q u v k rx ry c=>by
 obtain⟨a,vs,rfl,_,_⟩:=rx.inv;cases ry.inv;refine⟨rfl,?_⟩;rw[decide_eq_false (by intro z;cases z)];exact c _ _ G H Δ k (Same.refl _) (.bl _) p
theorem Zth (mb:Mb mg) (C26:Callee P w K mg base 1 "_law_after" ["_law_order_here"] (spO K fAfter)) (C28:Callee P w K mg base 2 "_law_carried" ["_law_after_here","_law_its_after","_law_image"] (spD K fCar)) (F:Fun K "_law_renamings" "_law_renamings" s_law_renamings f fd):FnOk P w K mg base CX0 3 f fd ["_law_order_here","_law_its_order"] (spN K fLRen):=by
 refine F.ok sc_law_renamings (Zfw λds Post h=>by obtain⟨_,_,_,_,_,_,rfl,_⟩:=h;rfl) (λcdv A outer s H vs Q E hr h=>?_);have hu:=Zb9 hr;refine⟨_,(Zae (Zap (i:=2) sc_law_renamings.nd rfl (Or.inr rfl) (Za2 C26 (hr.mono (by decide)) (Zaa (pv 0) Zad))) (Zae (Zap (i:=3) sc_law_renamings.nd rfl (Or.inr rfl) (Za2 C26 (hr.mono (by decide)) (Zaa (pv 1) Zad))) (Zae (Zbq (Zaq Ze3 (Zai (lenK K) rfl (mb "len" (by decide)) Za7 (Zaa (pv 2) Zad)) (Zai (lenK K) rfl (mb "len" (by decide)) Za7 (Zaa (pv 3) Zad)) (nomark _)) (Zah (Zav (Zb4 Zad))) Zay) (Zae (Zbq (Zaq Zct (Zai (lenK K) rfl (mb "len" (by decide)) Za7 (Zaa (pv 2) Zad)) Zag (nomark _)) (Zah (Zav (Zb4 (Zaa (Zbx Zad) Zad)))) Zay) (Zae (Zdy (i:=4) ["_law_image"] (show CompSc (defScope s_law_renamings) ["_law_order_here","_law_its_order","_law_after_here","_law_its_after","_law_tried"] _ ["_law_after_here","_law_its_after"] [2,3] from ⟨rfl,by decide +kernel,by decide +kernel,by decide +kernel,rfl,by decide +kernel⟩) rfl sc_law_renamings.nd rfl (Or.inl rfl) (Za6 rfl (mb "range" (by decide)) (Zaa (Zai (lenK K) rfl (mb "len" (by decide)) Za7 (Zaa (pv 3) Zad)) Zad)) (λ_ _ _ _ _=>(Zaj (i:=0) (show List.Nodup (["_law_image","_law_after_here","_law_its_after"]:List Str) from by decide) rfl (Or.inl rfl))) (λ_ _ _ _ _=>Zba) (λ_ _ _ _ _=>(Za2 C28 (hr.mono (by decide)) (Zaa (pv 1) (Zaa (pv 2) (Zaa (pv 0) Zad)))))) (Zah (Zav (Zbd ["_law_names"] (show CompSc (defScope s_law_renamings) ["_law_order_here","_law_its_order","_law_after_here","_law_its_after","_law_tried"] _ [] [] from ⟨rfl,by decide +kernel,by decide +kernel,by decide +kernel,rfl,by decide +kernel⟩) rfl (seqK K (pv 4)) (λ_ _ _ _ _=>(Zaj (i:=0) (show List.Nodup (["_law_names"]:List Str) from by decide) rfl (Or.inl rfl))) (λ_ _ _ _ _=>(Zm7 (Zaq Znl (pv 0) Zie (nomark _)))) (λ_ _ _ _ _=>(pv 0)))))))))),Zn0 (λds Post hf=>?_) h⟩;obtain⟨N,ts,o,M,us,v,rfl,hW,hO,h1,hV,hU,q⟩:=hf;refine⟨by simp,?_⟩;dsimp only[startD,Wbt,Wbp,Wbd,Waj];have hw:=hV.len;have la:=Zer hW hO;have lb:=Zer hV hU;refine Zal (Zax (Zed (Zff (Zab (Zac rfl (Zaf ⟨(N:Int),ts,o,rfl,hW,hO,_,rfl,?_⟩))))));refine Zal (Zax (Zed (Zff (Zab (Zac rfl (Zaf ⟨(M:Int),us,v,rfl,hV,hU,_,rfl,?_⟩))))));refine Zal (Zbv (Za0 (Zau (Za9 (Zab (Zac rfl (Zaf (Zcl ?_))))))));refine Za9 (Zab (Zac rfl (Zaf (Zcl (Zhr ⟨_,rfl,?_⟩)))));rw[la,lb];by_cases hl:ts.length=us.length
 ·rw[decide_eq_true (by rw[hl])]
  refine iteF (Za1 (Zal (Zbv (Za0 (Zau (Za9 (Zab (Zac rfl (Zaf (Zcl (Za3 (Zh9 ⟨_,rfl,?_⟩))))))))))));rw[la];by_cases hz:ts.length=0
  ·rw[decide_eq_true (by omega)]
   have e:renS ts o us v=[[]]:=by unfold renS;rw[if_pos hz,if_pos (by omega)]
   rw[e]at q;exact iteT (Zde (Zdk (Zab (Zbw (Zaf ⟨by decide,Zaf ⟨by show 1<=sizeLine;decide,_,rfl,q⟩⟩)))))
  ·rw[decide_eq_false (by omega)]
   have e:renS ts o us v=(Wau (2*us.length)).filterMap λe:Nat=>renAt ts o us v (e:Int):=by unfold renS;rw[if_neg hz]
   rw[e]at q;refine iteF (Za1 (Zal (Zax (Zbi (by decide) (Za5 (Zab (Za9 (Zab (Zac rfl (Zaf (Zcl (Zaf ⟨_,rfl,?_,?_,?_⟩))))))))))))
   ·omega
   ·rw[lb];omega
   rw[lb,Wak];refine⟨by rw[Zaz];exact small1000 (by omega),λ_=>true,λd=>optD (renAt ts o us v (intD d)),λi d hd=>?_,?_⟩
   ·obtain⟨hi,rfl⟩:=Zbo hd
    rw[Wbm];exact Zbc ⟨rfl,Zbb (Zd5 (Zam (Zak rfl) (Zam (Zak rfl) (Zam (Zak rfl) Zcf))) ⟨N,ts,o,M,us,v,i,rfl,hW,hO,h1,hV,hU,hz,hl,hi,rfl,_,rfl⟩)⟩
   have e1:((rngD 0 (2*us.length)).filter λ_=>true).map (λd=>optD (renAt ts o us v (intD d)))=(Wau (2*us.length)).map λe:Nat=>optD (renAt ts o us v (e:Int)):=by
    rw[Wa5.mpr (by simp)];unfold rngD;rw[Wan];exact Wa9 λk _=>by show optD (renAt ts o us v (0+(k:Int)))=_;rw[Wbm]
   rw[e1];refine Zde (Zg6 (by decide) (Zc3 (Zac rfl ⟨_,Or.inl rfl,?_,notNon,λd=>d,λi d hd=>?_,?_⟩)))
   ·rw[Wab,Wbe];exact small1000 (by omega)
   ·rw[Wad]at hd
    cases z:(Wau (2*us.length))[i]? with
    |none=>rw[z]at hd;cases hd
    |some k=>
     rw[z]at hd;have hd:optD (renAt ts o us v (k:Int))=d:=by simpa using hd
     subst hd;cases renAt ts o us v (k:Int) with
     |none=>exact Za0 (Zau (Zac rfl (Zgc (Znb ⟨_,rfl,rfl,_,rfl⟩))))
     |some r=>exact Za0 (Zau (Zac rfl (Zgc (Zqb ⟨_,rfl,rfl,Zac rfl ⟨rfl,_,rfl⟩⟩))))
   ·refine⟨_,rfl,?_⟩
    rw[List.map_id',Zsp];exact q
 ·rw[decide_eq_false (by omega)]
  rw[Zpf hl]at q;exact iteT (Zde (Zdk (Zaf ⟨by decide,_,rfl,q⟩)))
end
noncomputable def lf (l:List Int):List Int:=if h:l=[] then [] else rotAt l (l.idxOf (Classical.choose (Zdg l h)))
theorem Zoe:lf []=[]:=by unfold lf;rw[dif_pos rfl]
theorem Zq3 {l:List Int}{m:Int}(hm:m∈l) (hle:∀a∈l,m<=a):lf l=rotAt l (l.idxOf m):=by
 have h:l≠[]:=List.ne_nil_of_mem hm;unfold lf;rw[dif_neg h];obtain⟨c1,c2⟩:=Classical.choose_spec (Zdg l h);have e:Classical.choose (Zdg l h)=m:=by
  have:=c2 m hm;have:=hle _ c1;omega
 rw[e]
theorem Zfe (l:List Int) (j:Nat):(rotAt l j).Perm l:=by
 unfold rotAt;refine List.perm_append_comm.trans ?_;rw[Wb9]
theorem Zns (l:List Int):(lf l).Perm l:=by
 by_cases h:l=[]
 ·subst h;rw[Zoe]
 ·obtain⟨m,hm,hle⟩:=Zdg l h
  rw[Zq3 hm hle];exact Zfe _ _
theorem Zr6 {l:List Int}{m:Int}(hm:m∈l) (hle:∀a∈l,m<=a):(lf l).head?=some m:=by
 obtain⟨i1,i2,_⟩:=Za4 hm;rw[Zq3 hm hle];unfold rotAt;rw[List.drop_eq_getElem_cons i1,List.cons_append,List.head?_cons];rw[Waa i1]at i2;exact i2
theorem Zhg {ts:List (Int × Int)}{m:Nat}{p:Int}{l:List Int}(h:l.Perm (endsBelow ts m p)):RowOk ts m p (lf l):=by
 refine⟨(Zns l).trans h,?_⟩;cases e:endsBelow ts m p with
 |nil=>
  rw[e]at h;rw[List.Perm.eq_nil h,Zoe]
 |cons x X=>
  have hs:=Ze4 ts m p;rw[e]at hs h;rw[List.head?_cons];refine Zr6 (h.mem_iff.mpr Wa0) λa ha=>?_;rcases Wat.mp (h.mem_iff.mp ha) with z|z
  ·omega
  ·have:=List.rel_of_pairwise_cons hs z
   omega
section
variable {P:Program}{w:World}{K:W.Frag}{mg:Str->Option Value}{base:Heap}{f:Addr}{fd:FuncData}
def fLeastE:DSp:=λds Post=>∃ns:List Int,ds=[.lst (ns.map .int)]/\ns.length<=100/\Post (encRow (lf ns))
theorem Zh1 (r:List Int):(r.map D.int).map intD=r:=by
 rw[Wan]
 conv=>rhs;rw[<- Wd0 r]
 rfl
def Rising (R:List (List Int)):Prop:=R.Pairwise λa b=>rlt b a=false
theorem Znu {A B:List (List Int)}(ha:Rising A) (hb:Rising B) (h:A.Perm B):A=B:=
 List.Perm.eq_of_pairwise (le:=λa b=>rlt b a=false) (λa b _ _ h1 h2=>Zjr a b h2 h1) ha hb h
def rowI:D->List Int
 |.lst ds=>ds.map intD
 |.tup ds=>ds.map intD
 |_=>[]
theorem Zdt (r:List Int):rowI (rowD r)=r:=Zh1 r
end
theorem one_part {N:Nat}{ts:List (Int × Int)}(hW:WebOk (N:Int) ts) (h:∀k:Nat,k+1<N->∃t∈ts,∃j:Nat,j<=k/\(t=((j:Int),(k:Int)+1)\/t=((k:Int)+1,(j:Int)))):OneP N ts:=by
 have all:∀p:Nat,p<N->mk N ts (p:Int)=mk N ts 0:=by
  intro p
  induction p using Nat.strongRecOn with
  |_ p ih=>
   intro hp;cases p with
   |zero=>rfl
   |succ k=>
    obtain⟨t,ht,j,hj,e⟩:=h k hp;have m:=Zq9 hW ht;have ek:((k+1:Nat):Int)=(k:Int)+1:=by omega
    rw[ek];rcases e with rfl|rfl
    ·exact m.symm.trans (ih j (by omega) (by omega))
    ·exact m.trans (ih j (by omega) (by omega))
 intro ms hm
 match ms,hm with
 |[],_=>exact Wb2 _
 |[a],_=>exact Wah _
 |a::b::r,hm=>
  exfalso
  have one:∀x∈a::b::r,x=mk N ts 0:=λx hx=>by
   have:=(hm.2 x).mp hx;obtain⟨i,hi⟩:=Wbn.mp this;have hl:=(Waf.mp hi).1;rw[Zb5]at hl;have:=all i hl;unfold mk at this ⊢;rw[Wak,Wac,hi]at this;exact this
  have hs:=hm.1;rw[List.pairwise_cons]at hs;have l:=hs.1 b Wa0;have e1:=one a Wa0;have e2:=one b (Wax _ Wa0);omega
def fOneP:BSp:=λps ds Post=>Pen ps/\∃L:Int,ds=[.int L]/\0<=L/\L<=24/\∀(N:Nat) (ts:List (Int × Int)) ps',Pen ps' -> WebOk (N:Int) ts->OneP N ts->Post (encWeb (N:Int) ts) ps'
def Hng (n:Int) (k:Nat) (u v:Int):Prop:=(k:Int)+1<n->∃j:Nat,j<=k/\((u=(j:Int)/\v=(k:Int)+1)\/(u=(k:Int)+1/\v=(j:Int)))
def p1St (ps:List D) (L c way n:Int) (r:List L2.Slot):Evt:=.bor (.lst ps)::.val (.int L)::.val (.int c)::.val (.int way)::.val (.int n)::r
def p1N (ps:List D) (L c way:Int):Evt->Prop:=λΔ=>∃n:Int,1<=n/\n<=25/\n<=c+1 /\ Δ = p1St ps L c way n [.any,.any,.any,.any]
def p1L (L c way n:Int) (i:Nat):Evt->Prop:=λΔ=>∃(ps:List D) (ts:List (Int × Int)) (x6 x7 x8:L2.Slot),Pen ps/\ts.length=i/\(∀t∈ts,0<=t.1/\t.1<n/\0<=t.2/\t.2<n)/\(∀k:Nat,k<i->∃t∈ts,Hng n k t.1 t.2) /\ Δ = p1St ps L c way n [.own (.lst (ts.map encTie)),x6,x7,x8]
def p1Q (L c way n:Int) (i:Nat) (fs:List D):Evt->Prop:=λΔ=>∃(ps:List D) (u v:Int),Pen ps/\0<=u/\u<n/\0<=v/\v<n/\Hng n i u v /\ Δ = p1St ps L c way n [.own (.lst fs),.val (.int (i:Int)),.val (.int u),.val (.int v)]
section
variable {P:Program}{w:World}{K:W.Frag}{mg:Str->Option Value}{base:Heap}{f:Addr}{fd:FuncData}
theorem Zr5 (mb:Mb mg) (C29:Callee P w K mg base 1 "_law_draw" ["_law_pen_here","_law_many"] (spB K fDraw)) (F:Fun K "_law_one_part" "_law_one_part" s_law_one_part f fd):FnOk P w K mg base CX0 2 f fd ["_law_pen_here","_law_limit"] (spB K fOneP):=by
 refine F.ok sc_law_one_part (Zd4 λps ds Post h=>by obtain⟨_,a,rfl,_⟩:=h;rfl) (λcdv A outer s H vs Q E hr h=>?_);have hu:=Zb9 hr;refine⟨_,(Zae (Zap (i:=2) sc_law_one_part.nd rfl (Or.inl rfl) (Za2 C29 (hr.mono (by decide)) (Zaa (pv 0) (Zaa (Zaw (addK K) (pv 1) Zag) Zad)))) (Zae (Zap (i:=3) sc_law_one_part.nd rfl (Or.inl rfl) (Za2 C29 (hr.mono (by decide)) (Zaa (pv 0) (Zaa Zag Zad)))) (Zae (Zap (i:=4) sc_law_one_part.nd rfl (Or.inl rfl) (Zai (Zfr rfl) rfl (mb "min" (by decide)) Zkt (Zaa Zag (Zaa (Zaw (addK K) Zag (Za2 C29 (hr.mono (by decide)) (Zaa (pv 0) (Zaa (Zaw (addK K) (pv 2) Zag) Zad)))) Zad)))) (Zae (Zbq (PW.pt (pw_or (Zaq Zct (pv 3) Zag (nomark _)) (pw_or1 (Zaq Zct (pv 3) Zag (nomark _))))) (Zah (Zap (i:=4) sc_law_one_part.nd rfl (Or.inl rfl) (Zaw (addK K) Zag (pv 2)))) Zay) (Zae (Zbq (Zaq Zct (pv 3) Zag (nomark _)) (Zah (Zap (i:=4) sc_law_one_part.nd rfl (Or.inl rfl) (Zai (Zfm rfl) rfl (mb "max" (by decide)) Zni (Zaa Zag (Zaa (pv 2) Zad))))) Zay) (Zae (Zap (i:=5) sc_law_one_part.nd rfl (Or.inl rfl) (Zb4 Zad)) (Zae (Zcu PassesOwn.never rfl (Za6 rfl (mb "range" (by decide)) (Zaa (pv 2) Zad)) (Zaj (i:=6) sc_law_one_part.nd rfl (Or.inl rfl)) (Zae (Zk0 (i:=7) (j:=8) rfl sc_law_one_part.nd rfl rfl (by decide) rfl rfl (Zaa (Za2 C29 (hr.mono (by decide)) (Zaa (pv 0) (Zaa (pv 4) Zad))) (Zaa (Za2 C29 (hr.mono (by decide)) (Zaa (pv 0) (Zaa (pv 4) Zad))) Zad)) rfl) (Zae (Zbq (Zaq Ztx (Zaw (addK K) (pv 6) Zag) (pv 4) (nomark _)) (Zah (Zk0 (i:=7) (j:=8) rfl sc_law_one_part.nd rfl rfl (by decide) rfl rfl (Zaa (Zar (ixK K hu) (Zb4 (Zaa (Za2 C29 (hr.mono (by decide)) (Zaa (pv 0) (Zaa (Zaw (addK K) (pv 6) Zag) Zad))) (Zaa (pv 6) (Zaa Zag Zad)))) (Zar (ixK K hu) (Zb4 (Zaa Zag (Zaa Zag (Zaa Zag (Zaa Zag (Zaa Zag Zad)))))) (pv 3) (λ_ _=>rfl)) (λ_ _=>rfl)) (Zaa (Zaw (addK K) (pv 6) Zag) Zad)) rfl)) (Zah (Zbq (Zaq Zct (pv 3) Zag (nomark _)) (Zah (Zk0 (i:=7) (j:=8) rfl sc_law_one_part.nd rfl rfl (by decide) rfl rfl (Zaa (Zaw Zq5 (pv 4) Zag) (Zaa Zag Zad)) rfl)) Zay))) (Zae (Zbq (Zaq Zct (Za2 C29 (hr.mono (by decide)) (Zaa (pv 0) (Zaa Zag Zad))) Zag (nomark _)) (Zah (Zk0 (i:=7) (j:=8) rfl sc_law_one_part.nd rfl rfl (by decide) rfl rfl (Zaa (pv 8) (Zaa (pv 7) Zad)) rfl)) Zay) (Zah (Zdi (bmK K PySem.F.plainAttrs_list PySem.F.slot_list_insert PySem.F.type_list_insert Zeg (pv 5) (Zaa (Za2 C29 (hr.mono (by decide)) (Zaa (pv 0) (Zaa (Zaw (addK K) (Zai (lenK K) rfl (mb "len" (by decide)) Za7 (Zaa (pv 5) Zad)) Zag) Zad))) (Zaa (Zbx (Zaa (pv 7) (Zaa (pv 8) Zad))) Zad))))))))) (Zah (Zav (Zbx (Zaa (pv 4) (Zaa (Za8 (tupK K) rfl (mb "tuple" (by decide)) Zbg (Zaa (pv 5) Zad)) Zad)))))))))))),Zjp (λps ds Post hf=>?_) h⟩;obtain⟨hp,L,rfl,L0,L1,q⟩:=hf;refine⟨by simp,?_⟩;dsimp only[cxOf,startD,Wbt,Wbp,Wbd,Waj];refine Zal (Zax (Zcy rfl rfl (Zab (Zbn (Zcc (Zak rfl) Zbh Zc7) (Zaf (Zch (m:=L+1) rfl rfl hp (by omega) (by omega) λc ps1 hp1 c0 c1=>?_))))));refine Zal (Zax (Zn4 rfl rfl hp1 (by decide) (by decide) λway ps2 hp2 w0 w1=>?_));refine Zal (Zax (Za9 (Zab (Za3 (Zab (Zau (Za3 (Zcy rfl rfl (Zab (Zbn (Zcc (Zak rfl) Zbh Zc7) (Zaf (Zch (m:=c+1) rfl rfl hp2 (by omega) (by omega) λr ps3 hp3 r0 r1=>Zds (Zaf (Zgd ?_))))))))))))));have hn0:1<=(if 1+r<25 then 1+r else 25)/\(if 1+r<25 then 1+r else 25)<=25/\(if 1+r<25 then 1+r else 25)<=c+1:=by split <;> omega
 generalize (if 1+r<25 then 1+r else 25)=n0 at hn0 ⊢;refine Zbe (p1N ps3 L c way) ?_ ?_
 ·have x:∀{bk ct:Evt->Prop}{rt:D->Evt->Prop}{ro:OD->Evt->Prop},JS K (tAsg (tOp (rAddU K) (tC (.int 1)) (tVar 2)) (gName 4)) (p1St ps3 L c way n0 [.any,.any,.any,.any]) ⟨p1N ps3 L c way,rt,bk,ct,ro⟩:=λ{_ _ _ _}=>Zax (Zbn (Zcc Zbh (Zak rfl) Zc7) ⟨1+c,by omega,by omega,by omega,rfl⟩)
  exact Zbv (Zix (Ze2 rfl (λ_=>iteT (iteT x)) (λ_=>iteF (Ze2 rfl (λ_=>iteT x) (λ_=>iteF (Za1 ⟨n0,hn0.1,hn0.2.1,hn0.2.2,rfl⟩))))))
 rintro Δ1 ⟨n1,h1,h2,h3,rfl⟩;refine Zbe (p1N ps3 L c way) ?_ ?_
 ·refine Zbv (Ze2 rfl (λ_=>iteT ?_) (λ_=>iteF (Za1 ⟨n1,h1,h2,h3,rfl⟩)))
  refine Zax (Za9 (Zab (Za3 (Zab (Zac rfl (Zaf (Zgd ⟨_,?_,?_,?_,rfl⟩)))))))
  all_goals (split <;> omega)
 rintro Δ1 ⟨n,n0',n1',n2',rfl⟩;refine Zal (Zc6 (Zdk (Zaf ⟨by decide,?_⟩)));refine Zbe (p1L L c way n c.toNat) ?_ ?_
 ·refine Zcv (Za5 (Zab (Zac rfl (Zaf ⟨_,rfl,by omega,by omega,?_⟩))))
  refine⟨p1L L c way n,⟨ps3,[],.any,.any,.any,hp3,rfl,λ_ h=>(nomatch h),λk hk=>absurd hk (Nat.not_lt_zero k),rfl⟩,?_,λΔ2 h=>by rw[Zaz]at h;exact h⟩;rintro i d Δ2 hd ⟨px,ts,x6,x7,x8,hpx,hl,ht,hh,rfl⟩;obtain⟨hi,rfl⟩:=Zbo hd;rw[Wbm];refine Zbu (Zal (Zft (Zab (Zcy rfl rfl (Zab (Zac rfl (Zaf (Zch (m:=n) rfl rfl hpx n0' (by omega) λx pa hpa hx0 hx1=>?_))))))));refine Zab (Zcy rfl rfl (Zab (Zac rfl (Zaf (Zch (m:=n) rfl rfl hpa n0' (by omega) λy pb hpb hy0 hy1=>Zaf ⟨_,_,rfl,?_⟩)))));refine Zbe (p1Q L c way n i (ts.map encTie)) ?_ ?_
  ·refine Zbv (Za0 (Zau (Zbn (Zcc (Zak rfl) Zbh Zc7) (Zac rfl (Znm ⟨_,rfl,ite2 (λz=>?_) (λz=>?_)⟩)))))
   ·have z:(i:Int)+1<n:=of_decide_eq_true z
    obtain⟨wi,a1,a2⟩:∃wi:Int,atI [D.int 0,.int 1,.int 2,.int 0,.int 0] way=some (.int wi)/\(wi=0\/wi=1\/wi=2):=by
     rcases(show way=0\/way=1\/way=2\/way=3\/way=4 by omega) with e|e|e|e|e <;> subst e
     ·exact⟨0,rfl,by omega⟩
     ·exact⟨1,rfl,by omega⟩
     ·exact⟨2,rfl,by omega⟩
     ·exact⟨0,rfl,by omega⟩
     ·exact⟨0,rfl,by omega⟩
    refine Zft (Zab (Zau (Zgv (Zab (Zcy rfl rfl (Zab (Zbn (Zcc (Zak rfl) Zbh Zc7) (Zaf (Zch (m:=(i:Int)+1) rfl rfl hpb (by omega) (by omega) λr pc hpc r0 r1=>?_)))))))));obtain⟨g,b1,b2⟩:∃g:Nat,atI [D.int r,.int (i:Int),.int 0] wi=some (.int (g:Int))/\g<=i:=by
     rcases a2 with e|e|e <;> subst e
     ·exact⟨r.toNat,by rw[Wb8 r0];rfl,by omega⟩
     ·exact⟨i,rfl,Wah _⟩
     ·exact⟨0,rfl,by omega⟩
    refine Zab (Zac rfl (Zab (Za3 (Zaf ⟨(by show 3<=sizeLine;decide),Zbn (Zdm (Zve (Zam Zbh (Zam Zbh (Zam Zbh (Zam Zbh (Zam Zbh Zcf))))) (by show 5<=sizeLine;decide)) (Zak rfl) a1) (Zb7 b1 ?_)⟩))));exact Zab (Zbn (Zcc (Zak rfl) Zbh Zc7) (Zaf ⟨_,_,rfl,pc,(g:Int),(i:Int)+1,hpc,by omega,by omega,by omega,z,λ_=>⟨g,b2,.inl ⟨rfl,rfl⟩⟩,rfl⟩))
   ·have z:¬ (i:Int)+1<n:=of_decide_eq_false (Wdj.mpr z)
    refine Zbv (Ze2 rfl (λ_=>iteT ?_) (λ_=>iteF (Za1 ⟨pb,x,y,hpb,hx0,hx1,hy0,hy1,λa=>absurd a z,rfl⟩)));exact Zft (Zd5 (Zam (Zcc (Zak rfl) Zbh Zv3) (Zam Zbh Zcf)) ⟨_,_,rfl,pb,n-1,0,hpb,by omega,by omega,by omega,by omega,λa=>absurd a z,rfl⟩)
  rintro Δ3 ⟨pc,u,v,hpc,u0,u1,v0,v1,hg,rfl⟩;refine Zbe (p1Q L c way n i (ts.map encTie)) ?_ ?_
  ·refine Zbv (Za0 (Zau (Zn4 rfl rfl hpc (by decide) (by decide) λs0 pd hpd s00 s01=>Za3 (Zh9 ⟨_,rfl,ite2 (λz=>?_) (λz=>Za1 ⟨pd,u,v,hpd,u0,u1,v0,v1,hg,rfl⟩)⟩))))
   exact Zft (Zd5 (Zam (Zak rfl) (Zam (Zak rfl) Zcf)) ⟨_,_,rfl,pd,v,u,hpd,v0,v1,u0,u1,λa=>by obtain⟨j,hj,e⟩:=hg a;exact⟨j,hj,e.elim (λe=>.inr ⟨e.2,e.1⟩) (λe=>.inl ⟨e.2,e.1⟩)⟩,rfl⟩)
  rintro Δ3 ⟨pe,u,v,hpe,u0,u1,v0,v1,hg,rfl⟩;refine Zoh rfl rfl (Zcy rfl rfl (Zab (Zau (Zh4 rfl rfl (Za3 (Zds (Zaf ?_)))))));rw[Wab];refine Zch (m:=(ts.length:Int)+1) rfl rfl hpe (by omega) (by omega) λs0 pf hpf s00 s01=>?_;refine Zbn (Zrh (Zam (Zak rfl) (Zam (Zak rfl) Zcf)) Zb0) ⟨_,s0,_,rfl,rfl,rfl,?_,by omega,by omega,?_⟩
  ·rw[Wab];exact small1000 (by omega)
  refine⟨pf,ts.take (insI (ts.map encTie).length s0)++(u,v)::ts.drop (insI (ts.map encTie).length s0),.val (.int (i:Int)),.val (.int u),.val (.int v),hpf,?_,?_,?_,?_⟩
  ·rw[Wao,War,Wb0,Wbo];omega
  ·intro t h
   rcases Wbl.mp h with h|h
   ·exact ht t (List.mem_of_mem_take h)
   ·rcases Wat.mp h with h|h
    ·rw[h];exact⟨u0,u1,v0,v1⟩
    ·exact ht t (List.mem_of_mem_drop h)
  ·intro k hk
   by_cases e:k=i
   ·subst e;exact⟨(u,v),by simp,hg⟩
   ·obtain⟨t,h1,h2⟩:=hh k (by omega)
    refine⟨t,?_,h2⟩;rw[<- Wb9 (insI (ts.map encTie).length s0) ts]at h1;rcases Wbl.mp h1 with h1|h1
    ·exact Wbj _ h1
    ·exact Wa8 _ (Wax _ h1)
  ·rw[Wa1,Wa3,Wda,Wdb];rfl
 rintro Δ1 ⟨pz,ts,x6,x7,x8,hpz,hl,ht,hh,rfl⟩;obtain⟨N,rfl⟩:∃N:Nat,n=(N:Int):=⟨n.toNat,by omega⟩;have W:WebOk (N:Int) ts:=⟨n0',n1',by omega,ht⟩;refine Zbl (Zbw (Zab (Zac rfl (Zab (Za9 (Zab (Zi4 rfl (Zaf (Zcb (Or.inl rfl) (Zaf ⟨Zb0,?_⟩))))))))));refine⟨_,rfl,q N ts _ hpz W (one_part W λk hk=>?_)⟩;obtain⟨t,t1,t2⟩:=hh k (by omega);obtain⟨j,j1,j2⟩:=t2 (by omega);refine⟨t,t1,j,j1,j2.elim (λe=>.inl ?_) (λe=>.inr ?_)⟩
 ·exact Prod.ext e.1 e.2
 ·exact Prod.ext e.1 e.2
end
noncomputable def srtI (l:List Int):List Int:=by
 classical exact if h:∃ms:List Int,ms.Perm l/\ms.Pairwise (· <= ·) then Classical.choose h else l
theorem Zoq {l ms:List Int}(h1:ms.Perm l) (h2:ms.Pairwise (· <= ·)):ms=srtI l:=by
 unfold srtI;have h:∃ms:List Int,ms.Perm l/\ms.Pairwise (· <= ·):=⟨ms,h1,h2⟩;rw[dif_pos h];have hc:=Classical.choose_spec h;exact List.Perm.eq_of_pairwise (le:=λa b=>a<=b) (λa b _ _ h1 h2=>by omega) h2 hc.2 (h1.trans hc.1.symm)
noncomputable def srtP (l:List (List Int)):List (List Int):=by
 classical exact if h:∃ms:List (List Int),ms.Perm l/\Rising ms then Classical.choose h else l
theorem Zsx {l ms:List (List Int)}(h1:ms.Perm l) (h2:Rising ms):ms=srtP l:=by
 unfold srtP;have h:∃ms:List (List Int),ms.Perm l/\Rising ms:=⟨ms,h1,h2⟩;rw[dif_pos h];have hc:=Classical.choose_spec h;exact Znu h2 hc.2 (h1.trans hc.1.symm)
theorem Zga (l:List (List Int)):(srtP l).Perm l:=by
 unfold srtP;by_cases h:∃ms:List (List Int),ms.Perm l/\Rising ms
 ·rw[dif_pos h];exact(Classical.choose_spec h).1
 ·rw[dif_neg h]
def prs (r:List Int):List (List Int):=r.map λx=>[x % 2,x]
def sndR (R:List (List Int)):List Int:=R.map λp=>p.getD 1 0
theorem Zqf (r:List Int):sndR (prs r)=r:=by
 unfold sndR prs;rw[Wan];exact(Wa9 (λ_ _=>rfl)).trans (Wd0 r)
theorem Zqt (r:List Int):(sndR (srtP (prs r))).Perm r:=by
 have:=(Zga (prs r)).map λp=>p.getD 1 0;rw[show (prs r).map (λp=>p.getD 1 0)=r from Zqf r]at this;exact this
theorem Znz {n:Int}{ts:List (Int × Int)}{o:List (List Int)}(hO:OrdOk n ts o) (f:List Int->List Int) (h:∀(p:Nat) r,o[p]?=some r->RowOk ts (2*ts.length) (p:Int) (f r)):OrdOk n ts (o.map f):=by
 refine⟨by rw[Wab];exact hO.len,λp r hr=>?_⟩;rw[Wad]at hr;cases q:o[p]? with
 |none=>rw[q]at hr;cases hr
 |some r'=>rw[q]at hr;cases hr;exact h p r' q
theorem Zte {ts:List (Int × Int)}{m:Nat}{p:Int}{r:List Int}(h:RowOk ts m p r):RowOk ts m p (lf (sndR (srtP (prs r)))):=Zhg ((Zqt r).trans h.perm)
def fPlain:BSp:=λps ds Post=>Pen ps/\∃n ts,ds=[encWeb n ts]/\WebOk n ts/\∀o ps',Pen ps' -> OrdOk n ts o->Post (encOrd o) ps'
def rowsI:D->List (List Int)
 |.lst ds=>ds.map rowI
 |_=>[]
theorem Zkq (R:List (List Int)):rowsI (.lst (R.map rowD))=R:=by
 show (R.map rowD).map rowI=R;rw[Wan];exact(Wa9 (λr _=>Zdt r)).trans (Wd0 R)
section
variable {P:Program}{w:World}{K:W.Frag}{mg:Str->Option Value}{base:Heap}{f:Addr}{fd:FuncData}
theorem Zqv (mb:Mb mg) (C32:Callee P w K mg base 2 "_law_order" ["_law_pen_here","_law_web"] (spB K fOrder)) (C29:Callee P w K mg base 1 "_law_draw" ["_law_pen_here","_law_many"] (spB K fDraw)) (C27:Callee P w K mg base 1 "_law_begun" ["_law_row"] (spD K fLeastE)) (F:Fun K "_law_plain_order" "_law_plain_order" s_law_plain_order f fd):FnOk P w K mg base CX0 3 f fd ["_law_pen_here","_law_web"] (spB K fPlain):=by
 refine F.ok sc_law_plain_order (Zd4 λps ds Post h=>by obtain⟨_,_,_,rfl,_⟩:=h;rfl) (λcdv A outer s H vs Q E hr h=>?_);have hu:=Zb9 hr;have hv:=Zk2 hr;refine⟨_,(Zae (Zap (i:=2) sc_law_plain_order.nd rfl (Or.inl rfl) (Za2 C32 (hr.mono (by decide)) (Zaa (pv 0) (Zaa (pv 1) Zad)))) (Zae (Zap (i:=3) sc_law_plain_order.nd rfl (Or.inl rfl) (Za2 C29 (hr.mono (by decide)) (Zaa (pv 0) (Zaa Zag Zad)))) (Zae (Zbq (Zaq Zct (pv 3) Zag (nomark _)) (Zah (Zap (i:=2) sc_law_plain_order.nd rfl (Or.inl rfl) (Za8 (tupK K) rfl (mb "tuple" (by decide)) Zbg (Zaa (Zbd ["_law_row"] (show CompSc (defScope s_law_plain_order) ["_law_pen_here","_law_web","_law_found","_law_way","_law_rows"] _ [] [] from ⟨rfl,by decide +kernel,by decide +kernel,by decide +kernel,rfl,by decide +kernel⟩) rfl (seqK K (pv 2)) (λ_ _ _ _ _=>(Zaj (i:=0) (show List.Nodup (["_law_row"]:List Str) from by decide) rfl (Or.inl rfl))) (λ_ _ _ _ _=>Zba) (λ_ _ _ _ _=>(Za8 (tupK K) rfl (mb "tuple" (by decide)) Zbg (Zaa (Zai (sortTK K) rfl (mb "sorted" (by decide)) Zdn (Zaa (pv 0) Zad)) Zad)))) Zad)))) Zay) (Zae (Zbq (Zaq Zct (pv 3) Zag (nomark _)) (Zae (Zdy (i:=4) ["_law_row"] (show CompSc (defScope s_law_plain_order) ["_law_pen_here","_law_web","_law_found","_law_way","_law_rows"] _ [] [] from ⟨rfl,by decide +kernel,by decide +kernel,by decide +kernel,rfl,by decide +kernel⟩) rfl sc_law_plain_order.nd rfl (Or.inl rfl) (seqK K (pv 2)) (λ_ _ _ _ _=>(Zaj (i:=0) (show List.Nodup (["_law_row"]:List Str) from by decide) rfl (Or.inl rfl))) (λ_ _ _ _ _=>Zba) (λ_ _ _ _ _=>(Zai (sortGK K hv) rfl (mb "sorted" (by decide)) Zdn (Zaa (Zbd ["_law_end"] (show CompSc (relab (defScope s_law_plain_order) _) ["_law_row"] _ [] [] from ⟨rfl,by decide +kernel,by decide +kernel,by decide +kernel,rfl,by decide +kernel⟩) rfl (seqK K (pv 0)) (λ_ _ _ _ _=>(Zaj (i:=0) (show List.Nodup (["_law_end"]:List Str) from by decide) rfl (Or.inl rfl))) (λ_ _ _ _ _=>Zba) (λ_ _ _ _ _=>(Zbx (Zaa (Zaw Zca (pv 0) Zag) (Zaa (pv 0) Zad))))) Zad)))) (Zah (Zap (i:=2) sc_law_plain_order.nd rfl (Or.inl rfl) (Za8 (tupK K) rfl (mb "tuple" (by decide)) Zbg (Zaa (Zbd ["_law_row"] (show CompSc (defScope s_law_plain_order) ["_law_pen_here","_law_web","_law_found","_law_way","_law_rows"] _ [] [] from ⟨rfl,by decide +kernel,by decide +kernel,by decide +kernel,rfl,by decide +kernel⟩) rfl (seqK K (pv 4)) (λ_ _ _ _ _=>(Zaj (i:=0) (show List.Nodup (["_law_row"]:List Str) from by decide) rfl (Or.inl rfl))) (λ_ _ _ _ _=>Zba) (λ_ _ _ _ _=>(Za2 C27 (hr.mono (by decide)) (Zaa (Zbd ["_law_side","_law_end"] (show CompSc (relab (defScope s_law_plain_order) _) ["_law_row"] _ [] [] from ⟨rfl,by decide +kernel,by decide +kernel,by decide +kernel,rfl,by decide +kernel⟩) rfl (seqK K (pv 0)) (λ_ _ _ _ _=>(gtupK (n:=2) K rfl (Zbr (Zaj (i:=0) (show List.Nodup (["_law_side","_law_end"]:List Str) from by decide) rfl (Or.inl rfl)) (Zbr (Zaj (i:=1) (show List.Nodup (["_law_side","_law_end"]:List Str) from by decide) rfl (Or.inl rfl)) Zeo)))) (λ_ _ _ _ _=>Zba) (λ_ _ _ _ _=>(pv 1))) Zad)))) Zad))))) Zay) (Zah (Zav (pv 2))))))),Zjp (λps ds Post hf=>?_) h⟩;obtain⟨hp,n,ts,rfl,hW,q⟩:=hf;refine⟨by simp,?_⟩;dsimp only[cxOf,startD,Wbt,Wbp,Wbd,Waj];refine Zal (Zax (Zcy rfl rfl (Zab (Zac rfl (Zaf (Zo7 rfl rfl hp hW λo ps1 hp1 hO=>?_))))));have hw:=hW.len;have hn:=hW.hi;have ol:=hO.len;have rl:∀(i:Nat) r,o[i]?=some r->r.length<=48:=λi r hr=>by have:=(hO.row i r hr).len;omega
 refine Zal (Zax (Zn4 rfl rfl hp1 (by decide) (by decide) λway ps2 hp2 w0 w1=>?_));refine Zbe (λΔ=>∃o':List (List Int),OrdOk n ts o' /\ (way=1->o'=o) /\ Δ = [.bor (.lst ps2),.val (encWeb n ts),.val (encOrd o'),.val (.int way),.any]) ?_ ?_
 ·refine Zbv (Ze2 rfl (λhz=>iteT ?_) (λ_=>iteF (Za1 ⟨o,hO,λ_=>rfl,rfl⟩)))
  refine Zax (Za9 (Zab (Zbi (by decide) (Zc9 (Zac rfl ⟨_,rfl,by rw[Wab];exact small1000 (by omega),λ_=>true,λd=>rowD (srtI (rowI d)),λi d hd=>?_,?_⟩)))))
  ·rw[Wad]at hd
   cases z:o[i]? with
   |none=>rw[z]at hd;cases hd
   |some r=>
    rw[z]at hd;have hd0:encRow r=d:=by simpa using hd
    have hd:rowD r=d:=hd0;subst hd;have:=rl i r z;refine Zbc ⟨rfl,Za9 (Zab (Zbp (Zka (Zab (Zac rfl (Zaf ⟨r,rfl,by omega,λms m1 m2=>⟨_,rfl,Zaf (Zcb (Or.inl rfl) ⟨?_,_,rfl⟩)⟩⟩))))))⟩;show D.tup (ms.map D.int)=rowD (srtI (rowI (rowD r)));rw[Zdt,<- Zoq m1 m2];rfl
  have e1:((o.map encRow).filter λ_=>true).map (λd=>rowD (srtI (rowI d)))=(o.map srtI).map encRow:=by
   rw[Wa5.mpr (by simp),Wan,Wan];exact Wa9 λr _=>by show rowD (srtI (rowI (rowD r)))=_;rw[Zdt];rfl
  rw[e1];refine Zaf (Zcb (Or.inl rfl) ⟨o.map srtI,Znz hO srtI λp r hr=>?_,λe=>by omega,rfl⟩);have R:=hO.row p r hr;have:srtI r=endsBelow ts (2*ts.length) (p:Int):=(Zoq R.perm.symm ((Ze4 ts _ _).imp λh=>Int.le_of_lt h)).symm;rw[this];exact⟨List.Perm.refl _,rfl⟩
 rintro Δ1 ⟨o1,hO1,e1,rfl⟩;have ol1:=hO1.len;have rl1:∀(i:Nat) r,o1[i]?=some r->r.length<=48:=λi r hr=>by have:=(hO1.row i r hr).len;omega
 refine Zbe (λΔ=>∃(o':List (List Int)) (x4:L2.Slot),OrdOk n ts o' /\ Δ = [.bor (.lst ps2),.val (encWeb n ts),.val (encOrd o'),.val (.int way),x4]) ?_ ?_
 ·refine Zbv (Ze2 rfl (λhz=>iteT ?_) (λ_=>iteF (Za1 ⟨o1,_,hO1,rfl⟩)))
  refine Zal (Zax (Zbi (by decide) (Zc9 (Zac rfl ⟨_,rfl,by rw[Wab];exact small1000 (by omega),λ_=>true,λd=>.lst ((srtP (prs (rowI d))).map rowD),λi d hd=>?_,?_⟩))))
  ·rw[Wad]at hd
   cases z:o1[i]? with
   |none=>rw[z]at hd;cases hd
   |some r=>
    rw[z]at hd;have hd0:encRow r=d:=by simpa using hd
    have hd:rowD r=d:=hd0;subst hd;have:=rl1 i r z;refine Zbc ⟨rfl,Zbp (Zqi (Zab (Zbi (by decide) (Zc9 (Zac rfl ⟨_,rfl,by rw[Wab];exact small1000 (by omega),λ_=>true,λd=>rowD [intD d % 2,intD d],λj e he=>?_,?_⟩)))))⟩
    ·rw[Wad]at he
     cases z:r[j]? with
     |none=>rw[z]at he;cases he
     |some x=>
      rw[z]at he;have he:D.int x=e:=by simpa using he
      subst he;exact Zbc ⟨rfl,Zbw (Zab (Zau (Zac rfl (Za3 (jr_I (show (0:Int)<2 by decide) (Zab (Zac rfl (Zaf ⟨Zb0,rfl,_,rfl⟩))))))))⟩
    have e2:((r.map D.int).filter λ_=>true).map (λd=>rowD [intD d % 2,intD d])=(prs r).map rowD:=by
     rw[Wa5.mpr (by simp)];unfold prs;rw[Wan,Wan];rfl
    rw[e2];refine Zaf ⟨prs r,Or.inl rfl,by unfold prs;rw[Wab];omega,λms m1 m2=>⟨_,rfl,?_,_,rfl⟩⟩;show D.lst (ms.map rowD)=.lst ((srtP (prs (rowI (rowD r)))).map rowD);rw[Zdt,<- Zsx m1 m2]
  have e3:((o1.map encRow).filter λ_=>true).map (λd=>D.lst ((srtP (prs (rowI d))).map rowD))=o1.map λr=>.lst ((srtP (prs r)).map rowD):=by
   rw[Wa5.mpr (by simp),Wan];exact Wa9 λr _=>by show D.lst ((srtP (prs (rowI (rowD r)))).map rowD)=_;rw[Zdt]
  rw[e3];refine Zax (Za9 (Zab (Zbi (by decide) (Zc3 (Zac rfl ⟨_,Or.inl rfl,by rw[Wab];exact small1000 (by omega),λ_=>true,λd=>rowD (lf (sndR (rowsI d))),λi d hd=>?_,?_⟩)))))
  ·rw[Wad]at hd
   cases z:o1[i]? with
   |none=>rw[z]at hd;cases hd
   |some r=>
    rw[z]at hd;have hd:D.lst ((srtP (prs r)).map rowD)=d:=by simpa using hd
    subst hd;have:=rl1 i r z;have pl:=(Zga (prs r)).length_eq;have pl2:(prs r).length=r.length:=by unfold prs;rw[Wab]
    refine Zbc ⟨rfl,Zbb (Zab (Zj3 (by decide) (Zc3 (Zac rfl ⟨_,Or.inl rfl,by rw[Wab];exact small1000 (by omega),λ_=>true,λd=>.int ((rowI d).getD 1 0),λj e he=>?_,?_⟩))))⟩
    ·rw[Wad]at he
     cases z:(srtP (prs r))[j]? with
     |none=>rw[z]at he;cases he
     |some y=>
      rw[z]at he;have he:rowD y=e:=by simpa using he
      subst he;obtain⟨x,_,rfl⟩:=Wav.mp ((Zga (prs r)).mem_iff.mp (Waq z));exact⟨_,_,rfl,Zbc ⟨rfl,Zac rfl ⟨rfl,_,_,rfl⟩⟩⟩
    have e4:(((srtP (prs r)).map rowD).filter λ_=>true).map (λd=>D.int ((rowI d).getD 1 0))=(sndR (srtP (prs r))).map D.int:=by
     rw[Wa5.mpr (by simp)];unfold sndR;rw[Wan,Wan];exact Wa9 λy _=>by show D.int ((rowI (rowD y)).getD 1 0)=_;rw[Zdt];rfl
    rw[e4];refine Zaf ⟨_,rfl,by unfold sndR;rw[Wab];omega,?_,_,rfl⟩;show encRow _=rowD (lf (sndR (rowsI (.lst ((srtP (prs r)).map rowD)))));rw[Zkq];rfl
  have e5:((o1.map λr=>D.lst ((srtP (prs r)).map rowD)).filter λ_=>true).map (λd=>rowD (lf (sndR (rowsI d))))=(o1.map λr=>lf (sndR (srtP (prs r)))).map encRow:=by
   rw[Wa5.mpr (by simp),Wan,Wan];exact Wa9 λr _=>by show rowD (lf (sndR (rowsI (.lst ((srtP (prs r)).map rowD)))))=_;rw[Zkq];rfl
  rw[e5];exact Zaf (Zcb (Or.inl rfl) ⟨_,_,Znz hO1 _ λp r hr=>Zte (hO1.row p r hr),rfl⟩)
 rintro Δ1 ⟨o2,x4,hO2,rfl⟩;exact Zbl (Zac rfl ⟨_,rfl,q o2 ps2 hp2 hO2⟩)
end
def Lv:Nat->D->Prop
 |0,_=>False
 |_+1,.int _=>True
 |m+1,.tup ds=>ds.length<=1000/\∀d∈ds,Lv m d
 |_,_=>False
def fSame (m:Nat):DSp:=λds Post=>∃d,ds=[d,d]/\Lv m d/\Post (.bl true)
section
variable {P:Program}{w:World}{K:W.Frag}{mg:Str->Option Value}{base:Heap}{f:Addr}{fd:FuncData}
theorem Zpz (ds:List D):(((ds.zip ds).map λp=>D.tup [p.1,p.2]).filter λ_=>true).map (λ_=>D.bl true)=(Waj ds.length true).map D.bl:=by
 rw[Wa5.mpr (by simp),Wdu,Wd4,Wab,Wcv,Wcy]
theorem Zqx (n:Nat):(Waj n true).all id=true:=by
 rw[Wbg];intro x hx;rw[(Wdc.mp hx).2];rfl
theorem Zn5 {ds:List D}{i:Nat}{d:D}(hd':((ds.zip ds).map λp=>D.tup [p.1,p.2])[i]?=some d):∃e,e∈ds/\d=.tup [e,e]:=by
 rw[Wad]at hd';cases z:(ds.zip ds)[i]? with
 |none=>rw[z]at hd';cases hd'
 |some pr=>
  rw[z]at hd';have hd':D.tup [pr.1,pr.2]=d:=by simpa using hd'
  rw[Wbh]at z;have e:pr.1=pr.2:=Wa4.inj (z.1.symm.trans z.2);exact⟨pr.1,Waq z.1,by rw[<- hd',<- e]⟩
theorem Zpw {m:Nat}(mb:Mb mg) (C42:Callee P w K mg base 1 "_law_whole" ["_law_found"] (spD K fWhole)) (C40:Callee P w K mg base (m+1) "_law_same" ["_law_found","_law_due"] (spD K (fSame m))) (F:Fun K "_law_same" "_law_same" s_law_same f fd):FnOk P w K mg base CX0 (m+2) f fd ["_law_found","_law_due"] (spD K (fSame (m+1))):=by
 refine F.ok sc_law_same (Zb8 λds Post h=>by obtain⟨_,rfl,_⟩:=h;rfl) (λcdv A outer s H vs Q E hr h=>?_);have hu:=Zb9 hr;refine⟨_,(Zae (Zbq (truK K (Zai (isiUK K) rfl (mb "isinstance" (by decide)) Zb3 (Zaa (pv 1) (Zaa (Zf0 rfl (mb "tuple" (by decide)) Zbg (show RelV (.ty "tuple") _ from rfl)) Zad))) (λ_=>rfl)) (Zae (Zbq (PW.pt (pw_or (Ze0 (truK K (Zai (isiUK K) rfl (mb "isinstance" (by decide)) Zb3 (Zaa (pv 0) (Zaa (Zf0 rfl (mb "tuple" (by decide)) Zbg (show RelV (.ty "tuple") _ from rfl)) Zad))) (λ_=>rfl))) (pw_or1 (Zaq Ze3 (Zai (lenK K) rfl (mb "len" (by decide)) Za7 (Zaa (pv 0) Zad)) (Zai (lenK K) rfl (mb "len" (by decide)) Za7 (Zaa (pv 1) Zad)) (nomark _))))) (Zah (Zav Ze6)) Zay) (Zah (Zav (Zai (allK K rfl) rfl (mb "all" (by decide)) Zvx (Zaa (Zbd ["_law_one","_law_other"] (show CompSc (defScope s_law_same) ["_law_found","_law_due"] _ [] [] from ⟨rfl,by decide +kernel,by decide +kernel,by decide +kernel,rfl,by decide +kernel⟩) rfl (Zun K rfl (mb "zip" (by decide)) (Zaa (pv 0) (Zaa (pv 1) Zad))) (λ_ _ _ _ _=>(gtupK (n:=2) K rfl (Zbr (Zaj (i:=0) (show List.Nodup (["_law_one","_law_other"]:List Str) from by decide) rfl (Or.inl rfl)) (Zbr (Zaj (i:=1) (show List.Nodup (["_law_one","_law_other"]:List Str) from by decide) rfl (Or.inl rfl)) Zeo)))) (λ_ _ _ _ _=>Zba) (λ_ _ _ _ _=>(Za2 C40 (hr.mono (by first|decide|omega)) (Zaa (pv 0) (Zaa (pv 1) Zad))))) Zad))))) Zay) (Zah (Zav (Zrm (Za2 C42 (hr.mono (by first|decide|omega)) (Zaa (pv 0) Zad)) (Zrs (Ztp Zct (pv 0) (pv 1) (nomark _))))))),Zeu (λds Post hf=>?_) h⟩;obtain⟨d,rfl,hd,q⟩:=hf;refine⟨by simp,?_⟩;dsimp only[startD,Wbt,Wbp,Wbd];cases d with
 |int i=>
  refine Zal (Zbv (Zcw (Za9 (Zab (Zac rfl (Zab (Zjc (Zaf (Zen (T:="int") (b:=false) rfl (λ_=>by rfl) ⟨_,rfl,iteF (Za1 ?_)⟩)))))))));refine Zbl (Zjg (Zbb (Zab (Zac rfl (Zaf ⟨_,rfl,_,rfl,?_⟩)))));refine iteT (Zau (Zac rfl (Zac rfl (Zh9 ?_))));rw[decide_eq_true rfl];exact q
 |tup ds=>
  obtain⟨hl,hd⟩:=hd;refine Zal (Zbv (Zcw (Za9 (Zab (Zac rfl (Zab (Zjc (Zaf (Zen (T:="tuple") (b:=true) rfl (λ_=>by rfl) ⟨_,rfl,iteT ?_⟩)))))))));refine Zal (Zbv (Zix (Zd9 (Zcw (Za9 (Zab (Zac rfl (Zab (Zjc (Zaf (Zen (T:="tuple") (b:=true) rfl (λ_=>by rfl) ⟨_,rfl,iteF ?_⟩)))))))))));refine Za0 (Zau (Za9 (Zab (Zac rfl (Zaf (Zb6 (Or.inr rfl) (Za9 (Zab (Zac rfl (Zaf (Zb6 (Or.inr rfl) (Zhr ⟨_,rfl,?_⟩))))))))))));rw[decide_eq_true rfl];refine iteF (Za1 ?_);refine Zbl (Za9 (Zab (Zj3 (by decide) (Zsa (Zab (Zac rfl (Zab (Zac rfl (Zaf ⟨ds,ds,rfl,rfl,?_,λ_=>true,λ_=>.bl true,λi d hd'=>?_,?_⟩)))))))))
  ·rw[Wab,Wcv];exact small1000 (by omega)
  ·obtain⟨e,he,rfl⟩:=Zn5 hd'
   exact⟨_,_,rfl,Zbc ⟨rfl,Zbb (Zab (Zac rfl (Zab (Zac rfl (Zaf ⟨e,rfl,hd _ he,rfl,_,_,rfl⟩)))))⟩⟩
  ·refine Zaf ?_
   rw[Zpz];refine Zu4 ?_;rw[Zqx];exact q
 |lst ds=>exact hd.elim
 |_=>exact hd.elim
theorem Zmq (mb:Mb mg) (C42:Callee P w K mg base 1 "_law_whole" ["_law_found"] (spD K fWhole)) (F:Fun K "_law_same" "_law_same" s_law_same f fd) (b:Binds K fd ["_law_found","_law_due"] []) (kp:W.keepIn K (.ref f)=true) (hm:mg "_law_same" = some (.ref f)):∀m:Nat,FnOk P w K mg base CX0 (m+1) f fd ["_law_found","_law_due"] (spD K (fSame m))
 |0=>by
  have no:∀vs H Q E,¬ spD K (fSame 0) vs H Q E:=λvs H Q E ⟨_,_,_,_,_,⟨_,_,hd,_⟩,_⟩=>hd;exact⟨λvs H Q E h=>absurd h (no vs H Q E),λA outer s H args us vs Q E _ _ _ _ h=>absurd h (no vs H Q E)⟩
 |m+1=>Zpw mb C42 ⟨⟨f,fd,Zmq mb C42 F b kp hm m,b,kp,hm⟩⟩ F
theorem Zox (mb:Mb mg) (C42:Callee P w K mg base 1 "_law_whole" ["_law_found"] (spD K fWhole)) (F:Fun K "_law_same" "_law_same" s_law_same f fd) (b:Binds K fd ["_law_found","_law_due"] []) (kp:W.keepIn K (.ref f)=true) (hm:mg "_law_same" = some (.ref f)):∀m:Nat,FnOk P w K mg base CX0 m f fd ["_law_found","_law_due"] (spD K (fSame (m-1)))
 |0=>by
  have no:∀vs H Q E,¬ spD K (fSame 0) vs H Q E:=λvs H Q E ⟨_,_,_,_,_,⟨_,_,hd,_⟩,_⟩=>hd;exact⟨λvs H Q E h=>absurd h (no vs H Q E),λA outer s H args us vs Q E _ _ _ _ h=>absurd h (no vs H Q E)⟩
 |m+1=>Zmq mb C42 F b kp hm m
theorem Zvb {m:Nat}{r:List Int}(h:r.length<=1000):Lv (m+2) (encRow r):=by
 refine⟨by rw[Wab];exact h,λd hd=>?_⟩;obtain⟨x,_,rfl⟩:=Wav.mp hd
 trivial
theorem Zqs (mb:Mb mg) (F:Fun K "_law_begun" "_law_begun" s_law_begun f fd):FnOk P w K mg base CX0 1 f fd ["_law_row"] (spD K fLeastE):=by
 refine F.ok sc_law_begun (Zb8 λds Post h=>by obtain⟨_,rfl,_⟩:=h;rfl) (λcdv A outer s H vs Q E hr h=>?_);have hu:=Zb9 hr;refine⟨_,(Zae (Zbq (Zaq Zct (Zai (lenK K) rfl (mb "len" (by decide)) Za7 (Zaa (pv 0) Zad)) Zag (nomark _)) (Zah (Zav (Zbx Zad))) Zay) (Zae (Zap (i:=1) sc_law_begun.nd rfl (Or.inl rfl) (bmK K PySem.F.plainAttrs_list PySem.F.slot_list_index PySem.F.type_list_index (idxLK K) (pv 0) (Zaa (Zai (minK K rfl) rfl (mb "min" (by decide)) Zkt (Zaa (pv 0) Zad)) Zad))) (Zah (Zav (Za8 (tupK K) rfl (mb "tuple" (by decide)) Zbg (Zaa (Zaw (addK K) (Ze9 (slK K) (pv 0) (Zek (pv 1)) Zg7) (Ze9 (slK K) (pv 0) Zg7 (Zek (pv 1)))) Zad)))))),Zeu (λds Post hf=>?_) h⟩;obtain⟨ns,rfl,hl,q⟩:=hf;refine⟨by simp,?_⟩;dsimp only[startD,Wbt,Wbp,Wbd];refine Zal (Zbv (Za0 (Zau (Za9 (Zab (Zac rfl (Zaf (Zb6 (Or.inl rfl) (Za3 (Zh9 ⟨_,rfl,?_⟩))))))))));rw[Wab];by_cases hn:ns=[]
 ·subst hn
  refine iteT (Zbl (Zbw (Zaf ⟨by decide,?_⟩)));rw[Zoe]at q;exact q
 ·obtain⟨m,hm,hle⟩:=Zdg ns hn
  obtain⟨i1,i2,i3⟩:=Za4 hm;rw[decide_eq_false (by omega)];refine iteF (Za1 ?_);refine Zal (Zax (Zej (Zac rfl ⟨ns,rfl,by omega,Za9 (Zab (Zac rfl (Zaf (Ztv (Or.inl rfl) hm hle ⟨m,rfl,hm,?_⟩))))⟩)));have hj:ns.idxOf m<=(ns.map D.int).length:=by rw[Wab];omega
  refine Zbl (Za9 (Zab (Zau (Zpp (Zac rfl (Zhk (Zac rfl ⟨_,rfl,Zhn ⟨.lst ((ns.map D.int).drop (ns.idxOf m)),?_,?_⟩⟩)))))))
  ·show some (D.lst (cutD (ns.map D.int) (some ((ns.idxOf m:Nat):Int)) none))=_
   rw[Zqp _ hj]
  refine Zpp (Zac rfl (Zhn (Zhk (Zac rfl ⟨_,rfl,.lst ((ns.map D.int).take (ns.idxOf m)),?_,?_⟩))))
  ·show some (D.lst (cutD (ns.map D.int) none (some ((ns.idxOf m:Nat):Int))))=_
   rw[Zur _ hj]
  refine Zsv ?_ (Zaf (Zcb (Or.inl rfl) ?_))
  ·rw[Wbo,Wb0,Wab]
   exact Wb4 (small1000 (by omega))
  rw[Zq3 hm hle]at q;unfold encRow rotAt at q;rw[Wa1,Wdb,Wda]at q;exact q
theorem Zis {N:Nat}{ts:List (Int × Int)}(hW:WebOk (N:Int) ts):∀k,k<=ts.length->∀g∈marksL N (ts.take k),0<=g/\g<(N:Int)/\(marksL N (ts.take k)).getD g.toNat 0=g
 |0,_,g,hg=>by
  rw[List.take_zero]at hg ⊢;obtain⟨p,hp,rfl⟩:=Wav.mp hg;rw[Wa2]at hp;exact⟨by omega,by omega,by rw[Wak];exact Zrv hp⟩
 |k+1,hk,g,hg=>by
  have hlt:k<ts.length:=hk;have hl:=Zb5 N (ts.take k);have ht:=hW.tie _ (Wa7 hlt);have ih:=Zis hW k (by omega);rw[Zdb (Waa hlt)]at hg ⊢;by_cases c:(marksL N (ts.take k)).getD ts[k].1.toNat 0=(marksL N (ts.take k)).getD ts[k].2.toNat 0
  ·rw[Zqa c]at hg ⊢
   exact ih g hg
  ·have G:=Zlm hl (by omega) (by omega) c
   obtain⟨h1,h2⟩:=G.mem.mp hg;obtain⟨a,b,e⟩:=ih g h1;exact⟨a,b,by rw[G.to _ (by omega),e,if_neg h2]⟩
theorem Zp4 {N M:Nat}{ts us:List (Int × Int)}(hW:WebOk (N:Int) ts) (hV:WebOk (M:Int) us) {f g:Int->Int}(hf:∀p,0<=p->p<(N:Int)->0<=f p/\f p<(M:Int)) (h2:∀u∈us,mk N ts (g u.1)=mk N ts (g u.2)) (h3:∀p,0<=p->p<(N:Int)->mk N ts (g (f p))=mk N ts p)
  {ms ns:List Int}(hm:Firsts ms (marksL N ts)) (hn:Firsts ns (marksL M us)):ms.length<=ns.length:=by
 have rep:∀a∈ms,0<=a/\a<(N:Int)/\mk N ts a=a:=λa ha=>by
  obtain⟨h1,h2,h3⟩:=Zis hW ts.length (Wah _) a (by rw[Wb5];exact(hm.2 a).mp ha);rw[Wb5]at h3;exact⟨h1,h2,h3⟩
 have nd:(ms.map λa=>mk M us (f a)).Nodup:=by
  refine Wbv.mpr (List.Pairwise.imp_of_mem (λ{a b} ha hb hab e=>?_) hm.1);obtain⟨a0,a1,a2⟩:=rep a ha;obtain⟨b0,b1,b2⟩:=rep b hb;have fa:=hf a a0 a1;have fb:=hf b b0 b1;have:=Zog hV (g:=λx=>mk N ts (g x)) h2 fa.1 fa.2 fb.1 fb.2 e;have:mk N ts (g (f a))=mk N ts (g (f b)):=this;rw[h3 a a0 a1,h3 b b0 b1,a2,b2]at this;omega
 have:=Zey nd (l:=ns) λx hx=>by
  obtain⟨a,ha,rfl⟩:=Wav.mp hx;obtain⟨a0,a1,_⟩:=rep a ha;have fa:=hf a a0 a1;exact(hn.2 _).mpr (Zny fa.1 fa.2)
 rwa [Wab]at this
theorem Zco (t:Nat):partner (2*t)=2*t+1/\partner (2*t+1)=2*t:=by
 unfold partner;constructor <;> split <;> omega
end
theorem Zg4 {m:Nat}{f:Int->Int}(rg:∀x,0<=x->x<(m:Int)->0<=f x/\f x<(m:Int)) (inj:∀x y,0<=x->x<(m:Int)->0<=y->y<(m:Int)->f x=f y->x=y) {x:Int}(h0:0<=x) (h1:x<(m:Int)):∃y,(0<=y/\y<(m:Int))/\f y=x:=by
 apply Classical.byContradiction;intro hn;have nd:((Wau m).map λk:Nat=>f (k:Int)).Nodup:=by
  rw[Wa6,Wbv];refine List.Pairwise.imp_of_mem (λ{a b} ha hb hab e=>?_) Wbw;have ha:=Wa2.mp ha;have hb:=Wa2.mp hb;have:=inj _ _ (by omega) (by omega) (by omega) (by omega) e;omega
 have:=Zbs (l:=x::(Wau m).map λk:Nat=>f (k:Int)) (m:=(Wau m).map λi:Nat=>(i:Int)) (by
  rw[Wca];refine⟨λz=>?_,nd⟩;obtain⟨k,hk,e⟩:=Wav.mp z;have hk:=Wa2.mp hk;exact hn ⟨k,⟨by omega,by omega⟩,e⟩) λy hy=>by
   have:0<=y/\y<(m:Int):=by
    rcases Wat.mp hy with rfl|hy
    ·exact⟨h0,h1⟩
    ·obtain⟨k,hk,rfl⟩:=Wav.mp hy
     have hk:=Wa2.mp hk;exact rg _ (by omega) (by omega)
   exact Wav.mpr ⟨y.toNat,Wa2.mpr (by omega),by omega⟩
 rw[War,Wab,Wab,Wbe]at this;omega
theorem Zkd {α:Type}[DecidableEq α] {l m:List α}(hl:l.Nodup) (hm:m.Nodup) (h:∀x,x∈l↔x∈m):l.Perm m:=by
 rw[List.perm_iff_count];intro a;by_cases c:a∈l
 ·rw[hl.count,hm.count,if_pos c,if_pos ((h a).mp c)]
 ·rw[hl.count,hm.count,if_neg c,if_neg λz=>c ((h a).mpr z)]
theorem Zks {l:List Int}{j k:Nat}(hj:j<=l.length) (hk:k<l.length):(rotAt l j).getD k 0=l.getD ((j+k) % l.length) 0:=by
 unfold rotAt;rw[Wac,Wac];by_cases c:j+k<l.length
 ·rw[Wbc (by rw[Wbo];omega),Wd5,Wdq c]
 ·rw[Way (by rw[Wbo];omega),Wbo,List.getElem?_take,if_pos (by omega)]
  have:(j+k) % l.length=j+k-l.length:=by rw[Nat.mod_eq_sub_mod (by omega),Wdq (by omega)]
  rw[this,show k-(l.length-j)=j+k-l.length by omega]
theorem Zl0 {l:List Int}(nd:l.Nodup) {j:Nat}(hj:j<=l.length) {y:Int}(hy:y∈l):nextIn (rotAt l j) y=nextIn l y:=by
 have hl:0<l.length:=Wcf hy;have rl:(rotAt l j).length=l.length:=(Zfe l j).length_eq;have rnd:(rotAt l j).Nodup:=(Zfe l j).nodup_iff.mpr nd;obtain⟨i1,i2,_⟩:=Za4 (r:=rotAt l j) (x:=y) ((Zfe l j).mem_iff.mpr hy);generalize hk:(rotAt l j).idxOf y=k at *;rw[rl]at i1;have g:(rotAt l j).getD k 0=y:=by rw[Wac,i2];rfl
 rw[Zks hj i1]at g;have hm:(j+k) % l.length<l.length:=Wc5 _ hl;have ix:l.idxOf y=(j+k) % l.length:=Zdo nd (by rw[<- g,Wac,Waa hm];rfl);unfold nextIn;rw[hk,rl,Zks hj (Wc5 _ hl),ix,Nat.add_mod_mod,Nat.mod_add_mod,Nat.add_assoc]
theorem Zs2 {l:List Int}(nd:l.Nodup) {y:Int}(hy:y∈l):nextIn (lf l) y=nextIn l y:=by
 obtain⟨m,hm,hle⟩:=Zdg l (List.ne_nil_of_mem hy);rw[Zq3 hm hle];exact Zl0 nd (Wb4 (Za4 hm).1) hy
theorem Zqd {l:List Int}{f:Int->Int}(nd:l.Nodup) (inj:∀x∈l,∀y∈l,f x=f y->x=y) {y:Int}(hy:y∈l):nextIn (l.map f) (f y)=f (nextIn l y):=by
 have hl:0<l.length:=Wcf hy;have mnd:(l.map f).Nodup:=by
  rw[Wa6,Wbv];exact List.Pairwise.imp_of_mem (λ{a b} ha hb hab e=>hab (inj a ha b hb e)) (Wa6.mp nd)
 have ix:(l.map f).idxOf (f y)=l.idxOf y:=Zdo mnd (by rw[Wad,(Za4 hy).2.1];rfl);unfold nextIn;rw[ix,Wab,Zg1 (Wc5 _ hl)]
structure Rn (N:Nat) (ts:List (Int × Int)) (o:List (List Int)) (ts':List (Int × Int)) (o':List (List Int)) (ν π:Int->Int):Prop where
 len:ts'.length=ts.length
 vr:∀x,InE ts.length x->InE ts.length (ν x)
 vi:∀x y,InE ts.length x->InE ts.length y -> ν x = ν y->x=y
 vp:∀x,InE ts.length x -> ν (pI x)=pI (ν x)
 pr:∀p,0<=p->p<(N:Int)->0 <= π p /\ π p<(N:Int)
 pi:∀p q,0<=p->p<(N:Int)->0<=q->q<(N:Int) -> π p = π q->p=q
 pl:∀e:Nat,e<2*ts.length->placeAt ts' (ν (e:Int)).toNat = π (placeAt ts e)
 ol:o'.length=N
 ow:∀(p:Nat) r,o[p]?=some r->o'[(π (p:Int)).toNat]?=some (lf (r.map ν))
section
variable {N:Nat}{ts:List (Int × Int)}{o:List (List Int)}{ts':List (Int × Int)}{o':List (List Int)}{ν π:Int->Int}(hW:WebOk (N:Int) ts) (hO:OrdOk (N:Int) ts o) (h:Rn N ts o ts' o' ν π)
include hW h
theorem Zom {x:Int}(hx:InE ts.length x):∃e:Nat,e<2*ts.length /\ ν (e:Int)=x:=by
 obtain⟨y,hy,e⟩:=Zg4 (m:=2*ts.length) (f:=ν) (λx a b=>h.vr x ⟨a,b⟩) (λx y a b c d=>h.vi x y ⟨a,b⟩ ⟨c,d⟩) hx.1 hx.2;exact⟨y.toNat,by have:=hy.1;have:=hy.2;omega,by rw[Wb8 hy.1];exact e⟩
theorem Zkn {k:Nat}(hk:k<2*ts.length):0<=placeAt ts' k/\placeAt ts' k<(N:Int):=by
 obtain⟨e,he,ee⟩:=Zom hW h (Zbz hk);have:=h.pl e he;rw[ee,Wak]at this;rw[this];obtain⟨p0,p1⟩:=Zci hW he;exact h.pr _ p0 p1
theorem Zov:WebOk (N:Int) ts':=by
 refine⟨hW.lo,hW.hi,by rw[h.len];exact hW.len,λt ht=>?_⟩;obtain⟨k,hk,e⟩:=Wbs.mp ht;have hk2:=hk;rw[h.len]at hk2;have a:=Zkn hW h (k:=2*k) (by omega);have b:=Zkn hW h (k:=2*k+1) (by omega);have ea:placeAt ts' (2*k)=t.1:=by
  unfold placeAt;rw[show 2*k / 2=k by omega,Waa hk,e];simp
 have eb:placeAt ts' (2*k+1)=t.2:=by
  unfold placeAt;rw[show (2*k+1) / 2=k by omega,Waa hk,e];simp[show (2*k+1) % 2=1 by omega]
 rw[ea]at a;rw[eb]at b;exact⟨a.1,a.2,b.1,b.2⟩
include hO
theorem Zty {p:Nat}{r:List Int}(hr:o[p]?=some r):RowOk ts' (2*ts'.length) (π (p:Int)) (lf (r.map ν)):=by
 have R:=hO.row p r hr;have hp:p<N:=by have:=(Waf.mp hr).1;have:=hO.len;omega
 refine Zhg (Zkd ?_ ?_ λx=>?_)
 ·rw[Wa6,Wbv]
  refine List.Pairwise.imp_of_mem (λ{a b} ha hb hab e=>hab ?_) (Wa6.mp R.nodup);obtain⟨i,hi,_,rfl⟩:=R.mem.mp ha;obtain⟨j,hj,_,rfl⟩:=R.mem.mp hb;exact h.vi _ _ (Zbz hi) (Zbz hj) e
 ·unfold endsBelow
  rw[Wa6,Wbv];exact(List.Pairwise.filter _ Wbw).imp λz=>by omega
 ·rw[h.len]
  unfold endsBelow;rw[Wav,Wav];constructor
  ·rintro⟨y,hy,rfl⟩
   obtain⟨i,hi,hpi,rfl⟩:=R.mem.mp hy;obtain⟨k,ek,hk⟩:=Zbt (h.vr _ (Zbz hi));refine⟨k,Wbx.mpr ⟨Wa2.mpr hk,decide_eq_true ?_⟩,ek.symm⟩;have:=h.pl i hi;rw[ek,Wak]at this;rw[this,hpi]
  ·rintro⟨k,hk,rfl⟩
   obtain⟨k1,k2⟩:=Wbx.mp hk;have k1:=Wa2.mp k1;have k2:=of_decide_eq_true k2;obtain⟨e,he,ee⟩:=Zom hW h (Zbz k1);refine⟨e,R.mem.mpr ⟨e,he,?_,rfl⟩,ee⟩;have:=h.pl e he;rw[ee,Wak,k2]at this;obtain⟨p0,p1⟩:=Zci hW he;exact(h.pi _ _ (by omega) (by omega) p0 p1 this).symm
theorem Zrg:OrdOk (N:Int) ts' o':=by
 refine⟨by rw[h.ol],λq r hr=>?_⟩;have hq:q<N:=by have:=(Waf.mp hr).1;rw[h.ol]at this;exact this
 obtain⟨p,hp,ep⟩:=Zg4 (m:=N) (f:=π) h.pr h.pi (show 0<=(q:Int) by omega) (show (q:Int)<(N:Int) by omega);obtain⟨p,rfl⟩:∃k:Nat,p=(k:Int):=⟨p.toNat,by omega⟩;have hpl:p<o.length:=by have:=hO.len;omega
 have w:=h.ow p _ (Waa hpl);rw[ep,Wak,hr]at w;rw[Wa4.inj w,<- ep];exact Zty hW hO h (Waa hpl)
theorem Zv2:Cm ts o ts' o' ν:=by
 have hV:=Zov hW h;have hU:=Zrg hW hO h;refine⟨h.len.symm,λx hx=>by rw[h.len];exact h.vr x hx,h.vi,h.vp,λx hx=>?_⟩;obtain⟨k,rfl,hk⟩:=Zbt hx;obtain⟨g1,g2,g3⟩:=Zce hW hO hk;obtain⟨p0,p1⟩:=Zci hW hk;generalize hr:rowAt ts o k=r at *;have w:=h.ow _ _ g1;have nd:=g2.nodup;have inE:∀y∈r,InE ts.length y:=λy hy=>by obtain⟨i,hi,_,rfl⟩:=g2.mem.mp hy;exact Zbz hi
 have inj:∀a∈r,∀b∈r,ν a = ν b->a=b:=λa ha b hb e=>h.vi a b (inE a ha) (inE b hb) e;have mnd:(r.map ν).Nodup:=by
  rw[Wa6,Wbv];exact List.Pairwise.imp_of_mem (λ{a b} ha hb hab e=>hab (inj a ha b hb e)) (Wa6.mp nd)
 have mm:ν (k:Int)∈r.map ν:=List.mem_map_of_mem g3;have a:=(Zfq hW hO g1 g3).2.2.2;have b:=(Zfq hV hU w ((Zns _).mem_iff.mpr mm)).2.2.2;show ν (folOf ts o (k:Int).toNat)=folOf ts' o' (ν (k:Int)).toNat;rw[a,b,Zs2 mnd mm,Zqd nd inj g3]
theorem Zvc (h1:OneP N ts):OneP N ts':=by
 have hV:=Zov hW h;intro ms hm;obtain⟨ns,hn⟩:=Zf4 (marksL N ts);have back:∀p:Int,0<=p->p<(N:Int)->∃q,(0<=q/\q<(N:Int)) /\ π q=p:=λp a b=>Zg4 (m:=N) (f:=π) h.pr h.pi a b
 let f:Int->Int:=λp=>by classical exact if c:∃q,(0<=q/\q<(N:Int)) /\ π q=p then Classical.choose c else 0
 have fk:∀p,0<=p->p<(N:Int)->(0<=f p/\f p<(N:Int)) /\ π (f p)=p:=λp a b=>by
  have c:=back p a b;have:f p=Classical.choose c:=dif_pos c;rw[this];exact Classical.choose_spec c
 have:=Zp4 hV hW (f:=f) (g:=π) (λp a b=>(fk p a b).1) (λu hu=>?_) (λp a b=>by rw[(fk p a b).2]) hm hn
 ·have:=h1 ns hn
  omega
 ·obtain⟨k,hk,e⟩:=Wbs.mp hu
  have ea:placeAt ts (2*k)=u.1:=by
   unfold placeAt;rw[show 2*k / 2=k by omega,Waa hk,e];simp
  have eb:placeAt ts (2*k+1)=u.2:=by
   unfold placeAt;rw[show (2*k+1) / 2=k by omega,Waa hk,e];simp[show (2*k+1) % 2=1 by omega]
  have ha:=h.pl (2*k) (by omega);have hb:=h.pl (2*k+1) (by omega);rw[ea]at ha;rw[eb]at hb;rw[<- ha,<- hb];have vp:=h.vp _ (Zbz (show 2*k<2*ts.length by omega));have pk:pI ((2*k:Nat):Int)=((2*k+1:Nat):Int):=by unfold pI;rw[Wak,(Zco k).1]
  rw[pk]at vp;rw[vp];obtain⟨j,ej,hj⟩:=Zbt (h.vr _ (Zbz (show 2*k<2*ts.length by omega)));rw[ej];unfold pI;rw[Wak,Wak]
  -- both ends of tie j / 2
  have hj2:j / 2<ts'.length:=by rw[h.len];omega
  have tm:ts'[j / 2]∈ts':=Wa7 hj2;have m:=Zq9 hV tm;have pa:placeAt ts' (2*(j / 2))=ts'[j / 2].1:=by
   unfold placeAt;rw[show 2*(j / 2) / 2=j / 2 by omega,Waa hj2];simp
  have pb:placeAt ts' (2*(j / 2)+1)=ts'[j / 2].2:=by
   unfold placeAt;rw[show (2*(j / 2)+1) / 2=j / 2 by omega,Waa hj2];simp[show (2*(j / 2)+1) % 2=1 by omega]
  by_cases c:j % 2=0
  ·have e1:j=2*(j / 2):=by omega
   have:partner j=2*(j / 2)+1:=by rw[e1,(Zco (j / 2)).1];omega
   rw[this,pb];rw[show placeAt ts' j=ts'[j / 2].1 by rw[<- pa,<- e1]];exact m
  ·have e1:j=2*(j / 2)+1:=by omega
   have:partner j=2*(j / 2):=by rw[e1,(Zco (j / 2)).2];omega
   rw[this,pa];rw[show placeAt ts' j=ts'[j / 2].2 by rw[<- pb,<- e1]];exact m.symm
end
def fShuf:BSp:=λps ds Post=>Pen ps/\∃m:Nat,ds=[.int (m:Int)]/\m<=25/\∀(l:List Int) ps',Pen ps' -> l.Perm ((Wau m).map λi:Nat=>(i:Int))->Post (.lst (l.map .int)) ps'
theorem Znp {Δ1:Evt}{i:Nat}{y:L2.Slot}{ps:List D}{m:Nat}{P:D->Evt->Prop}(hx:Δ1[i]?=some y) (ho:y.od=some (.lst ps)) (hp:Pen ps) (h1:m<=25) (h:∀(l:List Int) ps',Pen ps' -> l.Perm ((Wau m).map λi:Nat=>(i:Int))->P (.lst (l.map .int)) (Δ1.set i (y.put (.lst ps')))) :
  LendQ fShuf i P [.int (m:Int)] Δ1:=⟨y,ps,hx,ho,hp,m,rfl,h1,h⟩
theorem Zkh {α:Type}(l:List α) (j:Nat) (x:α):(l.take j++x::l.drop j).Perm (l++[x]):=by
 refine List.perm_middle.trans ?_;rw[Wb9];exact(List.perm_append_singleton _ _).symm
section
variable {P:Program}{w:World}{K:W.Frag}{mg:Str->Option Value}{base:Heap}{f:Addr}{fd:FuncData}
theorem Ztq (mb:Mb mg) (C29:Callee P w K mg base 1 "_law_draw" ["_law_pen_here","_law_many"] (spB K fDraw)) (F:Fun K "_law_shuffled" "_law_shuffled" s_law_shuffled f fd):FnOk P w K mg base CX0 2 f fd ["_law_pen_here","_law_many"] (spB K fShuf):=by
 refine F.ok sc_law_shuffled (Zd4 λps ds Post h=>by obtain⟨_,_,rfl,_⟩:=h;rfl) (λcdv A outer s H vs Q E hr h=>?_);have hu:=Zb9 hr;refine⟨_,(Zae (Zap (i:=2) sc_law_shuffled.nd rfl (Or.inl rfl) (Zb4 Zad)) (Zae (Zcu PassesOwn.never rfl (Za6 rfl (mb "range" (by decide)) (Zaa (pv 1) Zad)) (Zaj (i:=3) sc_law_shuffled.nd rfl (Or.inl rfl)) (Zah (Zdi (bmK K PySem.F.plainAttrs_list PySem.F.slot_list_insert PySem.F.type_list_insert Zeg (pv 2) (Zaa (Za2 C29 (hr.mono (by decide)) (Zaa (pv 0) (Zaa (Zaw (addK K) (pv 3) Zag) Zad))) (Zaa (pv 3) Zad)))))) (Zah (Zav (pv 2))))),Zjp (λps ds Post hf=>?_) h⟩;obtain⟨hp,m,rfl,hm,q⟩:=hf;refine⟨by simp,?_⟩;dsimp only[cxOf,startD,Wbt,Wbp,Wbd,Waj];refine Zal (Zc6 (Zdk (Zaf ⟨by decide,?_⟩)));refine Zbe (λΔ=>∃(psx:List D) (l:List Int) (x3:L2.Slot),Pen psx/\l.Perm ((Wau m).map λi:Nat=>(i:Int)) /\ Δ = [.bor (.lst psx),.val (.int (m:Int)),.own (.lst (l.map .int)),x3]) ?_ ?_
 ·refine Zcv (Za5 (Zab (Zac rfl (Zaf ⟨_,rfl,by omega,by omega,?_⟩))))
  rw[Wak];refine⟨λi Δ=>∃(psx:List D) (l:List Int) (x3:L2.Slot),Pen psx/\l.Perm ((Wau i).map λi:Nat=>(i:Int)) /\ Δ = [.bor (.lst psx),.val (.int (m:Int)),.own (.lst (l.map .int)),x3],⟨ps,[],.any,hp,List.Perm.refl _,rfl⟩,?_,?_⟩
  ·rintro i d Δ2 hd ⟨psx,l,x3,hpx,hl,rfl⟩
   obtain⟨hi,rfl⟩:=Zbo hd;rw[Wbm];have hyl:=hl.length_eq;rw[Wab,Wbe]at hyl;refine Zbu (Zoh rfl rfl (Zcy rfl rfl (Zab (Zbn (Zcc (Zak rfl) Zbh Zc7) (Zaf (Zch rfl rfl hpx (by omega) (by omega) λr ps' hp' hr0 hr1=>?_))))));refine Zac rfl ⟨_,r,l.map D.int,rfl,rfl,rfl,by rw[Wab];exact small1000 (by omega),by omega,by omega,ps',l.take (insI (l.map D.int).length r)++(i:Int)::l.drop (insI (l.map D.int).length r),.val (.int (i:Int)),hp',?_,?_⟩
   ·rw[List.range_succ,Wa1]
    exact(Zkh l _ _).trans (List.Perm.append_right _ hl)
   ·rw[Wa1,Wda,Wa3,Wdb];rfl
  ·rintro Δ2 ⟨psx,l,x3,hpx,hl,rfl⟩
   rw[Zaz]at hl;exact⟨psx,l,x3,hpx,hl,rfl⟩
 rintro Δ1 ⟨psx,l,x3,hpx,hl,rfl⟩;exact Zbl (Zi4 rfl ⟨_,rfl,q l _ hpx hl⟩)
end
def nSt (R:Evt) (cs:List (Addr × List Int)) (m:Nat):Evt:=R++(cs.map (λc=>L2.Slot.ownA c.1 (.lst (c.2.map D.int)))++Waj m .any)
theorem Zgn {R:Evt}{as:List Addr}{rows:List (List Int)}{T:Nat}(hl:as.length=rows.length) (hT:rows.length<=T):L2.putN R.length (as.zip (rows.map λr=>OD.lst (r.map D.int))) (R++Waj T .any)=nSt R (as.zip rows) (T-rows.length):=by
 have e:as.zip (rows.map λr=>OD.lst (r.map D.int))=(as.zip rows).map λc=>(c.1,OD.lst (c.2.map D.int)):=by
  rw[List.zip_map_right];rfl
 have zl:(as.zip rows).length=rows.length:=by rw[Wcv,hl,Wcy]
 have:=Zi0 ((as.zip rows).map λc=>(c.1,OD.lst (c.2.map D.int))) R [] T (by rw[Wab];omega);rw[Wbk,Wbk,Wan,Wab,zl]at this;rw[e,this];unfold nSt;rw[Wbq];rfl
theorem Zod {R:Evt}{cs:List (Addr × List Int)}{m p n:Nat}{c:Addr × List Int}(hn:n=R.length) (h:cs[p]?=some c):(nSt R cs m)[n+p]?=some (.ownA c.1 (.lst (c.2.map D.int))):=by
 subst hn;unfold nSt;rw[Way (by omega),Wc4,Wbc (by rw[Wab];exact(Waf.mp h).1),Wad,h];rfl
theorem Zi9 {R:Evt}{cs:List (Addr × List Int)}{m p n:Nat}{a:Addr}{r:List Int}(hn:n=R.length) (h:p<cs.length):(nSt R cs m).set (n+p) (.ownA a (.lst (r.map D.int)))=nSt R (cs.set p (a,r)) m:=by
 subst hn;unfold nSt;rw[Wds _ _ (by omega),Wc4,Wdx _ _ (by rw[Wab];exact h),Wde]
theorem Zoo {α β:Type}{as:List α}{bs:List β}(h:as.length=bs.length):(as.zip bs).map (·.1)=as:=Wdn (by omega)
theorem Zm6 {cs:List (Addr × List Int)}{p:Nat}{c:Addr × List Int}(h:cs[p]?=some c) (r:List Int):(cs.set p (c.1,r)).map (·.1)=cs.map (·.1):=by
 rw[Wde];apply Wb3;intro i;have hp:=(Waf.mp h).1;by_cases hi:i=p
 ·subst hi
  rw[Wai (by rw[Wab];exact hp),Wad,h];rfl
 ·rw[Wam (Ne.symm hi)]
section
variable {K:W.Frag}
theorem Zio {t:TS}{R:Evt}{cs:List (Addr × List Int)}{m i:Nat}{P:L2.Pst}(hi:R[i]?=some (.val (.lst ((cs.map (·.1)).map D.adr)))) (h:JS K t (R.set i (.val (.lst (cs.map λc=>D.lst (c.2.map D.int))))++(Waj cs.length .any++Waj m .any)) P):JS K t (nSt R cs m) P:=by
 refine JS.conv (Δ':=R.set i (.val (.lst (cs.map λc=>D.lst (c.2.map D.int))))++(Waj cs.length .any++Waj m .any)) (λg G H σ k=>?_) h;have:=Ok.thaw (cs:=cs.map λc=>(c.1,c.2.map D.int)) (R:=R) (T:=Waj m .any) (i:=i) (g:=g) (G:=G) (H:=H) (σ:=σ) (K:=K) (by rw[Wan,Wbq];exact k) (by rw[hi,Wan,Wan];rfl);rw[Wan,Wab,Wbq]at this;exact this
end
def nuF (nl tl:List Int) (x:Int):Int:=2*nl.getD (x.toNat / 2) 0+(x+tl.getD (x.toNat / 2) 0) % 2
def atF (l:List Int) (x:Int):Int:=l.getD x.toNat 0
theorem Zfu {l:List Int}{m:Nat}(h:l.Perm ((Wau m).map λi:Nat=>(i:Int))):l.length=m/\(∀k,k<m->0<=l.getD k 0/\l.getD k 0<(m:Int))/\∀i j,i<m->j<m->l.getD i 0=l.getD j 0->i=j:=by
 have hl:l.length=m:=by rw[h.length_eq,Wab,Wbe]
 have nd:l.Nodup:=by
  rw[h.nodup_iff,Wa6,Wbv];exact Wbw.imp λh=>by omega
 have gt:∀k,k<m->l[k]?=some (l.getD k 0):=λk hk=>by rw[Wac,Waa (by omega)];rfl
 refine⟨hl,λk hk=>?_,λi j hi hj e=>?_⟩
 ·have:=h.mem_iff.mp (Waq (gt k hk))
  obtain⟨i,hi,e⟩:=Wav.mp this;have:=Wa2.mp hi;omega
 ·have a:=Zdo nd (gt i hi)
  have b:=Zdo nd (gt j hj);rw[e]at a;omega
structure NuOk (L:Nat) (nl tl:List Int):Prop where
 n:nl.Perm ((Wau L).map λi:Nat=>(i:Int))
 tn:tl.length=L
 t:∀k,k<L->tl.getD k 0=0\/tl.getD k 0=1
theorem Zfi {L:Nat}{nl tl:List Int}(h:NuOk L nl tl) {k:Nat}(hk:k<2*L):InE L (nuF nl tl (k:Int))/\(nuF nl tl (k:Int)).toNat / 2=(nl.getD (k / 2) 0).toNat/\(((nuF nl tl (k:Int)).toNat % 2:Nat):Int)=((k:Int)+tl.getD (k / 2) 0) % 2:=by
 obtain⟨_,rg,_⟩:=Zfu h.n;have r:=rg (k / 2) (by omega);unfold nuF InE;rw[Wak];omega
theorem Zrk {L:Nat}{nl tl:List Int}(h:NuOk L nl tl) {j k:Nat}(hj:j<2*L) (hk:k<2*L) (e:nuF nl tl (j:Int)=nuF nl tl (k:Int)):j=k:=by
 obtain⟨_,rg,inj⟩:=Zfu h.n;have rj:=rg (j / 2) (by omega);have rk:=rg (k / 2) (by omega);unfold nuF at e;rw[Wak,Wak]at e;have:j / 2=k / 2:=inj _ _ (by omega) (by omega) (by omega);rw[this]at e;omega
theorem Zwi {L:Nat}{nl tl:List Int}(h:NuOk L nl tl) {k:Nat}(hk:k<2*L):nuF nl tl (pI (k:Int))=pI (nuF nl tl (k:Int)):=by
 have t:=h.t (k / 2) (by omega);obtain⟨_,rg,_⟩:=Zfu h.n;have r:=rg (k / 2) (by omega);have pt:∀j:Nat,partner j / 2=j / 2/\partner j % 2=1-j % 2:=λj=>by
  by_cases c:j % 2=0
  ·have e1:j=2*(j / 2):=by omega
   have:=(Zco (j / 2)).1;rw[<- e1]at this;rw[this];omega
  ·have e1:j=2*(j / 2)+1:=by omega
   have:=(Zco (j / 2)).2;rw[<- e1]at this;rw[this];omega
 unfold pI;rw[Wak];have p1:=pt k;have p2:=pt (nuF nl tl (k:Int)).toNat;obtain⟨_,q1,q2⟩:=Zfi h hk;have e1:nuF nl tl ((partner k:Nat):Int)=2*nl.getD (k / 2) 0+(((partner k:Nat):Int)+tl.getD (k / 2) 0) % 2:=by unfold nuF;rw[Wak,p1.1]
 rw[e1];omega
theorem Zhx {l:List Int}{i:Nat}{x:Int}(h:i<l.length) (e:x=(i:Int)):atI (l.map D.int) x=some (.int (l.getD i 0)):=by
 subst e;exact Zbk (by rw[Wad,Waa h,Wac,Waa h];rfl)
structure TieI (ts:List (Int × Int)) (ν π:Int->Int) (as:List Addr) (k:Nat) (cs:List (Addr × List Int)):Prop where
 as:cs.map (·.1)=as
 len:cs.length=ts.length
 two:∀(j:Nat) c,cs[j]?=some c->c.2.length=2
 told:∀e:Nat,e<k->∃c,cs[(ν (e:Int)).toNat / 2]?=some c/\c.2[(ν (e:Int)).toNat % 2]?=some (π (placeAt ts e))
section
variable {P:Program}{w:World}{K:W.Frag}{mg:Str->Option Value}{base:Heap}{f:Addr}{fd:FuncData}
def fRenw:BSp:=λps ds Post=>Pen ps/\∃(N:Nat) (ts:List (Int × Int)) (o:List (List Int)),ds=[encWeb (N:Int) ts,encOrd o]/\WebOk (N:Int) ts/\OrdOk (N:Int) ts o/\∀(ts':List (Int × Int)) (o':List (List Int)) (ν π:Int->Int) ps',Pen ps' -> Rn N ts o ts' o' ν π -> Post (.tup [encWeb (N:Int) ts',encOrd o',rowD (rowOf ν ts.length)]) ps'
def rR (ps:List D) (N:Nat) (ts:List (Int × Int)) (o:List (List Int)) (nl tl pl:List Int) (as:List Addr) (x9 x10:L2.Slot):Evt:=[.bor (.lst ps),.val (encWeb (N:Int) ts),.val (encOrd o),.val (.int (ts.length:Int)),.val (.lst (nl.map .int)),.val (.lst (tl.map .int)),.val (.lst (pl.map .int)),.val (.lst ((rowOf (nuF nl tl) ts.length).map .int)),.val (.lst (as.map D.adr)),x9,x10,.any,.any]
def rS (ps:List D) (N:Nat) (ts:List (Int × Int)) (o:List (List Int)) (nl tl pl:List Int) (td:List D) (x9 x10:L2.Slot) (x11 x12:L2.Slot) (T:Evt):Evt:=[.bor (.lst ps),.val (encWeb (N:Int) ts),.val (encOrd o),.val (.int (ts.length:Int)),.val (.lst (nl.map .int)),.val (.lst (tl.map .int)),.val (.lst (pl.map .int)),.val (.lst ((rowOf (nuF nl tl) ts.length).map .int)),.val (.lst td),x9,x10,x11,x12]++T
theorem Zta (mb:Mb mg) (C29:Callee P w K mg base 1 "_law_draw" ["_law_pen_here","_law_many"] (spB K fDraw)) (C41:Callee P w K mg base 2 "_law_shuffled" ["_law_pen_here","_law_many"] (spB K fShuf)) (C27:Callee P w K mg base 1 "_law_begun" ["_law_row"] (spD K fLeastE)) (F:Fun K "_law_renamed" "_law_renamed" s_law_renamed f fd):FnOk P w K mg base CX0 3 f fd ["_law_pen_here","_law_web","_law_order_here"] (spB K fRenw):=by
 refine F.ok sc_law_renamed (Zd4 λps ds Post h=>by obtain⟨_,_,_,_,rfl,_⟩:=h;rfl) (λcdv A outer s H vs Q E hr h=>?_);have hu:=Zb9 hr;refine⟨_,(Zae (Zap (i:=3) sc_law_renamed.nd rfl (Or.inl rfl) (Zai (lenK K) rfl (mb "len" (by decide)) Za7 (Zaa (Zar (ixK K hu) (pv 1) Zag (λ_ _=>rfl)) Zad))) (Zae (Zap (i:=4) sc_law_renamed.nd rfl (Or.inr rfl) (Za2 C41 (hr.mono (by decide)) (Zaa (pv 0) (Zaa (pv 3) Zad)))) (Zae (Zap (i:=5) sc_law_renamed.nd rfl (Or.inr rfl) (Zbd ["_law_k"] (show CompSc (defScope s_law_renamed) ("_law_pen_here" :: "_law_web" :: "_law_order_here" :: "_law_count" :: "_law_numbers" :: "_law_turned" :: "_law_places" :: "_law_names" :: "_law_ties" :: "_law_end" :: "_law_tie" :: "_law_rows" :: "_law_place" :: "!0" :: "!1" :: "!2" :: "!3" :: "!4" :: "!5" :: "!6" :: "!7" :: "!8" :: "!9" :: "!10" :: "!11" :: "!12" :: "!13" :: "!14" :: "!15" :: "!16" :: "!17" :: "!18" :: "!19" :: "!20" :: "!21" :: "!22" :: "!23" :: []) _ ["_law_pen_here"] [0] from ⟨rfl,by decide +kernel,by decide +kernel,by decide +kernel,rfl,by decide +kernel⟩) rfl (Za6 rfl (mb "range" (by decide)) (Zaa (pv 3) Zad)) (λ_ _ _ _ _=>(Zaj (i:=0) (show List.Nodup (["_law_k","_law_pen_here"]:List Str) from by decide) rfl (Or.inl rfl))) (λ_ _ _ _ _=>Zba) (λ_ _ _ _ _=>(Za2 C29 (hr.mono (by decide)) (Zaa (pv 1) (Zaa Zag Zad)))))) (Zae (Zap (i:=6) sc_law_renamed.nd rfl (Or.inl rfl) (Za2 C41 (hr.mono (by decide)) (Zaa (pv 0) (Zaa (Zar (ixK K hu) (pv 1) Zag (λ_ _=>rfl)) Zad)))) (Zae (Zap (i:=7) sc_law_renamed.nd rfl (Or.inr rfl) (Zbd ["_law_end"] (show CompSc (defScope s_law_renamed) ("_law_pen_here" :: "_law_web" :: "_law_order_here" :: "_law_count" :: "_law_numbers" :: "_law_turned" :: "_law_places" :: "_law_names" :: "_law_ties" :: "_law_end" :: "_law_tie" :: "_law_rows" :: "_law_place" :: "!0" :: "!1" :: "!2" :: "!3" :: "!4" :: "!5" :: "!6" :: "!7" :: "!8" :: "!9" :: "!10" :: "!11" :: "!12" :: "!13" :: "!14" :: "!15" :: "!16" :: "!17" :: "!18" :: "!19" :: "!20" :: "!21" :: "!22" :: "!23" :: []) _ ["_law_numbers","_law_turned"] [4,5] from ⟨rfl,by decide +kernel,by decide +kernel,by decide +kernel,rfl,by decide +kernel⟩) rfl (Za6 rfl (mb "range" (by decide)) (Zaa (Zaw Zdp Zag (pv 3)) Zad)) (λ_ _ _ _ _=>(Zaj (i:=0) (show List.Nodup (["_law_end","_law_numbers","_law_turned"]:List Str) from by decide) rfl (Or.inl rfl))) (λ_ _ _ _ _=>Zba) (λ_ _ _ _ _=>(Zaw (addK K) (Zaw Zdp Zag (Zar (ixK K hu) (pv 1) (Zaw Zep (pv 0) Zag) (λ_ _=>rfl))) (Zaw Zca (Zaw (addK K) (pv 0) (Zar (ixK K hu) (pv 2) (Zaw Zep (pv 0) Zag) (λ_ _=>rfl))) Zag))))) (Zae (Zhu 13 (show ∀x∈(("_law_pen_here" :: "_law_web" :: "_law_order_here" :: "_law_count" :: "_law_numbers" :: "_law_turned" :: "_law_places" :: "_law_names" :: "_law_ties" :: "_law_end" :: "_law_tie" :: "_law_rows" :: "_law_place" :: "!0" :: "!1" :: "!2" :: "!3" :: "!4" :: "!5" :: "!6" :: "!7" :: "!8" :: "!9" :: "!10" :: "!11" :: "!12" :: "!13" :: "!14" :: "!15" :: "!16" :: "!17" :: "!18" :: "!19" :: "!20" :: "!21" :: "!22" :: "!23" :: []):List Str).drop 13,(defScope s_law_renamed).names.lookup x=none from by decide +kernel) (Zdy (i:=8) ["_law_k"] (show CompSc (defScope s_law_renamed) ("_law_pen_here" :: "_law_web" :: "_law_order_here" :: "_law_count" :: "_law_numbers" :: "_law_turned" :: "_law_places" :: "_law_names" :: "_law_ties" :: "_law_end" :: "_law_tie" :: "_law_rows" :: "_law_place" :: "!0" :: "!1" :: "!2" :: "!3" :: "!4" :: "!5" :: "!6" :: "!7" :: "!8" :: "!9" :: "!10" :: "!11" :: "!12" :: "!13" :: "!14" :: "!15" :: "!16" :: "!17" :: "!18" :: "!19" :: "!20" :: "!21" :: "!22" :: "!23" :: []) _ [] [] from ⟨rfl,by decide +kernel,by decide +kernel,by decide +kernel,rfl,by decide +kernel⟩) rfl sc_law_renamed.nd rfl (Or.inl rfl) (Za6 rfl (mb "range" (by decide)) (Zaa (pv 3) Zad)) (λ_ _ _ _ _=>(Zaj (i:=0) (show List.Nodup (["_law_k"]:List Str) from by decide) rfl (Or.inl rfl))) (λ_ _ _ _ _=>Zba) (λ_ _ _ _ _=>(Zb4 (Zaa Zag (Zaa Zag Zad)))))) (Zae (Zcu PassesOwn.never rfl (Za6 rfl (mb "range" (by decide)) (Zaa (Zaw Zdp Zag (pv 3)) Zad)) (Zaj (i:=9) sc_law_renamed.nd rfl (Or.inl rfl)) (Zae (Zap (i:=10) sc_law_renamed.nd rfl (Or.inl rfl) (Zar (ixK K hu) (pv 8) (Zaw Zep (Zar (ixK K hu) (pv 7) (pv 9) (λ_ _=>rfl)) Zag) (λ_ _=>rfl))) (Zah (Zee (Zar (ixK K hu) (pv 6) (Zar (ixK K hu) (Zar (ixK K hu) (Zar (ixK K hu) (pv 1) Zag (λ_ _=>rfl)) (Zaw Zep (pv 9) Zag) (λ_ _=>rfl)) (Zaw Zca (pv 9) Zag) (λ_ _=>rfl)) (λ_ _=>rfl)) (Zf7 (pv 10) (Zaw Zca (Zar (ixK K hu) (pv 7) (pv 9) (λ_ _=>rfl)) Zag) (setU hu)))))) (Zae (Zdy (i:=11) ["_law_place"] (show CompSc (defScope s_law_renamed) ("_law_pen_here" :: "_law_web" :: "_law_order_here" :: "_law_count" :: "_law_numbers" :: "_law_turned" :: "_law_places" :: "_law_names" :: "_law_ties" :: "_law_end" :: "_law_tie" :: "_law_rows" :: "_law_place" :: "!0" :: "!1" :: "!2" :: "!3" :: "!4" :: "!5" :: "!6" :: "!7" :: "!8" :: "!9" :: "!10" :: "!11" :: "!12" :: "!13" :: "!14" :: "!15" :: "!16" :: "!17" :: "!18" :: "!19" :: "!20" :: "!21" :: "!22" :: "!23" :: []) _ [] [] from ⟨rfl,by decide +kernel,by decide +kernel,by decide +kernel,rfl,by decide +kernel⟩) rfl sc_law_renamed.nd rfl (Or.inl rfl) (seqK K (pv 6)) (λ_ _ _ _ _=>(Zaj (i:=0) (show List.Nodup (["_law_place"]:List Str) from by decide) rfl (Or.inl rfl))) (λ_ _ _ _ _=>Zba) (λ_ _ _ _ _=>(Zbx Zad))) (Zae (Zcu PassesOwn.never rfl (Za6 rfl (mb "range" (by decide)) (Zaa (Zar (ixK K hu) (pv 1) Zag (λ_ _=>rfl)) Zad)) (Zaj (i:=12) sc_law_renamed.nd rfl (Or.inl rfl)) (Zah (Zee (Za2 C27 (hr.mono (by decide)) (Zaa (Zbd ["_law_end"] (show CompSc (defScope s_law_renamed) ("_law_pen_here" :: "_law_web" :: "_law_order_here" :: "_law_count" :: "_law_numbers" :: "_law_turned" :: "_law_places" :: "_law_names" :: "_law_ties" :: "_law_end" :: "_law_tie" :: "_law_rows" :: "_law_place" :: "!0" :: "!1" :: "!2" :: "!3" :: "!4" :: "!5" :: "!6" :: "!7" :: "!8" :: "!9" :: "!10" :: "!11" :: "!12" :: "!13" :: "!14" :: "!15" :: "!16" :: "!17" :: "!18" :: "!19" :: "!20" :: "!21" :: "!22" :: "!23" :: []) _ ["_law_names"] [7] from ⟨rfl,by decide +kernel,by decide +kernel,by decide +kernel,rfl,by decide +kernel⟩) rfl (seqK K (Zar (ixK K hu) (pv 2) (pv 12) (λ_ _=>rfl))) (λ_ _ _ _ _=>(Zaj (i:=0) (show List.Nodup (["_law_end","_law_names"]:List Str) from by decide) rfl (Or.inl rfl))) (λ_ _ _ _ _=>Zba) (λ_ _ _ _ _=>(Zar (ixK K hu) (pv 1) (pv 0) (λ_ _=>rfl)))) Zad)) (Zf7 (pv 11) (Zar (ixK K hu) (pv 6) (pv 12) (λ_ _=>rfl)) (setU hu))))) (Zah (Zav (Zbx (Zaa (Zbx (Zaa (Zar (ixK K hu) (pv 1) Zag (λ_ _=>rfl)) (Zaa (Za8 (tupK K) rfl (mb "tuple" (by decide)) Zbg (Zaa (Zbd ["_law_tie"] (show CompSc (defScope s_law_renamed) ("_law_pen_here" :: "_law_web" :: "_law_order_here" :: "_law_count" :: "_law_numbers" :: "_law_turned" :: "_law_places" :: "_law_names" :: "_law_ties" :: "_law_end" :: "_law_tie" :: "_law_rows" :: "_law_place" :: "!0" :: "!1" :: "!2" :: "!3" :: "!4" :: "!5" :: "!6" :: "!7" :: "!8" :: "!9" :: "!10" :: "!11" :: "!12" :: "!13" :: "!14" :: "!15" :: "!16" :: "!17" :: "!18" :: "!19" :: "!20" :: "!21" :: "!22" :: "!23" :: []) _ [] [] from ⟨rfl,by decide +kernel,by decide +kernel,by decide +kernel,rfl,by decide +kernel⟩) rfl (seqK K (pv 8)) (λ_ _ _ _ _=>(Zaj (i:=0) (show List.Nodup (["_law_tie"]:List Str) from by decide) rfl (Or.inl rfl))) (λ_ _ _ _ _=>Zba) (λ_ _ _ _ _=>(Zbx (Zaa (Zar (ixK K hu) (pv 0) Zag (λ_ _=>rfl)) (Zaa (Zar (ixK K hu) (pv 0) Zag (λ_ _=>rfl)) Zad))))) Zad)) Zad))) (Zaa (Za8 (tupK K) rfl (mb "tuple" (by decide)) Zbg (Zaa (pv 11) Zad)) (Zaa (Za8 (tupK K) rfl (mb "tuple" (by decide)) Zbg (Zaa (pv 7) Zad)) Zad))))))))))))))),Zjp (λps ds Post hf=>?_) h⟩
 obtain⟨hp,N,ts,o,rfl,hW,hO,q⟩:=hf;refine⟨by simp,?_⟩;dsimp only[cxOf,startD,Wbt,Wbp,Wbd];have hn:=hW.lo;have hn2:=hW.hi;have hts:=hW.len;have hol:=hO.len;refine Zal (Zax (Zbn (Zfo (Zb1 rfl (Zip (N:Int) ts))) ?_));rw[Wab];refine Zal (Zax (Zcy rfl rfl (Zab (Zac rfl (Zaf (Znp rfl rfl hp (by omega) λnl ps1 hp1 hnl=>?_))))));refine Zal (Zax (Zl4 (by decide) (Za5 (Zab (Zac rfl (Zaf ⟨_,rfl,by omega,by omega,?_⟩))))));rw[Wak];refine⟨by rw[Zaz];exact small1000 (by omega),λi ys Δ=>∃(tl:List Int) (psx:List D) (x:L2.Slot),Pen psx/\tl.length=i/\(∀k,k<i->tl.getD k 0=0\/tl.getD k 0=1)/\ys=tl.map .int /\ Δ = [x,.bor (.lst psx)],⟨[],ps1,.any,hp1,rfl,λk hk=>by omega,rfl,rfl⟩,?_,?_⟩
 ·rintro i d ys Δ2 hd ⟨tl,psx,x,hpx,hl,ht,rfl,rfl⟩
  refine Zeq (by decide) (Zbc ?_);rw[if_pos rfl];refine Zn4 rfl rfl hpx (by decide) (by decide) λr ps' hp' r0 r1=>?_;refine⟨tl++[r],ps',_,hp',by rw[Wao,hl];rfl,λk hk=>?_,by rw[Wa1];rfl,rfl⟩;by_cases c:k<tl.length
  ·rw[Wac,Wbc c,<- Wac];exact ht k (by omega)
  ·rw[Wac,Way (by omega),show k-tl.length=0 by omega]
   show r=0\/r=1;omega
 rintro ys Δ2 ⟨tl,ps2,x,hp2,htl,ht,rfl,rfl⟩;rw[Zaz]at htl;refine Zal (Zax (Zcy rfl rfl (Zab (Zbn (Zb1 (d:=.int (N:Int)) rfl rfl) (Zaf (Znp rfl rfl hp2 (by omega) λpl ps3 hp3 hpl=>?_))))));have nu:NuOk ts.length nl tl:=⟨hnl,htl,λk hk=>ht k (by rw[Zaz];exact hk)⟩;obtain⟨nlen,nrg,ninj⟩:=Zfu hnl;obtain⟨plen,prg,pinj⟩:=Zfu hpl;refine Zal (Zax (Zbi (by decide) (Za5 (Zab (Zbn (Zcc Zbh (Zak rfl) (pr_I (Or.inl ⟨by decide,by decide⟩))) (Zaf ⟨_,rfl,by omega,by omega,?_⟩))))));rw[show (2*(ts.length:Int)).toNat=2*ts.length by omega];refine⟨by rw[Zaz];exact small1000 (by omega),λ_=>true,λd=>.int (nuF nl tl (intD d)),λi d hd=>?_,?_⟩
 ·obtain⟨hi,rfl⟩:=Zbo hd
  have h2:i / 2<ts.length:=by omega
  refine Zbc ⟨rfl,Zbn (Zcc (Zcc Zbh (Zdm (Zak rfl) (Zcc (Zak rfl) Zbh (pr_I ⟨by decide,by decide⟩)) (Zhx (i:=i / 2) (by omega) (by omega))) (pr_I (Or.inl ⟨by decide,by decide⟩))) (Zcc (Zcc (Zak rfl) (Zdm (Zak rfl) (Zcc (Zak rfl) Zbh (pr_I ⟨by decide,by decide⟩)) (Zhx (i:=i / 2) (by omega) (by omega))) Zc7) Zbh (pr_I (by show (0:Int)<2;decide))) Zc7) ⟨?_,_,rfl⟩⟩;show D.int _=D.int (nuF nl tl (0+(i:Int)));rw[Wbm];unfold nuF;rw[Wak]
 have e1:((rngD 0 (2*ts.length)).filter λ_=>true).map (λd=>D.int (nuF nl tl (intD d)))=(rowOf (nuF nl tl) ts.length).map D.int:=by
  rw[Wa5.mpr (by simp)];unfold rowOf rngD;rw[Wan,Wan];exact Wa9 λk _=>by show D.int (nuF nl tl (0+(k:Int)))=_;rw[Wbm];rfl
 rw[e1]
 -- the ties
 refine Zal (Zjd (Zg5 (by decide) (Za5 (Zab (Zac rfl (Zaf ⟨_,rfl,by omega,by omega,?_⟩))))));rw[Wak];refine⟨by rw[Zaz];exact small1000 (by omega),λ_=>true,λ_=>.lst [.int 0,.int 0],λi d hd=>?_,by decide,?_,λas hal hnd=>?_⟩
 ·exact Zbc ⟨rfl,Zdk (Zab (Za3 (Zab (Za3 (Zaf ⟨Zb0,rfl,_,rfl⟩)))))⟩
 ·rw[Wab]
  have e:((rngD 0 ts.length).filter λ_=>true).length<=24:=Wbu (Wcw _ _) (by rw[Zaz];omega);show 13+_<=37;omega
 have eR:(rngD 0 ts.length).filter (λ_=>true)=rngD 0 ts.length:=by simp
 have hal2:as.length=ts.length:=by rw[hal,eR,Wab,Zaz]
 have eO:Wbp (λ_=>OD.lst [D.int 0,D.int 0]) ((rngD 0 ts.length).filter λ_=>true)=(Waj ts.length [(0:Int),0]).map λr=>OD.lst (r.map D.int):=by
  rw[eR,Wdu,Zaz,Wd4];rfl
 have e:=Zgn (R:=rR ps3 N ts o nl tl pl as .any .any) (as:=as) (rows:=Waj ts.length [(0:Int),0]) (T:=24) (by rw[Wba];exact hal2) (by rw[Wba];exact hts);rw[<- eO,Wba]at e;refine Eq.mpr (congrArg (λΔ=>JS K _ Δ _) e) ?_;clear e;have t0:TieI ts (nuF nl tl) (atF pl) as 0 (as.zip (Waj ts.length [(0:Int),0])):=by
  refine⟨Zoo (by rw[Wba];exact hal2),by rw[Wcv,Wba,hal2,Wcy],λj c hc=>?_,λe he=>by omega⟩;obtain⟨_,h2⟩:=Wbh.mp hc;have:=Waq h2;rw[(Wdc.mp this).2];rfl
 have hplace:∀e:Nat,e<2*ts.length->atI (pl.map D.int) (placeAt ts e)=some (.int (atF pl (placeAt ts e))):=λe he=>by
  obtain⟨p0,p1⟩:=Zci hW he;exact Zhx (by omega) (by omega)
 have hname:∀e:Nat,e<2*ts.length->atI ((rowOf (nuF nl tl) ts.length).map D.int) ((0:Int)+(e:Int))=some (.int (nuF nl tl (e:Int))):=λe he=>by
  rw[Wbm];exact Zbk (by rw[Wad,Zim he];rfl)
 refine Zbe (λΔ=>∃(cs:List (Addr × List Int)) (x9 x10:L2.Slot),TieI ts (nuF nl tl) (atF pl) as (2*ts.length) cs /\ Δ = nSt (rR ps3 N ts o nl tl pl as x9 x10) cs (24-ts.length)) ?_ ?_
 ·refine Zcv (Za5 (Zab (Zbn (Zcc Zbh (Zak rfl) (pr_I (Or.inl ⟨by decide,by decide⟩))) (Zaf ⟨_,rfl,by omega,by omega,?_⟩))))
  rw[show (2*(ts.length:Int)).toNat=2*ts.length by omega];refine⟨λk Δ=>∃(cs:List (Addr × List Int)) (x9 x10:L2.Slot),TieI ts (nuF nl tl) (atF pl) as k cs /\ Δ = nSt (rR ps3 N ts o nl tl pl as x9 x10) cs (24-ts.length),⟨_,_,_,t0,rfl⟩,?_,λΔ h=>by rw[Zaz]at h;exact h⟩;rintro k d Δ2 hd ⟨cs,x9,x10,ti,rfl⟩;obtain⟨hk,rfl⟩:=Zbo hd;obtain⟨t,ht1,ht2,ht3⟩:=Zok hk;obtain⟨ve,vd,vm⟩:=Zfi nu hk;obtain⟨v,ev,hv⟩:=Zbt ve;have hv2:v / 2<cs.length:=by rw[ti.len];omega
  have hc:cs[v / 2]?=some cs[v / 2]:=Waa hv2;generalize cs[v / 2]=c at hc;have c2:=ti.two _ c hc;have ha:as[v / 2]?=some c.1:=by rw[<- ti.as,Wad,hc];rfl
  have hadr:atI (as.map D.adr) ((v:Int) / 2)=some (.adr c.1):=by
   rw[show (v:Int) / 2=((v / 2:Nat):Int) by omega];exact Zbk (by rw[Wad,ha];rfl)
  have hnm:=hname k hk;rw[ev]at hnm;refine Zbu (Zal (Zax (Zbn (Zdm (d:=.adr c.1) (Zak rfl) (Zcc (Zdm (Zak rfl) (Zak rfl) hnm) Zbh (pr_I ⟨by decide,by decide⟩)) hadr) ?_)));refine Zsg (Zbn (Zdm (Zak rfl) (Zec (Zec (Zb1 (d:=.tup (ts.map encTie)) rfl rfl) (Zcc (Zak rfl) Zbh (pr_I ⟨by decide,by decide⟩)) ht2) (Zcc (Zak rfl) Zbh (pr_I (by show (0:Int)<2;decide))) ht3) (hplace k hk)) ⟨⟨_,rfl⟩,Zbn (Zcc (Zdm (Zak rfl) (Zak rfl) hnm) Zbh (pr_I (by show (0:Int)<2;decide))) ⟨c.1,13+v / 2,c.2.map D.int,_,v % 2,rfl,Zod (R:=rR ps3 N ts o nl tl pl as _ _) rfl hc,rfl,?_,?_⟩⟩)
  ·rw[Wab,c2]
   unfold ixN;rw[if_pos (by omega),if_pos (by omega)];congr 1
  refine⟨cs.set (v / 2) (c.1,c.2.set (v % 2) (atF pl (placeAt ts k))),.val (.int (0+(k:Int))),.val (.adr c.1),⟨(Zm6 hc _).trans ti.as,by rw[Wby];exact ti.len,λj c' hc'=>?_,λe he=>?_⟩,?_⟩
  ·by_cases hj:j=v / 2
   ·subst hj
    rw[Wai hv2]at hc';cases hc';rw[Wby];exact c2
   ·rw[Wam (Ne.symm hj)]at hc'
    exact ti.two j c' hc'
  ·by_cases hek:e=k
   ·subst hek
    rw[ev,Wak];refine⟨_,Wai hv2,Wai (by rw[c2];omega)⟩
   ·obtain⟨c',h1,h2⟩:=ti.told e (by omega)
    obtain⟨we,_,_⟩:=Zfi nu (show e<2*ts.length by omega);obtain⟨u,eu,hu'⟩:=Zbt we;rw[eu,Wak]at h1 h2 ⊢;have huv:u≠v:=λz=>hek (Zrk nu (by omega) hk (by rw[eu,ev,z]));by_cases hd2:u / 2=v / 2
    ·rw[hd2]at h1 ⊢
     rw[hc]at h1;cases h1;refine⟨_,Wai hv2,?_⟩;rw[Wam (by omega)];exact h2
    ·exact⟨c',by rw[Wam (Ne.symm hd2)];exact h1,h2⟩
  ·have:=Zi9 (R:=rR ps3 N ts o nl tl pl as (.val (.int (0+(k:Int)))) (.val (.adr c.1))) (cs:=cs) (m:=24-ts.length) (a:=c.1) (r:=c.2.set (v % 2) (atF pl (placeAt ts k))) (n:=13) (p:=v / 2) rfl hv2
   rw[<- this,Wde];rfl
 rintro Δ1 ⟨cs,x9,x10,ti,rfl⟩;refine Zio (i:=8) (by rw[ti.as];rfl) ?_;generalize (Waj cs.length L2.Slot.any++Waj (24-ts.length) .any)=T
 -- the rows
 have hT:∀td:List D,(rR ps3 N ts o nl tl pl as x9 x10).set 8 (.val (.lst td))++T=rS ps3 N ts o nl tl pl td x9 x10 .any .any T:=λtd=>rfl;rw[hT];refine Zbe (λΔ=>Δ = rS ps3 N ts o nl tl pl (cs.map λc=>D.lst (c.2.map D.int)) x9 x10 (.own (.lst ((Waj N ([]:List Int)).map rowD))) .any T) ?_ ?_
 ·refine Zc6 (Zg6 (by decide) (Zc3 (Zac rfl ⟨_,Or.inl rfl,by rw[Wab];exact small1000 (by omega),λ_=>true,λ_=>.tup [],λi d hd=>Zbc ⟨rfl,Zbw (Zaf ⟨by decide,rfl,_,rfl⟩)⟩,?_⟩)))
  have e2:((pl.map D.int).filter λ_=>true).map (λ_=>D.tup [])=(Waj N ([]:List Int)).map rowD:=by
   rw[Wa5.mpr (by simp),Wdu,Wab,plen,Wd4];rfl
  rw[e2];rfl
 rintro Δ1 rfl;have hN:∀p:Nat,p<N->0<=atF pl (p:Int)/\atF pl (p:Int)<(N:Int):=λp hp'=>by unfold atF;rw[Wak];exact prg p hp'
 refine Zbe (λΔ=>∃(rw:List (List Int)) (x9 x12:L2.Slot),rw.length=N/\(∀(p:Nat) r,p<N->o[p]?=some r->rw[(atF pl (p:Int)).toNat]?=some (lf (r.map (nuF nl tl)))) /\ Δ = rS ps3 N ts o nl tl pl (cs.map λc=>D.lst (c.2.map D.int)) x9 x10 (.own (.lst (rw.map rowD))) x12 T) ?_ ?_
 ·refine Zcv (Za5 (Zab (Zbn (Zb1 (d:=.int (N:Int)) rfl rfl) (Zaf ⟨_,rfl,by omega,by omega,?_⟩))))
  rw[Wak];refine⟨λk Δ=>∃(rw:List (List Int)) (x9 x12:L2.Slot),rw.length=N/\(∀(p:Nat) r,p<k->o[p]?=some r->rw[(atF pl (p:Int)).toNat]?=some (lf (r.map (nuF nl tl)))) /\ Δ = rS ps3 N ts o nl tl pl (cs.map λc=>D.lst (c.2.map D.int)) x9 x10 (.own (.lst (rw.map rowD))) x12 T,⟨_,_,_,Wba,λp r hp'=>by omega,rfl⟩,?_,λΔ h=>by rw[Zaz]at h;exact h⟩;rintro k d Δ2 hd ⟨rw',x9',x12,hrl,hrw,rfl⟩;obtain⟨hk,rfl⟩:=Zbo hd;rw[Wbm];have hko:k<o.length:=by omega
  have hr:o[k]?=some o[k]:=Waa hko;generalize o[k]=r at hr;have R:=hO.row k r hr;have rl:=R.len;have hor:atI (o.map encRow) (k:Int)=some (encRow r):=Zbk (by rw[Wad,hr];rfl);obtain⟨q0,q1⟩:=hN k hk;refine Zbu (Zj8 (Zbb (Zab (Zbi (by decide) (Zc9 (Zbn (Zec (Zak rfl) (Zak rfl) hor) ⟨_,rfl,by rw[Wab];exact small1000 (by omega),λ_=>true,λd=>.int (nuF nl tl (intD d)),λi d hd=>?_,?_⟩))))))
  ·rw[Wad]at hd
   cases z:r[i]? with
   |none=>rw[z]at hd;cases hd
   |some y=>
    rw[z]at hd;have hd:D.int y=d:=by simpa using hd
    subst hd;obtain⟨e,he,_,rfl⟩:=R.mem.mp (Waq z);have:=hname e he;rw[Wbm]at this;exact Zbc ⟨rfl,Zbn (Zdm (Zak rfl) (Zak rfl) this) ⟨rfl,_,rfl⟩⟩
  have e3:((r.map D.int).filter λ_=>true).map (λd=>D.int (nuF nl tl (intD d)))=(r.map (nuF nl tl)).map D.int:=by
   rw[Wa5.mpr (by simp),Wan,Wan];rfl
  rw[e3];refine Zaf ⟨_,rfl,by rw[Wab];omega,⟨_,_,rfl,rfl⟩,Zbn (Zdm (Zak rfl) (Zak rfl) (Zhx (i:=k) (by omega) rfl)) ⟨_,_,_,(atF pl (k:Int)).toNat,rfl,rfl,rfl,?_,?_⟩⟩
  ·rw[Wab,hrl]
   have e0:pl.getD k 0=atF pl (k:Int):=by unfold atF;rw[Wak]
   rw[e0];unfold ixN;rw[if_pos q0,if_pos q1]
  refine⟨rw'.set (atF pl (k:Int)).toNat (lf (r.map (nuF nl tl))),x9',.val (.int (k:Int)),by rw[Wby];exact hrl,λp r' hp' hr'=>?_,?_⟩
  ·by_cases hpk:p=k
   ·subst hpk
    rw[hr]at hr';cases hr';exact Wai (by omega)
   ·obtain⟨w0,w1⟩:=hN p (by omega)
    rw[Wam]
    ·exact hrw p r' (by omega) hr'
    ·intro z
     have ek:pl.getD k 0=atF pl (k:Int):=by unfold atF;rw[Wak]
     have ep:pl.getD p 0=atF pl (p:Int):=by unfold atF;rw[Wak]
     have:pl.getD k 0=pl.getD p 0:=by rw[ek,ep];omega
     exact hpk (pinj k p hk (by omega) this).symm
  ·show _=rS ps3 N ts o nl tl pl (cs.map λc=>D.lst (c.2.map D.int)) x9' x10 (.own (.lst ((rw'.set _ _).map rowD))) (.val (.int (k:Int))) T
   rw[Wde];rfl
 rintro Δ1 ⟨rw',x9',x12,hrl,hrw,rfl⟩;have hgd:∀c∈cs,∃x y,c.2=[x,y]:=λc hc=>by
  obtain⟨j,hj⟩:=Wbn.mp hc;have:=ti.two j c hj
  match h:c.2,this with
  |[x,y],_=>exact⟨x,y,rfl⟩
 have rn:Rn N ts o (cs.map λc=>(c.2.getD 0 0,c.2.getD 1 0)) rw' (nuF nl tl) (atF pl):=by
  refine⟨by rw[Wab];exact ti.len,λx hx=>?_,λx y hx hy e=>?_,λx hx=>?_,λp p0 p1=>?_,λp p' a b c d e=>?_,λe he=>?_,hrl,λp r hr=>?_⟩
  ·obtain⟨k,rfl,hk⟩:=Zbt hx;exact(Zfi nu hk).1
  ·obtain⟨j,rfl,hj⟩:=Zbt hx
   obtain⟨k,rfl,hk⟩:=Zbt hy;rw[Zrk nu hj hk e]
  ·obtain⟨k,rfl,hk⟩:=Zbt hx;exact Zwi nu hk
  ·have:=hN p.toNat (by omega);rw[Wb8 p0]at this;exact this
  ·have:=pinj p.toNat p'.toNat (by omega) (by omega) e
   omega
  ·obtain⟨c,h1,h2⟩:=ti.told e he
   unfold placeAt;rw[Wad,h1];show (if (nuF nl tl (e:Int)).toNat % 2=0 then c.2.getD 0 0 else c.2.getD 1 0)=_;rcases Nat.mod_two_eq_zero_or_one (nuF nl tl (e:Int)).toNat with z|z
   ·rw[z]at h2;rw[if_pos z,Wac,h2];rfl
   ·rw[z]at h2;rw[if_neg (by omega),Wac,h2];rfl
  ·exact hrw p r (by have:=(Waf.mp hr).1;omega) hr
 refine Zbl (Zbw (Zab (Zbw (Zab (Zbn (Zb1 (d:=.int (N:Int)) rfl rfl) (Zab (Za9 (Zab (Zbi (by decide) (Zc3 (Zac rfl ⟨_,Or.inl rfl,by rw[Wab,ti.len];exact small1000 (by omega),λ_=>true,λd=>match d with|.lst [x,y]=>.tup [x,y]|d=>d,λi d hd=>?_,?_⟩)))))))))))
 ·rw[Wad]at hd
  cases z:cs[i]? with
  |none=>rw[z]at hd;cases hd
  |some c=>
   rw[z]at hd;have hd:D.lst (c.2.map D.int)=d:=by simpa using hd
   obtain⟨x,y,e⟩:=hgd c (Waq z);rw[e]at hd;subst hd;exact Zbc ⟨rfl,Zbw (Zab (Zbn (Zrp rfl rfl) (Zab (Zbn (Zrp rfl rfl) (Zaf ⟨Zb0,rfl,_,rfl⟩)))))⟩
 have e4:((cs.map λc=>D.lst (c.2.map D.int)).filter λ_=>true).map (λd=>match d with|.lst [x,y]=>D.tup [x,y]|d=>d)=(cs.map λc=>(c.2.getD 0 0,c.2.getD 1 0)).map encTie:=by
  rw[Wa5.mpr (by simp),Wan,Wan];refine Wa9 λc hc=>?_;obtain⟨x,y,e⟩:=hgd c hc;show (match D.lst (c.2.map D.int) with|.lst [x,y]=>D.tup [x,y]|d=>d)=encTie (c.2.getD 0 0,c.2.getD 1 0);rw[e];rfl
 rw[e4];refine Zaf (Zcb (Or.inl rfl) (Zaf ⟨Zb0,?_⟩));refine Zab (Za9 (Zab (Zi4 rfl (Zaf (Zcb (Or.inl rfl) ?_)))));refine Zab (Za9 (Zab (Zac rfl (Zaf (Zcb (Or.inl rfl) (Zaf ⟨by show 3<=sizeLine;decide,?_⟩))))));exact⟨_,rfl,q _ rw' _ _ _ hp3 rn⟩
def turnD:D->D
 |.tup ds=>.tup (ds.take 1++(ds.drop 1).reverse)
 |d=>d
theorem Zms (r:List Int):turnD (encRow r)=encRow (turnRow r):=by
 show D.tup ((r.map D.int).take 1++((r.map D.int).drop 1).reverse)=D.tup ((turnRow r).map D.int);unfold turnRow;rw[Wa1,Wda,List.map_reverse,Wdb]
theorem Zof (o:List (List Int)):((o.map encRow).filter λ_=>true).map turnD=(o.map turnRow).map encRow:=by
 rw[Wa5.mpr (by simp),Wan,Wan];apply Wa9;intro r _;exact Zms r
end
def fOthF:BSp:=λps ds Post=>Pen ps/\∃(N:Nat) (ts:List (Int × Int)) (o:List (List Int)),ds=[encWeb (N:Int) ts,encOrd o]/\WebOk (N:Int) ts/\OrdOk (N:Int) ts o/\OneP N ts/\∀(M:Nat) (us:List (Int × Int)) (v:List (List Int)) ps',Pen ps' -> WebOk (M:Int) us->OrdOk (M:Int) us v->OneP M us->Post (.tup [encWeb (M:Int) us,encOrd v]) ps'
theorem Zmy {Δ1:Evt}{i:Nat}{y:L2.Slot}{ps:List D}{L:Int}{P:D->Evt->Prop}(hx:Δ1[i]?=some y) (ho:y.od=some (.lst ps)) (hp:Pen ps) (h1:0<=L) (h2:L<=24) (h:∀(N:Nat) (ts:List (Int × Int)) ps',Pen ps' -> WebOk (N:Int) ts->OneP N ts->P (encWeb (N:Int) ts) (Δ1.set i (y.put (.lst ps')))) :
  LendQ fOneP i P [.int L] Δ1:=⟨y,ps,hx,ho,hp,L,rfl,h1,h2,h⟩
theorem Zkc {Δ1:Evt}{i:Nat}{y:L2.Slot}{ps:List D}{n:Int}{ts:List (Int × Int)}{P:D->Evt->Prop}(hx:Δ1[i]?=some y) (ho:y.od=some (.lst ps)) (hp:Pen ps) (hW:WebOk n ts) (h:∀o ps',Pen ps' -> OrdOk n ts o->P (encOrd o) (Δ1.set i (y.put (.lst ps')))) :
  LendQ fPlain i P [encWeb n ts] Δ1:=⟨y,ps,hx,ho,hp,n,ts,rfl,hW,h⟩
def oR (ps:List D) (N:Nat) (ts:List (Int × Int)) (o:List (List Int)) (way:Int) (as:List Addr) (x5 x6:L2.Slot):Evt:=[.bor (.lst ps),.val (encWeb (N:Int) ts),.val (encOrd o),.val (.int way),.val (.lst (as.map D.adr)),x5,x6,.any]
structure RowsI (o:List (List Int)) (as:List Addr) (cs:List (Addr × List Int)):Prop where
 as:cs.map (·.1)=as
 row:∀(p:Nat) c,cs[p]?=some c->∃r,o[p]?=some r/\c.2.Perm r
 len:cs.length=o.length
section
variable {P:Program}{w:World}{K:W.Frag}{mg:Str->Option Value}{base:Heap}{f:Addr}{fd:FuncData}
theorem Zsh (mb:Mb mg) (C29:Callee P w K mg base 1 "_law_draw" ["_law_pen_here","_law_many"] (spB K fDraw)) (C27:Callee P w K mg base 1 "_law_begun" ["_law_row"] (spD K fLeastE)) (C31:Callee P w K mg base 2 "_law_one_part" ["_law_pen_here","_law_limit"] (spB K fOneP)) (C36:Callee P w K mg base 3 "_law_plain_order" ["_law_pen_here","_law_web"] (spB K fPlain)) (F:Fun K "_law_other_floor" "_law_other_floor" s_law_other_floor f fd):FnOk P w K mg base CX0 4 f fd ["_law_pen_here","_law_web","_law_order_here"] (spB K fOthF):=by
 refine F.ok sc_law_other_floor (Zd4 λps ds Post h=>by obtain⟨_,_,_,_,rfl,_⟩:=h;rfl) (λcdv A outer s H vs Q E hr h=>?_);have hu:=Zb9 hr;refine⟨_,(Zae (Zap (i:=3) sc_law_other_floor.nd rfl (Or.inl rfl) (Za2 C29 (hr.mono (by decide)) (Zaa (pv 0) (Zaa Zag Zad)))) (Zae (Zbq (Zaq Zct (pv 3) Zag (nomark _)) (Zah (Zav (Zbx (Zaa (pv 1) (Zaa (Za8 (tupK K) rfl (mb "tuple" (by decide)) Zbg (Zaa (Zbd ["_law_row"] (show CompSc (defScope s_law_other_floor) ("_law_pen_here" :: "_law_web" :: "_law_order_here" :: "_law_way" :: "_law_rows" :: "_law_row" :: "_law_end" :: "_law_other" :: "!0" :: "!1" :: "!2" :: "!3" :: "!4" :: "!5" :: "!6" :: "!7" :: "!8" :: "!9" :: "!10" :: "!11" :: "!12" :: "!13" :: "!14" :: "!15" :: "!16" :: "!17" :: "!18" :: "!19" :: "!20" :: "!21" :: "!22" :: "!23" :: "!24" :: []) _ [] [] from ⟨rfl,by decide +kernel,by decide +kernel,by decide +kernel,rfl,by decide +kernel⟩) rfl (seqK K (pv 2)) (λ_ _ _ _ _=>(Zaj (i:=0) (show List.Nodup (["_law_row"]:List Str) from by decide) rfl (Or.inl rfl))) (λ_ _ _ _ _=>Zba) (λ_ _ _ _ _=>(Zaw (addK K) (Ze9 (slK K) (pv 0) Zg7 (Zek Zag)) (slR0K K (pv 0))))) Zad)) Zad))))) Zay) (Zae (Zbq (Zaq Zct (pv 3) Zag (nomark _)) (Zae (Zhu 8 (show ∀x∈(("_law_pen_here" :: "_law_web" :: "_law_order_here" :: "_law_way" :: "_law_rows" :: "_law_row" :: "_law_end" :: "_law_other" :: "!0" :: "!1" :: "!2" :: "!3" :: "!4" :: "!5" :: "!6" :: "!7" :: "!8" :: "!9" :: "!10" :: "!11" :: "!12" :: "!13" :: "!14" :: "!15" :: "!16" :: "!17" :: "!18" :: "!19" :: "!20" :: "!21" :: "!22" :: "!23" :: "!24" :: []):List Str).drop 8,(defScope s_law_other_floor).names.lookup x=none from by decide +kernel) (Zdy (i:=4) ["_law_row"] (show CompSc (defScope s_law_other_floor) ("_law_pen_here" :: "_law_web" :: "_law_order_here" :: "_law_way" :: "_law_rows" :: "_law_row" :: "_law_end" :: "_law_other" :: "!0" :: "!1" :: "!2" :: "!3" :: "!4" :: "!5" :: "!6" :: "!7" :: "!8" :: "!9" :: "!10" :: "!11" :: "!12" :: "!13" :: "!14" :: "!15" :: "!16" :: "!17" :: "!18" :: "!19" :: "!20" :: "!21" :: "!22" :: "!23" :: "!24" :: []) _ [] [] from ⟨rfl,by decide +kernel,by decide +kernel,by decide +kernel,rfl,by decide +kernel⟩) rfl sc_law_other_floor.nd rfl (Or.inl rfl) (seqK K (pv 2)) (λ_ _ _ _ _=>(Zaj (i:=0) (show List.Nodup (["_law_row"]:List Str) from by decide) rfl (Or.inl rfl))) (λ_ _ _ _ _=>Zba) (λ_ _ _ _ _=>(Za8 (lstK K) rfl (mb "list" (by decide)) Zje (Zaa (pv 0) Zad))))) (Zae (Zap (i:=5) sc_law_other_floor.nd rfl (Or.inl rfl) (Zar (ixK K hu) (pv 4) (Za2 C29 (hr.mono (by decide)) (Zaa (pv 0) (Zaa (Zai (lenK K) rfl (mb "len" (by decide)) Za7 (Zaa (pv 4) Zad)) Zad))) (λ_ _=>rfl))) (Zae (Zbq (Zaq Zp5 (Zai (lenK K) rfl (mb "len" (by decide)) Za7 (Zaa (pv 5) Zad)) Zag (nomark _)) (Zae (Zap (i:=6) sc_law_other_floor.nd rfl (Or.inl rfl) (bm0K K PySem.F.plainAttrs_list PySem.F.slot_list_pop PySem.F.type_list_pop Zrl (pv 5))) (Zah (Zdi (bmK K PySem.F.plainAttrs_list PySem.F.slot_list_insert PySem.F.type_list_insert Zeg (pv 5) (Zaa (Za2 C29 (hr.mono (by decide)) (Zaa (pv 0) (Zaa (Zaw (addK K) (Zai (lenK K) rfl (mb "len" (by decide)) Za7 (Zaa (pv 5) Zad)) Zag) Zad))) (Zaa (pv 6) Zad)))))) Zay) (Zah (Zav (Zbx (Zaa (pv 1) (Zaa (Za8 (tupK K) rfl (mb "tuple" (by decide)) Zbg (Zaa (Zbd ["_law_row"] (show CompSc (defScope s_law_other_floor) ("_law_pen_here" :: "_law_web" :: "_law_order_here" :: "_law_way" :: "_law_rows" :: "_law_row" :: "_law_end" :: "_law_other" :: "!0" :: "!1" :: "!2" :: "!3" :: "!4" :: "!5" :: "!6" :: "!7" :: "!8" :: "!9" :: "!10" :: "!11" :: "!12" :: "!13" :: "!14" :: "!15" :: "!16" :: "!17" :: "!18" :: "!19" :: "!20" :: "!21" :: "!22" :: "!23" :: "!24" :: []) _ [] [] from ⟨rfl,by decide +kernel,by decide +kernel,by decide +kernel,rfl,by decide +kernel⟩) rfl (seqK K (pv 4)) (λ_ _ _ _ _=>(Zaj (i:=0) (show List.Nodup (["_law_row"]:List Str) from by decide) rfl (Or.inl rfl))) (λ_ _ _ _ _=>Zba) (λ_ _ _ _ _=>(Za2 C27 (hr.mono (by decide)) (Zaa (pv 0) Zad)))) Zad)) Zad)))))))) Zay) (Zae (Zap (i:=7) sc_law_other_floor.nd rfl (Or.inl rfl) (Za2 C31 (hr.mono (by decide)) (Zaa (pv 0) (Zaa (Zai (lenK K) rfl (mb "len" (by decide)) Za7 (Zaa (Zar (ixK K hu) (pv 1) Zag (λ_ _=>rfl)) Zad)) Zad)))) (Zah (Zav (Zbx (Zaa (pv 7) (Zaa (Za2 C36 (hr.mono (by decide)) (Zaa (pv 0) (Zaa (pv 7) Zad))) Zad))))))))),Zjp (λps ds Post hf=>?_) h⟩
 obtain⟨hp,N,ts,o,rfl,hW,hO,h1,q⟩:=hf;refine⟨by simp,?_⟩;dsimp only[cxOf,startD,Wbt,Wbp,Wbd];have hn:=hW.lo;have hn2:=hW.hi;have hts:=hW.len;have hol:=hO.len;refine Zal (Zax (Zn4 rfl rfl hp (by decide) (by decide) λway ps1 hp1 w0 w1=>?_));refine Zal (Zbv (Ze2 rfl (λhw0=>iteT ?_) (λhw0=>iteF (Za1 ?_))))
 ·refine Zbl (Zbw (Zab (Zac rfl (Zab (Za9 (Zab (Zbi (by decide) (Zc9 (Zac rfl ⟨_,rfl,?_,λ_=>true,turnD,λi d hd=>?_,?_⟩)))))))))
  ·rw[Wab];exact small1000 (by omega)
  ·rw[Wad]at hd
   cases z:o[i]? with
   |none=>rw[z]at hd;cases hd
   |some r=>
    rw[z]at hd;have hd:encRow r=d:=by simpa using hd
    subst hd;have rl:=(hO.row i r z).len;refine Zbc ⟨rfl,Zau (Zpp (Zac rfl (Zhn (Zhk (Za3 ⟨_,rfl,.tup ((r.map D.int).take 1),?_,Zrw (Zac rfl ⟨_,rfl,Zs5 ?_ ⟨rfl,_,rfl⟩⟩)⟩)))))⟩
    ·show some (D.tup _)=_
     cases r <;> rfl
    ·rw[Wb0,Wc2,Wbo,Wab]
     exact Wb4 (small1000 (by omega))
  rw[Zof];exact Zaf (Zcb (Or.inl rfl) (Zaf ⟨Zb0,_,rfl,q N ts _ _ hp1 hW hO.turn h1⟩))
 refine Zal (Zbv (Ze2 rfl (λhw1=>iteT ?_) (λhw1=>iteF (Za1 ?_))))
 ·refine Zal (Zjd (Zg5 (by decide) (Zc9 (Zac rfl ⟨_,rfl,by rw[Wab];exact small1000 (by omega),λ_=>true,λd=>match d with|.tup ds=>.lst ds|_=>.lst [],λi d hd=>?_,by decide,?_,λas hal hnd=>?_⟩))))
  ·rw[Wad]at hd
   cases z:o[i]? with
   |none=>rw[z]at hd;cases hd
   |some r=>
    rw[z]at hd;have hd:encRow r=d:=by simpa using hd
    subst hd;exact Zbc ⟨rfl,Ztw (Zab (Zac rfl (Zaf ⟨_,Or.inl rfl,rfl,_,rfl⟩)))⟩
  ·rw[Wab]
   have e:((o.map encRow).filter λ_=>true).length<=25:=Wbu (Wcw _ _) (by rw[Wab];omega);show 8+_<=33;omega
  have eO:Wbp (λd=>match d with|.tup ds=>OD.lst ds|_=>OD.lst []) ((o.map encRow).filter λ_=>true)=o.map λr=>OD.lst (r.map D.int):=by
   rw[Wa5.mpr (by simp),Wan];rfl
  have hal2:as.length=o.length:=by rw[hal,eO,Wab]
  have e:=Zgn (R:=oR ps1 N ts o way as .any .any) (as:=as) (rows:=o) (T:=25) hal2 (by omega);rw[<- eO]at e;refine Eq.mpr (congrArg (λΔ=>JS K _ Δ _) e) ?_;clear e;have i0:RowsI o as (as.zip o):=⟨Zoo hal2,λp c hc=>⟨c.2,(Wbh.mp hc).2,List.Perm.refl _⟩,by rw[Wcv,hal2,Wcy]⟩;generalize as.zip o=cs at i0;have dl:1<=((as.map D.adr).length:Int)/\((as.map D.adr).length:Int)<=100000000000000000000000000000000000000000000000000000000000:=by rw[Wab];omega
  refine Zal (Zax (Zau (Zac rfl (Zcy rfl rfl (Zab (Za9 (Zab (Zac rfl (Zaf (Zb6 (Or.inl rfl) (Zaf (Zch rfl rfl hp1 dl.1 dl.2 λr ps2 hp2 r0 r1=>?_))))))))))));obtain⟨i,rfl⟩:∃i:Nat,r=(i:Int):=⟨r.toNat,by omega⟩;rw[Wab]at r1;have hi:i<cs.length:=by have:=i0.len;omega
  have hc:cs[i]?=some cs[i]:=Waa hi;generalize cs[i]=c at hc;obtain⟨rr,hrr,pr⟩:=i0.row i c hc;have rl:=(hO.row i rr hrr).len;have cl:=pr.length_eq;have hadr:atI (as.map D.adr) (i:Int)=some (.adr c.1):=Zbk (by rw[Wad,<- i0.as,Wad,hc];rfl);refine Zb7 (d:=.adr c.1) hadr ?_;refine Zbe (λΔ=>∃(psx:List D) (cs':List (Addr × List Int)) (x6:L2.Slot),Pen psx/\RowsI o as cs' /\ Δ = nSt (oR psx N ts o way as (.val (.adr c.1)) x6) cs' (25-o.length)) ?_ ?_
  ·have sl:∀(psx:List D) (x5 x6:L2.Slot),(nSt (oR psx N ts o way as x5 x6) cs (25-o.length))[8+i]?=some (.ownA c.1 (.lst (c.2.map D.int))):=λpsx x5 x6=>Zod rfl hc
   refine Zbv (Za0 (Zau (Zhw rfl (sl ps2 _ _) (Za3 (Znm ⟨_,rfl,?_⟩)))));rw[Wab];by_cases hce:c.2=[]
   ·rw[decide_eq_false (by rw[hce];decide)]
    exact iteF (Za1 ⟨ps2,cs,.any,hp2,i0,rfl⟩)
   have hcp:0<c.2.length:=Wd1.mpr hce;rw[decide_eq_true (by omega)];obtain⟨l,z,ez⟩:∃l z,c.2=l++[z]:=⟨c.2.dropLast,c.2.getLast hce,(List.dropLast_concat_getLast hce).symm⟩;have ll:c.2.length=l.length+1:=by rw[ez,Wao];rfl
   have sl2:(nSt (oR ps2 N ts o way as (.val (.adr c.1)) .any) cs (25-o.length))[8+i]?=some (.ownA c.1 (.lst (l.map D.int++[D.int z]))):=by rw[sl,ez,Wa1];rfl
   refine iteT (Zbe (λΔ=>Δ = nSt (oR ps2 N ts o way as (.val (.adr c.1)) (.val (.int z))) (cs.set i (c.1,l)) (25-o.length)) ?_ ?_)
   ·refine Zax (Ztm rfl sl2 ?_)
    have:=Zi9 (R:=oR ps2 N ts o way as (.val (.adr c.1)) .any) (cs:=cs) (m:=25-o.length) (a:=c.1) (r:=l) (n:=8) (p:=i) rfl hi;show ((nSt (oR ps2 N ts o way as (.val (.adr c.1)) .any) cs (25-o.length)).set (8+i) (.ownA c.1 (.lst (l.map D.int)))).set 6 (.val (.int z))=_;rw[this];rfl
   rintro Δ1 rfl;have hc2:(cs.set i (c.1,l))[i]?=some (c.1,l):=Wai hi;have hi2:i<(cs.set i (c.1,l)).length:=by rw[Wby];exact hi
   have sl3:∀(psx:List D) (x5 x6:L2.Slot),(nSt (oR psx N ts o way as x5 x6) (cs.set i (c.1,l)) (25-o.length))[8+i]?=some (.ownA c.1 (.lst (l.map D.int))):=λpsx x5 x6=>Zod rfl hc2;refine Znn (a:=c.1) rfl (sl3 ps2 _ _) (Zcy rfl rfl (Zab (Zau (Zhw rfl (sl3 ps2 _ _) (Za3 (Zds (Zaf (Zch rfl rfl hp2 (by rw[Wab];omega) (by rw[Wab];omega) λg ps3 hp3 g0 g1=>?_))))))));rw[Wab]at g1;refine Zac rfl ⟨8+i,g,l.map D.int,rfl,sl3 ps3 _ _,by rw[Wab];exact small1000 (by omega),by omega,by omega,?_⟩;refine⟨ps3,cs.set i (c.1,l.take (insI (l.map D.int).length g)++z::l.drop (insI (l.map D.int).length g)),.val (.int z),hp3,⟨(Zm6 hc _).trans i0.as,λp c' hc'=>?_,by rw[Wby];exact i0.len⟩,?_⟩
   ·by_cases hpi:p=i
    ·subst hpi
     rw[Wai hi]at hc';cases hc';exact⟨rr,hrr,((Zkh l _ z).trans (by rw[<- ez])).trans pr⟩
    ·rw[Wam (Ne.symm hpi)]at hc'
     exact i0.row p c' hc'
   ·have:=Zi9 (R:=oR ps3 N ts o way as (.val (.adr c.1)) (.val (.int z))) (cs:=cs.set i (c.1,l)) (m:=25-o.length) (a:=c.1) (r:=l.take (insI (l.map D.int).length g)++z::l.drop (insI (l.map D.int).length g)) (n:=8) (p:=i) rfl hi2
    rw[List.set_set]at this;rw[<- this,Wa1,Wda,Wa3,Wdb];rfl
  rintro Δ1 ⟨ps4,cs4,x6,hp4,i4,rfl⟩;refine Zio (i:=4) (by rw[i4.as];rfl) ?_;refine Zbl (Zbw (Zab (Zac rfl (Zab (Za9 (Zab (Zbi (by decide) (Zc3 (Zac rfl ⟨_,Or.inl rfl,?_,λ_=>true,λd=>match d with|.lst ds=>encRow (lf (ds.map intD))|d=>d,λi d hd=>?_,?_⟩)))))))))
  ·rw[Wab,i4.len];exact small1000 (by omega)
  ·rw[Wad]at hd
   cases z:cs4[i]? with
   |none=>rw[z]at hd;cases hd
   |some c4=>
    rw[z]at hd;have hd:D.lst (c4.2.map D.int)=d:=by simpa using hd
    subst hd;obtain⟨r4,hr4,p4⟩:=i4.row i c4 z;have l4:=(hO.row i r4 hr4).len;have pl4:=p4.length_eq;refine Zbc ⟨rfl,Zbb (Zab (Zac rfl (Zaf ⟨c4.2,rfl,by omega,?_,_,rfl⟩)))⟩;show encRow (lf c4.2)=encRow (lf ((c4.2.map D.int).map intD));rw[Zh1]
  have e4:((cs4.map λc=>D.lst (c.2.map D.int)).filter λ_=>true).map (λd=>match d with|.lst ds=>encRow (lf (ds.map intD))|d=>d)=(cs4.map λc=>lf c.2).map encRow:=by
   rw[Wa5.mpr (by simp),Wan,Wan];refine Wa9 λc _=>?_;show encRow (lf ((c.2.map D.int).map intD))=encRow (lf c.2);rw[Zh1]
  rw[e4];refine Zaf (Zcb (Or.inl rfl) (Zaf ⟨Zb0,_,rfl,q N ts _ _ hp4 hW ⟨by rw[Wab,i4.len];exact hol,λp r hr=>?_⟩ h1⟩));rw[Wad]at hr;cases z:cs4[p]? with
  |none=>rw[z]at hr;cases hr
  |some c4=>
   rw[z]at hr;have hr:lf c4.2=r:=by simpa using hr
   subst hr;obtain⟨r4,hr4,p4⟩:=i4.row p c4 z;exact Zhg (p4.trans (hO.row p r4 hr4).perm)
 refine Zal (Zax (Zcy rfl rfl (Zab (Zbn (Zfo (Zb1 rfl (Zip (N:Int) ts))) (Zaf (Zmy rfl rfl hp1 (by omega) (by rw[Wab];omega) λM us ps2 hp2 hV h2=>?_))))));refine Zbl (Zbw (Zab (Zac rfl (Zab (Zcy rfl rfl (Zab (Zac rfl (Zaf (Zkc rfl rfl hp2 hV λv ps3 hp3 hU=>?_)))))))));exact Zaf ⟨Zb0,_,rfl,q M us v _ hp3 hV hU h2⟩
end
def hdD:List (List Int)->D
 |[]=>.non
 |r::_=>rowD r
def fAlike:DSp:=λds Post=>∃(N:Nat) (ts:List (Int × Int)) (o:List (List Int)) (M:Nat) (us:List (Int × Int)) (v:List (List Int)),ds=[encWeb (N:Int) ts,encOrd o,encWeb (M:Int) us,encOrd v]/\WebOk (N:Int) ts/\OrdOk (N:Int) ts o/\OneP N ts/\WebOk (M:Int) us/\OrdOk (M:Int) us v/\OneP M us/\Post (hdD (renS ts o us v))
theorem Zu7 {N:Nat}{ts:List (Int × Int)}{o:List (List Int)}{us:List (Int × Int)}{v:List (List Int)}{r:List Int}(h:r∈renS ts o us v):∃σ,Cm ts o us v σ /\ r=rowOf σ ts.length:=by
 unfold renS at h;by_cases z:ts.length=0
 ·rw[if_pos z]at h
  by_cases y:us.length=0
  ·rw[if_pos y,Waz]at h
   subst h;refine⟨λx=>x,⟨by omega,λx hx=>?_,λx y _ _ e=>e,λx hx=>?_,λx hx=>?_⟩,?_⟩
   ·have a:=hx.1;have b:=hx.2;omega
   ·have a:=hx.1;have b:=hx.2;omega
   ·have a:=hx.1;have b:=hx.2;omega
   ·unfold rowOf;rw[z];rfl
  ·rw[if_neg y]at h;cases h
 ·rw[if_neg z]at h
  obtain⟨e,he,ee⟩:=Wdd.mp h;unfold renAt at ee;split at ee
  ·rename_i hx
   exact⟨_,(Classical.choose_spec hx).1,(Wa4.inj ee).symm⟩
  ·cases ee
section
variable {P:Program}{w:World}{K:W.Frag}{mg:Str->Option Value}{base:Heap}{f:Addr}{fd:FuncData}
theorem Zpt (mb:Mb mg) (C49:Callee P w K mg base 2 "refuse_parts" ["web"] (spD K fRef)) (C50:Callee P w K mg base 4 "renamings" ["one","order","other","its_order"] (spN K fRen)) (F:Fun K "alike" "alike" s_alike f fd):FnOk P w K mg base CX0 5 f fd ["one","order","other","its_order"] (spD K fAlike):=by
 refine F.ok sc_alike (Zb8 λds Post h=>by obtain⟨_,_,_,_,_,_,rfl,_⟩:=h;rfl) (λcdv A outer s H vs Q E hr h=>?_);have hu:=Zb9 hr;refine⟨_,(Zae (Zdi (Za2 C49 (hr.mono (by decide)) (Zaa (pv 0) Zad))) (Zae (Zdi (Za2 C49 (hr.mono (by decide)) (Zaa (pv 2) Zad))) (Zae (Zap (i:=4) sc_alike.nd rfl (Or.inl rfl) (Za2 C50 (hr.mono (by decide)) (Zaa (pv 0) (Zaa (pv 1) (Zaa (pv 2) (Zaa (pv 3) Zad)))))) (Zah (Zav (Zg9 (truK K (pv 4) (λ_=>rfl)) (Zar (ixK K hu) (pv 4) Zag (λ_ _=>rfl)) Zie)))))),Zeu (λds Post hf=>?_) h⟩;obtain⟨N,ts,o,M,us,v,rfl,hW,hO,h1,hV,hU,h2,q⟩:=hf;refine⟨by simp,?_⟩;dsimp only[startD,Wbt,Wbp,Wbd,Waj];refine Zal (Znv (Zbb (Zab (Zac rfl (Zaf ⟨(N:Int),ts,rfl,hW,by rw[Wak];exact h1,?_⟩)))));refine Zal (Znv (Zbb (Zab (Zac rfl (Zaf ⟨(M:Int),us,rfl,hV,by rw[Wak];exact h2,?_⟩)))));refine Zal (Zax (Zbp (Zd1 (Zd5 (Zam (Zak rfl) (Zam (Zak rfl) (Zam (Zak rfl) (Zam (Zak rfl) Zcf)))) ⟨N,ts,o,M,us,v,rfl,hW,hO,h1,hV,hU,_,rfl,?_⟩))));rw[Zt2 hW hO h1 hV hU h2];generalize renS ts o us v=R at *;cases R with
 |nil=>exact Zbl (Zhp (Zcw (Zac rfl ⟨_,rfl,iteF (Zgc q)⟩)))
 |cons r R=>exact Zbl (Zhp (Zcw (Zac rfl ⟨_,rfl,iteT (Zau (Zac rfl (Za3 (Zb7 (d:=rowD r) (Zbk (j:=0) rfl) q))))⟩)))
end
def fIsRen:DSp:=λds Post=>∃(N:Nat) (ts:List (Int × Int)) (o:List (List Int)) (M:Nat) (us:List (Int × Int)) (v:List (List Int)) (σ:Int->Int),ds=[encOrd o,encOrd v,rowD (rowOf σ ts.length)]/\WebOk (N:Int) ts/\OrdOk (N:Int) ts o/\WebOk (M:Int) us/\OrdOk (M:Int) us v/\Cm ts o us v σ /\ Post (.bl true)
theorem Zvn (ms:List Int):(ms.map D.int).all (Sm 0)=true:=by
 rw[Wbg];intro d hd;obtain⟨x,_,rfl⟩:=Wav.mp hd;rfl
theorem Zqg {N:Nat}{ts:List (Int × Int)}{o:List (List Int)}{us:List (Int × Int)}{v:List (List Int)}{σ:Int->Int}{M:Nat}(hV:WebOk (M:Int) us) (hU:OrdOk (M:Int) us v) (h:Cm ts o us v σ):(rowOf σ ts.length).Perm v.flatten:=by
 have nd:(rowOf σ ts.length).Nodup:=by
  unfold rowOf;rw[Wa6,Wbv];refine List.Pairwise.imp_of_mem (λ{a b} ha hb hab e=>?_) Wbw;have:=h.inj _ _ (Zbz (Wa2.mp ha)) (Zbz (Wa2.mp hb)) e;omega
 refine Zkd nd hU.flat λx=>?_;have fx:∀x,x∈v.flatten↔InE us.length x:=λx=>by
  constructor
  ·intro hx
   obtain⟨r,hr,hx⟩:=Wdm.mp hx;obtain⟨p,hp,e⟩:=Wbs.mp hr;obtain⟨k,hk,_,rfl⟩:=(hU.row p r (by rw[Waa hp,e])).mem.mp hx;exact Zbz hk
  ·intro hx
   obtain⟨k,rfl,hk⟩:=Zbt hx;obtain⟨g1,g2,g3⟩:=Zce hV hU hk;exact Wdm.mpr ⟨_,Waq g1,g3⟩
 rw[fx];constructor
 ·intro hx
  obtain⟨k,hk,rfl⟩:=Wav.mp hx;exact h.rg _ (Zbz (Wa2.mp hk))
 ·intro hx
  have rg:∀y,0<=y->y<((2*ts.length:Nat):Int)->0 <= σ y /\ σ y<((2*ts.length:Nat):Int):=λy a b=>by have:=h.rg y ⟨a,b⟩;rw[<- h.len]at this;exact this
  obtain⟨y,hy,e⟩:=Zg4 (m:=2*ts.length) (f:=σ) rg (λa b c d e f=>h.inj a b ⟨c,d⟩ ⟨e,f⟩) hx.1 (by rw[h.len];exact hx.2);exact Wav.mpr ⟨y.toNat,Wa2.mpr (by have:=hy.1;have:=hy.2;omega),by rw[Wb8 hy.1];exact e⟩
section
variable {P:Program}{w:World}{K:W.Frag}{mg:Str->Option Value}{base:Heap}{f:Addr}{fd:FuncData}
theorem Zqh (mb:Mb mg) (C26:Callee P w K mg base 1 "_law_after" ["_law_order_here"] (spO K fAfter)) (C42:Callee P w K mg base 1 "_law_whole" ["_law_found"] (spD K fWhole)) (C34:Callee P w K mg base 1 "_law_partner" ["_law_end"] (spD K fPart)) (F:Fun K "_law_is_renaming" "_law_is_renaming" s_law_is_renaming f fd):FnOk P w K mg base CX0 2 f fd ["_law_order_here","_law_its_order","_law_names"] (spD K fIsRen):=by
 refine F.ok sc_law_is_renaming (Zb8 λds Post h=>by obtain⟨_,_,_,_,_,_,_,rfl,_⟩:=h;rfl) (λcdv A outer s H vs Q E hr h=>?_);have hu:=Zb9 hr;have hv:=Zk2 hr;refine⟨_,(Zae (Zap (i:=3) sc_law_is_renaming.nd rfl (Or.inl rfl) (Za2 C26 (hr.mono (by decide)) (Zaa (pv 0) Zad))) (Zae (Zap (i:=4) sc_law_is_renaming.nd rfl (Or.inl rfl) (Za2 C26 (hr.mono (by decide)) (Zaa (pv 1) Zad))) (Zae (Zbq (PW.pt (pw_or (Ze0 (truK K (Zai (isiUK K) rfl (mb "isinstance" (by decide)) Zb3 (Zaa (pv 2) (Zaa (Zf0 rfl (mb "tuple" (by decide)) Zbg (show RelV (.ty "tuple") _ from rfl)) Zad))) (λ_=>rfl))) (pw_or (Zaq (neSmK K hv) (Zai (sortTK K) rfl (mb "sorted" (by decide)) Zdn (Zaa (pv 2) Zad)) (Zai (sortKK K rfl) rfl (mb "sorted" (by decide)) Zdn (Zaa (pv 4) Zad)) (nomark _)) (pw_or1 (Zaq Ze3 (Zai (lenK K) rfl (mb "len" (by decide)) Za7 (Zaa (pv 2) Zad)) (Zai (lenK K) rfl (mb "len" (by decide)) Za7 (Zaa (pv 3) Zad)) (nomark _)))))) (Zah (Zav Ze6)) Zay) (Zae (Zcu PassesOwn.never rfl (Za6 rfl (mb "range" (by decide)) (Zaa (Zai (lenK K) rfl (mb "len" (by decide)) Za7 (Zaa (pv 2) Zad)) Zad)) (Zaj (i:=5) sc_law_is_renaming.nd rfl (Or.inl rfl)) (Zae (Zbq (PW.pt (pw_or (Ze0 (truK K (Za2 C42 (hr.mono (by decide)) (Zaa (Zar (ixK K hu) (pv 2) (pv 5) (λ_ _=>rfl)) Zad)) (λ_=>rfl))) (pw_or1 (Zaq Ze3 (Zar (ixK K hu) (pv 2) (Za2 C34 (hr.mono (by decide)) (Zaa (pv 5) Zad)) (λ_ _=>rfl)) (Za2 C34 (hr.mono (by decide)) (Zaa (Zar (ixK K hu) (pv 2) (pv 5) (λ_ _=>rfl)) Zad)) (nomark _))))) (Zah (Zav Ze6)) Zay) (Zah (Zbq (Zaq Ze3 (Zar (ixK K hu) (pv 2) (Zar (ixK K hu) (pv 3) (pv 5) (λ_ _=>rfl)) (λ_ _=>rfl)) (Zar (ixK K hu) (pv 4) (Zar (ixK K hu) (pv 2) (pv 5) (λ_ _=>rfl)) (λ_ _=>rfl)) (nomark _)) (Zah (Zav Ze6)) Zay)))) (Zah (Zav Ze6)))))),Zeu (λds Post hf=>?_) h⟩;obtain⟨N,ts,o,M,us,v,σ,rfl,hW,hO,hV,hU,hc,q⟩:=hf;refine⟨by simp,?_⟩;dsimp only[startD,Wbt,Wbp,Wbd,Waj];have hw:=hW.len;have la:=Zer hW hO;have lb:=Zer hV hU;have rl:=Ziu σ ts.length;have hl:=hc.len;have pm0:=Zqg (N:=N) hV hU hc;refine Zal (Zax (Zed (Zff (Zab (Zac rfl (Zaf ⟨(N:Int),ts,o,rfl,hW,hO,_,rfl,?_⟩))))));refine Zal (Zax (Zed (Zff (Zab (Zac rfl (Zaf ⟨(M:Int),us,v,rfl,hV,hU,_,rfl,?_⟩))))));refine Zbe (λΔ=>∃x5:L2.Slot,Δ = [.val (encOrd o),.val (encOrd v),.val (rowD (rowOf σ ts.length)),.val (aftD o),.val (aftD v),x5]) ?_ ?_
 ·refine Zbv (Zix (Zd9 (Zcw (Za9 (Zab (Zac rfl (Zab (Zjc (Zaf (Zen (T:="tuple") (b:=true) rfl (λ_=>by rfl) ⟨_,rfl,iteF ?_⟩))))))))))
  refine Zix (Za0 (Zau (Zbp (Zka (Zab (Zac rfl (Zaf ⟨rowOf σ ts.length,rfl,by omega,λms pm pw=>⟨_,rfl,?_⟩⟩)))))));refine Zbp (Zo5 (Zab (Zac rfl (Zaf ⟨_,v.flatten,rfl,?_,?_,λms' pm' pw'=>⟨_,rfl,?_⟩⟩))))
  ·rw[<- Zcp,Wan,Wan];rfl
  ·rw[hU.flat_eq hV];omega
  have em:ms'=ms:=List.Perm.eq_of_pairwise (le:=λa b:Int=>a<=b) (λa b _ _ h1 h2=>Int.le_antisymm h1 h2) pw' pw (pm'.trans (pm0.symm.trans pm.symm));subst em;refine Zs4 (n:=0) (by omega) (Zvn _) ⟨_,rfl,iteF ?_⟩;refine Za0 (Zau (Za9 (Zab (Zac rfl (Zaf (Zb6 (Or.inr rfl) ?_))))));refine Za9 (Zab (Zac rfl (Zaf (Zcl (Zhr ⟨_,rfl,?_⟩)))));rw[Wab,rl,la,decide_eq_true rfl];exact iteF (Za1 ⟨_,rfl⟩)
 rintro Δ1 ⟨x5,rfl⟩;refine Zbe (λ_=>True) ?_ (λΔ1 _=>Zbl (Zpv q));refine Zcv (Za5 (Zab (Zbn (Zfo (Zak rfl)) (Zaf ⟨_,rfl,by omega,by rw[Wab,rl];omega,?_⟩))));rw[Wab,rl,Wak];refine⟨λ_ Δ=>∃x5:L2.Slot,Δ = [.val (encOrd o),.val (encOrd v),.val (rowD (rowOf σ ts.length)),.val (aftD o),.val (aftD v),x5],⟨_,rfl⟩,?_,λ_ _=>trivial⟩;rintro i d Δ2 hd ⟨x5,rfl⟩;obtain⟨hi,rfl⟩:=Zbo hd;rw[Wbm];have at0:∀k:Nat,k<2*ts.length->atI ((rowOf σ ts.length).map D.int) (k:Int)=some (.int (σ (k:Int))):=λk hk=>Zbk (by rw[Wad,Zim hk];rfl);have iE:=Zbz hi;obtain⟨j,ej,hj⟩:=Zbt (hc.rg _ iE);obtain⟨pk,epk,hpk⟩:=Zbt (pI_E hW hO iE);obtain⟨fk,efk,hfk⟩:=Zbt (fI_E hW hO iE);have hp1:(partner i:Int)=(pk:Int):=epk;have a0:=at0 i hi;rw[ej]at a0;refine Zbu (Zal (Zbv (Zix (Zd9 (Zcw (Zbb (Zab (Zbn (Zec (Zak rfl) (Zak rfl) a0) (Zaf ⟨_,rfl,_,rfl,iteF ?_⟩)))))))));have e1:σ (partner i:Int)=(partner j:Int):=by
  have:=hc.cp _ iE;rw[ej]at this;exact this
 refine Za0 (Zau (Zau (Zac rfl (Zbb (Zab (Zac rfl (Zaf ⟨i,rfl,Zcg (d:=.int (σ (partner i:Int))) (by rw[hp1];exact at0 pk hpk) ?_⟩)))))));refine Zbb (Zab (Zbn (Zec (Zak rfl) (Zak rfl) a0) (Zaf ⟨j,rfl,Zhr ⟨_,rfl,?_⟩⟩)));rw[decide_eq_true e1];refine iteF (Za1 ?_);have e2:σ (folOf ts o i)=folOf us v j:=by
  have:=hc.cf _ iE;rw[ej]at this;exact this
 have hf1:folOf ts o i=(fk:Int):=efk;refine Zbv (Za0 (Zau (Zau (Zac rfl (Zau (Zac rfl (Zac rfl (Zf3 (Zfc hW hO hi) (Zcg (d:=.int (σ (folOf ts o i))) (by rw[hf1];exact at0 fk hfk) ?_)))))))));refine Zau (Zac rfl (Zbn (Zec (Zak rfl) (Zak rfl) a0) (Zf3 (Zfc hV hU hj) (Zhr ⟨_,rfl,?_⟩))));rw[decide_eq_true e2];exact iteF (Za1 ⟨_,rfl⟩)
end
theorem Zkf (a b:List Int):eqF 2 (rowD a) (rowD b)=decide (a=b):=eqL D.int 1 (λx y=>by show (x == y)=_;exact Wc7 x y) a b
theorem Zqn (a b:List Int):eqF 3 (encRow a) (encRow b)=decide (a=b):=eqL D.int 2 (λx y=>by show (x == y)=_;exact Wc7 x y) a b
theorem Zl3 (a:List Int):Dp 2 (rowD a):=λd hd=>by
 obtain⟨x,_,rfl⟩:=Wav.mp hd
 trivial
theorem Zo2 (A:List (List Int)) (a:List Int):((A.map rowD).any λd=>eqF 2 d (rowD a))=decide (a∈A):=by
 rw[List.any_map,Wcb,Wdo,decide_eq_true_iff];constructor
 ·rintro⟨b,hb,e⟩
  have e:eqF 2 (rowD b) (rowD a)=true:=e;rw[Zkf,decide_eq_true_iff]at e;rw[<- e];exact hb
 ·intro h
  refine⟨a,h,?_⟩;show eqF 2 (rowD a) (rowD a)=true;rw[Zkf,decide_eq_true rfl]
def flD (N:Nat) (ts:List (Int × Int)) (o:List (List Int)):D:=.tup [encWeb (N:Int) ts,encOrd o]
theorem Zuc {N M:Nat}{ts us:List (Int × Int)}{o v:List (List Int)}(h:eqF 5 (flD N ts o) (flD M us v)=true):ts=us/\o=v:=by
 have h:(true && (((true && (((N:Int) == (M:Int)) && (eqF 3 (.tup (ts.map encTie)) (.tup (us.map encTie)) && true)))) && (eqF 4 (encOrd o) (encOrd v) && true)))=true:=h;have e1:eqF 3 (.tup (ts.map encTie)) (.tup (us.map encTie))=decide (ts=us):=Zj4 ts us;have e2:eqF 4 (encOrd o) (encOrd v)=decide (o=v):=eqL encRow 3 Zqn o v;rw[e1,e2]at h;simp only[Wdl,Bool.and_true,Wch,decide_eq_true_iff]at h;exact⟨h.1.2,h.2⟩
theorem Zuk (N:Nat) (ts:List (Int × Int)) (o:List (List Int)):Dp 5 (flD N ts o):=λd hd=>by
 rcases Wat.mp hd with rfl|hd
 ·intro d hd
  rcases Wat.mp hd with rfl|hd
  ·trivial
  ·rw[Waz]at hd
   subst hd;exact Zjm ts
 ·rw[Waz]at hd
  subst hd;intro d hd;obtain⟨r,_,rfl⟩:=Wav.mp hd;intro d hd;obtain⟨x,_,rfl⟩:=Wav.mp hd
  trivial
theorem Zrf (N:Nat) (ts:List (Int × Int)) (o:List (List Int)):atI [encWeb (N:Int) ts,encOrd o] 0=some (encWeb (N:Int) ts):=rfl
theorem Zgp (N:Nat) (ts:List (Int × Int)) (o:List (List Int)):atI [encWeb (N:Int) ts,encOrd o] 1=some (encOrd o):=rfl
def fRight:DSp:=λds Post=>∃(N:Nat) (ts:List (Int × Int)) (o:List (List Int)) (M:Nat) (us:List (Int × Int)) (v:List (List Int)),ds=[flD N ts o,flD M us v,.lst ((renS ts o us v).map rowD)]/\WebOk (N:Int) ts/\OrdOk (N:Int) ts o/\OneP N ts/\WebOk (M:Int) us/\OrdOk (M:Int) us v/\OneP M us/\Post (.bl true)
section
variable {P:Program}{w:World}{K:W.Frag}{mg:Str->Option Value}{base:Heap}{f:Addr}{fd:FuncData}
theorem Zqm (mb:Mb mg) (C43:Callee P w K mg base 5 "alike" ["one","order","other","its_order"] (spD K fAlike)) (C40:Callee P w K mg base 4 "_law_same" ["_law_found","_law_due"] (spD K (fSame 3))) (C30:Callee P w K mg base 2 "_law_is_renaming" ["_law_order_here","_law_its_order","_law_names"] (spD K fIsRen)) (F:Fun K "_law_right" "_law_right" s_law_right f fd):FnOk P w K mg base CX0 6 f fd ["_law_one","_law_other","_law_dues"] (spD K fRight):=by
 refine F.ok sc_law_right (Zb8 λds Post h=>by obtain⟨_,_,_,_,_,_,rfl,_⟩:=h;rfl) (λcdv A outer s H vs Q E hr h=>?_);have hu:=Zb9 hr;have hv:=Zk2 hr;refine⟨_,(Zae (Zcu PassesOwn.never rfl (Za6 rfl (mb "range" (by decide)) (Zaa Zag Zad)) (Zaj (i:=3) sc_law_right.nd rfl (Or.inl rfl)) (Zae (Zap (i:=4) sc_law_right.nd rfl (Or.inl rfl) (Za2 C43 (hr.mono (by decide)) (Zaa (Zar (ixK K hu) (pv 0) Zag (λ_ _=>rfl)) (Zaa (Zar (ixK K hu) (pv 0) Zag (λ_ _=>rfl)) (Zaa (Zar (ixK K hu) (pv 1) Zag (λ_ _=>rfl)) (Zaa (Zar (ixK K hu) (pv 1) Zag (λ_ _=>rfl)) Zad)))))) (Zah (Zbq (Zaq (eqL0K K hu) (pv 2) (Zb4 Zad) (nomark _)) (Zah (Zbq (Zaq Znl (pv 4) Zie (nomark _)) (Zah (Zav Ze6)) Zay)) (Zah (Zbq (PW.pt (pw_or (Ze0 (truK K (Za2 C40 (hr.mono (by decide)) (Zaa (pv 4) (Zaa (Zar (ixK K hu) (pv 2) Zag (λ_ _=>rfl)) Zad))) (λ_=>rfl))) (pw_or1 (Ze0 (truK K (Za2 C30 (hr.mono (by decide)) (Zaa (Zar (ixK K hu) (pv 0) Zag (λ_ _=>rfl)) (Zaa (Zar (ixK K hu) (pv 1) Zag (λ_ _=>rfl)) (Zaa (pv 4) Zad)))) (λ_=>rfl)))))) (Zah (Zav Ze6)) Zay)))))) (Zah (Zav Ze6))),Zeu (λds Post hf=>?_) h⟩;obtain⟨N,ts,o,M,us,v,rfl,hW,hO,h1,hV,hU,h2,q⟩:=hf;refine⟨by simp,?_⟩;dsimp only[startD,Wbt,Wbp,Wbd,Waj];have hw:=hW.len;refine Zbe (λ_=>True) ?_ (λΔ1 _=>Zbl (Zpv q));refine Zcv (Za5 (Zab (Za3 (Zaf ⟨_,rfl,by decide,by decide,?_⟩))));refine⟨λ_ Δ=>∃x3 x4:L2.Slot,Δ = [.val (flD N ts o),.val (flD M us v),.val (.lst ((renS ts o us v).map rowD)),x3,x4],⟨_,_,rfl⟩,?_,λ_ _=>trivial⟩;rintro i d Δ2 hd ⟨x3,x4,rfl⟩;refine Zbu (Zal (Zax (Zbb (Zd5 (Zam (Zb1 rfl (Zrf N ts o)) (Zam (Zb1 rfl (Zgp N ts o)) (Zam (Zb1 rfl (Zrf M us v)) (Zam (Zb1 rfl (Zgp M us v)) Zcf)))) ⟨N,ts,o,M,us,v,rfl,hW,hO,h1,hV,hU,h2,?_⟩))));refine Zbv (Za0 (Zau (Zac rfl (Zgv (Zaf ⟨Wb2 _,Zr7 ⟨_,rfl,?_⟩⟩)))));have mem:=λr (hr:r∈renS ts o us v)=>Zu7 (N:=N) hr;generalize hR:renS ts o us v=R at *;cases R with
 |nil=>exact iteT (Zbv (Za0 (Zau (Zac rfl (Zgc (Znb ⟨_,rfl,iteF (Za1 ⟨_,_,rfl⟩)⟩))))))
 |cons r R=>
  obtain⟨σ,hc,er⟩:=mem r Wa0;have rl:r.length=2*ts.length:=by rw[er];exact Ziu _ _
  refine iteF (Zbv (Zix (Zd9 (Zcw (Zbb (Zab (Zac rfl (Zab (Zau (Zac rfl (Za3 (Zb7 (d:=rowD r) (Zbk (j:=0) rfl) (Zaf ⟨_,rfl,Zvb (m:=1) (by omega),_,rfl,iteF ?_⟩)))))))))))));exact Zd9 (Zcw (Zbb (Zd5 (Zam (Zb1 rfl (Zgp N ts o)) (Zam (Zb1 rfl (Zgp M us v)) (Zam (Zak rfl) Zcf))) ⟨N,ts,o,M,us,v,σ,by rw[<- er];rfl,hW,hO,hV,hU,hc,_,rfl,iteF (Za1 ⟨_,_,rfl⟩)⟩)))
theorem ok_law (mb:Mb mg) (C35:Callee P w K mg base 1 "_law_pen" ["_law_script"] (spN K fPen)) (C31:Callee P w K mg base 2 "_law_one_part" ["_law_pen_here","_law_limit"] (spB K fOneP)) (C36:Callee P w K mg base 3 "_law_plain_order" ["_law_pen_here","_law_web"] (spB K fPlain)) (C37:Callee P w K mg base 3 "_law_renamed" ["_law_pen_here","_law_web","_law_order_here"] (spB K fRenw)) (C33:Callee P w K mg base 4 "_law_other_floor" ["_law_pen_here","_law_web","_law_order_here"] (spB K fOthF)) (C38:Callee P w K mg base 3 "_law_renamings" ["_law_order_here","_law_its_order"] (spN K fLRen)) (C39:Callee P w K mg base 6 "_law_right" ["_law_one","_law_other","_law_dues"] (spD K fRight))
  (F:Fun K "law" "law" s_law f fd):FnOk P w K mg base CX0 8 f fd ["_law_script"] (spD K fLaw):=by
 refine F.ok sc_law (Zb8 λds Post h=>by obtain⟨_,rfl,_⟩:=h;rfl) (λcdv A outer s H vs Q E hr h=>?_);have hu:=Zb9 hr;have hv:=Zk2 hr;refine⟨_,(Zae (Zap (i:=1) sc_law.nd rfl (Or.inl rfl) (Za2 C35 (hr.mono (by decide)) (Zaa (pv 0) Zad))) (Zae (Zap (i:=2) sc_law.nd rfl (Or.inl rfl) (Za2 C31 (hr.mono (by decide)) (Zaa (pv 1) (Zaa Zag Zad)))) (Zae (Zap (i:=3) sc_law.nd rfl (Or.inl rfl) (Za2 C36 (hr.mono (by decide)) (Zaa (pv 1) (Zaa (pv 2) Zad)))) (Zae (Zee (Za2 C37 (hr.mono (by decide)) (Zaa (pv 1) (Zaa (pv 2) (Zaa (pv 3) Zad)))) (gtupK (n:=3) K rfl (Zbr (Zaj (i:=4) sc_law.nd rfl (Or.inl rfl)) (Zbr (Zaj (i:=5) sc_law.nd rfl (Or.inl rfl)) (Zbr (Zaj (i:=6) sc_law.nd rfl (Or.inl rfl)) Zeo))))) (Zae (Zcu PassesOwn.never rfl (seqK K (Zb4 (Zaa (Zbx (Zaa (pv 4) (Zaa (pv 5) Zad))) (Zaa (Za2 C33 (hr.mono (by decide)) (Zaa (pv 1) (Zaa (pv 2) (Zaa (pv 3) Zad)))) Zad)))) (Zaj (i:=7) sc_law.nd rfl (Or.inl rfl)) (Zae (Zap (i:=8) sc_law.nd rfl (Or.inl rfl) (Za2 C38 (hr.mono (by decide)) (Zaa (pv 3) (Zaa (Zar (ixK K hu) (pv 7) Zag (λ_ _=>rfl)) Zad)))) (Zae (Zbq (PW.pt (pw_and (Zaq (eqDK K hv) (pv 7) (Zbx (Zaa (pv 4) (Zaa (pv 5) Zad))) (nomark _)) (pw_and1 (Zaq (notinDK K hv) (pv 6) (pv 8) rfl)))) (Zah (Zav Ze6)) Zay) (Zae (Zbq (Ze0 (truK K (Za2 C39 (hr.mono (by decide)) (Zaa (Zbx (Zaa (pv 2) (Zaa (pv 3) Zad))) (Zaa (pv 7) (Zaa (pv 8) Zad)))) (λ_=>rfl))) (Zah (Zav Ze6)) Zay) (Zah (Zbq (Ze0 (truK K (Za2 C39 (hr.mono (by decide)) (Zaa (pv 7) (Zaa (Zbx (Zaa (pv 2) (Zaa (pv 3) Zad))) (Zaa (Za2 C38 (hr.mono (by decide)) (Zaa (Zar (ixK K hu) (pv 7) Zag (λ_ _=>rfl)) (Zaa (pv 3) Zad))) Zad)))) (λ_=>rfl))) (Zah (Zav Ze6)) Zay)))))) (Zah (Zav Ze6))))))),Zeu (λds Post hf=>?_) h⟩;obtain⟨ns,rfl,hl,q⟩:=hf;refine⟨by simp,?_⟩;dsimp only[startD,Wbt,Wbp,Wbd,Waj];refine Zal (Zc6 (Zd1 (Zab (Zac rfl (Zaf ⟨ns,rfl,hl,λps hp=>?_⟩)))));refine Zal (Zax (Zcy rfl rfl (Zab (Za3 (Zaf (Zmy rfl rfl hp (by decide) (by decide) λN ts ps1 hp1 hW h1=>?_))))));refine Zal (Zax (Zcy rfl rfl (Zab (Zac rfl (Zaf (Zkc rfl rfl hp1 hW λo ps2 hp2 hO=>?_))))));have hw:=hW.len;refine Zbe (λΔ=>∃(ps3:List D) (ts':List (Int × Int)) (o':List (List Int)) (ν π:Int->Int),Pen ps3/\Rn N ts o ts' o' ν π /\ Δ = [.val (.scr (ns.map .int)),.own (.lst ps3),.val (encWeb (N:Int) ts),.val (encOrd o),.val (encWeb (N:Int) ts'),.val (encOrd o'),.val (rowD (rowOf ν ts.length)),.any,.any]) ?_ ?_
 ·refine Zrd (Zcy rfl rfl (Zab (Zac rfl (Zab (Zac rfl (Zaf ⟨_,_,rfl,rfl,hp2,N,ts,o,rfl,hW,hO,λts' o' ν π ps3 hp3 rn=>Zj5 rfl (Zck (Zbu (Zck (Zbu (Zck (Zbu (Zhd ⟨ps3,ts',o',ν,π,hp3,rn,rfl⟩)))))))⟩))))))
 rintro Δ1 ⟨ps3,ts',o',ν,π,hp3,rn,rfl⟩;have hV':=Zov hW rn;have hU':=Zrg hW hO rn;have h1':=Zvc hW hO rn h1;have cm:=Zv2 hW hO rn;have nin:rowOf ν ts.length∈renS ts o ts' o':=by
  by_cases z:ts.length=0
  ·have:=rn.len
   unfold renS rowOf;rw[if_pos z,if_pos (by omega),z];exact Waz.mpr rfl
  ·unfold renS
   rw[if_neg z];obtain⟨e,ee,he⟩:=Zbt (cm.rg 0 ⟨Wd3 _,by omega⟩);exact Wdd.mpr ⟨e,Wa2.mpr he,Zew hW hO h1 z cm ee⟩
 refine Zbe (λ_=>True) ?_ (λΔ1 _=>Zbl (Zpv q));refine Zcv (Zc3 (Zgv (Zab (Zbw (Zab (Zac rfl (Zab (Zac rfl (Zaf ⟨Zb0,Zab (Zcy rfl rfl (Zab (Zac rfl (Zab (Zac rfl (Zaf ⟨_,_,rfl,rfl,hp3,N,ts,o,rfl,hW,hO,h1,λM us v ps4 hp4 hV hU h2=>?_⟩))))))⟩)))))))));refine Zaf ⟨Zb0,_,Or.inl rfl,λ_ Δ=>∃x7 x8:L2.Slot,Δ = [.val (.scr (ns.map .int)),.own (.lst ps4),.val (encWeb (N:Int) ts),.val (encOrd o),.val (encWeb (N:Int) ts'),.val (encOrd o'),.val (rowD (rowOf ν ts.length)),x7,x8],⟨_,_,rfl⟩,?_,λ_ _=>trivial⟩;rintro i d Δ2 hd ⟨x7,x8,rfl⟩;obtain⟨M',us',v',rfl,W,U,O1⟩:∃(M':Nat) (us':List (Int × Int)) (v':List (List Int)),d=flD M' us' v' /\ WebOk (M':Int) us' /\ OrdOk (M':Int) us' v' /\ OneP M' us':=by
  rcases i with _|_|i
  ·cases hd;exact⟨N,ts',o',rfl,hV',hU',h1'⟩
  ·cases hd;exact⟨M,us,v,rfl,hV,hU,h2⟩
  ·cases hd
 refine Zbu (Zbe (λΔ=>Δ = [.val (.scr (ns.map .int)),.own (.lst ps4),.val (encWeb (N:Int) ts),.val (encOrd o),.val (encWeb (N:Int) ts'),.val (encOrd o'),.val (rowD (rowOf ν ts.length)),.val (flD M' us' v'),.val (.lst ((renS ts o us' v').map rowD))]) ?_ ?_)
 ·exact Zax (Zbp (Zd1 (Zab (Zac rfl (Zab (Zbn (Zb1 rfl (Zgp M' us' v')) (Zaf ⟨N,ts,o,M',us',v',rfl,hW,hO,h1,W,U,_,rfl,rfl⟩)))))))
 rintro Δ1 rfl;refine Zbe (λΔ=>Δ = [.val (.scr (ns.map .int)),.own (.lst ps4),.val (encWeb (N:Int) ts),.val (encOrd o),.val (encWeb (N:Int) ts'),.val (encOrd o'),.val (rowD (rowOf ν ts.length)),.val (flD M' us' v'),.val (.lst ((renS ts o us' v').map rowD))]) ?_ ?_
 ·refine Zbv (Zrj (Za0 (Zau (Zac rfl (Zbw (Zab (Zac rfl (Zab (Zac rfl (Zaf ⟨Zb0,Zq6 (n:=5) (by omega) (Zuk _ _ _) (Zuk N ts' o') rfl rfl ⟨_,rfl,?_⟩⟩))))))))))
  by_cases c:eqF 5 (flD M' us' v') (flD N ts' o')=true
  ·obtain⟨e1,e2⟩:=Zuc c
   subst e1 e2;refine(show if eqF 5 (flD M' us' v') (flD N us' v')=true then _ else _ from ?_);rw[c];refine iteT (Za0 (Zau (Zac rfl (Zac rfl (Zr3 (n:=2) (by omega) (λd hd=>by obtain⟨r,_,rfl⟩:=Wav.mp hd;exact Zl3 r) (Zl3 _) ⟨_,rfl,?_⟩)))));rw[Zo2,decide_eq_true nin];exact iteF (Za1 rfl)
  ·have c:eqF 5 (flD M' us' v') (flD N ts' o')=false:=Wdj.mpr c
   refine(show if eqF 5 (flD M' us' v') (flD N ts' o')=true then _ else _ from ?_);rw[c];exact iteF (iteF (Za1 rfl))
 rintro Δ1 rfl;refine Zbe (λΔ=>Δ = [.val (.scr (ns.map .int)),.own (.lst ps4),.val (encWeb (N:Int) ts),.val (encOrd o),.val (encWeb (N:Int) ts'),.val (encOrd o'),.val (rowD (rowOf ν ts.length)),.val (flD M' us' v'),.val (.lst ((renS ts o us' v').map rowD))]) ?_ ?_
 ·exact Zbv (Zd9 (Zcw (Zbb (Zd5 (Zam (Zrh (Zam (Zak rfl) (Zam (Zak rfl) Zcf)) Zb0) (Zam (Zak rfl) (Zam (Zak rfl) Zcf))) ⟨N,ts,o,M',us',v',rfl,hW,hO,h1,W,U,O1,_,rfl,iteF (Za1 rfl)⟩))))
 rintro Δ1 rfl;refine Zbv (Zd9 (Zcw (Zbb (Zab (Zac rfl (Zab (Zbw (Zab (Zac rfl (Zab (Zac rfl (Zaf ⟨Zb0,?_⟩))))))))))));exact Zab (Zbp (Zd1 (Zab (Zbn (Zb1 rfl (Zgp M' us' v')) (Zab (Zac rfl (Zaf ⟨M',us',v',N,ts,o,rfl,W,U,O1,hW,hO,_,rfl,Zaf ⟨M',us',v',N,ts,o,rfl,W,U,O1,hW,hO,h1,_,rfl,iteF (Za1 ⟨_,_,rfl⟩)⟩⟩)))))))
end
theorem lenS {us:List Value}{n:Nat}(h:us.length=n+1):∃a t,us=a::t/\t.length=n:=by
 cases us with
 |nil=>exact absurd h.symm (Nat.succ_ne_zero n)
 |cons a t=>exact⟨a,t,rfl,Nat.succ.inj h⟩
theorem bK1 {α:Type _}{g r:List Value -> α}(h:∀a0,g [a0]=r [a0]) (us:List Value) (l:us.length=1):g us=r us:=by
 obtain⟨a0,u0,rfl,h0⟩:=lenS l;obtain rfl:=Wb1 h0;exact h a0
theorem bK2 {α:Type _}{g r:List Value -> α}(h:∀a0 a1,g [a0,a1]=r [a0,a1]) (us:List Value) (l:us.length=2):g us=r us:=by
 obtain⟨a0,u0,rfl,h0⟩:=lenS l;obtain⟨a1,u1,rfl,h1⟩:=lenS h0;obtain rfl:=Wb1 h1;exact h a0 a1
theorem bK3 {α:Type _}{g r:List Value -> α}(h:∀a0 a1 a2,g [a0,a1,a2]=r [a0,a1,a2]) (us:List Value) (l:us.length=3):g us=r us:=by
 obtain⟨a0,u0,rfl,h0⟩:=lenS l;obtain⟨a1,u1,rfl,h1⟩:=lenS h0;obtain⟨a2,u2,rfl,h2⟩:=lenS h1;obtain rfl:=Wb1 h2;exact h a0 a1 a2
theorem bK4 {α:Type _}{g r:List Value -> α}(h:∀a0 a1 a2 a3,g [a0,a1,a2,a3]=r [a0,a1,a2,a3]) (us:List Value) (l:us.length=4):g us=r us:=by
 obtain⟨a0,u0,rfl,h0⟩:=lenS l;obtain⟨a1,u1,rfl,h1⟩:=lenS h0;obtain⟨a2,u2,rfl,h2⟩:=lenS h1;obtain⟨a3,u3,rfl,h3⟩:=lenS h2;obtain rfl:=Wb1 h3;exact h a0 a1 a2 a3
def FnE (K:W.Frag) (x:Str) (st:Stmt):Prop:=∃(f:Addr) (fd:FuncData),W.nsIn K mainGlobals x=some (some (.ref f))/\Fun K x x st f fd
theorem fnE {K:W.Frag}{x:Str}{st:Stmt}{f:Addr}{oc kV doc pm cdv ct:Value}{od an:Option Addr}{sl:Array (Option Value)}(a:W.nsIn K mainGlobals x=some (some (.ref f))) (l:K.lookup f=some ⟨oc,od,.func (W.fnOf x x (defArgs st) (defBody st) (defScope st) .none kV doc pm an cdv ct),sl⟩) (c:W.codeIn K cdv x=true) (k:W.keepIn K (.ref f)=true):FnE K x st:=⟨f,_,a,Zvj l c k⟩
theorem Zs3 {P:Program}{w:World}{K:W.Frag}{mg:Str->Option Value}{base h:Heap}(X:K.In h) (G:h.Ns mainGlobals mg) {x:Str}{st:Stmt}{ps:List Str}{lv:Nat}{sp:Sp}(e:FnE K x st) (ok:∀{f:Addr}{fd:FuncData},Fun K x x st f fd->FnOk P w K mg base CX0 lv f fd ps sp) (hb:∀(kV doc pm:Value) (an:Option Addr) (cdv ct:Value) (us:List Value),us.length=ps.length->bindArgs (W.fnOf x x (defArgs st) (defBody st) (defScope st) .none kV doc pm an cdv ct) ⟨us,[]⟩=pure (ps.zip us)):Callee P w K mg base lv x ps sp:=by
 obtain⟨f,fd,a,F⟩:=e;exact⟨⟨f,fd,ok F,F.binds hb,F.kp,W.mg_of X G a⟩⟩
theorem Zo8 {P:Program}{w:World}{K:W.Frag}{mg:Str->Option Value}{base h:Heap}(X:K.In h) (G:h.Ns mainGlobals mg) {x:Str}{st:Stmt}{ps:List Str}{lv:Nat}{sp:Sp}(e:FnE K x st) (ok:∀{f:Addr}{fd:FuncData},Fun K x x st f fd->Binds K fd ps []->W.keepIn K (.ref f)=true->mg x=some (.ref f)->FnOk P w K mg base CX0 lv f fd ps sp) (hb:∀(kV doc pm:Value) (an:Option Addr) (cdv ct:Value) (us:List Value),us.length=ps.length->bindArgs (W.fnOf x x (defArgs st) (defBody st) (defScope st) .none kV doc pm an cdv ct) ⟨us,[]⟩=pure (ps.zip us)):Callee P w K mg base lv x ps sp:=by
 obtain⟨f,fd,a,F⟩:=e;exact⟨⟨f,fd,ok F (F.binds hb) F.kp (W.mg_of X G a),F.binds hb,F.kp,W.mg_of X G a⟩⟩
theorem all_mk {l:PySem.W.OpenLaw}{w:World}{K:W.Frag}{h:Heap}{mg:Str->Option Value}{fa:Addr}(X:K.In h) (G:h.Ns mainGlobals mg) (hfa:mg "law" = some (.ref fa))
  (e1:FnE K "_law_draw" s_law_draw)
  (e2:FnE K "_law_pen" s_law_pen)
  (e3:FnE K "_law_order" s_law_order)
  (e4:FnE K "_law_partner" s_law_partner)
  (e5:FnE K "_law_whole" s_law_whole)
  (e6:FnE K "_law_begun" s_law_begun)
  (e7:FnE K "_law_same" s_law_same)
  (e8:FnE K "_law_one_part" s_law_one_part)
  (e9:FnE K "_law_after" s_law_after)
  (e10:FnE K "_law_plain_order" s_law_plain_order)
  (e11:FnE K "place_of" s_place_of)
  (e12:FnE K "parts_of" s_parts_of)
  (e13:FnE K "refuse_parts" s_refuse_parts)
  (e14:FnE K "follower" s_follower)
  (e15:FnE K "numbered_from" s_numbered_from)
  (e16:FnE K "code_by" s_code_by)
  (e17:FnE K "_law_carried" s_law_carried)
  (e18:FnE K "_law_renamings" s_law_renamings)
  (e19:FnE K "renamings" s_renamings)
  (e20:FnE K "_law_shuffled" s_law_shuffled)
  (e21:FnE K "_law_renamed" s_law_renamed)
  (e22:FnE K "_law_other_floor" s_law_other_floor)
  (e23:FnE K "alike" s_alike)
  (e24:FnE K "_law_is_renaming" s_law_is_renaming)
  (e25:FnE K "_law_right" s_law_right)
  (e26:FnE K "law" s_law)
  (z0:W.nsIn K mainGlobals "abs" = some none)
  (z1:W.nsIn K mainGlobals "all" = some none)
  (z2:W.nsIn K mainGlobals "bool" = some none)
  (z3:W.nsIn K mainGlobals "int" = some none)
  (z4:W.nsIn K mainGlobals "isinstance" = some none)
  (z5:W.nsIn K mainGlobals "len" = some none)
  (z6:W.nsIn K mainGlobals "list" = some none)
  (z7:W.nsIn K mainGlobals "max" = some none)
  (z8:W.nsIn K mainGlobals "min" = some none)
  (z9:W.nsIn K mainGlobals "range" = some none)
  (z10:W.nsIn K mainGlobals "set" = some none)
  (z11:W.nsIn K mainGlobals "sorted" = some none)
  (z12:W.nsIn K mainGlobals "tuple" = some none)
  (z13:W.nsIn K mainGlobals "zip" = some none) :
  ∃fd:FuncData,(∀(s:Shared) (v:Value),BindsTo s fd ⟨[v],[]⟩ [("_law_script",v)])/\∀base:Heap,K.In base->base.Ns mainGlobals mg->FnOk l.prog w K mg base CX0 8 fa fd ["_law_script"] (spD K fLaw):=by
 obtain⟨f,fd,a,F⟩:=e26;have e:=hfa.symm.trans (W.mg_of X G a);cases e;have mb:Mb mg:=by
  intro x hx;simp only[Wat,Wb6,or_false]at hx;rcases hx with rfl|rfl|rfl|rfl|rfl|rfl|rfl|rfl|rfl|rfl|rfl|rfl|rfl|rfl
  ·exact W.mg_none_of X G z0
  ·exact W.mg_none_of X G z1
  ·exact W.mg_none_of X G z2
  ·exact W.mg_none_of X G z3
  ·exact W.mg_none_of X G z4
  ·exact W.mg_none_of X G z5
  ·exact W.mg_none_of X G z6
  ·exact W.mg_none_of X G z7
  ·exact W.mg_none_of X G z8
  ·exact W.mg_none_of X G z9
  ·exact W.mg_none_of X G z10
  ·exact W.mg_none_of X G z11
  ·exact W.mg_none_of X G z12
  ·exact W.mg_none_of X G z13
 obtain⟨oc,od,kV,doc,pm,an,cdv,ct,osl,rfl,lk,hcd⟩:=F.ex;refine⟨W.fnOf "law" "law" (defArgs s_law) (defBody s_law) (defScope s_law) .none kV doc pm an cdv ct,λs v=>.of_eq rfl,λbase _ _=>?_⟩;have M:=@Zs3 l.prog w K mg base h X G;have MR:=@Zo8 l.prog w K mg base h X G;have C1:=M e1 (Zsi mb) λ_ _ _ _ _ _=>bK2 λ_ _=>rfl;have C2:=M e2 (Zvl mb) λ_ _ _ _ _ _=>bK1 λ_=>rfl;have C3:=M e3 (Zql mb C1) λ_ _ _ _ _ _=>bK2 λ_ _=>rfl;have C4:=M e4 (Zll mb) λ_ _ _ _ _ _=>bK1 λ_=>rfl;have C5:=M e5 (Zq2 mb) λ_ _ _ _ _ _=>bK1 λ_=>rfl;have C6:=M e6 (Zqs mb) λ_ _ _ _ _ _=>bK1 λ_=>rfl;have C7:=MR e7 (λF b k m=>Zox mb C5 F b k m 4) λ_ _ _ _ _ _=>bK2 λ_ _=>rfl;have C8:=M e8 (Zr5 mb C1) λ_ _ _ _ _ _=>bK2 λ_ _=>rfl;have C9:=M e9 (Zpx mb) λ_ _ _ _ _ _=>bK1 λ_=>rfl;have C10:=M e10 (Zqv mb C3 C1 C6) λ_ _ _ _ _ _=>bK2 λ_ _=>rfl;have C11:=M e11 (Zo0 mb) λ_ _ _ _ _ _=>bK2 λ_ _=>rfl;have C12:=M e12 (Zjf mb) λ_ _ _ _ _ _=>bK1 λ_=>rfl;have C13:=M e13 (Zt3 mb C12) λ_ _ _ _ _ _=>bK1 λ_=>rfl;have C14:=M e14 (Zjj mb C11) λ_ _ _ _ _ _=>bK3 λ_ _ _=>rfl;have C15:=M e15 (Ztt mb C14) λ_ _ _ _ _ _=>bK3 λ_ _ _=>rfl;have C16:=M e16 (Zmu mb C14) λ_ _ _ _ _ _=>bK3 λ_ _ _=>rfl;have C17:=M e17 (Zum mb C4) λ_ _ _ _ _ _=>bK3 λ_ _ _=>rfl;have C18:=M e18 (Zth mb C9 C17) λ_ _ _ _ _ _=>bK2 λ_ _=>rfl;have C19:=M e19 (Zu9 mb C15 C16) λ_ _ _ _ _ _=>bK4 λ_ _ _ _=>rfl;have C20:=M e20 (Ztq mb C1) λ_ _ _ _ _ _=>bK2 λ_ _=>rfl;have C21:=M e21 (Zta mb C1 C20 C6) λ_ _ _ _ _ _=>bK3 λ_ _ _=>rfl;have C22:=M e22 (Zsh mb C1 C6 C8 C10) λ_ _ _ _ _ _=>bK3 λ_ _ _=>rfl;have C23:=M e23 (Zpt mb C13 C19) λ_ _ _ _ _ _=>bK4 λ_ _ _ _=>rfl;have C24:=M e24 (Zqh mb C9 C5 C4) λ_ _ _ _ _ _=>bK3 λ_ _ _=>rfl;have C25:=M e25 (Zqm mb C23 C7 C24) λ_ _ _ _ _ _=>bK3 λ_ _ _=>rfl;exact ok_law mb C2 C8 C10 C21 C22 C18 C25 F
end Lw
open PySem PySem.W PyProof.Rows
theorem PySem.W.Fast.te12067705901384062595:True:=trivial
def PySem.W.Fast.tw5182962068183293699:PySem.Program:=PySem.Challenge.pw_holefloor_k77_whole_floors_alike
theorem PySem.W.Fast.te5182962068183293699:PySem.Challenge.pw_holefloor_k77_whole_floors_alike=PySem.W.Fast.tw5182962068183293699:=rfl
def PySem.W.Fast.tw15934103964285149096:Unit:=()
def PySem.W.Fast.tw5397089933832562648:Unit:=()
def PySem.W.Fast.tw11319590554228244995:Unit:=()
def PySem.W.Fast.tw1897349103670957841:Unit:=()
def PySem.W.Fast.tw17721434200475599704:Unit:=()
def PySem.W.Fast.tw4446467706216505793:Unit:=()
def PySem.W.Fast.tw12279542027404990012:Unit:=()
def PySem.W.Fast.tw1905168352298700887:Unit:=()
def PySem.W.Fast.tw7955122894101007723:Unit:=()
def PySem.W.Fast.tw16568941305101493054:Unit:=()
def PySem.W.Fast.tw17723781771516489324:Unit:=()
def PySem.W.Fast.tw13164664546672596457:Unit:=()
def PySem.W.Fast.tw2607522799957970829:Unit:=()
def PySem.W.Fast.tw15249412793697274844:Unit:=()
def PySem.W.Fast.tw9635838943448918526:Unit:=()
def PySem.W.Fast.tw345841034308592125:Unit:=()
def PySem.W.Fast.tw17524466304790274500:Unit:=()
def PySem.W.Fast.tw17742752486118094638:Unit:=()
def PySem.W.Fast.tw4116252972223136977:Unit:=()
def PySem.W.Fast.tw5183236586693320793:Unit:=()
def PySem.W.Fast.tw9656710285251451987:Unit:=()
def PySem.W.Fast.tw14294889565532970437:Unit:=()
def PySem.W.Fast.tw13507164863164331504:Unit:=()
def PySem.W.Fast.tw2752479047394626925:Unit:=()
set_option maxRecDepth 100000 in
set_option maxHeartbeats 0 in
theorem PySem.Challenge.cw_holefloor_k77_whole_floors_alike_holds : PySem.Challenge.rw_holefloor_k77_whole_floors_alike.Holds := by
 w_on;o_law;k_head; (case hw=>w_witness2)
 k_fill
 refine L2.walk_law (k:=8) (x:="_law_script") (l:=PySem.Challenge.rw_holefloor_k77_whole_floors_alike) ⟨rfl,by decide,by decide,rfl⟩ rfl rfl (λw h Y=>PySem.W.kIn_of Y) ?F
 case F=>
  intro w mg fa h KX G hmg;refine' Lw.all_mk KX G hmg ?e1 ?e2 ?e3 ?e4 ?e5 ?e6 ?e7 ?e8 ?e9 ?e10 ?e11 ?e12 ?e13 ?e14 ?e15 ?e16 ?e17 ?e18 ?e19 ?e20 ?e21 ?e22 ?e23 ?e24 ?e25 ?e26 ?z0 ?z1 ?z2 ?z3 ?z4 ?z5 ?z6 ?z7 ?z8 ?z9 ?z10 ?z11 ?z12 ?z13
  all_goals first|(refine' Lw.fnE ?a ?l ?c ?k; (case a=>k_is); (case l=>k_is); (case c=>k_is); (case k=>k_is))|k_is

