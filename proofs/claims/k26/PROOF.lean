import PyProof.Rows.All
import Wide.All
import OpenK.AllK
import Wide.FinOn
import Lean
import PyProof.EqAt
import PyProof.EqKinds
import PyProof.TupleCall
import KE.KSortTup
import PyProof.NeKinds
import PyProof.ExcBaseAll.ValueError
import PyProof.ExcArgsOwn
import PyProof.NsDelKeeps
import PyProof.RulesAs
import PyProof.FString
import PyProof.AttrMissSeq
import PyProof.WalksS
import KE.KDictList
import KE.KDictSum
import PyProof.MinMaxWalk
import KE.KMinKey
import PyProof.Rows.CallKwBuiltin
import PyProof.Rows.RuleDivmod
import PyProof.ListMulAny
import PyProof.FactsAll.tuple
import KE.KRevIter
import PyProof.EnumMake
import KE.KMulAny
import PyProof.FactsAll.range
import PySem.Challenge.RW_holefloor_k26_whole_even_lack_of_two_sid
open List renaming getElem?_eq_getElem->Waa, length_map->Wab, getD_eq_getElem?_getD->Wac, getElem?_map->Wae, getElem?_eq_some_iff->Waf, range->Wah, length_append->Wai, length_cons->Waj, replicate->Wak, mem_cons->Wan, mem_range->Waq, size_toArray->War, map_append->Was, getElem?_set_self->Wat, mem_of_getElem?->Wau, mem_cons_of_mem->Waw, length_replicate->Wax, length_range->Waz, getElem?_set_ne->Wa0, mem_map->Wa1, getElem?_append_right->Wa2, mem_append_right->Wa3, mem_singleton->Wa4, mem_filter->Wa5, map_map->Wa6, mem_cons_self->Wa7, getElem_mem->Wa8, filter_cons->Wa9, take_length->Wba, length->Wbb, getElem?_append_left->Wbd, map_cons->Wbe, filter_append->Wbg, mem_append->Wbh, append_nil->Wbi, pairwise_lt_range->Wbj, not_mem_nil->Wbk, map->Wbl, length_take->Wbm, tail->Wbp, length_singleton->Wbq, filter_eq_self->Wbr, getElem?_eq_none->Wbt, nodup_cons->Wbu, filter_congr->Wbv, filter_filter->Wbw, length_drop->Wby, pairwise_map->Wbz, lookup_cons->Wb1, eq_nil_of_length_eq_zero->Wb2, length_reverse->Wb3, getElem?_range->Wb4, take_add_one->Wb5, length_nil->Wb6, getElem?_replicate->Wb7, length_pos_of_mem->Wb9, ext_getElem?->Wca, getElem?_zip_eq_some->Wcb, find?_cons->Wcd, zip_cons_cons->Wcg, map_congr_left->Wcl, all_eq_true->Wcn, mem_iff_getElem?->Wco, length_filter_le->Wcp, getElem_range->Wcq, getElem?_toArray->Wcr, pairwise_iff_getElem->Wcu, set_eq_of_length_le->Wcw, nodup_append->Wcx, length_set->Wcy, append_assoc->Wcz, getElem?_cons_succ->Wc0, take_zero->Wc4, range_succ->Wc5, reverse_cons->Wc8, nodup_iff_pairwise_ne->Wda, mem_append_left->Wdb, getElem_of_mem->Wdc, length_erase_of_mem->Wdd, filter_cons_of_pos->Wdf, any_cons->Wdg, take_of_length_le->Wdi, find?_cons_of_neg->Wdj, nodup_nil->Wdl, take_append_drop->Wdm, nodup_range->Wdn, getElem_inj->Wdo, mem_erase_of_ne->Wdp, getElem?_of_mem->Wdq, replicate_succ->Wdt, length_pos_iff->Wdu, filter_map->Wdv, filterMap_cons->Wdw, pairwise_cons->Wdy, getElem?_drop->Wdz, find?_eq_none->Wd0, mapM_toArray->Wd2, getElem?_take_of_lt->Wd3, filter_cons_of_neg->Wd5, filter_eq_nil_iff->Wd6, mem_map_of_mem->Wec, zip_nil_right->Wee, mem_filterMap->Wef, map_take->Weg, map_singleton->Weh, map_replicate->Wei, map_drop->Wej, reverse_perm->Wem, getElem?_set->Wen, map_reverse->Weq, isEmpty_nil->Wer, ext_getElem->Wes
open PySem.Heap renaming get?_push_of_some->Wad, get?_push_size->Wao, lt_size->Wap, size_push->Wcc, get?_update_self->Wce, get?_update_other->Wcm, get?_push_ne->Wd4, size_update->Wet
open Nat renaming le_refl->Wag, ne_of_lt->Way, lt_of_lt_of_le->Wbf, zero_le->Wbn, lt_succ_of_lt->Wbo, le_trans->Wbx, lt_or_eq_of_le->Wb8, not_lt_zero->Wcf, lt_irrefl->Wch, le_of_lt->Wcj, le_of_lt_succ->Wck, lt_of_le_of_lt->Wcs, le_succ->Wc2, lt_succ_self->Wc3, ne_of_gt->Wc6, le_succ_of_le->Wdk, min_eq_left->Wd8, mod_lt->Web, lt_trichotomy->Weo, sub_zero->Wep
open Bool renaming false_ne_true->Wal, false_eq_true->Wav, and_eq_true->Wbc, eq_false_iff->Wb0, false_and->Wci, and_false->Wcv, not_true->Wc9, eq_iff_iff->Wdh, true_and->Wdr, and_true->Wds, not_false->Wd1, beq_eq_decide_eq->Wd7
open Int renaming toNat_natCast->Wam, emod_lt_of_pos->Wct, zero_add->Wc1, emod_nonneg->Wc7, toNat_of_nonneg->Wde, le_refl->Wdx, ne_of_lt->Wd9, add_zero->Wea
open Option renaming some->Wbs, isSome_map->Wed, getD_some->Wek, getD_none->Wel
set_option Elab.async false
set_option linter.all false
set_option maxRecDepth 100000
namespace L2
open PySem PySem.Spec PyProof.Rows
abbrev Key:=Sum Int Str
def keyIs:Key->Value->Bool
 |.inl k,v=>Value.isInt k v
 |.inr x,v=>Value.isStrOf x v
def keyH (w:World):Key->Int
 |.inl k=>hashInt k
 |.inr x=>hashStr w x
theorem Zbh:∀{k:Key}{v:Value},keyIs k v=true->(∃i t,k=Sum.inl i/\v=Value.int i t)\/(∃x t,k=Sum.inr x/\v=Value.str x t)
 |.inl i,v,h=>by
  obtain⟨t,e⟩:=Value.isInt_shape (k:=i) (v:=v) h;exact .inl ⟨i,t,rfl,e⟩
 |.inr x,v,h=>by
  obtain⟨t,e⟩:=Value.isStrOf_shape (x:=x) (v:=v) h;exact .inr ⟨x,t,rfl,e⟩
theorem Zq9 (i:Int) (t:Tok):keyIs (.inl i) (.int i t)=true:=by simp[keyIs,Value.isInt]
theorem Zqo (x:Str) (t:Tok):keyIs (.inr x) (.str x t)=true:=by simp[keyIs,Value.isStrOf]
theorem Zxy (a b:Int):decide ((Sum.inl a:Key)=Sum.inl b)=(a == b):=by
 by_cases e:a=b
 ·subst e;simp
 ·have h:¬ (Sum.inl a:Key)=Sum.inl b:=λq=>e (Sum.inl.inj q)
  rw[decide_eq_false h];exact(beq_eq_false_iff_ne.mpr e).symm
theorem Zxr (a b:Str):decide ((Sum.inr a:Key)=Sum.inr b)=decide (a=b):=by
 by_cases e:a=b
 ·subst e;simp
 ·have h:¬ (Sum.inr a:Key)=Sum.inr b:=λq=>e (Sum.inr.inj q)
  rw[decide_eq_false h,decide_eq_false e]
theorem Zy1 (a:Int) (b:Str):decide ((Sum.inl a:Key)=Sum.inr b)=false:=decide_eq_false λq=>nomatch q
theorem Zyf (a:Str) (b:Int):decide ((Sum.inr a:Key)=Sum.inl b)=false:=decide_eq_false λq=>nomatch q
def mixKind (prog:Program) (w:World):PySem.KeyKind prog w Key where
 is:=keyIs
 hash:=keyH w
 inj:=λv a b ha hb=>by
  rcases Zbh ha with ⟨i,t,rfl,rfl⟩|⟨x,t,rfl,rfl⟩
  ·rcases Zbh hb with ⟨j,u,rfl,e⟩|⟨y,u,rfl,e⟩
   ·injection e with e1 _;rw[e1]
   ·exact nomatch e
  ·rcases Zbh hb with ⟨j,u,rfl,e⟩|⟨y,u,rfl,e⟩
   ·exact nomatch e
   ·injection e with e1 _;rw[e1]
 byValue:=λk v h=>by
  rcases Zbh h with ⟨i,t,rfl,rfl⟩|⟨x,t,rfl,rfl⟩ <;> rfl
 pyHash:=λhv h=>by
  rcases Zbh hv with ⟨i,t,rfl,rfl⟩|⟨x,t,rfl,rfl⟩
  ·exact wpAny_pyHash_int h
  ·exact wpAny_pyHash_str h
 eqBool:=λhu hv h=>by
  rcases Zbh hu with ⟨i,t,rfl,rfl⟩|⟨x,t,rfl,rfl⟩
  ·rcases Zbh hv with ⟨j,u,rfl,rfl⟩|⟨y,u,rfl,rfl⟩
   ·rw[Zxy]at h;exact wpAny_eqBool_int h
   ·rw[Zy1]at h;exact SeqAt.EqAt.int_str i t y u _ _ _ _ h
  ·rcases Zbh hv with ⟨j,u,rfl,rfl⟩|⟨y,u,rfl,rfl⟩
   ·rw[Zyf]at h;exact SeqAt.EqAt.str_int x t j u _ _ _ _ h
   ·rw[Zxr]at h;exact wpAny_eqBool_str h
 «strs»:=λk x t v h=>by
  rcases Zbh h with ⟨i,u,rfl,e⟩|⟨y,u,rfl,e⟩
  ·exact nomatch e
  ·injection e with e1 _
   subst e1;cases v <;> rfl
theorem Zks (prog:Program) (w:World) (i:Int) (t:Tok):(mixKind prog w).is (.inl i) (.int i t)=true:=Zq9 i t
theorem Zkt (prog:Program) (w:World) (x:Str) (t:Tok):(mixKind prog w).is (.inr x) (.str x t)=true:=Zqo x t
inductive V where
 |non|bl (b:Bool)|int (i:Int)|str (x:Str)|byt (b:Array UInt8)|flt (b:UInt64)|ref (a:Addr)|ty (n:String)
 deriving DecidableEq
def RelV:V->Value->Prop
 |.non,u=>u=Value.none
 |.bl b,u=>u=Value.bool b
 |.int i,u=>∃t,u=Value.int i t
 |.str x,u=>∃t,u=Value.str x t
 |.byt b,u=>∃t,u=Value.bytes b t
 |.flt b,u=>∃t,u=Value.float b t
 |.ref a,u=>u=Value.ref a
 |.ty n,u=>u=Value.type n
abbrev Vals:List V->List Value->Prop:=Paired RelV
theorem Vals.length {xs:List V}{us:List Value}(r:Vals xs us):xs.length=us.length:=Paired.length r
theorem Vals.get:∀{xs:List V}{us:List Value}{i:Nat}{x:V},Vals xs us->xs[i]?=some x->∃u,us[i]?=some u/\RelV x u
 |_,_,_,_,.nil,e=>by simp at e
 |_,_,0,_,.cons r _,e=>by simp at e;subst e;exact⟨_,rfl,r⟩
 |_,_,i+1,x,.cons _ t,e=>by
  obtain⟨u,h1,h2⟩:=Vals.get (i:=i) (x:=x) t (by simpa using e);exact⟨u,by simpa using h1,h2⟩
theorem Vals.set {x:V}{u:Value}(r:RelV x u):∀{xs:List V}{us:List Value}(i:Nat),Vals xs us->Vals (xs.set i x) (us.set i u)
 |_,_,_,.nil=>.nil
 |_,_,0,.cons _ t=>.cons r t
 |_,_,i+1,.cons q t=>.cons q (Vals.set r i t)
theorem Vals.append:∀{xs ys:List V}{us ws:List Value},Vals xs us->Vals ys ws->Vals (xs++ys) (us++ws)
 |_,_,_,_,.nil,s=>s
 |_,_,_,_,.cons r t,s=>.cons r (Vals.append t s)
theorem Vals.take:∀{xs:List V}{us:List Value}(n:Nat),Vals xs us->Vals (xs.take n) (us.take n)
 |_,_,0,_=>.nil
 |_,_,_+1,.nil=>.nil
 |_,_,n+1,.cons r t=>.cons r (Vals.take n t)
theorem Vals.drop:∀{xs:List V}{us:List Value}(n:Nat),Vals xs us->Vals (xs.drop n) (us.drop n)
 |_,_,0,r=>r
 |_,_,_+1,.nil=>.nil
 |_,_,n+1,.cons _ t=>Vals.drop n t
def RelO:Option V->Option Value->Prop
 |some v,some u=>RelV v u
 |none,none=>True
 |_,_=>False
def KV {κ:Type}:List (κ × V)->List (κ × Value)->Prop:=Paired λ(p:κ × V) (q:κ × Value)=>p.1=q.1/\RelV p.2 q.2
def kV:Key->V
 |.inl i=>.int i
 |.inr x=>.str x
inductive HO where
 /-- a list -/
 |lst (xs:List V)
 /-- a tuple (never changes) -/
 |tup (xs:List V)
 /-- a dict whose keys are ints and texts;one whose keys are tuples of ints and texts (the empty one is both) -/
 |dK (kvs:List (Key × V))|dT (kvs:List (List Key × V))
 /-- a set of ints: its members,its size -/
 |set (S:Int->Bool) (n:Nat)
 /-- an instance of the class at C,its dict at dx,its attributes -/
 |ins (C dx:Addr) (fs:List (Str × V))
 /-- the dict of the instance at x -/
 |own (x:Addr)
 /-- the dict of an exception -/
 |xd (fs:List (Str × V))
 /-- a bound method,f of x -/
 |met (f x:Addr)
 /-- a range object lo,lo+1,.. below hi -/
 |rng (lo hi:Int)
 /-- a thing that is known to the object (the script;a dict while a loop walks it): read,never written while it is so -/
 |frz (o:Obj) (u:HO)
 /-- a code object's table -/
 |tbl (ps:Array Value)
 /-- any other thing,by what is true of its one object (a def of one's own: SetO a S n:=HO.ext λh=>..) -/
 |ext (φ:Heap->Prop)
abbrev Hp:=Addr->Option HO
def upd (H:Hp) (a:Addr) (o:HO):Hp:=λb=>if b=a then some o else H b
theorem Zao {H:Hp}{a:Addr}{o:HO}:upd H a o a=some o:=by unfold upd;rw[if_pos rfl]
theorem Zak {H:Hp}{a b:Addr}{o:HO}(h:b≠a):upd H a o b=H b:=by unfold upd;rw[if_neg h]
theorem Zws {H:Hp}{a:Addr}{o u:HO}:upd (upd H a o) a u=upd H a u:=by
 funext b;unfold upd;split <;> rfl
theorem Zzx {H:Hp}{a b:Addr}{o u:HO}(h:H a=some o) (h':H b=some u) (d:o≠u):a≠b:=by
 intro e;subst e;rw[h]at h';exact d<|Wbs.inj h'
theorem Zal {H:Hp}{a b:Addr}{o:HO}(h:H a=some o) (h':H b=none):a≠b:=by
 intro e;subst e;rw[h]at h';cases h'
def IsTupN (h:Heap) (a:Addr) (its:Array Value):Prop:=∃o,h.get? a=some o/\(o.cls=.type "tuple" /\ ∃n,o.data=.seq its n)/\o.dict=none
theorem IsTupN.tup {h:Heap}{a:Addr}{its:Array Value}(x:IsTupN h a its):IsTup h a its:=let ⟨o,e,c,_⟩:=x; ⟨o,e,c⟩
theorem IsTupN.new (h:Heap) (items:Array Value):IsTupN (h.push { cls:=.type "tuple",data:=.seq items }) h.objs.size items:=⟨_,Wao _ rfl,⟨rfl,_,rfl⟩,rfl⟩
section
variable (P:Program) (w:World)
def ObjOk (H:Hp) (h:Heap) (a:Addr):HO->Prop
 |.lst xs=>xs.length<=sizeLine/\∃(its:List Value) (n:Nat),Vals xs its/\h.get? a=some { cls:=.type "list",data:=.seq its.toArray n }
 |.tup xs=>xs.length<=sizeLine/\∃its:List Value,Vals xs its/\IsTupN h a its.toArray
 |.dK kvs=>kvs.length<=sizeLine/\(a == sysModules)=false/\∃vs,KV kvs vs/\h.DictOf (mixKind P w) a vs
 |.dT kvs=>kvs.length<=sizeLine/\(a == sysModules)=false/\∃xs:List (List Key × Addr × Value),
   Paired (λ(p:List Key × V) (q:List Key × Addr × Value)=>p.1=q.1/\H q.2.1=some (.tup<|p.1.map kV)/\RelV p.2 q.2.2) kvs xs /\
   ∃o es ep,h.get? a=some o/\o.ExactDict/\o.data=.dict es ep/\es.toList=xs.map (entryOfKey<|tupleKind<|mixKind P w)/\(xs.map (·.1)).Nodup
 |.set S n=>h.SetOf (intKind P w) a S n
 |.ins C dx fs=>H dx=some (.own a)/\fs.length<=1000/\dx≠a/\h.get? a=some (PySem.W.instObj C dx) /\
   ∃mA,h.Ns1 dx mA/\(∀f,RelO (fs.lookup f) (mA f))/\PySem.Within mA (fs.map (·.1))
 |.own _=>∃o,h.get? a=some o
 |.xd fs=>∃mA,h.Ns1 a mA/\∀f,RelO (fs.lookup f) (mA f)
 |.rng lo hi=>∃t u v,h.get? a=some { cls:=.type "range",data:=.fields #[.int lo t,.int hi u,.int 1 v] }
 |.frz o u=>h.get? a=some o/\ObjOk H h a u
 |.tbl ps=>h.get? a=some { cls:=.none,data:=.fields ps }
 |.met f x=>h.get? a=some (PySem.W.methodObj (.ref f) (.ref x))
 |.ext φ=>φ h/\(∃o,h.get? a=some o)/\∀h1 h2:Heap,φ h1->(∀o,h1.get? a=some o->h2.get? a=some o) -> φ h2
def HOk (H:Hp) (h:Heap):Prop:=∀a o,H a=some o->ObjOk P w H h a o
end
section
variable {P:Program}{w:World}{H H':Hp}{h h':Heap}{a:Addr}{o:HO}
theorem ObjOk.lt (x:ObjOk P w H h a o):a<h.objs.size:=by
 cases o with
 |lst xs=>obtain⟨_,_,_,_,e⟩:=x;exact Wap e
 |tup xs=>obtain⟨_,_,_,p⟩:=x;exact p.tup.lt
 |dK kvs=>obtain⟨_,_,_,_,o,_,_,e,_⟩:=x;exact Wap e
 |dT kvs=>obtain⟨_,_,_,_,o,_,_,e,_⟩:=x;exact Wap e
 |set S n=>obtain⟨o,_,_,_,e,_⟩:=x;exact Wap e
 |ins C dx fs=>obtain⟨_,_,_,e,_⟩:=x;exact Wap e
 |own y=>obtain⟨_,e⟩:=x;exact Wap e
 |xd fs=>obtain⟨_,⟨_,_,_,e,_⟩,_⟩:=x;exact Wap e
 |rng lo hi=>obtain⟨_,_,_,e⟩:=x;exact Wap e
 |frz ob u=>obtain⟨e,_⟩:=x;exact Wap e
 |tbl ps=>exact Wap (show h.get? a=some _ from x)
 |met f y=>exact Wap (show h.get? a=some _ from x)
 |ext φ=>obtain⟨_,⟨_,e⟩,_⟩:=x;exact Wap e
theorem Paired.mapP {α β:Type}{F G:α -> β -> Prop}:∀{l₁:List α}{l₂:List β},Paired F l₁ l₂ -> (∀a b,F a b->G a b)->Paired G l₁ l₂
 |_,_,.nil,_=>.nil
 |_,_,.cons r t,f=>.cons (f _ _ r) (Paired.mapP t f)
theorem ObjOk.stay (x:ObjOk P w H h a o) (k:∀b u,(b=a\/H b=some (.own a))->h.get? b=some u->h'.get? b=some u)
  (ho:∀b,H b=some (.own a)->H' b=some (.own a)) (ht:∀b xs,H b=some (.tup xs)->H' b=some (.tup xs)):ObjOk P w H' h' a o:=by
 induction o with
 |lst xs=>obtain⟨z,its,n,r,e⟩:=x;exact⟨z,its,n,r,k _ _ (.inl rfl) e⟩
 |tup xs=>obtain⟨z,its,r,ob,e,c⟩:=x;exact⟨z,its,r,ob,k _ _ (.inl rfl) e,c⟩
 |dK kvs=>obtain⟨z,y,vs,r,ob,es,ep,e,c⟩:=x;exact⟨z,y,vs,r,ob,es,ep,k _ _ (.inl rfl) e,c⟩
 |dT kvs=>
  obtain⟨z,y,xs,r,ob,es,ep,e,c⟩:=x;exact⟨z,y,xs,Paired.mapP r λp q z=>⟨z.1,ht _ _ z.2.1,z.2.2⟩,ob,es,ep,k _ _ (.inl rfl) e,c⟩
 |set S n=>obtain⟨ob,es,ep,t,e,c⟩:=x;exact⟨ob,es,ep,t,k _ _ (.inl rfl) e,c⟩
 |ins C dx fs=>
  obtain⟨d,z,ne,e,mA,⟨od,es,ep,e2,c⟩,r⟩:=x;exact⟨ho _ d,z,ne,k _ _ (.inl rfl) e,mA,⟨od,es,ep,k _ _ (.inr d) e2,c⟩,r⟩
 |own y=>obtain⟨ob,e⟩:=x;exact⟨ob,k _ _ (.inl rfl) e⟩
 |xd fs=>obtain⟨mA,⟨od,es,ep,e,c⟩,r⟩:=x;exact⟨mA,⟨od,es,ep,k _ _ (.inl rfl) e,c⟩,r⟩
 |rng lo hi=>obtain⟨t,u,v,e⟩:=x;exact⟨t,u,v,k _ _ (.inl rfl) e⟩
 |frz ob u ih=>obtain⟨e,q⟩:=x;exact⟨k _ _ (.inl rfl) e,ih q⟩
 |tbl ps=>
  have e:h.get? a=some { cls:=.none,data:=.fields ps }:=x;show h'.get? a=some { cls:=.none,data:=.fields ps };exact k a _ (.inl rfl) e
 |met f y=>
  have e:h.get? a=some (PySem.W.methodObj (.ref f) (.ref y)):=x;show h'.get? a=some (PySem.W.methodObj (.ref f) (.ref y));exact k a _ (.inl rfl) e
 |ext φ=>obtain⟨p,⟨o,e⟩,st⟩:=x;exact⟨st _ _ p λo q=>k _ _ (.inl rfl) q,⟨o,k _ _ (.inl rfl) e⟩,st⟩
theorem HOk.lt (x:HOk P w H h) (e:H a=some o):a<h.objs.size:=(x a o e).lt
theorem HOk.fresh (x:HOk P w H h) (e:h.objs.size<=a):H a=none:=by
 cases q:H a with
 |none=>rfl
 |some u=>exact absurd (Wbf (x.lt q) e) (Wch _)
theorem HOk.kept (x:HOk P w H h) (k:∀b u,h.get? b=some u->h'.get? b=some u):HOk P w H h':=λa o e=>
 (x a o e).stay (λb u _ q=>k b u q) (λ_ q=>q) λ_ _ q=>q
theorem HOk.laid (x:HOk P w H h) (k:∀b u,h.get? b=some u->h'.get? b=some u) (hp:h.objs.size<=a) (new:ObjOk P w (upd H a o) h' a o):HOk P w (upd H a o) h':=λb u e=>by
 have hn:=x.fresh hp;by_cases hb:b=a
 ·subst hb;rw[Zao]at e;cases e;exact new
 ·rw[Zak hb]at e
  exact(x b u e).stay (λc v _ q=>k c v q) (λc q=>by rw[Zak (Zal q hn)];exact q) λc xs q=>by rw[Zak (Zal q hn)];exact q
end
def Rd (H:Hp) (a:Addr) (u:HO):Prop:=H a=some u\/∃o,H a=some (.frz o u)
theorem Rd.ok {P:Program}{w:World}{H:Hp}{h:Heap}{a:Addr}{u:HO}(r:Rd H a u) (x:HOk P w H h):ObjOk P w H h a u:=by
 rcases r with r|⟨o,r⟩
 ·exact x a u r
 ·obtain⟨_,q⟩:=x a _ r
  exact q
def Mut:Option HO->Prop
 |some (.lst _)=>True
 |some (.dK _)=>True
 |some (.dT _)=>True
 |some (.set _ _)=>True
 |some (.ins _ _ _)=>True
 |some (.ext _)=>True
 |_=>False
section
variable {P:Program}{w:World}{H:Hp}{h h':Heap}{x e:Addr}{o':HO}
theorem HOk.write (ok:HOk P w H h) (mu:Mut (H x)) (he:e=x\/H e=some (.own x)) (k:∀b u,b≠e->h.get? b=some u->h'.get? b=some u) (heo:∃u,h'.get? e=some u)
  (new:ObjOk P w (upd H x o') h' x o'):HOk P w (upd H x o') h':=λb u q=>by
 have nown:∀c y,H c=some (.own y)->c≠x:=λc y r z=>by subst z;rw[r]at mu;exact mu
 have ntup:∀c xs,H c=some (.tup xs)->c≠x:=λc xs r z=>by subst z;rw[r]at mu;exact mu
 by_cases hb:b=x
 ·subst hb;rw[Zao]at q;cases q;exact new
 ·rw[Zak hb]at q
  by_cases hbe:b=e
  ·have q':H b=some (.own x):=by
    rcases he with z|z
    ·exact absurd (hbe.trans z) hb
    ·rw[hbe];exact z
   rw[q]at q';cases q';obtain⟨v,hv⟩:=heo;exact⟨v,by rw[hbe];exact hv⟩
  ·refine(ok b u q).stay (λc v hc r=>k c v ?_ r) (λc r=>by rw[Zak (nown c b r)];exact r) λc xs r=>by rw[Zak (ntup c xs r)];exact r
   rcases hc with rfl|hc
   ·exact hbe
   ·rintro rfl
    rcases he with z|z
    ·exact nown c b hc z
    ·rw[hc]at z;cases z;exact hb rfl
end
structure Un (fs ex:List Addr) (H H':Hp) (h h':Heap):Prop where
 keep:∀b o,h.get? b=some o->H b=none->b ∉ fs->b ∉ ex->h'.get? b=some o
 slot:∀b o,h.get? b=some o->H b=none->b∈fs->b ∉ ex->∃sl,h'.get? b=some { o with slots:=sl }
 free:∀b o,h.get? b=some o->H b=none->b ∉ ex->H' b=none
 there:∀b o,h.get? b=some o->b ∉ ex->∃o',h'.get? b=some o'
 tups:∀b xs,H b=some (.tup xs)->H' b=some (.tup xs)
 frzs:∀b o u,H b=some (.frz o u)->H' b=some (.frz o u)
 tbls:∀b ps,H b=some (.tbl ps)->∃more,H' b=some (.tbl<|ps++more)
section
variable {fs fs' ex ex':List Addr}{H H1 H2:Hp}{h h1 h2 h':Heap}{a x e:Addr}{o:HO}
theorem Un.any (u:Un fs ex H H1 h h1) {b:Addr}{ob:Obj}(q:h.get? b=some ob) (n:H b=none) (hx:b ∉ ex):∃sl,h1.get? b=some { ob with slots:=sl }:=by
 by_cases hb:b∈fs
 ·exact u.slot b ob q n hb hx
 ·exact⟨ob.slots,u.keep b ob q n hb hx⟩
theorem Un.kept (k:∀b u,h.get? b=some u->h'.get? b=some u):Un fs ex H H h h':=
 ⟨λb ob q _ _ _=>k b ob q,λb ob q _ _ _=>⟨ob.slots,k b ob q⟩,λ_ _ _ n _=>n,λb ob q _=>⟨ob,k b ob q⟩,λ_ _ q=>q,λ_ _ _ q=>q,λ_ ps q=>⟨#[],by rw[q];simp⟩⟩
theorem Un.refl:Un fs ex H H h h:=Un.kept λ_ _ q=>q
theorem Un.laid (k:∀b u,h.get? b=some u->h'.get? b=some u) (hp:h.objs.size<=a) (hn:H a=none):Un fs ex H (upd H a o) h h' where
 keep:=λb u q _ _ _=>k b u q
 slot:=λb u q _ _ _=>⟨u.slots,k b u q⟩
 free:=λb u q n _=>by rw[Zak (Way<|Wbf (Wap q) hp)];exact n
 there:=λb u q _=>⟨u,k b u q⟩
 tups:=λb xs q=>by rw[Zak (Zal q hn)];exact q
 frzs:=λb u xs q=>by rw[Zak (Zal q hn)];exact q
 tbls:=λb ps q=>⟨#[],by rw[Zak (Zal q hn),q];simp⟩
theorem Un.write (mu:Mut (H x)) (he:e=x\/H e=some (.own x)) (k:∀b u,b≠e->h.get? b=some u->h'.get? b=some u) (heo:∃u,h'.get? e=some u):Un fs ex H (upd H x o) h h':=by
 have hx:∀b,H b=none->b≠x:=λb n z=>by subst z;rw[n]at mu;exact mu
 have hb:∀b,H b=none->b≠e:=λb n z=>by
  subst z;rcases he with r|r
  ·exact hx b n r
  ·rw[n]at r;cases r
 have hm:∀b u,H b=some u->¬ Mut (some u)->b≠x:=λb u q nm z=>by subst z;rw[q]at mu;exact nm mu
 refine⟨λb u q n _ _=>k b u (hb b n) q,λb u q n _ _=>⟨u.slots,k b u (hb b n) q⟩,λb u q n _=>by rw[Zak (hx b n)];exact n,λb u q _=>?_,
  λb xs q=>by rw[Zak (hm b _ q λz=>z)];exact q,λb u xs q=>by rw[Zak (hm b _ q λz=>z)];exact q,λb ps q=>⟨#[],by rw[Zak (hm b _ q λz=>z),q];simp⟩⟩
 by_cases hbe:b=e
 ·subst hbe;exact heo
 ·exact⟨u,k b u hbe q⟩
end
def trk (h:Heap) (H:Hp):List Addr:=(Wah h.objs.size).filter λa=>(H a).isSome
def hidT (h:Heap) (H:Hp):Heap:=PySem.W.hideAll h<|trk h H
theorem Zql (h:Heap) (H:Hp):(hidT h H).objs.size=h.objs.size:=PySem.W.hideAll_size _ _
theorem Zr7 {h:Heap}{H:Hp}{b:Addr}{o:Obj}(e:h.get? b=some o) (n:H b=none):(hidT h H).get? b=some o:=
 PySem.W.hideAll_get _ e λhm=>by
  have q:(H b).isSome=true:=(Wa5.mp hm).2;rw[n]at q;simp at q
theorem Zwu {h:Heap}{H:Hp}{b:Addr}{o:Obj}(e:(hidT h H).get? b=some o):h.get? b=some o/\H b=none:=by
 have e':h.get? b=some o:=PySem.W.of_hideAll (trk h H) e;refine⟨e',?_⟩;cases q:H b with
 |none=>rfl
 |some x=>
  have hm:b∈trk h H:=Wa5.mpr ⟨Waq.mpr<|Wap e',by simp[q]⟩;have z:(hidT h H).get? b=none:=PySem.W.hideAll_none (trk h H) hm;rw[z]at e;cases e
def allNews (g h:Heap) (L:Addr):List (Addr × Obj):=(Wah h.objs.size).filterMap λa=>if a=L\/(g.get? a).isSome=true then none else (h.get? a).map λo=>(a,o)
def rest (g h:Heap) (L d:Addr):List (Addr × Obj):=(allNews g h L).filter λp=>decide<|p.1≠d
structure Mod (K:W.Frag) (mg:Str->Option Value) (base:Heap):Prop where
 kin:K.In base
 glob:base.Ns mainGlobals mg
 blt:∃mb,base.Ns builtinsNs mb/\∀x:Str,x ≠ "__name__" -> mb x=bootBuiltins x
 nolimit:base.NoLimit
structure Cx where
 prog:Program
 w:World
 K:W.Frag
 mg:Str->Option Value
 base:Heap
 A:Around
 N:List Str
 s₀:Shared
 H₀:Hp
 env:Env
 outer:List Env
 stack:List Env
 ex:List Addr
 fn:Str->Bool
 calm:Bool
 pn:List (Addr × Obj)
 xe:Value->Shared->Prop
def frs (l:List Env):List Addr:=l.filterMap (·.frame)
abbrev Cx.fs (X:Cx):List Addr:=frs X.outer
def Vis (sc:Scope) (x:Str):Prop:=sc.names.lookup x=some .local\/sc.names.lookup x=some .cell\/sc.names.lookup x=some .free
def Loc (sc:Scope) (x:Str):Prop:=sc.names.lookup x=some .local\/sc.names.lookup x=some .cell
def Look (env:Env) (h:Heap) (m:Str->Option Value) (x:Str) (u:Value):Prop:=
 (env.kindOf x=some .local/\m x=some u)\/((env.kindOf x=some .cell\/env.kindOf x=some .free)/\∃c,env.cells.lookup x=some c/\h.IsCell c (some u))
structure Cx.Ok (X:Cx):Prop where
 mod:Mod X.K X.mg X.base
 kind:X.env.scope.kind=.function
 glob:X.env.globals=mainGlobals
 blt:X.env.builtins=builtinsNs
 above:X.s₀.heap.objs.size<=X.env.locals
 inj:∀x y c,X.env.cells.lookup x=some c->X.env.cells.lookup y=some c->x=y
 has:∀x,(X.env.kindOf x=some .cell\/X.env.kindOf x=some .free)->∃c,X.env.cells.lookup x=some c
 cab:∀x c,X.fn x=true->X.env.cells.lookup x=some c->X.s₀.heap.objs.size<=c
 hd:X.calm=true->X.A.handled=none
 frames:X.A.frames=some X.stack
 stk:X.stack=X.outer\/(X.stack=X.env::X.outer/\X.env.frame=some X.env.locals)
 exf:∀b∈X.ex,b≠X.env.locals/\∀x c,X.env.cells.lookup x=some c->c≠b
 bs:∀b o,X.base.get? b=some o->X.s₀.heap.get? b=some o/\X.H₀ b=none
 bsz:X.base.objs.size<=X.s₀.heap.objs.size
 noex:∀b o,X.base.get? b=some o->b ∉ X.ex
 exfs:∀b∈X.ex,b ∉ X.fs
 funs:X.s₀.heap.FunFrames X.base X.outer
 frf:∀b∈X.fs,X.H₀ b=none
structure Inv (X:Cx) (pins:List (Addr × Obj)) (U:List (Option V)) (H:Hp) (s:Shared):Prop where
 ok:X.Ok
 os:s.os=X.s₀.os
 bare:AllBare s.gens
 base:Un X.fs X.ex X.H₀ H X.s₀.heap s.heap
 loc:∃m,s.heap.Ns X.env.locals m/\∀(i:Nat) (x:Str) (v:V),X.N[i]?=some x -> U[i]?=some (some v)->Vis X.env.scope x->∃u,RelV v u/\Look X.env s.heap m x u
 cell:∀x c,X.env.cells.lookup x=some c->∃v,s.heap.IsCell c v
 free:H X.env.locals=none
 freeC:∀x c,X.env.cells.lookup x=some c->H c=none
 pin:∀p∈X.pn++pins,s.heap.get? p.1=some p.2/\H p.1=none/\p.1≠X.env.locals/\p.1 ∉ X.fs/\∀v,p.2.data≠.cell v
 hok:HOk X.prog X.w H s.heap
 len:U.length=X.N.length
section
variable {X:Cx}{pins:List (Addr × Obj)}{U:List (Option V)}{H H':Hp}{s:Shared}{h':Heap}
theorem Cx.Ok.nofr (ok:X.Ok) {b:Addr}{o:Obj}(e:X.base.get? b=some o):b ∉ X.fs:=λhb=>by
 have:=(ok.funs.mem hb).1;rw[e]at this;cases this
theorem Inv.bs (I:Inv X pins U H s):∀b o,X.base.get? b=some o->s.heap.get? b=some o/\H b=none:=λb o e=>
 ⟨I.base.keep b o (I.ok.bs b o e).1 (I.ok.bs b o e).2 (I.ok.nofr e) (I.ok.noex b o e),I.base.free b o (I.ok.bs b o e).1 (I.ok.bs b o e).2 (I.ok.noex b o e)⟩
theorem Inv.bk (I:Inv X pins U H s):∀b o,X.base.get? b=some o->s.heap.get? b=some o:=λb o e=>(I.bs b o e).1
theorem Inv.mod (I:Inv X pins U H s):Mod X.K X.mg X.base:=I.ok.mod
theorem Inv.kIn (I:Inv X pins U H s):X.K.In s.heap:=I.ok.mod.kin.keeps I.bk
theorem Inv.lt (I:Inv X pins U H s):X.env.locals<s.heap.objs.size:=let ⟨_,hn,_⟩:=I.loc;hn.lt
theorem Inv.sz (I:Inv X pins U H s):X.s₀.heap.objs.size<=s.heap.objs.size:=Wbx I.ok.above<|Wcj I.lt
theorem Inv.nofs (I:Inv X pins U H s) {a:Addr}(h:s.heap.objs.size<=a):a ∉ X.fs:=λhb=>by
 obtain⟨_,o,ho,_⟩:=I.ok.funs.mem hb;exact absurd (Wbf (Wap ho)<|Wbx I.sz h)<|Wch _
theorem Inv.cne (I:Inv X pins U H s):∀x c,X.env.cells.lookup x=some c->c≠X.env.locals:=λx c e z=>by
 obtain⟨v,o,ho,hd⟩:=I.cell x c e;obtain⟨m,⟨o',es,ep,ho',hd',_⟩,_⟩:=I.loc;rw[z,ho']at ho;cases ho;rw[hd']at hd;cases hd
theorem Inv.funs (I:Inv X pins U H s):s.heap.FunFrames X.base X.outer:=by
 have all:∀(l:List Env),(∀b∈frs l,b∈X.fs)->X.s₀.heap.FunFrames X.base l->s.heap.FunFrames X.base l:=by
  intro l
  induction l with
  |nil=>intro _ _;trivial
  |cons env r ih=>
   intro hs hl;obtain⟨hk,⟨L,o,hf,hn,ho,hd⟩,hr⟩:=hl;have hL:L∈X.fs:=hs L (by unfold frs;rw[Wdw,hf];exact Wa7);obtain⟨sl,e⟩:=I.base.slot L o ho (I.ok.frf L hL) hL λz=>I.ok.exfs L z hL;exact⟨hk,⟨L,_,hf,hn,e,hd⟩,ih (λb hb=>hs b (by unfold frs;rw[Wdw,hf];exact Waw _ hb)) hr⟩
 exact all X.outer (λ_ hb=>hb) I.ok.funs
theorem Inv.stack (I:Inv X pins U H s):s.heap.FunFrames X.base X.stack:=by
 rcases I.ok.stk with e|⟨e,hf⟩
 ·rw[e];exact I.funs
 ·rw[e]
  obtain⟨m,hn,_⟩:=I.loc;refine .cons (by rw[I.ok.kind];decide) hf hn ?_ I.funs;exact Heap.get?_none_of_le<|Wbx I.ok.bsz I.ok.above
theorem Inv.stkSub (I:Inv X pins U H s):∀b∈frs X.stack,b∈X.env.locals::X.fs:=λb hb=>by
 rcases I.ok.stk with e|⟨e,hf⟩
 ·rw[e]at hb;exact Waw _ hb
 ·rw[e]at hb
  unfold frs at hb;rw[Wdw,hf]at hb;exact hb
theorem Inv.stkFree (I:Inv X pins U H s):∀b∈frs X.stack,H b=none:=λb hb=>by
 rcases Wan.mp (I.stkSub b hb) with e|hb
 ·rw[e];exact I.free
 ·obtain⟨_,o,ho,_⟩:=I.ok.funs.mem hb
  exact I.base.free b o ho (I.ok.frf b hb) λz=>I.ok.exfs b z hb
theorem Inv.step {g':Array GenState}{t':Nat}{d':Drawn}{ch:List Addr}(I:Inv X pins U H s)
  (hch:∀b∈ch,(b∈X.ex\/X.s₀.heap.objs.size<=b)/\b≠X.env.locals/\(∀x c,X.env.cells.lookup x=some c->c≠b)/\∀p∈X.pn++pins,p.1≠b)
  (keep:∀b o,b≠X.env.locals->b ∉ X.fs->b ∉ ch->s.heap.get? b=some o->H b=none->h'.get? b=some o)
  (slot:∀b o,b≠X.env.locals->b∈X.fs->b ∉ ch->s.heap.get? b=some o->H b=none->∃sl,h'.get? b=some { o with slots:=sl }) (free:∀b o,b ∉ ch->s.heap.get? b=some o->H b=none->H' b=none)
  (there:∀b o,b ∉ ch->s.heap.get? b=some o->∃o',h'.get? b=some o')
  (tups:∀b xs,H b=some (.tup xs)->H' b=some (.tup xs)) (frzs:∀b o u,H b=some (.frz o u)->H' b=some (.frz o u)) (tbls:∀b ps,H b=some (.tbl ps)->∃more,H' b=some (.tbl<|ps++more))
  (ns:∀m,s.heap.Ns X.env.locals m->h'.Ns X.env.locals m) (hok:HOk X.prog X.w H' h') (hg:AllBare g') :
  Inv X pins U H' { s with heap:=h',gens:=g',drawn:=d',toks:=t' }:=by
 have neL:∀b o,X.s₀.heap.get? b=some o->b≠X.env.locals:=λb o e=>Way<|Wbf (Wap e) I.ok.above;have neC:∀b o,X.s₀.heap.get? b=some o->b ∉ X.ex->b ∉ ch:=λb o e hx hb=>by
  rcases(hch b hb).1 with z|z
  ·exact hx z
  ·exact absurd (Wbf (Wap e) z)<|Wch _
 have cellK:∀x c,X.env.cells.lookup x=some c->∀v,s.heap.IsCell c v->h'.IsCell c v:=λx c e v hq_=>by
  obtain⟨o,ho,hd⟩:=hq_;have nch:c ∉ ch:=λz=>(hch c z).2.2.1 x c e rfl;by_cases hc:c∈X.fs
  ·obtain⟨sl,q⟩:=slot c o (I.cne x c e) hc nch ho (I.freeC x c e)
   exact⟨_,q,hd⟩
  ·exact⟨o,keep c o (I.cne x c e) hc nch ho<|I.freeC x c e,hd⟩
 refine⟨I.ok,I.os,hg,⟨λb o e n hb hx=>?_,λb o e n hb hx=>?_,λb o e n hx=>?_,λb o e hx=>?_,λb xs e=>tups b xs<|I.base.tups b xs e,λb o xs e=>frzs b o xs<|I.base.frzs b o xs e,λb ps e=>?_⟩,?_,λx c e=>?_,?_,λx c e=>?_,λp hp=>?_,hok,I.len⟩
 ·exact keep b o (neL b o e) hb (neC b o e hx) (I.base.keep b o e n hb hx)<|I.base.free b o e n hx
 ·obtain⟨sl,e1⟩:=I.base.slot b o e n hb hx
  obtain⟨sl',e2⟩:=slot b _ (neL b o e) hb (neC b o e hx) e1<|I.base.free b o e n hx;exact⟨sl',e2⟩
 ·obtain⟨o',e1⟩:=I.base.there b o e hx
  exact free b o' (neC b o e hx) e1<|I.base.free b o e n hx
 ·obtain⟨o',e1⟩:=I.base.there b o e hx
  exact there b o' (neC b o e hx) e1
 ·obtain⟨m1,e1⟩:=I.base.tbls b ps e
  obtain⟨m2,e2⟩:=tbls b _ e1;exact⟨m1++m2,by rw[e2,Array.append_assoc]⟩
 ·obtain⟨m,hn,hl⟩:=I.loc
  refine⟨m,ns m hn,λi x v e1 e2 e3=>?_⟩;obtain⟨u,r,l⟩:=hl i x v e1 e2 e3;refine⟨u,r,?_⟩;rcases l with l|⟨k,c,e,z⟩
  ·exact .inl l
  ·exact .inr ⟨k,c,e,cellK x c e _ z⟩
 ·obtain⟨v,z⟩:=I.cell x c e
  exact⟨v,cellK x c e v z⟩
 ·obtain⟨m,⟨o,_,_,ho,_⟩,_⟩:=I.loc
  exact free _ o (λz=>(hch _ z).2.1 rfl) ho I.free
 ·obtain⟨v,o,ho,hd⟩:=I.cell x c e
  exact free c o (λz=>(hch c z).2.2.1 x c e rfl) ho<|I.freeC x c e
 ·obtain⟨e,n,ne,nf,d⟩:=I.pin p hp
  have nch:p.1 ∉ ch:=λz=>(hch p.1 z).2.2.2 p hp rfl;exact⟨keep p.1 p.2 ne nf nch e n,free p.1 p.2 nch e n,ne,nf,d⟩
theorem Inv.un {t':Nat}(I:Inv X pins U H s) (u:Un X.fs [] H H' s.heap h') (hok:HOk X.prog X.w H' h'):Inv X pins U H' { s with heap:=h',toks:=t' }:=by
 obtain⟨m,⟨o,es,ep,ho,r⟩,_⟩:=id I.loc;obtain⟨sl,hL⟩:=u.any ho I.free (by simp);exact I.step (g':=s.gens) (d':=s.drawn) (ch:=[]) (λ_ z=>nomatch z) (λb o _ hb _ e n=>u.keep b o e n hb (by simp)) (λb o _ hb _ e n=>u.slot b o e n hb (by simp)) (λb o _ e n=>u.free b o e n (by simp)) (λb o _ e=>u.there b o e (by simp)) u.tups u.frzs u.tbls (λm' hm=>by
  obtain⟨o',es',ep',ho',r'⟩:=hm;rw[ho]at ho';cases ho';exact⟨_,es',ep',hL,r'⟩) hok I.bare
theorem Inv.call {g':Array GenState}{t':Nat}{d':Drawn}{ch:List Addr}(I:Inv X pins U H s) (u:Un (frs X.stack) ch H H' s.heap h') (hok:HOk X.prog X.w H' h') (hg:AllBare g')
  (hch:∀b∈ch,(b∈X.ex\/X.s₀.heap.objs.size<=b)/\b≠X.env.locals/\(∀x c,X.env.cells.lookup x=some c->c≠b)/\∀p∈X.pn++pins,p.1≠b) :
  Inv X pins U H' { s with heap:=h',gens:=g',drawn:=d',toks:=t' }:=by
 obtain⟨m,⟨o,es,ep,ho,r⟩,_⟩:=id I.loc;obtain⟨sl,hL⟩:=u.any ho I.free λz=>(hch _ z).2.1 rfl;exact I.step (ch:=ch) hch (λb o hL hb hc e n=>u.keep b o e n (λz=>(Wan.mp (I.stkSub b z)).elim hL hb) hc) (λb o _ _ hc e n=>u.any e n hc) (λb o hc e n=>u.free b o e n hc) (λb o hc e=>u.there b o e hc) u.tups u.frzs u.tbls (λm' hm=>by
  obtain⟨o',es',ep',ho',r'⟩:=hm;rw[ho]at ho';cases ho';exact⟨_,es',ep',hL,r'⟩) hok hg
theorem Inv.turned {t':Nat}{it:Addr}(I:Inv X pins U H s) (k:∀b o,b≠it->s.heap.get? b=some o->h'.get? b=some o) (hn:H it=none) (hL:it≠X.env.locals)
  (h1:it∈X.ex\/X.s₀.heap.objs.size<=it) (h2:∀x c,X.env.cells.lookup x=some c->c≠it) (h3:∀p∈X.pn++pins,p.1≠it):Inv X pins U H { s with heap:=h',toks:=t' }:=by
 have nit:∀b u,H b=some u->b≠it:=λb u e z=>by rw[z,hn]at e;cases e
 refine I.step (g':=s.gens) (d':=s.drawn) (ch:=[it]) (λb hb=>?_) (λb o _ _ hc e _=>k b o (λz=>hc (by simp[z])) e) (λb o _ _ hc e _=>⟨o.slots,k b o (λz=>hc (by simp[z])) e⟩) (λ_ _ _ _ n=>n)
  (λb o hc e=>⟨o,k b o (λz=>hc (by simp[z])) e⟩) (λ_ _ e=>e) (λ_ _ _ e=>e) (λb ps e=>⟨#[],by rw[e];simp⟩) (λm hm=>?_) (λb u e=>?_) I.bare
 ·have e:b=it:=by simpa using hb
  subst e;exact⟨h1,hL,h2,h3⟩
 ·obtain⟨o,es,ep,ho,r⟩:=hm
  exact⟨o,es,ep,k _ o (Ne.symm hL) ho,r⟩
 ·refine(I.hok b u e).stay (λc v hc q=>k c v ?_ q) (λ_ q=>q) λ_ _ q=>q
  rcases hc with z|z
  ·rw[z];exact nit b u e
  ·exact nit c _ z
theorem Inv.tok (I:Inv X pins U H s) (t:Nat):Inv X pins U H { s with toks:=t }:=I.un (h':=s.heap) (t':=t) Un.refl I.hok
theorem Inv.kept {t':Nat}(I:Inv X pins U H s) (k:∀b u,s.heap.get? b=some u->h'.get? b=some u):Inv X pins U H { s with heap:=h',toks:=t' }:=I.un (Un.kept k)<|I.hok.kept k
theorem Inv.laid {a:Addr}{o:HO}{t':Nat}(I:Inv X pins U H s) (k:∀b u,s.heap.get? b=some u->h'.get? b=some u) (hp:s.heap.objs.size<=a) (new:ObjOk X.prog X.w (upd H a o) h' a o) :
  Inv X pins U (upd H a o) { s with heap:=h',toks:=t' }:=I.un (Un.laid k hp<|I.hok.fresh hp)<|I.hok.laid k hp new
theorem Inv.write {x e:Addr}{o:HO}{t':Nat}(I:Inv X pins U H s) (mu:Mut (H x)) (he:e=x\/H e=some (.own x)) (k:∀b u,b≠e->s.heap.get? b=some u->h'.get? b=some u) (heo:∃u,h'.get? e=some u)
  (new:ObjOk X.prog X.w (upd H x o) h' x o):Inv X pins U (upd H x o) { s with heap:=h',toks:=t' }:=I.un (Un.write mu he k heo)<|I.hok.write mu he k heo new
theorem Inv.pins_of {pins':List (Addr × Obj)}(I:Inv X pins U H s) (h:∀p∈pins',s.heap.get? p.1=some p.2/\H p.1=none/\p.1≠X.env.locals/\p.1 ∉ X.fs/\∀v,p.2.data≠.cell v):Inv X pins' U H s:=
 ⟨I.ok,I.os,I.bare,I.base,I.loc,I.cell,I.free,I.freeC,λp hp=>(Wbh.mp hp).elim (λz=>I.pin p<|Wdb _ z) (h p),I.hok,I.len⟩
theorem Zmy {N:List Str}(hN:N.Nodup) {i j:Nat}{x:Str}(a:N[i]?=some x) (b:N[j]?=some x):i=j:=by
 obtain⟨h1,e1⟩:=Waf.mp a;obtain⟨h2,e2⟩:=Waf.mp b;exact(Wdo hN).mp (e1.trans e2.symm)
theorem Zgv {M:Model}{A:Around}{E:Value->Shared->Prop}{i:Nat}{x:Str}{v:V}{u:Value}{Q:Unit->Shared->Prop}(I:Inv X pins U H s) (hN:X.N.Nodup) (hi:X.N[i]?=some x) (hx:Loc X.env.scope x) (r:RelV v u)
  (h:∀s',Inv X pins (U.set i<|some v) H s' -> (∃a,Heap.SameBut a s.heap s'.heap/\(a=X.env.locals\/X.env.cells.lookup x=some a))->Q () s') (hf:X.fn x=true\/X.env.scope.names.lookup x=some .local:=by first|exact .inl rfl|exact .inr rfl|assumption):wpAny M A (storeName X.env x u) Q E s:=by
 obtain⟨m,hn,hl⟩:=id I.loc;have hcls:(X.env.scope.kind == .class || (X.env.scope.kind == .module && X.env.locals != X.env.globals))=false:=by rw[I.ok.kind];rfl
 have hiU:i < U.length:=by rw[I.len];exact(Waf.mp hi).1
 have cne:=I.cne;have tracked:∀{a:Addr}{h':Heap},(∃o,s.heap.get? a=some o/\H a=none)->Heap.SameBut a s.heap h' -> HOk X.prog X.w H h':=λ{a h'} ha hs b ob e=>by
  obtain⟨_,_,hfree⟩:=ha;refine(I.hok b ob e).stay (λc w' hc q=>(hs.2 c ?_).trans q) (λ_ q=>q) λ_ _ q=>q;rintro rfl;rcases hc with rfl|hc
  ·rw[hfree]at e;cases e
  ·rw[hfree]at hc;cases hc
 rcases hx with hk|hk
 ·refine wpAny_storeName_local hk hn (λh' hn' hs=>?_) hcls
  obtain⟨oL,_,_,hoL,_⟩:=id hn;refine h _ ⟨I.ok,I.os,I.bare,⟨λb o e n hb hx=>?_,λb o e n hb hx=>?_,I.base.free,λb o e hx=>?_,I.base.tups,I.base.frzs,I.base.tbls⟩,⟨_,hn',λj y v' e1 e2 e3=>?_⟩,λy c e=>?_,I.free,I.freeC,λp hp=>?_,tracked ⟨oL,hoL,I.free⟩ hs,by simpa using I.len⟩ ⟨_,hs,.inl rfl⟩
  ·exact(hs.2 b<|Way<|Wbf (Wap e) I.ok.above).trans (I.base.keep b o e n hb hx)
  ·obtain⟨sl,e1⟩:=I.base.slot b o e n hb hx
   exact⟨sl,(hs.2 b<|Way<|Wbf (Wap e) I.ok.above).trans e1⟩
  ·obtain⟨o',e1⟩:=I.base.there b o e hx
   exact⟨o',(hs.2 b<|Way<|Wbf (Wap e) I.ok.above).trans e1⟩
  ·by_cases hj:j=i
   ·subst hj
    rw[hi]at e1;cases e1;rw[Wat hiU]at e2;cases e2;exact⟨u,r,.inl ⟨hk,by simp⟩⟩
   ·rw[Wa0 (Ne.symm hj)]at e2
    obtain⟨u',r',q⟩:=hl j y v' e1 e2 e3;refine⟨u',r',?_⟩;rcases q with ⟨k,e⟩|⟨k,c,e,z⟩
    ·refine .inl ⟨k,?_⟩
     have:y≠x:=λe=>hj<|Zmy hN e1 (e ▸ hi);simp[this,e]
    ·exact .inr ⟨k,c,e,z.sameBut hs<|cne y c e⟩
  ·obtain⟨w',z⟩:=I.cell y c e
   exact⟨w',z.sameBut hs<|cne y c e⟩
  ·obtain⟨e,n,ne,nf,d⟩:=I.pin p hp
   exact⟨(hs.2 p.1 ne).trans e,n,ne,nf,d⟩
 ·have hfn:X.fn x=true:=by
   rcases hf with z|z
   ·exact z
   ·rw[z]at hk;cases hk
  obtain⟨c,hc⟩:=I.ok.has x (.inl hk);obtain⟨w',z⟩:=I.cell x c hc;refine wpAny_storeName_cell I.ok.kind hk hc z λh' hc' hs=>?_;obtain⟨oc,hoc,hocd⟩:=id z;refine h { s with heap:=h' } ⟨I.ok,I.os,I.bare,⟨λb o e n hb hx=>?_,λb o e n hb hx=>?_,I.base.free,λb o e hx=>?_,I.base.tups,I.base.frzs,I.base.tbls⟩,⟨m,hn.sameBut hs<|Ne.symm<|cne x c hc,λj y v' e1 e2 e3=>?_⟩,λy c' e=>?_,I.free,I.freeC,λp hp=>?_,tracked ⟨oc,hoc,I.freeC x c hc⟩ hs,by simpa using I.len⟩ ⟨c,hs,.inr hc⟩
  ·exact(hs.2 b<|Way<|Wbf (Wap e)<|I.ok.cab x c hfn hc).trans (I.base.keep b o e n hb hx)
  ·obtain⟨sl,e1⟩:=I.base.slot b o e n hb hx
   exact⟨sl,(hs.2 b<|Way<|Wbf (Wap e)<|I.ok.cab x c hfn hc).trans e1⟩
  ·obtain⟨o',e1⟩:=I.base.there b o e hx
   exact⟨o',(hs.2 b<|Way<|Wbf (Wap e)<|I.ok.cab x c hfn hc).trans e1⟩
  ·by_cases hj:j=i
   ·subst hj
    rw[hi]at e1;cases e1;rw[Wat hiU]at e2;cases e2;exact⟨u,r,.inr ⟨.inl hk,c,hc,hc'⟩⟩
   ·rw[Wa0 (Ne.symm hj)]at e2
    obtain⟨u',r',q⟩:=hl j y v' e1 e2 e3;refine⟨u',r',?_⟩;rcases q with q|⟨k,c',e,z'⟩
    ·exact .inl q
    ·refine .inr ⟨k,c',e,z'.sameBut hs ?_⟩
     rintro rfl;exact hj<|Zmy hN e1 (I.ok.inj _ _ _ e hc ▸ hi)
  ·by_cases hcc:c'=c
   ·subst hcc;exact⟨_,hc'⟩
   ·obtain⟨w2,z2⟩:=I.cell y c' e
    exact⟨w2,z2.sameBut hs hcc⟩
  ·obtain⟨e,n,ne,nf,d⟩:=I.pin p hp
   refine⟨(hs.2 p.1 ?_).trans e,n,ne,nf,d⟩;intro q;rw[q,hoc]at e;have q':oc=p.2:=Wbs.inj e;exact d w' (by rw[<- q'];exact hocd)
theorem Zfz {M:Model}{A:Around}{E:Value->Shared->Prop}{i:Nat}{x:Str}{v:V}{u:Value}{Q:Unit->Shared->Prop}(I:Inv X pins U H s) (hN:X.N.Nodup) (hi:X.N[i]?=some x) (hx:Loc X.env.scope x) (r:RelV v u)
  (h:∀s',Inv X pins (U.set i<|some v) H s' -> Q () s') (hf:X.fn x=true\/X.env.scope.names.lookup x=some .local:=by first|exact .inl rfl|exact .inr rfl|assumption):wpAny M A (storeName X.env x u) Q E s:=
 Zgv I hN hi hx r (λs' I' _=>h s' I') hf
theorem Inv.call' {s':Shared}{ch:List Addr}(I:Inv X pins U H s) (ho:s'.os=s.os) (u:Un (frs X.stack) ch H H' s.heap s'.heap) (hok:HOk X.prog X.w H' s'.heap) (hg:AllBare s'.gens)
  (hch:∀b∈ch,(b∈X.ex\/X.s₀.heap.objs.size<=b)/\b≠X.env.locals/\(∀x c,X.env.cells.lookup x=some c->c≠b)/\∀p∈X.pn++pins,p.1≠b):Inv X pins U H' s':=by
 obtain⟨h',g',d',t',o'⟩:=s';have e:o'=s.os:=ho;subst e;exact I.call (g':=g') (t':=t') (d':=d') u hok hg hch
end
abbrev XK:=Value->Option Addr->Hp->Prop
abbrev St:=List<|Option V
abbrev VK:=V->Hp->Prop
abbrev TE:=St->Hp->VK->Prop
abbrev TT:=St->Hp->(Bool->Hp->Prop)->Prop
abbrev TA:=St->Hp->(List V->Hp->Prop)->Prop
structure Ends where
 nx:St->Hp->Prop
 rt:VK
 bk:St->Hp->Prop:=λ_ _=>False
 ct:St->Hp->Prop:=λ_ _=>False
abbrev TS:=Ends->St->Hp->Prop
def EP (X:Cx) (pins:List (Addr × Obj)) (U:St) (Q:VK) (u:Value) (s':Shared):Prop:=∃v H',Inv X pins U H' s' /\ RelV v u/\Q v H'
def TP (X:Cx) (pins:List (Addr × Obj)) (U:St) (Q:Bool->Hp->Prop) (b:Bool) (s':Shared):Prop:=∃H',Inv X pins U H' s' /\ Q b H'
def AP (X:Cx) (pins:List (Addr × Obj)) (U:St) (Q:List V->Hp->Prop) (us:List Value) (s':Shared):Prop:=∃vs H',Inv X pins U H' s' /\ Vals vs us/\Q vs H'
def SP (X:Cx) (pins:List (Addr × Obj)) (D:Ends) (f:Flow) (s':Shared):Prop:=
 match f with
 |.next=>∃U' H',Inv X pins U' H' s' /\ D.nx U' H'
 |.brk=>∃U' H',Inv X pins U' H' s' /\ D.bk U' H'
 |.cont=>∃U' H',Inv X pins U' H' s' /\ D.ct U' H'
 |.ret u=>∃v U' H',Inv X pins U' H' s' /\ RelV v u/\D.rt v H'
def PE (X:Cx) (e:Expr) (t:TE):Prop:=
 ∀(pins:List (Addr × Obj)) (s:Shared) (U:St) (H:Hp) (Q:VK),Inv X pins U H s->t U H Q->wpAny (model X.prog X.w) X.A (eval e X.env) (EP X pins U Q) X.xe s
def PT (X:Cx) (e:Expr) (t:TT):Prop:=
 ∀(pins:List (Addr × Obj)) (s:Shared) (U:St) (H:Hp) (Q:Bool->Hp->Prop),Inv X pins U H s->t U H Q->wpAny (model X.prog X.w) X.A (isTrue e X.env<|eval e X.env) (TP X pins U Q) X.xe s
def PW (X:Cx) (e:Expr) (t:TT):Prop:=
 ∀(whole:Sem Value) (pins:List (Addr × Obj)) (s:Shared) (U:St) (H:Hp) (Q:Bool->Hp->Prop),Inv X pins U H s->t U H Q->wpAny (model X.prog X.w) X.A (isTrue e X.env whole) (TP X pins U Q) X.xe s
theorem PW.pt {X:Cx}{e:Expr}{t:TT}(h:PW X e t):PT X e t:=h _
def PA (X:Cx) (es:List Expr) (t:TA):Prop:=
 ∀(pos:Pos) (pins:List (Addr × Obj)) (s:Shared) (U:St) (H:Hp) (Q:List V->Hp->Prop),Inv X pins U H s->t U H Q->wpAny (model X.prog X.w) X.A (spliced<|backTo pos<|starEach es X.env) (AP X pins U Q) X.xe s
def PS (X:Cx) (st:Stmt) (t:TS):Prop:=
 ∀(pins:List (Addr × Obj)) (s:Shared) (U:St) (H:Hp) (D:Ends),Inv X pins U H s->t D U H->wpAny (model X.prog X.w) X.A (exec st X.env) (SP X pins D) X.xe s
def PSs (X:Cx) (st:List Stmt) (t:TS):Prop:=
 ∀(pins:List (Addr × Obj)) (s:Shared) (U:St) (H:Hp) (D:Ends),Inv X pins U H s->t D U H->wpAny (model X.prog X.w) X.A (execs st X.env) (SP X pins D) X.xe s
theorem thn {α:Type}{t:Sem α}{Q Q':α -> Shared->Prop}{M:Model}{A:Around}{E:Value->Shared->Prop}{s:Shared}(h:wpAny M A t Q E s) (hQ:∀a s,Q a s->Q' a s):wpAny M A t Q' E s:=wpAny_mono h hQ λ_ _ x=>x
section
variable {X:Cx}
def tVar (i:Nat):TE:=λU H Q=>∃v,U[i]?=some (some v)/\Q v H
def tC (v:V):TE:=λ_ H Q=>Q v H
theorem Zxz {i:Nat}{x:Str}{pos:Pos}(hN:X.N[i]?=some x) (hv:Vis X.env.scope x) (hd:(x == ("__debug__":Str))=false:=by decide) (hcd:(x == ("__classdict__":Str))=false:=by decide):PE X (.Name x pos) (tVar i):=by
 intro pins s U H Q I h;obtain⟨v,e,h⟩:=h;obtain⟨m,hn,hl⟩:=I.loc;obtain⟨u,r,l⟩:=hl i x v hN e hv;have fin:EP X pins U Q u s:=⟨v,H,I,r,h⟩;rcases l with ⟨hk,hm⟩|⟨hk,c,hc,hcell⟩
 ·exact wpAny_Name (wpAny_loadName_local I.ok.kind hk hn hm fin) hd
 ·rcases hk with hk|hk
  ·exact wpAny_Name (wpAny_loadName_cell I.ok.kind hk hc hcell fin) hd
  ·exact wpAny_Name (wpAny_loadName_free I.ok.kind hk hc hcell fin hcd) hd
theorem Zag {i j pos}:PE X (.Constant (.int i) j pos) (tC (.int i)):=λ_ _ _ H _ I h=>wpAny_Constant_int ⟨.int i,H,I.tok _,⟨_,rfl⟩,h⟩
theorem Zxa {b j pos}:PE X (.Constant (.bool b) j pos) (tC (.bl b)):=λ_ _ _ H _ I h=>Constant_bool ⟨.bl b,H,I,rfl,h⟩
theorem Zm0 {x j pos}:PE X (.Constant (.str x) j pos) (tC (.str x)):=λ_ _ _ H _ I h=>Calls.Constant_str ⟨.str x,H,I.tok _,⟨_,rfl⟩,h⟩
def Gl (X:Cx) (x:Str):Prop:=X.env.kindOf x=some .globalImplicit
theorem Zwb {E:Value->Shared->Prop}{pins:List (Addr × Obj)}{s:Shared}{U:St}{H:Hp}{x:Str}{u:Value}{pos:Pos}{Q:Value->Shared->Prop}(I:Inv X pins U H s) (hg:Gl X x) (hm:X.mg x=some u) (h:Q u s)
  (hd:(x == ("__debug__":Str))=false:=by decide):wpAny (model X.prog X.w) X.A (eval (.Name x pos) X.env) Q E s:=
 Calls.Name_function_global I.ok.kind hg (Calls.loadGlobal_global (by rw[I.ok.glob];exact I.mod.glob.keeps I.bk) hm h) hd
theorem Zd2 {E:Value->Shared->Prop}{pins:List (Addr × Obj)}{s:Shared}{U:St}{H:Hp}{x:Str}{u:Value}{pos:Pos}{Q:Value->Shared->Prop}(I:Inv X pins U H s) (hg:Gl X x) (hm:X.mg x=none) (hv:bootBuiltins x=some u) (h:Q u s)
  (hn:x ≠ "__name__":=by decide) (hd:(x == ("__debug__":Str))=false:=by decide):wpAny (model X.prog X.w) X.A (eval (.Name x pos) X.env) Q E s:=by
 obtain⟨mb,h1,h2⟩:=I.mod.blt;exact Calls.Name_function_global I.ok.kind hg (Calls.loadGlobal_builtin (by rw[I.ok.glob];exact I.mod.glob.keeps I.bk) hm (by rw[I.ok.blt];exact h1.keeps I.bk) ((h2 x hn).trans hv) h) hd
theorem Zrn {x:Str}{v:V}{u:Value}{pos:Pos}(hg:Gl X x) (hm:X.mg x=none) (hv:bootBuiltins x=some u) (r:RelV v u) (hn:x ≠ "__name__":=by decide) (hd:(x == ("__debug__":Str))=false:=by decide):PE X (.Name x pos) (tC v):=
 λ_ _ _ H _ I h=>Zd2 I hg hm hv ⟨v,H,I,r,h⟩ hn hd
variable {a b:Expr}{ta tb:TE}{pos:Pos}
variable {tA tB':TT}{rest:List Expr}
def tAnd (t u:TT):TT:=λU H Q=>t U H λc H1=>if c=true then u U H1 Q else Q false H1
def tOr (t u:TT):TT:=λU H Q=>t U H λc H1=>if c=true then Q true H1 else u U H1 Q
def tNot (t:TT):TT:=λU H Q=>t U H λc H1=>Q (!c) H1
theorem pw_and1 (ha:PT X a tA):PW X (.BoolOp .And [a] pos) tA:=by
 intro wh pins s U H Q I h;refine isTrue_and (thn (ha pins s U H Q I h) λc s1 e=>?_);cases c with
 |true=>exact isTrue_and_nil e
 |false=>exact e
theorem pw_or1 (ha:PT X a tA):PW X (.BoolOp .Or [a] pos) tA:=by
 intro wh pins s U H Q I h;refine isTrue_or (thn (ha pins s U H Q I h) λc s1 e=>?_);cases c with
 |false=>exact isTrue_or_nil e
 |true=>exact e
theorem pw_and (ha:PT X a tA) (hb:PW X (.BoolOp .And (b::rest) pos) tB'):PW X (.BoolOp .And (a::b::rest) pos) (tAnd tA tB'):=by
 intro wh pins s U H Q I h;refine isTrue_and (thn (ha pins s U H _ I h) λc s1 ⟨H1,I1,q1⟩=>?_);cases c with
 |true=>exact hb wh pins s1 U H1 Q I1 q1
 |false=>exact⟨H1,I1,q1⟩
theorem pw_or (ha:PT X a tA) (hb:PW X (.BoolOp .Or (b::rest) pos) tB'):PW X (.BoolOp .Or (a::b::rest) pos) (tOr tA tB'):=by
 intro wh pins s U H Q I h;refine isTrue_or (thn (ha pins s U H _ I h) λc s1 ⟨H1,I1,q1⟩=>?_);cases c with
 |true=>exact⟨H1,I1,q1⟩
 |false=>exact hb wh pins s1 U H1 Q I1 q1
theorem Zh6 (ha:PT X a tA):PT X (.UnaryOp .Not a pos) (tNot tA):=by
 intro pins s U H Q I h;exact isTrue_not<|ha pins s U H (λc H1=>Q (!c) H1) I h
def tAndV (ta tb:TE):TE:=λU H Q=>ta U H λx H1=>∃c,x=.bl c/\if c=true then tb U H1 Q else Q (.bl false) H1
def tOrV (ta tb:TE):TE:=λU H Q=>ta U H λx H1=>∃c,x=.bl c/\if c=true then Q (.bl true) H1 else tb U H1 Q
def tNotV (ta:TE):TE:=λU H Q=>ta U H λx H1=>∃c,x=.bl c/\Q (.bl (!c)) H1
theorem Zuj {op} {t:TE}(h:PE X a t):PE X (.BoolOp op [a] pos) t:=λpins s U H Q I hw=>BoolOp_one<|h pins s U H Q I hw
theorem Zuk (ha:PE X a ta) (hb:PE X (.BoolOp .And (b::rest) pos) tb):PE X (.BoolOp .And (a::b::rest) pos) (tAndV ta tb):=by
 intro pins s U H Q I h;refine BoolOp_and (thn (ha pins s U H _ I h) λv s1 ⟨x,H1,I1,r1,q1⟩=>?_);obtain⟨c,rfl,q1⟩:=q1;cases r1;refine wpAny_truthy_bool ?_;cases c with
 |true=>exact hb pins s1 U H1 Q I1 q1
 |false=>exact⟨.bl false,H1,I1,rfl,q1⟩
theorem Zyc (ha:PE X a ta):PE X (.UnaryOp .Not a pos) (tNotV ta):=by
 intro pins s U H Q I h;refine UnaryOp_ (thn (ha pins s U H _ I h) λv s1 ⟨x,H1,I1,r1,q1⟩=>?_);obtain⟨c,rfl,q1⟩:=q1;cases r1;exact not_of<|wpAny_truthy_bool ⟨.bl (!c),H1,I1,rfl,q1⟩
def tIf (t:TT) (ta tb:TE):TE:=λU H Q=>t U H λc H1=>if c=true then ta U H1 Q else tb U H1 Q
theorem Zi0 {c:Expr}(hc:PT X c tA) (ha:PE X a ta) (hb:PE X b tb):PE X (.IfExp c a b pos) (tIf tA ta tb):=by
 intro pins s U H Q I h;refine wpAny_IfExp (thn (hc pins s U H _ I h) λd s1 ⟨H1,I1,q1⟩=>?_);cases d with
 |true=>exact ha pins s1 U H1 Q I1 q1
 |false=>exact hb pins s1 U H1 Q I1 q1
end
def SqL (K:W.Frag) (H:Hp) (a:Addr) (xs:List V):Prop:=
 Rd H a (.lst xs) \/
  ∃(o:Obj) (its:Array Value) (n:Nat),K.lookup a=some o/\o.cls=.type "list" /\ o.dict=none/\o.data=.seq its n/\its.size<=sizeLine/\Vals xs its.toList
def SqT (K:W.Frag) (H:Hp) (a:Addr) (xs:List V):Prop:=
 Rd H a (.tup xs) \/
  ∃(o:Obj) (its:Array Value) (n:Nat),K.lookup a=some o/\o.cls=.type "tuple" /\ o.data=.seq its n/\its.size<=sizeLine/\Vals xs its.toList
def absV:Value->Option V
 |.none=>some .non
 |.bool b=>some (.bl b)
 |.int i _=>some (.int i)
 |.str x _=>some (.str x)
 |.bytes b _=>some (.byt b)
 |.float b _=>some (.flt b)
 |.ref a=>some (.ref a)
 |.type n=>some (.ty n)
 |_=>none
theorem RelV.abs {x:V}{u:Value}(r:RelV x u):absV u=some x:=by
 cases x with
 |non=>cases r;rfl
 |bl _=>cases r;rfl
 |int _=>obtain⟨t,rfl⟩:=r;rfl
 |str _=>obtain⟨t,rfl⟩:=r;rfl
 |byt _=>obtain⟨t,rfl⟩:=r;rfl
 |flt _=>obtain⟨t,rfl⟩:=r;rfl
 |ref _=>cases r;rfl
 |ty _=>cases r;rfl
theorem RelV.inj {x y:V}{u:Value}(r:RelV x u) (q:RelV y u):x=y:=Wbs.inj<|r.abs.symm.trans q.abs
theorem Vals.inj:∀{xs ys:List V}{us:List Value},Vals xs us->Vals ys us->xs=ys
 |_,_,_,.nil,.nil=>rfl
 |_,_,_,.cons r t,.cons r' t'=>by rw[r.inj r',Vals.inj t t']
section
variable {X:Cx}{pins:List (Addr × Obj)}{U:St}{H:Hp}{s:Shared}{a:Addr}{xs ys:List V}
theorem SqL.of {K:W.Frag}(h:H a=some (.lst xs)):SqL K H a xs:=.inl (.inl h)
theorem SqT.of {K:W.Frag}(h:H a=some (.tup xs)):SqT K H a xs:=.inl (.inl h)
theorem Inv.list (I:Inv X pins U H s) (h:SqL X.K H a xs):∃its:List Value,Vals xs its/\PlainL s.heap a its.toArray/\xs.length<=sizeLine:=by
 rcases h with h|⟨o,its,n,hk,hc,hd,hs,hz,r⟩
 ·obtain⟨z,its,n,r,e⟩:=h.ok I.hok
  exact⟨its,r,⟨_,n,e,rfl,rfl,rfl⟩,z⟩
 ·refine⟨its.toList,r,⟨o,n,I.kIn a o hk,hc,hd,by simpa using hs⟩,?_⟩
  have e:=r.length;simp only[Array.length_toList]at e;omega
theorem Inv.tuple (I:Inv X pins U H s) (h:SqT X.K H a xs):∃its:List Value,Vals xs its/\IsTup s.heap a its.toArray/\xs.length<=sizeLine:=by
 rcases h with h|⟨o,its,n,hk,hc,hs,hz,r⟩
 ·obtain⟨z,its,r,p⟩:=h.ok I.hok
  exact⟨its,r,p.tup,z⟩
 ·refine⟨its.toList,r,⟨o,I.kIn a o hk,hc,n,by simpa using hs⟩,?_⟩
  have e:=r.length;simp only[Array.length_toList]at e;omega
theorem Inv.list_inj (I:Inv X pins U H s) (h:SqL X.K H a xs) (h':SqL X.K H a ys):xs=ys:=by
 obtain⟨its,r,⟨o,n,e,_,_,d⟩,_⟩:=I.list h;obtain⟨its',r',⟨o',n',e',_,_,d'⟩,_⟩:=I.list h';rw[e]at e';cases e';rw[d]at d';injection d' with d1 _
 have:its=its':=by simpa using congrArg Array.toList d1
 subst this;exact r.inj r'
theorem Inv.tuple_inj (I:Inv X pins U H s) (h:SqT X.K H a xs) (h':SqT X.K H a ys):xs=ys:=by
 obtain⟨its,r,⟨o,e,_,n,d⟩,_⟩:=I.tuple h;obtain⟨its',r',⟨o',e',_,n',d'⟩,_⟩:=I.tuple h';rw[e]at e';cases e';rw[d]at d';injection d' with d1 _
 have:its=its':=by simpa using congrArg Array.toList d1
 subst this;exact r.inj r'
end
abbrev Cx.wish (X:Cx) (E:Value->Shared->Prop):Cx:={ X with xe:=E }
abbrev Cx.nox (X:Cx):Cx:=X.wish λ_ _=>False
theorem Cx.Ok.wish {X:Cx}(ok:X.Ok) (E:Value->Shared->Prop):(X.wish E).Ok:=
 ⟨ok.mod,ok.kind,ok.glob,ok.blt,ok.above,ok.inj,ok.has,ok.cab,ok.hd,ok.frames,ok.stk,ok.exf,ok.bs,ok.bsz,ok.noex,ok.exfs,ok.funs,ok.frf⟩
theorem Cx.Ok.unwish {X:Cx}{E:Value->Shared->Prop}(ok:(X.wish E).Ok):X.Ok:=
 ⟨ok.mod,ok.kind,ok.glob,ok.blt,ok.above,ok.inj,ok.has,ok.cab,ok.hd,ok.frames,ok.stk,ok.exf,ok.bs,ok.bsz,ok.noex,ok.exfs,ok.funs,ok.frf⟩
section
variable {X:Cx}{pins:List (Addr × Obj)}{U:St}{H:Hp}{s:Shared}{E:Value->Shared->Prop}
theorem Inv.wish (I:Inv X pins U H s) (E:Value->Shared->Prop):Inv (X.wish E) pins U H s:=⟨I.ok.wish E,I.os,I.bare,I.base,I.loc,I.cell,I.free,I.freeC,I.pin,I.hok,I.len⟩
theorem Inv.unwish (I:Inv (X.wish E) pins U H s):Inv X pins U H s:=⟨I.ok.unwish,I.os,I.bare,I.base,I.loc,I.cell,I.free,I.freeC,I.pin,I.hok,I.len⟩
theorem SP.unwish {D:Ends}{f:Flow}{s':Shared}(h:SP (X.wish E) pins D f s'):SP X pins D f s':=by
 cases f with
 |next=>obtain⟨U',H',I,q⟩:=h;exact⟨U',H',I.unwish,q⟩
 |brk=>obtain⟨U',H',I,q⟩:=h;exact⟨U',H',I.unwish,q⟩
 |cont=>obtain⟨U',H',I,q⟩:=h;exact⟨U',H',I.unwish,q⟩
 |ret u=>obtain⟨v,U',H',I,r,q⟩:=h;exact⟨v,U',H',I.unwish,r,q⟩
theorem PSs.nox {st:List Stmt}{t:TS}(h:PSs X.nox st t):PSs X st t:=λpins s U H D I hw=>
 wpAny_mono (h pins s U H D (I.wish _) hw) (λ_ _ q=>q.unwish) λ_ _ z=>False.elim z
end
section
variable {X:Cx}{st:Stmt}{rest:List Stmt}{t u:TS}{e:Expr}{te:TE}{pos:Pos}
def tNext:TS:=λD U H=>D.nx U H
def tSeq (t u:TS):TS:=λD U H=>t { D with nx:=u D } U H
theorem Zbe:PSs X [] tNext:=λ_ _ U H _ I h=>wpAny_execs_nil ⟨U,H,I,h⟩
theorem Zad (h1:PS X st t) (h2:PSs X rest u):PSs X (st::rest) (tSeq t u):=by
 intro pins s U H D I h;refine wpAny_execs_cons (thn (h1 pins s U H { D with nx:=u D } I h) λf s1 q=>?_);cases f with
 |next=>
  obtain⟨U',H',I',q⟩:=q;exact h2 pins s1 U' H' D I' q
 |ret v=>exact q
 |brk=>exact q
 |cont=>exact q
theorem Zah (h1:PS X st t):PSs X [st] t:=by
 intro pins s U H D I h;refine wpAny_execs_cons (thn (h1 pins s U H D I h) λf s1 q=>?_);cases f with
 |next=>exact wpAny_execs_nil q
 |ret v=>exact q
 |brk=>exact q
 |cont=>exact q
theorem Inv.quiet {pins:List (Addr × Obj)}{U:St}{H:Hp}{s:Shared}(I:Inv X pins U H s):interactive X.env=false:=by simp[interactive,I.ok.kind]
def tDrop (te:TE):TS:=λD U H=>te U H λ_ H1=>D.nx U H1
theorem Zcz (he:PE X e te) (hs:swapsWith e none pos.line X.env=pure false:=by rfl):PS X (.Expr e pos) (tDrop te):=by
 intro pins s U H D I h;exact wpAny_Expr_any (thn (he pins s U H _ I h) λv s1 ⟨x,H1,I1,r1,q1⟩=>⟨U,H1,I1,q1⟩) I.quiet hs
def tRet (te:TE):TS:=λD U H=>te U H D.rt
theorem Za1 (he:PE X e te):PS X (.Return (some e) pos) (tRet te):=by
 intro pins s U H D I h;exact wpAny_Return_some (thn (he pins s U H _ I h) λv s1 ⟨x,H1,I1,r1,q1⟩=>⟨x,U,H1,I1,r1,q1⟩)
def tIfS (c:TT) (t u:TS):TS:=λD U H=>c U H λb H1=>if b=true then t D U H1 else u D U H1
theorem Zc0 {c:Expr}{a b:List Stmt}{tc:TT}(hc:PT X c tc) (ha:PSs X a t) (hb:PSs X b u):PS X (.If c a b pos) (tIfS tc t u):=by
 intro pins s U H D I h;refine wpAny_If (thn (hc pins s U H _ I h) λd s1 ⟨H1,I1,q1⟩=>?_);cases d with
 |true=>exact ha pins s1 U H1 D I1 q1
 |false=>exact hb pins s1 U H1 D I1 q1
end
abbrev TG:=V->St->Hp->(St->Hp->Prop)->Prop
abbrev TGs:=List V->St->Hp->(St->Hp->Prop)->Prop
def PG (X:Cx) (target:Expr) (t:TG):Prop:=
 ∀(pins:List (Addr × Obj)) (s:Shared) (U:St) (H:Hp) (v:V) (u:Value) (Q:St->Hp->Prop),Inv X pins U H s->RelV v u->t v U H Q ->
  wpAny (model X.prog X.w) X.A (assign target X.env u) (λ_ s'=>∃U' H',Inv X pins U' H' s' /\ Q U' H') X.xe s
def PGs (X:Cx) (ts:List Expr) (t:TGs):Prop:=
 ∀(pins:List (Addr × Obj)) (s:Shared) (U:St) (H:Hp) (vs:List V) (us:List Value) (Q:St->Hp->Prop),Inv X pins U H s->Vals vs us->t vs U H Q ->
  wpAny (model X.prog X.w) X.A (assignInOrder ((assignEach ts X.env).map (·.2)) us) (λ_ s'=>∃U' H',Inv X pins U' H' s' /\ Q U' H') X.xe s
abbrev TSet:=V->V->V->Hp->(Hp->Prop)->Prop
def PSet (X:Cx) (t:TSet):Prop:=
 ∀(pins:List (Addr × Obj)) (s:Shared) (U:St) (H:Hp) (o i v:V) (ov iv u:Value) (Q:Hp->Prop),Inv X pins U H s->RelV o ov->RelV i iv->RelV v u->t o i v H Q ->
  wpAny (model X.prog X.w) X.A (setItem ov iv u) (λ_ s'=>∃H',Inv X pins U H' s' /\ Q H') X.xe s
section
variable {X:Cx}{pos:Pos}
def gName (i:Nat):TG:=λv U H Q=>Q (U.set i<|some v) H
theorem Zap {i:Nat}{x:Str}(hN:X.N.Nodup) (hi:X.N[i]?=some x) (hx:Loc X.env.scope x) (hf:X.fn x=true\/X.env.scope.names.lookup x=some .local:=by first|exact .inl rfl|exact .inr rfl|assumption):PG X (.Name x pos) (gName i):=by
 intro pins s U H v u Q I r h;exact wpAny_assign_Name<|Zfz I hN hi hx r (λs' I'=>⟨_,H,I',h⟩) hf
def gNil:TGs:=λvs U H Q=>vs=[]/\Q U H
def gCons (t:TG) (u:TGs):TGs:=λvs U H Q=>∃v r,vs=v::r/\t v U H λU' H'=>u r U' H' Q
theorem Zco:PGs X [] gNil:=by
 intro pins s U H vs us Q I r h;obtain⟨e,h⟩:=h;subst e;cases r;exact assignInOrder_nil ⟨U,H,I,h⟩
theorem Za2 {e:Expr}{es:List Expr}{t:TG}{u:TGs}(h1:PG X e t) (h2:PGs X es u)
  (hs:(assignEach (e::es) X.env).map (·.2)=assign e X.env::(assignEach es X.env).map (·.2):=by rfl):PGs X (e::es) (gCons t u):=by
 intro pins s U H vs us Q I r h;obtain⟨v,vr,e1,h⟩:=h;subst e1;cases r with
 |cons r rr=>
  rw[hs];refine assignInOrder_cons (thn (h1 pins s U H _ _ _ I r h) λ_ s1 ⟨U1,H1,I1,q1⟩=>?_);exact h2 pins s1 U1 H1 _ _ Q I1 rr q1
def gTup (K:W.Frag) (n:Nat) (t:TGs):TG:=λv U H Q=>∃a xs,v=.ref a/\SqT K H a xs/\xs.length=n/\t xs U H Q
theorem Zyj {es:List Expr}{k:Nat}{t:TGs}{n:Nat}(hc:X.calm=true) (h:PGs X es t)
  (hn:(assignEach es X.env).length=n:=by rfl) (hst:(assignEach es X.env).findIdx? (·.1)=none:=by rfl):PG X (.Tuple es k pos) (gTup X.K n t):=by
 intro pins s U H v u Q I r hw;obtain⟨a,xs,e1,hq,hl,hw⟩:=hw;subst e1;cases r;obtain⟨its,rv,ht,hz⟩:=I.tuple hq;refine assign_Tuple_tuple (I.ok.hd hc) ht (by simp[hn,<- hl,rv.length]) hst λh' hx=>?_;have I1:Inv X pins U H { s with heap:=h' }:=I.kept (t':=s.toks) λb o e=>hx b o (Way<|Wap e) e;exact h pins _ U H xs _ Q I1 (by simpa using rv) hw
def gSub (to ti:TE) (t:TSet):TG:=λv U H Q=>to U H λo H1=>ti U H1 λi H2=>t o i v H2 λH3=>Q U H3
theorem Zj5 {o i:Expr}{to ti:TE}{t:TSet}(ho:PE X o to) (hi:PE X i ti) (hs:PSet X t)
  (ha:∀v,assign (.Subscript o i pos) X.env v=(do
   let ov <- holding [v] (eval o X.env)
   let iv <- holding [v,ov] (eval i X.env)
   standAt pos
   holding [v,ov,iv] (setItem ov iv v)
   release [v,ov,iv] []):=by intro _;rfl):PG X (.Subscript o i pos) (gSub to ti t):=by
 intro pins s U H v u Q I r h;rw[ha];refine wpAny_bind<|wpAny_holding (thn (ho pins s U H _ I h) λov s1 ⟨x,H1,I1,r1,q1⟩=>?_);refine wpAny_bind<|wpAny_holding (thn (hi pins s1 U H1 _ I1 q1) λiv s2 ⟨y,H2,I2,r2,q2⟩=>?_);refine wpAny_bind<|wpAny_standAt<|wpAny_bind<|wpAny_holding (thn (hs pins s2 U H2 x y v ov iv u _ I2 r1 r2 r q2) λ_ s3 ⟨H3,I3,q3⟩=>?_);exact wpAny_release ⟨U,H3,I3,q3⟩
def tAsg (te:TE) (g:TG):TS:=λD U H=>te U H λx H1=>g x U H1 D.nx
theorem Ze4 {tg e:Expr}{te:TE}{g:TG}(he:PE X e te) (hg:PG X tg g) (hs:swapsWithSole [tg] e pos.line X.env=pure false:=by rfl) (hw:swappedStores [tg] e X.env=pure none:=by rfl)
  (h1:(assignEach [tg] X.env).map (·.2)=[assign tg X.env]:=by rfl):PS X (.Assign [tg] e pos) (tAsg te g):=by
 intro pins s U H D I h;refine wpAny_Assign_stores (thn (he pins s U H _ I h) λv s1 ⟨x,H1,I1,r1,q1⟩=>?_) hs hw;rw[h1];exact thn (hg pins s1 U H1 x v _ I1 r1 q1) λ_ s2 q=>q
theorem Zaq {i:Nat}{x:Str}{e:Expr}{te:TE}{pos':Pos}(hN:X.N.Nodup) (hi:X.N[i]?=some x) (hx:Loc X.env.scope x) (he:PE X e te) (hs:swapsWith e (some (.Name x pos')) pos.line X.env=pure false:=by rfl) (hf:X.fn x=true\/X.env.scope.names.lookup x=some .local:=by first|exact .inl rfl|exact .inr rfl|assumption) :
  PS X (.Assign [.Name x pos'] e pos) (tAsg te<|gName i):=by
 intro pins s U H D I h;refine wpAny_Assign_Name (thn (he pins s U H _ I h) λv s1 ⟨y,H1,I1,r1,q1⟩=>?_) hs;exact Zfz I1 hN hi hx r1 (λs2 I2=>⟨_,H1,I2,q1⟩) hf
def tPar (i j:Nat) (ta:TA):TS:=λD U H=>ta U H λvs H1=>∃v w,vs=[v,w]/\D.nx ((U.set i<|some v).set j (some w)) H1
theorem Zun {i j:Nat}{x y:Str}{a b:Expr}{ta:TA}{px py pt:Pos}{kt k2 pt2} (hc:X.calm=true) (hN:X.N.Nodup) (hi:X.N[i]?=some x) (hj:X.N[j]?=some y) (hij:i≠j)
  (hx:X.env.scope.names.lookup x=some .local) (hy:X.env.scope.names.lookup y=some .local) (ha:PA X [a,b] ta)
  (hw:swappedStores [.Tuple [.Name x px,.Name y py] kt pt] (.Tuple [a,b] k2 pt2) X.env=pure (some [x,y]))
  (hs:swapsWithSole [.Tuple [.Name x px,.Name y py] kt pt] (.Tuple [a,b] k2 pt2) pos.line X.env=pure false:=by rfl) :
  PS X (.Assign [.Tuple [.Name x px,.Name y py] kt pt] (.Tuple [a,b] k2 pt2) pos) (tPar i j ta):=by
 intro pins s U H D I h;rw[exec_Assign_arm];refine wpAny_bind<|wpAny_standAt ?_;rw[hs];refine wpAny_bind<|wpAny_pure ?_;rw[if_neg (by decide)];refine wpAny_bind<|Tuple_ (thn (ha _ pins s U H _ I h) λus s1 ⟨vs,H1,I1,r1,q1⟩=>?_);obtain⟨v,w,e1,q1⟩:=q1;subst e1;obtain⟨u1,u2,rfl,rv,rw'⟩:∃u1 u2,us=[u1,u2]/\RelV v u1/\RelV w u2:=by
  cases r1 with
  |cons p q=>
   cases q with
   |cons p' q'=>
    cases q';exact⟨_,_,rfl,p,p'⟩
 refine wpAny_newObj_type ?_ (by show 2<=sizeLine;decide);have I2:Inv X pins U H1 { s1 with heap:=s1.heap.push { cls:=.type "tuple",data:=.seq [u1,u2].toArray } }:=I1.kept (t':=s1.toks) λb o e=>Wad _ e;rw[hw];refine wpAny_bind<|wpAny_pure ?_;show wpAny (model X.prog X.w) X.A (do rule "assign.swapped-stores";let items <- unpackItems (.ref s1.heap.objs.size) 2 none;assignInOrder [λv=>bindName X.env y v,λv=>bindName X.env x v] items.reverse;pure Flow.next) _ _ _;refine wpAny_bind<|wpAny_rule<|wpAny_bind (unpackItems_tuple (items:=#[u1,u2]) (I.ok.hd hc) (IsTup.new s1.heap _) λh' hx'=>?_);have I3:=I2.kept (h':=h') (t':=s1.toks) λb o e=>hx' b o (Way<|Wap e) e;show wpAny _ _ (assignInOrder [λv=>bindName X.env y v,λv=>bindName X.env x v] [u2,u1] >>= λ_=>pure Flow.next) _ _ _;refine wpAny_bind<|assignInOrder_cons<|wpAny_bindName<|Zfz I3 hN hj (.inl hy) rw' (λs2 I4=>?_) (.inr hy);refine assignInOrder_cons<|wpAny_bindName<|Zfz I4 hN hi (.inl hx) rv (λs3 I5=>assignInOrder_nil<|wpAny_pure ?_) (.inr hx);rw[List.set_comm _ _ (Ne.symm hij)]at I5;exact⟨_,H1,I5,q1⟩
def tWhile (c:TT) (tb:TS):TS:=λD U H=>∃W:Nat->St->Hp->Prop,(∃m,W m U H)/\∀m U H,W m U H ->
 c U H λb H1=>if b=true then ∃N:St->Hp->Prop,(∀U' H',N U' H' -> ∃m',m'<m/\W m' U' H')/\tb { D with nx:=N,ct:=N,bk:=D.nx } U H1 else D.nx U H1
theorem Zf6 {c:Expr}{body:List Stmt}{tc:TT}{tb:TS}(hp:PassesOwn (model X.prog X.w) X.A X.env X.xe) (hc:PT X c tc) (hb:PSs X body tb):PS X (.While c body [] pos) (tWhile tc tb):=by
 intro pins s U H D I h;obtain⟨W,⟨m0,w0⟩,turn⟩:=h;refine wpAny_While<|codeAny_whileLoop (λn s'=>∃U' H',Inv X pins U' H' s' /\ W n U' H') ?_ m0 ⟨U,H,I,w0⟩;rintro n s1 ⟨U1,H1,I1,w1⟩;refine wpAny_passesOwn hp (thn (hc pins s1 U1 H1 _ I1<|turn n U1 H1 w1) λb s2 ⟨H2,I2,q2⟩=>?_);cases b with
 |true=>
  obtain⟨N,hN,q2⟩:=q2;rw[if_pos rfl];refine wpAny_passesOwn hp (thn (hb pins s2 U1 H2 _ I2 q2) λf s3 q3=>?_);cases f with
  |next=>
   obtain⟨U3,H3,I3,n3⟩:=q3;obtain⟨m',hm,w3⟩:=hN U3 H3 n3;exact⟨m',hm,U3,H3,I3,w3⟩
  |cont=>
   obtain⟨U3,H3,I3,n3⟩:=q3;obtain⟨m',hm,w3⟩:=hN U3 H3 n3;exact⟨m',hm,U3,H3,I3,w3⟩
  |brk=>exact q3
  |ret v=>exact q3
 |false=>
  rw[if_neg Wal];exact wpAny_execs_nil ⟨U1,H2,I2,q2⟩
end
structure It where
 go:Nat->Hp->Prop
 yld:Nat->Hp->V->Hp->Prop
 stop:Nat->Hp->Prop
def FpOk (X:Cx) (pins:List (Addr × Obj)) (H:Hp) (b:Addr):Prop:=
 H b=none/\b≠X.env.locals/\b ∉ X.fs/\(b∈X.ex\/X.s₀.heap.objs.size<=b)/\(∀x c,X.env.cells.lookup x=some c->c≠b)/\∀p∈X.pn++pins,p.1≠b
theorem Inv.fpOk {X:Cx}{pins:List (Addr × Obj)}{U:St}{H H':Hp}{s:Shared}{b:Addr}(I:Inv X pins U H s) (hb:s.heap.objs.size<=b) (hn:H' b=none):FpOk X pins H' b:=by
 refine⟨hn,Wc6<|Wbf I.lt hb,I.nofs hb,.inr<|Wbx I.sz hb,λx c e z=>?_,λp hp z=>?_⟩
 ·obtain⟨v,q⟩:=I.cell x c e
  exact absurd (Wbf q.lt (by rw[z];exact hb))<|Wch _
 ·exact absurd (Wbf (Wap (I.pin p hp).1) (by rw[z];exact hb))<|Wch _
structure TurnG (Cm:Cx->Prop) (P:Program) (w:World) (K:W.Frag) (tg:Expr) (J:It) (fp:List Addr) (it:Addr) (tn:Nat->Heap->Prop):Prop where
 mem:it∈fp
 obj:∀i h,tn i h->∀b∈fp,∃o,h.get? b=some o/\∀v,o.data≠.cell v
 keep:∀i h h',tn i h->(∀b∈fp,∀o,h.get? b=some o->h'.get? b=some o)->tn i h'
 item:∀(X:Cx),X.prog=P->X.w=w->X.K=K->Cm X->∀(i:Nat) (pins:List (Addr × Obj)) (s:Shared) (U:St) (H:Hp) (E:Value->Shared->Prop),Inv X pins U H s->(∀b∈fp,FpOk X pins H b)->tn i s.heap->J.go i H ->
  wpAny (model P w) X.A (pyNext (.ref it)) (λr s1=>∃u,r=some u /\
   wpAny (model P w) X.A (letOwnedTupleGo tg (.ref it) u) (λ_ s2=>∃x H',Inv X pins U H' s2/\RelV x u/\J.yld i H x H' /\ tn (i+1) s2.heap/\∀b∈fp,H' b=none) E s1) E s
 done:∀(X:Cx),X.prog=P->X.w=w->X.K=K->Cm X->∀(i:Nat) (pins:List (Addr × Obj)) (s:Shared) (U:St) (H:Hp) (E:Value->Shared->Prop),Inv X pins U H s->(∀b∈fp,FpOk X pins H b)->tn i s.heap->J.stop i H ->
  wpAny (model P w) X.A (pyNext (.ref it)) (λr s1=>r=none/\Inv X pins U H s1) E s
 self:∀(A:Around) (i:Nat) (s:Shared) (Q:Value->Shared->Prop) (E:Value->Shared->Prop),tn i s.heap->Q (.ref it) s->wpAny (model P w) A (pyIter (.ref it)) Q E s
abbrev Turn:=TurnG λX=>X.calm=true
abbrev TI:=St->Hp->(It->Hp->Prop)->Prop
def PIEG (Cm:Cx->Prop) (X:Cx) (pins:List (Addr × Obj)) (U:St) (tg:Expr) (R:It->Hp->Prop) (itv:Value) (s2:Shared):Prop:=
 ∃(it:Addr) (fp:List Addr) (tn:Nat->Heap->Prop) (J:It) (H':Hp),itv=.ref it/\Inv X pins U H' s2/\TurnG Cm X.prog X.w X.K tg J fp it tn/\tn 0 s2.heap/\(∀b∈fp,FpOk X pins H' b)/\R J H'
def PIG (Cm:Cx->Prop) (X:Cx) (tg iter:Expr) (wi:TI):Prop:=
 ∀(pins:List (Addr × Obj)) (s:Shared) (U:St) (H:Hp) (R:It->Hp->Prop),Inv X pins U H s->wi U H R ->
  wpAny (model X.prog X.w) X.A (eval iter X.env) (λv s1=>wpAny (model X.prog X.w) X.A (pyIter v) (PIEG Cm X pins U tg R) X.xe s1) X.xe s
abbrev PIE:=PIEG λX=>X.calm=true
abbrev PI:=PIG λX=>X.calm=true
theorem Zvd {M:Model}{A:Around}{E:Value->Shared->Prop}{s:Shared}{tg:Expr}{it:Addr}{u:Value}{o:Obj}{n:String}{vs:Array Value}{Q:Unit->Shared->Prop}(ho:s.heap.get? it=some o) (hc:o.cls=.type n) (hd:o.data=.fields vs)
  (hn:["enumerate","zip","dict_itemiterator","dict_reverseitemiterator","odict_iterator","itertools.zip_longest","itertools.pairwise"].contains n=false) (hQ:Q () s):wpAny M A (letOwnedTupleGo tg (.ref it) u) Q E s:=by
 unfold letOwnedTupleGo;cases tg <;> first
  |exact wpAny_pure hQ
  | (cases u <;> first
      |exact wpAny_pure hQ
      | (refine wpAny_bind (wpAny_load ho ?_)
         rw[hc,hd];show wpAny M A (if (["enumerate","zip","dict_itemiterator","dict_reverseitemiterator","odict_iterator","itertools.zip_longest","itertools.pairwise"].contains n && vs[0]? == some (rawInt _))=true then _ else _) Q E s;rw[if_neg (by intro h;rw[hn,Wci]at h;cases h)];exact wpAny_pure hQ))
def Itl (K:W.Frag) (a:Addr):It:=
 ⟨λi H=>∃xs x,SqL K H a xs/\xs[i]?=some x,λi H x H'=>H'=H/\∀xs,SqL K H a xs->xs[i]?=some x,λi H=>∃xs,SqL K H a xs/\xs.length<=i⟩
def Itt (K:W.Frag) (a:Addr):It:=
 ⟨λi H=>∃xs x,SqT K H a xs/\xs[i]?=some x,λi H x H'=>H'=H/\∀xs,SqT K H a xs->xs[i]?=some x,λi H=>∃xs,SqT K H a xs/\xs.length<=i⟩
def Itr (lo:Int) (n:Nat):It:=⟨λi _=>i<n,λi H x H'=>H'=H/\x=.int (lo+i),λi _=>n<=i⟩
theorem Zpv {P:Program}{w:World}{K:W.Frag}{tg:Expr}(a it:Addr):Turn P w K tg (Itl K a) [it] it (λi h=>h.IsListIter it a i) where
 mem:=by simp
 obj:=λi h st b hb=>by
  have e:b=it:=by simpa using hb
  subst e;obtain⟨o,e,c,d⟩:=st;exact⟨o,e,λv z=>by rw[d]at z;cases z⟩
 keep:=λi h h' st k=>st.at λo e=>k it (by simp) o e
 item:=by
  intro X hP hw hK hc i pins s U H E I hf st hg;subst hP hw hK;obtain⟨xs,x,hq,hx⟩:=hg;obtain⟨its,rv,p,hz⟩:=I.list hq;obtain⟨u,hu,ru⟩:=rv.get hx;obtain⟨f0,f1,f2,f3,f4,f5⟩:=hf it (by simp);refine wpAny_pyNext_list_item st p.isList (x:=u) (by simpa using hu) λh' st' sb=>?_;have I1:Inv X pins U H { s with heap:=h' }:=I.turned (t':=s.toks) (λb o hb e=>(sb.2 b hb).trans e) f0 f1 f3 f4 f5;obtain⟨o,e,c,d⟩:=id st';exact⟨u,rfl,Zvd (s:={ s with heap:=h' }) e c d (by decide) ⟨x,H,I1,ru,⟨rfl,λys hy=>by rw[I.list_inj hy hq];exact hx⟩,st',λb hb=>(hf b hb).1⟩⟩
 done:=by
  intro X hP hw hK hc i pins s U H E I hf st hg;subst hP hw hK;obtain⟨xs,hq,hx⟩:=hg;obtain⟨its,rv,p,hz⟩:=I.list hq;obtain⟨f0,f1,f2,f3,f4,f5⟩:=hf it (by simp);have hl:=rv.length;exact wpAny_pyNext_list_end (I.ok.hd hc) st p.isList (by simp;omega) λh' eb=>⟨rfl,I.turned (t':=s.toks) (λb o hb e=>eb b o hb e) f0 f1 f3 f4 f5⟩
 self:=λ_ _ _ _ _ st h=>wpAny_pyIter_listiter st h
theorem Znm {P:Program}{w:World}{K:W.Frag}{tg:Expr}(a it:Addr):Turn P w K tg (Itt K a) [it] it (λi h=>h.IsTupleIter it a i) where
 mem:=by simp
 obj:=λi h st b hb=>by
  have e:b=it:=by simpa using hb
  subst e;obtain⟨o,e,c,d⟩:=st;exact⟨o,e,λv z=>by rw[d]at z;cases z⟩
 keep:=λi h h' st k=>st.at λo e=>k it (by simp) o e
 item:=by
  intro X hP hw hK hc i pins s U H E I hf st hg;subst hP hw hK;obtain⟨xs,x,hq,hx⟩:=hg;obtain⟨its,rv,p,hz⟩:=I.tuple hq;obtain⟨u,hu,ru⟩:=rv.get hx;obtain⟨f0,f1,f2,f3,f4,f5⟩:=hf it (by simp);refine wpAny_pyNext_tuple_item st (show s.heap.IsTuple a its.toArray from p) (x:=u) (by simpa using hu) λh' st' sb=>?_;have I1:Inv X pins U H { s with heap:=h' }:=I.turned (t':=s.toks) (λb o hb e=>(sb.2 b hb).trans e) f0 f1 f3 f4 f5;obtain⟨o,e,c,d⟩:=id st';exact⟨u,rfl,Zvd (s:={ s with heap:=h' }) e c d (by decide) ⟨x,H,I1,ru,⟨rfl,λys hy=>by rw[I.tuple_inj hy hq];exact hx⟩,st',λb hb=>(hf b hb).1⟩⟩
 done:=by
  intro X hP hw hK hc i pins s U H E I hf st hg;subst hP hw hK;obtain⟨xs,hq,hx⟩:=hg;obtain⟨its,rv,p,hz⟩:=I.tuple hq;obtain⟨f0,f1,f2,f3,f4,f5⟩:=hf it (by simp);have hl:=rv.length;exact wpAny_pyNext_tuple_end (I.ok.hd hc) st (show s.heap.IsTuple a its.toArray from p) (by simp;omega) λh' eb=>⟨rfl,I.turned (t':=s.toks) (λb o hb e=>eb b o hb e) f0 f1 f3 f4 f5⟩
 self:=λ_ _ _ _ _ st h=>wpAny_pyIter_tupleiter st h
theorem Znr {P:Program}{w:World}{K:W.Frag}{tg:Expr}(it:Addr) (lo:Int) (n:Nat):Turn P w K tg (Itr lo n) [it] it (λi h=>IsRangeIter h it (lo+(i:Nat)*1) ((n:Int)-(i:Nat)) 1) where
 mem:=by simp
 obj:=λi h st b hb=>by
  have e:b=it:=by simpa using hb
  subst e;exact⟨_,st,λv z=>by
   have z':Data.fields _=Data.cell v:=z;cases z'⟩
 keep:=λi h h' st k=>k it (by simp) _ st
 item:=by
  intro X hP hw hK hc i pins s U H E I hf st hg;subst hP hw hK;obtain⟨f0,f1,f2,f3,f4,f5⟩:=hf it (by simp);have W:=Walks.range (prog:=X.prog) (w:=X.w) (I.ok.hd hc) it lo 1 n;refine W.item i s _ _ hg st λv h' tk hv st' kk=>?_;obtain⟨t,rfl⟩:=hv;have I1:Inv X pins U H { s with heap:=h',toks:=tk }:=I.turned (λb o hb e=>kk b o (by simpa using hb) e) f0 f1 f3 f4 f5;refine⟨_,rfl,Zvd (s:={ s with heap:=h',toks:=tk }) (n:="range_iterator") st' rfl rfl (by decide) ⟨.int<|lo+i,H,I1,⟨t,?_⟩,⟨rfl,rfl⟩,st',λb hb=>(hf b hb).1⟩⟩;rw[Int.mul_one]
 done:=by
  intro X hP hw hK hc i pins s U H E I hf st hg;subst hP hw hK;obtain⟨f0,f1,f2,f3,f4,f5⟩:=hf it (by simp);exact wpAny_pyNext_range_end (I.ok.hd hc) st (by have:n<=i:=hg;omega) λh' eb=>⟨rfl,I.turned (t':=s.toks) (λb o hb e=>eb b o hb e) f0 f1 f3 f4 f5⟩
 self:=λ_ _ _ _ _ st h=>wpAny_pyIter_rangeiter st h
section
variable {X:Cx}{tg:Expr}
def iList (K:W.Frag) (tl:TE):TI:=λU H R=>tl U H λx H1=>∃a,x=.ref a/\(∃xs,SqL K H1 a xs)/\R (Itl K a) H1
def iTup (K:W.Frag) (tl:TE):TI:=λU H R=>tl U H λx H1=>∃a,x=.ref a/\(∃xs,SqT K H1 a xs)/\R (Itt K a) H1
theorem Zvw {l:Expr}{tl:TE}(hl:PE X l tl):PI X tg l (iList X.K tl):=by
 intro pins s U H R I h;refine thn (hl pins s U H _ I h) λv s1 ⟨x,H1,I1,r1,q1⟩=>?_;obtain⟨a,e,⟨xs,hq⟩,q⟩:=q1;subst e;cases r1;obtain⟨its,rv,p,hz⟩:=I1.list hq;refine wpAny_pyIter_list p.isList ?_;refine⟨s1.heap.objs.size,[s1.heap.objs.size],_,_,H1,rfl,I1.kept (t':=s1.toks) λb o e=>Wad _ e,Zpv a _,⟨_,Wao _ rfl,rfl,rfl⟩,λb hb=>?_,q⟩;have e:b=s1.heap.objs.size:=by simpa using hb
 subst e;exact I1.fpOk (Wag _)<|I1.hok.fresh<|Wag _
theorem Zxk {l:Expr}{tl:TE}(hl:PE X l tl):PI X tg l (iTup X.K tl):=by
 intro pins s U H R I h;refine thn (hl pins s U H _ I h) λv s1 ⟨x,H1,I1,r1,q1⟩=>?_;obtain⟨a,e,⟨xs,hq⟩,q⟩:=q1;subst e;cases r1;obtain⟨its,rv,p,hz⟩:=I1.tuple hq;refine wpAny_pyIter_tuple (show s1.heap.IsTuple a its.toArray from p) ?_;refine⟨s1.heap.objs.size,[s1.heap.objs.size],_,_,H1,rfl,I1.kept (t':=s1.toks) λb o e=>Wad _ e,Znm a _,⟨_,Wao _ rfl,rfl,rfl⟩,λb hb=>?_,q⟩;have e:b=s1.heap.objs.size:=by simpa using hb
 subst e;exact I1.fpOk (Wag _)<|I1.hok.fresh<|Wag _
theorem range_it {pins:List (Addr × Obj)}{U:St}{H:Hp}{s:Shared}{R:It->Hp->Prop}{E:Value->Shared->Prop}{lo hi:Int}{t u v:Tok}{tk:Nat}(I:Inv X pins U H s) (h1:-(2 ^ 62)<=lo) (h2:lo<2 ^ 62) (h3:-(2 ^ 62)<=hi) (h4:hi<2 ^ 62)
  (q:R (Itr lo (hi-lo).toNat) H):wpAny (model X.prog X.w) X.A (pyIter (.ref s.heap.objs.size)) (PIE X pins U tg R) E { s with heap:=s.heap.push { cls:=.type "range",data:=.fields #[.int lo t,.int hi u,.int 1 v] },toks:=tk }:=by
 refine wpAny_pyIter_range (IsRange.new ..) (small_one h1 h2 h3 h4) ?_;have I1:Inv X pins U H { s with heap:=s.heap.push { cls:=.type "range",data:=.fields #[.int lo t,.int hi u,.int 1 v] },toks:=tk }:=I.kept λb o e=>Wad _ e;refine⟨(s.heap.push { cls:=.type "range",data:=.fields #[.int lo t,.int hi u,.int 1 v] }).objs.size,[(s.heap.push { cls:=.type "range",data:=.fields #[.int lo t,.int hi u,.int 1 v] }).objs.size],_,_,H,rfl,
  I1.kept (t':=tk) λb o e=>Wad _ e,Znr _ lo (hi-lo).toNat,?_,λb hb=>?_,q⟩
 ·have e1:lo+((0:Nat):Int)*1=lo:=by simp
  have e2:(((hi-lo).toNat:Nat):Int)-((0:Nat):Int)=Builtin.Range.rangeSize lo hi 1:=by rw[rangeSize_one];split <;> omega
  show IsRangeIter _ _ (lo+((0:Nat):Int)*1) ((((hi-lo).toNat:Nat):Int)-((0:Nat):Int)) 1;rw[e1,e2];exact Wao _ rfl
 ·have e:b=(s.heap.push { cls:=.type "range",data:=.fields #[.int lo t,.int hi u,.int 1 v] }).objs.size:=by simpa using hb
  subst e;exact I1.fpOk (Wag _)<|I1.hok.fresh<|Wag _
def iRng1 (ta:TA):TI:=λU H R=>ta U H λvs H1=>∃j:Int,vs=[.int j] /\ -(2 ^ 62)<=j/\j<2 ^ 62/\R (Itr 0 j.toNat) H1
theorem Zbp {a:Expr}{ta:TA}{p pos:Pos}(hg:Gl X "range") (hm:X.mg "range" = none) (ha:PA X [a] ta) (hs:starEach [a] X.env=[(false,eval a X.env)]:=by rfl):PI X tg (.Call (.Name "range" p) [a] [] pos) (iRng1 ta):=by
 intro pins s U H R I h;refine Call_<|Zd2 I hg hm boot_range<|PyProof.Rows.callWith_type1 (thn (ha pos pins s U H _ I h) λus s1 ⟨vs,H1,I1,r1,q1⟩=>?_) hs rfl;obtain⟨j,e,q1,q2,q⟩:=q1;subst e;cases r1 with
 |cons r rr=>
  cases rr;obtain⟨t,rfl⟩:=r;exact call_range_1<|range_it I1 (by omega) (by omega) q1 q2 (by simpa using q)
def tFor (wi:TI) (g:TG) (tb:TS):TS:=λD U H=>wi U H λJ H1=>∃W:Nat->Nat->St->Hp->Prop,(∃m,W 0 m U H1)/\∀i m U H,W i m U H ->
 (J.stop i H/\D.nx U H)\/(J.go i H/\∃N:St->Hp->Prop,(∀U' H',N U' H' -> ∃m',m'<m/\W (i+1) m' U' H')/\∀x H',J.yld i H x H' -> g x U H' λU2 H2=>tb { D with nx:=N,ct:=N,bk:=D.nx } U2 H2)
def pinsAt (fp:List Addr) (h:Heap):List (Addr × Obj):=fp.filterMap λb=>(h.get? b).map λo=>(b,o)
theorem Zb0 {fp:List Addr}{h:Heap}{b:Addr}{o:Obj}(hb:b∈fp) (e:h.get? b=some o):(b,o)∈pinsAt fp h:=Wef.mpr ⟨b,hb,by rw[e];rfl⟩
theorem Zqk {fp:List Addr}{h:Heap}{p:Addr × Obj}(hp:p∈pinsAt fp h):p.1∈fp/\h.get? p.1=some p.2:=by
 obtain⟨b,hb,e⟩:=Wef.mp hp;cases q:h.get? b with
 |none=>rw[q]at e;cases e
 |some o=>
  rw[q]at e;have e':(b,o)=p:=Wbs.inj e;subst e';exact⟨hb,q⟩
theorem Inv.pinned {pins:List (Addr × Obj)}{U:St}{H:Hp}{s:Shared}{fp:List Addr}(I:Inv X pins U H s) (hf:∀b∈fp,FpOk X pins H b) (ho:∀b∈fp,∃o,s.heap.get? b=some o/\∀v,o.data≠.cell v):Inv X (pins++pinsAt fp s.heap) U H s:=
 I.pins_of λp hp=>(Wbh.mp hp).elim (λz=>I.pin p<|Wa3 _ z) λz=>by
  obtain⟨hb,e⟩:=Zqk z;obtain⟨f0,f1,f2,_⟩:=hf p.1 hb;obtain⟨o,e',d⟩:=ho p.1 hb;rw[e]at e';cases e';exact⟨e,f0,f1,f2,d⟩
theorem Inv.unpinned {pins pl:List (Addr × Obj)}{U:St}{H:Hp}{s:Shared}(I:Inv X (pins++pl) U H s):Inv X pins U H s:=I.pins_of λp hp=>I.pin p<|Wa3 _<|Wdb _ hp
theorem Zdu {iter:Expr}{body:List Stmt}{wi:TI}{g:TG}{tb:TS}{pos:Pos}(hp:PassesOwn (model X.prog X.w) X.A X.env X.xe) (hc:X.calm=true) (hi:PI X tg iter wi) (hg:PG X tg g) (hb:PSs X body tb)
  (hs:∀x,foldedSetIterable iter X.env x=pure x:=by intro _;rfl):PS X (.For tg iter body [] pos) (tFor wi g tb):=by
 intro pins s U H D I h;refine wpAny_For (thn (hi pins s U H _ I h) λv s1 h1=>thn h1 λitv s2 h2=>?_) hs;obtain⟨it,fp,tn,J,H2,e,I2,T,st2,f2,W,⟨m0,w0⟩,turn⟩:=h2;subst e
 -- what stays true of the iterator's objects through the loop
 have stat:∀{H':Hp},(∀b∈fp,H' b=none)->∀b∈fp,FpOk X pins H' b:=λhn b hb=>⟨hn b hb,(f2 b hb).2⟩;refine codeAny_forLoop_any (λn s'=>∃i U' H',Inv X pins U' H' s' /\ tn i s'.heap/\(∀b∈fp,H' b=none)/\W i n U' H') ?_ m0 ⟨0,U,H2,I2,st2,λb hb=>(f2 b hb).1,w0⟩;rintro n s3 ⟨i,U3,H3,I3,st3,fr3,w3⟩;rcases turn i n U3 H3 w3 with ⟨stop,qn⟩|⟨go,N,hN,step⟩
 ·refine wpAny_passesOwn hp (thn (T.done X rfl rfl rfl hc i pins s3 U3 H3 X.xe I3 (stat fr3) st3 stop) λr s4 ⟨hr,I4⟩=>?_)
  subst hr;exact wpAny_execs_nil ⟨U3,H3,I4,qn⟩
 ·refine wpAny_passesOwn hp (thn (T.item X rfl rfl rfl hc i pins s3 U3 H3 X.xe I3 (stat fr3) st3 go) λr s4 ⟨u,hr,h4⟩=>?_)
  subst hr;refine wpAny_passesOwn hp (thn h4 λ_ s5 ⟨x,H5,I5,r5,y5,st5,fr5⟩=>?_);have I5':=I5.pinned (stat fr5)<|T.obj _ _ st5;refine wpAny_passesOwn hp (thn (hg _ s5 U3 H5 x u _ I5' r5<|step x H5 y5) λ_ s6 ⟨U6,H6,I6,q6⟩=>?_);refine wpAny_passesOwn hp (thn (hb _ s6 U6 H6 _ I6 q6) λf s7 q7=>?_);have again:∀{U7:St}{H7:Hp},Inv X (pins++pinsAt fp s5.heap) U7 H7 s7->N U7 H7->∃m,m<n/\∃i U' H',Inv X pins U' H' s7/\tn i s7.heap/\(∀b∈fp,H' b=none)/\W i m U' H':=λ{U7 H7} I7 n7=>by
   obtain⟨m',hm,w7⟩:=hN U7 H7 n7;refine⟨m',hm,i+1,U7,H7,I7.unpinned,T.keep _ _ _ st5 λb hb o e=>(I7.pin (b,o)<|Wa3 _<|Wa3 _<|Zb0 hb e).1,λb hb=>?_,w7⟩;obtain⟨o,e,d⟩:=T.obj _ _ st5 b hb;exact(I7.pin (b,o)<|Wa3 _<|Wa3 _<|Zb0 hb e).2.1
  cases f with
  |next=>obtain⟨U7,H7,I7,n7⟩:=q7;exact again I7 n7
  |cont=>obtain⟨U7,H7,I7,n7⟩:=q7;exact again I7 n7
  |brk=>obtain⟨U7,H7,I7,q7⟩:=q7;exact⟨U7,H7,I7.unpinned,q7⟩
  |ret v=>obtain⟨x7,U7,H7,I7,r7,q7⟩:=q7;exact⟨x7,U7,H7,I7.unpinned,r7,q7⟩
end
abbrev R2:=V->V->Hp->VK->Prop
def OpR (X:Cx) (f:Value->Value->Sem Value) (r:R2):Prop:=
 ∀(pins:List (Addr × Obj)) (s:Shared) (U:St) (H:Hp) (x y:V) (v u:Value) (Q:VK),Inv X pins U H s->RelV x v->RelV y u->r x y H Q ->
  wpAny (model X.prog X.w) X.A (f v u) (EP X pins U Q) X.xe s
def UnR (X:Cx) (f:Value->Sem Value) (r:V->Hp->VK->Prop):Prop:=
 ∀(pins:List (Addr × Obj)) (s:Shared) (U:St) (H:Hp) (x:V) (v:Value) (Q:VK),Inv X pins U H s->RelV x v->r x H Q ->
  wpAny (model X.prog X.w) X.A (f v) (EP X pins U Q) X.xe s
def CallR (X:Cx) (f:Value) (r:List V->Hp->VK->Prop):Prop:=
 ∀(pins:List (Addr × Obj)) (s:Shared) (U:St) (H:Hp) (xs:List V) (us:List Value) (Q:VK),Inv X pins U H s->Vals xs us->r xs H Q ->
  wpAny (model X.prog X.w) X.A (call f us) (EP X pins U Q) X.xe s
def TruR (X:Cx) (r:V->Hp->(Bool->Hp->Prop)->Prop):Prop:=
 ∀(pins:List (Addr × Obj)) (s:Shared) (U:St) (H:Hp) (x:V) (v:Value) (Q:Bool->Hp->Prop),Inv X pins U H s->RelV x v->r x H Q ->
  wpAny (model X.prog X.w) X.A (truthy v) (TP X pins U Q) X.xe s
def tOp (r:R2) (ta tb:TE):TE:=λU H Q=>ta U H λx H1=>tb U H1 λy H2=>r x y H2 Q
def tUn (r:V->Hp->VK->Prop) (ta:TE):TE:=λU H Q=>ta U H λx H1=>r x H1 Q
def rI (C:Int->Int->Prop) (g:Int->Int->V):R2:=λx y H Q=>∃i j,x=.int i/\y=.int j/\C i j/\Q (g i j) H
def rI0 (g:Int->Int->V):R2:=λx y H Q=>∃i j,x=.int i/\y=.int j/\Q (g i j) H
def rU (g:Int->V):V->Hp->VK->Prop:=λx H Q=>∃i,x=.int i/\Q (g i) H
section
variable {X:Cx}{a b c:Expr}{ta tb tc:TE}{pos:Pos}
theorem binT (ha:PE X a ta) (hb:PE X b tb) {pins:List (Addr × Obj)}{s:Shared}{U:St}{H:Hp}{R:V->V->Hp->Prop}(I:Inv X pins U H s)
  (h:ta U H λx H1=>tb U H1 λy H2=>R x y H2) {Q:Value->Shared->Prop}{f:Value->Value->Sem Value}
  (hf:∀v u s2 x y H2,Inv X pins U H2 s2->RelV x v->RelV y u->R x y H2->wpAny (model X.prog X.w) X.A (f v u) Q X.xe s2) :
  wpAny (model X.prog X.w) X.A (eval a X.env) (λv s₁=>wpAny (model X.prog X.w) X.A (eval b X.env) (λu s₂=>wpAny (model X.prog X.w) X.A (f v u) Q X.xe s₂) X.xe s₁) X.xe s:=by
 refine thn (ha pins s U H _ I h) λv s1 ⟨x,H1,I1,r1,q1⟩=>?_;refine thn (hb pins s1 U H1 _ I1 q1) λu s2 ⟨y,H2,I2,r2,q2⟩=>?_;exact hf v u s2 x y H2 I2 r1 r2 q2
theorem Zat {op:Operator}{r:R2}(ho:OpR X (binaryOp op) r) (ha:PE X a ta) (hb:PE X b tb):PE X (.BinOp a op b pos) (tOp r ta tb):=by
 intro pins s U H Q I h;exact wpAny_BinOp (binT ha hb I h λv u s2 x y H2 I2 rx ry q=>ho pins s2 U H2 x y v u Q I2 rx ry q)
theorem Zzy {op:UnaryOp}{r:V->Hp->VK->Prop}(ho:UnR X (unaryOp op) r) (ha:PE X a ta):PE X (.UnaryOp op a pos) (tUn r ta):=by
 intro pins s U H Q I h;exact UnaryOp_ (thn (ha pins s U H _ I h) λv s1 ⟨x,H1,I1,r1,q1⟩=>ho pins s1 U H1 x v Q I1 r1 q1)
theorem opI {f:Value->Value->Sem Value}{C:Int->Int->Prop}{g:Int->Int->Int}
  (rule:∀(i j:Int) (t u:Tok) (s:Shared) (Q:Value->Shared->Prop) (E:Value->Shared->Prop),C i j->Q (.int (g i j) s.toks) { s with toks:=s.toks+1 } -> wpAny (model X.prog X.w) X.A (f (.int i t) (.int j u)) Q E s) :
  OpR X f (rI C λi j=>.int<|g i j):=by
 intro pins s U H x y v u Q I rx ry h;obtain⟨i,j,rfl,rfl,hc,q⟩:=h;obtain⟨t,rfl⟩:=rx;obtain⟨t',rfl⟩:=ry;exact rule i j t t' s _ _ hc ⟨.int<|g i j,H,I.tok _,⟨_,rfl⟩,q⟩
theorem opI0 {f:Value->Value->Sem Value}{g:Int->Int->Int}
  (rule:∀(i j:Int) (t u:Tok) (s:Shared) (Q:Value->Shared->Prop) (E:Value->Shared->Prop),Q (.int (g i j) s.toks) { s with toks:=s.toks+1 } -> wpAny (model X.prog X.w) X.A (f (.int i t) (.int j u)) Q E s) :
  OpR X f (rI0 λi j=>.int<|g i j):=by
 intro pins s U H x y v u Q I rx ry h;obtain⟨i,j,rfl,rfl,q⟩:=h;obtain⟨t,rfl⟩:=rx;obtain⟨t',rfl⟩:=ry;exact rule i j t t' s _ _ ⟨.int<|g i j,H,I.tok _,⟨_,rfl⟩,q⟩
theorem opB0 {f:Value->Value->Sem Value}{g:Int->Int->Bool}
  (rule:∀(i j:Int) (t u:Tok) (s:Shared) (Q:Value->Shared->Prop) (E:Value->Shared->Prop),Q (.bool<|g i j) s->wpAny (model X.prog X.w) X.A (f (.int i t) (.int j u)) Q E s) :
  OpR X f (rI0 λi j=>.bl<|g i j):=by
 intro pins s U H x y v u Q I rx ry h;obtain⟨i,j,rfl,rfl,q⟩:=h;obtain⟨t,rfl⟩:=rx;obtain⟨t',rfl⟩:=ry;exact rule i j t t' s _ _ ⟨.bl<|g i j,H,I,rfl,q⟩
def CDiv (i j:Int):Prop:=0<j/\j<1073741824
def CPow (i j:Int):Prop:=0<=j/\j<=1000000/\i.natAbs<2 ^ 64
def CMul (i j:Int):Prop:=(-(2 ^ 64)<i/\i<2 ^ 64)\/(-(2 ^ 64)<j/\j<2 ^ 64)
theorem CMul.ok {i j:Int}(h:CMul i j):IntMulOk i j:=by
 rcases h with ⟨h1,h2⟩|⟨h1,h2⟩
 ·exact .of_left<|intBits_le_64 h1 h2
 ·exact .of_right<|intBits_le_64 h1 h2
theorem Zxl:OpR X (binaryOp .Add) (rI0 λi j=>.int<|i+j):=opI0 λ_ _ _ _ _ _ _ q=>add_int q
theorem Zfq:OpR X (binaryOp .Sub) (rI0 λi j=>.int<|i-j):=opI0 λ_ _ _ _ _ _ _ q=>sub_int q
theorem Zdg:OpR X (binaryOp .Mult) (rI CMul λi j=>.int<|i*j):=opI λ_ _ _ _ _ _ _ hc q=>mul_int q hc.ok
theorem Zfi:OpR X (binaryOp .FloorDiv) (rI CDiv λi j=>.int<|i / j):=opI λi j _ _ _ _ _ hc q=>by
 have h1:(0:Int)<j:=hc.1;have h2:j<1073741824:=hc.2;exact floordiv_int (by omega) (by rw[Int.fdiv_eq_ediv_of_nonneg i (by omega)];exact q) (.inl<|PyProof.noPylong_small (by omega))
theorem Zb2:OpR X (binaryOp .Mod) (rI (λ_ j=>0<j) λi j=>.int<|i % j):=opI λi j _ _ _ _ _ hc q=>by
 have h1:(0:Int)<j:=hc;exact mod_int' (by omega) (by rw[Int.fmod_eq_emod_of_nonneg i (by omega)];exact q)
theorem Zyv:OpR X (binaryOp .Pow) (rI CPow λi j=>.int<|i ^ j.toNat):=opI λ_ _ _ _ _ _ _ hc q=>pow_int_small hc.1 hc.2.1 hc.2.2 q
theorem Zjm:OpR X (binaryOp .BitXor) (rI0 λi j=>.int<|Builtin.bitXor i j):=opI0 λ_ _ _ _ _ _ _ q=>xor_int q
theorem unI {f:Value->Sem Value}{g:Int->Int}
  (rule:∀(i:Int) (t:Tok) (s:Shared) (Q:Value->Shared->Prop) (E:Value->Shared->Prop),Q (.int (g i) s.toks) { s with toks:=s.toks+1 } -> wpAny (model X.prog X.w) X.A (f (.int i t)) Q E s) :
  UnR X f (rU λi=>.int<|g i):=by
 intro pins s U H x v Q I rx h;obtain⟨i,rfl,q⟩:=h;obtain⟨t,rfl⟩:=rx;exact rule i t s _ _ ⟨.int<|g i,H,I.tok _,⟨_,rfl⟩,q⟩
theorem Zzq:UnR X (unaryOp .USub) (rU λi=>.int (-i)):=unI λ_ _ _ _ _ q=>neg_int q
end
def scal:V->V->Bool
 |.non,.non=>true|.non,.int _=>true|.int _,.non=>true|.non,.bl _=>true|.bl _,.non=>true|.non,.str _=>true|.str _,.non=>true
 |.int _,.int _=>true|.bl _,.bl _=>true|.str _,.str _=>true|.byt _,.byt _=>true
 |.int _,.str _=>true|.str _,.int _=>true|.bl _,.str _=>true|.str _,.bl _=>true
 |_,_=>false
def rEq:R2:=λx y H Q=>scal x y=true/\Q (.bl<|decide (x=y)) H
def rNe:R2:=λx y H Q=>scal x y=true/\Q (.bl (!decide (x=y))) H
theorem Zic {i j:Int}:decide (V.int i=V.int j)=(i == j):=by
 rw[Wdh];simp
theorem Zuo {i j:Bool}:decide (V.bl i=V.bl j)=(i == j):=by
 rw[Wdh];simp
theorem Zq5 {i j:Str}:decide (V.str i=V.str j)=(i == j):=by
 rw[Wdh];simp
theorem Zo1 {i j:Array UInt8}:decide (V.byt i=V.byt j)=(i.toList == j.toList):=by
 rw[Wdh];cases i;cases j;simp
section
variable {X:Cx}{a b c:Expr}{ta tb tc:TE}{pos:Pos}
theorem Za8 {pins:List (Addr × Obj)}{U:St}{H:Hp}{s:Shared}{Q:VK}{k k':Bool}(I:Inv X pins U H s) (q:Q (.bl k) H) (e:k=k'):EP X pins U Q (.bool k') s:=by
 subst e;exact⟨.bl k,H,I,rfl,q⟩
theorem Zz4:OpR X (compareOp .Eq) rEq:=by
 intro pins s U H x y v u Q I rx ry h;obtain⟨hs,q⟩:=h;cases x with
 |non=>
  cases rx;cases y with
  |non=>cases ry;exact PySem.EqNone.eq_none_none (Za8 I q (by simp))
  |bl j=>cases ry;exact PySem.EqNone.eq_none_bool (Za8 I q (by simp))
  |int j=>obtain⟨t',rfl⟩:=ry;exact PySem.EqNone.eq_none_int (Za8 I q (by simp))
  |str j=>obtain⟨t',rfl⟩:=ry;exact PySem.EqNone.eq_none_str (Za8 I q (by simp))
  |_=>exact absurd (show false=true from hs) Wal
 |bl i=>
  cases rx;cases y with
  |non=>cases ry;exact PySem.EqNone.eq_bool_none (Za8 I q (by simp))
  |bl j=>cases ry;exact eq_bool (Za8 I q Zuo)
  |str j=>obtain⟨t',rfl⟩:=ry;exact PySem.EqMixed.eq_bool_str (Za8 I q (by simp))
  |_=>exact absurd (show false=true from hs) Wal
 |int i=>
  obtain⟨t,rfl⟩:=rx;cases y with
  |non=>cases ry;exact PySem.EqNone.eq_int_none (Za8 I q (by simp))
  |int j=>obtain⟨t',rfl⟩:=ry;exact eq_int (Za8 I q Zic)
  |str j=>obtain⟨t',rfl⟩:=ry;exact PySem.EqMixed.eq_int_str (Za8 I q (by simp))
  |_=>exact absurd (show false=true from hs) Wal
 |str i=>
  obtain⟨t,rfl⟩:=rx;cases y with
  |non=>cases ry;exact PySem.EqNone.eq_str_none (Za8 I q (by simp))
  |bl j=>cases ry;exact PySem.EqMixed.eq_str_bool (Za8 I q (by simp))
  |int j=>obtain⟨t',rfl⟩:=ry;exact PySem.EqMixed.eq_str_int (Za8 I q (by simp))
  |str j=>obtain⟨t',rfl⟩:=ry;exact eq_str (Za8 I q Zq5)
  |_=>exact absurd (show false=true from hs) Wal
 |byt i=>
  obtain⟨t,rfl⟩:=rx;cases y with
  |byt j=>obtain⟨t',rfl⟩:=ry;exact PySem.W.eq_bytes (Za8 I q Zo1)
  |_=>exact absurd (show false=true from hs) Wal
 |_=>cases y <;> exact absurd (show false=true from hs) Wal
theorem Z0b:OpR X (compareOp .NotEq) rNe:=by
 intro pins s U H x y v u Q I rx ry h;obtain⟨hs,q⟩:=h;cases x with
 |non=>
  cases rx;cases y with
  |non=>cases ry;exact PySem.EqNone.ne_none_none (Za8 I q (by simp))
  |bl j=>cases ry;exact PySem.EqNone.ne_none_bool (Za8 I q (by simp))
  |int j=>obtain⟨t',rfl⟩:=ry;exact PySem.EqNone.ne_none_int (Za8 I q (by simp))
  |str j=>obtain⟨t',rfl⟩:=ry;exact PySem.EqNone.ne_none_str (Za8 I q (by simp))
  |_=>exact absurd (show false=true from hs) Wal
 |bl i=>
  cases rx;cases y with
  |non=>cases ry;exact PySem.EqNone.ne_bool_none (Za8 I q (by simp))
  |bl j=>cases ry;exact ne_bool (Za8 I q (congrArg not Zuo))
  |str j=>obtain⟨t',rfl⟩:=ry;exact PySem.EqMixed.ne_bool_str (Za8 I q (by simp))
  |_=>exact absurd (show false=true from hs) Wal
 |int i=>
  obtain⟨t,rfl⟩:=rx;cases y with
  |non=>cases ry;exact PySem.EqNone.ne_int_none (Za8 I q (by simp))
  |int j=>obtain⟨t',rfl⟩:=ry;exact ne_int (Za8 I q (congrArg not Zic))
  |str j=>obtain⟨t',rfl⟩:=ry;exact PySem.EqMixed.ne_int_str (Za8 I q (by simp))
  |_=>exact absurd (show false=true from hs) Wal
 |str i=>
  obtain⟨t,rfl⟩:=rx;cases y with
  |non=>cases ry;exact PySem.EqNone.ne_str_none (Za8 I q (by simp))
  |bl j=>cases ry;exact PySem.EqMixed.ne_str_bool (Za8 I q (by simp))
  |int j=>obtain⟨t',rfl⟩:=ry;exact PySem.EqMixed.ne_str_int (Za8 I q (by simp))
  |str j=>obtain⟨t',rfl⟩:=ry;exact ne_str (Za8 I q (congrArg not Zq5))
  |_=>exact absurd (show false=true from hs) Wal
 |byt i=>
  obtain⟨t,rfl⟩:=rx;cases y with
  |byt j=>obtain⟨t',rfl⟩:=ry;exact PySem.W.ne_bytes (Za8 I q (congrArg not Zo1))
  |_=>exact absurd (show false=true from hs) Wal
 |_=>cases y <;> exact absurd (show false=true from hs) Wal
theorem Zsk:OpR X (compareOp .Lt) (rI0 λi j=>.bl<|decide (i<j)):=opB0 λ_ _ _ _ _ _ _ q=>lt_int q
theorem Zvn:OpR X (compareOp .Gt) (rI0 λi j=>.bl<|decide (j<i)):=opB0 λ_ _ _ _ _ _ _ q=>gt_int q
theorem Z0c:OpR X (compareOp .GtE) (rI0 λi j=>.bl<|decide (j<=i)):=opB0 λ_ _ _ _ _ _ _ q=>ge_int q
theorem OpR.or {f:Value->Value->Sem Value}{r r':R2}(h:OpR X f r) (h':OpR X f r'):OpR X f (λx y H Q=>r x y H Q\/r' x y H Q):=by
 intro pins s U H x y v u Q I rx ry q;rcases q with q|q
 ·exact h pins s U H x y v u Q I rx ry q
 ·exact h' pins s U H x y v u Q I rx ry q
theorem nomark (b:Expr) {op:CmpOp}(h:op≠.In:=by decide) (h2:op≠.NotIn:=by decide):behindInMarks op b=false:=by
 have e1:(op == CmpOp.In)=false:=by cases op <;> first|rfl|exact absurd rfl h
 have e2:(op == CmpOp.NotIn)=false:=by cases op <;> first|rfl|exact absurd rfl h2
 cases b <;> simp[behindInMarks,e1,e2]
theorem Zdy {op:CmpOp}{r:R2}(ho:OpR X (compareOp op) r) (ha:PE X a ta) (hb:PE X b tb) (hm:behindInMarks op b=false):PE X (.Compare a [op] [b] pos) (tOp r ta tb):=by
 intro pins s U H Q I h;exact wpAny_Compare1 (binT ha hb I h λv u s2 x y H2 I2 rx ry q=>ho pins s2 U H2 x y v u Q I2 rx ry q) hm
def tTest (t:TE):TT:=λU H Q=>t U H λx H'=>∃k,x=.bl k/\Q k H'
theorem Zaz {op:CmpOp}{r:R2}(ho:OpR X (compareOp op) r) (ha:PE X a ta) (hb:PE X b tb) (hm:behindInMarks op b=false):PT X (.Compare a [op] [b] pos) (tTest<|tOp r ta tb):=by
 intro pins s U H Q I h;refine wpAny_isTrue_Compare1 (thn (ha pins s U H _ I h) λv s1 ⟨x,H1,I1,r1,q1⟩=>thn (hb pins s1 U H1 _ I1 q1) λu s2 ⟨y,H2,I2,r2,q2⟩=>
  thn (ho pins s2 U H2 x y v u _ I2 r1 r2 q2) λc s3 ⟨z,H3,I3,r3,k,e,q3⟩=>?_) hm
 subst e;cases r3;exact wpAny_truthy_bool ⟨H3,I3,q3⟩
def TruV (K:W.Frag) (x:V) (H:Hp) (k:Bool):Prop:=
 match x with
 |.non=>k=false
 |.bl b=>k=b
 |.int i=>k=(i != 0)
 |.str y=>y.length<=sizeLine/\k=((y.length:Int) != 0)
 |.byt y=>y.size<=sizeLine/\k=((y.size:Int) != 0)
 |.ref p=>(∃xs,SqL K H p xs/\k = !xs.isEmpty)\/(∃xs,SqT K H p xs/\k = !xs.isEmpty)\/∃kvs,H p=some (.dK kvs)/\k = !kvs.isEmpty
 |_=>False
theorem Zm9 {κ:Type}{kvs:List (κ × V)}{vs:List (κ × Value)}(r:KV kvs vs):(!vs.isEmpty) = !kvs.isEmpty:=by
 cases r <;> rfl
theorem Zh5 {xs:List V}{its:List Value}(r:Vals xs its):(!its.toArray.isEmpty) = !xs.isEmpty:=by
 cases r <;> simp
theorem line63:(sizeLine:Nat)<2 ^ 63:=by rw[sizeLine_eq];decide
theorem Zya:TruR X (λx H Q=>∃k,TruV X.K x H k/\Q k H):=by
 intro pins s U H x v Q I rx h;obtain⟨k,e,q⟩:=h;have hl:=line63;have hs:sizeLine=16777216:=sizeLine_eq;cases x with
 |non=>
  cases rx;have e':k=false:=e;subst e';exact truthy_none ⟨H,I,q⟩
 |bl b=>
  cases rx;have e':k=b:=e;subst e';exact wpAny_truthy_bool ⟨H,I,q⟩
 |int i=>
  obtain⟨t,rfl⟩:=rx;have e':k=(i != 0):=e;subst e';exact PySem.P.truthy_int ⟨H,I,q⟩
 |str y=>
  obtain⟨t,rfl⟩:=rx;obtain⟨hy,e'⟩:y.length<=sizeLine/\k=((y.length:Int) != 0):=e;subst e';exact PySem.P.truthy_str (by omega) ⟨H,I.tok _,q⟩
 |byt y=>
  obtain⟨t,rfl⟩:=rx;obtain⟨hy,e'⟩:y.size<=sizeLine/\k=((y.size:Int) != 0):=e;subst e';exact PySem.W.truthy_bytes (by omega) ⟨H,I.tok _,q⟩
 |ref p=>
  cases rx;have e':(∃xs,SqL X.K H p xs/\k = !xs.isEmpty)\/(∃xs,SqT X.K H p xs/\k = !xs.isEmpty)\/∃kvs,H p=some (.dK kvs)/\k = !kvs.isEmpty:=e;rcases e' with ⟨xs,hx,e'⟩|⟨xs,hx,e'⟩|⟨kvs,hx,e'⟩
  ·subst e'
   obtain⟨its,r,pl,hz⟩:=I.list hx;have hlen:=r.length;exact wpAny_truthy_list pl.isList (by simp only[War];omega) ⟨H,I.tok _,by rw[Zh5 r];exact q⟩
  ·subst e'
   obtain⟨its,r,pl,hz⟩:=I.tuple hx;have hlen:=r.length;exact truthy_tuple pl (by simp only[War];omega) ⟨H,I.tok _,by rw[Zh5 r];exact q⟩
  ·subst e'
   obtain⟨hz,hS,vs,r,m⟩:kvs.length<=sizeLine/\(p == sysModules)=false/\∃vs,KV kvs vs/\s.heap.DictOf (mixKind X.prog X.w) p vs:=I.hok p _ hx;have hlen:kvs.length=vs.length:=Paired.length r;exact wpAny_truthy_dict hS m (by omega) ⟨H,I.tok _,by rw[Zm9 r];exact q⟩
 |_=>exact(show False from e).elim
theorem Zsr (ha:PE X a ta) (he:∀whole,isTrue a X.env whole=(do let v <- whole;standAt a.pos;holding [v] (truthy v))) :
  PT X a (λU H Q=>ta U H λx H'=>∃k,TruV X.K x H' k/\Q k H'):=by
 intro pins s U H Q I h;exact isTrue_plain (thn (ha pins s U H _ I h) λv s1 ⟨x,H1,I1,r1,q1⟩=>Zya pins s1 U H1 x v Q I1 r1 q1)<|he _
theorem vals1 {x:V}{us:List Value}(r:Vals [x] us):∃u,us=[u]/\RelV x u:=by
 cases r with
 |cons r1 r2=>cases r2;exact⟨_,rfl,r1⟩
theorem vals2 {x y:V}{us:List Value}(r:Vals [x,y] us):∃u w',us=[u,w']/\RelV x u/\RelV y w':=by
 cases r with
 |cons r1 r2=>
  cases r2 with
  |cons r3 r4=>cases r4;exact⟨_,_,rfl,r1,r3⟩
theorem Zik:CallR X (.builtin "abs") (λxs H Q=>∃i,xs=[.int i]/\Q (.int (if i<0 then -i else i)) H):=by
 intro pins s U H xs us Q I r h;obtain⟨i,rfl,q⟩:=h;obtain⟨u,rfl,t,rfl⟩:=vals1 r;exact call_abs_int λu tk=>⟨.int (if i<0 then -i else i),H,I.tok _,⟨_,rfl⟩,q⟩
theorem Zj8 (hc:X.calm=true):CallR X (.builtin "max") (λxs H Q=>∃i j,xs=[.int i,.int j]/\Q (.int (if j > i then j else i)) H):=by
 intro pins s U H xs us Q I r h;obtain⟨i,j,rfl,q⟩:=h;obtain⟨u,w',rfl,⟨t,rfl⟩,⟨t',rfl⟩⟩:=vals2 r;refine max_two_ints (I.ok.hd hc) λh' tk k=>⟨_,H,I.kept k,?_,q⟩;by_cases hj:j > i
 ·rw[if_pos hj,if_pos hj];exact⟨_,rfl⟩
 ·rw[if_neg hj,if_neg hj];exact⟨_,rfl⟩
theorem Zgd (hc:X.calm=true):CallR X (.builtin "min") (λxs H Q=>∃i j,xs=[.int i,.int j]/\Q (.int (if j<i then j else i)) H):=by
 intro pins s U H xs us Q I r h;obtain⟨i,j,rfl,q⟩:=h;obtain⟨u,w',rfl,⟨t,rfl⟩,⟨t',rfl⟩⟩:=vals2 r;refine min_two_ints (I.ok.hd hc) λh' tk k=>⟨_,H,I.kept k,?_,q⟩;by_cases hj:j<i
 ·rw[if_pos hj,if_pos hj];exact⟨_,rfl⟩
 ·rw[if_neg hj,if_neg hj];exact⟨_,rfl⟩
theorem Zpb:CallR X (.type "int") (λxs H Q=>(∃i,xs=[.int i]/\Q (.int i) H)\/∃k,xs=[.bl k]/\Q (.int (if k then 1 else 0)) H):=by
 intro pins s U H xs us Q I r h;rcases h with ⟨i,rfl,q⟩|⟨k,rfl,q⟩
 ·obtain⟨u,rfl,t,rfl⟩:=vals1 r
  exact call_int_int ⟨.int i,H,I,⟨_,rfl⟩,q⟩
 ·obtain⟨u,rfl,r1⟩:=vals1 r
  cases r1;exact call_int_bool ⟨.int (if k then 1 else 0),H,I.tok _,⟨_,rfl⟩,q⟩
end
structure ObjM (h:Heap) (x dx C:Addr) (mA:Str->Option Value):Prop where
 obj:h.get? x=some (PySem.W.instObj C dx)
 ns:h.Ns1 dx mA
 ne:dx≠x
theorem Zrr {h:Heap}{dx:Addr}{mA:Str->Option Value}(n:h.Ns1 dx mA):∃od,h.get? dx=some od/\∀name,PySem.W.lookIn name od=some (mA name):=by
 obtain⟨o,es,ep,ho,hd,hk,_,hm⟩:=n;refine⟨o,ho,λname=>?_⟩;have e:=hm name;unfold nsFind findBy at e;rw[<- Array.find?_toList]at e;unfold PySem.W.lookIn;rw[hd];dsimp only;split
 ·rename_i y q
  rw[q]at e;exact congrArg some e
 ·rename_i q
  rw[q]at e;have a:es.toList.any (·.refKey)=false:=by
   rw[List.any_eq_false];intro y hy;obtain⟨z,t,hkey⟩:=hk y<|Array.mem_toList_iff.mp hy;simp[DictEntry.refKey,hkey]
  have a':¬ es.toList.any (·.refKey)=true:=by rw[a];exact Wal
  rw[if_neg a'];exact congrArg some e
theorem ObjM.look {h:Heap}{x dx C:Addr}{mA:Str->Option Value}(I:ObjM h x dx C mA):∃od,PySem.W.InstAt h x (PySem.W.instObj C dx) C (some od)/\∀name,PySem.W.lookIn name od=some (mA name):=
 let ⟨od,ho,hl⟩:=Zrr I.ns
 ⟨od,⟨I.obj,rfl,rfl,ho⟩,hl⟩
theorem RelO.some_of {v:V}{o:Option Value}(r:RelO (some v) o):∃u,o=some u/\RelV v u:=by
 cases o with
 |none=>exact(show False from r).elim
 |some u=>exact⟨u,rfl,r⟩
section
variable {P:Program}{w:World}{H H':Hp}{h h':Heap}{a C dx:Addr}{fs fs':List (Str × V)}
theorem Zwr (hok:HOk P w H h) (e:H a=some (.ins C dx fs)):∃mA,ObjM h a dx C mA/\(∀f,RelO (fs.lookup f) (mA f))/\PySem.Within mA (fs.map (·.1))/\fs.length<=1000/\H dx=some (.own a):=by
 obtain⟨d,z,ne,ob,mA,n,r,q⟩:=(show ObjOk P w H h a (.ins C dx fs) from hok a _ e);exact⟨mA,⟨ob,n,ne⟩,r,q,z,d⟩
end
structure Cls (K:W.Frag) (C:Addr):Prop where
 pg:PySem.W.plainGet K C Str.empty=true
 hd:PySem.W.hasDictIn K C=true
 po:PySem.W.plainOver K C=true
 sa:PySem.W.findIn K (.ref C) "__setattr__" = some (some (.builtin "object.__setattr__"))
theorem Cls.get {K:W.Frag}{C:Addr}(c:Cls K C) (f:Str):PySem.W.plainGet K C f=true:=c.pg
section
variable {X:Cx}{pins:List (Addr × Obj)}{U:St}{H:Hp}{s:Shared}{a C dx:Addr}{fs:List (Str × V)}{f:Str}{v:V}{A:Around}{E:Value->Shared->Prop}
end
section
variable {X:Cx}{pins:List (Addr × Obj)}{U:St}{H:Hp}{s:Shared}{A:Around}{E:Value->Shared->Prop}{Q:Value->Shared->Prop}{c:Value}{b:Bool}
inductive TyOf (K:W.Frag) (H:Hp):V->Value->Prop where
 |non:TyOf K H .non (.type "NoneType")
 |bl (x:Bool):TyOf K H (.bl x) (.type "bool")
 |int (i:Int):TyOf K H (.int i) (.type "int")
 |str (x:Str):TyOf K H (.str x) (.type "str")
 |flt (x:UInt64):TyOf K H (.flt x) (.type "float")
 |lst {a:Addr}{xs:List V}(e:H a=some (.lst xs)):TyOf K H (.ref a) (.type "list")
 |frz {a:Addr}{o:Obj}{xs:List V}(e:H a=some (.frz o (.lst xs))):TyOf K H (.ref a) (.type "list")
 |tup {a:Addr}{xs:List V}(e:H a=some (.tup xs)):TyOf K H (.ref a) (.type "tuple")
 |dK {a:Addr}{kvs:List (Key × V)}(e:H a=some (.dK kvs)):TyOf K H (.ref a) (.type "dict")
 |dT {a:Addr}{kvs:List (List Key × V)}(e:H a=some (.dT kvs)):TyOf K H (.ref a) (.type "dict")
 |ins {a C dx:Addr}{fs:List (Str × V)}(e:H a=some (.ins C dx fs)) (cl:Cls K C) (ha:PySem.W.findIn K (.ref C) "__class__" = some (some (.builtin "object.__class__")))
   (hn:PySem.W.specialIn K (.builtin "object.__class__") "__get__" = some (some (.builtin "getset_descriptor.__get__"))) (htk:PySem.W.takesIn K (.builtin "object.__class__")=some true)
   (hm:PySem.W.mroIn K C (.type "object")=some true):TyOf K H (.ref a) (.ref C)
theorem Zqf {x:V}{u t:Value}(I:Inv X pins U H s) (rx:RelV x u) (ty:TyOf X.K H x t) (e:PySem.W.kitOne X.K t c=some b) (h:∀tk,Q (.bool b) { s with toks:=tk }) :
  wpAny (model X.prog X.w) A (call (.builtin "isinstance") [u,c]) Q E s:=by
 cases ty with
 |non=>cases (show u=Value.none from rx);exact PySem.W.kia_one PySem.W.kitx_none I.kIn True.intro e (λz=>nomatch z) h
 |bl y=>cases (show u=Value.bool y from rx);exact PySem.W.kia_one PySem.W.kitx_bool I.kIn True.intro e (λz=>nomatch z) h
 |int i=>obtain⟨t,q⟩:=(show ∃t,u=Value.int i t from rx);cases q;exact PySem.W.kia_one PySem.W.kitx_int I.kIn True.intro e (λz=>nomatch z) h
 |str y=>obtain⟨t,q⟩:=(show ∃t,u=Value.str y t from rx);cases q;exact PySem.W.kia_one PySem.W.kitx_str I.kIn True.intro e (λz=>nomatch z) h
 |flt y=>obtain⟨t,q⟩:=(show ∃t,u=Value.float y t from rx);cases q;exact PySem.W.kia_one PySem.W.kitx_float I.kIn True.intro e (λz=>nomatch z) h
 |@lst a xs ea=>
  cases (show u=Value.ref a from rx);obtain⟨_,_,n,_,h1⟩:=(show ObjOk X.prog X.w H s.heap a (.lst xs) from I.hok a _ ea);exact PySem.W.kia_one PySem.W.kitx_list I.kIn ⟨_,h1,rfl⟩ e (λz=>nomatch z) h
 |@frz a ob xs ea=>
  cases (show u=Value.ref a from rx);obtain⟨_,_,_,n,_,h1⟩:=(show ObjOk X.prog X.w H s.heap a (.frz ob (.lst xs)) from I.hok a _ ea);exact PySem.W.kia_one PySem.W.kitx_list I.kIn ⟨_,h1,rfl⟩ e (λz=>nomatch z) h
 |@tup a xs ea=>
  cases (show u=Value.ref a from rx);obtain⟨_,_,_,p⟩:=(show ObjOk X.prog X.w H s.heap a (.tup xs) from I.hok a _ ea);obtain⟨o,h1,⟨h2,_⟩,_⟩:=p;exact PySem.W.kia_one PySem.W.kitx_tuple I.kIn ⟨o,h1,h2⟩ e (λz=>nomatch z) h
 |@dK a kvs ea=>
  cases (show u=Value.ref a from rx);obtain⟨_,_,vs,_,p⟩:=(show ObjOk X.prog X.w H s.heap a (.dK kvs) from I.hok a _ ea);obtain⟨o,es,ep,h1,h2,_⟩:=p;exact PySem.W.kia_one PySem.W.kitx_dict I.kIn ⟨o,h1,h2.1⟩ e (λz=>nomatch z) h
 |@dT a kvs ea=>
  cases (show u=Value.ref a from rx);obtain⟨_,_,xs,_,o,es,ep,h1,h2,_⟩:=(show ObjOk X.prog X.w H s.heap a (.dT kvs) from I.hok a _ ea);exact PySem.W.kia_one PySem.W.kitx_dict I.kIn ⟨o,h1,h2.1⟩ e (λz=>nomatch z) h
 |@ins a C dx fs ea cl ha hn htk hm=>
  cases (show u=Value.ref a from rx);obtain⟨mA,O,_⟩:=Zwr I.hok ea;obtain⟨od,J,_⟩:=O.look;exact PySem.W.kia_one (PySem.W.kitx_own (cl.get _) cl.hd ha hn htk hm) I.kIn J e (λz=>nomatch z) h
end
structure Room (k:Nat) (A:Around):Prop where
 hd:A.handled=none
 dp:A.depth+3*k+5<recursionLimit
 un:A.units+16*k+200<cLine
 gd:A.guards=some []
theorem Room.mono {j k:Nat}{A:Around}(r:Room k A) (h:j<=k):Room j A:=⟨r.hd,by have:=r.dp;omega,by have:=r.un;omega,r.gd⟩
theorem Room.deeper {k:Nat}{A:Around}(r:Room (k+1) A) (env:Env):Room k (A.deeper env):=
 ⟨r.hd,by have:=r.dp;show A.depth+1+3*k+5<_;omega,by have:=r.un;show A.units+3+16*k+200<_;omega,r.gd⟩
theorem Room.depth {k:Nat}{A:Around}(r:Room k A):A.depth<recursionLimit:=by have:=r.dp;omega
theorem Room.units {k:Nat}{A:Around}(r:Room k A):A.units+64<cLine:=by have:=r.un;omega
def tNil:TA:=λ_ H Q=>Q [] H
def tCons (ta:TE) (tr:TA):TA:=λU H Q=>ta U H λx H1=>tr U H1 λxs H2=>Q (x::xs) H2
section
variable {X:Cx}{e:Expr}{es:List Expr}{te:TE}{t:TA}{pos:Pos}
theorem Zae:PA X [] tNil:=λ_ _ _ _ H Q I h=>Calls.spliced_nil ⟨[],H,I,.nil,h⟩
theorem Zaa (ha:PE X e te) (hr:PA X es t) (hs:starEach (e::es) X.env=(false,eval e X.env)::starEach es X.env:=by rfl):PA X (e::es) (tCons te t):=by
 intro pos pins s U H Q I h;rw[hs];show wpAny _ _ (spliced ((false,eval e X.env)::backTo pos (starEach es X.env))) _ _ s;refine Calls.spliced_cons (thn (ha pins s U H _ I h) λu s1 ⟨x,H1,I1,r1,q1⟩=>?_);exact thn (hr pos pins s1 U H1 _ I1 q1) λus s2 ⟨xs,H2,I2,r2,q2⟩=>⟨x::xs,H2,I2,.cons r1 r2,q2⟩
def tTup (t:TA):TE:=λU H Q=>t U H λxs H1=>xs.length<=sizeLine/\∀p,H1 p=none->Q (.ref p) (upd H1 p (.tup xs))
def tLst (t:TA):TE:=λU H Q=>t U H λxs H1=>xs.length<=sizeLine/\∀p,H1 p=none->Q (.ref p) (upd H1 p (.lst xs))
theorem Zcd {x1} (h:PA X es t):PE X (.Tuple es x1 pos) (tTup t):=by
 intro pins s U H Q I hq;refine wpAny_Tuple_spliced (thn (h pos pins s U H _ I hq) λus s1 ⟨xs,H1,I1,r,z,q⟩=>⟨by rw[<- r.length];exact z,?_⟩);have hf:H1 s1.heap.objs.size=none:=I1.hok.fresh<|Wag _;refine⟨.ref s1.heap.objs.size,upd H1 s1.heap.objs.size (.tup xs),I1.laid (t':=s1.toks) (λb u e=>Wad _ e) (Wag _) ?_,rfl,q _ hf⟩;exact⟨z,us,r,⟨_,Wao _ rfl,⟨rfl,_,rfl⟩,rfl⟩⟩
theorem Zh0 (h:PA X es t):PE X (.List es pos) (tLst t):=by
 intro pins s U H Q I hq;refine wpAny_List_spliced (thn (h pos pins s U H _ I hq) λus s1 ⟨xs,H1,I1,r,z,q⟩=>⟨by rw[<- r.length];exact z,?_⟩);have hf:H1 s1.heap.objs.size=none:=I1.hok.fresh<|Wag _;refine⟨.ref s1.heap.objs.size,upd H1 s1.heap.objs.size (.lst xs),I1.laid (t':=s1.toks) (λb u e=>Wad _ e) (Wag _) ?_,rfl,q _ hf⟩;exact⟨z,us,0,r,Wao _ rfl⟩
end
abbrev Sp:=List V->Hp->VK->XK->Prop
abbrev CXT:=List Env->Hp->Shared->XK->Value->Shared->Prop
structure Env0 (P:Program) (w:World) (K:W.Frag) (mg:Str->Option Value) (base:Heap) (A:Around) (outer:List Env) (s:Shared) (H:Hp):Prop where
 frames:A.frames=some outer
 mod:Mod K mg base
 bs:∀b o,base.get? b=some o->s.heap.get? b=some o/\H b=none
 bsz:base.objs.size<=s.heap.objs.size
 funs:s.heap.FunFrames base outer
 frf:∀b∈frs outer,H b=none
 hok:HOk P w H s.heap
 bare:AllBare s.gens
def CE (outer:List Env) (P:Program) (w:World) (H:Hp) (s:Shared) (Q:VK) (u:Value) (s':Shared):Prop:=
 ∃v H',s'.os=s.os/\AllBare s'.gens/\Un (frs outer) [] H H' s.heap s'.heap/\HOk P w H' s'.heap/\RelV v u/\Q v H'
def CR (CX:CXT) (outer:List Env) (P:Program) (w:World) (H:Hp) (s:Shared) (Q:VK) (E:XK) (r:Result) (s':Shared):Prop:=
 match r with
 |.ok (.ret u)=>CE outer P w H s Q u s'
 |.ok _=>False
 |.error e=>CX outer H s E e s'
structure FnOk (P:Program) (w:World) (K:W.Frag) (mg:Str->Option Value) (base:Heap) (CX:CXT) (k:Nat) (f:Addr) (fd:FuncData) (ps:List Str) (sp:Sp):Prop where
 len:∀vs H Q E,sp vs H Q E->vs.length=ps.length
 run:∀(A:Around) (outer:List Env) (s:Shared) (H:Hp) (args:Args) (us:List Value) (vs:List V) (Q:VK) (E:XK),Room k A->Env0 P w K mg base A outer s H->BindsTo s fd args (ps.zip us)->Vals vs us->sp vs H Q E ->
  codeAny (model P w) A (.call (.ref f) args) (CR CX outer P w H s Q E) s
theorem FnOk.imp {P:Program}{w:World}{K:W.Frag}{mg:Str->Option Value}{base:Heap}{CX:CXT}{k:Nat}{f:Addr}{fd:FuncData}{ps:List Str}{sp sp':Sp}(F:FnOk P w K mg base CX k f fd ps sp)
  (h:∀vs H Q E,sp' vs H Q E->sp vs H Q E):FnOk P w K mg base CX k f fd ps sp':=
 ⟨λvs H Q E q=>F.len vs H Q E<|h _ _ _ _ q,λA outer s H args us vs Q E hr he hb hv hs=>F.run A outer s H args us vs Q E hr he hb hv<|h _ _ _ _ hs⟩
section
variable {X:Cx}{pins:List (Addr × Obj)}{U:St}{H:Hp}{s s':Shared}
theorem Inv.env0 (I:Inv X pins U H s):Env0 X.prog X.w X.K X.mg X.base X.A X.stack s H:=
 ⟨I.ok.frames,I.ok.mod,I.bs,Wbx I.ok.bsz I.sz,I.stack,I.stkFree,I.hok,I.bare⟩
theorem Inv.after {Q:VK}{u:Value}(I:Inv X pins U H s) (h:CE X.stack X.prog X.w H s Q u s'):EP X pins U Q u s':=by
 obtain⟨v,H',os,bare,un,hok,r,q⟩:=h;obtain⟨hh,g,d,t,os'⟩:=s';obtain rfl:os'=s.os:=os;exact⟨v,H',I.call (h':=hh) (g':=g) (d':=d) (t':=t) (ch:=[]) un hok bare (λb z=>absurd z<|by simp),r,q⟩
end
def tCall (sp:Sp) (dvs:List V) (E:XK) (t:TA):TE:=λU H Q=>t U H λvs H1=>sp (vs++dvs) H1 Q E
def Binds (K:W.Frag) (fd:FuncData) (ps:List Str) (ds:List Value):Prop:=
 ∀(s:Shared) (us:List Value),K.In s.heap->(us++ds).length=ps.length->BindsTo s fd ⟨us,[]⟩ (ps.zip<|us++ds)
theorem Binds.all {K:W.Frag}{fd:FuncData}{ps:List Str}(h:∀us:List Value,us.length=ps.length->bindArgs fd ⟨us,[]⟩=pure (ps.zip us)):Binds K fd ps []:=λs us _ hl=>by
 rw[Wbi]at hl ⊢;exact .of_eq<|h us hl
def Passes (CX:CXT) (X:Cx) (E:XK):Prop:=∀(pins:List (Addr × Obj)) (U:St) (H:Hp) (s:Shared) (e:Value) (s':Shared),Inv X pins U H s->CX X.stack H s E e s' -> X.xe e s'
section
variable {X:Cx}{CX:CXT}{k:Nat}{f C:Addr}{fd:FuncData}{ps:List Str}{sp:Sp}{dvs:List V}{ds:List Value}{E:XK}{x m:Str}{p pos apos:Pos}{e o:Expr}{es:List Expr}{ta:TE}{t:TA}
theorem Zx9 {pins:List (Addr × Obj)}{U:St}{H:Hp}{s:Shared}{Q:VK}{us:List Value}{vs:List V}(F:FnOk X.prog X.w X.K X.mg X.base CX k f fd ps sp) (hr:Room k X.A) (hb:Binds X.K fd ps ds) (hd:Vals dvs ds) (hx:Passes CX X E)
  (I:Inv X pins U H s) (r:Vals vs us) (h:sp (vs++dvs) H Q E):wpAny (model X.prog X.w) X.A (call (.ref f) us) (EP X pins U Q) X.xe s:=by
 have r2:Vals (vs++dvs) (us++ds):=r.append hd;have hl:(us++ds).length=ps.length:=by rw[<- r2.length];exact F.len _ _ _ _ h
 refine wpAny_call (codeAny_mono (F.run X.A X.stack s H ⟨us,[]⟩ (us++ds) (vs++dvs) Q E hr I.env0 (hb s us I.kIn hl) r2 h) λr s' hq=>?_);cases r with
 |error e=>exact hx pins U H s e s' I hq
 |ok fl=>
  cases fl with
  |ret u=>exact I.after hq
  |next=>exact False.elim hq
  |brk=>exact False.elim hq
  |cont=>exact False.elim hq
theorem Zvu (F:FnOk X.prog X.w X.K X.mg X.base CX k f fd ps sp) (hr:Room k X.A) (hg:Gl X x) (hm:X.mg x=some (.ref f)) (hk:W.keepIn X.K (.ref f)=true) (hb:Binds X.K fd ps ds) (hd:Vals dvs ds) (hx:Passes CX X E)
  (ha:PA X (e::es) t) (hdb:(x == ("__debug__":Str))=false:=by decide) (he:starEach (e::es) X.env=(false,eval e X.env)::starEach es X.env:=by rfl) (hpl:(backTo pos<|starEach es X.env).any (·.1)=false:=by rfl) :
  PE X (.Call (.Name x p) (e::es) [] pos) (tCall sp dvs E t):=by
 intro pins s U H Q I h;refine wpAny_Call_Name_kw<|Zwb I hg hm ?_ hdb;refine PySem.W.callWith_K (h₀:=X.base) I.ok.mod.kin hk (thn (ha pos pins s U H _ I h) λus s1 ⟨vs,H1,I1,r,q⟩=>⟨I1.kIn,?_⟩) he hpl;exact Zx9 F hr hb hd hx I1 r q
end
section
variable {X:Cx}{CX:CXT}{k:Nat}{f C:Addr}{fd:FuncData}{ps ks:List Str}{sp:Sp}{E:XK}{x m:Str}{p pos apos kpos:Pos}{e o:Expr}{es:List Expr}{kws:List Keyword}{te ta:TE}{t tk:TA}{nm:Option Str}
variable {g:List Value->List Value->List Value}{gV:List V->List V->List V}
end
structure FnScope (N P:List Str) (sc:Scope):Prop where
 kind:sc.kind=.function
 co:sc.isCoroutine=false
 gen:sc.isGenerator=false
 nd:N.Nodup
 pre:N.take P.length=P
 par:∀x∈P,sc.names.lookup x=some .local\/sc.names.lookup x=some .cell
 nofree:∀y∈sc.names,y.2≠.free
theorem Zkr {kindOf:Str->Option NameKind}{x:Str}:∀{binds:List (Str × Value)}{m:Str->Option Value},(∀v,(x,v) ∉ binds)->bindL kindOf binds m x=m x
 |[],_,_=>rfl
 | (n,v)::r,m,h=>by
  unfold bindL;rw[Zkr λw hw=>h w (Waw _ hw)];split
  ·have:x≠n:=by rintro rfl;exact h v Wa7
   simp[this]
  ·rfl
theorem Zjk {kindOf:Str->Option NameKind}{x:Str}:∀{binds:List (Str × Value)}{m:Str->Option Value},(∀v,(x,v) ∉ binds)->bindC kindOf binds m x=m x
 |[],_,_=>rfl
 | (n,v)::r,m,h=>by
  unfold bindC;rw[Zjk λw hw=>h w (Waw _ hw)];split
  ·rfl
  ·have:x≠n:=by rintro rfl;exact h v Wa7
   simp[this]
theorem Zj0 {kindOf:Str->Option NameKind}{x:Str}{v:Value}:∀{P:List Str}{vs:List Value}{i:Nat}{m:Str->Option Value},P.Nodup->P[i]?=some x->vs[i]?=some v->kindOf x=some .local ->
  bindL kindOf (P.zip vs) m x=some v
 |[],_,_,_,_,h,_,_=>by simp at h
 |_::_,[],_,_,_,_,h,_=>by simp at h
 |p::P,w::vs,0,m,nd,h1,h2,hk=>by
  simp at h1 h2;subst h1;subst h2;show bindL kindOf ((p,w)::P.zip vs) m p=_;unfold bindL;rw[Zkr λv hv=>(Wbu.mp nd).1 (List.of_mem_zip hv).1,if_pos hk];simp
 |p::P,w::vs,i+1,m,nd,h1,h2,hk=>by
  show bindL kindOf ((p,w)::P.zip vs) m x=_;unfold bindL;exact Zj0 (i:=i) (Wbu.mp nd).2 (by simpa using h1) (by simpa using h2) hk
theorem Zjh {kindOf:Str->Option NameKind}{x:Str}{v:Value}:∀{P:List Str}{vs:List Value}{i:Nat}{m:Str->Option Value},P.Nodup->P[i]?=some x->vs[i]?=some v->kindOf x≠some .local ->
  bindC kindOf (P.zip vs) m x=some v
 |[],_,_,_,_,h,_,_=>by simp at h
 |_::_,[],_,_,_,_,h,_=>by simp at h
 |p::P,w::vs,0,m,nd,h1,h2,hk=>by
  simp at h1 h2;subst h1;subst h2;show bindC kindOf ((p,w)::P.zip vs) m p=_;unfold bindC;rw[Zjk λv hv=>(Wbu.mp nd).1 (List.of_mem_zip hv).1,if_neg hk];simp
 |p::P,w::vs,i+1,m,nd,h1,h2,hk=>by
  show bindC kindOf ((p,w)::P.zip vs) m x=_;unfold bindC;exact Zjh (i:=i) (Wbu.mp nd).2 (by simpa using h1) (by simpa using h2) hk
def start (N:List Str) (vs:List V):St:=vs.map some++Wak (N.length-vs.length) none
def cxOf (CX:CXT) (P:Program) (w:World) (K:W.Frag) (mg:Str->Option Value) (base:Heap) (N:List Str) (qual:Str) (scope:Scope) (f:Addr) (cd:Value) (A:Around) (outer:List Env) (s:Shared) (H:Hp) (E:XK):Cx where
 prog:=P
 w:=w
 K:=K
 mg:=mg
 base:=base
 A:=A.deeper<|envOfC qual scope s.heap.objs.size f cd
 N:=N
 s₀:=s
 H₀:=H
 env:=envOfC qual scope s.heap.objs.size f cd
 outer:=outer
 stack:=envOfC qual scope s.heap.objs.size f cd::outer
 ex:=[]
 calm:=true
 fn:=λ_=>true
 pn:=[]
 xe:=λe s'=>wpAny (model P w) (A.deeper<|envOfC qual scope s.heap.objs.size f cd) (leaving (envOfC qual scope s.heap.objs.size f cd) e) (λ_ s''=>CX outer H s E e s'') (λe' s''=>CX outer H s E e' s'') s'
theorem Zlz {sc:Scope}{n:Nat}{x:Str}(h:sc.names.lookup x=some .cell):∃c,(cellsFrom n sc.names []).lookup x=some c:=by
 have q:=PySem.W.cellsFrom_some sc.names n [] (.inl h);exact Option.isSome_iff_exists.mp q
theorem Zrl {CX:CXT}{P:Program}{w:World}{K:W.Frag}{mg:Str->Option Value}{base:Heap}{N ps:List Str}{qual:Str}{scope:Scope}{f:Addr}{cd:Value}{A:Around}{outer:List Env}{s s1:Shared}{H:Hp}{E:XK}{us:List Value}{vs:List V}
  (S:FnScope N ps scope) (hd:A.handled=none) (e0:Env0 P w K mg base A outer s H) (hl:vs.length=ps.length) (r:Vals vs us)
  (x:InCallC s s.heap.objs.size (bindL (envOfC qual scope s.heap.objs.size f cd).kindOf (ps.zip us) λ_=>none) (cellsFrom (s.heap.objs.size+1) scope.names []) (bindC (envOfC qual scope s.heap.objs.size f cd).kindOf (ps.zip us) λ_=>none) s1) :
  Inv (cxOf CX P w K mg base N qual scope f cd A outer s H E) [] (start N vs) H s1:=by
 have hpl:ps.length<=N.length:=by have:=congrArg Wbb S.pre;rw[Wbm]at this;omega
 obtain⟨h1,tk,rfl,hk⟩:=x.done;have noA:∀b:Addr,b ∉ (cxOf CX P w K mg base N qual scope f cd A outer s H E).ex:=λb z=>absurd (show b∈([]:List Addr) from z) (by simp);refine⟨⟨e0.mod,S.kind,rfl,rfl,Wag _,λy z c h1 h2=>?_,λy hy=>?_,λy c _ h=>?_,λ_=>hd,Around.frames_deeper e0.frames,.inr ⟨rfl,rfl⟩,λb z=>absurd z (noA b),e0.bs,e0.bsz,λb _ _=>noA b,λb z=>absurd z (noA b),e0.funs,e0.frf⟩,
  rfl,e0.bare,Un.kept hk,⟨_,x.toInCall.ns,λi y v h1 h2 h3=>?_⟩,λy c h=>⟨_,x.cell y c h⟩,e0.hok.fresh (Wag _),λy c h=>?_,λp hp=>absurd (show p∈([]:List (Addr × Obj)) from hp) (by simp),e0.hok.kept hk,?_⟩
 ·exact name_of_addr x.apart (PySem.mem_of_lookup h1)<|PySem.mem_of_lookup h2
 ·have hy:scope.names.lookup y=some .cell\/scope.names.lookup y=some .free:=hy
  rcases hy with hy|hy
  ·exact Zlz hy
  ·exact absurd rfl<|S.nofree _<|PySem.mem_of_lookup hy
 ·exact Wcj<|x.above y c<|PySem.mem_of_lookup h
 ·have hi:i<vs.length:=by
   unfold start at h2;by_cases hi:i<vs.length
   ·exact hi
   ·rw[Wa2 (by simpa using hi)]at h2
    rw[Wb7]at h2;split at h2 <;> cases h2
  have ha:vs[i]?=some v:=by
   unfold start at h2;rw[Wbd (by simpa using hi),Wae]at h2;cases e:vs[i]? with
   |none=>rw[e]at h2;cases h2
   |some a=>rw[e]at h2;cases h2;rfl
  obtain⟨u,hu,rv⟩:=r.get ha;have hp:ps[i]?=some y:=by
   rw[<- S.pre,Wd3 (by omega)];exact h1
  have ndP:ps.Nodup:=by rw[<- S.pre];exact S.nd.sublist<|List.take_sublist _ _
  refine⟨u,rv,?_⟩;rcases S.par y (Wau hp) with k|k
  ·exact .inl ⟨k,Zj0 ndP hp hu k⟩
  ·obtain⟨c,e⟩:=Zlz (n:=s.heap.objs.size+1) k
   refine .inr ⟨.inl k,c,e,?_⟩;have q:=x.cell y c e;rw[Zjh ndP hp hu (by show scope.names.lookup y≠_;rw[k];decide)]at q;exact q
 ·exact e0.hok.fresh<|Wcj<|x.above y c<|PySem.mem_of_lookup h
 ·unfold start
  show _=N.length;rw[Wai,Wab,Wax];omega
theorem Zz0 {CX:CXT}{P:Program}{w:World}{K:W.Frag}{mg:Str->Option Value}{base:Heap}{k:Nat}{f:Addr}{name qual:Str}{params:Arguments}{body:List Stmt}{scope:Scope}{dV kV doc pm cdv ct oc:Value}{an od:Option Addr}
  {osl:Array (Option Value)}{N ps:List Str}{sp:Sp}(lk:K.lookup f=some ⟨oc,od,.func<|W.fnOf name qual params body scope dV kV doc pm an cdv ct,osl⟩) (hcd:W.codeIn K cdv qual=true) (S:FnScope N ps scope)
  (len:∀vs H Q E,sp vs H Q E->vs.length=ps.length)
  (hbody:∀(A:Around) (outer:List Env) (s:Shared) (H:Hp) (vs:List V) (Q:VK) (E:XK),Room k (A.deeper (envOfC qual scope s.heap.objs.size f cdv))->sp vs H Q E ->
   ∃t,PSs (cxOf CX P w K mg base N qual scope f cdv A outer s H E) body t/\t { nx:=λ_ H'=>Q .non H',rt:=Q } (start N vs) H) :
  FnOk P w K mg base CX (k+1) f (W.fnOf name qual params body scope dV kV doc pm an cdv ct) ps sp:=by
 refine⟨len,λA outer s H args us vs Q E hr e0 hb r hsp=>?_⟩;have hl:=len _ _ _ _ hsp;have KX:K.In s.heap:=e0.mod.kin.keeps λb o e=>(e0.bs b o e).1;have lim:s.heap.NoLimit:=e0.mod.nolimit.keeps λb o e=>(e0.bs b o e).1;have hkind:∀y∈ps.zip us,scope.names.lookup y.1=some .local\/(scope.names.lookup y.1=some .cell/\((cellsFrom (s.heap.objs.size+1) scope.names []).lookup y.1).isSome=true):=λ⟨n,v⟩ hy=>by
  rcases S.par n (List.of_mem_zip hy).1 with q|q
  ·exact .inl q
  ·exact .inr ⟨q,PySem.W.cellsFrom_some _ _ _ (.inl q)⟩
 refine codeAny_call_function hr.depth (KX _ _ lk) rfl S.co S.gen rfl (PySem.W.codeRec_of KX hcd)<|hb _ _ _ _ ?_;refine wpAny_newFunctionEnv_cells S.kind hkind λenv he s1 x=>?_;subst he;refine⟨lim.keeps x.toInCall.keep,codeAny_func ?_⟩;obtain⟨t,ht,hq⟩:=hbody A outer s H vs Q E (hr.deeper _) hsp;have I:Inv (cxOf CX P w K mg base N qual scope f cdv A outer s H E) [] (start N vs) H s1:=Zrl S hr.hd e0 hl r x;refine wpAny_mono (ht [] s1 (start N vs) H _ I hq) (λfl s' hs=>?_) λe s' hs=>hs;have fin:∀{U':St}{H':Hp}{v:V}{u:Value},Inv (cxOf CX P w K mg base N qual scope f cdv A outer s H E) [] U' H' s' -> RelV v u->Q v H' -> CE outer P w H s Q u s':=
  λ{U' H' v u} J rv q=>⟨v,H',J.os,J.bare,J.base,J.hok,rv,q⟩
 cases fl with
 |ret u=>
  obtain⟨v,U',H',J,rv,q⟩:=hs;exact fin J rv q
 |next=>
  obtain⟨U',H',J,q⟩:=hs;exact fin (v:=V.non) (u:=Value.none) J rfl q
 |brk=>
  obtain⟨_,_,_,q⟩:=hs;exact False.elim q
 |cont=>
  obtain⟨_,_,_,q⟩:=hs;exact False.elim q
section
variable {X:Cx}{x:Str}{p pos:Pos}{e:Expr}{es:List Expr}{t:TA}{id T:String}{r:List V->Hp->VK->Prop}
def tCB (r:List V->Hp->VK->Prop) (t:TA):TE:=λU H Q=>t U H λvs H1=>r vs H1 Q
theorem Zas (hc:CallR X (.builtin id) r) (hg:Gl X x) (hm:X.mg x=none) (hv:bootBuiltins x=some (.builtin id)) (ha:PA X (e::es) t) (hn:x ≠ "__name__":=by decide) (hdb:(x == ("__debug__":Str))=false:=by decide)
  (he:starEach (e::es) X.env=(false,eval e X.env)::starEach es X.env:=by rfl) (hpl:(backTo pos<|starEach es X.env).any (·.1)=false:=by rfl):PE X (.Call (.Name x p) (e::es) [] pos) (tCB r t):=by
 intro pins s U H Q I h;refine wpAny_Call_Name_kw<|Zd2 I hg hm hv ?_ hn hdb;exact PyProof.Rows.callWith_builtin1 (thn (ha pos pins s U H _ I h) λus s1 ⟨vs,H1,I1,r1,q1⟩=>hc pins s1 U H1 vs us Q I1 r1 q1) he hpl
theorem Zbd (hc:CallR X (.type T) r) (hg:Gl X x) (hm:X.mg x=none) (hv:bootBuiltins x=some (.type T)) (ha:PA X (e::es) t) (hn:x ≠ "__name__":=by decide) (hdb:(x == ("__debug__":Str))=false:=by decide)
  (he:starEach (e::es) X.env=(false,eval e X.env)::starEach es X.env:=by rfl) (hpl:(backTo pos<|starEach es X.env).any (·.1)=false:=by rfl):PE X (.Call (.Name x p) (e::es) [] pos) (tCB r t):=by
 intro pins s U H Q I h;refine wpAny_Call_Name_kw<|Zd2 I hg hm hv ?_ hn hdb;exact PyProof.Rows.callWith_type1 (thn (ha pos pins s U H _ I h) λus s1 ⟨vs,H1,I1,r1,q1⟩=>hc pins s1 U H1 vs us Q I1 r1 q1) he hpl
theorem Zhu (hc:CallR X (.type T) r) (hg:Gl X x) (hm:X.mg x=none) (hv:bootBuiltins x=some (.type T)) (hn:x ≠ "__name__":=by decide) (hdb:(x == ("__debug__":Str))=false:=by decide) :
  PE X (.Call (.Name x p) [] [] pos) (tCB r tNil):=by
 intro pins s U H Q I h;refine wpAny_Call_Name_kw<|Zd2 I hg hm hv ?_ hn hdb;exact PyProof.Rows.callWith_type0<|hc pins s U H [] [] Q I .nil h
end
end L2
namespace HT
open PySem PyProof.Rows
def lexLt:List Int->List Int->Bool
 |[],[]=>false
 |[],_::_=>true
 |_::_,[]=>false
 |x::xs,y::ys=>if x=y then lexLt xs ys else decide (x<y)
theorem Znp (x y:Int) (xs ys:List Int):lexLt (x::xs) (y::ys)=if x=y then lexLt xs ys else decide (x<y):=rfl
theorem Ziv:lexLt [] []=false:=rfl
theorem Zhg (y:Int) (ys:List Int):lexLt [] (y::ys)=true:=rfl
theorem Zhe (x:Int) (xs:List Int):lexLt (x::xs) []=false:=rfl
theorem Ztm (A:Around) (s:Shared) (a:Int) (t:Tok) (c:Int) (u:Tok):∃e,SeqAt.EqAt A s (.int a t) (.int c u) e/\(e=true↔a=c):=
 ⟨(a == c),SeqAt.EqAt.int_int a t c u,by simp⟩
theorem Ztw (A:Around) (s:Shared) (a:Int) (t:Tok) (c:Int) (u:Tok) (prog:Program) (w:World) (E:Value->Shared->Prop) (Q:Value->Shared->Prop) (h:Q (.bool<|decide (a<c)) s) :
  wpAny (model prog w) A (richCompare .Lt (.int a t) (.int c u)) Q E s:=
 (PyProof.Rows.lt_int h:wpAny (model prog w) A (compareOp .Lt (.int a t) (.int c u)) Q E s)
section
open PySem.SeqAt
open PySem.AutoSeq1 (wpAny_loadPart')
open PySem.MeetsSeq PySem.MeetsSeq2 PySem.MeetsSeq3
theorem tuple_lt_ints (l b:Addr) (items items2:Array Value) (n n2:Nat) (dd dd2:Option Addr) (sl sl2:Array (Option Value)) (ns ms:List Int) (hi:IntsAre items.toList ns) (hj:IntsAre items2.toList ms) :
  Meets (Builtin.«tuple.__lt__» ⟨[.ref l,.ref b],[]⟩)
   (λ_ R s=>s.heap.get? l=some { cls:=.type "tuple",dict:=dd,data:=.seq items n,slots:=sl } /\ s.heap.get? b=some { cls:=.type "tuple",dict:=dd2,data:=.seq items2 n2,slots:=sl2 } /\
    R (.ok (.ret (.bool (lexLt ns ms)))) s):=
 .of_wp λprog w A R s h=>by
  obtain⟨hp,g,d,tk,os⟩:=s;obtain⟨hl,hb,h⟩:=h;have f2:=AutoSeq1.sub_tuple_tuple;have z1:items.size=ns.length:=by rw[<- hi.length];simp
  have z2:items2.size=ms.length:=by rw[<- hj.length];simp
  wp_walk using wpAny_loadPart' hl,wpAny_loadPart' hb,wpAny_forIn_list _ (λrest b s'=>b.1=none/\s'=⟨hp,g,d,tk,os⟩ /\ ∃(vs ws:List Value) (ns' ms':List Int),rest=vs.zip ws /\
   IntsAre vs ns' /\ IntsAre ws ms' /\ ns'.length+items2.size=ms'.length+items.size/\R (.ok (.ret (.bool (lexLt ns' ms')))) ⟨hp,g,d,tk,os⟩) _
  case turn=>
   rintro⟨y,x⟩ rest b s' ⟨hb',rfl,vs,ws,ns',ms',hz,hvi,hwi,hlen,hR⟩;cases hvi with
   |nil=>rw[List.zip_nil_left]at hz;cases hz
   |cons a t hvi'=>
    cases hwi with
    |nil=>rw[Wee]at hz;cases hz
    |cons c u hwi'=>
     rw[Wcg]at hz;injection hz with hyx hrest
     injection hyx with hy hx
     subst hy hx;rw[Znp]at hR;simp only[Waj]at hlen;obtain⟨e,he,hiff⟩:=Ztm A.in1 ⟨hp,g,d,tk,os⟩ a t c u;refine wpAny_bind<|he prog w _ _ ?_;cases e with
     |true=>
      rw[if_pos (hiff.mp rfl)]at hR
      wp_walk
      exact⟨rfl,rfl,_,_,_,_,hrest,hvi',hwi',by omega,hR⟩
     |false=>
      rw[if_neg (λq=>absurd (hiff.mpr q) Wal)]at hR;have hri:=Ztw A.in1 ⟨hp,g,d,tk,os⟩ a t c u prog w
      wp_walk using hri
      exact⟨_,rfl,by simpa using hR⟩
  case fin=>
   rintro⟨b1,b2⟩ s' ⟨hb',rfl,vs,ws,ns',ms',hz,hvi,hwi,hlen,hR⟩;simp only at hb';subst hb';have hv:lexLt ns' ms'=decide (items.size<items2.size):=by
    cases hvi with
    |nil=>
     cases hwi with
     |nil=>
      simp only[Wb6]at hlen;rw[Ziv];exact(decide_eq_false<|by omega).symm
     |cons c u hw=>
      simp only[Wb6,Waj]at hlen;rw[Zhg];exact(decide_eq_true<|by omega).symm
    |cons a t hv=>
     cases hwi with
     |nil=>
      simp only[Wb6,Waj]at hlen;rw[Zhe];exact(decide_eq_false<|by omega).symm
     |cons c u hw=>
      rw[Wcg]at hz;cases hz
   rw[hv]at hR
   wp_walk
   exact⟨_,rfl,by simpa [Builtin.Tuple.tupleCompareSizes] using hR⟩
  case h=>
   exact⟨rfl,rfl,items.toList,items2.toList,ns,ms,rfl,hi,hj,by omega,h⟩
end
section
variable {prog:Program}{w:World}{A:Around}{E:Value->Shared->Prop}{s:Shared}
theorem cat_tup {t b:Addr}{vs ws:List Value}{Q:Value->Shared->Prop}(ht:IsTup s.heap t vs.toArray) (hb:IsTup s.heap b ws.toArray) (hv:vs≠[])
  (h1:ws=[]->Q (.ref t) s) (h2:ws≠[]->Q (.ref s.heap.objs.size) { s with heap:=s.heap.push { cls:=.type "tuple",data:=.seq (vs++ws).toArray } })
  (hsz:vs.length+ws.length<=sizeLine):wpAny (model prog w) A (binaryOp .Add (.ref t) (.ref b)) Q E s:=by
 obtain⟨⟨cls,dd,data,sl⟩,ho,hc,n,hd⟩:=id ht;obtain⟨⟨cls2,dd2,data2,sl2⟩,ho2,hc2,n2,hd2⟩:=id hb;simp only at hc hd hc2 hd2;subst hc hd hc2 hd2;have e:vs.toArray++ws.toArray=(vs++ws).toArray:=by simp
 by_cases hw:ws=[]
 ·exact concat_meets ⟨_,ho,rfl⟩ ⟨_,ho2,rfl⟩ noFill_tuple_add seq_tuple_add PySem.F.slot_tuple_add PySem.F.entry_tuple_add (PySem.F.args_tuple_add_2 _ _)
   (tuple_addW1 t b vs.toArray ws.toArray n n2 dd dd2 sl sl2 (by simpa using hv) (by simp[hw])) ⟨ho,ho2,h1 hw⟩
 ·refine concat_meets ⟨_,ho,rfl⟩ ⟨_,ho2,rfl⟩ noFill_tuple_add seq_tuple_add PySem.F.slot_tuple_add PySem.F.entry_tuple_add (PySem.F.args_tuple_add_2 _ _)
   (tuple_addW2 t b vs.toArray ws.toArray n n2 dd dd2 sl sl2 (by simpa using hv) (by simpa using hw) (by rw[War,War];exact hsz)) ⟨ho,ho2,?_⟩
  rw[e];exact h2 hw
def sIx (n d:Nat):Option Int->Nat
 |none=>d
 |some v=>if v<0 then (v+(n:Int)).toNat else min v.toNat n
theorem sIx_none (n d:Nat):sIx n d none=d:=rfl
theorem sIx_nat (n d k:Nat):sIx n d (some (k:Int))=min k n:=by
 show (if (k:Int)<0 then ((k:Int)+(n:Int)).toNat else min (k:Int).toNat n)=min k n;rw[if_neg (by omega),Wam]
theorem Zx7 (n d:Nat) (hd:d<=n) (o:Option Int):sIx n d o<=n:=by
 cases o with
 |none=>exact hd
 |some v=>
  show (if v<0 then (v+(n:Int)).toNat else min v.toNat n)<=n;by_cases hv:v<0
  ·rw[if_pos hv];omega
  ·rw[if_neg hv];exact Nat.min_le_right _ _
theorem Zph (v:Int) (n d:Nat):(if v<0 then max (v+(n:Int)) 0 else min v (n:Int))=((sIx n d (some v):Nat):Int):=by
 show (if v<0 then max (v+(n:Int)) 0 else min v (n:Int))=(((if v<0 then (v+(n:Int)).toNat else min v.toNat n):Nat):Int);by_cases hv:v<0
 ·simp only[if_pos hv];omega
 ·simp only[if_neg hv];omega
theorem Znb (lo hi:Option Int) (n:Nat):Builtin.Slice.sliceAdjust lo hi 1 (n:Int)=(((sIx n 0 lo:Nat):Int),((sIx n n hi:Nat):Int)):=by
 have h1:¬ ((1:Int)<0):=by omega
 unfold Builtin.Slice.sliceAdjust;simp only[h1,if_false];refine Prod.ext ?_ ?_
 ·cases lo with
  |none=>rfl
  |some v=>exact Zph v n 0
 ·cases hi with
  |none=>rfl
  |some v=>exact Zph v n n
theorem Zn5 (i j:Nat):Builtin.Slice.slicePlaces (i:Int) (j:Int) 1=j-i:=by
 unfold Builtin.Slice.slicePlaces;have h1:(1:Int) > 0:=by omega
 simp only[h1,if_true,Int.ediv_one];split <;> omega
theorem Zfp {v:Value}{o:Option Int}{Q:Option Int->Shared->Prop}(p:IsPart v o) (h:Q o s):wpAny (model prog w) A (Builtin.Slice.slicePartIndex v) Q E s:=by
 cases p with
 |none=>exact slicePart_none h
 |int i t=>exact slicePart_int h
theorem Zds {sl:Addr}{vl vu:Value}{lo hi:Option Int}{n:Nat}{Q:Int × Int × Nat->Shared->Prop}(hs:s.heap.IsSliceOf sl vl vu .none) (pl:IsPart vl lo) (pu:IsPart vu hi)
  (h:Q (((sIx n 0 lo:Nat):Int),1,sIx n n hi-sIx n 0 lo) s):wpAny (model prog w) A (Builtin.Slice.sliceApplied (.ref sl)<|pure (n:Int)) Q E s:=by
 obtain⟨os,hos,hcs,hds⟩:=id hs;unfold Builtin.Slice.sliceApplied Builtin.Slice.sliceFields;refine wpAny_bind<|wpAny_bind<|wpAny_field hos hds (x:=vl) rfl<|wpAny_bind<|wpAny_field hos hds (x:=vu) rfl<|wpAny_bind<|wpAny_field hos hds (x:=.none) rfl<|wpAny_pure ?_;refine wpAny_bind<|slicePart_none ?_;show wpAny _ _ (if ((1:Int) == 0)=true then _ else _) _ _ s;rw[if_neg (by decide)];refine wpAny_bind<|Zfp pl<|wpAny_bind<|Zfp pu<|wpAny_bind<|wpAny_pure ?_;show wpAny _ _ (match Builtin.Slice.sliceAdjust lo hi 1 (n:Int) with|(lo,hi)=>pure (lo,(1:Int),Builtin.Slice.slicePlaces lo hi 1)) _ _ s;rw[Znb lo hi n];show wpAny _ _ (pure (((sIx n 0 lo:Nat):Int),(1:Int),Builtin.Slice.slicePlaces ((sIx n 0 lo:Nat):Int) ((sIx n n hi:Nat):Int) 1)) _ _ s;rw[Zn5];exact wpAny_pure h
theorem Zth (xs:Array Value) (i k:Nat):((Wah k).filterMap λ(m:Nat)=>xs[((i:Int)+(m:Int)*1).toNat]?).toArray=((xs.toList.drop i).take k).toArray:=by
 have e:(λ(m:Nat)=>xs[((i:Int)+(m:Int)*1).toNat]?)=λm=>xs[i+m]?:=by
  funext m
  have:((i:Int)+(m:Int)*1).toNat=i+m:=by omega
  rw[this]
 rw[e];have:=pick_run xs i k;rw[List.filterMap_map]at this;have e2:((λx=>xs[x]?)∘λx=>i+x)=λm=>xs[i+m]?:=rfl;rw[e2]at this;rw[this]
theorem getItem_tuple_cut {t sl:Addr}{items:Array Value}{vl vu:Value}{lo hi:Option Int}{Q:Value->Shared->Prop}(ht:IsTup s.heap t items) (hs:s.heap.IsSliceOf sl vl vu .none) (pl:IsPart vl lo) (pu:IsPart vu hi)
  (hw:¬ (sIx items.size 0 lo=0/\sIx items.size items.size hi=items.size))
  (h:Q (.ref s.heap.objs.size) { s with heap:=s.heap.push { cls:=.type "tuple",data:=.seq ((items.toList.drop<|sIx items.size 0 lo).take (sIx items.size items.size hi-sIx items.size 0 lo)).toArray } })
  (hsz:items.size<=sizeLine):wpAny (model prog w) A (getItem (.ref t) (.ref sl)) Q E s:=by
 have htake:sizeOk (.seq ((items.toList.drop<|sIx items.size 0 lo).take (sIx items.size items.size hi-sIx items.size 0 lo)).toArray):=by
  show ((items.toList.drop<|sIx items.size 0 lo).take (sIx items.size items.size hi-sIx items.size 0 lo)).toArray.size<=sizeLine;rw[War,Wbm,Wby,Array.length_toList];omega
 have hj:sIx items.size items.size hi<=items.size:=Zx7 _ _ (Wag _) hi;obtain⟨os,hos,hcs,hds⟩:=id hs;have hTs:s.TypeIs (.ref sl) "slice":=⟨os,hos,hcs⟩;unfold getItem
 try with_reducible refine wpAny_holding ?_
 first|refine wpAny_bind (wpAny_pure ?_)|skip
 refine wpAny_bind (wpAny_sequenceKey ht.typeIs (by decide) ?_);refine wpAny_bind (wpAny_callSpecial?_slot (name:=Str.ofString "__getitem__") ht.typeIs PyProof.Rows.slot_tuple_getitem
  (wpAny_call_entry PyProof.Rows.slot_tuple_getitem ht.typeIs entry_tuple_getitem ?_ (args_tuple_getitem _ _)))
 show wpAny _ _ (Builtin.Tuple.tupleItemsOf (.ref t) >>= _) _ _ s;refine wpAny_bind<|tupleItemsOf_ ht ?_;refine wpAny_bind<|wpAny_typeOf hTs ?_;rw[if_pos (by decide)];refine wpAny_bind<|Zds hs pl pu ?_;have hno:¬ ((((sIx items.size 0 lo:Nat):Int) == 0 && (1:Int) == 1 && (sIx items.size items.size hi-sIx items.size 0 lo) == items.size)=true):=by
  intro q;rw[Wbc,Wbc]at q;have q1:((sIx items.size 0 lo:Nat):Int)=0:=eq_of_beq q.1.1;have q2:sIx items.size items.size hi-sIx items.size 0 lo=items.size:=eq_of_beq q.2;exact hw ⟨by omega,by omega⟩
 show wpAny _ _ (if (((sIx items.size 0 lo:Nat):Int) == 0 && (1:Int) == 1 && (sIx items.size items.size hi-sIx items.size 0 lo) == items.size)=true then _ else _) _ _ s;rw[if_neg hno,Zth]
 first
  |exact wpAny_bind (m:=Builtin.Tuple.tupleExact _) (wpAny_newObj_type (wpAny_pure ⟨_,rfl,wpAny_pure h⟩) htake)
  |exact wpAny_bind (m:=Builtin.Tuple.tupleExact _) (wpAny_newObj_type (wpAny_bind (wpAny_pure (wpAny_pure ⟨_,rfl,wpAny_pure h⟩))) htake)
  |exact wpAny_bind (wpAny_bind (m:=Builtin.Tuple.tupleExact _) (wpAny_newObj_type (wpAny_pure (wpAny_pure ⟨_,rfl,wpAny_pure h⟩)) htake))
  |exact wpAny_bind (wpAny_bind (m:=Builtin.Tuple.tupleExact _) (wpAny_newObj_type (wpAny_pure ⟨_,rfl,wpAny_pure h⟩) htake))
end
end HT
namespace L2
open PySem PySem.Spec PyProof.Rows
abbrev TO:=St->Hp->(Option Int->Hp->Prop)->Prop
def PO (X:Cx) (e:Option Expr) (t:TO):Prop:=
 ∀(pins:List (Addr × Obj)) (s:Shared) (U:St) (H:Hp) (Q:Option Int->Hp->Prop),Inv X pins U H s->t U H Q ->
  wpAny (model X.prog X.w) X.A (evalPart e X.env) (λu s'=>∃o H',Inv X pins U H' s' /\ IsPart u o/\Q o H') X.xe s
def tNoPart:TO:=λ_ H Q=>Q none H
def tPart (t:TE):TO:=λU H Q=>t U H λx H1=>∃i,x=.int i/\Q (some i) H1
theorem Zck {ns:List Int}:∀{us:List Value},Vals (ns.map V.int) us->IntsAre us ns:=by
 induction ns with
 |nil=>intro us r;rw[List.map_nil]at r;cases r;exact .nil
 |cons n ns ih=>
  intro us r;rw[Wbe]at r;cases r with
  |cons r1 r2=>
   obtain⟨t,e⟩:=r1;subst e;exact .cons n t<|ih r2
section
variable {X:Cx}{e:Expr}{te:TE}{lo hi:Option Expr}{tl th:TO}{pos p2:Pos}
theorem Zer:PO X none tNoPart:=by
 intro pins s U H Q I h;rw[evalPart_none];exact wpAny_pure ⟨none,H,I,.none,h⟩
theorem Zd9 (h:PE X e te):PO X (some e) (tPart te):=by
 intro pins s U H Q I hw;rw[evalPart_some];refine thn (h pins s U H _ I hw) λu s1 ⟨x,H1,I1,r1,q1⟩=>?_;obtain⟨i,rfl,q⟩:=q1;obtain⟨t,rfl⟩:=r1;exact⟨some i,H1,I1,.int i t,q⟩
def SlR (X:Cx) (r:V->Option Int->Option Int->Hp->VK->Prop):Prop:=
 ∀(pins:List (Addr × Obj)) (s:Shared) (U:St) (H:Hp) (x:V) (v vl vu:Value) (lo hi:Option Int) (sl:Addr) (Q:VK),Inv X pins U H s->RelV x v->s.heap.IsSliceOf sl vl vu .none->IsPart vl lo->IsPart vu hi->r x lo hi H Q ->
  ∃T id,typeLookup (.type T) "__getitem__" = pure (some (.builtin id))/\s.TypeIs v T/\wpAny (model X.prog X.w) X.A (getItem v (.ref sl)) (EP X pins U Q) X.xe s
theorem SlR.or {r r':V->Option Int->Option Int->Hp->VK->Prop}(h:SlR X r) (h':SlR X r'):SlR X (λx lo hi H Q=>r x lo hi H Q\/r' x lo hi H Q):=by
 intro pins s U H x v vl vu lo hi sl Q I rx hs pl pu q;rcases q with q|q
 ·exact h pins s U H x v vl vu lo hi sl Q I rx hs pl pu q
 ·exact h' pins s U H x v vl vu lo hi sl Q I rx hs pl pu q
def tSl (r:V->Option Int->Option Int->Hp->VK->Prop) (te:TE) (tl th:TO):TE:=λU H Q=>te U H λx H1=>tl U H1 λl H2=>th U H2 λu H3=>r x l u H3 Q
theorem Zdr {r:V->Option Int->Option Int->Hp->VK->Prop}(hr:SlR X r) (he:PE X e te) (hl:PO X lo tl) (hu:PO X hi th):PE X (.Subscript e (.Slice lo hi none p2) pos) (tSl r te tl th):=by
 intro pins s U H Q I h;refine Subscript_ (thn (he pins s U H _ I h) λv s1 ⟨x,H1,I1,r1,q1⟩=>?_);refine wpAny_Slice (thn (hl pins s1 U H1 _ I1 q1) λvl s2 ⟨l,H2,I2,pl,q2⟩=>thn (hu pins s2 U H2 _ I2 q2) λvu s3 ⟨u,H3,I3,pu,q3⟩=>?_);rw[evalPart_none];refine wpAny_pure ?_;have I4:Inv X pins U H3 { s3 with heap:=s3.heap.push { cls:=.type "slice",data:=.fields #[vl,vu,.none] } }:=I3.kept (t':=s3.toks) λb ob q=>Wad _ q;obtain⟨T,id,hT,ht,hg⟩:=hr pins { s3 with heap:=s3.heap.push { cls:=.type "slice",data:=.fields #[vl,vu,.none] } } U H3 x v vl vu l u s3.heap.objs.size Q I4 r1 (Heap.IsSliceOf.new ..) pl pu q3;show wpAny (model X.prog X.w) X.A (subscriptTail e (.Slice lo hi none p2) v (.ref s3.heap.objs.size)) (EP X pins U Q) X.xe { s3 with heap:=s3.heap.push { cls:=.type "slice",data:=.fields #[vl,vu,.none] } };exact tail_any (ops:=[.ref s3.heap.objs.size,v]) ht hT hg (by with_unfolding_all rfl)
def cutV (xs:List V) (lo hi:Option Int):List V:=(xs.drop<|HT.sIx xs.length 0 lo).take (HT.sIx xs.length xs.length hi-HT.sIx xs.length 0 lo)
theorem Zgi (xs:List V) (lo hi:Option Int):(cutV xs lo hi).length<=xs.length:=by
 unfold cutV;rw[Wbm,Wby];omega
def rSlT (K:W.Frag):V->Option Int->Option Int->Hp->VK->Prop:=λx lo hi H Q=>∃a xs,x=.ref a/\SqT K H a xs /\
 ¬ (HT.sIx xs.length 0 lo=0/\HT.sIx xs.length xs.length hi=xs.length)/\∀p,H p=none->Q (.ref p) (upd H p (.tup<|cutV xs lo hi))
theorem Zyx:SlR X (rSlT X.K):=by
 intro pins s U H x v vl vu lo hi sl Q I rx hs pl pu h;obtain⟨a,xs,rfl,hx,hw,q⟩:=h;cases rx;obtain⟨its,r,ht,hz⟩:=I.tuple hx;have hlen:its.toArray.size=xs.length:=by rw[War];exact r.length.symm
 refine⟨"tuple",_,PyProof.Rows.slot_tuple_getitem.lookup,ht.typeIs,?_⟩;refine HT.getItem_tuple_cut ht hs pl pu (by rw[hlen];exact hw) ?_ (by rw[hlen];exact hz);rw[hlen];refine⟨.ref s.heap.objs.size,_,I.laid (t':=s.toks) (o:=.tup<|cutV xs lo hi) (λb ob q=>Wad _ q) (Wag _) ?_,rfl,q _<|I.hok.fresh<|Wag _⟩;exact⟨Wbx (Zgi xs lo hi) hz,_,(r.drop<|HT.sIx xs.length 0 lo).take (HT.sIx xs.length xs.length hi-HT.sIx xs.length 0 lo),IsTupN.new _ _⟩
def rCatT (K:W.Frag):R2:=λx y H Q=>∃a b xs ys,x=.ref a/\y=.ref b/\SqT K H a xs/\SqT K H b ys/\xs≠[]/\xs.length+ys.length<=sizeLine /\
 (ys=[]->Q (.ref a) H)/\(ys≠[]->∀p,H p=none->Q (.ref p) (upd H p (.tup<|xs++ys)))
theorem Vals.nil_iff {xs:List V}{us:List Value}(r:Vals xs us):us=[]↔xs=[]:=by
 cases r with
 |nil=>simp
 |cons _ _=>simp
theorem Zwf:OpR X (binaryOp .Add) (rCatT X.K):=by
 intro pins s U H x y v u Q I rx ry h;obtain⟨a,b,xs,ys,rfl,rfl,ha,hb,hx,hz,q1,q2⟩:=h;cases rx;cases ry;obtain⟨its,r1,p1,_⟩:=I.tuple ha;obtain⟨its2,r2,p2,_⟩:=I.tuple hb;refine HT.cat_tup p1 p2 (λz=>hx<|r1.nil_iff.mp z) (λz=>⟨.ref a,H,I,rfl,q1<|r2.nil_iff.mp z⟩) (λz=>?_) (by rw[<- r1.length,<- r2.length];exact hz);refine⟨.ref s.heap.objs.size,_,I.laid (t':=s.toks) (o:=.tup<|xs++ys) (λb ob q=>Wad _ q) (Wag _) ?_,rfl,q2 (λw=>z<|r2.nil_iff.mpr w) _<|I.hok.fresh<|Wag _⟩;exact⟨by rw[Wai];exact hz,_,r1.append r2,IsTupN.new _ _⟩
end
def ixN (n:Nat) (i:Int):Option Nat:=if 0<=i then (if i<n then some i.toNat else none) else if -(n:Int)<=i then some (i+n).toNat else none
def atI {α:Type}(xs:List α) (i:Int):Option α:=(ixN xs.length i).bind λj=>xs[j]?
theorem Zpx {n:Nat}{i:Int}{j:Nat}(h:ixN n i=some j):seqIndex? i n=some j/\j<n /\ -(n:Int)<=i/\i<n:=by
 unfold ixN at h;by_cases h0:0<=i
 ·rw[if_pos h0]at h
  by_cases h1:i<n
  ·rw[if_pos h1]at h
   have e:i.toNat=j:=Wbs.inj h;exact⟨by rw[seqIndex_of h0 h1,e],by omega,by omega,h1⟩
  ·rw[if_neg h1]at h;cases h
 ·rw[if_neg h0]at h
  by_cases h1:-(n:Int)<=i
  ·rw[if_pos h1]at h
   have e:(i+n).toNat=j:=Wbs.inj h;exact⟨by rw[seqIndex_neg (by omega) h1,e],by omega,h1,by omega⟩
  ·rw[if_neg h1]at h;cases h
theorem Zk0 {α:Type}{xs:List α}{i:Int}{v:α}(h:atI xs i=some v):∃j,seqIndex? i xs.length=some j/\xs[j]?=some v/\j<xs.length /\ -(xs.length:Int)<=i/\i<xs.length:=by
 unfold atI at h;cases e:ixN xs.length i with
 |none=>rw[e]at h;cases h
 |some j=>
  rw[e]at h;obtain⟨h1,h2,h3,h4⟩:=Zpx e;exact⟨j,h1,h,h2,h3,h4⟩
theorem Zb7 {α:Type}{xs:List α}{j:Nat}{v:α}(h:xs[j]?=some v):atI xs (j:Int)=some v:=by
 have hj:j<xs.length:=(Waf.mp h).1;have e:ixN xs.length (j:Int)=some j:=by
  unfold ixN;rw[if_pos (by omega),if_pos (by omega)];simp
 unfold atI;rw[e];exact h
theorem Zsm {α:Type}(xs:List α) (v:α):atI (xs++[v]) (-1)=some v:=by
 have hl:(xs++[v]).length=xs.length+1:=by simp
 have e:ixN (xs++[v]).length (-1)=some xs.length:=by
  unfold ixN;rw[hl,if_neg (by decide),if_pos (by omega)];congr 1;omega
 unfold atI;rw[e];show (xs++[v])[xs.length]?=some v;simp
def PlainIx (b:Expr):Prop:=∀o i,subscripted b false o i=operate [o,i] (getItem o i)
def IxR (X:Cx) (r:R2):Prop:=
 ∀(value slice:Expr) (pins:List (Addr × Obj)) (s:Shared) (U:St) (H:Hp) (x y:V) (v u:Value) (Q:VK),Inv X pins U H s->RelV x v->RelV y u->r x y H Q ->
  subscripted slice false v u=operate [v,u] (getItem v u)->wpAny (model X.prog X.w) X.A (subscriptTail value slice v u) (EP X pins U Q) X.xe s
def MtR (X:Cx) (id:String) (r:V->List V->Hp->VK->Prop):Prop:=
 ∀(pins:List (Addr × Obj)) (s:Shared) (U:St) (H:Hp) (x:V) (xs:List V) (v:Value) (us:List Value) (Q:VK),Inv X pins U H s->RelV x v->Vals xs us->r x xs H Q ->
  wpAny (model X.prog X.w) X.A (call (.builtin id) (v::us)) (EP X pins U Q) X.xe s
section
variable {X:Cx}{a b:Expr}{ta tb:TE}{pos:Pos}
theorem IxR.or {r r':R2}(h:IxR X r) (h':IxR X r'):IxR X (λx y H Q=>r x y H Q\/r' x y H Q):=by
 intro value slice pins s U H x y v u Q I rx ry q hs;rcases q with q|q
 ·exact h value slice pins s U H x y v u Q I rx ry q hs
 ·exact h' value slice pins s U H x y v u Q I rx ry q hs
theorem Za0 {r:R2}(hr:IxR X r) (ha:PE X a ta) (hb:PE X b tb) (hs:PlainIx b):PE X (.Subscript a b pos) (tOp r ta tb):=by
 intro pins s U H Q I h;exact Subscript_ (binT ha hb I h λv u s2 x y H2 I2 rx ry q=>hr a b pins s2 U H2 x y v u Q I2 rx ry q<|hs _ _)
def rIxL (K:W.Frag):R2:=λx y H Q=>∃p xs i v,x=.ref p/\y=.int i/\SqL K H p xs/\atI xs i=some v/\Q v H
def rIxT (K:W.Frag):R2:=λx y H Q=>∃p xs i v,x=.ref p/\y=.int i/\SqT K H p xs/\atI xs i=some v/\Q v H
def rIxS:R2:=λx y H Q=>∃z i c,x=.str z/\y=.int i/\z.length<=sizeLine/\atI z.cps.toList i=some c/\Q (.str ⟨#[c]⟩) H
theorem Zvf:IxR X (rIxL X.K):=by
 intro value slice pins s U H x y v u Q I rx ry h hs;obtain⟨p,xs,i,z,rfl,rfl,hq,he,q⟩:=h;cases rx;obtain⟨t,rfl⟩:=ry;obtain⟨its,r,pl,hz⟩:=I.list hq;obtain⟨j,h1,h2,h3,h4,h5⟩:=Zk0 he;obtain⟨w,ew,rw'⟩:=r.get h2;have hl:=r.length;have hn:=line63;have fin:EP X pins U Q w s:=⟨z,H,I,rw',q⟩;by_cases h0:0<=i
 ·have hj:i.toNat=j:=by
   rw[seqIndex_of h0 h5]at h1;exact Wbs.inj h1
  exact item_listR pl.isList h0 (by omega) (by rw[hj];simpa using ew) fin hs
 ·have hj:(i+(its.toArray.size:Int)).toNat=j:=by
   rw[seqIndex_neg (by omega) h4]at h1;rw[War,<- hl];exact Wbs.inj h1
  exact subscriptTail_builtinR (x:=w) pl.isList.typeIs slot_list_getitem.lookup
   (wpAny_getItem_list_neg (Q:=λr s'=>r=w/\EP X pins U Q r s') pl.isList (by omega) (by rw[War] <;> omega) (by omega) (by rw[hj];simpa using ew) ⟨rfl,fin⟩) hs
theorem Zxs:IxR X (rIxT X.K):=by
 intro value slice pins s U H x y v u Q I rx ry h hs;obtain⟨p,xs,i,z,rfl,rfl,hq,he,q⟩:=h;cases rx;obtain⟨t,rfl⟩:=ry;obtain⟨its,r,pl,hz⟩:=I.tuple hq;obtain⟨j,h1,h2,h3,h4,h5⟩:=Zk0 he;obtain⟨w,ew,rw'⟩:=r.get h2;have hl:=r.length;have hn:=line63;have fin:EP X pins U Q w s:=⟨z,H,I,rw',q⟩;exact subscriptTail_builtinR (x:=w) pl.typeIs slot_tuple_getitem.lookup
  (getItem_tuple (j:=j) (Q:=λr s'=>r=w/\EP X pins U Q r s') pl (by omega) (by omega) (by rw[War,<- hl];exact h1) (by simpa using ew) ⟨rfl,fin⟩) hs
theorem Zzk:IxR X rIxS:=by
 intro value slice pins s U H x y v u Q I rx ry h hs;obtain⟨z,i,c,rfl,rfl,hz,he,q⟩:=h;obtain⟨t,rfl⟩:=rx;obtain⟨t',rfl⟩:=ry;obtain⟨j,h1,h2,h3,h4,h5⟩:=Zk0 he;have hl:z.cps.toList.length=z.length:=by simp[Str.length]
 rw[hl]at h1 h4 h5;have hn:=line63;exact tail_any (typeIs_str s z t) slot_str_getitem.lookup (getItem_str (c:=c) (by
  have e1:decide (i < -(2 ^ 63:Int))=false:=decide_eq_false (by omega);have e2:decide (i >= 2 ^ 63)=false:=decide_eq_false (by omega);rw[e1,e2,Bool.or_false]) (by rw[h1];simpa using h2) ⟨.str ⟨#[c]⟩,H,I.tok _,⟨_,rfl⟩,q⟩) hs
def rIx (K:W.Frag):R2:=λx y H Q=>rIxL K x y H Q\/rIxT K x y H Q\/rIxS x y H Q
theorem Zzh:IxR X (rIx X.K):=Zvf.or<|Zxs.or Zzk
theorem Znc (its:List Value) (n j:Nat) (u:Value):Obj.mapSeq (·.setIfInBounds j u) { cls:=.type "list",data:=.seq its.toArray n } = { cls:=.type "list",data:=.seq (its.set j u).toArray n }:=by
 simp[Obj.mapSeq]
theorem Inv.lst {pins:List (Addr × Obj)}{U:St}{H:Hp}{s:Shared}{p:Addr}{xs:List V}(I:Inv X pins U H s) (h:H p=some (.lst xs)) :
  ∃(its:List Value) (n:Nat),Vals xs its/\s.heap.get? p=some { cls:=.type "list",data:=.seq its.toArray n } /\ xs.length<=sizeLine:=by
 obtain⟨z,its,n,r,e⟩:=I.hok p _ h;exact⟨its,n,r,e,z⟩
theorem Inv.lstUpd {pins:List (Addr × Obj)}{U:St}{H:Hp}{s:Shared}{p:Addr}{xs ys:List V}{its its':List Value}{n n':Nat}{f:Obj->Obj}(I:Inv X pins U H s) (h:H p=some (.lst xs))
  (ho:s.heap.get? p=some { cls:=.type "list",data:=.seq its.toArray n }) (hf:f { cls:=.type "list",data:=.seq its.toArray n } = { cls:=.type "list",data:=.seq its'.toArray n' }) (r:Vals ys its') (hz:ys.length<=sizeLine) (t:Nat) :
  Inv X pins U (upd H p (.lst ys)) { s with heap:=s.heap.update p f,toks:=t }:=by
 have e:(s.heap.update p f).get? p=some { cls:=.type "list",data:=.seq its'.toArray n' }:=by
  rw[Wce f ho (by rw[hf] <;> rfl),hf]
 refine I.write (x:=p) (e:=p) (by rw[h];trivial) (.inl rfl) (λb u hb q=>(Wcm _ _<|Ne.symm hb).trans q) ⟨_,e⟩ ?_;exact⟨hz,its',n',r,e⟩
def rSetL:V->V->V->Hp->(Hp->Prop)->Prop:=λo i v H Q=>∃p xs k j,o=.ref p/\i=.int k/\H p=some (.lst xs)/\ixN xs.length k=some j/\Q (upd H p (.lst<|xs.set j v))
theorem Zuc:PSet X rSetL:=by
 intro pins s U H o i v ov iv u Q I ro ri rv h;obtain⟨p,xs,k,j,rfl,rfl,hp,hj,q⟩:=h;cases ro;obtain⟨t,rfl⟩:=ri;obtain⟨its,n,r,ho,hz⟩:=I.lst hp;obtain⟨h1,h2,h3,h4⟩:=Zpx hj;have hl:=r.length;have hn:=line63;have I':Inv X pins U (upd H p (.lst<|xs.set j v)) { s with heap:=s.heap.update p (Obj.mapSeq (·.setIfInBounds j u)) }:=
  I.lstUpd hp ho (Znc its n j u) (r.set rv j) (by rw[Wcy];exact hz) s.toks
 by_cases h0:0<=k
 ·have hk:k.toNat=j:=by
   rw[seqIndex_of h0 h4]at h1;exact Wbs.inj h1
  exact PySem.W.ki_setAt ho h0 (by omega) (by rw[War,<- hl];exact h4) (by rw[hk];exact⟨_,I',q⟩)
 ·have hk:(k+(its.toArray.size:Int)).toNat=j:=by
   rw[seqIndex_neg (by omega) h3]at h1;rw[War,<- hl];exact Wbs.inj h1
  exact PySem.W.ki_setBack ho (by omega) (by rw[War,<- hl];exact h3) (by omega) (by rw[hk];exact⟨_,I',q⟩)
theorem Zkp (lo hi:Option Int) (n:Nat):(sliceBounds lo hi none n).1=((HT.sIx n 0 lo:Nat):Int)/\(sliceBounds lo hi none n).2.1=((HT.sIx n n hi:Nat):Int)/\(sliceBounds lo hi none n).2.2=1:=by
 refine⟨?_,?_,rfl⟩
 ·cases lo with
  |none=>simp[sliceBounds,HT.sIx]
  |some i=>
   simp only[sliceBounds,HT.sIx,Wel,show (1:Int) > 0 by decide,if_true];by_cases h:i<0
   ·simp only[h,if_true] <;> omega
   ·simp only[h,if_false] <;> omega
 ·cases hi with
  |none=>simp[sliceBounds,HT.sIx]
  |some i=>
   simp only[sliceBounds,HT.sIx,Wel,show (1:Int) > 0 by decide,if_true];by_cases h:i<0
   ·simp only[h,if_true] <;> omega
   ·simp only[h,if_false] <;> omega
theorem Zh9 (its:List Value) (lo hi:Option Int):slicePick its.toArray lo hi none=((its.drop<|HT.sIx its.length 0 lo).take (HT.sIx its.length its.length hi-HT.sIx its.length 0 lo)).toArray:=by
 obtain⟨h1,h2,h3⟩:=Zkp lo hi its.toArray.size;unfold slicePick;rw[h1,h2,h3];simp only[sliceRange_one,pick_run,War] <;> rfl
def rSlL (K:W.Frag):V->Option Int->Option Int->Hp->VK->Prop:=λx lo hi H Q=>∃a xs,x=.ref a/\SqL K H a xs/\∀p,H p=none->Q (.ref p) (upd H p (.lst<|cutV xs lo hi))
theorem Zxd:SlR X (rSlL X.K):=by
 intro pins s U H x v vl vu lo hi sl Q I rx hs pl pu h;obtain⟨a,xs,rfl,hx,q⟩:=h;cases rx;obtain⟨its,r,ht,hz⟩:=I.list hx;have hlen:=r.length;refine⟨"list",_,slot_list_getitem.lookup,ht.isList.typeIs,?_⟩;refine wpAny_getItem_list_slice ht.isList hs pl pu .none (by simp) ?_ (by rw[War] <;> omega)
 rw[Zh9,<- hlen];refine⟨.ref s.heap.objs.size,_,I.laid (t':=s.toks) (o:=.lst<|cutV xs lo hi) (λb ob q=>Wad _ q) (Wag _) ?_,rfl,q _<|I.hok.fresh<|Wag _⟩;exact⟨Wbx (Zgi xs lo hi) hz,_,0,(r.drop<|HT.sIx xs.length 0 lo).take (HT.sIx xs.length xs.length hi-HT.sIx xs.length 0 lo),Wao _ rfl⟩
def flatV:V->Bool
 |.non=>true
 |.bl _=>true
 |.int _=>true
 |.str _=>true
 |_=>false
def eqV:V->V->Bool
 |.non,.non=>true
 |.bl a,.bl b=>a == b
 |.bl a,.int b=>(if a then 1 else 0) == b
 |.int a,.bl b=>a == (if b then 1 else 0)
 |.int a,.int b=>a == b
 |.str a,.str b=>a == b
 |_,_=>false
theorem Zul {A:Around}{s:Shared}{y x:V}{u v:Value}(ry:RelV y u) (rx:RelV x v) (fy:flatV y=true) (fx:flatV x=true):SeqAt.EqAt A s u v (eqV y x):=by
 cases y with
 |non=>
  cases ry;cases x with
  |non=>cases rx;exact SeqAt.EqAt.same _
  |bl b=>cases rx;exact SeqAt.EqAt.none_bool b
  |int b=>obtain⟨t,rfl⟩:=rx;exact SeqAt.EqAt.none_int b t
  |str b=>obtain⟨t,rfl⟩:=rx;exact SeqAt.EqAt.none_str b t
  |_=>exact absurd (show false=true from fx) Wal
 |bl a=>
  cases ry;cases x with
  |non=>cases rx;exact SeqAt.EqAt.bool_none a
  |bl b=>cases rx;exact SeqAt.EqAt.bool_bool a b
  |int b=>obtain⟨t,rfl⟩:=rx;exact SeqAt.EqAt.bool_int a b t
  |str b=>obtain⟨t,rfl⟩:=rx;exact SeqAt.EqAt.bool_str a b t
  |_=>exact absurd (show false=true from fx) Wal
 |int a=>
  obtain⟨t',rfl⟩:=ry;cases x with
  |non=>cases rx;exact SeqAt.EqAt.int_none a t'
  |bl b=>cases rx;exact SeqAt.EqAt.int_bool a t' b
  |int b=>obtain⟨t,rfl⟩:=rx;exact SeqAt.EqAt.int_int a t' b t
  |str b=>obtain⟨t,rfl⟩:=rx;exact SeqAt.EqAt.int_str a t' b t
  |_=>exact absurd (show false=true from fx) Wal
 |str a=>
  obtain⟨t',rfl⟩:=ry;cases x with
  |non=>cases rx;exact SeqAt.EqAt.str_none a t'
  |bl b=>cases rx;exact SeqAt.EqAt.str_bool a t' b
  |int b=>obtain⟨t,rfl⟩:=rx;exact SeqAt.EqAt.str_int a t' b t
  |str b=>obtain⟨t,rfl⟩:=rx;exact SeqAt.EqAt.str_str a t' b t
  |_=>exact absurd (show false=true from fx) Wal
 |_=>exact absurd (show false=true from fy) Wal
def eqU (x:V) (u:Value):Bool:=match u with
 |.none=>eqV .non x
 |.bool b=>eqV (.bl b) x
 |.int i _=>eqV (.int i) x
 |.str z _=>eqV (.str z) x
 |_=>false
theorem Zmb {x y:V}{u:Value}(r:RelV y u) (f:flatV y=true):eqU x u=eqV y x:=by
 cases y with
 |non=>cases r;rfl
 |bl b=>cases r;rfl
 |int i=>obtain⟨t,rfl⟩:=r;rfl
 |str z=>obtain⟨t,rfl⟩:=r;rfl
 |_=>exact absurd (show false=true from f) Wal
theorem Zgw {x:V}:∀{xs:List V}{us:List Value},Vals xs us->xs.all flatV=true->us.any (eqU x)=xs.any λy=>eqV y x
 |_,_,.nil,_=>rfl
 |y::xs,u::us,.cons r t,f=>by
  rw[List.all_cons,Wbc]at f;rw[Wdg,Wdg,Zmb r f.1,Zgw t f.2]
theorem Zez {A:Around}{s:Shared}{x:V}{v:Value}(rx:RelV x v) (fx:flatV x=true):∀{xs:List V}{us:List Value},Vals xs us->xs.all flatV=true->∀u∈us,SeqAt.EqAt A s u v (eqU x u)
 |_,_,.nil,_=>λu hu=>by cases hu
 |y::xs,u::us,.cons r t,f=>λu' hu=>by
  rw[List.all_cons,Wbc]at f;rcases Wan.mp hu with rfl|hu
  ·rw[Zmb r f.1];exact Zul r rx f.1 fx
  ·exact Zez rx fx t f.2 u' hu
def inV (x:V) (xs:List V):Bool:=xs.any λy=>eqV y x
def rIn (K:W.Frag) (neg:Bool):R2:=λx y H Q=>∃p xs,y=.ref p/\(SqL K H p xs\/SqT K H p xs)/\flatV x=true/\xs.all flatV=true/\Q (.bl (if neg then !inV x xs else inV x xs)) H
theorem Zol:OpR X (compareOp .In) (rIn X.K false):=by
 intro pins s U H x y v u Q I rx ry h;obtain⟨p,xs,rfl,hq,fx,fs,q⟩:=h;cases ry;rcases hq with hq|hq
 ·obtain⟨its,r,pl,hz⟩:=I.list hq
  refine SeqAt.in_listAt (eqU x) pl.isList (λw hw=>Zez rx fx r fs w (by simpa using hw)) ⟨.bl _,H,I,rfl,?_⟩;rw[show its.toArray.any (eqU x)=its.any (eqU x) by simp,Zgw r fs];exact q
 ·obtain⟨its,r,pl,hz⟩:=I.tuple hq
  refine SeqAt.in_tupleAt (eqU x) pl (λw hw=>Zez rx fx r fs w (by simpa using hw)) ⟨.bl _,H,I,rfl,?_⟩;rw[show its.toArray.any (eqU x)=its.any (eqU x) by simp,Zgw r fs];exact q
theorem Zjx:OpR X (compareOp .NotIn) (rIn X.K true):=by
 intro pins s U H x y v u Q I rx ry h;obtain⟨p,xs,rfl,hq,fx,fs,q⟩:=h;cases ry;rcases hq with hq|hq
 ·obtain⟨its,r,pl,hz⟩:=I.list hq
  refine SeqAt.notIn_listAt (eqU x) pl.isList (λw hw=>Zez rx fx r fs w (by simpa using hw)) ⟨.bl _,H,I,rfl,?_⟩;rw[show its.toArray.any (eqU x)=its.any (eqU x) by simp,Zgw r fs];exact q
 ·obtain⟨its,r,pl,hz⟩:=I.tuple hq
  refine SeqAt.notIn_tupleAt (eqU x) pl (λw hw=>Zez rx fx r fs w (by simpa using hw)) ⟨.bl _,H,I,rfl,?_⟩;rw[show its.toArray.any (eqU x)=its.any (eqU x) by simp,Zgw r fs];exact q
theorem Zj6:CallR X (.builtin "len") (λxs H Q=>∃p ys,xs=[.ref p]/\(SqL X.K H p ys\/SqT X.K H p ys)/\Q (.int ys.length) H):=by
 intro pins s U H xs us Q I r h;obtain⟨p,ys,rfl,hq,q⟩:=h;obtain⟨u,rfl,rx⟩:=vals1 r;cases rx;have hn:=line63;rcases hq with hq|hq
 ·obtain⟨its,r',pl,hz⟩:=I.list hq
  have hlen:=r'.length;exact Calls.call_len_list pl.isList (by simp only[War] <;> omega) ⟨.int ys.length,H,I.tok _,⟨s.toks+1,by rw[War,hlen]⟩,q⟩
 ·obtain⟨its,r',pl,hz⟩:=I.tuple hq
  have hlen:=r'.length;exact len_tuple pl (by simp only[War] <;> omega) ⟨.int ys.length,H,I.tok _,⟨s.toks+1,by rw[War,hlen]⟩,q⟩
theorem CallR.or {f:Value}{r r':List V->Hp->VK->Prop}(h:CallR X f r) (h':CallR X f r'):CallR X f (λxs H Q=>r xs H Q\/r' xs H Q):=by
 intro pins s U H xs us Q I rs q;rcases q with q|q
 ·exact h pins s U H xs us Q I rs q
 ·exact h' pins s U H xs us Q I rs q
theorem Zkk:CallR X (.type "list") (λxs H Q=>∃p ys,xs=[.ref p]/\(SqL X.K H p ys\/SqT X.K H p ys)/\∀l,H l=none->Q (.ref l) (upd H l (.lst ys))):=by
 intro pins s U H xs us Q I r h;obtain⟨p,ys,rfl,hq,q⟩:=h;obtain⟨u,rfl,rx⟩:=vals1 r;cases rx;have fin:∀(its:List Value),Vals ys its->ys.length<=sizeLine->∀(h':Heap) (c':Nat),(∀b o',s.heap.get? b=some o' -> h'.get? b=some o') ->
   h'.get? s.heap.objs.size=some { cls:=.type "list",dict:=none,data:=.seq its.toArray c',slots:=#[] } -> EP X pins U Q (.ref s.heap.objs.size) { s with heap:=h' }:=λits r' hz h' c' kp e=>
  ⟨.ref s.heap.objs.size,_,I.laid (t':=s.toks) kp (Wag _) (show ObjOk X.prog X.w _ h' _ (.lst ys) from ⟨hz,its,c',r',e⟩),rfl,q _<|I.hok.fresh<|Wag _⟩
 rcases hq with hq|hq
 ·obtain⟨its,r',pl,hz⟩:=I.list hq
  have hlen:=r'.length;obtain⟨o,ho,hc,n,hd⟩:=pl.isList;exact call_list_seq p (.inl rfl) ho hc hd (λh' c' kp e=>fin its r' hz h' c' kp e) (by simp only[War] <;> omega)
 ·obtain⟨its,r',pl,hz⟩:=I.tuple hq
  have hlen:=r'.length;obtain⟨o,ho,hc,n,hd⟩:=pl;exact call_list_seq p (.inr rfl) ho hc hd (λh' c' kp e=>fin its r' hz h' c' kp e) (by simp only[War] <;> omega)
theorem Zio:CallR X (.type "tuple") (λxs H Q=>∃p ys,xs=[.ref p]/\((SqL X.K H p ys/\∀l,H l=none->Q (.ref l) (upd H l (.tup ys)))\/(SqT X.K H p ys/\Q (.ref p) H))):=by
 intro pins s U H xs us Q I r h;obtain⟨p,ys,rfl,h⟩:=h;obtain⟨u,rfl,rx⟩:=vals1 r;cases rx;rcases h with ⟨hq,q⟩|⟨hq,q⟩
 ·obtain⟨its,r',pl,hz⟩:=I.list hq
  have hlen:=r'.length;refine call_tuple_list pl.isList (λh' kp=>?_) (by simp only[War] <;> omega)
  have I1:Inv X pins U H { s with heap:=h' }:=I.kept (t':=s.toks) kp;have I2:Inv X pins U (upd H h'.objs.size (.tup ys)) { s with heap:=h'.push { cls:=.type "tuple",data:=.seq its.toArray } }:=
   I1.laid (t':=s.toks) (λb o e=>Wad _ e) (Wag _) (show ObjOk X.prog X.w _ _ _ (.tup ys) from ⟨hz,its,r',IsTupN.new _ _⟩)
  exact⟨.ref h'.objs.size,_,I2,rfl,q _<|I1.hok.fresh<|Wag _⟩
 ·obtain⟨its,r',pl,hz⟩:=I.tuple hq
  exact call_tuple_same pl ⟨.ref p,H,I,rfl,q⟩
def tyV (K:W.Frag) (T:String) (x:V) (H:Hp):Prop:=match x with
 |.str _=>T = "str"
 |.int _=>T = "int"
 |.ref p=>(T = "list" /\ ∃xs,SqL K H p xs)\/(T = "tuple" /\ ((∃o,K.lookup p=some o/\o.cls=.type "tuple" /\ o.dict=none)\/∃xs,H p=some (.tup xs))) \/
   (T = "dict" /\ ((∃kvs,H p=some (.dK kvs))\/∃kvs,H p=some (.dT kvs)))\/(T = "set" /\ ∃S n,H p=some (.set S n))
 |_=>False
theorem Zy7 {pins:List (Addr × Obj)}{U:St}{H:Hp}{s:Shared}{T:String}{x:V}{v:Value}(I:Inv X pins U H s) (r:RelV x v) (ty:tyV X.K T x H) :
  s.TypeIs v T/\∀a,v=.ref a->∃ob,s.heap.get? a=some ob/\ob.dict=none:=by
 cases x with
 |str z=>
  obtain⟨t,rfl⟩:=r;cases (show T = "str" from ty);exact⟨typeIs_str s z t,λ_ e=>nomatch e⟩
 |int i=>
  obtain⟨t,rfl⟩:=r;cases (show T = "int" from ty);exact⟨typeIs_int s i t,λ_ e=>nomatch e⟩
 |ref p=>
  cases r;rcases ty with ⟨rfl,xs,hq⟩|⟨rfl,(⟨o,hk,hc,hd⟩|⟨xs,hk⟩)⟩|⟨rfl,hk⟩|⟨rfl,S,n,hk⟩
  ·obtain⟨its,_,pl,_⟩:=I.list hq
   refine⟨pl.isList.typeIs,λa e=>?_⟩;cases e;obtain⟨o,n,e,c,hd,_⟩:=pl;exact⟨o,e,hd⟩
  ·refine⟨⟨o,I.kIn p o hk,hc⟩,λa e=>?_⟩
   cases e;exact⟨o,I.kIn _ o hk,hd⟩
  ·obtain⟨_,_,_,o,e,⟨hc,_⟩,hd⟩:=I.hok p _ hk
   refine⟨⟨o,e,hc⟩,λa e2=>?_⟩;cases e2;exact⟨o,e,hd⟩
  ·have z:∃o,s.heap.get? p=some o/\o.ExactDict:=by
    rcases hk with ⟨kvs,hk⟩|⟨kvs,hk⟩
    ·obtain⟨_,_,_,_,o,_,_,e,ex,_⟩:=I.hok p _ hk
     exact⟨o,e,ex⟩
    ·obtain⟨_,_,_,_,o,_,_,e,ex,_⟩:=I.hok p _ hk
     exact⟨o,e,ex⟩
   obtain⟨o,e,ex⟩:=z;refine⟨⟨o,e,ex.1⟩,λa e2=>?_⟩;cases e2;exact⟨o,e,ex.2.1⟩
  ·obtain⟨o,_,_,_,e,ex,_⟩:=I.hok p _ hk
   refine⟨⟨o,e,ex.1⟩,λa e2=>?_⟩;cases e2;exact⟨o,e,ex.2.1⟩
 |_=>exact False.elim ty
def tBM (K:W.Frag) (T:String) (r:V->List V->Hp->VK->Prop) (to:TE) (t:TA):TE:=λU H Q=>to U H λx H1=>tyV K T x H1/\t U H1 λxs H2=>r x xs H2 Q
variable {o e:Expr}{es:List Expr}{to:TE}{t:TA}{name:Str}{apos cpos:Pos}{T id:String}{r:V->List V->Hp->VK->Prop}
theorem Zzu (pa:PlainAttrs T) (slot:Slot T name id) (hty:typeOf (.builtin id)=pure (.type "method_descriptor")) (hm:MtR X id r) (ho:PE X o to) (ha:PA X (e::es) t)
  (hbase:attributeBase o name X.env (eval o X.env)=eval o X.env:=by rfl)
  (hfew:((backTo cpos (starEach (e::es) X.env)).all (λx=>!x.1) && (backToKw cpos (keywordEach [] X.env)).all (λx=>x.1.isSome)
   && decide ((e::es).length+([]:List Keyword).length+(if ([]:List Keyword).isEmpty then 0 else 1)<30))=true:=by rfl)
  (hline:(apos.endLine == cpos.line)=true:=by rfl) (hs:starEach (e::es) X.env=(false,eval e X.env)::starEach es X.env:=by rfl) (hplain:(backTo cpos<|starEach es X.env).any (·.1)=false:=by rfl) :
  PE X (.Call (.Attribute o name apos) (e::es) [] cpos) (tBM X.K T r to t):=by
 intro pins s U H Q I h;refine wpAny_Call_method_late hbase hfew hline rfl (thn (ho pins s U H _ I h) λv s1 ⟨x,H1,I1,r1,ty,q1⟩=>?_);obtain⟨h1,h2⟩:=Zy7 I1 r1 ty;refine⟨T,id,pa,slot,hty,h1,h2,?_⟩;have hA:=ha cpos pins s1 U H1 _ I1 q1;rw[hs]at hA ⊢;refine Calls.callWith_builtin (by show (false || (backTo cpos<|starEach es X.env).any (·.1))=false;rw[hplain] <;> rfl)<|Calls.evalArgs_plain ?_
 exact thn hA λus s2 ⟨vs,H2,I2,r2,q2⟩=>hm pins s2 U H2 x vs v us Q I2 r1 r2 q2
end
def MtM (X:Cx) (id:String) (r:V->List V->Hp->VK->Prop):Prop:=
 ∀(pins:List (Addr × Obj)) (s:Shared) (U:St) (H:Hp) (x:V) (xs:List V) (v:Value) (us:List Value) (Q:VK),Inv X pins U H s->RelV x v->Vals xs us->r x xs H Q ->
  wpAny (model X.prog X.w) X.A (call (.builtin id) (v::us)) (EP X pins U Q) X.xe s
theorem Vals.one:∀{x:V}{us:List Value},Vals [x] us->∃u,us=[u]/\RelV x u:=by
 intro x us h;cases h with|cons r t=>cases t;exact⟨_,rfl,r⟩
theorem Vals.two:∀{x y:V}{us:List Value},Vals [x,y] us->∃u v,us=[u,v]/\RelV x u/\RelV y v:=by
 intro x y us h;cases h with|cons r t=>cases t with|cons q t=>cases t;exact⟨_,_,rfl,r,q⟩
theorem Vals.reverse {xs:List V}{us:List Value}(h:Vals xs us):Vals xs.reverse us.reverse:=by
 induction h with
 |nil=>exact .nil
 |cons r t ih=>rw[Wc8,Wc8];exact Vals.append ih (.cons r .nil)
section
variable {X:Cx}{pins:List (Addr × Obj)}{U:St}{H:Hp}{s:Shared}{l b:Addr}{xs ys zs:List V}
theorem Inv.lset {its its':List Value}{n:Nat}{f:Array Value->Array Value}{t':Nat}(I:Inv X pins U H s) (hH:H l=some (.lst xs))
  (e:s.heap.get? l=some { cls:=.type "list",data:=.seq its.toArray n }) (hf:f its.toArray=its'.toArray) (hv:Vals ys its') (hz:ys.length<=sizeLine) :
  Inv X pins U (upd H l (.lst ys)) { s with heap:=s.heap.update l<|Obj.mapSeq f,toks:=t' }:=by
 have q:=PySem.IsL.update e f;rw[hf]at q;refine I.write (x:=l) (e:=l) (by rw[hH];exact trivial) (.inl rfl) (λb' u hb hu=>(Wcm s.heap (Obj.mapSeq f)<|Ne.symm hb).trans hu) ⟨_,q⟩ ?_;exact⟨hz,its',_,hv,q⟩
theorem Inv.lnew {its:List Value}{t':Nat}(I:Inv X pins U H s) (hv:Vals ys its) (hz:ys.length<=sizeLine) :
  Inv X pins U (upd H s.heap.objs.size (.lst ys)) { s with heap:=s.heap.push { cls:=.type "list",data:=.seq its.toArray },toks:=t' }:=
 I.laid (λ_ _ q=>Wad _ q) (Wag _) ⟨hz,its,0,hv,Wao _ rfl⟩
theorem Inv.fresh (I:Inv X pins U H s):H s.heap.objs.size=none:=I.hok.fresh<|Wag _
theorem Inv.lstM (I:Inv X pins U H s) (hH:H l=some (.lst xs)):xs.length<=sizeLine/\∃(its:List Value) (n:Nat),Vals xs its/\xs.length=its.length/\s.heap.get? l=some { cls:=.type "list",data:=.seq its.toArray n }:=by
 obtain⟨z,its,n,r,e⟩:=I.hok l _ hH;exact⟨z,its,n,r,r.length,e⟩
end
section
variable {X:Cx}
def rAppend:V->List V->Hp->VK->Prop:=λx vs H Q=>∃l xs y,x=.ref l/\vs=[y]/\H l=some (.lst xs)/\xs.length<sizeLine/\Q .non (upd H l (.lst<|xs++[y]))
theorem Zcc:MtM X "list.append" rAppend:=by
 intro pins s U H x vs v us Q I rx rv h;obtain⟨l,xs,y,rfl,rfl,hH,hz,q⟩:=h;cases rx;obtain⟨u,rfl,ru⟩:=rv.one;obtain⟨z,its,n,r,hl,e⟩:=I.lstM hH;refine call_meets F.slot_list_append ⟨_,e,rfl⟩ F.entry_list_append (F.args_list_append_2 _ _) (PySem.list_append l its.toArray n u (by rw[War];omega)) ⟨e,?_⟩;refine⟨.non,_,I.lset (its':=its++[u]) hH e (by simp) (r.append (.cons ru .nil)) ?_,rfl,q⟩;rw[Wai,Wbq];omega
def rCat:R2:=λx y H Q=>∃l b xs zs,x=.ref l/\y=.ref b/\H l=some (.lst xs)/\H b=some (.lst zs)/\xs.length+zs.length<=sizeLine/\∀p,H p=none->Q (.ref p) (upd H p (.lst<|xs++zs))
theorem Zxx:OpR X (binaryOp .Add) rCat:=by
 intro pins s U H x y v u Q I rx ry h;obtain⟨l,b,xs,zs,rfl,rfl,hH,hB,hz,q⟩:=h;cases rx;cases ry;obtain⟨z,its,n,r,hl,e⟩:=I.lstM hH;obtain⟨z2,its2,n2,r2,hl2,e2⟩:=I.lstM hB;refine PySem.P.add_list e e2 ?_ (by rw[War,War];omega);have ea:its.toArray++its2.toArray=(its++its2).toArray:=by simp
 rw[ea];exact⟨.ref _,_,I.lnew (t':=s.toks) (r.append r2) (by rw[Wai];omega),rfl,q _ I.fresh⟩
end
end L2
namespace Att
open PySem PySem.W PySem.Calls PyProof.Rows
theorem Zg9 {P:Params}{h:Heap}:∀(ns:List Int) (vs:List Value),WellAll P h vs (ns.map WData.int)->IntsAre vs ns:=by
 intro ns
 induction ns with
 |nil=>
  intro vs w;rw[List.map_nil]at w;cases w;exact .nil
 |cons n ns ih=>
  intro vs w;rw[Wbe]at w;cases w with
  |cons a b=>
   cases a;exact .cons _ _<|ih _ b
theorem Zq1 {l:OpenLaw}{n:Nat}(hn:l.most=some n) {P:Params}{h:Heap}{args:List WData}{vals:List Value}
  (hpre:l.row.toRowW.claim.pre args=true) (hwl:WellAll P h vals args) :
  ∃a vs ns,vals=[Value.ref a]/\args=[WData.list (ns.map WData.int)]/\h.get? a=some { cls:=.type "list",data:=.seq vs.toArray } /\ IntsAre vs ns/\ns.length<=n:=by
 have hsh:WShape.hasAll [] args [.list .int]=true:=(pre_splitW hpre).1;have hc:l.pre.holds [] { args:=args } = true:=(pre_splitW hpre).2;obtain⟨d,r,rfl,h1,h2⟩:=hasAllW_cons hsh;obtain rfl:=hasAllW_nil h2;obtain⟨xs,rfl,h3⟩:=hasW_list h1;obtain⟨ns,rfl⟩:=items_int h3;have hlen:ns.length<=n:=by
  unfold OpenLaw.pre at hc;have h4:(WTm.not (.lt (.lit (.int (n:Int))) (.len (.arg 0)))).holds [] { args:=[.list (ns.map .int)] } = true:=by
   have h4:=(holds_andW hc).1;rw[hn]at h4;exact h4
  have h5:=condW_of h4<|w_not<|w_lt w_lit<|w_len_list<|w_arg rfl;rw[Wab]at h5;refine Nat.le_of_not_lt λq=>?_;have q':(n:Int)<((ns.length:Nat):Int):=by omega
  first
   | (rw[decide_eq_true q']at h5;exact absurd h5 (by decide))
   | (simp at h5;omega)
 cases hwl with
 |cons w1 w2=>
  cases w2;cases w1 with
  |list ho hall=>exact⟨_,_,ns,rfl,rfl,ho,Zg9 ns _ hall,hlen⟩
theorem Zq4 (l:OpenLaw) (args:List WData):l.row.toRowW.claim.post args (.bool true) args=true:=
 postW_of (r:=l.row.toRowW) (X:=(true == true))
  (show WShape.has [] (.bool true) .bool=true by first|rfl|decide|simp[WShape.has,WShape.arms,WShape.armsAll])
  (show (WTm.eq .res (.lit (.bool true))).value [] { args:=args,res:=some (.bool true),after:=args } = some (.bool (true == true)) from w_eq_bool (w_res rfl) w_lit) rfl
theorem attach_call {l:OpenLaw}{n:Nat}{q:Program}{loose:List Str}{XP:(Str->Option Value)->Heap->Prop}{YP:World->Heap->Prop}{d:DefRec}
  (hn:l.most=some n) (hdf:d.params.defaults=[])
  (call:∀(w:World) (s₀ s₁:Shared) (mg mb:Str->Option Value) (fa:Addr) (o:Obj) (pm cd doc:Value) (a:Addr) (vs:List Value) (ns:List Int),
   Ground q loose [] XP w s₀ mg mb s₁.heap->YP w s₁.heap ->
   s₁.heap.get? fa=some o->o.data=.func (docDef d.name d.params d.body d.scope pm cd doc)->s₁.heap.CodeRec cd d.name->mg d.name=some (.ref fa) ->
   s₁.heap.get? a=some { cls:=.type "list",data:=.seq vs.toArray } -> IntsAre vs ns->ns.length<=n->s₁.gens = #[] ->
   codeAny (model l.prog w) callerA (.call (.ref fa) ⟨[.ref a],[]⟩) (λr s'=>r=.ok (.ret (.bool true))/\OldK s₁.heap s'.heap/\s'.os=s₁.os/\AllBare s'.gens) s₁) :
  WalkO q loose XP YP l.row.toRowW d [] (λf vs=>PySem.call f vs):=by
 intro w s₀ s₁ mg mb G Y fa o pm cd doc dV kV ho hd hcd hD hmg hg args vals as hpre hlay hrd hwl hlo;obtain rfl:dV=.none:=Dflts.none hD hdf;obtain rfl:kV=.none:=Dflts.noKw hD;obtain⟨a,vs,ns,rfl,rfl,hobj,hints,hlen⟩:=Zq1 hn hpre hwl;refine enter_call (codeAny_mono (call w s₀ s₁ mg mb fa o pm cd doc a vs ns G Y ho (fd_plain hd) hcd hmg hobj hints hlen hg) λr s' hq=>?_);obtain⟨rfl,h2,h3,h4⟩:=hq;exact⟨.inl ⟨.bool true,.bool true,[],rfl,λ_=>rfl,.bool true,Zq4 l _,λ_=>⟨List.Pairwise.nil,λ_ hm=>(nomatch hm)⟩⟩,h2,h3,h4⟩
end Att
namespace L2
open PySem PySem.Spec PyProof.Rows
theorem Zfb:∀{vs:List Value}{ns:List Int},IntsAre vs ns->Vals (ns.map V.int) vs
 |_,_,.nil=>.nil
 |_,_,.cons n t h=>.cons ⟨t,rfl⟩ (Zfb h)
def Only (H:Hp):Prop:=∀b,H b=none\/∃o xs,H b=some (.frz o (.lst xs))
theorem Zsx {P:Program}{w:World}{K:W.Frag}{mg mb:Str->Option Value}{CX:CXT}{k:Nat}{fa a:Addr}{fd:FuncData}{x:Str}{sp:Sp}{s₁:Shared}{vs:List Value}{ns:List Int}
  (KX:K.In s₁.heap) (hns:s₁.heap.Ns mainGlobals mg) (hb:s₁.heap.Ns builtinsNs mb) (hbb:∀x:Str,x ≠ "__name__" -> mb x=bootBuiltins x) (hlim:s₁.heap.NoLimit) (hg:s₁.gens = #[])
  (ha:s₁.heap.get? a=some { cls:=.type "list",data:=.seq vs.toArray }) (hi:IntsAre vs ns) (hl:ns.length<=sizeLine) (hr:Room k callerA)
  (F:∀base:Heap,K.In base->base.Ns mainGlobals mg->FnOk P w K mg base CX k fa fd [x] sp) (hbind:∀(s:Shared) (u:Value),BindsTo s fd ⟨[u],[]⟩ [(x,u)])
  (hsp:∀H:Hp,Only H->SqL K H a (ns.map V.int)->sp [.ref a] H (λv _=>v=.bl true) λ_ _ _=>False)
  (hCX:∀H e s',CX [] H s₁ (λ_ _ _=>False) e s' -> False) :
  codeAny (model P w) callerA (.call (.ref fa) ⟨[.ref a],[]⟩) (λr s'=>r=.ok (.ret (.bool true))/\OldK s₁.heap s'.heap/\s'.os=s₁.os/\AllBare s'.gens) s₁:=by
 have rv:=Zfb hi;have lenV:=hi.length
 -- from an abstract heap in which nothing but the script may be tracked
 have core:∀H:Hp,Only H->SqL K H a (ns.map V.int)->HOk P w H s₁.heap->(∀b,H b≠none->b=a)->(H a≠none->K.lookup a=none) ->
   codeAny (model P w) callerA (.call (.ref fa) ⟨[.ref a],[]⟩) (λr s'=>r=.ok (.ret (.bool true))/\OldK s₁.heap s'.heap/\s'.os=s₁.os/\AllBare s'.gens) s₁:=by
  intro H hO hS hok hA hK;have base_of:∀{b:Addr}{o:Obj},s₁.heap.get? b=some o->H b=none->(hidT s₁.heap H).get? b=some o:=λe n=>Zr7 e n;have noA:∀{b:Addr}{o:Obj}{es:Array DictEntry}{ep:Nat},s₁.heap.get? b=some o->o.data=.dict es ep->H b=none:=λ{b o es ep} e d=>by
   cases q:H b with
   |none=>rfl
   |some u=>
    have e':b=a:=hA b (by rw[q];simp);subst e';rw[ha]at e;cases e;have d':Data.seq vs.toArray _=Data.dict es ep:=d;cases d'
  have nsK:∀{b:Addr}{m:Str->Option Value},s₁.heap.Ns b m->(hidT s₁.heap H).Ns b m:=λ{b m} ⟨o,es,ep,e,d,r⟩=>⟨o,es,ep,base_of e (noA e d),d,r⟩;have hKb:K.In (hidT s₁.heap H):=λb o e=>base_of (KX b o e) (by
   cases q:H b with
   |none=>rfl
   |some u=>
    have e':b=a:=hA b (by rw[q];simp);subst e';rw[hK (by rw[q];simp)]at e;cases e)
  have hM:Mod K mg (hidT s₁.heap H):=⟨hKb,nsK hns,⟨mb,nsK hb,hbb⟩,let ⟨mc,h1,h2⟩:=hlim; ⟨mc,nsK h1,h2⟩⟩;have e0:Env0 P w K mg (hidT s₁.heap H) callerA [] s₁ H:=⟨rfl,hM,λb o e=>Zwu e,Nat.le_of_eq<|Zql _ _,trivial,λb hb=>absurd (show b∈([]:List Addr) from hb) (by simp),hok,.of_eq hg⟩;refine codeAny_mono ((F _ hKb<|nsK hns).run callerA [] s₁ H ⟨[.ref a],[]⟩ [.ref a] [.ref a] _ _ hr e0 (hbind s₁ (.ref a)) (.cons rfl .nil) (hsp H hO hS)) λr s' h=>?_;cases r with
  |error e=>exact(hCX H e s' h).elim
  |ok fl=>
   cases fl with
   |next=>exact False.elim h
   |brk=>exact False.elim h
   |cont=>exact False.elim h
   |ret u=>
    obtain⟨v,H',os,bare,un,hok',r',q⟩:=h;have q':v=.bl true:=q;subst q';obtain rfl:u=Value.bool true:=r';refine⟨rfl,OldK.of_keep λb o e=>?_,os,bare⟩;cases q:H b with
    |none=>exact un.keep b o e q (by intro z;exact absurd (show b∈([]:List Addr) from z) (by simp)) (by simp)
    |some u=>
     rcases hO b with z|⟨ob,xs,z⟩
     ·rw[q]at z;cases z
     ·have z2:=un.frzs b ob _ z
      obtain⟨e1,_⟩:=hok b _ z;obtain⟨e2,_⟩:=hok' b _ z2;rw[e]at e1;cases e1;exact e2
 cases hk:K.lookup a with
 |some o=>
  -- the script is one of the module's own objects
  have e:=KX a o hk;rw[ha]at e;cases e;refine core (λ_=>none) (λ_=>.inl rfl) (.inr ⟨_,vs.toArray,_,hk,rfl,rfl,rfl,by rw[War,lenV];exact hl,by simpa using rv⟩) (λb u z=>by have z':(none:Option HO)=some u:=z;cases z') (λb z=>absurd rfl z) λz=>absurd rfl z
 |none=>
  refine core (λb=>if b=a then some (.frz { cls:=.type "list",data:=.seq vs.toArray } (.lst<|ns.map V.int)) else none) (λb=>?_) (.inl (.inr ⟨{ cls:=.type "list",data:=.seq vs.toArray },if_pos rfl⟩)) (λb u z=>?_) (λb z=>?_) λ_=>hk
  ·by_cases hb:b=a
   ·exact .inr ⟨_,_,if_pos hb⟩
   ·exact .inl<|if_neg hb
  ·by_cases hb:b=a
   ·have z':=(if_pos hb).symm.trans z
    cases z';subst hb;exact⟨ha,by rw[Wab];exact hl,vs,_,rv,ha⟩
   ·have z':=(if_neg hb).symm.trans z
    cases z'
  ·by_cases hb:b=a
   ·exact hb
   ·exact absurd (if_neg hb) z
theorem walk_of {l:PySem.W.OpenLaw}{n k:Nat}{q:Program}{loose:List Str}{XP:(Str->Option Value)->Heap->Prop}{YP:World->Heap->Prop}{d:DefRec}{K:Params->W.Frag}{CX:World->CXT}{sp:World->Sp}{x:Str}
  (hn:l.most=some n) (hn2:n<=sizeLine) (hdf:d.params.defaults=[]) (hr:Room k callerA)
  (hY:∀(w:World) (h:Heap),YP w h->(K w.params).In h)
  (F:∀(w:World) (mg:Str->Option Value) (fa:Addr) (h:Heap),(K w.params).In h->h.Ns mainGlobals mg->mg d.name=some (.ref fa) ->
   ∃fd:FuncData,(∀(s:Shared) (u:Value),BindsTo s fd ⟨[u],[]⟩ [(x,u)]) /\
    ∀base:Heap,(K w.params).In base->base.Ns mainGlobals mg->FnOk l.prog w (K w.params) mg base (CX w) k fa fd [x] (sp w))
  (hsp:∀(w:World) (H:Hp) (a:Addr) (ns:List Int),ns.length<=n->Only H->SqL (K w.params) H a (ns.map V.int)->sp w [.ref a] H (λv _=>v=.bl true) λ_ _ _=>False)
  (hCX:∀(w:World) (H:Hp) (s:Shared) (e:Value) (s':Shared),CX w [] H s (λ_ _ _=>False) e s' -> False) :
  PySem.W.WalkO q loose XP YP l.row.toRowW d [] (λf vs=>PySem.call f vs):=by
 refine Att.attach_call hn hdf λw s₀ s₁ mg mb fa o pm cd doc a vs ns G Y ho hd hcd hmg hobj hints hlen hg=>?_;have KX:=hY w _ Y;obtain⟨fd,hb,hF⟩:=F w mg fa _ KX G.T.g hmg;exact Zsx KX G.T.g G.T.b G.T.builtins G.T.nolimit hg hobj hints (Wbx hlen hn2) hr hF hb (λH hO hS=>hsp w H a ns hlen hO hS) λH e s'=>hCX w H s₁ e s'
def defArgs (s:Stmt):Arguments:=match s with
 |.FunctionDef _ a _ _ _ _ _ _ _ _=>a
 |_=>{ posonlyargs:=[],args:=[],vararg:=none,kwonlyargs:=[],kw_defaults:=[],kwarg:=none,defaults:=[] }
def defBody (s:Stmt):List Stmt:=match s with
 |.FunctionDef _ _ b _ _ _ _ _ _ _=>b
 |_=>[]
def defScope (s:Stmt):Scope:=match s with
 |.FunctionDef _ _ _ _ _ _ sc _ _ _=>sc
 |_=>{ kind:=.function,names:=[],isGenerator:=false,isCoroutine:=false }
abbrev CX0:CXT:=λ_ _ _ _ _ _=>False
abbrev E0:XK:=λ_ _ _=>False
theorem pass0 {X:Cx}:Passes CX0 X E0:=λ_ _ _ _ _ _ _ h=>h.elim
structure Fun (K:W.Frag) (x qual:Str) (st:Stmt) (f:Addr) (fd:FuncData):Prop where
 ex:∃(oc:Value) (od:Option Addr) (kV doc pm:Value) (an:Option Addr) (cdv ct:Value) (osl:Array (Option Value)),
  fd=W.fnOf x qual (defArgs st) (defBody st) (defScope st) .none kV doc pm an cdv ct/\K.lookup f=some ⟨oc,od,.func fd,osl⟩ /\ W.codeIn K cdv qual=true
 kp:W.keepIn K (.ref f)=true
section
variable {P:Program}{w:World}{K:W.Frag}{mg:Str->Option Value}{base:Heap}
theorem Fun.ok {x qual:Str}{st:Stmt}{f:Addr}{fd:FuncData}{N ps:List Str}{k:Nat}{sp:Sp}(F:Fun K x qual st f fd) (S:FnScope N ps (defScope st)) (len:∀vs H Q E,sp vs H Q E->vs.length=ps.length)
  (hbody:∀(cdv:Value) (A:Around) (outer:List Env) (s:Shared) (H:Hp) (vs:List V) (Q:VK) (E:XK),Room k (A.deeper (envOfC qual (defScope st) s.heap.objs.size f cdv))->sp vs H Q E ->
   ∃t,PSs (cxOf CX0 P w K mg base N qual (defScope st) f cdv A outer s H E).nox (defBody st) t/\t { nx:=λ_ H'=>Q .non H',rt:=Q } (start N vs) H):FnOk P w K mg base CX0 (k+1) f fd ps sp:=by
 obtain⟨oc,od,kV,doc,pm,an,cdv,ct,osl,rfl,lk,hcd⟩:=F.ex;refine Zz0 lk hcd S len λA outer s H vs Q E hr hsp=>?_;obtain⟨t,h,q⟩:=hbody cdv A outer s H vs Q E hr hsp;exact⟨t,h.nox,q⟩
theorem Fun.binds {x qual:Str}{st:Stmt}{f:Addr}{fd:FuncData}{ps:List Str}(F:Fun K x qual st f fd)
  (h:∀(kV doc pm:Value) (an:Option Addr) (cdv ct:Value) (us:List Value),us.length=ps.length->bindArgs (W.fnOf x qual (defArgs st) (defBody st) (defScope st) .none kV doc pm an cdv ct) ⟨us,[]⟩=pure (ps.zip us)):Binds K fd ps []:=by
 obtain⟨oc,od,kV,doc,pm,an,cdv,ct,osl,rfl,lk,hcd⟩:=F.ex;exact .all<|h kV doc pm an cdv ct
theorem Zxt {x qual:Str}{st:Stmt}{f:Addr}{oc:Value}{od an:Option Addr}{osl:Array (Option Value)}{kV doc pm cdv ct:Value}(l:K.lookup f=some ⟨oc,od,.func<|W.fnOf x qual (defArgs st) (defBody st) (defScope st) .none kV doc pm an cdv ct,osl⟩)
  (c:W.codeIn K cdv qual=true) (k:W.keepIn K (.ref f)=true):Fun K x qual st f (W.fnOf x qual (defArgs st) (defBody st) (defScope st) .none kV doc pm an cdv ct):=⟨⟨oc,od,kV,doc,pm,an,cdv,ct,osl,rfl,l,c⟩,k⟩
end
theorem Zby {A:Around}{k:Nat}(hr:Room k A):A.units+1<cLine:=Wcs (Nat.add_le_add_left (by decide:1<=64) _) hr.units
theorem small1000 {n:Nat}(h:n<=1000):n<sizeLine:=Wcs h (by decide)
section
variable {X:Cx}
theorem pv (i:Nat) {x:Str}{pos:Pos}(hN:X.N[i]?=some x:=by rfl) (hv:Vis X.env.scope x:=by first|exact Or.inl rfl|exact Or.inr (Or.inl rfl)|exact Or.inr<|Or.inr rfl) (hd:(x == ("__debug__":Str))=false:=by decide)
  (hcd:(x == ("__classdict__":Str))=false:=by decide):PE X (.Name x pos) (tVar i):=Zxz hN hv hd hcd
end
theorem iteF {A B:Prop}(h:B):if false=true then A else B:=by
 rw[if_neg Wal];exact h
theorem iteT {A B:Prop}(h:A):if true=true then A else B:=by
 rw[if_pos rfl];exact h
theorem ite2 {c A B:Prop}[Decidable c] (h1:c->A) (h2:¬ c->B):if c then A else B:=by
 by_cases h:c
 ·rw[if_pos h]
  exact h1 h
 ·rw[if_neg h]
  exact h2 h
def Same (H H':Hp):Prop:=∀b o,H b=some o->H' b=some o
theorem Same.refl (H:Hp):Same H H:=λ_ _ h=>h
theorem Same.trans {H H1 H2:Hp}(a:Same H H1) (b:Same H1 H2):Same H H2:=λc o h=>b c o<|a c o h
theorem Same.seq {K:W.Frag}{H H':Hp}{a:Addr}{xs:List V}(e:Same H H') (h:SqL K H a xs):SqL K H' a xs:=by
 rcases h with (h|⟨o,h⟩)|h
 ·exact .inl (.inl<|e _ _ h)
 ·exact .inl (.inr ⟨o,e _ _ h⟩)
 ·exact .inr h
section
variable {κ:Type}[DecidableEq κ]
def valV (kvs:List (κ × V)) (k:κ):Option V:=(kvs.find? λkv=>decide (kv.1=k)).map (·.2)
def putK (kvs:List (κ × V)) (k:κ) (v:V):List (κ × V):=
 if (kvs.any λkv=>decide (kv.1=k))=true then kvs.map (λkv=>if kv.1=k then (kv.1,v) else kv) else kvs++[(k,v)]
theorem Zf0 {p:κ × V}{r:List (κ × V)}{k:κ}(e:p.1=k):valV (p::r) k=some p.2:=by simp[valV,Wcd,e]
theorem Zgc {p:κ × V}{r:List (κ × V)}{k:κ}(e:¬ p.1=k):valV (p::r) k=valV r k:=by simp[valV,Wcd,e]
theorem Zly (k:κ):∀kvs:List (κ × V),(kvs.any λkv=>decide (kv.1=k))=(valV kvs k).isSome
 |[]=>rfl
 |p::r=>by
  rw[Wdg];by_cases e:p.1=k
  ·simp only[Zf0 e,decide_eq_true e,Bool.true_or,Option.isSome_some]
  ·rw[Zgc e,decide_eq_false e,Bool.false_or];exact Zly k r
theorem Zev (kvs:List (κ × V)) (k:κ) (v:V):(putK kvs k v).length<=kvs.length+1:=by
 unfold putK;split
 ·rw[Wab];omega
 ·rw[Wai,Waj,Wb6];omega
theorem RelO.isSome_eq {o:Option V}{u:Option Value}(r:RelO o u):o.isSome=u.isSome:=by
 cases o with
 |none=>cases u with
  |none=>rfl
  |some _=>exact(show False from r).elim
 |some _=>cases u with
  |none=>exact(show False from r).elim
  |some _=>rfl
theorem KV.val {kvs:List (κ × V)}{vs:List (κ × Value)}(r:KV kvs vs) (k:κ):RelO (valV kvs k) (valueAt vs k):=by
 unfold KV at r
 induction r with
 |nil=>exact True.intro
 |@cons p q ps qs h t ih=>
  obtain⟨h1,h2⟩:=h;by_cases e:p.1=k
  ·have e':q.1=k:=h1.symm.trans e
   have b:valueAt (q::qs) k=some q.2:=by simp[valueAt,Wcd,e']
   rw[Zf0 e,b];exact h2
  ·have e':¬ q.1=k:=λz=>e (h1.trans z)
   have b:valueAt (q::qs) k=valueAt qs k:=by simp[valueAt,Wcd,e']
   rw[Zgc e,b];exact ih
theorem KV.any {kvs:List (κ × V)}{vs:List (κ × Value)}(r:KV kvs vs) (k:κ):(kvs.any λkv=>decide (kv.1=k))=vs.any λkv=>decide (kv.1=k):=by
 unfold KV at r
 induction r with
 |nil=>rfl
 |cons h t ih=>rw[Wdg,Wdg,ih,h.1]
theorem KV.repl {kvs:List (κ × V)}{vs:List (κ × Value)}(r:KV kvs vs) (k:κ) {y:V}{u:Value}(ry:RelV y u) :
  KV (kvs.map λkv=>if kv.1=k then (kv.1,y) else kv) (vs.map λkv=>if kv.1=k then (kv.1,u) else kv):=by
 unfold KV at r ⊢
 induction r with
 |nil=>exact .nil
 |@cons p q ps qs h t ih=>
  rw[Wbe,Wbe];refine .cons ?_ ih;obtain⟨h1,h2⟩:=h;by_cases e:p.1=k
  ·rw[if_pos e,if_pos (h1.symm.trans e)];exact⟨h1,ry⟩
  ·rw[if_neg e,if_neg (λz=>e<|h1.trans z)];exact⟨h1,h2⟩
theorem KV.put {kvs:List (κ × V)}{vs:List (κ × Value)}(r:KV kvs vs) (k:κ) {y:V}{u:Value}(ry:RelV y u):KV (putK kvs k y) (stored vs k u):=by
 unfold putK stored;rw[r.any k];by_cases e:(vs.any λkv=>decide (kv.1=k))=true
 ·rw[if_pos e,if_pos e];exact r.repl k ry
 ·rw[if_neg e,if_neg e];exact Paired.snoc r ⟨rfl,ry⟩
theorem KV.length {kvs:List (κ × V)}{vs:List (κ × Value)}(r:KV kvs vs):kvs.length=vs.length:=Paired.length r
end
theorem Znl {P:Program}{w:World}{k:Key}{u:Value}(r:RelV (kV k) u):(mixKind P w).is k u=true:=by
 cases k with
 |inl i=>obtain⟨t,e⟩:=(show ∃t,u=Value.int i t from r);subst e;exact Zks P w i t
 |inr x=>obtain⟨t,e⟩:=(show ∃t,u=Value.str x t from r);subst e;exact Zkt P w x t
theorem Zkl {P:Program}{w:World}:∀{ks:List Key}{us:List Value},Vals (ks.map kV) us->ItemsAre (mixKind P w) ks us
 |[],_,r=>by rw[List.map_nil]at r;cases r;exact .nil
 |k::ks,_,r=>by
  rw[Wbe]at r;cases r with
  |cons h t=>exact .cons (Znl h) (Zkl t)
abbrev KT (H:Hp):List (List Key × V)->List (List Key × Addr × Value)->Prop:=Paired λp q=>p.1=q.1/\H q.2.1=some (.tup<|p.1.map kV)/\RelV p.2 q.2.2
theorem KT.val {H:Hp}{kvs:List (List Key × V)}{xs:List (List Key × Addr × Value)}(r:KT H kvs xs) (k:List Key):RelO (valV kvs k) ((atKey xs k).map (·.2)):=by
 induction r with
 |nil=>exact True.intro
 |@cons p q ps qs h t ih=>
  obtain⟨h1,_,h2⟩:=h;by_cases e:p.1=k
  ·have e':q.1=k:=h1.symm.trans e
   have b:atKey (q::qs) k=some q.2:=by simp[atKey,Wcd,e']
   rw[Zf0 e,b];exact h2
  ·have e':¬ q.1=k:=λz=>e (h1.trans z)
   have b:atKey (q::qs) k=atKey qs k:=by simp[atKey,Wcd,e']
   rw[Zgc e,b];exact ih
theorem KT.repl {H:Hp}{kvs:List (List Key × V)}{xs:List (List Key × Addr × Value)}(r:KT H kvs xs) (k:List Key) {y:V}{u:Value}(ry:RelV y u) :
  KT H (kvs.map λkv=>if kv.1=k then (kv.1,y) else kv) (xs.map<|putAt k u):=by
 induction r with
 |nil=>exact .nil
 |@cons p q ps qs h t ih=>
  rw[Wbe,Wbe];refine .cons ?_ ih;obtain⟨h1,h2,h3⟩:=h;unfold putAt;by_cases e:p.1=k
  ·rw[if_pos e,if_pos (h1.symm.trans e)];exact⟨h1,h2,ry⟩
  ·rw[if_neg e,if_neg (λz=>e<|h1.trans z)];exact⟨h1,h2,h3⟩
theorem KT.put {H:Hp}{kvs:List (List Key × V)}{xs:List (List Key × Addr × Value)}(r:KT H kvs xs) (k:List Key) {b:Addr}{y:V}{u:Value}(hb:H b=some (.tup<|k.map kV)) (ry:RelV y u) :
  KT H (putK kvs k y) (storedH xs k b u):=by
 have e:(kvs.any λkv=>decide (kv.1=k))=(atKey xs k).isSome:=by
  rw[Zly,(r.val k).isSome_eq,Wed]
 unfold putK storedH;rw[e];by_cases q:(atKey xs k).isSome=true
 ·rw[if_pos q,if_pos q];exact r.repl k ry
 ·rw[if_neg q,if_neg q];exact Paired.snoc r ⟨rfl,hb,ry⟩
theorem KT.keeps {H H':Hp}{kvs:List (List Key × V)}{xs:List (List Key × Addr × Value)}(r:KT H kvs xs) (ht:∀b ys,H b=some (.tup ys)->H' b=some (.tup ys)):KT H' kvs xs:=
 Paired.mapP r λ_ _ z=>⟨z.1,ht _ _ z.2.1,z.2.2⟩
section
variable {P:Program}{w:World}{H:Hp}{h:Heap}{a:Addr}
theorem Zy2 {u:HO}(ok:HOk P w H h) (e:Rd H a u):ObjOk P w H h a u:=e.ok ok
theorem Zod {kvs:List (Key × V)}(ok:HOk P w H h) (e:Rd H a (.dK kvs)):kvs.length<=sizeLine/\(a == sysModules)=false/\∃vs,KV kvs vs/\h.DictOf (mixKind P w) a vs:=
 show ObjOk P w H h a (.dK kvs) from Zy2 ok e
theorem Zza {kvs:List (Key × V)}(ok:HOk P w H h) (e:H a=some (.dK kvs)):kvs.length<=sizeLine/\(a == sysModules)=false/\∃vs,KV kvs vs/\h.DictOf (mixKind P w) a vs:=Zod ok (.inl e)
theorem Zke {ks:List Key}(ok:HOk P w H h) (e:H a=some (.tup<|ks.map kV)):(tupleKind<|mixKind P w).is h ks a:=by
 obtain⟨_,its,r,o,h1,⟨h2,n,h3⟩,_⟩:=(show ObjOk P w H h a (.tup<|ks.map kV) from ok a _ e);exact⟨o,its.toArray,n,h1,h2,h3,by simpa using Zkl r⟩
theorem Zoi {kvs:List (List Key × V)}(ok:HOk P w H h) (e:Rd H a (.dT kvs)):kvs.length<=sizeLine/\(a == sysModules)=false /\
  ∃xs,KT H kvs xs/\h.DictOfH (tupleKind<|mixKind P w) a xs:=by
 obtain⟨z,y,xs,r,o,es,ep,h1,h2,h3,h4,h5⟩:=(show ObjOk P w H h a (.dT kvs) from Zy2 ok e);refine⟨z,y,xs,r,o,es,ep,h1,h2,h3,h4,λx hx=>?_,h5⟩;have all:∀{l:List (List Key × V)}{m:List (List Key × Addr × Value)},KT H l m->∀x∈m,(tupleKind<|mixKind P w).is h x.1 x.2.1:=by
  intro l m q
  induction q with
  |nil=>intro x hx;exact nomatch hx
  |@cons p q ps qs hq t ih=>
   intro x hx;rcases Wan.mp hx with e|hx
   ·subst e
    exact Zke ok (by rw[<- hq.1];exact hq.2.1)
   ·exact ih x hx
 exact all r x hx
theorem Z0a {kvs:List (List Key × V)}(ok:HOk P w H h) (e:H a=some (.dT kvs)):kvs.length<=sizeLine/\(a == sysModules)=false /\
  ∃xs,KT H kvs xs/\h.DictOfH (tupleKind<|mixKind P w) a xs:=Zoi ok (.inl e)
end
def DGet (H:Hp) (a:Addr) (y:V) (r:Option V):Prop:=
 (∃kvs k,Rd H a (.dK kvs)/\y=kV k/\r=valV kvs k)\/∃kvs k b,Rd H a (.dT kvs)/\y=.ref b/\H b=some (.tup<|k.map kV)/\r=valV kvs k
def DPut (H:Hp) (a:Addr) (y v:V) (H':Hp):Prop:=
 (∃kvs k,H a=some (.dK kvs)/\y=kV k/\kvs.length<sizeLine/\H'=upd H a (.dK<|putK kvs k v)) \/
 ∃kvs k b,H a=some (.dT kvs)/\y=.ref b/\H b=some (.tup<|k.map kV)/\kvs.length<sizeLine/\H'=upd H a (.dT<|putK kvs k v)
theorem DGet.k {H:Hp}{a:Addr}{kvs:List (Key × V)}{k:Key}(e:H a=some (.dK kvs)):DGet H a (kV k) (valV kvs k):=.inl ⟨kvs,k,.inl e,rfl,rfl⟩
theorem DPut.k {H:Hp}{a:Addr}{kvs:List (Key × V)}{k:Key}{v:V}(e:H a=some (.dK kvs)) (hl:kvs.length<sizeLine):DPut H a (kV k) v (upd H a (.dK<|putK kvs k v)):=.inl ⟨kvs,k,e,rfl,hl,rfl⟩
section
variable {X:Cx}{pins:List (Addr × Obj)}{U:St}{H:Hp}{s:Shared}{a:Addr}{y v:V}{u r:Value}{o:Option V}{A:Around}{E:Value->Shared->Prop}
theorem Inv.big (I:Inv X pins U H s):sysModules<s.heap.objs.size:=by
 have h:mainGlobals<s.heap.objs.size:=(I.mod.glob.keeps I.bk).lt;exact Nat.lt_trans (by decide) h
theorem Zrq {Q:Value->Shared->Prop}(hu:A.units+1<cLine) (I:Inv X pins U H s) (g:DGet H a y (some v)) (ry:RelV y u) (h:∀w' s',Inv X pins U H s' -> RelV v w' -> Q w' s') :
  wpAny (model X.prog X.w) A (getItem (.ref a) u) Q E s:=by
 rcases g with ⟨kvs,k,e,ey,l⟩|⟨kvs,k,b,e,ey,eb,l⟩
 ·subst ey
  obtain⟨z,hd,vs,rel,dd⟩:=Zod I.hok e;obtain⟨w',hw,rw'⟩:=RelO.some_of (v:=v) (o:=valueAt vs k) (by rw[l];exact rel.val k);exact wpAny_getItem_of (Znl ry) dd.mapOf hw<|h w' _ (I.tok _) rw'
 ·subst ey
  cases (show u=Value.ref b from ry);obtain⟨z,hd,xs,rel,dd⟩:=Zoi I.hok e;obtain⟨w',hw,rw'⟩:=RelO.some_of (v:=v) (o:=(atKey xs k).map (·.2)) (by rw[l];exact rel.val k);obtain⟨p,hp,hp2⟩:=Option.map_eq_some_iff.mp hw;refine wpAny_getItem_heap (tupleKind_room_in1 hu) (Zke I.hok eb) dd hp ?_;rw[hp2];exact h w' _ (I.tok _) rw'
theorem d_in {Q:Value->Shared->Prop}(hu:A.units+1<cLine) (I:Inv X pins U H s) (g:DGet H a y o) (ry:RelV y u) (h:∀s',Inv X pins U H s' -> Q (.bool o.isSome) s') :
  wpAny (model X.prog X.w) A (compareOp .In u (.ref a)) Q E s:=by
 rcases g with ⟨kvs,k,e,ey,l⟩|⟨kvs,k,b,e,ey,eb,l⟩
 ·subst ey
  obtain⟨z,hd,vs,rel,dd⟩:=Zod I.hok e;refine wpAny_in_of (Znl ry) hd dd.mapOf ?_;rw[<- (rel.val k).isSome_eq,<- l];exact h _<|I.tok _
 ·subst ey
  cases (show u=Value.ref b from ry);obtain⟨z,hd,xs,rel,dd⟩:=Zoi I.hok e;refine wpAny_in_heap (tupleKind_room_in1 hu) (Zke I.hok eb) hd dd ?_;have q:=(rel.val k).isSome_eq;rw[Wed]at q;rw[<- q,<- l];exact h _<|I.tok _
theorem Zu3 {Q:Value->Shared->Prop}(hu:A.units+1<cLine) (I:Inv X pins U H s) (g:DGet H a y o) (ry:RelV y u) (h:∀s',Inv X pins U H s' -> Q (.bool (!o.isSome)) s') :
  wpAny (model X.prog X.w) A (compareOp .NotIn u (.ref a)) Q E s:=by
 rcases g with ⟨kvs,k,e,ey,l⟩|⟨kvs,k,b,e,ey,eb,l⟩
 ·subst ey
  obtain⟨z,hd,vs,rel,dd⟩:=Zod I.hok e;refine wpAny_notIn_of (Znl ry) hd dd.mapOf ?_;rw[<- (rel.val k).isSome_eq,<- l];exact h _<|I.tok _
 ·subst ey
  cases (show u=Value.ref b from ry);obtain⟨z,hd,xs,rel,dd⟩:=Zoi I.hok e;refine wpAny_notIn_heap (tupleKind_room_in1 hu) (Zke I.hok eb) hd dd ?_;have q:=(rel.val k).isSome_eq;rw[Wed]at q;rw[<- q,<- l];exact h _<|I.tok _
theorem Zg6 {h':Heap}{t':Nat}{ob:HO}(I:Inv X pins U H s) (mu:Mut (H a)) (hs:Heap.SameBut a s.heap h') (he:∃q,h'.get? a=some q) (new:ObjOk X.prog X.w (upd H a ob) h' a ob) :
  Inv X pins U (upd H a ob) { s with heap:=h',toks:=t' }:=
 I.write (x:=a) (e:=a) mu (.inl rfl) (λb q hb z=>(hs.2 b hb).trans z) he new
theorem Zuh {P:Program}{w:World}{H':Hp}{h':Heap}{kvs:List (Key × V)}{vs:List (Key × Value)}(z:kvs.length<=sizeLine) (hd:(a == sysModules)=false) (rel:KV kvs vs) (dd:h'.DictOf (mixKind P w) a vs) :
  ObjOk P w H' h' a (.dK kvs):=⟨z,hd,vs,rel,dd⟩
theorem Zof {H':Hp}{Q:Unit->Shared->Prop}(hu:A.units+1<cLine) (I:Inv X pins U H s) (g:DPut H a y v H') (ry:RelV y u) (rv:RelV v r) (h:∀s',Inv X pins U H' s' -> Q () s') :
  wpAny (model X.prog X.w) A (setItem (.ref a) u r) Q E s:=by
 rcases g with ⟨kvs,k,e,ey,l,eH⟩|⟨kvs,k,b,e,ey,eb,l,eH⟩
 ·subst ey eH
  obtain⟨z,hd,vs,rel,dd⟩:=Zza I.hok e;have hz:vs.length<=sizeLine:=by rw[<- rel.length];exact z
  have hl:(putK kvs k v).length<=sizeLine:=by have:=Zev kvs k v;omega
  refine wpAny_setItem_pairs (hsz:=hz) (Znl ry) dd λh' dd' hs=>h _ ?_;have he:∃q,h'.get? a=some q:=let ⟨q,_,_,hq,_⟩:=dd'; ⟨q,hq⟩
  exact Zg6 I (by rw[e];exact True.intro) hs he<|Zuh hl hd (rel.put k rv) dd'
 ·subst ey eH
  cases (show u=Value.ref b from ry);obtain⟨z,hd,xs,rel,dd⟩:=Z0a I.hok e;have hz:xs.length<=sizeLine:=by rw[<- Paired.length rel];exact z
  have hl:(putK kvs k v).length<=sizeLine:=by have:=Zev kvs k v;omega
  refine wpAny_setItem_heap (hsz:=hz) (tupleKind_room_in1 hu) (Zke I.hok eb) dd λh' dd' hs=>h _ ?_;obtain⟨q,es,ep,hq,h2,h3,h4,_,h5⟩:=dd';refine Zg6 I (by rw[e];exact True.intro) hs ⟨q,hq⟩ ⟨hl,hd,_,(rel.put k eb rv).keeps λc ys ec=>?_,q,es,ep,hq,h2,h3,h4,h5⟩;rw[Zak (Zzx ec e λz=>nomatch z)];exact ec
end
section
variable {X:Cx}{pins:List (Addr × Obj)}{U:St}{H:Hp}{s:Shared}{a:Addr}{kvs:List (Key × V)}{k:Key}{u:Value}{A:Around}{E:Value->Shared->Prop}
theorem Zz2 {Q:Value->Shared->Prop}(I:Inv X pins U H s) (e:Rd H a (.dK kvs)) (h:∀t s',Inv X pins U H s' -> Q (.int kvs.length t) s'):wpAny (model X.prog X.w) A (call (.builtin "len") [.ref a]) Q E s:=by
 obtain⟨z,hd,vs,rel,dd⟩:=Zod I.hok e;refine call_len_dict hd dd (by rw[<- rel.length];rw[sizeLine_eq]at z;omega) ?_;rw[<- rel.length];exact h _ _<|I.tok _
end
theorem Zku {X:Cx}{pins:List (Addr × Obj)}{U:St}{H:Hp}{s:Shared}{a:Addr}{y:V}{o:Option V}(I:Inv X pins U H s) (g:DGet H a y o):s.TypeIs (.ref a) "dict":=by
 rcases g with ⟨kvs,k,e,_,_⟩|⟨kvs,k,b,e,_,_,_⟩
 ·obtain⟨_,_,vs,_,dd⟩:=Zod I.hok e
  exact dd.typeIs
 ·obtain⟨_,_,xs,_,dd⟩:=Zoi I.hok e
  exact dd.typeIs
theorem Ztk {P:Program}{w:World}{H:Hp}(h:Heap) (hb:sysModules<h.objs.size):ObjOk P w H (h.push { cls:=.type "dict",data:=.dict #[] }) h.objs.size (.dK []):=
 ⟨Wbn _,beq_eq_false_iff_ne.mpr<|Ne.symm<|Way hb,[],.nil,Heap.DictOf.new h⟩
section
variable {X:Cx}{pins:List (Addr × Obj)}{U:St}{H:Hp}{s:Shared}{a:Addr}{y d:V}{u r:Value}{o:Option V}{A:Around}{E:Value->Shared->Prop}
end
section
variable {X:Cx}{pins:List (Addr × Obj)}{U:St}{H:Hp}{s:Shared}{a:Addr}{kvs:List (Key × V)}{A:Around}{E:Value->Shared->Prop}
end
section
variable {X:Cx}
theorem Zo4:CallR X (.builtin "len") (λxs H Q=>∃a kvs,xs=[V.ref a]/\H a=some (.dK kvs)/\Q (.int kvs.length) H):=by
 intro pins s U H xs us Q I r h;obtain⟨a,kvs,rfl,ha,q⟩:=h;obtain⟨u,rfl,ru⟩:=vals1 r;cases ru;exact Zz2 I (.inl ha) λt s' I'=>⟨.int kvs.length,H,I',⟨t,rfl⟩,q⟩
end
def clOf (env:Env):List (Str × NameKind)->List (Str × Addr)->List (Str × Addr)
 |[],cs=>cs
 | (n,k)::r,cs=>if k == .free then (match env.cells.lookup n with
     |some a=>clOf env r ((n,a)::cs)
     |none=>clOf env r cs) else clOf env r cs
theorem Zgq {env:Env}:∀(names:List (Str × NameKind)) (cs:List (Str × Addr)),(∀n,(n,NameKind.free)∈names->∃a,env.cells.lookup n=some a) ->
  (forIn names cs λ(x:Str × NameKind) (cs:List (Str × Addr))=>if (x.2 == .free)=true then (do let a <- cellOf env x.1;pure (ForInStep.yield ((x.1,a)::cs))) else pure (ForInStep.yield cs):Sem (List<|Str × Addr))=pure (clOf env names cs)
 |[],cs,_=>rfl
 | (n,k)::r,cs,h=>by
  rw[List.forIn_cons];have hr:∀m,(m,NameKind.free)∈r->∃a,env.cells.lookup m=some a:=λm hm=>h m<|Waw _ hm;cases hk:k == NameKind.free with
  |false=>
   have e:clOf env ((n,k)::r) cs=clOf env r cs:=by simp[clOf,hk]
   rw[e,<- Zgq r cs hr];simp only[hk,Wav,if_false];rfl
  |true=>
   have hk':k=.free:=by simpa using hk
   subst hk';obtain⟨a,ha⟩:=h n Wa7;have e:clOf env ((n,.free)::r) cs=clOf env r ((n,a)::cs):=by simp[clOf,ha]
   have ec:cellOf env n=pure a:=by simp[cellOf,ha]
   rw[e,<- Zgq r ((n,a)::cs) hr];simp only[hk,if_true,ec];rfl
theorem Zb6 {env:Env}{scope:Scope}(h:∀n,(n,NameKind.free)∈scope.names->∃a,env.cells.lookup n=some a):closureFor scope env=pure (clOf env scope.names []):=by
 rw[<- Zgq scope.names [] h];simp only[closureFor];exact Eq.trans (bind_pure _) rfl
theorem Zbg {env:Env}:∀(names:List (Str × NameKind)) (cs:List (Str × Addr)) {x:Str}{c:Addr},(∀y d,cs.lookup y=some d->env.cells.lookup y=some d)->(clOf env names cs).lookup x=some c->env.cells.lookup x=some c
 |[],cs,x,c,h,e=>h x c e
 | (n,k)::r,cs,x,c,h,e=>by
  unfold clOf at e;split at e
  ·split at e
   ·rename_i a ha
    refine Zbg r ((n,a)::cs) (λy d q=>?_) e;rw[Wb1]at q;split at q
    ·rename_i hy
     have hy':y=n:=by simpa using hy
     cases q;rw[hy'];exact ha
    ·exact h y d q
   ·exact Zbg r cs h e
  ·exact Zbg r cs h e
theorem Zfe {env:Env}:∀(names:List (Str × NameKind)) (cs:List (Str × Addr)) {x:Str},(∃c,cs.lookup x=some c)->∃c,(clOf env names cs).lookup x=some c
 |[],cs,x,h=>h
 | (n,k)::r,cs,x,h=>by
  have h2:∀a,∃c,((n,a)::cs).lookup x=some c:=λa=>by
   rw[Wb1];split
   ·exact⟨_,rfl⟩
   ·exact h
  unfold clOf;split
  ·split
   ·exact Zfe r _<|h2 _
   ·exact Zfe r cs h
  ·exact Zfe r cs h
theorem Zdo {env:Env}:∀(names:List (Str × NameKind)) (cs:List (Str × Addr)) {x:Str},(x,NameKind.free)∈names->(∃a,env.cells.lookup x=some a)->∃c,(clOf env names cs).lookup x=some c
 |[],_,_,h,_=>by simp at h
 | (n,k)::r,cs,x,h,⟨a,ha⟩=>by
  rcases Wan.mp h with e|hm
  ·have e1:n=x:=(congrArg Prod.fst e).symm
   have e2:k=.free:=(congrArg Prod.snd e).symm;subst e1;subst e2;have e:clOf env ((n,.free)::r) cs=clOf env r ((n,a)::cs):=by simp[clOf,ha]
   rw[e];exact Zfe r _ ⟨a,by simp⟩
  ·unfold clOf
   split
   ·split
    ·exact Zdo r _ hm ⟨a,ha⟩
    ·exact Zdo r _ hm ⟨a,ha⟩
   ·exact Zdo r _ hm ⟨a,ha⟩
def relab (osc scope:Scope):Scope:=
 { scope with names:=scope.names.map λ(n,k)=>if (k == .free && osc.kind == .function && osc.names.lookup n == some .cell) then (n,.cell) else (n,k) }
theorem Zkf {osc scope:Scope}{x:Str}{k:NameKind}(hk:k=.cell\/k=.free) (hc:∀y∈scope.names,y.2≠.cell) (h:(relab osc scope).names.lookup x=some k):(x,NameKind.free)∈scope.names:=by
 have hm:=PySem.mem_of_lookup h;obtain⟨⟨n,j⟩,hy,e⟩:=Wa1.mp hm;dsimp only at e;split at e
 ·rename_i hj
  have e1:n=x:=congrArg Prod.fst e;have hj':j=.free:=by
   simp only[Wbc,beq_iff_eq]at hj;exact hj.1.1
  rw[<- e1,<- hj'];exact hy
 ·have e1:n=x:=congrArg Prod.fst e
  have e2:j=k:=congrArg Prod.snd e;rcases hk with z|z
  ·exact absurd (show ((n,j):Str × NameKind).2=.cell from e2.trans z)<|hc _ hy
  ·rw[<- e1,<- z,<- e2];exact hy
theorem Zfm {osc:Scope}{x:Str}:∀{names:List (Str × NameKind)},names.lookup x=some .free ->
  (names.map λ(n,k)=>if (k == NameKind.free && osc.kind == .function && osc.names.lookup n == some .cell) then (n,NameKind.cell) else (n,k)).lookup x=some .cell \/
  (names.map λ(n,k)=>if (k == NameKind.free && osc.kind == .function && osc.names.lookup n == some .cell) then (n,NameKind.cell) else (n,k)).lookup x=some .free
 |[],h=>by simp at h
 | (n,k)::r,h=>by
  have ih:=@Zfm osc x r;rw[Wbe];cases hx:x == n with
  |true=>
   simp only[Wb1,hx]at h;cases h;dsimp only;split
   ·left;simp[Wb1,hx]
   ·right;simp[Wb1,hx]
  |false=>
   simp only[Wb1,hx]at h;dsimp only;split
   ·simpa only[Wb1,hx] using ih h
   ·simpa only[Wb1,hx] using ih h
structure CompSc (osc:Scope) (oN:List Str) (scope:Scope) (fvs:List Str) (sel:List Nat):Prop where
 kind:scope.kind=.function
 nocell:∀y∈scope.names,y.2≠.cell
 names:∀y∈scope.names,y.2=.local->scope.names.lookup y.1=some .local
 free:∀y∈scope.names,y.2=.free->osc.names.lookup y.1=some .cell\/osc.names.lookup y.1=some .free
 len:fvs.length=sel.length
 fv:∀p∈fvs.zip sel,oN[p.2]?=some p.1/\scope.names.lookup p.1=some .free
def compCx (X:Cx) (scope:Scope) (N:List Str) (C:Addr) (s:Shared) (H:Hp) (ex:List Addr) (pn:List (Addr × Obj)):Cx where
 prog:=X.prog
 w:=X.w
 K:=X.K
 mg:=X.mg
 base:=X.base
 A:=X.A
 N:=N
 s₀:=s
 H₀:=H
 env:=compEnvC scope (clOf X.env scope.names []) C X.env
 outer:=X.stack
 stack:=X.stack
 ex:=ex
 fn:=λ_=>false
 calm:=X.calm
 pn:=pn
 xe:=λ_ _=>False
def compSt (n:Nat) (sel:List Nat) (U:St):St:=Wak n none++sel.map λi=>(U[i]?).getD none
section
variable {X:Cx}{pins:List (Addr × Obj)}{U:St}{H:Hp}{s:Shared}{fp:List Addr}{scope:Scope}{tgs fvs:List Str}{sel:List Nat}
theorem Zee (S:CompSc X.env.scope X.N scope fvs sel) (ok:X.Ok):∀n,(n,NameKind.free)∈scope.names->∃a,X.env.cells.lookup n=some a:=λn hn=>
 ok.has n (S.free _ hn rfl)
theorem Zwk (S:CompSc X.env.scope X.N scope fvs sel) (N:List Str) (I:Inv X pins U H s) (hf:∀b∈fp,FpOk X pins H b) (hlt:∀b∈fp,b<s.heap.objs.size):(compCx X scope N s.heap.objs.size s H fp<|X.pn++pins).Ok where
 mod:=I.ok.mod
 kind:=S.kind
 glob:=I.ok.glob
 blt:=I.ok.blt
 above:=Wag _
 inj:=λx y c h1 h2=>I.ok.inj x y c (Zbg _ _ (λ_ _ z=>by simp at z) h1)<|Zbg _ _ (λ_ _ z=>by simp at z) h2
 has:=λx hx=>by
  have hm:(x,NameKind.free)∈scope.names:=by
   rcases hx with z|z
   ·exact Zkf (osc:=X.env.scope) (.inl rfl) S.nocell z
   ·exact Zkf (osc:=X.env.scope) (.inr rfl) S.nocell z
  exact Zdo scope.names [] hm<|Zee S I.ok x hm
 cab:=λx c h _=>by cases h
 hd:=I.ok.hd
 frames:=I.ok.frames
 stk:=.inl rfl
 exf:=λb hb=>⟨Way<|hlt b hb,λx c e=>(hf b hb).2.2.2.2.1 x c (Zbg _ _ (λ_ _ z=>by simp at z) e)⟩
 bs:=I.bs
 bsz:=Wbx I.ok.bsz I.sz
 noex:=λb o e hb=>by
  rcases(hf b hb).2.2.2.1 with z|z
  ·exact I.ok.noex b o e z
  ·exact absurd (Wbf (Wap e)<|Wbx I.ok.bsz z)<|Wch _
 exfs:=λb hb z=>by
  rcases Wan.mp (I.stkSub b z) with e|z
  ·exact(hf b hb).2.1 e
  ·exact(hf b hb).2.2.1 z
 funs:=I.stack
 frf:=I.stkFree
theorem Zm7 (S:CompSc X.env.scope X.N scope fvs sel) (I:Inv X pins U H s) (hf:∀b∈fp,FpOk X pins H b) (hlt:∀b∈fp,b<s.heap.objs.size) {h':Heap}{tk:Nat}{m:Str->Option Value}
  (hns:h'.Ns s.heap.objs.size m) (old:∀b o,s.heap.get? b=some o->h'.get? b=some o) :
  Inv (compCx X scope (tgs++fvs) s.heap.objs.size s H fp<|X.pn++pins) [] (compSt tgs.length sel U) H { s with heap:=h',toks:=tk } where
 ok:=Zwk S _ I hf hlt
 os:=rfl
 bare:=I.bare
 base:=Un.kept old
 loc:=by
  refine⟨m,hns,λi x v h1 h2 h3=>?_⟩;have h1:(tgs++fvs)[i]?=some x:=h1;unfold compSt at h2;by_cases hi:i<tgs.length
  ·rw[Wbd (by simpa using hi),Wb7,if_pos hi]at h2
   cases h2
  ·have hi':tgs.length<=i:=Nat.le_of_not_lt hi
   rw[Wa2 (by simpa using hi'),Wae,Wax]at h2;rw[Wa2 hi']at h1;cases hj:sel[i-tgs.length]? with
   |none=>rw[hj]at h2;cases h2
   |some j=>
    rw[hj]at h2;have h2:(U[j]?).getD none=some v:=by simpa using h2
    have hz:(x,j)∈fvs.zip sel:=by
     refine Wau (i:=i-tgs.length) ?_;rw[Wcb];exact⟨h1,hj⟩
    obtain⟨hN,hfr⟩:=S.fv _ hz;have hU:U[j]?=some (some v):=by
     cases q:U[j]? with
     |none=>rw[q]at h2;cases h2
     |some o=>rw[q]at h2;exact congrArg some h2
    have hko:X.env.scope.names.lookup x=some .cell\/X.env.scope.names.lookup x=some .free:=S.free (x,.free) (PySem.mem_of_lookup hfr) rfl;obtain⟨m0,hn0,hl0⟩:=I.loc;obtain⟨u,r,l⟩:=hl0 j x v hN hU (.inr hko);refine⟨u,r,.inr ⟨Zfm hfr,?_⟩⟩;rcases l with ⟨hk,_⟩|⟨_,c,hc,hcell⟩
    ·have hk:X.env.scope.names.lookup x=some .local:=hk
     rcases hko with z|z <;> (rw[hk]at z;cases z)
    ·obtain⟨c',hc'⟩:=Zdo scope.names [] (PySem.mem_of_lookup hfr) ⟨c,hc⟩
     have e:=Zbg scope.names [] (λ_ _ z=>by simp at z) hc';rw[hc]at e;cases e;obtain⟨o,ho,hd⟩:=hcell;exact⟨c,hc',o,old _ _ ho,hd⟩
 cell:=λx c e=>by
  obtain⟨v,o,ho,hd⟩:=I.cell x c<|Zbg _ _ (λ_ _ z=>by simp at z) e;exact⟨v,o,old _ _ ho,hd⟩
 free:=I.hok.fresh<|Wag _
 freeC:=λx c e=>I.freeC x c<|Zbg _ _ (λ_ _ z=>by simp at z) e
 pin:=λp hp=>by
  have hp:p∈(X.pn++pins)++[]:=hp;rw[Wbi]at hp;obtain⟨e,n,ne,nf,d⟩:=I.pin p hp;refine⟨old _ _ e,n,Way<|Wap e,λz=>?_,d⟩;rcases Wan.mp (I.stkSub p.1 z) with q|q
  ·exact ne q
  ·exact nf q
 hok:=I.hok.kept old
 len:=by
  unfold compSt;show _=(tgs++fvs).length;rw[Wai,Wai,Wax,Wab,S.len]
theorem Zj3 {N:List Str}{U':St}{H':Hp}{s':Shared}{h':Heap}(I:Inv X pins U H s) (hf:∀b∈fp,FpOk X pins H b)
  (J:Inv (compCx X scope N s.heap.objs.size s H fp<|X.pn++pins) [] U' H' s') (sb:Heap.SameBut s.heap.objs.size s'.heap h'):Inv X pins U H' { s' with heap:=h' }:=by
 have B:Un (frs X.stack) fp H H' s.heap s'.heap:=J.base;have ne:∀b o,s.heap.get? b=some o->b≠s.heap.objs.size:=λb o e=>Way<|Wap e;have fr:H' s.heap.objs.size=none:=J.free;refine I.call' (s':={ s' with heap:=h' }) (ch:=fp) J.os ⟨λb o e n h1 h2=>?_,λb o e n h1 h2=>?_,B.free,λb o e h2=>?_,B.tups,B.frzs,B.tbls⟩ (λb ob e=>?_) J.bare λb hb=>?_
 ·exact(sb.2 b<|ne b o e).trans (B.keep b o e n h1 h2)
 ·obtain⟨sl,q⟩:=B.slot b o e n h1 h2
  exact⟨sl,(sb.2 b<|ne b o e).trans q⟩
 ·obtain⟨o',q⟩:=B.there b o e h2
  exact⟨o',(sb.2 b<|ne b o e).trans q⟩
 ·refine(J.hok b ob e).stay (λc w' hc q=>(sb.2 c ?_).trans q) (λ_ q=>q) λ_ _ q=>q
  intro z;rcases hc with hc|hc
  ·rw[<- hc,z,fr]at e;cases e
  ·rw[z,fr]at hc;cases hc
 ·exact⟨(hf b hb).2.2.2.1,(hf b hb).2.1,(hf b hb).2.2.2.2.1,(hf b hb).2.2.2.2.2⟩
end
def PTs (X:Cx) (ifs:List Expr) (t:TT):Prop:=
 ∀(pins:List (Addr × Obj)) (s:Shared) (U:St) (H:Hp) (Q:Bool->Hp->Prop),Inv X pins U H s->t U H Q ->
  wpAny (model X.prog X.w) X.A (forIn ifs true λc r=>if r=true then do let ok <- isTrue c X.env (eval c X.env);pure (ForInStep.yield ok) else pure (ForInStep.yield r)) (TP X pins U Q) X.xe s
def tTrue:TT:=λ_ H Q=>Q true H
theorem Zcf {X:Cx}:PTs X [] tTrue:=λpins s U H Q I h=>wpAny_tests_nil ⟨H,I,h⟩
theorem Zk5 {X:Cx}{c:Expr}{t:TT}(h:PT X c t):PTs X [c] t:=λpins s U H Q I hq=>wpAny_tests_one<|h pins s U H Q I hq
def tComp (n:Nat) (sel:List Nat) (wi:TI) (g:TG) (tc:TT) (te:TE):TE:=λU H Q=>wi U H λJ H1=>∀acc,H1 acc=none->∃W:Nat->Nat->St->Hp->Prop,
 (∃m,W 0 m (compSt n sel U) (upd H1 acc (.lst [])))/\∀i m U' H',W i m U' H' ->
  (J.stop i H' /\ Q (.ref acc) H')\/(J.go i H' /\ ∃N:St->Hp->Prop,(∀U2 H2,N U2 H2->∃m',m'<m/\W (i+1) m' U2 H2) /\
   ∀x H2,J.yld i H' x H2->g x U' H2 λU2 H3=>tc U2 H3 λb H4=>if b=true then te U2 H4 λy H5=>∃ys,H5 acc=some (.lst ys)/\ys.length<sizeLine/\N U2 (upd H5 acc (.lst (ys++[y]))) else N U2 H4)
section
variable {X:Cx}
theorem Zkd {elt tg iter:Expr}{ifs:List Expr}{scope:Scope}{pos:Pos}{tgs fvs:List Str}{sel:List Nat}{g:TG}{tc:TT}{te:TE}(S:CompSc X.env.scope X.N scope fvs sel) {Cm:Cx->Prop}(hc:∀C s H ex pn,Cm (compCx X scope (tgs++fvs) C s H ex pn))
  (hg:∀C s H ex pn,PG (compCx X scope (tgs++fvs) C s H ex pn) tg g) (ht:∀C s H ex pn,PTs (compCx X scope (tgs++fvs) C s H ex pn) ifs tc) (he:∀C s H ex pn,PE (compCx X scope (tgs++fvs) C s H ex pn) elt te)
  {pins:List (Addr × Obj)}{U:St}{s:Shared}{itv:Value}{Q:VK}{E:Value->Shared->Prop}{RR:Value->Addr->Result->Shared->Prop}
  (h2:PIEG Cm X pins U tg (λJ H1=>∀acc,H1 acc=none->∃W:Nat->Nat->St->Hp->Prop,
   (∃m,W 0 m (compSt tgs.length sel U) (upd H1 acc (.lst [])))/\∀i m U' H',W i m U' H' ->
   (J.stop i H' /\ Q (.ref acc) H')\/(J.go i H' /\ ∃N:St->Hp->Prop,(∀U2 H2,N U2 H2->∃m',m'<m/\W (i+1) m' U2 H2) /\
   ∀x H2,J.yld i H' x H2->g x U' H2 λU2 H3=>tc U2 H3 λb H4=>if b=true then te U2 H4 λy H5=>∃ys,H5 acc=some (.lst ys)/\ys.length<sizeLine/\N U2 (upd H5 acc (.lst (ys++[y]))) else N U2 H4)) itv s)
  (fin:∀(s':Shared) (C acc:Addr) (H':Hp) (m:Str->Option Value),s'.heap.Ns C m->FpOk X pins H' C->(∀h',Heap.SameBut C s'.heap h' -> Inv X pins U H' { s' with heap:=h' })->Q (.ref acc) H' -> RR (.ref acc) C (.ok .next) s') :
  wpAny (model X.prog X.w) X.A (newList []) (λacc s3=>wpAny (model X.prog X.w) X.A (newFunctionEnv scope X.env.globals (clOf X.env scope.names []) [] X.env.qual none .none (some X.env)) (λcenv s4=>
   codeAny (model X.prog X.w) X.A (.compStart (.ListComp elt [⟨tg,iter,ifs,0⟩] scope pos) 0 itv acc { cenv with scope:=relabel scope X.env }) (RR acc cenv.locals) s4) E s3) E s:=by
 obtain⟨it,fp,tn,J,H1,e,I,T,st,f2,h2⟩:=h2;subst e;have hlt:∀b∈fp,b<s.heap.objs.size:=λb hb=>let ⟨o,ho,_⟩:=T.obj 0 _ st b hb; Wap ho
 refine wpAny_newObj_type<|wpAny_newFunctionEnv S.nocell (by intro y hy;simp at hy) (λh1 hns hsb=>?_) S.kind;dsimp only at hns hsb ⊢;have I3:Inv X pins U (upd H1 s.heap.objs.size (.lst [])) { s with heap:=s.heap.push { cls:=.type "list",data:=.seq ([]:List Value).toArray },toks:=s.toks }:=I.lnew (its:=[]) .nil (by decide);have hacc:H1 s.heap.objs.size=none:=I.hok.fresh<|Wag _;obtain⟨W,⟨m0,w0⟩,turn⟩:=h2 s.heap.objs.size hacc;generalize hs3:({ s with heap:=s.heap.push { cls:=.type "list",data:=.seq ([]:List Value).toArray },toks:=s.toks }:Shared)=s3 at I3;have hh3:s3.heap=s.heap.push { cls:=.type "list",data:=.seq ([]:List Value).toArray }:=by rw[<- hs3]
 have old3:∀b o,s.heap.get? b=some o->s3.heap.get? b=some o:=λb o q=>by rw[hh3];exact Wad _ q
 have hf3:∀b∈fp,FpOk X pins (upd H1 s.heap.objs.size (.lst [])) b:=λb hb=>⟨by rw[Zak (Way<|hlt b hb)];exact(f2 b hb).1,(f2 b hb).2⟩;have hlt3:∀b∈fp,b<s3.heap.objs.size:=λb hb=>by rw[hh3,Wcc];exact Wbo<|hlt b hb
 have tn3:tn 0 s3.heap:=T.keep 0 _ _ st λb hb o q=>old3 b o q;have old4:∀b o,s3.heap.get? b=some o->h1.get? b=some o:=λb o q=>by
  have hb:b≠s3.heap.objs.size:=Way<|Wap q;rw[hh3]at hb q;exact(hsb.2 b hb).trans (Wad _ q)
 have tn4:tn 0 h1:=T.keep 0 _ _ tn3 λb hb o q=>old4 b o q;have hC:(s.heap.push { cls:=.type "list",data:=.seq ([]:List Value).toArray }).objs.size=s3.heap.objs.size:=by rw[hh3]
 rw[hC]at hns;have J0:=Zm7 (tgs:=tgs) (tk:=s.toks+([]:List (Str × Value)).length) S I3 hf3 hlt3 hns old4;have es:({ s3 with heap:=h1,toks:=s.toks+([]:List (Str × Value)).length }:Shared) = { s with heap:=h1,toks:=s.toks+([]:List (Str × Value)).length }:=by rw[<- hs3]
 rw[es]at J0;generalize hY:compCx X scope (tgs++fvs) s3.heap.objs.size s3 (upd H1 s.heap.objs.size (.lst [])) fp (X.pn++pins)=Y at J0;have hYp:Y.prog=X.prog:=by rw[<- hY];rfl
 have hYw:Y.w=X.w:=by rw[<- hY];rfl
 have hYK:Y.K=X.K:=by rw[<- hY];rfl
 have hYA:Y.A=X.A:=by rw[<- hY];rfl
 have hYc:Cm Y:=by rw[<- hY];exact hc _ _ _ _ _
 have hYx:Y.xe=λ_ _=>False:=by rw[<- hY];rfl
 have hYe:Y.env=compEnvC scope (clOf X.env scope.names []) s3.heap.objs.size X.env:=by rw[<- hY];rfl
 have stat:∀{H':Hp},(∀b∈fp,H' b=none)->∀b∈fp,FpOk Y [] H' b:=λhn b hb=>by
  rw[<- hY];refine⟨hn b hb,Way<|hlt3 b hb,λz=>?_,.inl hb,λx c e=>?_,λp hp z=>?_⟩
  ·rcases Wan.mp (I3.stkSub b z) with q|q
   ·exact(hf3 b hb).2.1 q
   ·exact(hf3 b hb).2.2.1 q
  ·exact(hf3 b hb).2.2.2.2.1 x c (Zbg _ _ (λ_ _ z=>by simp at z) e)
  ·have hp:p∈(X.pn++pins)++[]:=hp
   rw[Wbi]at hp;exact(hf3 b hb).2.2.2.2.2 p hp z
 have loop:codeAny (model X.prog X.w) X.A (.compLoop (.ListComp elt [⟨tg,iter,ifs,0⟩] scope pos) 0 (.ref it) (.ref s.heap.objs.size) Y.env) (RR (.ref s.heap.objs.size) s3.heap.objs.size)
   { s with heap:=h1,toks:=s.toks+([]:List (Str × Value)).length }:=by
  refine codeAny_loop rfl (λn s'=>∃i U' H',Inv Y [] U' H' s' /\ tn i s'.heap/\(∀b∈fp,H' b=none)/\W i n U' H') ?_ m0 ⟨0,_,_,J0,tn4,λb hb=>(hf3 b hb).1,w0⟩;rintro n s5 ⟨i,U5,H5,I5,st5,fr5,w5⟩;show wpAny _ X.A ((compTurn (.ListComp elt [⟨tg,iter,ifs,0⟩] scope pos) 0 (.ref it) (.ref s.heap.objs.size) Y.env).onRaise (λx=>do noteFrame x Y.env;theTreesLotGoes x)) _ _ s5;refine wpAny_noted (wpAny_mono (E:=λ_ _=>False) ?_ (λ_ _ q=>q) λ_ _ z=>z.elim);rw[compTurn_list];refine wpAny_bind<|wpAny_standAt<|wpAny_bind ?_;rcases turn i n U5 H5 w5 with ⟨stop,qn⟩|⟨go,N,hN,step⟩
  ·have D:=T.done Y hYp hYw hYK hYc i [] s5 U5 H5 (λ_ _=>False) I5 (stat fr5) st5 stop
   rw[hYA]at D;refine thn D λr s6 ⟨hr,I6⟩=>?_;subst hr;refine wpAny_pure ?_;obtain⟨m6,hn6,_⟩:=I6.loc;rw[hYe]at hn6;refine fin s6 _ _ H5 m6 hn6 (I3.fpOk (Wag _) (by have z:=I6.free;rw[hYe]at z;exact z)) (λh' sb=>?_) qn;have I6':Inv (compCx X scope (tgs++fvs) s3.heap.objs.size s3 (upd H1 s.heap.objs.size (.lst [])) fp<|X.pn++pins) [] U5 H5 s6:=by rw[hY];exact I6
   exact Zj3 I3 hf3 I6' sb
  ·have D:=T.item Y hYp hYw hYK hYc i [] s5 U5 H5 (λ_ _=>False) I5 (stat fr5) st5 go
   rw[hYA]at D;refine thn D λr s6 ⟨u,hr,h6⟩=>?_;subst hr;refine wpAny_bind (thn h6 λ_ s7 ⟨x,H7,I7,r7,y7,st7,fr7⟩=>?_);have I7':=I7.pinned (stat fr7)<|T.obj _ _ st7;have G:=hg s3.heap.objs.size s3 (upd H1 s.heap.objs.size (.lst [])) fp<|X.pn++pins;have TT:=ht s3.heap.objs.size s3 (upd H1 s.heap.objs.size (.lst [])) fp<|X.pn++pins;have EE:=he s3.heap.objs.size s3 (upd H1 s.heap.objs.size (.lst [])) fp<|X.pn++pins;rw[hY]at G TT EE;have G1:=G _ s7 U5 H7 x u _ I7' r7<|step x H7 y7;rw[hYp,hYw,hYA,hYx]at G1;refine wpAny_bind (thn G1 λ_ s8 ⟨U8,H8,I8,q8⟩=>?_);have T1:=TT _ s8 U8 H8 _ I8 q8;rw[hYp,hYw,hYA,hYx]at T1;refine wpAny_bind (thn T1 λok s9 ⟨H9,I9,q9⟩=>?_);have again:∀{s':Shared}{U':St}{H':Hp},Inv Y ([]++pinsAt fp s7.heap) U' H' s' -> N U' H' -> ∃m,m<n/\∃i U' H',Inv Y [] U' H' s' /\ tn i s'.heap/\(∀b∈fp,H' b=none)/\W i m U' H':=λ{s' U' H'} K7 n7=>by
    obtain⟨m',hm,w7⟩:=hN U' H' n7;refine⟨m',hm,i+1,U',H',K7.unpinned,T.keep _ _ _ st7 λb hb o e=>(K7.pin (b,o)<|Wa3 _<|Wa3 _<|Zb0 hb e).1,λb hb=>?_,w7⟩;obtain⟨o,e,d⟩:=T.obj _ _ st7 b hb;exact(K7.pin (b,o)<|Wa3 _<|Wa3 _<|Zb0 hb e).2.1
   cases ok with
   |false=>
    have q9:N U8 H9:=q9;exact wpAny_pure ⟨by rw[hYe],again I9 q9⟩
   |true=>
    have q9:te U8 H9 λy H5=>∃ys,H5 s.heap.objs.size=some (.lst ys)/\ys.length<sizeLine/\N U8 (upd H5 s.heap.objs.size (.lst<|ys++[y])):=q9;have E1:=EE _ s9 U8 H9 _ I9 q9;rw[hYp,hYw,hYA,hYx]at E1;refine wpAny_bind<|wpAny_bind (thn E1 λv sa ⟨y,Ha,Ia,ra,ys,ea,za,na⟩=>?_);have M:=Zcc (X:=Y) _ sa U8 Ha (.ref s.heap.objs.size) [y] (.ref s.heap.objs.size) [v] (λ_ H=>N U8 H) Ia rfl (.cons ra .nil) ⟨_,ys,y,rfl,rfl,ea,za,na⟩;rw[hYp,hYw,hYA,hYx]at M;refine wpAny_bind (thn M λ_ sb ⟨_,Hb,Ib,_,nb⟩=>wpAny_pure<|wpAny_pure ⟨by rw[hYe],again Ib nb⟩)
 have hcs:(relabel scope X.env)=(relabel scope X.env):=rfl;have loop':=loop;rw[hYe]at loop';show codeAny (model X.prog X.w) X.A (.compStart (.ListComp elt [⟨tg,iter,ifs,0⟩] scope pos) 0 (.ref it) (.ref s.heap.objs.size)<|compEnvC scope (clOf X.env scope.names []) (s.heap.push { cls:=.type "list",data:=.seq ([]:List Value).toArray }).objs.size X.env) (RR (.ref s.heap.objs.size) (s.heap.push { cls:=.type "list",data:=.seq ([]:List Value).toArray }).objs.size) _;rw[hC];exact codeAny_compStart_list loop'<|T.self _ 0 _ _ _ tn4 loop'
theorem Zcu {elt tg iter:Expr}{ifs:List Expr}{scope:Scope}{pos:Pos}{fvs:List Str}{sel:List Nat}{wi:TI}{g:TG}{tc:TT}{te:TE}(tgs:List Str) (S:CompSc X.env.scope X.N scope fvs sel) (hc:X.calm=true)
  (hi:PI X tg iter wi) (hg:∀C s H ex pn,PG (compCx X scope (tgs++fvs) C s H ex pn) tg g) (ht:∀C s H ex pn,PTs (compCx X scope (tgs++fvs) C s H ex pn) ifs tc) (he:∀C s H ex pn,PE (compCx X scope (tgs++fvs) C s H ex pn) elt te)
  (hs:∀x,foldedSetIterable iter X.env x=pure x:=by intro _;rfl) :
  PE X (.ListComp elt [⟨tg,iter,ifs,0⟩] scope pos) (tComp tgs.length sel wi g tc te):=by
 intro pins s U H Q I h;rw[eval_ListComp];refine wpAny_comprehension_free (use:=none) rfl hs (Zb6<|Zee S I.ok) S.kind S.names (thn (hi pins s U H _ I h) λv s1 h1=>thn h1 λitv s2 h2=>?_);refine Zkd (Cm:=λX=>X.calm=true) S (λ_ _ _ _ _=>hc) hg ht he (RR:=λacc C=>compPost (model X.prog X.w) X.A X.xe none (EP X pins U Q) acc C) (Q:=Q) h2 ?_;intro s' C acc H' m hn _ hI q;exact⟨m,hn,λh' sb=>⟨.ref acc,H',hI h' sb,rfl,q⟩⟩
theorem Zeb {elt tg iter:Expr}{ifs:List Expr}{scope:Scope}{pos spos py:Pos}{fvs:List Str}{sel:List Nat}{wi:TI}{g:TG}{tc:TT}{te:TE}{i:Nat}{y:Str}(tgs:List Str) (S:CompSc X.env.scope X.N scope fvs sel) (hc:X.calm=true)
  (hN:X.N.Nodup) (hiy:X.N[i]?=some y) (hx:Loc X.env.scope y)
  (hi:PI X tg iter wi) (hg:∀C s H ex pn,PG (compCx X scope (tgs++fvs) C s H ex pn) tg g) (ht:∀C s H ex pn,PTs (compCx X scope (tgs++fvs) C s H ex pn) ifs tc) (he:∀C s H ex pn,PE (compCx X scope (tgs++fvs) C s H ex pn) elt te)
  (hs:∀x,foldedSetIterable iter X.env x=pure x:=by intro _;rfl) (hsw:swapsWith (.ListComp elt [⟨tg,iter,ifs,0⟩] scope pos) (some (.Name y py)) spos.line X.env=pure true:=by rfl)
  (hf:X.fn y=true\/X.env.scope.names.lookup y=some .local:=by first|exact .inl rfl|exact .inr rfl|assumption) :
  PS X (.Assign [.Name y py] (.ListComp elt [⟨tg,iter,ifs,0⟩] scope pos) spos) (tAsg (tComp tgs.length sel wi g tc te)<|gName i):=by
 intro pins s U H D I h;rw[exec_Assign_Name_used _ _ _ _ hsw];refine wpAny_bind (wpAny_standAt (wpAny_bind ?_));show wpAny _ X.A (do let _ <- comprehension (.ListComp elt [⟨tg,iter,ifs,0⟩] scope pos) scope X.env _ (newList []) false (eval iter X.env) (some (assign (.Name y py) X.env))) _ _ s;refine wpAny_bind (wpAny_mono (wpAny_comprehension_free (use:=some (assign (.Name y py) X.env)) (Q:=λ_ s'=>SP X pins D .next s') rfl hs (Zb6 (Zee S I.ok)) S.kind S.names
  (thn (hi pins s U H _ I h) λv s1 h1=>thn h1 λitv s2 h2=>?_)) (λ_ s' hq=>wpAny_pure (wpAny_pure hq)) λ_ _ e=>e)
 refine Zkd (Cm:=λX=>X.calm=true) S (λ_ _ _ _ _=>hc) hg ht he (RR:=λacc C=>compPost (model X.prog X.w) X.A X.xe (some<|assign (.Name y py) X.env) (λ_ s'=>SP X pins D .next s') acc C) (Q:=λv H'=>D.nx (U.set i<|some v) H') h2 ?_;intro s' C acc H' m hn fp hI q;have I0:Inv X pins U H' s':=hI s'.heap (.refl ..);show wpAny _ X.A (assign (.Name y py) X.env (.ref acc)) _ _ _;refine wpAny_assign_Name<|Zgv (v:=.ref acc) I0 hN hiy hx rfl (λs2 I2 hsb=>?_) hf;obtain⟨a,sb,ha⟩:=hsb;have hCa:C≠a:=by
  rcases ha with z|z
  ·rw[z];exact fp.2.1
  ·exact Ne.symm<|fp.2.2.2.2.1 y a z
 refine⟨m,hn.sameBut sb hCa,λh' sb'=>?_⟩;obtain⟨f0,f1,f2,f3,f4,f5⟩:=fp;exact⟨_,H',I2.turned (t':=s2.toks) (it:=C) (λb o hb e=>(sb'.2 b hb).trans e) f0 f1 f3 f4 f5,q⟩
end
def InsC (a C:Addr) (h:Heap):Prop:=∃ox vs,h.get? a=some ox/\ox.cls=.ref C/\ox.data=.fields vs/\vs[2]?=some .none
inductive D where
 |non|bl (b:Bool)|int (i:Int)|str (x:Str)|ty (n:String)|tup (ds:List D)|lst (ds:List D)|scr (ds:List D)|adr (a:Addr)|dct (ks:List Key) (ds:List D)|exc (a C:Addr)
mutual
inductive Rep (K:W.Frag) (G:Hp):V->D->Prop
 |non:Rep K G .non .non
 |bl (b:Bool):Rep K G (.bl b) (.bl b)
 |int (i:Int):Rep K G (.int i) (.int i)
 |str (x:Str):Rep K G (.str x) (.str x)
 |ty (n:String):Rep K G (.ty n) (.ty n)
 |tup {a:Addr}{vs:List V}{ds:List D}:G a=some (.tup vs)->Reps K G vs ds->Rep K G (.ref a) (.tup ds)
 |lst {a:Addr}{vs:List V}{ds:List D}:G a=some (.lst vs)->Reps K G vs ds->Rep K G (.ref a) (.lst ds)
 |scr {a:Addr}{vs:List V}{ds:List D}:SqL K G a vs->Reps K G vs ds->Rep K G (.ref a) (.scr ds)
 |adr (a:Addr):Rep K G (.ref a) (.adr a)
 |dct {a:Addr}{ks:List Key}{vs:List V}{ds:List D}:G a=some (.dK (ks.zip vs))->ks.length=vs.length->Reps K G vs ds->Rep K G (.ref a) (.dct ks ds)
 |exc {a C:Addr}:G a=some (.ext (InsC a C))->Rep K G (.ref a) (.exc a C)
inductive Reps (K:W.Frag) (G:Hp):List V->List D->Prop
 |nil:Reps K G [] []
 |cons {v:V}{d:D}{vs:List V}{ds:List D}:Rep K G v d->Reps K G vs ds->Reps K G (v::vs) (d::ds)
end
def RepI (K:W.Frag) (G:Hp) (v:V):D->Prop
 |.non=>v=.non
 |.bl b=>v=.bl b
 |.int i=>v=.int i
 |.str x=>v=.str x
 |.ty n=>v=.ty n
 |.tup ds=>∃a vs,v=.ref a/\G a=some (.tup vs)/\Reps K G vs ds
 |.lst ds=>∃a vs,v=.ref a/\G a=some (.lst vs)/\Reps K G vs ds
 |.scr ds=>∃a vs,v=.ref a/\SqL K G a vs/\Reps K G vs ds
 |.adr a=>v=.ref a
 |.dct ks ds=>∃a vs,v=.ref a/\G a=some (.dK (ks.zip vs))/\ks.length=vs.length/\Reps K G vs ds
 |.exc a C=>v=.ref a/\G a=some (.ext (InsC a C))
theorem Rep.inv {K:W.Frag}{G:Hp}{v:V}{d:D}(r:Rep K G v d):RepI K G v d:=by
 cases r with
 |tup h r=>exact⟨_,_,rfl,h,r⟩
 |lst h r=>exact⟨_,_,rfl,h,r⟩
 |scr h r=>exact⟨_,_,rfl,h,r⟩
 |dct h l r=>exact⟨_,_,rfl,h,l,r⟩
 |exc h=>exact⟨rfl,h⟩
 |_=>rfl
def RepsI (K:W.Frag) (G:Hp) (vs:List V):List D->Prop
 |[]=>vs=[]
 |d::ds=>∃v ws,vs=v::ws/\Rep K G v d/\Reps K G ws ds
theorem Reps.inv {K:W.Frag}{G:Hp}{vs:List V}{ds:List D}(r:Reps K G vs ds):RepsI K G vs ds:=by
 cases r with
 |nil=>rfl
 |cons a b=>exact⟨_,_,rfl,a,b⟩
section
variable {K:W.Frag}{G G' H H':Hp}
mutual
theorem Rep.mono (s:Same G G'):∀{v:V}{d:D},Rep K G v d->Rep K G' v d
 |_,_,.non=>.non
 |_,_,.bl b=>.bl b
 |_,_,.int i=>.int i
 |_,_,.str x=>.str x
 |_,_,.ty n=>.ty n
 |_,_,.tup h r=>.tup (s _ _ h) (Reps.mono s r)
 |_,_,.lst h r=>.lst (s _ _ h) (Reps.mono s r)
 |_,_,.scr h r=>.scr (s.seq h) (Reps.mono s r)
 |_,_,.adr a=>.adr a
 |_,_,.dct h l r=>.dct (s _ _ h) l (Reps.mono s r)
 |_,_,.exc h=>.exc (s _ _ h)
theorem Reps.mono (s:Same G G'):∀{vs:List V}{ds:List D},Reps K G vs ds->Reps K G' vs ds
 |_,_,.nil=>.nil
 |_,_,.cons h r=>.cons (Rep.mono s h) (Reps.mono s r)
end
theorem Reps.length:∀{vs:List V}{ds:List D},Reps K G vs ds->vs.length=ds.length
 |_,_,.nil=>rfl
 |_,_,.cons _ r=>by rw[Waj,Waj,r.length]
theorem Reps.get:∀{vs:List V}{ds:List D}{i:Nat}{d:D},Reps K G vs ds->ds[i]?=some d->∃v,vs[i]?=some v/\Rep K G v d
 |_,_,_,_,.nil,e=>by simp at e
 |_,_,0,_,.cons r _,e=>by simp at e;subst e;exact⟨_,rfl,r⟩
 |_,_,i+1,d,.cons _ t,e=>by
  obtain⟨u,h1,h2⟩:=Reps.get (i:=i) (d:=d) t (by simpa using e);exact⟨u,by simpa using h1,h2⟩
theorem Reps.append:∀{vs ws:List V}{ds es:List D},Reps K G vs ds->Reps K G ws es->Reps K G (vs++ws) (ds++es)
 |_,_,_,_,.nil,s=>s
 |_,_,_,_,.cons r t,s=>.cons r (Reps.append t s)
theorem Reps.take:∀{vs:List V}{ds:List D}(n:Nat),Reps K G vs ds->Reps K G (vs.take n) (ds.take n)
 |_,_,0,_=>.nil
 |_,_,_+1,.nil=>.nil
 |_,_,n+1,.cons r t=>.cons r (Reps.take n t)
theorem Reps.drop:∀{vs:List V}{ds:List D}(n:Nat),Reps K G vs ds->Reps K G (vs.drop n) (ds.drop n)
 |_,_,0,r=>r
 |_,_,_+1,.nil=>.nil
 |_,_,n+1,.cons _ t=>Reps.drop n t
theorem Reps.reverse {vs:List V}{ds:List D}(h:Reps K G vs ds):Reps K G vs.reverse ds.reverse:=by
 induction vs generalizing ds with
 |nil=>cases h;exact .nil
 |cons v vs ih=>
  cases h with
  |cons r t=>rw[Wc8,Wc8];exact(ih t).append (.cons r .nil)
theorem Reps.set:∀{vs:List V}{ds:List D}{v:V}{d:D}(i:Nat),Reps K G vs ds->Rep K G v d->Reps K G (vs.set i v) (ds.set i d)
 |_,_,_,_,_,.nil,_=>.nil
 |_,_,_,_,0,.cons _ t,q=>.cons q t
 |_,_,_,_,i+1,.cons r t,q=>.cons r (Reps.set i t q)
theorem Reps.ints {vs:List V}:∀{ns:List Int},Reps K G vs (ns.map D.int)->vs=ns.map V.int:=by
 induction vs with
 |nil=>intro ns h;cases ns with
  |nil=>rfl
  |cons n ns=>cases h
 |cons v vs ih=>intro ns h;cases ns with
  |nil=>cases h
  |cons n ns=>
   cases h with
   |cons r t=>cases r.inv;rw[ih t];rfl
theorem Reps.ofInts:∀(ns:List Int),Reps K G (ns.map V.int) (ns.map D.int)
 |[]=>.nil
 |n::ns=>.cons (.int n) (Reps.ofInts ns)
theorem Zjg {vs:List V}{ds:List D}{i:Int}{d:D}(r:Reps K G vs ds) (h:atI ds i=some d):∃v,atI vs i=some v/\Rep K G v d:=by
 unfold atI at h ⊢;rw[<- r.length]at h;cases e:ixN vs.length i with
 |none=>rw[e]at h;cases h
 |some j=>rw[e]at h;exact r.get h
end
inductive OD where
 |lst (ds:List D)|dct (kvs:List (Key × D))|set (S:Int->Bool) (n:Nat)|dtt (kvs:List (List Key × D))|ext (R:Hp->(Heap->Prop)->Prop)
def OwnRep (K:W.Frag) (G:Hp):HO->OD->Prop
 |.lst vs,.lst ds=>Reps K G vs ds
 |.dK kvs,.dct kds=>Paired (λ(p:Key × V) (q:Key × D)=>p.1=q.1/\Rep K G p.2 q.2) kvs kds
 |.set S n,.set S' n'=>S=S' /\ n=n'
 |.dT kvs,.dtt kds=>Paired (λ(p:List Key × V) (q:List Key × D)=>p.1=q.1/\Rep K G p.2 q.2) kvs kds
 |.ext φ,.ext R=>∃G0,Same G0 G/\R G0 φ
 |_,_=>False
theorem OwnRep.mono {K:W.Frag}{G G':Hp}(s:Same G G') {o:HO}{od:OD}(h:OwnRep K G o od):OwnRep K G' o od:=by
 cases o <;> cases od <;> first
  |exact h.elim
  |exact Reps.mono s h
  |exact Paired.mapP h λ_ _ z=>⟨z.1,z.2.mono s⟩
  |exact(let ⟨g0,s0,r⟩:=h; ⟨g0,s0.trans s,r⟩)
  |exact h
inductive Slot where
 |any|val (d:D)|own (o:OD)|bor (o:OD)|ownA (a:Addr) (o:OD)
abbrev Evt:=List Slot
def Slot.od:Slot->Option OD
 |.own o=>some o
 |.bor o=>some o
 |.ownA _ o=>some o
 |_=>none
structure Gm where
 B:Addr->Prop
 F:Hp
 Hz:Hp
 Xo:Hp
def SlotAt (g:Gm) (x:Slot) (a:Addr):Prop:=match x with
 |.own _=>g.Hz a=none
 |.bor _=>g.B a
 |.ownA b _=>b=a/\g.Hz a=none
 |_=>True
structure Ok (K:W.Frag) (g:Gm) (G H:Hp) (U:St) (Z:Evt):Prop where
 same:∀b o,¬ g.B b->g.Hz b=some o->H b=some o
 lent:∀b,g.B b->H b≠none
 sub:Same g.F G
 frz:∀b o,G b=some o->H b=some o/\(g.Hz b=none\/g.F b=some o)
 ext:∀b o,g.Xo b=some o->H b=some o/\G b=none/\∀(i:Nat) x od,Z[i]?=some x->x.od=some od -> U[i]?≠some (some (.ref b))
 len:Z.length = U.length
 val:∀(i:Nat) d,Z[i]?=some (.val d)->∃v,U[i]?=some (some v)/\Rep K G v d
 own:∀(i:Nat) x od,Z[i]?=some x->x.od=some od->∃a o,U[i]?=some (some (.ref a))/\H a=some o/\OwnRep K G o od/\G a=none/\SlotAt g x a
 dis:∀(i j:Nat) x y od od' a,Z[i]?=some x->x.od=some od -> Z[j]?=some y->y.od=some od' -> U[i]?=some (some (.ref a)) -> U[j]?=some (some (.ref a))->i=j
section
variable {K:W.Frag}{g:Gm}{G H G' H':Hp}{U:St}{Z:Evt}
theorem Ok.live (k:Ok K g G H U Z):Same G H:=λb o e=>(k.frz b o e).1
theorem Ok.there (k:Ok K g G H U Z) {b:Addr}(h:H b=none):g.Hz b=none:=by
 cases e:g.Hz b with
 |none=>rfl
 |some o=>
  by_cases hb:g.B b
  ·exact absurd h<|k.lent b hb
  ·have:=k.same b o hb e
   rw[h]at this;cases this
theorem Ok.grow (k:Ok K g G H U Z) (sg:Same G G') (sh:Same H H') (hg:∀b o,G' b=some o->H' b=some o/\(G b=some o\/H b=none)):Ok K g G' H' U Z where
 same:=λb o hb e=>sh b o<|k.same b o hb e
 lent:=λb hb z=>by
  cases e:H b with
  |none=>exact k.lent b hb e
  |some o=>rw[sh b o e]at z;cases z
 sub:=k.sub.trans sg
 frz:=λb o e=>by
  obtain⟨h1,h2⟩:=hg b o e;refine⟨h1,?_⟩;rcases h2 with z|z
  ·exact(k.frz b o z).2
  ·exact .inl<|k.there z
 ext:=λb o e=>by
  obtain⟨h1,h2,h3⟩:=k.ext b o e;refine⟨sh b o h1,?_,h3⟩;cases q:G' b with
  |none=>rfl
  |some o'=>
   rcases(hg b o' q).2 with z|z
   ·rw[h2]at z;cases z
   ·rw[h1]at z;cases z
 len:=k.len
 val:=λi d e=>by
  obtain⟨v,h1,h2⟩:=k.val i d e;exact⟨v,h1,h2.mono sg⟩
 own:=λi x od e1 e2=>by
  obtain⟨a,o,h1,h2,h3,h4,h5⟩:=k.own i x od e1 e2;refine⟨a,o,h1,sh a o h2,h3.mono sg,?_,h5⟩;cases q:G' a with
  |none=>rfl
  |some o'=>
   rcases(hg a o' q).2 with z|z
   ·rw[h4]at z;cases z
   ·rw[h2]at z;cases z
 dis:=k.dis
theorem Ok.laid (k:Ok K g G H U Z) {p:Addr}(hp:H p=none) (o:HO):Ok K g (upd G p o) (upd H p o) U Z /\ Same G (upd G p o):=by
 have hG:G p=none:=by
  cases e:G p with
  |none=>rfl
  |some u=>rw[k.live p u e]at hp;cases hp
 have sg:Same G (upd G p o):=λb u e=>by rw[Zak (Zal e hG)];exact e
 refine⟨k.grow sg (λb u e=>by rw[Zak (Zal e hp)];exact e) λb u e=>?_,sg⟩;by_cases hb:b=p
 ·subst hb;rw[Zao]at e ⊢;exact⟨e,.inr hp⟩
 ·rw[Zak hb]at e ⊢;exact⟨k.live b u e,.inl e⟩
theorem Ok.lt (k:Ok K g G H U Z) {i:Nat}{x:Slot}(h:Z[i]?=some x):i < U.length:=by
 rw[<- k.len];exact(Waf.mp h).1
def Pend (K:W.Frag) (g:Gm) (G H:Hp) (U:St) (Z:Evt) (a:Addr) (od:OD):Prop:=
 ∃o,H a=some o/\OwnRep K G o od/\G a=none/\g.Hz a=none/\g.Xo a=none/\∀(i:Nat) x od',Z[i]?=some x->x.od=some od' -> U[i]?≠some (some (.ref a))
theorem Ok.setVal (k:Ok K g G H U Z) {v:V}{d:D}{i:Nat}(hi:i < Z.length) (r:Rep K G v d):Ok K g G H (U.set i<|some v) (Z.set i (.val d)):=by
 have hs:i < U.length:=by rw[<- k.len];exact hi
 have old:∀(j:Nat) x od,(Z.set i (.val d))[j]?=some x->x.od=some od->j≠i /\ Z[j]?=some x/\(U.set i<|some v)[j]? = U[j]?:=λj x od e1 e2=>by
  by_cases hj:j=i
  ·subst hj
   rw[Wat hi]at e1;cases e1;cases e2
  ·rw[Wa0 (Ne.symm hj)]at e1
   exact⟨hj,e1,Wa0<|Ne.symm hj⟩
 refine⟨k.same,k.lent,k.sub,k.frz,λb o e=>?_,by simp[k.len],λj e h=>?_,λj x od e1 e2=>?_,λj l x y od od' a e1 e2 e3 e4 e5 e6=>?_⟩
 ·obtain⟨h1,h2,h3⟩:=k.ext b o e
  refine⟨h1,h2,λj x od e1 e2=>?_⟩;obtain⟨_,q1,q2⟩:=old j x od e1 e2;rw[q2];exact h3 j x od q1 e2
 ·by_cases hj:j=i
  ·subst hj
   rw[Wat hi]at h;cases h;exact⟨v,Wat hs,r⟩
  ·rw[Wa0 (Ne.symm hj)]at h ⊢
   exact k.val j e h
 ·obtain⟨_,q1,q2⟩:=old j x od e1 e2
  rw[q2];exact k.own j x od q1 e2
 ·obtain⟨_,q1,q2⟩:=old j x od e1 e2
  obtain⟨_,q3,q4⟩:=old l y od' e3 e4;rw[q2]at e5;rw[q4]at e6;exact k.dis j l x y od od' a q1 e2 q3 e4 e5 e6
theorem Ok.setOwn (k:Ok K g G H U Z) {a:Addr}{od:OD}{i:Nat}(hi:i < Z.length) (p:Pend K g G H U Z a od):Ok K g G H (U.set i<|some (.ref a)) (Z.set i (.own od)):=by
 obtain⟨o,p1,p2,p3,p4,p5,p6⟩:=p;have hs:i < U.length:=by rw[<- k.len];exact hi
 have old:∀(j:Nat) x,j≠i->(Z.set i (.own od))[j]?=some x -> Z[j]?=some x/\(U.set i<|some (.ref a))[j]? = U[j]?:=λj x hj e1=>by
  rw[Wa0 (Ne.symm hj)]at e1;exact⟨e1,Wa0<|Ne.symm hj⟩
 refine⟨k.same,k.lent,k.sub,k.frz,λb ob e=>?_,by simp[k.len],λj e h=>?_,λj x od' e1 e2=>?_,λj l x y od1 od2 c e1 e2 e3 e4 e5 e6=>?_⟩
 ·obtain⟨h1,h2,h3⟩:=k.ext b ob e
  refine⟨h1,h2,λj x od' e1 e2=>?_⟩;by_cases hj:j=i
  ·subst hj
   rw[Wat hs];intro z;cases z;rw[p5]at e;cases e
  ·obtain⟨q1,q2⟩:=old j x hj e1
   rw[q2];exact h3 j x od' q1 e2
 ·by_cases hj:j=i
  ·subst hj
   rw[Wat hi]at h;cases h
  ·rw[Wa0 (Ne.symm hj)]at h ⊢
   exact k.val j e h
 ·by_cases hj:j=i
  ·subst hj
   rw[Wat hi]at e1;cases e1;cases e2;exact⟨a,o,Wat hs,p1,p2,p3,p4⟩
  ·obtain⟨q1,q2⟩:=old j x hj e1
   rw[q2];exact k.own j x od' q1 e2
 ·by_cases hj:j=i
  ·by_cases hl:l=i
   ·rw[hj,hl]
   ·obtain⟨q3,q4⟩:=old l y hl e3
    rw[q4]at e6;rw[hj,Wat hs]at e5;cases e5;exact absurd e6<|p6 l y od2 q3 e4
  ·obtain⟨q1,q2⟩:=old j x hj e1
   rw[q2]at e5;by_cases hl:l=i
   ·rw[hl,Wat hs]at e6
    cases e6;exact absurd e5<|p6 j x od1 q1 e2
   ·obtain⟨q3,q4⟩:=old l y hl e3
    rw[q4]at e6;exact k.dis j l x y od1 od2 c q1 e2 q3 e4 e5 e6
def Slot.put:Slot->OD->Slot
 |.own _,o=>.own o
 |.bor _,o=>.bor o
 |.ownA a _,o=>.ownA a o
 |x,_=>x
theorem SlotAt.put {g:Gm}{x:Slot}{a:Addr}{o:OD}(h:SlotAt g x a):SlotAt g (x.put o) a:=by cases x <;> exact h
theorem SlotAt.free {g:Gm}{x:Slot}{a:Addr}{od:OD}(h:SlotAt g x a) (ho:x.od=some od):g.Hz a=none\/g.B a:=by
 cases x with
 |any=>cases ho
 |val d=>cases ho
 |own o=>exact .inl h
 |bor o=>exact .inr h
 |ownA b o=>exact .inl h.2
theorem Slot.put_od {x:Slot}{od o:OD}(h:x.od=some od):(x.put o).od=some o:=by cases x <;> cases h <;> rfl
theorem Ok.write (k:Ok K g G H U Z) {a:Addr}{od od':OD}{x:Slot}{i:Nat}{o':HO}(hx:Z[i]?=some x) (hod:x.od=some od) (ha:U[i]?=some (some (.ref a))) (r:OwnRep K G o' od'):Ok K g G (upd H a o') U (Z.set i<|x.put od'):=by
 obtain⟨a',o,q1,q2,q3,q4,q5⟩:=k.own i x od hx hod;rw[ha]at q1;cases q1;have hi:i < Z.length:=(Waf.mp hx).1;have other:∀(j:Nat) y od2,(Z.set i<|x.put od')[j]?=some y->y.od=some od2->j≠i -> Z[j]?=some y:=λj y od2 e1 e2 hj=>by
  rw[Wa0 (Ne.symm hj)]at e1;exact e1
 have anyOd:∀(j:Nat) y od2,(Z.set i<|x.put od')[j]?=some y->y.od=some od2->∃y' od3,Z[j]?=some y' /\ y'.od=some od3:=λj y od2 e1 e2=>by
  by_cases hj:j=i
  ·subst hj;exact⟨x,od,hx,hod⟩
  ·exact⟨y,od2,other j y od2 e1 e2 hj,e2⟩
 refine⟨λb u hb e=>?_,λb hb=>?_,k.sub,λb u e=>?_,λb u e=>?_,by simp[k.len],λj e h=>?_,λj y od2 e1 e2=>?_,λj l y z od1 od2 c e1 e2 e3 e4 e5 e6=>?_⟩
 ·have hba:b≠a:=by
   intro z;subst z;rcases q5.free hod with z|z
   ·rw[z]at e;cases e
   ·exact hb z
  rw[Zak hba];exact k.same b u hb e
 ·by_cases hba:b=a
  ·subst hba;rw[Zao];intro z;cases z
  ·rw[Zak hba];exact k.lent b hb
 ·have hba:b≠a:=by intro z;subst z;rw[q4]at e;cases e
  rw[Zak hba];exact k.frz b u e
 ·obtain⟨h1,h2,h3⟩:=k.ext b u e
  have hba:b≠a:=by intro z;subst z;exact h3 i x od hx hod ha
  rw[Zak hba];refine⟨h1,h2,λj y od2 e1 e2=>?_⟩;obtain⟨y',od3,z1,z2⟩:=anyOd j y od2 e1 e2;exact h3 j y' od3 z1 z2
 ·by_cases hj:j=i
  ·subst hj
   rw[Wat hi]at h;cases x <;> cases hod <;> cases h
  ·rw[Wa0 (Ne.symm hj)]at h
   exact k.val j e h
 ·by_cases hj:j=i
  ·subst hj
   rw[Wat hi]at e1;cases e1;rw[Slot.put_od hod]at e2;cases e2;exact⟨a,o',ha,Zao,r,q4,q5.put⟩
  ·have e1':=other j y od2 e1 e2 hj
   obtain⟨c,oc,w1,w2,w3,w4,w5⟩:=k.own j y od2 e1' e2;have hca:c≠a:=by
    intro z;subst z;exact hj<|k.dis j i y x od2 od c e1' e2 hx hod w1 ha
   exact⟨c,oc,w1,by rw[Zak hca];exact w2,w3,w4,w5⟩
 ·obtain⟨y',od3,z1,z2⟩:=anyOd j y od1 e1 e2
  obtain⟨y'',od4,z3,z4⟩:=anyOd l z od2 e3 e4;exact k.dis j l y' y'' od3 od4 c z1 z2 z3 z4 e5 e6
theorem Ok.freeze (k:Ok K g G H U Z) {a:Addr}{ds:List D}{vs:List V}(p:Pend K g G H U Z a (.lst ds)) (hv:H a=some (.lst vs)):Ok K g (upd G a (.lst vs)) H U Z /\ Same G (upd G a (.lst vs))/\Rep K (upd G a (.lst vs)) (.ref a) (.lst ds):=by
 obtain⟨o,p1,p2,p3,p4,p5,p6⟩:=p;rw[hv]at p1;cases p1;have p2:Reps K G vs ds:=p2;have sg:Same G (upd G a (.lst vs)):=λb u e=>by rw[Zak (Zal e p3)];exact e
 refine⟨⟨k.same,k.lent,k.sub.trans sg,λb u e=>?_,λb u e=>?_,k.len,λj d h=>?_,λj x od e1 e2=>?_,k.dis⟩,sg,.lst Zao<|p2.mono sg⟩
 ·by_cases hb:b=a
  ·subst hb;rw[Zao]at e;cases e;exact⟨hv,.inl p4⟩
  ·rw[Zak hb]at e;exact k.frz b u e
 ·obtain⟨h1,h2,h3⟩:=k.ext b u e
  have hb:b≠a:=by intro z;subst z;rw[p5]at e;cases e
  exact⟨h1,by rw[Zak hb];exact h2,h3⟩
 ·obtain⟨v,h1,h2⟩:=k.val j d h
  exact⟨v,h1,h2.mono sg⟩
 ·obtain⟨c,o,w1,w2,w3,w4,w5⟩:=k.own j x od e1 e2
  have hc:c≠a:=by intro z;subst z;exact p6 j x od e1 e2 w1
  exact⟨c,o,w1,w2,w3.mono sg,by rw[Zak hc];exact w4,w5⟩
theorem Ok.drop (k:Ok K g G H U Z) (i:Nat):Ok K g G H U (Z.set i .any):=by
 have old:∀(j:Nat) x,(Z.set i .any)[j]?=some x->x=.any\/(Z[j]?=some x/\j≠i):=λj x e1=>by
  by_cases hj:j=i
  ·subst hj
   rw[Wen]at e1;simp at e1;exact .inl e1.2.symm
  ·rw[Wa0 (Ne.symm hj)]at e1
   exact .inr ⟨e1,hj⟩
 have oldO:∀(j:Nat) x od,(Z.set i .any)[j]?=some x->x.od=some od -> Z[j]?=some x:=λj x od e1 e2=>by
  rcases old j x e1 with z|z
  ·subst z;cases e2
  ·exact z.1
 refine⟨k.same,k.lent,k.sub,k.frz,λb o e=>?_,by simp[k.len],λj e h=>?_,λj x od e1 e2=>k.own j x od (oldO j x od e1 e2) e2,λj l x y od od' a e1 e2 e3 e4=>k.dis j l x y od od' a (oldO j x od e1 e2) e2 (oldO l y od' e3 e4) e4⟩
 ·obtain⟨h1,h2,h3⟩:=k.ext b o e
  exact⟨h1,h2,λj x od e1 e2=>h3 j x od (oldO j x od e1 e2) e2⟩
 ·rcases old j _ h with z|z
  ·cases z
  ·exact k.val j e z.1
theorem Ok.take (k:Ok K g G H U Z) {i:Nat}{od:OD}(h:Z[i]?=some (.own od)):∃a,U[i]?=some (some (.ref a))/\Pend K g G H U (Z.set i .any) a od:=by
 obtain⟨a,o,h1,h2,h3,h4,h5⟩:=k.own i _ od h rfl;have h5:g.Hz a=none:=h5;refine⟨a,h1,o,h2,h3,h4,h5,?_,λj x od' e1 e2 e3=>?_⟩
 ·cases q:g.Xo a with
  |none=>rfl
  |some u=>exact absurd h1 ((k.ext a u q).2.2 i _ od h rfl)
 ·by_cases hj:j=i
  ·subst hj
   rw[Wen]at e1;simp at e1;obtain⟨_,e1⟩:=e1;subst e1;cases e2
  ·rw[Wa0 (Ne.symm hj)]at e1
   exact hj<|k.dis j i x _ od' od a e1 e2 h rfl e3 h1
end
def Cont (K:W.Frag) (g:Gm) (G:Hp) (U:St) (P:D->Evt->Prop) (Q:VK):Prop:=
 ∀v d G' H' Z',Ok K g G' H' U Z' -> Same G G' -> Rep K G' v d->P d Z' -> Q v H'
def JE (K:W.Frag) (t:TE) (Z:Evt) (P:D->Evt->Prop):Prop:=
 ∀g G H U Q,Ok K g G H U Z -> Cont K g G U P Q->t U H Q
def JT (K:W.Frag) (t:TT) (Z:Evt) (P:Bool->Evt->Prop):Prop:=
 ∀g G H U Q,Ok K g G H U Z -> (∀b G' H' Z',Ok K g G' H' U Z' -> Same G G' -> P b Z' -> Q b H')->t U H Q
def JA (K:W.Frag) (t:TA) (Z:Evt) (P:List D->Evt->Prop):Prop:=
 ∀g G H U Q,Ok K g G H U Z -> (∀vs ds G' H' Z',Ok K g G' H' U Z' -> Same G G' -> Reps K G' vs ds->P ds Z' -> Q vs H')->t U H Q
def JO (K:W.Frag) (t:TE) (Z:Evt) (P:OD->Evt->Prop):Prop:=
 ∀g G H U Q,Ok K g G H U Z -> (∀a od G' H' Z',Ok K g G' H' U Z' -> Same G G' -> Pend K g G' H' U Z' a od->P od Z' -> Q (.ref a) H')->t U H Q
def JR2 (K:W.Frag) (r:R2) (d e:D) (Z:Evt) (P:D->Evt->Prop):Prop:=
 ∀g G H U Q x y,Ok K g G H U Z -> Rep K G x d->Rep K G y e->Cont K g G U P Q->r x y H Q
def JR1 (K:W.Frag) (r:V->Hp->VK->Prop) (d:D) (Z:Evt) (P:D->Evt->Prop):Prop:=
 ∀g G H U Q x,Ok K g G H U Z -> Rep K G x d->Cont K g G U P Q->r x H Q
def JC (K:W.Frag) (r:List V->Hp->VK->Prop) (ds:List D) (Z:Evt) (P:D->Evt->Prop):Prop:=
 ∀g G H U Q vs,Ok K g G H U Z -> Reps K G vs ds->Cont K g G U P Q->r vs H Q
structure Pst where
 nx:Evt->Prop
 rt:D->Evt->Prop
 bk:Evt->Prop:=λ_=>False
 ct:Evt->Prop:=λ_=>False
 ro:OD->Evt->Prop:=λ_ _=>False
structure SCont (K:W.Frag) (g:Gm) (P:Pst) (E:Ends):Prop where
 nx:∀U G H Z,Ok K g G H U Z -> P.nx Z -> E.nx U H
 rt:∀v d U G H Z,Ok K g G H U Z -> Rep K G v d->P.rt d Z -> E.rt v H
 bk:∀U G H Z,Ok K g G H U Z -> P.bk Z -> E.bk U H
 ct:∀U G H Z,Ok K g G H U Z -> P.ct Z -> E.ct U H
 ro:∀a od U G H Z,Ok K g G H U Z -> Pend K g G H U Z a od->P.ro od Z -> E.rt (.ref a) H
def JS (K:W.Frag) (t:TS) (Z:Evt) (P:Pst):Prop:=
 ∀g G H U E,Ok K g G H U Z -> SCont K g P E->t E U H
def JG (K:W.Frag) (t:TG) (d:D) (Z:Evt) (P:Evt->Prop):Prop:=
 ∀g G H U v (R:St->Hp->Prop),Ok K g G H U Z -> Rep K G v d->(∀U' G' H' Z',Ok K g G' H' U' Z' -> Same G G' -> P Z' -> R U' H')->t v U H R
def JGs (K:W.Frag) (t:TGs) (ds:List D) (Z:Evt) (P:Evt->Prop):Prop:=
 ∀g G H U vs (R:St->Hp->Prop),Ok K g G H U Z -> Reps K G vs ds->(∀U' G' H' Z',Ok K g G' H' U' Z' -> Same G G' -> P Z' -> R U' H')->t vs U H R
section
variable {K:W.Frag}{Z:Evt}
theorem Cont.up {g:Gm}{G G1:Hp}{U:St}{P:D->Evt->Prop}{Q:VK}(c:Cont K g G U P Q) (s:Same G G1):Cont K g G1 U P Q:=
 λv d G' H' Z' k s' r p=>c v d G' H' Z' k (s.trans s') r p
theorem JE.mono {t:TE}{P P':D->Evt->Prop}(h:JE K t Z P) (hp:∀d Z,P d Z -> P' d Z):JE K t Z P':=
 λg G H U Q k c=>h g G H U Q k λv d G' H' Z' k' s r p=>c v d G' H' Z' k' s r<|hp d Z' p
theorem JS.mono {t:TS}{P P':Pst}(h:JS K t Z P) (hn:∀Z,P.nx Z -> P'.nx Z) (hr:∀d Z,P.rt d Z -> P'.rt d Z) (hb:∀Z,P.bk Z -> P'.bk Z) (hc:∀Z,P.ct Z -> P'.ct Z) (ho:∀od Z,P.ro od Z -> P'.ro od Z):JS K t Z P':=
 λg G H U E k c=>h g G H U E k ⟨λU' G' H' Z' k' p=>c.nx U' G' H' Z' k'<|hn _ p,λv d U' G' H' Z' k' r p=>c.rt v d U' G' H' Z' k' r<|hr _ _ p,λU' G' H' Z' k' p=>c.bk U' G' H' Z' k'<|hb _ p,λU' G' H' Z' k' p=>c.ct U' G' H' Z' k'<|hc _ p,λa od U' G' H' Z' k' r p=>c.ro a od U' G' H' Z' k' r<|ho _ _ p⟩
theorem Zab {i:Nat}{d:D}{P:D->Evt->Prop}(h:Z[i]?=some (.val d)) (p:P d Z):JE K (tVar i) Z P:=λg G H U Q k c=>by
 obtain⟨v,h1,h2⟩:=k.val i d h;exact⟨v,h1,c v d G H Z k (Same.refl _) h2 p⟩
theorem Zeu {i:Nat}{ds:List D}{P:D->Evt->Prop}(h:Z[i]?=some (.own (.lst ds))) (p:P (.lst ds) (Z.set i (.val (.lst ds)))):JE K (tVar i) Z P:=λg G H U Q k c=>by
 obtain⟨a,h1,pd⟩:=k.take h;obtain⟨o,q1,q2,_⟩:=id pd;cases o with
 |lst vs=>
  obtain⟨k2,sg,r⟩:=(k.drop i).freeze pd q1;have k3:=k2.setVal (i:=i) (by simpa using (Waf.mp h).1) r;have e1:U.set i (some (.ref a)) = U:=by
   apply Wca;intro j;by_cases hj:j=i
   ·subst hj;rw[Wat (k.lt h),h1]
   ·rw[Wa0 (Ne.symm hj)]
  rw[e1,List.set_set]at k3;exact⟨.ref a,h1,c _ _ _ H _ k3 sg r p⟩
 |_=>exact absurd q2 (λz=>z)
theorem Zai {i:Int}{P:D->Evt->Prop}(p:P (.int i) Z):JE K (tC (.int i)) Z P:=λg G H U Q k c=>c _ _ G H Z k (Same.refl _) (.int i) p
theorem Zz5 {b:Bool}{P:D->Evt->Prop}(p:P (.bl b) Z):JE K (tC (.bl b)) Z P:=λg G H U Q k c=>c _ _ G H Z k (Same.refl _) (.bl b) p
theorem Zx4 {P:D->Evt->Prop}(p:P .non Z):JE K (tC .non) Z P:=λg G H U Q k c=>c _ _ G H Z k (Same.refl _) .non p
theorem Zmi {x:Str}{P:D->Evt->Prop}(p:P (.str x) Z):JE K (tC (.str x)) Z P:=λg G H U Q k c=>c _ _ G H Z k (Same.refl _) (.str x) p
theorem Zvg {x:String}{P:D->Evt->Prop}(p:P (.ty x) Z):JE K (tC (.ty x)) Z P:=λg G H U Q k c=>c _ _ G H Z k (Same.refl _) (.ty x) p
theorem Zaj {r:R2}{ta tb:TE}{P:D->Evt->Prop}(h:JE K ta Z λd Z1=>JE K tb Z1 λe Z2=>JR2 K r d e Z2 P):JE K (tOp r ta tb) Z P:=λg G H U Q k c=>
 h g G H U _ k λx d G1 H1 Z1 k1 s1 r1 p1=>p1 g G1 H1 U _ k1 λy e G2 H2 Z2 k2 s2 r2 p2=>p2 g G2 H2 U Q x y k2 (r1.mono s2) r2<|c.up<|s1.trans s2
theorem Zz6 {r:V->Hp->VK->Prop}{ta:TE}{P:D->Evt->Prop}(h:JE K ta Z λd Z1=>JR1 K r d Z1 P):JE K (tUn r ta) Z P:=λg G H U Q k c=>
 h g G H U _ k λx d G1 H1 Z1 k1 s1 r1 p1=>p1 g G1 H1 U Q x k1 r1<|c.up s1
theorem Zaf {P:List D->Evt->Prop}(p:P [] Z):JA K tNil Z P:=λg G H U Q k c=>c [] [] G H Z k (Same.refl _) .nil p
theorem Zac {ta:TE}{tr:TA}{P:List D->Evt->Prop}(h:JE K ta Z λd Z1=>JA K tr Z1 λds Z2=>P (d::ds) Z2):JA K (tCons ta tr) Z P:=λg G H U Q k c=>
 h g G H U _ k λx d G1 H1 Z1 k1 s1 r1 p1=>p1 g G1 H1 U _ k1 λvs ds G2 H2 Z2 k2 s2 r2 p2=>c _ _ G2 H2 Z2 k2 (s1.trans s2) (.cons (r1.mono s2) r2) p2
theorem Yz1 {i:Nat}{d:D}{tr:TA}{P:List D->Evt->Prop}(e:Z[i]?=some (.val d)) (h:JA K tr Z λds Z2=>P (d::ds) Z2):JA K (tCons (tVar i) tr) Z P:=Zac<|Zab e h
theorem Yz2 {r:R2}{i:Nat}{d:D}{tb:TE}{P:D->Evt->Prop}(g:Z[i]?=some (.val d)) (h:JE K tb Z λe Z2=>JR2 K r d e Z2 P):JE K (tOp r (tVar i) tb) Z P:=Zaj<|Zab g h
theorem Zbs {r:List V->Hp->VK->Prop}{ta:TA}{P:D->Evt->Prop}(h:JA K ta Z λds Z1=>JC K r ds Z1 P):JE K (tCB r ta) Z P:=λg G H U Q k c=>
 h g G H U _ k λvs ds G1 H1 Z1 k1 s1 r1 p1=>p1 g G1 H1 U Q vs k1 r1<|c.up s1
theorem Zcb {ta:TA}{P:D->Evt->Prop}(h:JA K ta Z λds Z1=>ds.length<=sizeLine/\P (.tup ds) Z1):JE K (tTup ta) Z P:=λg G H U Q k c=>
 h g G H U _ k λvs ds G1 H1 Z1 k1 s1 r1 ⟨z,p1⟩=>⟨by rw[r1.length];exact z,λp hp=>by
  obtain⟨k2,sg⟩:=k1.laid hp (.tup vs);exact c _ _ _ _ Z1 k2 (s1.trans sg) (.tup Zao (r1.mono sg)) p1⟩
theorem Ok.fresh {g:Gm}{G H:Hp}{U:St}(k:Ok K g G H U Z) {p:Addr}{o:HO}{od:OD}(hp:H p=none) (r:OwnRep K G o od):Ok K g G (upd H p o) U Z /\ Pend K g G (upd H p o) U Z p od:=by
 have hG:G p=none:=by
  cases e:G p with
  |none=>rfl
  |some u=>rw[k.live p u e]at hp;cases hp
 refine⟨k.grow (Same.refl _) (λb u e=>by rw[Zak (Zal e hp)];exact e) λb u e=>⟨?_,.inl e⟩,o,Zao,r,hG,k.there hp,?_,λj x od' e1 e2 e3=>?_⟩
 ·have hb:b≠p:=by intro z;subst z;rw[hG]at e;cases e
  rw[Zak hb];exact k.live b u e
 ·cases q:g.Xo p with
  |none=>rfl
  |some u=>have z:=(k.ext p u q).1;rw[hp]at z;cases z
 ·obtain⟨a,oo,w1,w2,_⟩:=k.own j x od' e1 e2
  rw[e3]at w1;cases w1;rw[hp]at w2;cases w2
theorem Zhr {ta:TA}{P:OD->Evt->Prop}(h:JA K ta Z λds Z1=>ds.length<=sizeLine/\P (.lst ds) Z1):JO K (tLst ta) Z P:=λg G H U Q k c=>
 h g G H U _ k λvs ds G1 H1 Z1 k1 s1 r1 ⟨z,p1⟩=>⟨by rw[r1.length];exact z,λp hp=>by
  obtain⟨k2,pd⟩:=k1.fresh (od:=.lst ds) hp (show OwnRep K G1 (.lst vs) (.lst ds) from r1);exact c p _ G1 _ Z1 k2 s1 pd p1⟩
theorem Zdm {t:TE}{P:D->Evt->Prop}(h:JO K t Z λod Z1=>∃ds,od=.lst ds/\P (.lst ds) Z1):JE K t Z P:=λg G H U Q k c=>
 h g G H U Q k λa od G1 H1 Z1 k1 s1 pd hq_=>by
  obtain⟨ds,e,p1⟩:=hq_;subst e;obtain⟨o,q1,q2,_⟩:=id pd;cases o with
  |lst vs=>
   obtain⟨k2,sg,r⟩:=k1.freeze pd q1;exact c _ _ _ H1 Z1 k2 (s1.trans sg) r p1
  |_=>exact absurd q2 (λz=>z)
theorem Zit {c:TT}{ta tb:TE}{P:D->Evt->Prop}(h:JT K c Z λb Z1=>if b=true then JE K ta Z1 P else JE K tb Z1 P):JE K (tIf c ta tb) Z P:=λg G H U Q k q=>
 h g G H U _ k λb G1 H1 Z1 k1 s1 p1=>by
  cases b with
  |true=>exact(show JE K ta Z1 P from p1) g G1 H1 U Q k1 (q.up s1)
  |false=>exact(show JE K tb Z1 P from p1) g G1 H1 U Q k1 (q.up s1)
theorem Za3 {t:TE}{P:Bool->Evt->Prop}(h:JE K t Z λd Z1=>∃b,d=.bl b/\P b Z1):JT K (tTest t) Z P:=λg G H U Q k c=>
 h g G H U _ k λv d G1 H1 Z1 k1 s1 r1 hq_=>by obtain⟨b,e,p1⟩:=hq_;subst e;cases r1.inv;exact⟨b,rfl,c b G1 H1 Z1 k1 s1 p1⟩
theorem Zhv {a b:TT}{P:Bool->Evt->Prop}(h:JT K a Z λx Z1=>if x=true then JT K b Z1 P else P false Z1):JT K (tAnd a b) Z P:=λg G H U Q k c=>
 h g G H U _ k λx G1 H1 Z1 k1 s1 p1=>by
  cases x with
  |true=>exact(show JT K b Z1 P from p1) g G1 H1 U _ k1 λy G2 H2 Z2 k2 s2 p2=>c y G2 H2 Z2 k2 (s1.trans s2) p2
  |false=>exact c false G1 H1 Z1 k1 s1 p1
theorem Zoh {a b:TT}{P:Bool->Evt->Prop}(h:JT K a Z λx Z1=>if x=true then P true Z1 else JT K b Z1 P):JT K (tOr a b) Z P:=λg G H U Q k c=>
 h g G H U _ k λx G1 H1 Z1 k1 s1 p1=>by
  cases x with
  |true=>exact c true G1 H1 Z1 k1 s1 p1
  |false=>exact(show JT K b Z1 P from p1) g G1 H1 U _ k1 λy G2 H2 Z2 k2 s2 p2=>c y G2 H2 Z2 k2 (s1.trans s2) p2
theorem Zft {a:TT}{P:Bool->Evt->Prop}(h:JT K a Z λx Z1=>P (!x) Z1):JT K (tNot a) Z P:=λg G H U Q k c=>
 h g G H U _ k λx G1 H1 Z1 k1 s1 p1=>c (!x) G1 H1 Z1 k1 s1 p1
theorem Zcg {P:Bool->Evt->Prop}(p:P true Z):JT K tTrue Z P:=λg G H U Q k c=>c true G H Z k (Same.refl _) p
theorem Zvs {P:Pst}(p:P.nx Z):JS K tNext Z P:=λg G H U E k c=>c.nx U G H Z k p
theorem Zux {t u:TS}{P:Pst}(h:JS K t Z { P with nx:=λZ1=>JS K u Z1 P }):JS K (tSeq t u) Z P:=λg G H U E k c=>
 h g G H U _ k ⟨λU1 G1 H1 Z1 k1 p1=>p1 g G1 H1 U1 E k1 c,c.rt,c.bk,c.ct,c.ro⟩
theorem Zyk {te:TE}{P:Pst}(h:JE K te Z P.rt):JS K (tRet te) Z P:=λg G H U E k c=>
 h g G H U _ k λv d G1 H1 Z1 k1 s1 r1 p1=>c.rt v d U G1 H1 Z1 k1 r1 p1
theorem Zwd {te:TE}{P:Pst}(h:JO K te Z P.ro):JS K (tRet te) Z P:=λg G H U E k c=>
 h g G H U _ k λa od G1 H1 Z1 k1 s1 pd p1=>c.ro a od U G1 H1 Z1 k1 pd p1
theorem Zx8 {i:Nat}{od:OD}{P:OD->Evt->Prop}(h:Z[i]?=some (.own od)) (p:P od (Z.set i .any)):JO K (tVar i) Z P:=λg G H U Q k c=>by
 obtain⟨a,h1,pd⟩:=k.take h;exact⟨.ref a,h1,c a od G H _ (k.drop i) (Same.refl _) pd p⟩
theorem Zz8 {c:TT}{t u:TS}{P:Pst}(h:JT K c Z λb Z1=>if b=true then JS K t Z1 P else JS K u Z1 P):JS K (tIfS c t u) Z P:=λg G H U E k q=>
 h g G H U _ k λb G1 H1 Z1 k1 s1 p1=>by
  cases b with
  |true=>exact(show JS K t Z1 P from p1) g G1 H1 U E k1 q
  |false=>exact(show JS K u Z1 P from p1) g G1 H1 U E k1 q
theorem Zxv {te:TE}{t:TG}{P:Pst}(h:JE K te Z λd Z1=>JG K t d Z1 P.nx):JS K (tAsg te t) Z P:=λg G H U E k c=>
 h g G H U _ k λv d G1 H1 Z1 k1 s1 r1 p1=>p1 g G1 H1 U v _ k1 r1 λU2 G2 H2 Z2 k2 s2 p2=>c.nx U2 G2 H2 Z2 k2 p2
theorem Zd3 {P:Evt->Prop}(p:P Z):JGs K gNil [] Z P:=λg G H U vs R k r c=>by cases r;exact⟨rfl,c U G H Z k (Same.refl _) p⟩
theorem Zbf {t:TG}{u:TGs}{d:D}{ds:List D}{P:Evt->Prop}(h:JG K t d Z λZ1=>JGs K u ds Z1 P):JGs K (gCons t u) (d::ds) Z P:=λg G H U vs R k r c=>by
 obtain⟨_,_,rfl,r1,rr⟩:=r.inv
 next=>exact⟨_,_,rfl,h g G H U _ _ k r1 λU1 G1 H1 Z1 k1 s1 p1=>p1 g G1 H1 U1 _ R k1 (rr.mono s1) λU2 G2 H2 Z2 k2 s2 p2=>c U2 G2 H2 Z2 k2 (s1.trans s2) p2⟩
theorem Zfr {n:Nat}{t:TGs}{ds:List D}{P:Evt->Prop}(hl:ds.length=n) (h:JGs K t ds Z P):JG K (gTup K n t) (.tup ds) Z P:=λg G H U v R k r c=>by
 obtain⟨_,_,rfl,ha,rs⟩:=r.inv
 next=>exact⟨_,_,rfl,SqT.of<|k.live _ _ ha,by rw[rs.length];exact hl,h g G H U _ R k rs c⟩
def ItOk (K:W.Frag) (G:Hp) (J:It) (ds:List D):Prop:=
 ∀G1 H1,Same G G1->Same G1 H1->J.stop ds.length H1/\∀(i:Nat) d,ds[i]?=some d->J.go i H1/\∀x H2,J.yld i H1 x H2->∃G2,Same G1 G2/\Same H1 H2/\(∀b o,G2 b=some o->H2 b=some o/\(G1 b=some o\/H1 b=none))/\Rep K G2 x d
def JI (K:W.Frag) (wi:TI) (Z:Evt) (P:List D->Evt->Prop):Prop:=
 ∀g G H U (R:It->Hp->Prop),Ok K g G H U Z -> (∀J ds G' H' Z',Ok K g G' H' U Z' -> Same G G' -> ItOk K G' J ds->P ds Z' -> R J H')->wi U H R
theorem Zyw {tl:TE}{P:List D->Evt->Prop}(h:JE K tl Z λd Z1=>∃ds,d=.tup ds/\P ds Z1):JI K (iTup K tl) Z P:=λg G H U R k c=>
 h g G H U _ k λv d G1 H1 Z1 k1 s1 r1 hq_=>by
  obtain⟨ds,e,p1⟩:=hq_;subst e;obtain⟨a,vs,rfl,ha,rs⟩:=r1.inv
  next=>
   refine⟨a,rfl,⟨vs,SqT.of<|k1.live _ _ ha⟩,c _ ds G1 H1 Z1 k1 s1 (λG2 H2 sg sh=>⟨⟨vs,SqT.of<|sh _ _<|sg _ _ ha,by rw[rs.length];exact Wag _⟩,λi d e=>?_⟩) p1⟩;obtain⟨v,hv,rv⟩:=rs.get e;refine⟨⟨vs,v,SqT.of<|sh _ _<|sg _ _ ha,hv⟩,λx H3 ⟨e3,y3⟩=>⟨G2,Same.refl _,by rw[e3];exact Same.refl _,λb o q=>⟨by rw[e3];exact sh b o q,.inl q⟩,?_⟩⟩;have:=y3 vs<|SqT.of<|sh _ _<|sg _ _ ha;rw[hv]at this;cases this;exact rv.mono sg
theorem Zv4 {tl:TE}{P:List D->Evt->Prop}(h:JE K tl Z λd Z1=>∃ds,(d=.lst ds\/d=.scr ds)/\P ds Z1):JI K (iList K tl) Z P:=λg G H U R k c=>
 h g G H U _ k λv d G1 H1 Z1 k1 s1 r1 hq_=>by
  obtain⟨ds,e,p1⟩:=hq_;obtain⟨a,vs,ea,hs,rs⟩:∃a vs,v=.ref a/\SqL K G1 a vs/\Reps K G1 vs ds:=by
   rcases e with e|e
   ·subst e;cases r1 with|lst ha rs=>exact⟨_,_,rfl,SqL.of ha,rs⟩
   ·subst e;cases r1 with|scr ha rs=>exact⟨_,_,rfl,ha,rs⟩
  subst ea;refine⟨a,rfl,⟨vs,k1.live.seq hs⟩,c _ ds G1 H1 Z1 k1 s1 (λG2 H2 sg sh=>⟨⟨vs,sh.seq<|sg.seq hs,by rw[rs.length];exact Wag _⟩,λi d e=>?_⟩) p1⟩;obtain⟨v,hv,rv⟩:=rs.get e;refine⟨⟨vs,v,sh.seq<|sg.seq hs,hv⟩,λx H3 ⟨e3,y3⟩=>⟨G2,Same.refl _,by rw[e3];exact Same.refl _,λb o q=>⟨by rw[e3];exact sh b o q,.inl q⟩,?_⟩⟩;have:=y3 vs<|sh.seq<|sg.seq hs;rw[hv]at this;cases this;exact rv.mono sg
def rngD (lo:Int) (n:Nat):List D:=(Wah n).map λi:Nat=>D.int<|lo+(i:Int)
theorem Zbc (lo:Int) (n:Nat):(rngD lo n).length=n:=by simp[rngD]
theorem Zch {lo:Int}{n i:Nat}{d:D}(h:(rngD lo n)[i]?=some d):i<n/\d=.int (lo+(i:Int)):=by
 unfold rngD at h;rw[Wae]at h;cases e:(Wah n)[i]? with
 |none=>rw[e]at h;cases h
 |some j=>
  rw[e]at h;obtain⟨h1,h2⟩:=Waf.mp e;rw[Wcq]at h2;subst h2;exact⟨by simpa using h1,(Wbs.inj h).symm⟩
theorem Zsg {G:Hp}(lo:Int) (n:Nat):ItOk K G (Itr lo n) (rngD lo n):=λG1 H1 sg sh=>by
 refine⟨by show n<=(rngD lo n).length;rw[Zbc];exact Wag _,λi d e=>?_⟩;obtain⟨h1,h2⟩:=Zch e;subst h2;refine⟨h1,λx H2 ⟨e2,y2⟩=>⟨G1,Same.refl _,by rw[e2];exact Same.refl _,λb o q=>⟨by rw[e2];exact sh b o q,.inl q⟩,?_⟩⟩;subst y2;exact .int _
theorem Zbn {ta:TA}{P:List D->Evt->Prop}(h:JA K ta Z λds Z1=>∃n:Int,ds=[.int n] /\ -(2 ^ 62)<=n/\n<2 ^ 62/\P (rngD 0 n.toNat) Z1):JI K (iRng1 ta) Z P:=λg G H U R k c=>
 h g G H U _ k λvs ds G1 H1 Z1 k1 s1 r1 hq_=>by
  obtain⟨n,e,h1,h2,p1⟩:=hq_;subst e;obtain⟨_,_,rfl,ra,rr⟩:=r1.inv
  next=>
   cases rr.inv;cases ra.inv;exact⟨n,rfl,h1,h2,c _ _ G1 H1 Z1 k1 s1 (Zsg 0 _) p1⟩
theorem Zyt {wi:TI}{t:TG}{tb:TS}{P:Pst}(h:JI K wi Z λds Z1=>∃I:Nat->Evt->Prop,I 0 Z1/\(∀i d Z2,ds[i]?=some d->I i Z2->JG K t d Z2 λZ3=>JS K tb Z3 ⟨I<|i+1,P.rt,P.nx,I<|i+1,P.ro⟩)/\∀Z2,I ds.length Z2->P.nx Z2) :
  JS K (tFor wi t tb) Z P:=λg G H U E k c=>
 h g G H U _ k λJ ds G1 H1 Z1 k1 s1 it hq_=>by
  obtain⟨I,h0,ht,he⟩:=hq_;refine⟨λi m U H=>m=ds.length-i/\i<=ds.length/\∃G Z,Ok K g G H U Z /\ Same G1 G/\I i Z,⟨ds.length,by simp,Wbn _,G1,Z1,k1,Same.refl _,h0⟩,?_⟩;rintro i m U2 H2 ⟨rfl,hi,G2,Z2,k2,s2,h2⟩;obtain⟨stop,go⟩:=it G2 H2 s2 k2.live;by_cases hlt:i<ds.length
  ·obtain⟨g1,g2⟩:=go i _ (Waa hlt)
   refine .inr ⟨g1,λU' H'=>i+1<=ds.length/\∃G Z,Ok K g G H' U' Z /\ Same G1 G/\I (i+1) Z,λU' H' p'=>⟨ds.length-(i+1),by omega,rfl,p'.1,p'.2⟩,λx H3 y=>?_⟩;obtain⟨G3,a1,a2,a3,a4⟩:=g2 x H3 y;have k3:=k2.grow a1 a2 a3;refine ht i _ Z2 (Waa hlt) h2 { g with F:=G3,Xo:=g.Xo } G3 H3 U2 x _ ?_ a4 λU4 G4 H4 Z4 k4 s4 p4=>?_
   ·exact⟨k3.same,k3.lent,Same.refl _,λb o q=>⟨(k3.frz b o q).1,.inr q⟩,k3.ext,k3.len,k3.val,k3.own,k3.dis⟩
   ·have cv:∀{G5 H5:Hp}{U5:St}{Z5:Evt},Ok K { g with F:=G3,Xo:=g.Xo } G5 H5 U5 Z5->Ok K g G5 H5 U5 Z5/\Same G1 G5:=λ{G5 H5 U5 Z5} k5=>
     ⟨⟨k5.same,k5.lent,k3.sub.trans k5.sub,λb o q=>by
      obtain⟨q1,q2⟩:=k5.frz b o q;refine⟨q1,?_⟩;rcases q2 with z|z
      ·exact .inl z
      ·exact(k3.frz b o z).2,k5.ext,k5.len,k5.val,k5.own,k5.dis⟩,s2.trans (a1.trans k5.sub)⟩
    refine p4 _ G4 H4 U4 _ k4 ⟨λU5 G5 H5 Z5 k5 p5=>?_,λv d U5 G5 H5 Z5 k5 r5 p5=>?_,λU5 G5 H5 Z5 k5 p5=>?_,λU5 G5 H5 Z5 k5 p5=>?_,λa od U5 G5 H5 Z5 k5 pd5 p5=>?_⟩
    ·exact⟨hlt,G5,Z5,(cv k5).1,(cv k5).2,p5⟩
    ·exact c.rt v d U5 G5 H5 Z5 (cv k5).1 r5 p5
    ·exact c.nx U5 G5 H5 Z5 (cv k5).1 p5
    ·exact⟨hlt,G5,Z5,(cv k5).1,(cv k5).2,p5⟩
    ·exact c.ro a od U5 G5 H5 Z5 (cv k5).1 pd5 p5
  ·have e:i=ds.length:=by omega
   subst e;exact .inl ⟨stop,c.nx U2 G2 H2 Z2 k2<|he Z2 h2⟩
theorem Zr5 {c:TT}{tb:TS}{P:Pst}(I:Nat->Evt->Prop) (h0:∃m,I m Z) (ht:∀m Z1,I m Z1->JT K c Z1 λb Z2=>if b=true then JS K tb Z2 ⟨λZ3=>∃m',m'<m/\I m' Z3,P.rt,P.nx,λZ3=>∃m',m'<m/\I m' Z3,P.ro⟩ else P.nx Z2) :
  JS K (tWhile c tb) Z P:=λg G H U E k q=>by
 obtain⟨m,h0⟩:=h0;refine⟨λm U H=>∃G Z,Ok K g G H U Z /\ I m Z,⟨m,G,Z,k,h0⟩,?_⟩;rintro m U1 H1 ⟨G1,Z1,k1,h1⟩;refine ht m Z1 h1 g G1 H1 U1 _ k1 λb G2 H2 Z2 k2 s2 p2=>?_;cases b with
 |true=>
  refine⟨λU' H'=>∃m',m'<m/\∃G Z,Ok K g G H' U' Z /\ I m' Z,λU' H' ⟨m',hm,z⟩=>⟨m',hm,z⟩,?_⟩;refine(show JS K tb Z2 _ from p2) g G2 H2 U1 _ k2 ⟨λU5 G5 H5 Z5 k5 ⟨m',hm,p5⟩=>⟨m',hm,G5,Z5,k5,p5⟩,q.rt,q.nx,λU5 G5 H5 Z5 k5 ⟨m',hm,p5⟩=>⟨m',hm,G5,Z5,k5,p5⟩,q.ro⟩
 |false=>exact q.nx U1 G2 H2 Z2 k2 p2
end
section
variable {K:W.Frag}{Z:Evt}{P:D->Evt->Prop}
theorem jr_I {C:Int->Int->Prop}{f:Int->Int->Int}{i j:Int}(hc:C i j) (p:P (.int<|f i j) Z):JR2 K (rI C λi j=>.int<|f i j) (.int i) (.int j) Z P:=λg G H U Q x y k rx ry c=>by
 cases rx.inv;cases ry.inv;exact⟨i,j,rfl,rfl,hc,c _ _ G H Z k (Same.refl _) (.int _) p⟩
theorem Ze7 {f:Int->Int->Int}{i j:Int}(p:P (.int<|f i j) Z):JR2 K (rI0 λi j=>.int<|f i j) (.int i) (.int j) Z P:=λg G H U Q x y k rx ry c=>by
 cases rx.inv;cases ry.inv;exact⟨i,j,rfl,rfl,c _ _ G H Z k (Same.refl _) (.int _) p⟩
theorem Zpt {f:Int->Int->Bool}{i j:Int}(p:P (.bl<|f i j) Z):JR2 K (rI0 λi j=>.bl<|f i j) (.int i) (.int j) Z P:=λg G H U Q x y k rx ry c=>by
 cases rx.inv;cases ry.inv;exact⟨i,j,rfl,rfl,c _ _ G H Z k (Same.refl _) (.bl _) p⟩
theorem Zdt {i j:Int}(p:P (.bl<|decide (i=j)) Z):JR2 K rEq (.int i) (.int j) Z P:=λg G H U Q x y k rx ry c=>by
 cases rx.inv;cases ry.inv;refine⟨rfl,?_⟩;have e:decide (V.int i=V.int j)=decide (i=j):=by rw[Zic];exact(Wd7 i j)
 rw[e];exact c _ _ G H Z k (Same.refl _) (.bl _) p
theorem Znf {i j:Int}(p:P (.bl (!decide (i=j))) Z):JR2 K rNe (.int i) (.int j) Z P:=λg G H U Q x y k rx ry c=>by
 cases rx.inv;cases ry.inv;refine⟨rfl,?_⟩;have e:decide (V.int i=V.int j)=decide (i=j):=by rw[Zic];exact(Wd7 i j)
 rw[e];exact c _ _ G H Z k (Same.refl _) (.bl _) p
theorem Zuu {i j:Bool}(p:P (.bl<|decide (i=j)) Z):JR2 K rEq (.bl i) (.bl j) Z P:=λg G H U Q x y k rx ry c=>by
 cases rx.inv;cases ry.inv;refine⟨rfl,?_⟩;have e:decide (V.bl i=V.bl j)=decide (i=j):=by cases i <;> cases j <;> rfl
 rw[e];exact c _ _ G H Z k (Same.refl _) (.bl _) p
theorem Zyq {i j:Bool}(p:P (.bl (!decide (i=j))) Z):JR2 K rNe (.bl i) (.bl j) Z P:=λg G H U Q x y k rx ry c=>by
 cases rx.inv;cases ry.inv;refine⟨rfl,?_⟩;have e:decide (V.bl i=V.bl j)=decide (i=j):=by cases i <;> cases j <;> rfl
 rw[e];exact c _ _ G H Z k (Same.refl _) (.bl _) p
theorem Zzg {ds:List D}{i:Int}{d:D}(h:atI ds i=some d) (p:P d Z):JR2 K (rIxT K) (.tup ds) (.int i) Z P:=λg G H U Q x y k rx ry c=>by
 obtain⟨_,_,rfl,ha,rs⟩:=rx.inv
 next=>
  cases ry.inv;obtain⟨v,h1,h2⟩:=Zjg rs h;exact⟨_,_,i,v,rfl,rfl,SqT.of<|k.live _ _ ha,h1,c v d G H Z k (Same.refl _) h2 p⟩
theorem Zy6 {ds:List D}{i:Int}{d:D}(h:atI ds i=some d) (p:P d Z):JR2 K (rIxL K) (.lst ds) (.int i) Z P:=λg G H U Q x y k rx ry c=>by
 obtain⟨_,_,rfl,ha,rs⟩:=rx.inv
 next=>
  cases ry.inv;obtain⟨v,h1,h2⟩:=Zjg rs h;exact⟨_,_,i,v,rfl,rfl,SqL.of<|k.live _ _ ha,h1,c v d G H Z k (Same.refl _) h2 p⟩
theorem Zpd {n:Nat}{te:TE}{Pp:Pst}{x:Slot}{od:OD}(hx:Z[n]?=some x) (ho:x.od=some od) (hod:∃ds,od=.lst ds)
  (h:JE K te Z λd Z1=>∃y ds,Z1[n]?=some y/\y.od=some (.lst ds)/\ds.length<sizeLine/\Pp.nx (Z1.set n<|y.put (.lst<|ds++[d]))) :
  JS K (tDrop<|tBM K "list" rAppend (tVar n)<|tCons te tNil) Z Pp:=λg G H U E k c=>by
 obtain⟨a,o,h1,h2,h3,h4,h5⟩:=k.own n x _ hx ho;obtain⟨ds0,hod⟩:=hod;subst hod;cases o with
 |lst vs0=>
  refine⟨.ref a,h1,.inl ⟨rfl,_,SqL.of h2⟩,h g G H U _ k λv d G1 H1 Z1 k1 s1 r1 ⟨y,ds,q1,q2,q3,p⟩=>?_⟩;obtain⟨a',o',w1,w2,w3,w4,w5⟩:=k1.own n y _ q1 q2;rw[h1]at w1;cases w1;cases o' with
  |lst vs=>
   have w3:Reps K G1 vs ds:=w3;exact⟨a,vs,v,rfl,rfl,w2,by rw[w3.length];exact q3,c.nx U G1 _ _ (k1.write q1 q2 h1 (show OwnRep K G1 (.lst<|vs++[v]) (.lst<|ds++[d]) from w3.append (.cons r1 .nil))) p⟩
  |_=>exact absurd w3 (λz=>z)
 |_=>exact absurd h3 (λz=>z)
theorem Zzl {ds es:List D}(he:ds=[.lst es]\/ds=[.tup es]) (p:P (.int es.length) Z) :
  JC K (λxs H Q=>∃p ys,xs=[.ref p]/\(SqL K H p ys\/SqT K H p ys)/\Q (.int ys.length) H) ds Z P:=λg G H U Q vs k rs c=>by
 rcases he with he|he <;> subst he
 ·obtain⟨_,_,rfl,r,t⟩:=rs.inv
  next=>
   cases t.inv;obtain⟨_,_,rfl,ha,rs⟩:=r.inv
   next=>
    refine⟨_,_,rfl,.inl<|SqL.of<|k.live _ _ ha,?_⟩;rw[rs.length];exact c _ _ G H Z k (Same.refl _) (.int _) p
 ·obtain⟨_,_,rfl,r,t⟩:=rs.inv
  next=>
   cases t.inv;obtain⟨_,_,rfl,ha,rs⟩:=r.inv
   next=>
    refine⟨_,_,rfl,.inr<|SqT.of<|k.live _ _ ha,?_⟩;rw[rs.length];exact c _ _ G H Z k (Same.refl _) (.int _) p
theorem Zvx {n:Nat}{x:Slot}{ds:List D}(hx:Z[n]?=some x) (ho:x.od=some (.lst ds)) (p:P (.int ds.length) Z) :
  JE K (tCB (λxs H Q=>∃p ys,xs=[.ref p]/\(SqL K H p ys\/SqT K H p ys)/\Q (.int ys.length) H)<|tCons (tVar n) tNil) Z P:=λg G H U Q k c=>by
 obtain⟨a,o,h1,h2,h3,h4,h5⟩:=k.own n x _ hx ho;cases o with
 |lst vs=>
  have h3:Reps K G vs ds:=h3;refine⟨.ref a,h1,a,vs,rfl,.inl<|SqL.of h2,?_⟩;rw[h3.length];exact c _ _ G H Z k (Same.refl _) (.int _) p
 |_=>exact absurd h3 (λz=>z)
theorem Zx5 {i:Int}(p:P (.int (if i<0 then -i else i)) Z):JC K (λxs H Q=>∃i,xs=[.int i]/\Q (.int (if i<0 then -i else i)) H) [.int i] Z P:=λg G H U Q vs k rs c=>by
 obtain⟨_,_,rfl,r,t⟩:=rs.inv
 next=>cases t.inv;cases r.inv;exact⟨i,rfl,c _ _ G H Z k (Same.refl _) (.int _) p⟩
theorem Zhj {f:Int->Int->Int}{i j:Int}(p:P (.int<|f i j) Z):JC K (λxs H Q=>∃i j,xs=[.int i,.int j]/\Q (.int<|f i j) H) [.int i,.int j] Z P:=λg G H U Q vs k rs c=>by
 obtain⟨_,_,rfl,r,t⟩:=rs.inv
 next=>
  obtain⟨_,_,rfl,r',t⟩:=t.inv
  next=>cases t.inv;cases r.inv;cases r'.inv;exact⟨i,j,rfl,c _ _ G H Z k (Same.refl _) (.int _) p⟩
theorem Zr2 {ds es:List D}(he:ds=[.lst es]\/ds=[.tup es]) (p:P (.tup es) Z) :
  JC K (λxs H Q=>∃p ys,xs=[.ref p]/\((SqL K H p ys/\∀l,H l=none->Q (.ref l) (upd H l (.tup ys)))\/(SqT K H p ys/\Q (.ref p) H))) ds Z P:=λg G H U Q vs k rs c=>by
 rcases he with he|he <;> subst he
 ·obtain⟨_,_,rfl,r,t⟩:=rs.inv
  next=>
   cases t.inv;obtain⟨_,_,rfl,ha,rs⟩:=r.inv
   next=>
    refine⟨_,_,rfl,.inl ⟨SqL.of<|k.live _ _ ha,λl hl=>?_⟩⟩;obtain⟨k2,sg⟩:=k.laid hl (.tup _);exact c _ _ _ _ Z k2 sg (.tup Zao<|rs.mono sg) p
 ·obtain⟨_,_,rfl,r,t⟩:=rs.inv
  next=>
   cases t.inv;obtain⟨_,_,rfl,ha,rs⟩:=r.inv
   next=>exact⟨_,_,rfl,.inr ⟨SqT.of<|k.live _ _ ha,c _ _ G H Z k (Same.refl _) (.tup ha rs) p⟩⟩
def glue (F H H':Hp):Hp:=λb=>match H b with
 |none=>H' b
 |some _=>F b
theorem Ze8 {F H H':Hp}{b:Addr}(h:H b=none):glue F H H' b=H' b:=by unfold glue;rw[h]
theorem Zdq {F H H':Hp}{b:Addr}{o:HO}(h:H b=some o):glue F H H' b=F b:=by unfold glue;rw[h]
theorem Zf3 {G H H':Hp}(l:Same G H):Same G (glue G H H'):=λb o e=>by rw[Zdq (l b o e)];exact e
theorem Ziq {G H H':Hp}(l:Same G H) (sh:∀b o,G b=some o->H b=some o->H' b=some o):∀b o,glue G H H' b=some o->H' b=some o/\(G b=some o\/H b=none):=λb o e=>by
 cases q:H b with
 |none=>rw[Ze8 q]at e;exact⟨e,.inr rfl⟩
 |some u=>rw[Zdq q]at e;exact⟨sh b o e (l b o e),.inl e⟩
abbrev DSp:=List D->(D->Prop)->Prop
def spD (K:W.Frag) (f:DSp):Sp:=λvs H Q _=>∃F ds Post,Same F H/\Reps K F vs ds/\f ds Post/\∀r H' d,Same H H' -> Rep K (glue F H H') r d->Post d->Q r H'
theorem Zay {f:DSp}{ta:TA}{E:XK}(h:JA K ta Z λds Z1=>f ds λd=>P d Z1):JE K (tCall (spD K f) [] E ta) Z P:=λg G H U Q k c=>
 h g G H U _ k λvs ds G1 H1 Z1 k1 s1 r1 p1=>by
  show spD K f (vs++[]) H1 Q E;rw[Wbi];refine⟨G1,ds,_,k1.live,r1,p1,λr H' d sh rr pd=>?_⟩;have sg:=Zf3 (H':=H') k1.live;exact c r d _ H' Z1 (k1.grow sg sh (Ziq k1.live λb o _ e=>sh b o e)) (s1.trans sg) rr pd
abbrev BSp:=List D->List D->(D->List D->Prop)->Prop
def spB (K:W.Frag) (f:BSp):Sp:=λvs H Q _=>∃F a us ws ps ds Post,vs=.ref a::ws/\Same F H/\F a=none/\H a=some (.lst us)/\Reps K F us ps/\Reps K F ws ds/\f ps ds Post /\
 ∀r H' us' ps' d,(∀b o,b≠a->H b=some o->H' b=some o)->H' a=some (.lst us')->Reps K (glue F H H') us' ps' -> Rep K (glue F H H') r d->Post d ps' -> Q r H'
theorem Ok.lend {g:Gm}{G H H':Hp}{U:St}(k:Ok K g G H U Z) {i:Nat}{x:Slot}{ps ps':List D}{us':List V}{a:Addr}(hx:Z[i]?=some x) (ho:x.od=some (.lst ps)) (ha:U[i]?=some (some (.ref a)))
  (sh:∀b o,b≠a->H b=some o->H' b=some o) (hn:H' a=some (.lst us')) (r:Reps K (glue G H H') us' ps'):Ok K g (glue G H H') H' U (Z.set i<|x.put (.lst ps'))/\Same G (glue G H H'):=by
 obtain⟨a',o,h1,h2,h3,h4,h5⟩:=k.own i x _ hx ho;rw[ha]at h1;cases h1;have sg:=Zf3 (H':=H') k.live;have k2:Ok K g (glue G H H') (upd H' a o) U Z:=by
  refine k.grow sg (λb u e=>?_) λb u e=>?_
  ·by_cases hb:b=a
   ·subst hb;rw[Zao,<- h2];exact e
   ·rw[Zak hb];exact sh b u hb e
  ·have hb:b≠a:=by intro z;subst z;rw[Zdq h2,h4]at e;cases e
   rw[Zak hb];exact Ziq k.live (λc w e1 e2=>sh c w (λz=>by subst z;rw[h4]at e1;cases e1) e2) b u e
 have k3:=k2.write hx ho ha (show OwnRep K (glue G H H') (.lst us') (.lst ps') from r);rw[Zws]at k3;have e:upd H' a (.lst us')=H':=by
  funext b
  by_cases hb:b=a
  ·subst hb;rw[Zao,hn]
  ·rw[Zak hb]
 rw[e]at k3;exact⟨k3,sg⟩
theorem Zd4 {f:BSp}{ta:TA}{E:XK}{i:Nat}{x:Slot}{od:OD}(hx:Z[i]?=some x) (ho:x.od=some od) (h:JA K ta Z λds Z1=>∃y ps,Z1[i]?=some y/\y.od=some (.lst ps)/\f ps ds λd ps'=>P d (Z1.set i<|y.put (.lst ps'))) :
  JE K (tCall (spB K f) [] E<|tCons (tVar i) ta) Z P:=λg G H U Q k c=>by
 obtain⟨a,o,h1,h2,h3,h4,h5⟩:=k.own i x _ hx ho;refine⟨.ref a,h1,h g G H U _ k λvs ds G1 H1 Z1 k1 s1 r1 ⟨y,ps,q1,q2,p1⟩=>?_⟩;show spB K f ((.ref a::vs)++[]) H1 Q E;rw[Wbi];obtain⟨a',o',w1,w2,w3,w4,w5⟩:=k1.own i y _ q1 q2;rw[h1]at w1;cases w1;cases o' with
 |lst us=>
  refine⟨G1,a,us,vs,ps,ds,_,rfl,k1.live,w4,w2,w3,r1,p1,λr H' us' ps' d sh hn rr rd pd=>?_⟩;obtain⟨k2,sg⟩:=k1.lend q1 q2 h1 sh hn rr;exact c r d _ H' _ k2 (s1.trans sg) rd pd
 |_=>exact absurd w3 (λz=>z)
abbrev NSp:=List D->(List D->Prop)->Prop
def spN (K:W.Frag) (f:NSp):Sp:=λvs H Q _=>∃F ds Post,Same F H/\Reps K F vs ds/\f ds Post /\
 ∀a H' us ps,Same H H' -> H a=none->H' a=some (.lst us)->Reps K (λb=>if b=a then none else glue F H H' b) us ps->Post ps->Q (.ref a) H'
theorem Zg3 {f:NSp}{ta:TA}{E:XK}{Po:OD->Evt->Prop}(h:JA K ta Z λds Z1=>f ds λps=>Po (.lst ps) Z1):JO K (tCall (spN K f) [] E ta) Z Po:=λg G H U Q k c=>
 h g G H U _ k λvs ds G1 H1 Z1 k1 s1 r1 p1=>by
  show spN K f (vs++[]) H1 Q E;rw[Wbi];refine⟨G1,ds,_,k1.live,r1,p1,λa H' us ps sh ha hn rr pd=>?_⟩;have sg:Same G1 (λb=>if b=a then none else glue G1 H1 H' b):=λb o e=>by
   have hb:b≠a:=by intro z;subst z;rw[k1.live _ _ e]at ha;cases ha
   try dsimp only
   rw[if_neg hb];exact Zf3 k1.live b o e
  have k2:Ok K g (λb=>if b=a then none else glue G1 H1 H' b) H' U Z1:=k1.grow sg sh λb o e=>by
   try dsimp only at e
   by_cases hb:b=a
   ·rw[if_pos hb]at e;cases e
   ·rw[if_neg hb]at e;exact Ziq k1.live (λb o _ e=>sh b o e) b o e
  refine c a _ _ H' Z1 k2 (s1.trans sg) ⟨.lst us,hn,(show OwnRep K _ (.lst us) (.lst ps) from rr),by simp,k1.there ha,?_,λj x od' e1 e2 e3=>?_⟩ pd
  ·cases q:g.Xo a with
   |none=>rfl
   |some u=>have z:=(k1.ext a u q).1;rw[ha]at z;cases z
  ·obtain⟨b,oo,w1,w2,_⟩:=k1.own j x od' e1 e2
   rw[e3]at w1;cases w1;rw[ha]at w2;cases w2
end
def startD (N:List Str) (ds:List D):Evt:=ds.map .val++Wak (N.length-ds.length) .any
section
variable {K:W.Frag}
theorem Zf1 {g:Gm}{G H:Hp}{N:List Str}{vs:List V}{ds:List D}(rs:Reps K G vs ds) (hl:ds.length<=N.length) (same:∀b o,¬ g.B b->g.Hz b=some o->H b=some o) (lent:∀b,g.B b->H b≠none) (sub:Same g.F G)
  (frz:∀b o,G b=some o->H b=some o/\(g.Hz b=none\/g.F b=some o)) (ext:∀b,g.Xo b=none):Ok K g G H (start N vs) (startD N ds):=by
 have noOd:∀(i:Nat) x od,(startD N ds)[i]?=some x->x.od=some od->False:=λi x od e1 e2=>by
  have hm:=Wau e1;rcases Wbh.mp hm with z|z
  ·obtain⟨d,_,rfl⟩:=Wa1.mp z;cases e2
  ·rw[List.mem_replicate]at z;rw[z.2]at e2;cases e2
 refine⟨same,lent,sub,frz,λb o e=>(by rw[ext b]at e;cases e),?_,λi d e=>?_,λi x od e1 e2=>(noOd i x od e1 e2).elim,λi j x y od od' a e1 e2=>(noOd i x od e1 e2).elim⟩
 ·unfold start startD
  rw[Wai,Wai,Wab,Wab,Wax,Wax,rs.length]
 ·unfold startD at e
  unfold start;by_cases hi:i<ds.length
  ·rw[Wbd (by simpa using hi),Wae]at e
   cases q:ds[i]? with
   |none=>rw[q]at e;cases e
   |some d'=>
    rw[q]at e;have e:Slot.val d'=Slot.val d:=by simpa using e
    cases e;obtain⟨v,h1,h2⟩:=rs.get q;refine⟨v,?_,h2⟩;rw[Wbd (by rw[Wab,rs.length];exact hi),Wae,h1];rfl
  ·rw[Wa2 (by simpa using hi),Wb7]at e
   split at e <;> cases e
theorem Zct {f:DSp}{t:TS}{N:List Str}{vs:List V}{H:Hp}{Q:VK}{E:XK}(ht:∀ds Post,f ds Post->ds.length<=N.length/\JS K t (startD N ds) ⟨λ_=>Post .non,λd _=>Post d,λ_=>False,λ_=>False,λ_ _=>False⟩) (h:spD K f vs H Q E) :
  t { nx:=λ_ H'=>Q .non H',rt:=Q } (start N vs) H:=by
 obtain⟨F,ds,Post,l,rs,hf,q⟩:=h;obtain⟨hl,hj⟩:=ht ds Post hf;have fin:∀{v:V}{d:D}{U:St}{G H':Hp}{Z:Evt},Ok K ⟨λ_=>False,F,H,λ_=>none⟩ G H' U Z -> Rep K G v d->Post d->Q v H':=λ{v d U G H' Z} k r p=>by
  refine q v H' d (λb o e=>k.same b o (λz=>z) e) (r.mono λb o e=>?_) p;obtain⟨e1,e2⟩:=k.frz b o e;rcases e2 with z|z
  ·rw[Ze8 z];exact e1
  ·rw[Zdq (l b o z)];exact z
 refine hj ⟨λ_=>False,F,H,λ_=>none⟩ F H (start N vs) _ (Zf1 rs hl (λ_ _ _ e=>e) (λ_ z=>z.elim) (Same.refl _) (λb o e=>⟨l b o e,.inr e⟩) λ_=>rfl) ⟨λU G H' Z k p=>fin k .non p,λv d U G H' Z k r p=>fin k r p,λ_ _ _ _ _ z=>z.elim,λ_ _ _ _ _ z=>z.elim,λ_ _ _ _ _ _ _ _ z=>z.elim⟩
theorem Zr0 {f:NSp}{t:TS}{N:List Str}{vs:List V}{H:Hp}{Q:VK}{E:XK}(ht:∀ds Post,f ds Post->ds.length<=N.length/\JS K t (startD N ds) ⟨λ_=>False,λ_ _=>False,λ_=>False,λ_=>False,λod _=>∃ps,od=.lst ps/\Post ps⟩) (h:spN K f vs H Q E) :
  t { nx:=λ_ H'=>Q .non H',rt:=Q } (start N vs) H:=by
 obtain⟨F,ds,Post,l,rs,hf,q⟩:=h;obtain⟨hl,hj⟩:=ht ds Post hf;refine hj ⟨λ_=>False,F,H,λ_=>none⟩ F H (start N vs) _ (Zf1 rs hl (λ_ _ _ e=>e) (λ_ z=>z.elim) (Same.refl _) (λb o e=>⟨l b o e,.inr e⟩) λ_=>rfl) ⟨λ_ _ _ _ _ z=>z.elim,λ_ _ _ _ _ _ _ _ z=>z.elim,λ_ _ _ _ _ z=>z.elim,λ_ _ _ _ _ z=>z.elim,λa od U G H' Z k pd ⟨ps,e,p⟩=>?_⟩;subst e;obtain⟨o,h1,h2,h3,h4,h5,h6⟩:=pd;cases o with
 |lst us=>
  refine q a H' us ps (λb o e=>k.same b o (λz=>z) e) h4 h1 (Reps.mono (λb o e=>?_) (show Reps K G us ps from h2)) p;have hb:b≠a:=by intro z;subst z;rw[h3]at e;cases e
  try dsimp only
  rw[if_neg hb];obtain⟨e1,e2⟩:=k.frz b o e;rcases e2 with z|z
  ·rw[Ze8 z];exact e1
  ·rw[Zdq (l b o z)];exact z
 |_=>exact absurd h2 (λz=>z)
theorem Zrw {f:BSp}{t:TS}{N:List Str}{vs:List V}{H:Hp}{Q:VK}{E:XK}(ht:∀ps ds Post,f ps ds Post->ds.length+1<=N.length/\JS K t (.bor (.lst ps)::startD N.tail ds) ⟨λZ=>∃ps',Z[0]?=some (.bor (.lst ps'))/\Post .non ps',λd Z=>∃ps',Z[0]?=some (.bor (.lst ps'))/\Post d ps',λ_=>False,λ_=>False,λ_ _=>False⟩) (h:spB K f vs H Q E) :
  t { nx:=λ_ H'=>Q .non H',rt:=Q } (start N vs) H:=by
 obtain⟨F,a,us,ws,ps,ds,Post,rfl,l,fa,ha,ru,rs,hf,q⟩:=h;obtain⟨hl,hj⟩:=ht ps ds Post hf;have fin:∀{v:V}{d:D}{U:St}{G H':Hp}{Z:Evt}{ps':List D},Ok K ⟨λb=>b=a,F,H,λ_=>none⟩ G H' U Z -> Z[0]?=some (.bor (.lst ps'))->Rep K G v d->Post d ps' -> Q v H':=λ{v d U G H' Z ps'} k e0 r p=>by
  obtain⟨a',o,h1,h2,h3,h4,h5⟩:=k.own 0 _ _ e0 rfl;have ea:a'=a:=h5;subst ea;cases o with
  |lst us'=>
   have up:Same G (glue F H H'):=λb o e=>by
    obtain⟨e1,e2⟩:=k.frz b o e;rcases e2 with z|z
    ·rw[Ze8 z];exact e1
    ·rw[Zdq (l b o z)];exact z
   exact q v H' us' ps' d (λb o hb e=>k.same b o hb e) h2 (Reps.mono up (show Reps K G us' ps' from h3)) (r.mono up) p
  |_=>exact absurd h3 (λz=>z)
 cases N with
 |nil=>simp at hl
 |cons n0 N=>
  have hl':ds.length<=N.length:=by simpa using hl
  have k0:=Zf1 (K:=K) (H:=H) (g:=⟨λb=>b=a,F,H,λ_=>none⟩) (N:=N) rs hl' (λ_ _ _ e=>e) (λb z=>by subst z;rw[ha];intro w;cases w) (Same.refl _) (λb o e=>⟨l b o e,.inr e⟩) λ_=>rfl;have e1:start (n0::N) (.ref a::ws)=some (.ref a)::start N ws:=by
   unfold start;rw[Wbe,Waj,Waj,Nat.add_sub_add_right];rfl
  rw[e1];have noOd:∀(i:Nat) x od,(startD N ds)[i]?=some x->x.od=some od->False:=λi x od e1 e2=>by
   have hm:=Wau e1;rcases Wbh.mp hm with z|z
   ·obtain⟨d,_,rfl⟩:=Wa1.mp z;cases e2
   ·rw[List.mem_replicate]at z;rw[z.2]at e2;cases e2
  have k1:Ok K ⟨λb=>b=a,F,H,λ_=>none⟩ F H (some (.ref a)::start N ws) (.bor (.lst ps)::startD N ds):=by
   refine⟨k0.same,k0.lent,k0.sub,k0.frz,λb o e=>(by cases e),(by rw[Waj,Waj,k0.len]),λi d e=>?_,λi x od e1 e2=>?_,λi j x y od od' c e1 e2 e3 e4 _ _=>?_⟩
   ·cases i with
    |zero=>cases e
    |succ i=>exact k0.val i d e
   ·cases i with
    |zero=>cases e1;cases e2;exact⟨a,.lst us,rfl,ha,ru,fa,rfl⟩
    |succ i=>exact(noOd i x od e1 e2).elim
   ·cases i with
    |zero=>cases j with
     |zero=>rfl
     |succ j=>exact(noOd j y od' e3 e4).elim
    |succ i=>exact(noOd i x od e1 e2).elim
  exact hj _ F H _ _ k1 ⟨λU G H' Z k ⟨ps',e,p⟩=>fin k e .non p,λv d U G H' Z k r ⟨ps',e,p⟩=>fin k e r p,λ_ _ _ _ _ z=>z.elim,λ_ _ _ _ _ z=>z.elim,λ_ _ _ _ _ _ _ _ z=>z.elim⟩
theorem Zba {f:DSp}{n:Nat}(h:∀ds Post,f ds Post->ds.length=n):∀vs H Q E,spD K f vs H Q E->vs.length=n:=λvs H Q E hq_=>by obtain⟨F,ds,Post,l,rs,hf,q⟩:=hq_;rw[rs.length];exact h ds Post hf
theorem Zim {f:NSp}{n:Nat}(h:∀ds Post,f ds Post->ds.length=n):∀vs H Q E,spN K f vs H Q E->vs.length=n:=λvs H Q E hq_=>by obtain⟨F,ds,Post,l,rs,hf,q⟩:=hq_;rw[rs.length];exact h ds Post hf
theorem Zi6 {f:BSp}{n:Nat}(h:∀ps ds Post,f ps ds Post->ds.length+1=n):∀vs H Q E,spB K f vs H Q E->vs.length=n:=λvs H Q E hq_=>by obtain⟨F,a,us,ws,ps,ds,Post,e,l,fa,ha,ru,rs,hf,q⟩:=hq_;rw[e,Waj,rs.length];exact h ps ds Post hf
end
def JGn (K:W.Frag) (n:Nat) (t:TG) (d:D) (Z:Evt) (P:Evt->Prop):Prop:=
 ∀g G H U v (R:St->Hp->Prop),Ok K g G H U Z -> Rep K G v d->(∀U' G' H' Z',Ok K g G' H' U' Z' -> Same G G' -> (∀j,n<=j -> U'[j]? = U[j]?)->P Z' -> R U' H')->t v U H R
def JGsn (K:W.Frag) (n:Nat) (t:TGs) (ds:List D) (Z:Evt) (P:Evt->Prop):Prop:=
 ∀g G H U vs (R:St->Hp->Prop),Ok K g G H U Z -> Reps K G vs ds->(∀U' G' H' Z',Ok K g G' H' U' Z' -> Same G G' -> (∀j,n<=j -> U'[j]? = U[j]?)->P Z' -> R U' H')->t vs U H R
section
variable {K:W.Frag}{Z:Evt}
theorem Ziw {n:Nat}{P:Evt->Prop}(p:P Z):JGsn K n gNil [] Z P:=λg G H U vs R k r c=>by cases r;exact⟨rfl,c U G H Z k (Same.refl _) (λ_ _=>rfl) p⟩
theorem Zc5 {n:Nat}{t:TG}{u:TGs}{d:D}{ds:List D}{P:Evt->Prop}(h:JGn K n t d Z λZ1=>JGsn K n u ds Z1 P):JGsn K n (gCons t u) (d::ds) Z P:=λg G H U vs R k r c=>by
 obtain⟨_,_,rfl,r1,rr⟩:=r.inv
 next=>exact⟨_,_,rfl,h g G H U _ _ k r1 λU1 G1 H1 Z1 k1 s1 e1 p1=>p1 g G1 H1 U1 _ R k1 (rr.mono s1) λU2 G2 H2 Z2 k2 s2 e2 p2=>c U2 G2 H2 Z2 k2 (s1.trans s2) (λj hj=>(e2 j hj).trans (e1 j hj)) p2⟩
theorem Zk1 {n m:Nat}{t:TGs}{ds:List D}{P:Evt->Prop}(hl:ds.length=m) (h:JGsn K n t ds Z P):JGn K n (gTup K m t) (.tup ds) Z P:=λg G H U v R k r c=>by
 obtain⟨_,_,rfl,ha,rs⟩:=r.inv
 next=>exact⟨_,_,rfl,SqT.of<|k.live _ _ ha,by rw[rs.length];exact hl,h g G H U _ R k rs c⟩
end
def compD (n:Nat) (sel:List Nat) (Z:Evt):Evt:=Wak n .any++sel.map λi=>(Z[i]?).getD .any
def backAt (n:Nat) (sel:List Nat) (Zi:Evt) (i:Nat) (x:Slot):Slot:=match x with
 |.val d=>.val d
 |.any=>.any
 |x=>match sel.idxOf? i with
  |none=>x
  |some j=>match Zi[n+j]? with
   |some (.own o)=>.own o
   |some (.bor o)=>.bor o
   |some (.ownA a o)=>.ownA a o
   |_=>.any
def backD (n:Nat) (sel:List Nat) (Zi:Evt):Nat->Evt->Evt
 |_,[]=>[]
 |i,x::r=>backAt n sel Zi i x::backD n sel Zi (i+1) r
theorem Zc4 (n:Nat) (sel:List Nat) (Zi:Evt):∀(Z:Evt) (k i:Nat),(backD n sel Zi k Z)[i]?=(Z[i]?).map (backAt n sel Zi<|k+i)
 |[],k,i=>by simp[backD]
 |x::r,k,0=>by simp[backD]
 |x::r,k,i+1=>by
  have:=Zc4 n sel Zi r (k+1) i;simp only[backD,Wc0];rw[this,show k+1+i=k+(i+1) by omega]
theorem Zj9 (n:Nat) (sel:List Nat) (Zi:Evt):∀(Z:Evt) (k:Nat),(backD n sel Zi k Z).length = Z.length
 |[],k=>rfl
 |x::r,k=>by simp[backD,Zj9 n sel Zi r (k+1)]
theorem Ze2 {sel:List Nat}{i j:Nat}(h:sel.idxOf? i=some j):sel[j]?=some i:=by
 have h2:=List.idxOf?_eq_some_iff.mp h;obtain⟨hj,e,_⟩:=h2;rw[Waa hj,e]
theorem Zpr {n:Nat}{sel:List Nat}{Zi:Evt}{i:Nat}{x y:Slot}{od:OD}(h:backAt n sel Zi i x=y) (ho:y.od=some od) :
  (x=y/\sel.idxOf? i=none)\/∃j,sel[j]?=some i /\ Zi[n+j]?=some y/\∃od',x.od=some od':=by
 unfold backAt at h;cases x with
 |any=>subst h;cases ho
 |val d=>subst h;cases ho
 |own o=>
  dsimp only at h;cases q:sel.idxOf? i with
  |none=>rw[q]at h;exact .inl ⟨h,rfl⟩
  |some j=>
   rw[q]at h;dsimp only at h;refine .inr ⟨j,Ze2 q,?_,o,rfl⟩;cases e:Zi[n+j]? with
   |none=>rw[e]at h;subst h;cases ho
   |some z=>rw[e]at h;cases z <;> (subst h;first|rfl|cases ho)
 |ownA a o=>
  dsimp only at h;cases q:sel.idxOf? i with
  |none=>rw[q]at h;exact .inl ⟨h,rfl⟩
  |some j=>
   rw[q]at h;dsimp only at h;refine .inr ⟨j,Ze2 q,?_,o,rfl⟩;cases e:Zi[n+j]? with
   |none=>rw[e]at h;subst h;cases ho
   |some z=>rw[e]at h;cases z <;> (subst h;first|rfl|cases ho)
 |bor o=>
  dsimp only at h;cases q:sel.idxOf? i with
  |none=>rw[q]at h;exact .inl ⟨h,rfl⟩
  |some j=>
   rw[q]at h;dsimp only at h;refine .inr ⟨j,Ze2 q,?_,o,rfl⟩;cases e:Zi[n+j]? with
   |none=>rw[e]at h;subst h;cases ho
   |some z=>rw[e]at h;cases z <;> (subst h;first|rfl|cases ho)
section
variable {K:W.Frag}{Z:Evt}
open Classical in
noncomputable def aside (g:Gm) (sel:List Nat) (U:St) (Z:Evt) (H:Hp) (acc:Addr) (ys:List V):Hp:=λb=>
 if b=acc then some (.lst ys) else if ∃(i:Nat) (x:Slot) (od:OD),Z[i]?=some x/\x.od=some od/\i ∉ sel /\ U[i]?=some (some (.ref b)) then H b else g.Xo b
theorem Zdb {n:Nat}{sel:List Nat}{U:St}{j i:Nat}(h:sel[j]?=some i):(compSt n sel U)[n+j]?=some ((U[i]?).getD none):=by
 unfold compSt;rw[Wa2 (by rw[Wax];omega),Wax,Nat.add_sub_cancel_left,Wae,h];rfl
theorem Zb5 {n:Nat}{sel:List Nat}{Z:Evt}{k:Nat}{x:Slot}(h:(compD n sel Z)[k]?=some x):x=.any\/∃j i,k=n+j/\sel[j]?=some i /\ Z[i]?=some x:=by
 unfold compD at h;by_cases hk:k<n
 ·rw[Wbd (by simpa using hk),Wb7,if_pos hk]at h
  exact .inl (Wbs.inj h).symm
 ·rw[Wa2 (by simpa using hk),Wax,Wae]at h
  cases e:sel[k-n]? with
  |none=>rw[e]at h;cases h
  |some i=>
   rw[e]at h;have h:(Z[i]?).getD .any=x:=by simpa using h
   cases q:Z[i]? with
   |none=>rw[q]at h;exact .inl h.symm
   |some y=>rw[q]at h;cases h;exact .inr ⟨k-n,i,by omega,e,q⟩
theorem Zhx {g:Gm}{G1 H1:Hp}{U:St}{Z1:Evt}{n:Nat}{sel:List Nat}{acc:Addr}{X0:Hp}(hsel:sel.Nodup) (k1:Ok K g G1 H1 U Z1) (hacc:H1 acc=none)
  (hX:∀b o,X0 b=some o->(b=acc/\o=.lst [])\/(b≠acc/\(((∃(i:Nat) (x:Slot) (od:OD),Z1[i]?=some x/\x.od=some od/\i ∉ sel /\ U[i]?=some (some (.ref b)))/\H1 b=some o)\/g.Xo b=some o))):Ok K ⟨g.B,G1,g.Hz,X0⟩ G1 (upd H1 acc (.lst [])) (compSt n sel U) (compD n sel Z1):=by
 have hsl:∀{j j' i:Nat},sel[j]?=some i->sel[j']?=some i->j=j':=λ{j j' i} a b=>by
  obtain⟨h1,e1⟩:=Waf.mp a;obtain⟨h2,e2⟩:=Waf.mp b;exact(Wdo hsel).mp (e1.trans e2.symm)
 have hGa:G1 acc=none:=by
  cases e:G1 acc with
  |none=>rfl
  |some u=>rw[k1.live _ _ e]at hacc;cases hacc
 have cs:∀{j i:Nat}{a:Addr},sel[j]?=some i->(compSt n sel U)[n+j]?=some (some (.ref a)) -> U[i]?=some (some (.ref a)):=λ{j i a} ej e3=>by
  rw[Zdb ej]at e3;cases q:U[i]? with
  |none=>rw[q]at e3;cases e3
  |some w=>rw[q]at e3;cases e3;rfl
 have oldH:∀b o,H1 b=some o->(upd H1 acc (.lst [])) b=some o:=λb o e=>by rw[Zak (Zal e hacc)];exact e
 refine⟨λb o hb e=>oldH b o<|k1.same b o hb e,λb hb z=>?_,Same.refl _,λb o e=>⟨oldH b o<|k1.live b o e,.inr e⟩,λb o e=>?_,?_,λi d e=>?_,λi x od e1 e2=>?_,λi j x y od od' a e1 e2 e3 e4 e5 e6=>?_⟩
 ·cases q:H1 b with
  |none=>exact k1.lent b hb q
  |some u=>rw[oldH b u q]at z;cases z
 ·rcases hX b o e with ⟨rfl,rfl⟩|⟨hb,⟨⟨i0,x0,od0,f1,f2,f3,f4⟩,e⟩|e⟩
  ·refine⟨Zao,hGa,λi x od e1 e2 e3=>?_⟩
   rcases Zb5 e1 with z|⟨j,i',ei,ej,z⟩
   ·subst z;cases e2
   ·subst ei
    obtain⟨a,o,w1,w2,_⟩:=k1.own i' x od z e2;rw[cs ej e3]at w1;cases w1;rw[hacc]at w2;cases w2
  ·obtain⟨a,oo,w1,w2,w3,w4,w5⟩:=k1.own i0 x0 od0 f1 f2
   rw[f4]at w1;cases w1;refine⟨oldH b o e,w4,λi x od e1 e2 e3=>?_⟩;rcases Zb5 e1 with z|⟨j,i',ei,ej,z⟩
   ·subst z;cases e2
   ·subst ei
    have:=k1.dis i0 i' x0 x od0 od b f1 f2 z e2 f4<|cs ej e3;subst this;exact f3<|Wau ej
  ·obtain⟨w1,w2,w3⟩:=k1.ext b o e
   refine⟨oldH b o w1,w2,λi x od e1 e2 e3=>?_⟩;rcases Zb5 e1 with z|⟨j,i',ei,ej,z⟩
   ·subst z;cases e2
   ·subst ei;exact w3 i' x od z e2<|cs ej e3
 ·unfold compD compSt
  simp
 ·rcases Zb5 e with z|⟨j,i',ei,ej,z⟩
  ·cases z
  ·subst ei
   obtain⟨v,w1,w2⟩:=k1.val i' d z;exact⟨v,by rw[Zdb ej,w1];rfl,w2⟩
 ·rcases Zb5 e1 with z|⟨j,i',ei,ej,z⟩
  ·subst z;cases e2
  ·subst ei
   obtain⟨a,o,w1,w2,w3,w4,w5⟩:=k1.own i' x od z e2;exact⟨a,o,by rw[Zdb ej,w1];rfl,oldH a o w2,w3,w4,w5⟩
 ·rcases Zb5 e1 with z|⟨j1,i1,ei,ej,z⟩
  ·subst z;cases e2
  ·rcases Zb5 e3 with z'|⟨j2,i2,ei',ej',z'⟩
   ·subst z';cases e4
   ·subst ei;subst ei'
    have:=k1.dis i1 i2 x y od od' a z e2 z' e4 (cs ej e5)<|cs ej' e6;subst this;rw[hsl ej ej']
theorem Zii {U U2:St}{Z1 Z2:Evt}{n:Nat}{sel:List Nat}(hU:∀j,n<=j -> U2[j]?=(compSt n sel U)[j]?) (i:Nat) (y:Slot) (od:OD) (e1:(backD n sel Z2 0 Z1)[i]?=some y) (e2:y.od=some od) :
  ∃x od',Z1[i]?=some x/\x.od=some od' /\ ((x=y/\i ∉ sel)\/∃j,sel[j]?=some i /\ Z2[n+j]?=some y /\ U2[n+j]?=some ((U[i]?).getD none)):=by
 rw[Zc4]at e1;cases q:Z1[i]? with
 |none=>rw[q]at e1;cases e1
 |some x=>
  rw[q]at e1;have e1:backAt n sel Z2 i x=y:=by simpa using e1
  rcases Zpr e1 e2 with ⟨z1,z2⟩|⟨j,z1,z2,od',z3⟩
  ·refine⟨x,od,rfl,by rw[z1];exact e2,.inl ⟨z1,λhm=>?_⟩⟩
   rw[List.idxOf?_eq_none_iff]at z2;exact z2 hm
  ·exact⟨x,od',rfl,z3,.inr ⟨j,z1,z2,by rw[hU (n+j) (by omega)];exact Zdb z1⟩⟩
theorem Zgk {g:Gm}{G1 H1 G2 H2 Xv:Hp}{U U2:St}{Z1 Z2:Evt}{n:Nat}{sel:List Nat}{acc:Addr}(k1:Ok K g G1 H1 U Z1) (hacc:H1 acc=none) (k2:Ok K ⟨g.B,G1,g.Hz,Xv⟩ G2 H2 U2 Z2) (hU:∀j,n<=j -> U2[j]?=(compSt n sel U)[j]?)
  (hX:∀b o,b≠acc->(∃(i:Nat) (x:Slot) (od:OD),Z1[i]?=some x/\x.od=some od/\i ∉ sel /\ U[i]?=some (some (.ref b)))->H1 b=some o->Xv b=some o) (hY:∀b o,b≠acc->¬ (∃(i:Nat) (x:Slot) (od:OD),Z1[i]?=some x/\x.od=some od/\i ∉ sel /\ U[i]?=some (some (.ref b)))->g.Xo b=some o->Xv b=some o):Ok K g G2 H2 U (backD n sel Z2 0 Z1):=by
 have s2:Same G1 G2:=k2.sub;have src:=Zii (Z1:=Z1) (Z2:=Z2) hU;refine⟨k2.same,k2.lent,k1.sub.trans s2,λb o e=>?_,λb o e=>?_,by rw[Zj9,k1.len],λi d e=>?_,λi y od e1 e2=>?_,λi j x y od od' a e1 e2 e3 e4 e5 e6=>?_⟩
 ·obtain⟨q1,q2⟩:=k2.frz b o e
  refine⟨q1,?_⟩;rcases q2 with z|z
  ·exact .inl z
  ·exact(k1.frz b o z).2
 ·obtain⟨w1,w2,w3⟩:=k1.ext b o e
  have hne:b≠acc:=by intro z;subst z;rw[hacc]at w1;cases w1
  obtain⟨u1,u2,u3⟩:=k2.ext b o<|hY b o hne (λ⟨i,x,od,f1,f2,f3,f4⟩=>w3 i x od f1 f2 f4) e;refine⟨u1,u2,λi y od e1 e2 e3=>?_⟩;obtain⟨x,od',f1,f2,_⟩:=src i y od e1 e2;exact w3 i x od' f1 f2 e3
 ·rw[Zc4]at e
  cases q:Z1[i]? with
  |none=>rw[q]at e;cases e
  |some x=>
   rw[q]at e;have e:backAt n sel Z2 (0+i) x=.val d:=by simpa using e
   have ex:x=.val d:=by
    unfold backAt at e;cases x with
    |any=>cases e
    |val d'=>exact e
    |own o=>dsimp only at e;split at e <;> first|cases e|(split at e <;> cases e)
    |bor o=>dsimp only at e;split at e <;> first|cases e|(split at e <;> cases e)
    |ownA a o=>dsimp only at e;split at e <;> first|cases e|(split at e <;> cases e)
   subst ex;obtain⟨v,w1,w2⟩:=k1.val i d q;exact⟨v,w1,w2.mono s2⟩
 ·obtain⟨x,od',f1,f2,f3⟩:=src i y od e1 e2
  rcases f3 with ⟨f3,f4⟩|⟨j,f3,f4,f5⟩
  ·subst f3
   obtain⟨a,o,w1,w2,w3,w4,w5⟩:=k1.own i x od f1 e2;have hne:a≠acc:=by intro z;subst z;rw[hacc]at w2;cases w2
   obtain⟨u1,u2,u3⟩:=k2.ext a o<|hX a o hne ⟨i,x,od,f1,e2,f4,w1⟩ w2;exact⟨a,o,w1,u1,w3.mono s2,u2,w5⟩
  ·obtain⟨a,o,w1,w2,w3,w4,w5⟩:=k2.own (n+j) y od f4 e2
   obtain⟨a0,o0,v1,_⟩:=k1.own i x od' f1 f2;rw[f5,v1]at w1;have ea:a0=a:=by cases w1;rfl
   subst ea;exact⟨a0,o,v1,w2,w3,w4,w5⟩
 ·obtain⟨x',od1,f1,f2,_⟩:=src i x od e1 e2
  obtain⟨y',od2,f3,f4,_⟩:=src j y od' e3 e4;exact k1.dis i j x' y' od1 od2 a f1 f2 f3 f4 e5 e6
theorem Ok.base {g:Gm}{G1 F X G5 H5:Hp}{U5:St}{Z5:Evt}(sF:Same G1 F) (hF:∀b o,F b=some o->(g.Hz b=none\/G1 b=some o)) (k5:Ok K ⟨g.B,F,g.Hz,X⟩ G5 H5 U5 Z5):Ok K ⟨g.B,G1,g.Hz,X⟩ G5 H5 U5 Z5:=
 ⟨k5.same,k5.lent,sF.trans k5.sub,λb o q=>by
  obtain⟨q1,q2⟩:=k5.frz b o q;refine⟨q1,?_⟩;rcases q2 with z|z
  ·exact .inl z
  ·exact hF b o z,k5.ext,k5.len,k5.val,k5.own,k5.dis⟩
theorem Zqm {n:Nat}{sel:List Nat}{wi:TI}{t:TG}{tc:TT}{te:TE}{P:OD->Evt->Prop}(hsel:sel.Nodup)
  (h:JI K wi Z λds Z1=>ds.length<sizeLine/\∃I:Nat->List D->Evt->Prop,I 0 [] (compD n sel Z1) /\
   (∀i d ys Z2,ds[i]?=some d->I i ys Z2->JGn K n t d Z2 λZ3=>JT K tc Z3 λb Z4=>if b=true then JE K te Z4 λe Z5=>I (i+1) (ys++[e]) Z5 else I (i+1) ys Z4) /\
   ∀ys Z2,I ds.length ys Z2->P (.lst ys) (backD n sel Z2 0 Z1)):JO K (tComp n sel wi t tc te) Z P:=λg G H U Q k c=>
 h g G H U _ k λJ ds G1 H1 Z1 k1 s1 it ⟨hz,I,h0,ht,he⟩ acc hacc=>by
  have nacc:∀(i:Nat) x od,Z1[i]?=some x->x.od=some od -> U[i]?≠some (some (.ref acc)):=λi x od e1 e2 e3=>by
   obtain⟨a,o,w1,w2,_⟩:=k1.own i x od e1 e2;rw[e3]at w1;cases w1;rw[hacc]at w2;cases w2
  -- the word at each turn
  let Wd:Nat->St->Hp->Prop:=λi U' H'=>i<=ds.length/\(∀j,n<=j -> U'[j]?=(compSt n sel U)[j]?)/\∃G ys vs Zi,ys.length<=i/\Reps K G vs ys/\Ok K ⟨g.B,G1,g.Hz,aside g sel U Z1 H1 acc vs⟩ G H' U' Zi/\I i ys Zi
  refine⟨λi m U' H'=>m=ds.length-i/\Wd i U' H',⟨ds.length,by simp,Wbn _,λ_ _=>rfl,G1,[],[],compD n sel Z1,Wag _,.nil,?_,h0⟩,?_⟩
  ·refine Zhx hsel k1 hacc λb o e=>?_
   have e:aside g sel U Z1 H1 acc [] b=some o:=e;unfold aside at e;by_cases hb:b=acc
   ·rw[if_pos hb]at e;cases e;exact .inl ⟨hb,rfl⟩
   ·rw[if_neg hb]at e
    split at e
    case isTrue hx=>exact .inr ⟨hb,.inl ⟨hx,e⟩⟩
    case isFalse hx=>exact .inr ⟨hb,.inr e⟩
  ·rintro i m U2 H2 ⟨rfl,hi,hU,G2,ys,vs,Z2,hy,ry,k2,h2⟩
   have s2:Same G1 G2:=k2.sub;obtain⟨stop,go⟩:=it G2 H2 s2 k2.live;have hacc2:∀{G' H':Hp}{U':St}{Z':Evt}{vs:List V}{F:Hp},Ok K ⟨g.B,F,g.Hz,aside g sel U Z1 H1 acc vs⟩ G' H' U' Z' -> H' acc=some (.lst vs)/\G' acc=none/\∀(i:Nat) x od,Z'[i]?=some x->x.od=some od -> U'[i]?≠some (some (.ref acc)):=λ{G' H' U' Z' vs F} kk=>
    kk.ext acc (.lst vs) (by show aside g sel U Z1 H1 acc vs acc=_;unfold aside;rw[if_pos rfl])
   by_cases hlt:i<ds.length
   ·obtain⟨g1,g2⟩:=go i _ (Waa hlt)
    refine .inr ⟨g1,λU' H'=>Wd (i+1) U' H',λU' H' p'=>⟨ds.length-(i+1),by omega,rfl,p'⟩,λx H3 y=>?_⟩;obtain⟨G3,a1,a2,a3,a4⟩:=g2 x H3 y;have k3:=k2.grow a1 a2 a3;have hG3:∀b o,G3 b=some o->(g.Hz b=none\/G1 b=some o):=λb o q=>(k3.frz b o q).2;have k3':Ok K ⟨g.B,G3,g.Hz,aside g sel U Z1 H1 acc vs⟩ G3 H3 U2 Z2:=⟨k3.same,k3.lent,Same.refl _,λb o q=>⟨(k3.frz b o q).1,.inr q⟩,k3.ext,k3.len,k3.val,k3.own,k3.dis⟩;have ry3:Reps K G3 vs ys:=ry.mono a1;have s13:Same G1 G3:=s2.trans a1;refine ht i _ ys Z2 (Waa hlt) h2 ⟨g.B,G3,g.Hz,aside g sel U Z1 H1 acc vs⟩ G3 H3 U2 x _ k3' a4 λU4 G4 H4 Z4 k4 s4 e4 p4=>?_;have hU4:∀j,n<=j -> U4[j]?=(compSt n sel U)[j]?:=λj hj=>(e4 j hj).trans (hU j hj);refine p4 _ G4 H4 U4 _ k4 λb G5 H5 Z5 k5 s5 p5=>?_;cases b with
    |false=>exact⟨hlt,hU4,G5,ys,vs,Z5,by omega,ry3.mono (s4.trans s5),k5.base s13 hG3,p5⟩
    |true=>
     refine(show JE K te Z5 _ from p5) _ G5 H5 U4 _ k5 λv d G6 H6 Z6 k6 s6 r6 p6=>?_;have ry6:Reps K G6 vs ys:=ry3.mono<|s4.trans<|s5.trans s6;obtain⟨b1,b2,b3⟩:=hacc2 k6;refine⟨vs,b1,by rw[ry6.length];omega,hlt,hU4,G6,ys++[d],vs++[v],Z6,by rw[Wai,Wbq];omega,ry6.append (.cons r6 .nil),?_,p6⟩;have k7:=k6.base s13 hG3;have oldH:∀b o,b≠acc->H6 b=some o->(upd H6 acc (.lst<|vs++[v])) b=some o:=λb o hb e=>by rw[Zak hb];exact e
     have aNe:∀b o,b≠acc->aside g sel U Z1 H1 acc (vs++[v]) b=some o->aside g sel U Z1 H1 acc vs b=some o:=λb o hb e=>by
      unfold aside at e ⊢;rw[if_neg hb]at e ⊢;exact e
     refine⟨λb o hb e=>?_,λb hb=>?_,k7.sub,λb o e=>?_,λb o e=>?_,k7.len,k7.val,λi x od e1 e2=>?_,k7.dis⟩
     ·have hne:b≠acc:=by
       intro z;subst z;have e:g.Hz b=some o:=e;rw[k1.there hacc]at e;cases e
      exact oldH b o hne<|k7.same b o hb e
     ·by_cases hne:b=acc
      ·subst hne;rw[Zao];intro z;cases z
      ·rw[Zak hne];exact k7.lent b hb
     ·have hne:b≠acc:=by intro z;subst z;rw[b2]at e;cases e
      exact⟨oldH b o hne (k7.frz b o e).1,(k7.frz b o e).2⟩
     ·by_cases hne:b=acc
      ·subst hne
       have e:aside g sel U Z1 H1 b (vs++[v]) b=some o:=e;unfold aside at e;rw[if_pos rfl]at e;cases e;exact⟨Zao,b2,b3⟩
      ·obtain⟨w1,w2,w3⟩:=k7.ext b o (aNe b o hne e)
       exact⟨oldH b o hne w1,w2,w3⟩
     ·obtain⟨a,o,w1,w2,w3,w4,w5⟩:=k7.own i x od e1 e2
      have hne:a≠acc:=by intro z;subst z;exact b3 i x od e1 e2 w1
      exact⟨a,o,w1,oldH a o hne w2,w3,w4,w5⟩
   ·have e:i=ds.length:=by omega
    subst e;refine .inl ⟨stop,?_⟩;obtain⟨b1,b2,b3⟩:=hacc2 k2;have src:=Zii (Z1:=Z1) (Z2:=Z2) hU;have k9:Ok K g G2 H2 U (backD n sel Z2 0 Z1):=Zgk k1 hacc k2 hU (λb o hb hx e=>by show aside g sel U Z1 H1 acc vs b=_;unfold aside;rw[if_neg hb,if_pos hx];exact e) (λb o hb hx e=>by show aside g sel U Z1 H1 acc vs b=_;unfold aside;rw[if_neg hb,if_neg hx];exact e);refine c acc _ G2 H2 _ k9 (s1.trans s2) ⟨.lst vs,b1,(show OwnRep K G2 (.lst vs) (.lst ys) from ry),b2,k1.there hacc,?_,λi y od e1 e2 e3=>?_⟩<|he ys Z2 h2
    ·cases q:g.Xo acc with
     |none=>rfl
     |some u=>have z:=(k1.ext acc u q).1;rw[hacc]at z;cases z
    ·obtain⟨x',od1,f1,f2,_⟩:=src i y od e1 e2
     exact nacc i x' od1 f1 f2 e3
theorem Zli {n:Nat}{sel:List Nat}{wi:TI}{t:TG}{tc:TT}{te:TE}{P:D->Evt->Prop}(hsel:sel.Nodup)
  (h:JI K wi Z λds Z1=>ds.length<sizeLine/\∃I:Nat->List D->Evt->Prop,I 0 [] (compD n sel Z1) /\
   (∀i d ys Z2,ds[i]?=some d->I i ys Z2->JGn K n t d Z2 λZ3=>JT K tc Z3 λb Z4=>if b=true then JE K te Z4 λe Z5=>I (i+1) (ys++[e]) Z5 else I (i+1) ys Z4) /\
   ∀ys Z2,I ds.length ys Z2->P (.lst ys) (backD n sel Z2 0 Z1)):JE K (tComp n sel wi t tc te) Z P:=
 Zdm (Zqm hsel λg G H U R k c=>h g G H U R k λJ ds G' H' Z' k' s' it ⟨z,I,h0,ht,he⟩=>c J ds G' H' Z' k' s' it ⟨z,I,h0,ht,λys Z2 q=>⟨ys,rfl,he ys Z2 q⟩⟩)
theorem Zix {n:Nat}{sel:List Nat}{wi:TI}{t:TG}{tc:TT}{te:TE}{P:D->Evt->Prop}(hsel:sel.Nodup)
  (h:JI K wi Z λds Z1=>ds.length<sizeLine/\∃(fix:Evt) (p:D->Bool) (f:D->D),compD n sel Z1=Wak n .any++fix /\
   (∀(i:Nat) d (ts:Evt),ds[i]?=some d->ts.length=n->JGn K n t d (ts++fix) λZ3=>JT K tc Z3 λb Z4=>b=p d/\if b=true then JE K te Z4 λe Z5=>e=f d/\∃ts',ts'.length=n /\ Z5=ts'++fix else ∃ts',ts'.length=n /\ Z4=ts'++fix) /\
   P (.lst ((ds.filter p).map f)) (backD n sel (Wak n .any++fix) 0 Z1)):JE K (tComp n sel wi t tc te) Z P:=by
 refine Zli hsel λg G H U R k c=>h g G H U R k λJ ds G' H' Z' k' s' it ⟨z,fix,p,f,e0,ht,he⟩=>c J ds G' H' Z' k' s' it ⟨z,λi ys Z=>ys=((ds.take i).filter p).map f/\∃ts:Evt,ts.length=n /\ Z = ts++fix,?_,?_,?_⟩
 ·exact⟨by simp,_,by simp,e0⟩
 ·rintro i d ys Z2 hd ⟨rfl,ts,hts,rfl⟩
  have tk:ds.take (i+1)=ds.take i++[d]:=by
   rw[Wb5,hd];rfl
  intro g G H U v R k r c;refine ht i d ts hd hts g G H U v R k r λU' G' H' Z' k' s' e' q=>c U' G' H' Z' k' s' e' λg G H U Q k c=>q g G H U Q k λb G' H' Z' k' s' ⟨eb,q⟩=>c b G' H' Z' k' s' ?_;cases b with
  |true=>
   rw[if_pos rfl]at q ⊢;refine q.mono λe Z5 ⟨e1,ts',h1,h2⟩=>⟨?_,ts',h1,h2⟩;rw[tk,Wbg,Was,Wa9,<- eb,e1];rfl
  |false=>
   rw[if_neg Wal]at q ⊢;obtain⟨ts',h1,h2⟩:=q;refine⟨?_,ts',h1,h2⟩;rw[tk,Wbg,Was,Wa9,<- eb];simp
 ·rintro ys Z2 ⟨rfl,ts,hts,rfl⟩
  rw[Wba];have e:backD n sel (ts++fix) 0 Z'=backD n sel (Wak n .any++fix) 0 Z':=by
   apply Wca;intro i;rw[Zc4,Zc4];congr 1
   funext x
   unfold backAt;have e2:∀j,(ts++fix)[n+j]?=(Wak n Slot.any++fix)[n+j]?:=λj=>by
    rw[Wa2 (by omega),Wa2 (by simp),hts,Wax]
   simp only[e2]
  rw[e];exact he
end
end L2
set_option Elab.async false
set_option linter.all false
set_option maxRecDepth 100000
namespace HT
open PySem PyProof.Rows
section
variable {prog:Program}{w:World}{A:Around}{E:Value->Shared->Prop}{s:Shared}
theorem getItem_tuple_whole {t sl:Addr}{items:Array Value}{vl vu:Value}{lo hi:Option Int}{Q:Value->Shared->Prop}(ht:IsTup s.heap t items) (hs:s.heap.IsSliceOf sl vl vu .none) (pl:IsPart vl lo) (pu:IsPart vu hi)
  (hw:sIx items.size 0 lo=0/\sIx items.size items.size hi=items.size) (h:Q (.ref t) s):wpAny (model prog w) A (getItem (.ref t) (.ref sl)) Q E s:=by
 obtain⟨os,hos,hcs,hds⟩:=id hs;have hTs:s.TypeIs (.ref sl) "slice":=⟨os,hos,hcs⟩;unfold getItem
 try with_reducible refine wpAny_holding ?_
 first|refine wpAny_bind (wpAny_pure ?_)|skip
 refine wpAny_bind (wpAny_sequenceKey ht.typeIs (by decide) ?_);refine wpAny_bind (wpAny_callSpecial?_slot (name:=Str.ofString "__getitem__") ht.typeIs PyProof.Rows.slot_tuple_getitem
  (wpAny_call_entry PyProof.Rows.slot_tuple_getitem ht.typeIs entry_tuple_getitem ?_ (args_tuple_getitem _ _)))
 show wpAny _ _ (Builtin.Tuple.tupleItemsOf (.ref t) >>= _) _ _ s;refine wpAny_bind<|tupleItemsOf_ ht ?_;refine wpAny_bind<|wpAny_typeOf hTs ?_;rw[if_pos (by decide)];refine wpAny_bind<|Zds hs pl pu ?_;have hyes:(((sIx items.size 0 lo:Nat):Int) == 0 && (1:Int) == 1 && (sIx items.size items.size hi-sIx items.size 0 lo) == items.size)=true:=by
  rw[hw.1,hw.2];simp
 show wpAny _ _ (if (((sIx items.size 0 lo:Nat):Int) == 0 && (1:Int) == 1 && (sIx items.size items.size hi-sIx items.size 0 lo) == items.size)=true then _ else _) _ _ s;rw[if_pos hyes]
 first
  |exact wpAny_pure ⟨_,rfl,wpAny_pure h⟩
  |exact wpAny_pure ⟨_,rfl,h⟩
  |exact wpAny_bind (wpAny_pure (wpAny_pure ⟨_,rfl,wpAny_pure h⟩))
  | (refine wpAny_bind (wpAny_bind (wpAny_typeOf ht.typeIs (wpAny_pure ?_)))
     rw[if_pos (by decide)];exact wpAny_bind (wpAny_rule (wpAny_pure ⟨_,rfl,wpAny_pure h⟩)))
theorem Zfx {sl:Addr}{t:Tok}{n:Nat}{Q:Int × Int × Nat->Shared->Prop}(hs:s.heap.IsSliceOf sl .none .none (.int (-1) t))
  (h:Q (((n:Int)-1),-1,n) s):wpAny (model prog w) A (Builtin.Slice.sliceApplied (.ref sl)<|pure (n:Int)) Q E s:=by
 obtain⟨os,hos,hcs,hds⟩:=id hs;unfold Builtin.Slice.sliceApplied Builtin.Slice.sliceFields;refine wpAny_bind<|wpAny_bind<|wpAny_field hos hds (x:=.none) rfl<|wpAny_bind<|wpAny_field hos hds (x:=.none) rfl<|wpAny_bind<|wpAny_field hos hds (x:=.int (-1) t) rfl<|wpAny_pure ?_;refine wpAny_bind<|Zfp (.int (-1) t) ?_;show wpAny _ _ (if ((-1:Int) == 0)=true then _ else _) _ _ s;rw[if_neg (by decide)];refine wpAny_bind<|slicePart_none<|wpAny_bind<|slicePart_none<|wpAny_bind<|wpAny_pure ?_;have e:Builtin.Slice.sliceAdjust none none (-1) (n:Int)=((n:Int)-1,-1):=by
  simp[Builtin.Slice.sliceAdjust]
 show wpAny _ _ (match Builtin.Slice.sliceAdjust none none (-1) (n:Int) with|(lo,hi)=>pure (lo,(-1:Int),Builtin.Slice.slicePlaces lo hi (-1))) _ _ s;rw[e];have e2:Builtin.Slice.slicePlaces ((n:Int)-1) (-1) (-1)=n:=by
  unfold Builtin.Slice.slicePlaces;rw[if_neg (by decide)];by_cases hn:n=0
  ·subst hn;rfl
  ·rw[if_pos (by omega),show (n:Int)-1 - -1-1=(n:Int)-1 by omega,show -(-1:Int)=1 by rfl,Int.ediv_one]
   omega
 show wpAny _ _ (pure ((n:Int)-1,(-1:Int),Builtin.Slice.slicePlaces ((n:Int)-1) (-1) (-1))) _ _ s;rw[e2];exact wpAny_pure h
theorem Ztt (xs:Array Value):((Wah xs.size).filterMap λ(m:Nat)=>xs[(((xs.size:Int)-1)+(m:Int) * -1).toNat]?).toArray=xs.toList.reverse.toArray:=by
 congr 1;apply Wca;intro i;have key:∀(l:List Nat),(∀m∈l,m<xs.size)->(l.filterMap λ(m:Nat)=>xs[(((xs.size:Int)-1)+(m:Int) * -1).toNat]?)=l.map λm=>xs.toList.reverse.getD m .none:=by
  intro l
  induction l with
  |nil=>intro _;rfl
  |cons a r ih=>
   intro h;have ha:=h a Wa7;have e:(((xs.size:Int)-1)+(a:Int) * -1).toNat=xs.size-1-a:=by omega
   have e2:xs[(((xs.size:Int)-1)+(a:Int) * -1).toNat]?=some (xs.toList.reverse.getD a .none):=by
    rw[e,Wac,List.getElem?_reverse (by simpa using ha)];simp only[Array.length_toList,Array.getElem?_toList];rw[Array.getElem?_eq_getElem (by omega)];rfl
   rw[Wdw,e2,Wbe,ih λm hm=>h m (Waw _ hm)]
 rw[key _ (λm hm=>Waq.mp hm),Wae];by_cases hi:i<xs.size
 ·rw[Wb4 hi,Waa (by simpa using hi)]
  simp[Wac,hi]
 ·rw[Wbt (by simpa using hi),Wbt (by simpa using hi)]
  rfl
theorem getItem_tuple_rev {t sl:Addr}{items:Array Value}{tk:Tok}{Q:Value->Shared->Prop}(ht:IsTup s.heap t items) (hs:s.heap.IsSliceOf sl .none .none (.int (-1) tk))
  (h:Q (.ref s.heap.objs.size) { s with heap:=s.heap.push { cls:=.type "tuple",data:=.seq items.toList.reverse.toArray } })
  (hsz:items.size<=sizeLine):wpAny (model prog w) A (getItem (.ref t) (.ref sl)) Q E s:=by
 have htake:sizeOk (.seq items.toList.reverse.toArray):=by
  show items.toList.reverse.toArray.size<=sizeLine;simpa using hsz
 obtain⟨os,hos,hcs,hds⟩:=id hs;have hTs:s.TypeIs (.ref sl) "slice":=⟨os,hos,hcs⟩;unfold getItem
 try with_reducible refine wpAny_holding ?_
 first|refine wpAny_bind (wpAny_pure ?_)|skip
 refine wpAny_bind (wpAny_sequenceKey ht.typeIs (by decide) ?_);refine wpAny_bind (wpAny_callSpecial?_slot (name:=Str.ofString "__getitem__") ht.typeIs PyProof.Rows.slot_tuple_getitem
  (wpAny_call_entry PyProof.Rows.slot_tuple_getitem ht.typeIs entry_tuple_getitem ?_ (args_tuple_getitem _ _)))
 show wpAny _ _ (Builtin.Tuple.tupleItemsOf (.ref t) >>= _) _ _ s;refine wpAny_bind<|tupleItemsOf_ ht ?_;refine wpAny_bind<|wpAny_typeOf hTs ?_;rw[if_pos (by decide)];refine wpAny_bind<|Zfx (n:=items.size) hs ?_;have hno:¬ ((((items.size:Int)-1) == 0 && (-1:Int) == 1 && items.size == items.size)=true):=by simp
 show wpAny _ _ (if ((((items.size:Int)-1) == 0 && (-1:Int) == 1 && items.size == items.size))=true then _ else _) _ _ s;rw[if_neg hno,Ztt]
 first
  |exact wpAny_bind (m:=Builtin.Tuple.tupleExact _) (wpAny_newObj_type (wpAny_pure ⟨_,rfl,wpAny_pure h⟩) htake)
  |exact wpAny_bind (m:=Builtin.Tuple.tupleExact _) (wpAny_newObj_type (wpAny_bind (wpAny_pure (wpAny_pure ⟨_,rfl,wpAny_pure h⟩))) htake)
  |exact wpAny_bind (wpAny_bind (m:=Builtin.Tuple.tupleExact _) (wpAny_newObj_type (wpAny_pure (wpAny_pure ⟨_,rfl,wpAny_pure h⟩)) htake))
  |exact wpAny_bind (wpAny_bind (m:=Builtin.Tuple.tupleExact _) (wpAny_newObj_type (wpAny_pure ⟨_,rfl,wpAny_pure h⟩) htake))
theorem tuple_index {t:Addr}{items:Array Value}{x:Value}{e:Value->Bool}{j:Nat}{Q:Value->Shared->Prop}(ht:IsTup s.heap t items) (he:∀y∈items,PySem.SeqAt.EqAt A.in1 s y x (e y)) (hj:j<items.size)
  (hit:e items[j]=true) (hno:∀m (hm:m<items.size),m<j->e items[m]=false) (h:Q (.int j s.toks) { s with toks:=s.toks+1 }) :
  wpAny (model prog w) A (call (.builtin "tuple.index") [.ref t,x]) Q E s:=by
 refine wpAny_call_entry PySem.F.slot_tuple_index ht.typeIs PySem.F.entry_tuple_index ?_<|PySem.F.args_tuple_index_2 _ _;show wpAny _ _ (Builtin.Tuple.tupleItemsOf (.ref t) >>= _) _ _ s;refine wpAny_bind<|tupleItemsOf_ ht ?_;refine wpAny_bind<|wpAny_pure<|wpAny_bind<|wpAny_pure<|wpAny_bind ?_;rw[Nat.min_self];simp only[Std.Legacy.Range.forIn_eq_forIn_range',Std.Legacy.Range.size,Wep,Nat.add_sub_cancel,Nat.div_one];refine wpAny_mono (Q:=λb s'=>s' = { s with toks:=s.toks+1 } /\ b.1=some (Fin.done (.ret (.int j s.toks)))) ?_ (λb s' hb=>?_) λ_ _ z=>z;refine wpAny_forIn_list _ (λl b s'=>s'=s/\∃i,l=List.range' i (items.size-i)/\i<=j) _ ?_ ?_ _ _ ⟨rfl,0,rfl,Wbn _⟩
 ·rintro i rest b s' ⟨rfl,k,hl,hk⟩
  have hk2:items.size-k=(items.size-k-1)+1:=by omega
  rw[hk2,List.range'_succ]at hl;injection hl with hl1 hl2
  subst hl1;have hi:i<items.size:=by omega
  rw[Array.getElem?_eq_getElem hi];refine wpAny_bind<|he _ (Array.getElem_mem hi) prog w _ _ ?_;by_cases hij:i=j
  ·subst hij
   rw[hit,if_pos rfl];exact wpAny_bind<|wpAny_bind<|wpAny_mkInt<|wpAny_pure<|wpAny_pure ⟨rfl,rfl⟩
  ·rw[hno i hi (by omega),if_neg Wal]
   exact wpAny_pure ⟨rfl,i+1,by rw[hl2,show items.size-i-1=items.size-(i+1) by omega],by omega⟩
 ·rintro b s' ⟨rfl,k,hl,hk⟩
  have:=congrArg Wbb hl;simp at this;omega
 ·obtain⟨rfl,e1⟩:=hb
  obtain⟨b1,b2⟩:=b;dsimp only at e1;subst e1;exact wpAny_pure ⟨_,rfl,h⟩
end
end HT
namespace L2
open PySem PySem.Spec PyProof.Rows
section
variable {X:Cx}
def rSlT' (K:W.Frag):V->Option Int->Option Int->Hp->VK->Prop:=λx lo hi H Q=>∃a xs,x=.ref a/\SqT K H a xs /\
 ((HT.sIx xs.length 0 lo=0/\HT.sIx xs.length xs.length hi=xs.length)->Q (.ref a) H) /\
 (¬ (HT.sIx xs.length 0 lo=0/\HT.sIx xs.length xs.length hi=xs.length)->∀p,H p=none->Q (.ref p) (upd H p (.tup<|cutV xs lo hi)))
theorem Zv6:SlR X (rSlT' X.K):=by
 intro pins s U H x v vl vu lo hi sl Q I rx hs pl pu h;obtain⟨a,xs,rfl,hx,q1,q2⟩:=h;by_cases hw:HT.sIx xs.length 0 lo=0/\HT.sIx xs.length xs.length hi=xs.length
 ·cases rx
  obtain⟨its,r,ht,hz⟩:=I.tuple hx;have hlen:its.toArray.size=xs.length:=by rw[War];exact r.length.symm
  exact⟨"tuple",_,PyProof.Rows.slot_tuple_getitem.lookup,ht.typeIs,HT.getItem_tuple_whole ht hs pl pu (by rw[hlen];exact hw) ⟨.ref a,H,I,rfl,q1 hw⟩⟩
 ·exact Zyx pins s U H (.ref a) v vl vu lo hi sl Q I rx hs pl pu ⟨a,xs,rfl,hx,hw,q2 hw⟩
def rSlU (K:W.Frag):V->Option Int->Option Int->Hp->VK->Prop:=λx lo hi H Q=>rSlL K x lo hi H Q\/rSlT' K x lo hi H Q
theorem slU:SlR X (rSlU X.K):=Zxd.or Zv6
def tSlR (K:W.Frag) (te:TE):TE:=λU H Q=>te U H λx H1=>∃a xs,x=.ref a/\SqT K H1 a xs/\∀p,H1 p=none->Q (.ref p) (upd H1 p (.tup xs.reverse))
theorem Zqz {e:Expr}{te:TE}{pos p2 p3 p4:Pos}{k:Nat}(he:PE X e te):PE X (.Subscript e (.Slice none none (some (.UnaryOp .USub (.Constant (.int 1) k p4) p3)) p2) pos) (tSlR X.K te):=by
 intro pins s U H Q I h;refine Subscript_ (thn (he pins s U H _ I h) λv s1 ⟨x,H1,I1,r1,q1⟩=>?_);obtain⟨a,xs,rfl,hx,q⟩:=q1;cases r1;refine wpAny_Slice ?_;rw[evalPart_none];refine wpAny_pure<|wpAny_pure ?_;have st:=Zd9 (X:=X) (Zzy Zzq<|Zag (X:=X) (i:=1) (j:=k) (pos:=p4)) (e:=.UnaryOp .USub (.Constant (.int 1) k p4) p3) pins s1 U H1 (λo H2=>o=some (-1)/\H2=H1) I1 ⟨1,rfl,-1,rfl,rfl,rfl⟩;refine thn st λu s2 ⟨o,H2,I2,pu,e1,e2⟩=>?_;subst e1;subst e2;cases pu with
 |int i t=>
  have I3:Inv X pins U H2 { s2 with heap:=s2.heap.push { cls:=.type "slice",data:=.fields #[.none,.none,.int (-1) t] } }:=I2.kept (t':=s2.toks) λb ob q=>Wad _ q;obtain⟨its,r,ht,hz⟩:=I3.tuple hx;show wpAny (model X.prog X.w) X.A (subscriptTail e (.Slice none none (some (.UnaryOp .USub (.Constant (.int 1) k p4) p3)) p2) (.ref a) (.ref s2.heap.objs.size)) (EP X pins U Q) X.xe { s2 with heap:=s2.heap.push { cls:=.type "slice",data:=.fields #[.none,.none,.int (-1) t] } };refine tail_any (ops:=[.ref a,.ref s2.heap.objs.size]) ht.typeIs PyProof.Rows.slot_tuple_getitem.lookup (HT.getItem_tuple_rev ht (tk:=t) (Heap.IsSliceOf.new ..) ?_ (by rw[War,<- r.length];exact hz)) (by with_unfolding_all rfl);refine⟨.ref _,_,I3.laid (t':=s2.toks) (o:=.tup xs.reverse) (λb ob q=>Wad _ q) (Wag _) ?_,rfl,q _<|I3.hok.fresh<|Wag _⟩;exact⟨by rw[Wb3];exact hz,_,r.reverse,IsTupN.new _ _⟩
def rCatT' (K:W.Frag):R2:=λx y H Q=>∃a b xs ys,x=.ref a/\y=.ref b/\SqT K H a xs/\SqT K H b ys/\xs.length+ys.length<=sizeLine /\
 (xs=[]->Q (.ref b) H)/\(xs≠[]->ys=[]->Q (.ref a) H)/\(xs≠[]->ys≠[]->∀p,H p=none->Q (.ref p) (upd H p (.tup<|xs++ys)))
theorem Zty:OpR X (binaryOp .Add) (rCatT' X.K):=by
 intro pins s U H x y v u Q I rx ry h;obtain⟨a,b,xs,ys,rfl,rfl,ha,hb,hz,q0,q1,q2⟩:=h;by_cases hx:xs=[]
 ·cases rx
  cases ry;obtain⟨its,r1,p1,_⟩:=I.tuple ha;obtain⟨its2,r2,p2,_⟩:=I.tuple hb;obtain⟨⟨cls,dd,data,sl⟩,ho,hc,n,hd⟩:=id p1;obtain⟨⟨cls2,dd2,data2,sl2⟩,ho2,hc2,n2,hd2⟩:=id p2;simp only at hc hd hc2 hd2;subst hc hd hc2 hd2;exact concat_meets ⟨_,ho,rfl⟩ ⟨_,ho2,rfl⟩ noFill_tuple_add seq_tuple_add PySem.F.slot_tuple_add PySem.F.entry_tuple_add (PySem.F.args_tuple_add_2 _ _)
   (tuple_addW0 a b its.toArray its2.toArray n n2 dd dd2 sl sl2 (by simp[r1.nil_iff.mpr hx])) ⟨ho,ho2,⟨.ref b,H,I,rfl,q0 hx⟩⟩
 ·exact Zwf pins s U H (.ref a) (.ref b) v u Q I rx ry ⟨a,b,xs,ys,rfl,rfl,ha,hb,hx,hz,q1 hx,q2 hx⟩
def rAddU (K:W.Frag):R2:=λx y H Q=>rI0 (λi j=>.int<|i+j) x y H Q\/(rCatT' K x y H Q\/rCat x y H Q)
theorem Zwh:OpR X (binaryOp .Add) (rAddU X.K):=Zxl.or<|Zty.or Zxx
theorem Zbt:OpR X (compareOp .Eq) rEq:=Zz4
theorem Zhh:OpR X (compareOp .NotEq) rNe:=Z0b
def rIxD:R2:=λx y H Q=>∃a v,x=.ref a/\DGet H a y (some v)/\Q v H
theorem Zve (hu:X.A.units+1<cLine):IxR X rIxD:=by
 intro value slice pins s U H x y v u Q I rx ry h hs;obtain⟨a,w',rfl,g,q⟩:=h;cases rx;exact tail_any (Zku I g) PySem.F.slot_dict_getitem.lookup (Zrq hu I g ry λw2 s3 I3 rw'=>⟨w',H,I3,rw',q⟩) hs
def rIxU (K:W.Frag):R2:=λx y H Q=>rIx K x y H Q\/rIxD x y H Q
theorem ixU (hu:X.A.units+1<cLine):IxR X (rIxU X.K):=Zzh.or<|Zve hu
def rSetD:V->V->V->Hp->(Hp->Prop)->Prop:=λo i v H Q=>∃a H',o=.ref a/\DPut H a i v H' /\ Q H'
theorem Zt4 (hu:X.A.units+1<cLine):PSet X rSetD:=by
 intro pins s U H o i v ov iv u Q I ro ri rv h;obtain⟨a,H',rfl,g,q⟩:=h;cases ro;exact Zof hu I g ri rv λs' I'=>⟨H',I',q⟩
theorem PSet.or {t t':TSet}(h:PSet X t) (h':PSet X t'):PSet X (λo i v H Q=>t o i v H Q\/t' o i v H Q):=by
 intro pins s U H o i v ov iv u Q I ro ri rv q;rcases q with q|q
 ·exact h pins s U H o i v ov iv u Q I ro ri rv q
 ·exact h' pins s U H o i v ov iv u Q I ro ri rv q
def rSetU:V->V->V->Hp->(Hp->Prop)->Prop:=λo i v H Q=>rSetL o i v H Q\/rSetD o i v H Q
theorem setU (hu:X.A.units+1<cLine):PSet X rSetU:=Zuc.or<|Zt4 hu
def rLenU (K:W.Frag):List V->Hp->VK->Prop:=λxs H Q=>(∃p ys,xs=[.ref p]/\(SqL K H p ys\/SqT K H p ys)/\Q (.int ys.length) H)\/∃a kvs,xs=[V.ref a]/\H a=some (.dK kvs)/\Q (.int kvs.length) H
theorem Zrj:CallR X (.builtin "len") (rLenU X.K):=Zj6.or Zo4
def rIsi (K:W.Frag):List V->Hp->VK->Prop:=λxs H Q=>∃x n t b,xs=[x,.ty n]/\TyOf K H x t/\PySem.W.kitOne K t (.type n)=some b/\Q (.bl b) H
theorem Zlo:CallR X (.builtin "isinstance") (rIsi X.K):=by
 intro pins s U H xs us Q I r h;obtain⟨x,n,t,b,rfl,ty,e,q⟩:=h;obtain⟨u,u',rfl,rx,rn⟩:=vals2 r;cases (show u'=Value.type n from rn);exact Zqf I rx ty e λtk=>⟨.bl b,H,I.tok _,rfl,q⟩
def insI (n:Nat) (i:Int):Nat:=if i<0 then (i+(n:Int)).toNat else min i.toNat n
def rInsert:V->List V->Hp->VK->Prop:=λx vs H Q=>∃l xs i y,x=.ref l/\vs=[.int i,y]/\H l=some (.lst xs)/\xs.length<sizeLine /\ -(2 ^ 62)<=i/\i<2 ^ 62/\Q .non (upd H l (.lst (xs.take (insI xs.length i)++y::xs.drop (insI xs.length i))))
theorem Zri:MtM X "list.insert" rInsert:=by
 intro pins s U H x vs v us Q I rx rv h;obtain⟨l,xs,i,y,rfl,rfl,hH,hz,h1,h2,q⟩:=h;cases rx;obtain⟨ui,uy,rfl,⟨t,rfl⟩,ry⟩:=rv.two;obtain⟨z,its,n,r,hl,e⟩:=I.lstM hH;refine call_meets F.slot_list_insert ⟨_,e,rfl⟩ F.entry_list_insert (F.args_list_insert_3 _ _ _) (PySem.AutoSeq1.list_insert_list_int_val_1 l its.toArray n i t uy (by
  have hf:Builtin.List.listFitsIndex i=true:=by
   unfold Builtin.List.listFitsIndex;rw[decide_eq_true (by omega),decide_eq_true (by omega)];rfl
  rw[hf];decide) (by rw[War];omega)) ⟨e,?_⟩
 refine⟨.non,_,I.lset (its':=its.take (insI xs.length i)++uy::its.drop (insI xs.length i)) hH e ?_ ((r.take _).append (.cons ry<|r.drop _)) ?_,rfl,q⟩
 ·have e1:(if i<0 then (i+(its.toArray.size:Int)).toNat else min i.toNat its.toArray.size)=insI xs.length i:=by
   unfold insI;rw[War,hl]
  dsimp only;rw[e1];apply Array.ext';simp;rw[Wdi (by rw[Wby];exact Wag _)]
 ·rw[Wai,Waj,Wbm,Wby]
  omega
def rIndexT (K:W.Frag):V->List V->Hp->VK->Prop:=λx vs H Q=>∃a xs y j,x=.ref a/\vs=[y]/\SqT K H a xs/\flatV y=true/\xs.all flatV=true/\j<xs.length /\
 (∃z,xs[j]?=some z/\eqV z y=true)/\(∀m z,m<j->xs[m]?=some z->eqV z y=false)/\Q (.int j) H
theorem Zhc:MtM X "tuple.index" (rIndexT X.K):=by
 intro pins s U H x vs v us Q I rx rv h;obtain⟨a,xs,y,j,rfl,rfl,hx,fy,fx,hj,⟨z,hz1,hz2⟩,hno,q⟩:=h;cases rx;obtain⟨u,rfl,ru⟩:=rv.one;obtain⟨its,r,ht,hz⟩:=I.tuple hx;have hl:its.length=xs.length:=r.length.symm;have key:∀w∈its.toArray,SeqAt.EqAt X.A.in1 s w u (eqU y w):=λw hw=>by
  have hw:w∈its:=by simpa using hw
  obtain⟨k,hk,e⟩:=List.mem_iff_getElem.mp hw;have hk':k<xs.length:=by omega
  obtain⟨w',hw',rw'⟩:=r.get<|Waa hk';have ew:w'=w:=by
   rw[Waa hk]at hw';exact(Wbs.inj hw').symm.trans e
  subst ew;have fk:flatV xs[k]=true:=Wcn.mp fx _<|Wa8 hk';rw[Zmb rw' fk];exact Zul rw' ru fk fy
 have at_:∀(k:Nat) (hk:k<its.toArray.size) (z:V),xs[k]?=some z->eqU y its.toArray[k]=eqV z y:=λk hk z e=>by
  obtain⟨w',hw',rw'⟩:=r.get e;have hk2:k<its.length:=by simpa using hk
  rw[Waa hk2]at hw';have ew:its.toArray[k]=w':=by simpa using Wbs.inj hw'
  rw[ew];exact Zmb rw'<|Wcn.mp fx _<|Wau e
 have hj':j<its.toArray.size:=by simpa [hl] using hj
 refine HT.tuple_index ht key hj' (by rw[at_ j hj' z hz1];exact hz2) (λm hm hmj=>?_) ⟨.int j,H,I.tok _,⟨_,rfl⟩,q⟩;have hm2:m<xs.length:=by simpa [hl] using hm
 rw[at_ m hm _ (Waa hm2)];exact hno m _ hmj<|Waa hm2
end
section
variable {X:Cx}
theorem PI.or {tg iter:Expr}{w w':TI}(h:PI X tg iter w) (h':PI X tg iter w'):PI X tg iter (λU H R=>w U H R\/w' U H R):=by
 intro pins s U H R I q;rcases q with q|q
 ·exact h pins s U H R I q
 ·exact h' pins s U H R I q
def iSeq (K:W.Frag) (tl:TE):TI:=λU H R=>iList K tl U H R\/iTup K tl U H R
theorem Zy4 {tg l:Expr}{tl:TE}(hl:PE X l tl):PI X tg l (iSeq X.K tl):=(Zvw hl).or (Zxk hl)
def tTru (K:W.Frag) (ta:TE):TT:=λU H Q=>ta U H λx H'=>∃k,TruV K x H' k/\Q k H'
theorem Zye {a:Expr}{ta:TE}(ha:PE X a ta) (he:∀whole,isTrue a X.env whole=(do let v <- whole;standAt a.pos;holding [v] (truthy v))):PT X a (tTru X.K ta):=Zsr ha he
end
section
variable {K:W.Frag}{Z:Evt}{P:D->Evt->Prop}
theorem Zc1 {i j:Int}(p:P (.int<|i+j) Z):JR2 K (rAddU K) (.int i) (.int j) Z P:=λg G H U Q x y k rx ry c=>by
 cases rx.inv;cases ry.inv;exact .inl ⟨i,j,rfl,rfl,c _ _ G H Z k (Same.refl _) (.int _) p⟩
theorem Zjf {ds es:List D}(hz:ds.length+es.length<=sizeLine) (p:P (.tup<|ds++es) Z):JR2 K (rAddU K) (.tup ds) (.tup es) Z P:=λg G H U Q x y k rx ry c=>by
 cases rx with
 |tup ha ra=>
  cases ry with
  |tup hb rb=>
   refine .inr (.inl ⟨_,_,_,_,rfl,rfl,SqT.of<|k.live _ _ ha,SqT.of<|k.live _ _ hb,by rw[ra.length,rb.length];exact hz,λe=>?_,λ_ e=>?_,λ_ _ q hq=>?_⟩)
   ·subst e;cases ra;exact c _ _ G H Z k (Same.refl _) (.tup hb rb) p
   ·subst e;cases rb;rw[Wbi]at p;exact c _ _ G H Z k (Same.refl _) (.tup ha ra) p
   ·obtain⟨k2,sg⟩:=k.laid hq (.tup _)
    exact c _ _ _ _ Z k2 sg (.tup Zao ((ra.append rb).mono sg)) p
theorem Zwv {ds es:List D}(hz:ds.length+es.length<=sizeLine) (p:P (.lst<|ds++es) Z):JR2 K (rAddU K) (.lst ds) (.lst es) Z P:=λg G H U Q x y k rx ry c=>by
 obtain⟨_,_,rfl,ha,ra⟩:=rx.inv
 next=>
  obtain⟨_,_,rfl,hb,rb⟩:=ry.inv
  next=>
   refine .inr (.inr ⟨_,_,_,_,rfl,rfl,k.live _ _ ha,k.live _ _ hb,by rw[ra.length,rb.length];exact hz,λq hq=>?_⟩);obtain⟨k2,sg⟩:=k.laid hq (.lst _);exact c _ _ _ _ Z k2 sg (.lst Zao ((ra.append rb).mono sg)) p
theorem Zav {ds:List D}{i:Int}{d:D}(h:atI ds i=some d) (p:P d Z):JR2 K (rIxU K) (.tup ds) (.int i) Z P:=λg G H U Q x y k rx ry c=>
 .inl (.inr (.inl<|Zzg h p g G H U Q x y k rx ry c))
theorem Zbu {ds:List D}{i:Int}{d:D}(h:atI ds i=some d) (p:P d Z):JR2 K (rIxU K) (.lst ds) (.int i) Z P:=λg G H U Q x y k rx ry c=>
 .inl (.inl<|Zy6 h p g G H U Q x y k rx ry c)
theorem Zpi {n:Nat}{tb:TE}{x:Slot}{ds:List D}(hx:Z[n]?=some x) (ho:x.od=some (.lst ds)) (h:JE K tb Z λe Z1=>∃y es i d,Z1[n]?=some y/\y.od=some (.lst es)/\e=.int i/\atI es i=some d/\P d Z1):JE K (tOp (rIxU K) (tVar n) tb) Z P:=λg G H U Q k c=>by
 obtain⟨a,o,h1,h2,h3,h4,h5⟩:=k.own n x _ hx ho;refine⟨.ref a,h1,h g G H U _ k λv e G1 H1 Z1 k1 s1 r1 ⟨y,es,i,d,q1,q2,q3,q4,p⟩=>?_⟩;subst q3;cases r1.inv;obtain⟨a',o',w1,w2,w3,w4,w5⟩:=k1.own n y _ q1 q2;rw[h1]at w1;cases w1;cases o' with
 |lst vs=>
  obtain⟨u,z1,z2⟩:=Zjg (show Reps K G1 vs es from w3) q4;exact .inl (.inl ⟨a,vs,i,u,rfl,rfl,SqL.of w2,z1,c u d G1 H1 Z1 k1 s1 z2 p⟩)
 |_=>exact absurd w3 (λz=>z)
theorem Zpz {n:Nat}{ti te:TE}{Pp:Pst}(h:JE K te Z λd Z1=>(∃x od,Z1[n]?=some x/\x.od=some od)/\JE K ti Z1 λe Z2=>∃x ds i j,Z2[n]?=some x/\x.od=some (.lst ds)/\e=.int i/\ixN ds.length i=some j/\Pp.nx (Z2.set n<|x.put (.lst<|ds.set j d))) :
  JS K (tAsg te<|gSub (tVar n) ti rSetU) Z Pp:=λg G H U E k c=>
 h g G H U _ k λv d G1 H1 Z1 k1 s1 r1 hq_=>by
  obtain⟨⟨x,od,hx,ho⟩,p1⟩:=hq_;obtain⟨a,o,h1,h2,h3,h4,h5⟩:=k1.own n x _ hx ho;refine⟨.ref a,h1,p1 g G1 H1 U _ k1 λu e G2 H2 Z2 k2 s2 r2 ⟨y,ds,i,j,q1,q2,q3,q4,p⟩=>?_⟩;subst q3;cases r2.inv;obtain⟨a',o',w1,w2,w3,w4,w5⟩:=k2.own n y _ q1 q2;rw[h1]at w1;cases w1;cases o' with
  |lst vs=>
   have w3:Reps K G2 vs ds:=w3;exact .inl ⟨a,vs,i,j,rfl,rfl,w2,by rw[w3.length];exact q4,c.nx U G2 _ _ (k2.write q1 q2 h1 (show OwnRep K G2 (.lst<|vs.set j v) (.lst<|ds.set j d) from w3.set j (r1.mono s2))) p⟩
  |_=>exact absurd w3 (λz=>z)
def valD (kvs:List (Key × D)) (k:Key):Option D:=(kvs.find? λkv=>decide (kv.1=k)).map (·.2)
def putD (kvs:List (Key × D)) (k:Key) (v:D):List (Key × D):=if (kvs.any λkv=>decide (kv.1=k))=true then kvs.map (λkv=>if kv.1=k then (kv.1,v) else kv) else kvs++[(k,v)]
theorem Zle {G:Hp}{k:Key}{d:D}:∀{kvs:List (Key × V)}{kds:List (Key × D)},Paired (λ(p:Key × V) (q:Key × D)=>p.1=q.1/\Rep K G p.2 q.2) kvs kds->valD kds k=some d->∃v,valV kvs k=some v/\Rep K G v d
 |_,_,.nil,h=>by cases h
 | (k1,v1)::kvs,(k2,d2)::kds,.cons ⟨e,r⟩ t,h=>by
  have e:k1=k2:=e;subst e;by_cases hk:k1=k
  ·subst hk
   have h:some d2=some d:=by simpa [valD,Wcd] using h
   cases h;exact⟨v1,Zf0 rfl,r⟩
  ·have h:valD kds k=some d:=by simpa [valD,Wcd,hk] using h
   obtain⟨v,h1,h2⟩:=Zle t h;exact⟨v,by rw[Zgc hk];exact h1,h2⟩
theorem Zor {G:Hp}{k:Key}:∀{kvs:List (Key × V)}{kds:List (Key × D)},Paired (λ(p:Key × V) (q:Key × D)=>p.1=q.1/\Rep K G p.2 q.2) kvs kds->(kvs.any λkv=>decide (kv.1=k))=(kds.any λkv=>decide (kv.1=k))
 |_,_,.nil=>rfl
 |_::_,_::_,.cons ⟨e,_⟩ t=>by rw[Wdg,Wdg,Zor t,e]
theorem Zo3 {G:Hp}{k:Key}{v:V}{d:D}(rv:Rep K G v d):∀{kvs:List (Key × V)}{kds:List (Key × D)},Paired (λ(p:Key × V) (q:Key × D)=>p.1=q.1/\Rep K G p.2 q.2) kvs kds ->
  Paired (λ(p:Key × V) (q:Key × D)=>p.1=q.1/\Rep K G p.2 q.2) (kvs.map λkv=>if kv.1=k then (kv.1,v) else kv) (kds.map λkv=>if kv.1=k then (kv.1,d) else kv)
 |_,_,.nil=>.nil
 | (k1,v1)::kvs,(k2,d2)::kds,.cons ⟨e,r⟩ t=>by
  have e:k1=k2:=e;subst e;rw[Wbe,Wbe];refine .cons ?_<|Zo3 rv t;by_cases hk:k1=k
  ·rw[if_pos hk,if_pos hk];exact⟨rfl,rv⟩
  ·rw[if_neg hk,if_neg hk];exact⟨rfl,r⟩
theorem Zpf {G:Hp}{k:Key}{v:V}{d:D}{kvs:List (Key × V)}{kds:List (Key × D)}(rv:Rep K G v d) (h:Paired (λ(p:Key × V) (q:Key × D)=>p.1=q.1/\Rep K G p.2 q.2) kvs kds) :
  Paired (λ(p:Key × V) (q:Key × D)=>p.1=q.1/\Rep K G p.2 q.2) (putK kvs k v) (putD kds k d):=by
 unfold putK putD;rw[Zor h];split
 ·exact Zo3 rv h
 ·exact Paired.snoc h ⟨rfl,rv⟩
theorem Zwo {n:Nat}{tb:TE}{x:Slot}{od:OD}(hx:Z[n]?=some x) (ho:x.od=some od) (h:JE K tb Z λe Z1=>∃y kvs i d,Z1[n]?=some y/\y.od=some (.dct kvs)/\e=.int i/\valD kvs (.inl i)=some d/\P d Z1):JE K (tOp (rIxU K) (tVar n) tb) Z P:=λg G H U Q k c=>by
 obtain⟨a,o,h1,h2,h3,h4,h5⟩:=k.own n x _ hx ho;refine⟨.ref a,h1,h g G H U _ k λv e G1 H1 Z1 k1 s1 r1 ⟨y,kvs,i,d,q1,q2,q3,q4,p⟩=>?_⟩;subst q3;cases r1.inv;obtain⟨a',o',w1,w2,w3,w4,w5⟩:=k1.own n y _ q1 q2;rw[h1]at w1;cases w1;cases o' with
 |dK vs=>
  obtain⟨u,z1,z2⟩:=Zle w3 q4;exact .inr ⟨a,u,rfl,(by have:=DGet.k (k:=Sum.inl i) w2;rw[z1]at this;exact this),c u d G1 H1 Z1 k1 s1 z2 p⟩
 |_=>exact absurd w3 (λz=>z)
theorem Zv1 {n:Nat}{ti te:TE}{Pp:Pst}(h:JE K te Z λd Z1=>(∃x od,Z1[n]?=some x/\x.od=some od)/\JE K ti Z1 λe Z2=>∃x kvs i,Z2[n]?=some x/\x.od=some (.dct kvs)/\e=.int i/\kvs.length<sizeLine/\Pp.nx (Z2.set n<|x.put (.dct<|putD kvs (.inl i) d))) :
  JS K (tAsg te<|gSub (tVar n) ti rSetU) Z Pp:=λg G H U E k c=>
 h g G H U _ k λv d G1 H1 Z1 k1 s1 r1 hq_=>by
  obtain⟨⟨x,od,hx,ho⟩,p1⟩:=hq_;obtain⟨a,o,h1,h2,h3,h4,h5⟩:=k1.own n x _ hx ho;refine⟨.ref a,h1,p1 g G1 H1 U _ k1 λu e G2 H2 Z2 k2 s2 r2 ⟨y,kvs,i,q1,q2,q3,q4,p⟩=>?_⟩;subst q3;cases r2.inv;obtain⟨a',o',w1,w2,w3,w4,w5⟩:=k2.own n y _ q1 q2;rw[h1]at w1;cases w1;cases o' with
  |dK vs=>
   have w3':Paired (λ(p:Key × V) (q:Key × D)=>p.1=q.1/\Rep K G2 p.2 q.2) vs kvs:=w3;exact .inr ⟨a,_,rfl,DPut.k (k:=Sum.inl i) w2 (by rw[Paired.length w3'];exact q4),c.nx U G2 _ _ (k2.write q1 q2 h1 (show OwnRep K G2 (.dK<|putK vs (.inl i) v) (.dct<|putD kvs (.inl i) d) from Zpf (r1.mono s2) w3')) p⟩
  |_=>exact absurd w3 (λz=>z)
theorem Zcr {ds es:List D}(he:ds=[.lst es]\/ds=[.tup es]) (p:P (.int es.length) Z):JC K (rLenU K) ds Z P:=λg G H U Q vs k rs c=>.inl<|Zzl he p g G H U Q vs k rs c
theorem Ztv {n:Nat}{x:Slot}{ds:List D}(hx:Z[n]?=some x) (ho:x.od=some (.lst ds)) (p:P (.int ds.length) Z):JE K (tCB (rLenU K)<|tCons (tVar n) tNil) Z P:=λg G H U Q k c=>by
 obtain⟨v,h1,h2⟩:=Zvx hx ho p g G H U Q k c;exact⟨v,h1,.inl h2⟩
def cutD (ds:List D) (lo hi:Option Int):List D:=(ds.drop<|HT.sIx ds.length 0 lo).take (HT.sIx ds.length ds.length hi-HT.sIx ds.length 0 lo)
theorem Zpn {α:Type}(xs:List α) (lo hi:Option Int) (h:HT.sIx xs.length 0 lo=0/\HT.sIx xs.length xs.length hi=xs.length):(xs.drop<|HT.sIx xs.length 0 lo).take (HT.sIx xs.length xs.length hi-HT.sIx xs.length 0 lo)=xs:=by
 rw[h.1,h.2];simp
def JO2 (t:TO) (Z:Evt) (K:W.Frag) (P:Option Int->Evt->Prop):Prop:=
 ∀g G H U (Q:Option Int->Hp->Prop),Ok K g G H U Z -> (∀o G' H' Z',Ok K g G' H' U Z' -> Same G G' -> P o Z' -> Q o H')->t U H Q
theorem Zeo {P:Option Int->Evt->Prop}(p:P none Z):JO2 tNoPart Z K P:=λg G H U Q k c=>c none G H Z k (Same.refl _) p
theorem Zet {te:TE}{P:Option Int->Evt->Prop}(h:JE K te Z λd Z1=>∃i,d=.int i/\P (some i) Z1):JO2 (tPart te) Z K P:=λg G H U Q k c=>
 h g G H U _ k λv d G1 H1 Z1 k1 s1 r1 hq_=>by obtain⟨i,e,p⟩:=hq_;subst e;cases r1.inv;exact⟨i,rfl,c (some i) G1 H1 Z1 k1 s1 p⟩
def slD (d:D) (lo hi:Option Int):Option D:=match d with
 |.lst ds=>some (.lst (cutD ds lo hi))
 |.scr ds=>some (.lst (cutD ds lo hi))
 |.tup ds=>some (.tup (cutD ds lo hi))
 |_=>none
theorem Zla {te:TE}{tl th:TO}(h:JE K te Z λd Z1=>JO2 tl Z1 K λlo Z2=>JO2 th Z2 K λhi Z3=>∃e,slD d lo hi=some e/\P e Z3):JE K (tSl (rSlU K) te tl th) Z P:=λg G H U Q k c=>
 h g G H U _ k λv d G1 H1 Z1 k1 s1 r1 p1=>p1 g G1 H1 U _ k1 λlo G2 H2 Z2 k2 s2 p2=>p2 g G2 H2 U _ k2 λhi G3 H3 Z3 k3 s3 hq_=>by
  obtain⟨e,he,p⟩:=hq_;have r3:=r1.mono<|s2.trans s3;have cc:=c.up<|s1.trans<|s2.trans s3;cases r3 with
  |lst ha rs=>
   cases he;refine .inl ⟨_,_,rfl,SqL.of<|k3.live _ _ ha,λq hq=>?_⟩;obtain⟨k4,sg⟩:=k3.laid hq (.lst _);refine cc _ _ _ _ Z3 k4 sg (.lst Zao<|Reps.mono sg ?_) p;unfold cutV cutD;rw[rs.length];exact(rs.drop _).take _
  |scr ha rs=>
   cases he;refine .inl ⟨_,_,rfl,k3.live.seq ha,λq hq=>?_⟩;obtain⟨k4,sg⟩:=k3.laid hq (.lst _);refine cc _ _ _ _ Z3 k4 sg (.lst Zao<|Reps.mono sg ?_) p;unfold cutV cutD;rw[rs.length];exact(rs.drop _).take _
  |tup ha rs=>
   cases he;refine .inr ⟨_,_,rfl,SqT.of<|k3.live _ _ ha,λhw=>?_,λhw q hq=>?_⟩
   ·rw[rs.length]at hw
    refine cc _ _ _ _ Z3 k3 (Same.refl _) (.tup ha ?_) p;unfold cutD;rw[Zpn _ _ _ hw];exact rs
   ·obtain⟨k4,sg⟩:=k3.laid hq (.tup _)
    refine cc _ _ _ _ Z3 k4 sg (.tup Zao<|Reps.mono sg ?_) p;unfold cutV cutD;rw[rs.length];exact(rs.drop _).take _
  |_=>cases he
theorem Zpc {te:TE}(h:JE K te Z λd Z1=>∃ds,d=.tup ds/\P (.tup ds.reverse) Z1):JE K (tSlR K te) Z P:=λg G H U Q k c=>
 h g G H U _ k λv d G1 H1 Z1 k1 s1 r1 hq_=>by
  obtain⟨ds,e,p⟩:=hq_;subst e;obtain⟨_,_,rfl,ha,rs⟩:=r1.inv
  next=>
   refine⟨_,_,rfl,SqT.of<|k1.live _ _ ha,λq hq=>?_⟩;obtain⟨k4,sg⟩:=k1.laid hq (.tup _);exact c _ _ _ _ Z1 k4 (s1.trans sg) (.tup Zao<|rs.reverse.mono sg) p
theorem Zkb {tl:TE}{P:List D->Evt->Prop}(h:JE K tl Z λd Z1=>∃ds,(d=.lst ds\/d=.scr ds)/\P ds Z1):JI K (iSeq K tl) Z P:=λg G H U R k c=>.inl<|Zv4 h g G H U R k c
theorem Zd7 {tl:TE}{P:List D->Evt->Prop}(h:JE K tl Z λd Z1=>∃ds,d=.tup ds/\P ds Z1):JI K (iSeq K tl) Z P:=λg G H U R k c=>.inr<|Zyw h g G H U R k c
def truD:D->Option Bool
 |.non=>some false
 |.bl b=>some b
 |.int i=>some (i != 0)
 |.lst ds=>some !ds.isEmpty
 |.tup ds=>some !ds.isEmpty
 |_=>none
theorem Reps.isEmpty {G:Hp}{vs:List V}{ds:List D}(r:Reps K G vs ds):vs.isEmpty=ds.isEmpty:=by cases r <;> rfl
theorem Zej {t:TE}{Pb:Bool->Evt->Prop}(h:JE K t Z λd Z1=>∃b,truD d=some b/\Pb b Z1):JT K (tTru K t) Z Pb:=λg G H U Q k c=>
 h g G H U _ k λv d G1 H1 Z1 k1 s1 r1 hq_=>by
  obtain⟨b,e,p1⟩:=hq_;refine⟨b,?_,c b G1 H1 Z1 k1 s1 p1⟩;cases r1 with
  |non=>cases e;rfl
  |bl b=>cases e;rfl
  |int i=>cases e;rfl
  |str x=>cases e
  |ty n=>cases e
  |scr ha rs=>cases e
  |adr a=>cases e
  |dct ha hl rs=>cases e
  |exc ha=>cases e
  |lst ha rs=>cases e;exact .inl ⟨_,SqL.of (k1.live _ _ ha),by rw[rs.isEmpty]⟩
  |tup ha rs=>cases e;exact .inr (.inl ⟨_,SqT.of (k1.live _ _ ha),by rw[rs.isEmpty]⟩)
def tyD:D->Option String
 |.non=>some "NoneType"
 |.bl _=>some "bool"
 |.int _=>some "int"
 |.str _=>some "str"
 |.lst _=>some "list"
 |.tup _=>some "tuple"
 |.dct _ _=>some "dict"
 |_=>none
theorem Zxo {d:D}{n T:String}{b:Bool}(ht:tyD d=some T) (e:∀K,PySem.W.kitOne K (.type T) (.type n)=some b) (p:P (.bl b) Z):JC K (rIsi K) [d,.ty n] Z P:=λg G H U Q vs k rs c=>by
 obtain⟨_,_,rfl,r,t⟩:=rs.inv
 next=>
  obtain⟨_,_,rfl,r',t⟩:=t.inv
  next=>
   cases t.inv;cases r'.inv;refine⟨_,n,.type T,b,rfl,?_,e K,c _ _ G H Z k (Same.refl _) (.bl b) p⟩;cases r with
   |non=>cases ht;exact .non
   |bl b=>cases ht;exact .bl b
   |int i=>cases ht;exact .int i
   |str x=>cases ht;exact .str x
   |ty n=>cases ht
   |scr ha rs=>cases ht
   |adr a=>cases ht
   |dct ha hl rs=>cases ht;exact .dK (k.live _ _ ha)
   |exc ha=>cases ht
   |lst ha rs=>cases ht;exact .lst (k.live _ _ ha)
   |tup ha rs=>cases ht;exact .tup (k.live _ _ ha)
theorem Zlq {ta tb:TE}(h:JE K ta Z λd Z1=>∃b,d=.bl b/\if b=true then JE K tb Z1 P else P (.bl false) Z1):JE K (tAndV ta tb) Z P:=λg G H U Q k c=>
 h g G H U _ k λv d G1 H1 Z1 k1 s1 r1 hq_=>by
  obtain⟨b,e,p1⟩:=hq_;subst e;cases r1.inv;refine⟨b,rfl,?_⟩;cases b with
  |true=>exact(show JE K tb Z1 P from p1) g G1 H1 U Q k1 (c.up s1)
  |false=>exact c _ _ G1 H1 Z1 k1 s1 (.bl false) p1
theorem Zxp {ta tb:TE}(h:JE K ta Z λd Z1=>∃b,d=.bl b/\if b=true then P (.bl true) Z1 else JE K tb Z1 P):JE K (tOrV ta tb) Z P:=λg G H U Q k c=>
 h g G H U _ k λv d G1 H1 Z1 k1 s1 r1 hq_=>by
  obtain⟨b,e,p1⟩:=hq_;subst e;cases r1.inv;refine⟨b,rfl,?_⟩;cases b with
  |false=>exact(show JE K tb Z1 P from p1) g G1 H1 U Q k1 (c.up s1)
  |true=>exact c _ _ G1 H1 Z1 k1 s1 (.bl true) p1
theorem Zpp {ta:TE}(h:JE K ta Z λd Z1=>∃b,d=.bl b/\P (.bl !b) Z1):JE K (tNotV ta) Z P:=λg G H U Q k c=>
 h g G H U _ k λv d G1 H1 Z1 k1 s1 r1 hq_=>by
  obtain⟨b,e,p1⟩:=hq_;subst e;cases r1.inv;exact⟨b,rfl,c _ _ G1 H1 Z1 k1 s1 (.bl !b) p1⟩
theorem Zf7 {to te:TE}(h:JE K to Z λd Z1=>∃ns:List Int,d=.tup (ns.map D.int)/\JE K te Z1 λe Z2=>∃i j,e=.int i/\ns[j]?=some i/\(∀m,m<j->ns[m]?≠some i)/\P (.int (j:Nat)) Z2) :
  JE K (tBM K "tuple" (rIndexT K) to<|tCons te tNil) Z P:=λg G H U Q k c=>
 h g G H U _ k λv d G1 H1 Z1 k1 s1 r1 hq_=>by
  obtain⟨ns,e,p1⟩:=hq_;subst e;obtain⟨a,vs,rfl,ha,rs⟩:=r1.inv
  next=>
   refine⟨.inr (.inl ⟨rfl,.inr ⟨_,k1.live _ _ ha⟩⟩),p1 g G1 H1 U _ k1 λu e G2 H2 Z2 k2 s2 r2 ⟨i,j,q1,q2,q3,p⟩=>?_⟩;subst q1;cases r2.inv;have ev:vs=ns.map V.int:=rs.ints;subst ev;have hj:j<ns.length:=(Waf.mp q2).1;refine⟨a,_,.int i,j,rfl,rfl,SqT.of<|k2.live _ _<|s2 _ _ ha,rfl,?_,by simpa using hj,⟨.int i,by rw[Wae,q2];rfl,by simp[eqV]⟩,λm z hm hz=>?_,c _ _ G2 H2 Z2 k2 (s1.trans s2) (.int _) p⟩
   ·rw[List.all_map];exact Wcn.mpr λ_ _=>rfl
   ·rw[Wae]at hz
    cases e:ns[m]? with
    |none=>rw[e]at hz;cases hz
    |some w=>
     rw[e]at hz;have hz:V.int w=z:=by simpa using hz
     subst hz;have hne:w≠i:=λq=>q3 m hm (by rw[e,q]);show (w == i)=false;exact beq_eq_false_iff_ne.mpr hne
end
section
variable {K:W.Frag}{g:Gm}{G H:Hp}{U:St}{Z:Evt}
theorem Ok.setVal' (k:Ok K g G H U Z) {v:V}{d:D}(i:Nat) (r:Rep K G v d):Ok K g G H (U.set i<|some v) (Z.set i (.val d)):=by
 by_cases hi:i < Z.length
 ·exact k.setVal hi r
 ·have hl:=k.len
  rw[Wcw (l:=U) (by omega),Wcw (l:=Z) (by omega)];exact k
theorem Ok.setOwn' (k:Ok K g G H U Z) {a:Addr}{od:OD}(i:Nat) (p:Pend K g G H U Z a od):Ok K g G H (U.set i<|some (.ref a)) (Z.set i (.own od)):=by
 by_cases hi:i < Z.length
 ·exact k.setOwn hi p
 ·have hl:=k.len
  rw[Wcw (l:=U) (by omega),Wcw (l:=Z) (by omega)];exact k
theorem Zym {te:TE}{i:Nat}{P:Pst}(h:JE K te Z λd Z1=>P.nx (Z1.set i (.val d))):JS K (tAsg te<|gName i) Z P:=λg G H U E k c=>
 h g G H U _ k λv d G1 H1 Z1 k1 s1 r1 p1=>c.nx _ G1 H1 _ (k1.setVal' i r1) p1
theorem Zvc {te:TE}{i:Nat}{P:Pst}(h:JO K te Z λod Z1=>P.nx (Z1.set i (.own od))):JS K (tAsg te<|gName i) Z P:=λg G H U E k c=>
 h g G H U _ k λa od G1 H1 Z1 k1 s1 pd p1=>c.nx _ G1 H1 _ (k1.setOwn' i pd) p1
theorem Zu1 {i j:Nat}{ta:TA}{P:Pst}(h:JA K ta Z λds Z1=>∃d e,ds=[d,e]/\P.nx ((Z1.set i (.val d)).set j (.val e))):JS K (tPar i j ta) Z P:=λg G H U E k c=>
 h g G H U _ k λvs ds G1 H1 Z1 k1 s1 r1 hq_=>by
  obtain⟨d,e,hd,p1⟩:=hq_;subst hd;obtain⟨_,_,rfl,ra,rr⟩:=r1.inv
  next=>
   obtain⟨_,_,rfl,rb,rr⟩:=rr.inv
   next=>
    cases rr.inv;exact⟨_,_,rfl,c.nx _ G1 H1 _ ((k1.setVal' i ra).setVal' j rb) p1⟩
theorem Zbk {i:Nat}{d:D}{P:Evt->Prop}(p:P (Z.set i (.val d))):JG K (gName i) d Z P:=λg G H U v R k r c=>c _ G H _ (k.setVal' i r) (Same.refl _) p
theorem Zc3 {n i:Nat}{d:D}{P:Evt->Prop}(hn:i<n) (p:P (Z.set i (.val d))):JGn K n (gName i) d Z P:=λg G H U v R k r c=>
 c _ G H _ (k.setVal' i r) (Same.refl _) (λj hj=>Wa0<|by omega) p
theorem Zxu {n:Nat}{te:TE}{Pp:Pst}{x:Slot}{ds0:List D}(hx:Z[n]?=some x) (ho:x.od=some (.lst ds0))
  (h:JE K te Z λd Z1=>∃y ds,Z1[n]?=some y/\y.od=some (.lst ds)/\ds.length<sizeLine/\Pp.nx (Z1.set n<|y.put (.lst<|ds++[d]))) :
  JS K (tDrop<|tBM K "list" rAppend (tVar n)<|tCons te tNil) Z Pp:=Zpd hx ho ⟨_,rfl⟩ h
end
section
variable {K:W.Frag}{Z:Evt}{nx bk ct:Evt->Prop}{rt:D->Evt->Prop}{ro:OD->Evt->Prop}
theorem Zbb (p:nx Z):JS K tNext Z ⟨nx,rt,bk,ct,ro⟩:=Zvs p
theorem Zam {t u:TS}(h:JS K t Z ⟨λZ1=>JS K u Z1 ⟨nx,rt,bk,ct,ro⟩,rt,bk,ct,ro⟩):JS K (tSeq t u) Z ⟨nx,rt,bk,ct,ro⟩:=Zux h
theorem Zbi {t u:TS}(I:Evt->Prop) (h1:JS K t Z ⟨I,rt,bk,ct,ro⟩) (h2:∀Z1,I Z1->JS K u Z1 ⟨nx,rt,bk,ct,ro⟩):JS K (tSeq t u) Z ⟨nx,rt,bk,ct,ro⟩:=
 Zux (h1.mono h2 (λ_ _ z=>z) (λ_ z=>z) (λ_ z=>z) λ_ _ z=>z)
theorem Za9 {te:TE}(h:JE K te Z rt):JS K (tRet te) Z ⟨nx,rt,bk,ct,ro⟩:=Zyk h
theorem Zg5 {te:TE}(h:JO K te Z ro):JS K (tRet te) Z ⟨nx,rt,bk,ct,ro⟩:=Zwd h
theorem Zdf {c:TT}{t u:TS}(h:JT K c Z λb Z1=>if b=true then JS K t Z1 ⟨nx,rt,bk,ct,ro⟩ else JS K u Z1 ⟨nx,rt,bk,ct,ro⟩):JS K (tIfS c t u) Z ⟨nx,rt,bk,ct,ro⟩:=Zz8 h
theorem Zax {te:TE}{i:Nat}(h:JE K te Z λd Z1=>nx (Z1.set i (.val d))):JS K (tAsg te<|gName i) Z ⟨nx,rt,bk,ct,ro⟩:=Zym h
theorem Zcp {te:TE}{i:Nat}(h:JO K te Z λod Z1=>nx (Z1.set i (.own od))):JS K (tAsg te<|gName i) Z ⟨nx,rt,bk,ct,ro⟩:=Zvc h
theorem Zkz {i j:Nat}{ta:TA}(h:JA K ta Z λds Z1=>∃d e,ds=[d,e]/\nx ((Z1.set i (.val d)).set j (.val e))):JS K (tPar i j ta) Z ⟨nx,rt,bk,ct,ro⟩:=Zu1 h
theorem Zmz {te:TE}{t:TG}(h:JE K te Z λd Z1=>JG K t d Z1 nx):JS K (tAsg te t) Z ⟨nx,rt,bk,ct,ro⟩:=Zxv h
theorem Zhq {n:Nat}{te:TE}{x:Slot}{ds0:List D}(hx:Z[n]?=some x) (ho:x.od=some (.lst ds0))
  (h:JE K te Z λd Z1=>∃y ds,Z1[n]?=some y/\y.od=some (.lst ds)/\ds.length<sizeLine/\nx (Z1.set n<|y.put (.lst<|ds++[d]))) :
  JS K (tDrop<|tBM K "list" rAppend (tVar n)<|tCons te tNil) Z ⟨nx,rt,bk,ct,ro⟩:=Zxu hx ho h
theorem Zmg {n:Nat}{ti te:TE}(h:JE K te Z λd Z1=>(∃x ds,Z1[n]?=some x/\x.od=some (.lst ds))/\JE K ti Z1 λe Z2=>∃x ds i j,Z2[n]?=some x/\x.od=some (.lst ds)/\e=.int i/\ixN ds.length i=some j/\nx (Z2.set n<|x.put (.lst<|ds.set j d))) :
  JS K (tAsg te<|gSub (tVar n) ti rSetU) Z ⟨nx,rt,bk,ct,ro⟩:=Zpz (h.mono λd Z1 ⟨⟨x,ds,h1,h2⟩,h3⟩=>⟨⟨x,_,h1,h2⟩,h3⟩)
theorem Zwg {n:Nat}{ti te:TE}(h:JE K te Z λd Z1=>(∃x kvs,Z1[n]?=some x/\x.od=some (.dct kvs))/\JE K ti Z1 λe Z2=>∃x kvs i,Z2[n]?=some x/\x.od=some (.dct kvs)/\e=.int i/\kvs.length<sizeLine/\nx (Z2.set n<|x.put (.dct<|putD kvs (.inl i) d))) :
  JS K (tAsg te<|gSub (tVar n) ti rSetU) Z ⟨nx,rt,bk,ct,ro⟩:=Zv1 (h.mono λd Z1 ⟨⟨x,ds,h1,h2⟩,h3⟩=>⟨⟨x,_,h1,h2⟩,h3⟩)
theorem Zd1 {wi:TI}{t:TG}{tb:TS}(h:JI K wi Z λds Z1=>∃I:Nat->Evt->Prop,I 0 Z1/\(∀i d Z2,ds[i]?=some d->I i Z2->JG K t d Z2 λZ3=>JS K tb Z3 ⟨I<|i+1,rt,nx,I<|i+1,ro⟩)/\∀Z2,I ds.length Z2->nx Z2) :
  JS K (tFor wi t tb) Z ⟨nx,rt,bk,ct,ro⟩:=Zyt h
theorem Zga {c:TT}{tb:TS}(I:Nat->Evt->Prop) (h0:∃m,I m Z) (ht:∀m Z1,I m Z1->JT K c Z1 λb Z2=>if b=true then JS K tb Z2 ⟨λZ3=>∃m',m'<m/\I m' Z3,rt,nx,λZ3=>∃m',m'<m/\I m' Z3,ro⟩ else nx Z2) :
  JS K (tWhile c tb) Z ⟨nx,rt,bk,ct,ro⟩:=Zr5 I h0 ht
end
theorem Zp2 {α β:Type}{f:α -> β}{xs:List α}{i:Int}(h0:0<=i) (h1:i<(xs.length:Int)):∃c,xs[i.toNat]?=some c/\atI (xs.map f) i=some (f c):=by
 have hk:i.toNat<xs.length:=by omega
 have e:i=((i.toNat:Nat):Int):=by omega
 have q:xs[i.toNat]?=some xs[i.toNat]:=Waa hk;generalize xs[i.toNat]=c at q;refine⟨c,q,?_⟩;have z:atI (xs.map f) ((i.toNat:Nat):Int)=some (f c):=Zb7 (by rw[Wae,q];rfl);rw[<- e]at z;exact z
theorem Zoy:bootBuiltins "abs" = some (.builtin "abs"):=by decide +kernel
theorem Zcn:bootBuiltins "len" = some (.builtin "len"):=by decide +kernel
theorem Zkj:bootBuiltins "min" = some (.builtin "min"):=by decide +kernel
theorem Zus:bootBuiltins "max" = some (.builtin "max"):=by decide +kernel
theorem Ze0:bootBuiltins "isinstance" = some (.builtin "isinstance"):=by decide +kernel
theorem Zut:bootBuiltins "sum" = some (.builtin "sum"):=by decide +kernel
theorem Zg7:bootBuiltins "sorted" = some (.builtin "sorted"):=by decide +kernel
theorem Zbx:bootBuiltins "tuple" = some (.type "tuple"):=by decide +kernel
theorem Zqs:bootBuiltins "list" = some (.type "list"):=by decide +kernel
theorem Zos:bootBuiltins "set" = some (.type "set"):=by decide +kernel
theorem Zuq:bootBuiltins "int" = some (.type "int"):=by decide +kernel
theorem Zw6:bootBuiltins "bool" = some (.type "bool"):=by decide +kernel
theorem Zxq:bootBuiltins "zip" = some (.type "zip"):=by decide +kernel
structure Callee (P:Program) (w:World) (K:W.Frag) (mg:Str->Option Value) (base:Heap) (k:Nat) (x:Str) (ps:List Str) (sp:Sp):Prop where
 ex:∃(f:Addr) (fd:FuncData),FnOk P w K mg base CX0 k f fd ps sp/\Binds K fd ps []/\W.keepIn K (.ref f)=true/\mg x=some (.ref f)
section
variable {X:Cx}{k:Nat}{x:Str}{ps:List Str}{sp:Sp}{e:Expr}{es:List Expr}{t:TA}{p pos:Pos}
theorem Za4 (C:Callee X.prog X.w X.K X.mg X.base k x ps sp) (hr:Room k X.A) (ha:PA X (e::es) t) (hg:Gl X x:=by rfl) (hdb:(x == ("__debug__":Str))=false:=by decide)
  (he:starEach (e::es) X.env=(false,eval e X.env)::starEach es X.env:=by rfl) (hpl:(backTo pos<|starEach es X.env).any (·.1)=false:=by rfl):PE X (.Call (.Name x p) (e::es) [] pos) (tCall sp [] E0 t):=by
 obtain⟨f,fd,F,b,kp,m⟩:=C.ex;exact Zvu F hr hg m kp b .nil pass0 ha hdb he hpl
end
def fixD (sel:List Nat) (Z:Evt):Evt:=sel.map λi=>(Z[i]?).getD .any
theorem Zc7 {n:Nat}{sel:List Nat}{ts Z:Evt}(ht:ts.length=n):backD n sel (ts++fixD sel Z) 0 Z = Z:=by
 apply Wca;intro i;rw[Zc4];cases q:Z[i]? with
 |none=>rfl
 |some x=>
  show some (backAt n sel (ts++fixD sel Z) (0+i) x)=some x;congr 1;rw[Nat.zero_add];have key:∀j,sel.idxOf? i=some j->(ts++fixD sel Z)[n+j]?=some x:=λj hj=>by
   rw[Wa2 (by omega),ht,Nat.add_sub_cancel_left];unfold fixD;rw[Wae,Ze2 hj];show some ((Z[i]?).getD .any)=_;rw[q];rfl
  unfold backAt;cases x with
  |any=>rfl
  |val d=>rfl
  |own o=>
   dsimp only;cases e:sel.idxOf? i with
   |none=>rfl
   |some j=>dsimp only;rw[key j e]
  |bor o=>
   dsimp only;cases e:sel.idxOf? i with
   |none=>rfl
   |some j=>dsimp only;rw[key j e]
  |ownA a o=>
   dsimp only;cases e:sel.idxOf? i with
   |none=>rfl
   |some j=>dsimp only;rw[key j e]
section
variable {K:W.Frag}{Z:Evt}{P:D->Evt->Prop}
theorem Zdh {sel:List Nat}{wi:TI}{tc:TT}{te:TE}(hsel:sel.Nodup)
  (h:JI K wi Z λds Z1=>ds.length<sizeLine/\∃(p:D->Bool) (f:D->D),
   (∀(i:Nat) d,ds[i]?=some d->JT K tc (.val d::fixD sel Z1) λb Z4=>b=p d/\if b=true then JE K te Z4 λe Z5=>e=f d/\∃x,Z5=x::fixD sel Z1 else ∃x,Z4=x::fixD sel Z1) /\
   P (.lst ((ds.filter p).map f)) Z1):JE K (tComp 1 sel wi (gName 0) tc te) Z P:=by
 refine Zix hsel λg G H U R k c=>h g G H U R k λJ ds G' H' Z' k' s' it ⟨z,p,f,ht,he⟩=>c J ds G' H' Z' k' s' it ⟨z,fixD sel Z',p,f,rfl,λi d ts hd hts=>?_,?_⟩
 ·refine Zc3 (by decide) ?_
  obtain⟨x,rfl⟩:∃x,ts=[x]:=by
   match ts,hts with
   |[x],_=>exact⟨x,rfl⟩
  intro g G H U Q k c;refine ht i d hd g G H U Q k λb G1 H1 Z1 k1 s1 ⟨e1,q⟩=>c b G1 H1 Z1 k1 s1 ⟨e1,?_⟩;cases b with
  |true=>
   rw[if_pos rfl]at q ⊢;exact q.mono λe Z5 ⟨e2,x,e3⟩=>⟨e2,[x],rfl,e3⟩
  |false=>
   rw[if_neg Wal]at q ⊢;obtain⟨x,e3⟩:=q;exact⟨[x],rfl,e3⟩
 ·rw[Zc7 (by simp)];exact he
theorem Zje {sel:List Nat}{wi:TI}{tc:TT}{te:TE}{Po:OD->Evt->Prop}(hsel:sel.Nodup)
  (h:JI K wi Z λds Z1=>ds.length<sizeLine/\∃(p:D->Bool) (f:D->D),
   (∀(i:Nat) d,ds[i]?=some d->JT K tc (.val d::fixD sel Z1) λb Z4=>b=p d/\if b=true then JE K te Z4 λe Z5=>e=f d/\∃x,Z5=x::fixD sel Z1 else ∃x,Z4=x::fixD sel Z1) /\
   Po (.lst ((ds.filter p).map f)) Z1):JO K (tComp 1 sel wi (gName 0) tc te) Z Po:=by
 refine Zqm hsel λg G H U R k c=>h g G H U R k λJ ds G' H' Z' k' s' it ⟨z,p,f,ht,he⟩=>c J ds G' H' Z' k' s' it ⟨z,λi ys Z=>ys=((ds.take i).filter p).map f/\∃x,Z = x::fixD sel Z',⟨by simp,.any,rfl⟩,?_,?_⟩
 ·rintro i d ys Z2 hd ⟨rfl,x,rfl⟩
  have tk:ds.take (i+1)=ds.take i++[d]:=by
   rw[Wb5,hd];rfl
  refine Zc3 (by decide) ?_;intro g G H U Q k c;refine ht i d hd g G H U Q k λb G1 H1 Z1 k1 s1 ⟨e1,q⟩=>c b G1 H1 Z1 k1 s1 ?_;cases b with
  |true=>
   rw[if_pos rfl]at q ⊢;refine q.mono λe Z5 ⟨e2,x,e3⟩=>⟨?_,x,e3⟩;rw[tk,Wbg,Was,Wa9,<- e1,e2];rfl
  |false=>
   rw[if_neg Wal]at q ⊢;obtain⟨x,e3⟩:=q;refine⟨?_,x,e3⟩;rw[tk,Wbg,Was,Wa9,<- e1];simp
 ·rintro ys Z2 ⟨rfl,x,rfl⟩
  rw[Wba,show (x::fixD sel Z')=[x]++fixD sel Z' from rfl,Zc7 (by simp)];exact he
theorem Ztp {sel:List Nat}{wi:TI}{tc:TT}{te:TE}(hsel:sel.Nodup)
  (h:JI K wi Z λds Z1=>ds.length<sizeLine/\∃(p:D->Bool) (f:D->D),
   (∀(i:Nat) d,ds[i]?=some d->∃a b,d=.tup [a,b]/\JT K tc (.val a::.val b::fixD sel Z1) λt Z4=>t=p d/\if t=true then JE K te Z4 λe Z5=>e=f d/\∃x y,Z5=x::y::fixD sel Z1 else ∃x y,Z4=x::y::fixD sel Z1) /\
   P (.lst ((ds.filter p).map f)) Z1):JE K (tComp 2 sel wi (gTup K 2 (gCons (gName 0) (gCons (gName 1) gNil))) tc te) Z P:=by
 refine Zix hsel λg G H U R k c=>h g G H U R k λJ ds G' H' Z' k' s' it ⟨z,p,f,ht,he⟩=>c J ds G' H' Z' k' s' it ⟨z,fixD sel Z',p,f,rfl,λi d ts hd hts=>?_,?_⟩
 ·obtain⟨a,b,rfl,hj⟩:=ht i d hd
  refine Zk1 rfl<|Zc5<|Zc3 (by decide)<|Zc5<|Zc3 (by decide)<|Ziw ?_;obtain⟨x,y,rfl⟩:∃x y,ts=[x,y]:=by
   match ts,hts with
   |[x,y],_=>exact⟨x,y,rfl⟩
  intro g G H U Q k c;refine hj g G H U Q k λb G1 H1 Z1 k1 s1 ⟨e1,q⟩=>c b G1 H1 Z1 k1 s1 ⟨e1,?_⟩;cases b with
  |true=>
   rw[if_pos rfl]at q ⊢;exact q.mono λe Z5 ⟨e2,x,y,e3⟩=>⟨e2,[x,y],rfl,e3⟩
  |false=>
   rw[if_neg Wal]at q ⊢;obtain⟨x,y,e3⟩:=q;exact⟨[x,y],rfl,e3⟩
 ·rw[Zc7 (by simp)];exact he
end
def tGhost (base:Nat) (t:TS):TS:=λE U H=>t { E with nx:=λU' H'=>∃U2:St,U2.length = U'.length/\(∀i,i<base -> U2[i]? = U'[i]?)/\E.nx U2 H' } U H
theorem Zsu {X:Cx}{st:Stmt}{t:TS}(base:Nat) (hv:∀x∈X.N.drop base,X.env.scope.names.lookup x=none) (h:PS X st t):PS X st (tGhost base t):=by
 intro pins s U H E I hw;refine thn (h pins s U H _ I hw) λf s1 q=>?_;cases f with
 |next=>
  obtain⟨U',H',I',U2,hl,hs,q⟩:=q;refine⟨U2,H',⟨I'.ok,I'.os,I'.bare,I'.base,?_,I'.cell,I'.free,I'.freeC,I'.pin,I'.hok,hl.trans I'.len⟩,q⟩;obtain⟨m,hn,hl'⟩:=I'.loc;refine⟨m,hn,λi x v e1 e2 e3=>?_⟩;by_cases hi:i<base
  ·rw[hs i hi]at e2;exact hl' i x v e1 e2 e3
  ·have hm:x∈X.N.drop base:=by
    refine Wau (i:=i-base) ?_;rw[Wdz,show base+(i-base)=i by omega];exact e1
   have z:=hv x hm;rcases e3 with w|w|w <;> (rw[z]at w;cases w)
 |ret v=>exact q
 |brk=>exact q
 |cont=>exact q
def Nest (K:W.Frag) (g:Gm) (G H:Hp) (U:St) (Z:Evt) (cs:List (Addr × HO)) (ods:List OD):Prop:=
 (cs.map (·.1)).Nodup/\Paired (λ(c:Addr × HO) (od:OD)=>OwnRep K G c.2 od) cs ods/\∀c∈cs,H c.1=some c.2/\G c.1=none/\g.Hz c.1=none/\g.Xo c.1=none/\∀(i:Nat) x od',Z[i]?=some x->x.od=some od' -> U[i]?≠some (some (.ref c.1))
def JN (K:W.Frag) (t:TE) (Z:Evt) (P:List OD->Evt->Prop):Prop:=
 ∀g G H U Q,Ok K g G H U Z -> (∀acc cs ods G' H' Z',Ok K g G' H' U Z' -> Same G G' -> Rep K G' (.ref acc) (.lst (cs.map λ(c:Addr × HO)=>D.adr c.1))->g.Hz acc=none->Nest K g G' H' U Z' cs ods->P ods Z' -> Q (.ref acc) H')->t U H Q
section
variable {K:W.Frag}{Z:Evt}
def cellAt (cs:List (Addr × HO)) (b:Addr):Option HO:=(cs.find? λc=>decide (c.1=b)).map (·.2)
theorem Zen {cs:List (Addr × HO)}{b:Addr}:cellAt cs b=none ↔ ∀c∈cs,c.1≠b:=by
 unfold cellAt;rw[Option.map_eq_none_iff,Wd0];constructor
 ·intro h c hc e;exact h c hc<|decide_eq_true e
 ·intro h c hc e;exact h c hc<|of_decide_eq_true e
theorem Zh3 {cs:List (Addr × HO)}(nd:(cs.map (·.1)).Nodup) {c:Addr × HO}(hc:c∈cs):cellAt cs c.1=some c.2:=by
 induction cs with
 |nil=>cases hc
 |cons d r ih=>
  rw[Wbe,Wbu]at nd;unfold cellAt;rcases Wan.mp hc with e|hc
  ·subst e;simp
  ·have hne:d.1≠c.1:=λe=>nd.1 (by rw[e];exact Wa1.mpr ⟨c,hc,rfl⟩)
   rw[Wdj (by simpa using hne)];exact ih nd.2 hc
open Classical in
noncomputable def asideN (g:Gm) (sel:List Nat) (U:St) (Z:Evt) (H:Hp) (acc:Addr) (cs:List (Addr × HO)):Hp:=λb=>
 if b=acc then some (.lst (cs.map λc=>V.ref c.1)) else match cellAt cs b with
  |some o=>some o
  |none=>if ∃(i:Nat) (x:Slot) (od:OD),Z[i]?=some x/\x.od=some od/\i ∉ sel /\ U[i]?=some (some (.ref b)) then H b else g.Xo b
theorem Zdc {g:Gm}{sel:List Nat}{U:St}{Z:Evt}{H:Hp}{acc:Addr}{cs:List (Addr × HO)}:asideN g sel U Z H acc cs acc=some (.lst (cs.map λc=>V.ref c.1)):=by unfold asideN;rw[if_pos rfl]
theorem Zcs {g:Gm}{sel:List Nat}{U:St}{Z:Evt}{H:Hp}{acc b:Addr}{o:HO}{cs:List (Addr × HO)}(hb:b≠acc) (e:cellAt cs b=some o):asideN g sel U Z H acc cs b=some o:=by unfold asideN;rw[if_neg hb,e]
theorem Zc9 {g:Gm}{sel:List Nat}{U:St}{Z:Evt}{H:Hp}{acc b:Addr}{cs:List (Addr × HO)}(hb:b≠acc) (e:cellAt cs b=none) (hx:∃(i:Nat) (x:Slot) (od:OD),Z[i]?=some x/\x.od=some od/\i ∉ sel /\ U[i]?=some (some (.ref b))):asideN g sel U Z H acc cs b=H b:=by
 unfold asideN;rw[if_neg hb,e];exact if_pos hx
theorem Zcq {g:Gm}{sel:List Nat}{U:St}{Z:Evt}{H:Hp}{acc b:Addr}{cs:List (Addr × HO)}(hb:b≠acc) (e:cellAt cs b=none) (hx:¬ ∃(i:Nat) (x:Slot) (od:OD),Z[i]?=some x/\x.od=some od/\i ∉ sel /\ U[i]?=some (some (.ref b))):asideN g sel U Z H acc cs b=g.Xo b:=by
 unfold asideN;rw[if_neg hb,e];exact if_neg hx
theorem Zu7 {n:Nat}{sel:List Nat}{wi:TI}{t:TG}{tc:TT}{te:TE}{P:List OD->Evt->Prop}(hsel:sel.Nodup)
  (h:JI K wi Z λds Z1=>ds.length<sizeLine/\∃I:Nat->List OD->Evt->Prop,I 0 [] (compD n sel Z1) /\
   (∀i d ys Z2,ds[i]?=some d->I i ys Z2->JGn K n t d Z2 λZ3=>JT K tc Z3 λb Z4=>if b=true then JO K te Z4 λe Z5=>I (i+1) (ys++[e]) Z5 else I (i+1) ys Z4) /\
   ∀ys Z2,I ds.length ys Z2->P ys (backD n sel Z2 0 Z1)):JN K (tComp n sel wi t tc te) Z P:=λg G H U Q k c=>
 h g G H U _ k λJ ds G1 H1 Z1 k1 s1 it ⟨hz,I,h0,ht,he⟩ acc hacc=>by
  have nacc:∀(i:Nat) x od,Z1[i]?=some x->x.od=some od -> U[i]?≠some (some (.ref acc)):=λi x od e1 e2 e3=>by
   obtain⟨a,o,w1,w2,_⟩:=k1.own i x od e1 e2;rw[e3]at w1;cases w1;rw[hacc]at w2;cases w2
  let Wd:Nat->St->Hp->Prop:=λi U' H'=>i<=ds.length/\(∀j,n<=j -> U'[j]?=(compSt n sel U)[j]?)/\∃G ys cs Zi,cs.length<=i/\(cs.map (·.1)).Nodup/\(∀c∈cs,c.1≠acc/\g.Hz c.1=none/\g.Xo c.1=none/\∀(i:Nat) x od,Z1[i]?=some x->x.od=some od->i ∉ sel -> U[i]?≠some (some (.ref c.1)))/\Paired (λ(c:Addr × HO) (od:OD)=>OwnRep K G c.2 od) cs ys /\
   Ok K ⟨g.B,G1,g.Hz,asideN g sel U Z1 H1 acc cs⟩ G H' U' Zi/\I i ys Zi
  refine⟨λi m U' H'=>m=ds.length-i/\Wd i U' H',⟨ds.length,by simp,Wbn _,λ_ _=>rfl,G1,[],[],compD n sel Z1,Wag _,Wdl,λc hc=>(nomatch hc),.nil,?_,h0⟩,?_⟩
  ·refine Zhx hsel k1 hacc λb o e=>?_
   have e:asideN g sel U Z1 H1 acc [] b=some o:=e;by_cases hb:b=acc
   ·subst hb;rw[Zdc]at e;cases e;exact .inl ⟨rfl,rfl⟩
   ·by_cases hx:∃(i:Nat) (x:Slot) (od:OD),Z1[i]?=some x/\x.od=some od/\i ∉ sel /\ U[i]?=some (some (.ref b))
    ·rw[Zc9 hb rfl hx]at e;exact .inr ⟨hb,.inl ⟨hx,e⟩⟩
    ·rw[Zcq hb rfl hx]at e;exact .inr ⟨hb,.inr e⟩
  ·rintro i m U2 H2 ⟨rfl,hi,hU,G2,ys,cs,Z2,hy,nd,hcs,ry,k2,h2⟩
   have s2:Same G1 G2:=k2.sub;obtain⟨stop,go⟩:=it G2 H2 s2 k2.live;by_cases hlt:i<ds.length
   ·obtain⟨g1,g2⟩:=go i _ (Waa hlt)
    refine .inr ⟨g1,λU' H'=>Wd (i+1) U' H',λU' H' p'=>⟨ds.length-(i+1),by omega,rfl,p'⟩,λx H3 y=>?_⟩;obtain⟨G3,a1,a2,a3,a4⟩:=g2 x H3 y;have k3:=k2.grow a1 a2 a3;have hG3:∀b o,G3 b=some o->(g.Hz b=none\/G1 b=some o):=λb o q=>(k3.frz b o q).2;have k3':Ok K ⟨g.B,G3,g.Hz,asideN g sel U Z1 H1 acc cs⟩ G3 H3 U2 Z2:=⟨k3.same,k3.lent,Same.refl _,λb o q=>⟨(k3.frz b o q).1,.inr q⟩,k3.ext,k3.len,k3.val,k3.own,k3.dis⟩;have ry3:Paired (λ(c:Addr × HO) (od:OD)=>OwnRep K G3 c.2 od) cs ys:=Paired.mapP ry λ_ _ z=>z.mono a1;have s13:Same G1 G3:=s2.trans a1;refine ht i _ ys Z2 (Waa hlt) h2 ⟨g.B,G3,g.Hz,asideN g sel U Z1 H1 acc cs⟩ G3 H3 U2 x _ k3' a4 λU4 G4 H4 Z4 k4 s4 e4 p4=>?_;have hU4:∀j,n<=j -> U4[j]?=(compSt n sel U)[j]?:=λj hj=>(e4 j hj).trans (hU j hj);refine p4 _ G4 H4 U4 _ k4 λb G5 H5 Z5 k5 s5 p5=>?_;cases b with
    |false=>exact⟨hlt,hU4,G5,ys,cs,Z5,by omega,nd,hcs,Paired.mapP ry3 λ_ _ z=>z.mono (s4.trans s5),k5.base s13 hG3,p5⟩
    |true=>
     refine(show JO K te Z5 _ from p5) _ G5 H5 U4 _ k5 λa od G6 H6 Z6 k6 s6 pd p6=>?_;have ry6:Paired (λ(c:Addr × HO) (od:OD)=>OwnRep K G6 c.2 od) cs ys:=Paired.mapP ry3 λ_ _ z=>z.mono<|s4.trans<|s5.trans s6;obtain⟨b1,b2,b3⟩:=k6.ext acc _ Zdc;obtain⟨oa,d1,d2,d3,d4,d5,d6⟩:=pd;have d5:asideN g sel U Z1 H1 acc cs a=none:=d5;have hane:a≠acc:=by intro z;subst z;rw[Zdc]at d5;cases d5
     have hac:cellAt cs a=none:=by
      cases q:cellAt cs a with
      |none=>rfl
      |some o=>rw[Zcs hane q]at d5;cases d5
     have hax:∀(i:Nat) x od,Z1[i]?=some x->x.od=some od->i ∉ sel -> U[i]?≠some (some (.ref a)):=λi x od e1 e2 e3 e4=>by
      rw[Zc9 hane hac ⟨i,x,od,e1,e2,e3,e4⟩]at d5;obtain⟨a',o',w1,w2,_⟩:=k1.own i x od e1 e2;rw[e4]at w1;cases w1;rw[d5]at w2;cases w2
     have hagx:g.Xo a=none:=by
      rw[Zcq hane hac (λ⟨i,x,od,e1,e2,e3,e4⟩=>hax i x od e1 e2 e3 e4)]at d5;exact d5
     have hnm:=Zen.mp hac;refine⟨cs.map λc=>V.ref c.1,b1,by rw[Wab];omega,hlt,hU4,G6,ys++[od],cs++[(a,oa)],Z6,by rw[Wai,Wbq];omega,?_,λc hc=>?_,Paired.snoc ry6 d2,?_,p6⟩
     ·rw[Was]
      refine Wcx.mpr ⟨nd,by simp,λx hx y hy=>?_⟩;rw[Weh,Wa4]at hy;subst hy;obtain⟨c,hc,rfl⟩:=Wa1.mp hx;exact hnm c hc
     ·rcases Wbh.mp hc with hc|hc
      ·exact hcs c hc
      ·rw[Wa4.mp hc];exact⟨hane,d4,hagx,hax⟩
     ·have k7:=k6.base s13 hG3
      have nd':((cs++[(a,oa)]).map (·.1)).Nodup:=by
       rw[Was];refine Wcx.mpr ⟨nd,by simp,λx hx y hy=>?_⟩;rw[Weh,Wa4]at hy;subst hy;obtain⟨c,hc,rfl⟩:=Wa1.mp hx;exact hnm c hc
      have er:(cs++[(a,oa)]).map (λc=>V.ref c.1)=(cs.map λc=>V.ref c.1)++[V.ref a]:=by simp
      have oldH:∀b o,b≠acc->H6 b=some o->(upd H6 acc (.lst ((cs.map λc=>V.ref c.1)++[V.ref a]))) b=some o:=λb o hb e=>by rw[Zak hb];exact e
      refine⟨λb o hb e=>?_,λb hb=>?_,k7.sub,λb o e=>?_,λb o e=>?_,k7.len,k7.val,λi x od e1 e2=>?_,k7.dis⟩
      ·have hne:b≠acc:=by
        intro z;subst z;have e:g.Hz b=some o:=e;rw[k1.there hacc]at e;cases e
       exact oldH b o hne<|k7.same b o hb e
      ·by_cases hne:b=acc
       ·subst hne;rw[Zao];intro z;cases z
       ·rw[Zak hne];exact k7.lent b hb
      ·have hne:b≠acc:=by intro z;subst z;rw[b2]at e;cases e
       exact⟨oldH b o hne (k7.frz b o e).1,(k7.frz b o e).2⟩
      ·have e:asideN g sel U Z1 H1 acc (cs++[(a,oa)]) b=some o:=e
       by_cases hne:b=acc
       ·subst hne
        rw[Zdc,er]at e;cases e;exact⟨Zao,b2,b3⟩
       ·by_cases hba:b=a
        ·subst hba
         rw[Zcs hne (Zh3 nd' (c:=(b,oa))<|Wa3 _<|Wa4.mpr rfl)]at e;cases e;exact⟨oldH b _ hne d1,d3,d6⟩
        ·have ec:cellAt (cs++[(a,oa)]) b=cellAt cs b:=by
          unfold cellAt;rw[List.find?_append];cases (cs.find? λc=>decide (c.1=b)) with
          |some c=>rfl
          |none=>
           rw[Wdj (by simpa using Ne.symm hba)];rfl
         have e':asideN g sel U Z1 H1 acc cs b=some o:=by
          cases q:cellAt cs b with
          |some o'=>rw[Zcs hne (ec.trans q)]at e;rw[Zcs hne q];exact e
          |none=>
           by_cases hx:∃(i:Nat) (x:Slot) (od:OD),Z1[i]?=some x/\x.od=some od/\i ∉ sel /\ U[i]?=some (some (.ref b))
           ·rw[Zc9 hne (ec.trans q) hx]at e;rw[Zc9 hne q hx];exact e
           ·rw[Zcq hne (ec.trans q) hx]at e;rw[Zcq hne q hx];exact e
         obtain⟨w1,w2,w3⟩:=k7.ext b o e';exact⟨oldH b o hne w1,w2,w3⟩
      ·obtain⟨a',o,w1,w2,w3,w4,w5⟩:=k7.own i x od e1 e2
       have hne:a'≠acc:=by intro z;subst z;exact b3 i x od e1 e2 w1
       exact⟨a',o,w1,oldH a' o hne w2,w3,w4,w5⟩
   ·have e:i=ds.length:=by omega
    subst e;refine .inl ⟨stop,?_⟩;obtain⟨b1,b2,b3⟩:=k2.ext acc _ Zdc;have src:=Zii (Z1:=Z1) (Z2:=Z2) hU;have k9:Ok K g G2 H2 U (backD n sel Z2 0 Z1):=Zgk k1 hacc k2 hU (λb o hb hx e=>by
      show asideN g sel U Z1 H1 acc cs b=_;rw[Zc9 hb (Zen.mpr λc hc z=>?_) hx]
      ·exact e
      ·obtain⟨i0,x0,od0,f1,f2,f3,f4⟩:=hx
       exact(hcs c hc).2.2.2 i0 x0 od0 f1 f2 f3 (by rw[z];exact f4)) (λb o hb hx e=>by
      show asideN g sel U Z1 H1 acc cs b=_;rw[Zcq hb (Zen.mpr λc hc z=>?_) hx]
      ·exact e
      ·have:=(hcs c hc).2.2.1;rw[z,e]at this;cases this)
    -- the outer list is frozen
    have nslot:∀(i:Nat) y od,(backD n sel Z2 0 Z1)[i]?=some y->y.od=some od -> U[i]?≠some (some (.ref acc)):=λi y od e1 e2=>by
     obtain⟨x',od1,f1,f2,_⟩:=src i y od e1 e2;exact nacc i x' od1 f1 f2
    have refs:∀{G:Hp}(l:List (Addr × HO)),Reps K G (l.map λc=>V.ref c.1) (l.map λc=>D.adr c.1):=λ{G} l=>by
     induction l with
     |nil=>exact .nil
     |cons c r ih=>exact .cons (.adr _) ih
    have gX:g.Xo acc=none:=by
     cases q:g.Xo acc with
     |none=>rfl
     |some u=>have z:=(k1.ext acc u q).1;rw[hacc]at z;cases z
    obtain⟨kf,sf,rf⟩:=k9.freeze (a:=acc) (ds:=cs.map λ(c:Addr × HO)=>D.adr c.1) (vs:=cs.map λ(c:Addr × HO)=>V.ref c.1) ⟨_,b1,(show Reps K G2 (cs.map λ(c:Addr × HO)=>V.ref c.1) (cs.map λ(c:Addr × HO)=>D.adr c.1) from refs cs),b2,k1.there hacc,gX,nslot⟩ b1;refine c acc cs ys _ H2 _ kf (s1.trans<|s2.trans sf) rf (k1.there hacc) ⟨nd,Paired.mapP ry λ_ _ z=>z.mono sf,λcc hc=>?_⟩<|he ys Z2 h2;obtain⟨f1,f2,f3,f4⟩:=hcs cc hc;obtain⟨u1,u2,u3⟩:=k2.ext cc.1 cc.2<|Zcs f1<|Zh3 nd hc;refine⟨u1,by rw[Zak f1];exact u2,f2,f3,λi y od e1 e2 e3=>?_⟩;obtain⟨x,od',w1,w2,w3⟩:=src i y od e1 e2;rcases w3 with ⟨w3,w4⟩|⟨j,w3,w4,w5⟩
    ·exact f4 i x od' w1 w2 w4 e3
    ·exact u3 (n+j) y od w4 e2 (by rw[w5,e3];rfl)
def putN:Nat->List (Addr × OD)->Evt->Evt
 |_,[],Z=>Z
 |b,c::r,Z=>putN (b+1) r (Z.set b (.ownA c.1 c.2))
def putS:Nat->List Addr->St->St
 |_,[],U=>U
 |b,a::r,U=>putS (b+1) r (U.set b (some (.ref a)))
theorem Zmm:∀(as:List Addr) (b:Nat) (U:St),(putS b as U).length = U.length
 |[],_,_=>rfl
 |a::r,b,U=>by rw[putS,Zmm r (b+1),Wcy]
theorem Zhz:∀(as:List Addr) (b:Nat) (U:St) (i:Nat),i<b->(putS b as U)[i]? = U[i]?
 |[],_,_,_,_=>rfl
 |a::r,b,U,i,h=>by rw[putS,Zhz r (b+1) _ i (by omega),Wa0 (by omega)]
theorem Ok.setOwnA {g:Gm}{G H:Hp}{U:St}(k:Ok K g G H U Z) {a:Addr}{od:OD}{i:Nat}(hi:i < Z.length) (p:Pend K g G H U Z a od):Ok K g G H (U.set i<|some (.ref a)) (Z.set i (.ownA a od)):=by
 have k1:=k.setOwn hi p;obtain⟨o,p1,p2,p3,p4,p5,p6⟩:=p;have hs:i < U.length:=by rw[<- k.len];exact hi
 have old:∀(j:Nat) x,j≠i->(Z.set i (.ownA a od))[j]?=some x->(Z.set i (.own od))[j]?=some x:=λj x hj e=>by
  rw[Wa0 (Ne.symm hj)]at e ⊢;exact e
 have cv:∀(j:Nat) x od',(Z.set i (.ownA a od))[j]?=some x->x.od=some od' -> ∃y,(Z.set i (.own od))[j]?=some y/\y.od=some od':=λj x od' e1 e2=>by
  by_cases hj:j=i
  ·subst hj
   rw[Wat hi]at e1;cases e1;cases e2;exact⟨.own od,Wat hi,rfl⟩
  ·exact⟨x,old j x hj e1,e2⟩
 refine⟨k1.same,k1.lent,k1.sub,k1.frz,λb u e=>?_,by simp[k.len],λj d e=>?_,λj x od' e1 e2=>?_,λj l x y od1 od2 c e1 e2 e3 e4 e5 e6=>?_⟩
 ·obtain⟨h1,h2,h3⟩:=k1.ext b u e
  refine⟨h1,h2,λj x od' e1 e2=>?_⟩;obtain⟨y,f1,f2⟩:=cv j x od' e1 e2;exact h3 j y od' f1 f2
 ·by_cases hj:j=i
  ·subst hj
   rw[Wat hi]at e;cases e
  ·exact k1.val j d<|old j _ hj e
 ·by_cases hj:j=i
  ·subst hj
   rw[Wat hi]at e1;cases e1;cases e2;exact⟨a,o,Wat hs,p1,p2,p3,rfl,p4⟩
  ·exact k1.own j x od' (old j x hj e1) e2
 ·obtain⟨x',f1,f2⟩:=cv j x od1 e1 e2
  obtain⟨y',f3,f4⟩:=cv l y od2 e3 e4;exact k1.dis j l x' y' od1 od2 c f1 f2 f3 f4 e5 e6
theorem Ok.putN {g:Gm}{G H:Hp}:∀(cs:List (Addr × HO)) (ods:List OD) (b:Nat) (U:St) (Z:Evt),Ok K g G H U Z -> b+ods.length <= Z.length->Nest K g G H U Z cs ods ->
  Ok K g G H (putS b (cs.map (·.1)) U) (L2.putN b ((cs.map (·.1)).zip ods) Z)
 |[],[],_,_,_,k,_,_=>k
 |[],_::_,_,_,_,_,_,n=>by cases n.2.1
 |_::_,[],_,_,_,_,_,n=>by cases n.2.1
 |c::cs,od::ods,b,U,Z,k,hl,⟨nd,pr,al⟩=>by
  cases pr with
  |cons r t=>
   obtain⟨h1,h2,h3,h4,h5⟩:=al c Wa7;rw[Wbe,Wbu]at nd;have hb:b < Z.length:=by rw[Waj]at hl;omega
   have k1:=k.setOwnA hb ⟨c.2,h1,r,h2,h3,h4,h5⟩;refine Ok.putN cs ods (b+1) _ _ k1 (by rw[Wcy];rw[Waj]at hl;omega) ⟨nd.2,t,λd hd=>?_⟩;obtain⟨f1,f2,f3,f4,f5⟩:=al d<|Waw _ hd;have hne:d.1≠c.1:=λe=>nd.1 (by rw[<- e];exact Wa1.mpr ⟨d,hd,rfl⟩);refine⟨f1,f2,f3,f4,λj x od' e1 e2=>?_⟩;by_cases hj:j=b
   ·subst hj
    rw[Wat (by rw[<- k.len];exact hb)];intro z;have:c.1=d.1:=by
     have z1:=Wbs.inj<|Wbs.inj z;injection z1
    exact hne this.symm
   ·rw[Wa0 (Ne.symm hj)]at e1 ⊢
    exact f5 j x od' e1 e2
theorem Zqe:∀(l:List (Addr × OD)) (R T:Evt) (m:Nat),l.length<=m->L2.putN R.length l (R++Wak m Slot.any++T)=R++l.map (λc=>Slot.ownA c.1 c.2)++Wak (m-l.length) Slot.any++T
 |[],R,T,m,_=>by simp[L2.putN]
 |c::r,R,T,m,h=>by
  obtain⟨m',rfl⟩:∃m',m=m'+1:=⟨m-1,by rw[Waj]at h;omega⟩;have e:(R++Wak (m'+1) Slot.any++T).set R.length (.ownA c.1 c.2)=(R++[.ownA c.1 c.2])++Wak m' Slot.any++T:=by
   rw[Wdt];simp[List.set_append_right]
  rw[L2.putN,e];have:=Zqe r (R++[.ownA c.1 c.2]) T m' (by rw[Waj]at h;omega);rw[Wai,Wbq]at this;rw[this];simp
theorem Zu4 {te:TE}{i base:Nat}{nx bk ct:Evt->Prop}{rt:D->Evt->Prop}{ro:OD->Evt->Prop}
  (h:JN K te Z λods Z1=>i<base/\base+ods.length <= Z1.length/\∀as:List Addr,as.length=ods.length->as.Nodup->nx (L2.putN base (as.zip ods) (Z1.set i (.val (.lst<|as.map D.adr))))) :
  JS K (tGhost base<|tAsg te<|gName i) Z ⟨nx,rt,bk,ct,ro⟩:=λg G H U E k c=>
 h g G H U _ k λacc cs ods G1 H1 Z1 k1 s1 rr _ nn hq_=>by
  obtain⟨hi,hb,p⟩:=hq_;have hl:cs.length=ods.length:=Paired.length nn.2.1;have e0:(cs.map λc=>D.adr c.1)=(cs.map (·.1)).map D.adr:=by rw[Wa6];rfl
  have k2:=k1.setVal' i rr;have n2:Nest K g G1 H1 (U.set i<|some (.ref acc)) (Z1.set i (.val (.lst (cs.map λc=>D.adr c.1)))) cs ods:=by
   obtain⟨nd,pr,al⟩:=nn;refine⟨nd,pr,λd hd=>?_⟩;obtain⟨f1,f2,f3,f4,f5⟩:=al d hd;refine⟨f1,f2,f3,f4,λj x od' e1 e2=>?_⟩;by_cases hj:j=i
   ·subst hj
    by_cases hlt:j < Z1.length
    ·rw[Wat hlt]at e1;cases e1;cases e2
    ·rw[Wbt (by rw[Wcy];omega)]at e1;cases e1
   ·rw[Wa0 (Ne.symm hj)]at e1 ⊢
    exact f5 j x od' e1 e2
  have k3:=Ok.putN cs ods base _ _ k2 (by rw[Wcy];exact hb) n2;refine⟨putS base (cs.map (·.1)) (U.set i<|some (.ref acc)),Zmm _ _ _,λj hj=>Zhz _ _ _ j hj,?_⟩;rw[e0]at k3;exact c.nx _ G1 H1 _ k3<|p (cs.map (·.1)) (by rw[Wab,hl]) nn.1
theorem Zok {n j:Nat}{a:Addr}{ds:List D}{P:D->Evt->Prop}(hx:Z[n]?=some (.val (.adr a))) (hj:Z[j]?=some (.ownA a (.lst ds))) (p:P (.int ds.length) Z):JE K (tCB (rLenU K)<|tCons (tVar n) tNil) Z P:=λg G H U Q k c=>by
 obtain⟨v,h1,h2⟩:=k.val n _ hx;cases h2;obtain⟨a',o,w1,w2,w3,w4,w5⟩:=k.own j _ _ hj rfl;obtain⟨rfl,_⟩:=w5;cases o with
 |lst vs=>
  have w3:Reps K G vs ds:=w3;refine⟨_,h1,.inl ⟨_,vs,rfl,.inl<|SqL.of w2,?_⟩⟩;rw[w3.length];exact c _ _ G H Z k (Same.refl _) (.int _) p
 |_=>exact absurd w3 (λz=>z)
theorem Zv9 {n:Nat}{t1 t2:TE}{a:Addr}{j0:Nat}{ds0:List D}{nx bk ct:Evt->Prop}{rt:D->Evt->Prop}{ro:OD->Evt->Prop}(hx:Z[n]?=some (.val (.adr a))) (hj0:Z[j0]?=some (.ownA a (.lst ds0)))
  (h:JE K t1 Z λe1 Z1=>JE K t2 Z1 λe2 Z2=>∃j i ds,e1=.int i /\ Z2[j]?=some (.ownA a (.lst ds))/\ds.length<sizeLine /\ -(2 ^ 62)<=i/\i<2 ^ 62/\nx (Z2.set j (.ownA a (.lst (ds.take (insI ds.length i)++e2::ds.drop (insI ds.length i)))))) :
  JS K (tDrop<|tBM K "list" rInsert (tVar n)<|tCons t1<|tCons t2 tNil) Z ⟨nx,rt,bk,ct,ro⟩:=λg G H U E k c=>by
 obtain⟨v,h1,h2⟩:=k.val n _ hx;cases h2;obtain⟨a',o,w1,w2,w3,w4,w5⟩:=k.own j0 _ _ hj0 rfl;obtain⟨rfl,_⟩:=w5;cases o with
 |lst vs0=>
  refine⟨_,h1,.inl ⟨rfl,_,SqL.of w2⟩,h g G H U _ k λv1 e1 G1 H1 Z1 k1 s1 r1 p1=>p1 g G1 H1 U _ k1 λv2 e2 G2 H2 Z2 k2 s2 r2 ⟨j,i,ds,q1,q2,q3,q4,q5,p⟩=>?_⟩;subst q1;cases r1.inv;obtain⟨a2,o2,u1,u2,u3,u4,u5⟩:=k2.own j _ _ q2 rfl;obtain⟨rfl,_⟩:=u5;cases o2 with
  |lst vs=>
   have u3:Reps K G2 vs ds:=u3;refine⟨_,vs,i,v2,rfl,rfl,u2,by rw[u3.length];exact q3,q4,q5,?_⟩;have k3:=k2.write q2 rfl u1 (show OwnRep K G2 (.lst (vs.take (insI vs.length i)++v2::vs.drop (insI vs.length i))) (.lst (ds.take (insI ds.length i)++e2::ds.drop (insI ds.length i))) from by
    rw[u3.length];exact(u3.take _).append (.cons r2 (u3.drop _)))
   exact c.nx U G2 _ _ k3 p
  |_=>exact absurd u3 (λz=>z)
 |_=>exact absurd w3 (λz=>z)
theorem JS.conv {t:TS}{Z':Evt}{P:Pst}(hc:∀g G H U,Ok K g G H U Z -> ∃G',Same G G' /\ Ok K g G' H U Z') (h:JS K t Z' P):JS K t Z P:=λg G H U E k c=>by
 obtain⟨G',s,k'⟩:=hc g G H U k;exact h g G' H U E k' c
theorem Ok.freezeA {g:Gm}{G H:Hp}{U:St}(k:Ok K g G H U Z) {i:Nat}{a:Addr}{ds:List D}(h:Z[i]?=some (.ownA a (.lst ds))):∃G',Same G G' /\ Ok K g G' H U (Z.set i .any)/\Rep K G' (.ref a) (.lst ds):=by
 obtain⟨a',o,w1,w2,w3,w4,w5⟩:=k.own i _ _ h rfl;obtain⟨rfl,w6⟩:=w5;cases o with
 |lst vs=>
  have pd:Pend K g G H U (Z.set i .any) a (.lst ds):=by
   refine⟨.lst vs,w2,w3,w4,w6,?_,λj x od' e1 e2 e3=>?_⟩
   ·cases q:g.Xo a with
    |none=>rfl
    |some u=>exact absurd w1 ((k.ext a u q).2.2 i _ _ h rfl)
   ·by_cases hj:j=i
    ·subst hj
     rw[Wen]at e1;simp at e1;obtain⟨_,e1⟩:=e1;subst e1;cases e2
    ·rw[Wa0 (Ne.symm hj)]at e1
     exact hj<|k.dis j i x _ od' _ a e1 e2 h rfl e3 w1
  obtain⟨k2,sg,r⟩:=(k.drop i).freeze pd w2;exact⟨_,sg,k2,r⟩
 |_=>exact absurd w3 (λz=>z)
theorem Ok.freezeN {g:Gm}{H:Hp}{U:St}:∀(cs:List (Addr × List D)) (R T:Evt) (G:Hp),Ok K g G H U (R++cs.map (λc=>Slot.ownA c.1 (.lst c.2))++T) ->
  ∃G',Same G G' /\ Ok K g G' H U (R++Wak cs.length .any++T)/\∀c∈cs,Rep K G' (.ref c.1) (.lst c.2)
 |[],R,T,G,k=>⟨G,Same.refl _,by simpa using k,λc hc=>nomatch hc⟩
 |c::r,R,T,G,k=>by
  have hi:(R++(c::r).map (λc=>Slot.ownA c.1 (.lst c.2))++T)[R.length]?=some (.ownA c.1 (.lst c.2)):=by simp
  obtain⟨G1,s1,k1,r1⟩:=k.freezeA hi;have e:(R++(c::r).map (λc=>Slot.ownA c.1 (.lst c.2))++T).set R.length .any=(R++[.any])++r.map (λc=>Slot.ownA c.1 (.lst c.2))++T:=by
   simp[List.set_append_right]
  rw[e]at k1;obtain⟨G2,s2,k2,r2⟩:=Ok.freezeN r (R++[.any]) T G1 k1;refine⟨G2,s1.trans s2,?_,λd hd=>?_⟩
  ·have e2:(R++[Slot.any])++Wak r.length Slot.any++T=R++Wak (c::r).length Slot.any++T:=by
    rw[Waj,Wdt];simp
   rw[e2]at k2;exact k2
  ·rcases Wan.mp hd with e|hd
   ·subst e;exact r1.mono s2
   ·exact r2 d hd
theorem Ok.thaw {g:Gm}{G H:Hp}{U:St}{cs:List (Addr × List D)}{R T:Evt}{i:Nat}(k:Ok K g G H U (R++cs.map (λc=>Slot.ownA c.1 (.lst c.2))++T)) (hi:R[i]?=some (.val (.lst (cs.map λc=>D.adr c.1)))) :
  ∃G',Same G G' /\ Ok K g G' H U (R.set i (.val (.lst (cs.map λc=>D.lst c.2)))++Wak cs.length .any++T):=by
 have hlt:i<R.length:=(Waf.mp hi).1;obtain⟨v,h1,h2⟩:=k.val i _ (by rw[Wcz,Wbd hlt];exact hi);obtain⟨G1,s1,k1,r1⟩:=Ok.freezeN cs R T G k;refine⟨G1,s1,?_⟩;have rr:Rep K G1 v (.lst (cs.map λc=>D.lst c.2)):=by
  cases h2 with
  |lst ha rs=>
   refine .lst (s1 _ _ ha) ?_;have key:∀(l:List (Addr × List D)) (vs:List V),(∀c∈l,Rep K G1 (.ref c.1) (.lst c.2))->Reps K G vs (l.map λc=>D.adr c.1)->Reps K G1 vs (l.map λc=>D.lst c.2):=by
    intro l
    induction l with
    |nil=>intro vs _ h;cases h;exact .nil
    |cons c r ih=>
     intro vs hc h;cases h with
     |cons h1 h2=>
      cases h1;exact .cons (hc c Wa7)<|ih _ (λd hd=>hc d<|Waw _ hd) h2
   exact key cs _ r1 rs
 have k2:=k1.setVal' i rr;have e1:U.set i (some v) = U:=by
  apply Wca;intro j;by_cases hj:j=i
  ·subst hj;rw[Wat (by obtain⟨z,_⟩:=Waf.mp h1;exact z),h1]
  ·rw[Wa0 (Ne.symm hj)]
 rw[e1]at k2;have e2:(R++Wak cs.length Slot.any++T).set i (.val (.lst (cs.map λc=>D.lst c.2)))=R.set i (.val (.lst (cs.map λc=>D.lst c.2)))++Wak cs.length Slot.any++T:=by
  rw[Wcz,Wcz,List.set_append_left _ _ hlt]
 rw[e2]at k2;exact k2
end
section
variable {X:Cx}(K:W.Frag)
theorem ixK (hu:X.A.units+1<cLine) (hK:X.K=K:=by rfl):IxR X (rIxU K):=hK ▸ ixU hu
theorem slK (hK:X.K=K:=by rfl):SlR X (rSlU K):=hK ▸ slU
theorem slRK {e:Expr}{te:TE}{pos p2 p3 p4:Pos}{k:Nat}(he:PE X e te) (hK:X.K=K:=by rfl):PE X (.Subscript e (.Slice none none (some (.UnaryOp .USub (.Constant (.int 1) k p4) p3)) p2) pos) (tSlR K te):=hK ▸ Zqz he
theorem addK (hK:X.K=K:=by rfl):OpR X (binaryOp .Add) (rAddU K):=hK ▸ Zwh
theorem lenK (hK:X.K=K:=by rfl):CallR X (.builtin "len") (rLenU K):=hK ▸ Zrj
def rTup (K:W.Frag):List V->Hp->VK->Prop:=λxs H Q=>∃p ys,xs=[.ref p]/\((SqL K H p ys/\∀l,H l=none->Q (.ref l) (upd H l (.tup ys)))\/(SqT K H p ys/\Q (.ref p) H))
theorem tupK (hK:X.K=K:=by rfl):CallR X (.type "tuple") (rTup K):=hK ▸ Zio
def rLst (K:W.Frag):List V->Hp->VK->Prop:=λxs H Q=>∃p ys,xs=[.ref p]/\(SqL K H p ys\/SqT K H p ys)/\∀l,H l=none->Q (.ref l) (upd H l (.lst ys))
theorem lstK (hK:X.K=K:=by rfl):CallR X (.type "list") (rLst K):=hK ▸ Zkk
theorem idxK (hK:X.K=K:=by rfl):MtM X "tuple.index" (rIndexT K):=hK ▸ Zhc
theorem seqK {tg l:Expr}{tl:TE}(hl:PE X l tl) (hK:X.K=K:=by rfl):PI X tg l (iSeq K tl):=hK ▸ Zy4 hl
theorem truK {a:Expr}{ta:TE}(ha:PE X a ta) (he:∀whole,isTrue a X.env whole=(do let v <- whole;standAt a.pos;holding [v] (truthy v))) (hK:X.K=K:=by rfl):PT X a (tTru K ta):=hK ▸ Zye ha he
theorem gtupK {es:List Expr}{k:Nat}{t:TGs}{n:Nat}{pos:Pos}(hc:X.calm=true) (h:PGs X es t)
  (hn:(assignEach es X.env).length=n:=by rfl) (hst:(assignEach es X.env).findIdx? (·.1)=none:=by rfl) (hK:X.K=K:=by rfl):PG X (.Tuple es k pos) (gTup K n t):=hK ▸ Zyj hc h hn hst
variable {o e:Expr}{es:List Expr}{to:TE}{t:TA}{name:Str}{apos cpos:Pos}{T id:String}{r:V->List V->Hp->VK->Prop}
theorem bmK (pa:PlainAttrs T) (slot:PySem.Slot T name id) (hty:typeOf (.builtin id)=pure (.type "method_descriptor")) (hm:MtR X id r) (ho:PE X o to) (ha:PA X (e::es) t)
  (hbase:attributeBase o name X.env (eval o X.env)=eval o X.env:=by rfl)
  (hfew:((backTo cpos (starEach (e::es) X.env)).all (λx=>!x.1) && (backToKw cpos (keywordEach [] X.env)).all (λx=>x.1.isSome)
   && decide ((e::es).length+([]:List Keyword).length+(if ([]:List Keyword).isEmpty then 0 else 1)<30))=true:=by rfl)
  (hline:(apos.endLine == cpos.line)=true:=by rfl) (hs:starEach (e::es) X.env=(false,eval e X.env)::starEach es X.env:=by rfl) (hplain:(backTo cpos<|starEach es X.env).any (·.1)=false:=by rfl) (hK:X.K=K:=by rfl) :
  PE X (.Call (.Attribute o name apos) (e::es) [] cpos) (tBM K T r to t):=hK ▸ Zzu pa slot hty hm ho ha hbase hfew hline hs hplain
end
section
variable {K:W.Frag}{Z:Evt}{P:D->Evt->Prop}
theorem Zcx {ds es:List D}(he:ds=[.lst es]\/ds=[.tup es]) (p:P (.tup es) Z):JC K (rTup K) ds Z P:=Zr2 he p
theorem Zuw {ds es:List D}(he:ds=[.lst es]\/ds=[.tup es]) (p:P (.lst es) Z):JC K (rLst K) ds Z P:=λg G H U Q vs k rs c=>by
 rcases he with he|he <;> subst he
 ·obtain⟨_,_,rfl,r,t⟩:=rs.inv
  next=>
   cases t.inv;obtain⟨_,_,rfl,ha,rs⟩:=r.inv
   next=>
    refine⟨_,_,rfl,.inl<|SqL.of<|k.live _ _ ha,λl hl=>?_⟩;obtain⟨k2,sg⟩:=k.laid hl (.lst _);exact c _ _ _ _ Z k2 sg (.lst Zao<|rs.mono sg) p
 ·obtain⟨_,_,rfl,r,t⟩:=rs.inv
  next=>
   cases t.inv;obtain⟨_,_,rfl,ha,rs⟩:=r.inv
   next=>
    refine⟨_,_,rfl,.inr<|SqT.of<|k.live _ _ ha,λl hl=>?_⟩;obtain⟨k2,sg⟩:=k.laid hl (.lst _);exact c _ _ _ _ Z k2 sg (.lst Zao<|rs.mono sg) p
theorem Zsq {sel:List Nat}{wi:TI}{tc:TT}{te:TE}{Po:List OD->Evt->Prop}(hsel:sel.Nodup)
  (h:JI K wi Z λds Z1=>ds.length<sizeLine/\∃(p:D->Bool) (f:D->OD),
   (∀(i:Nat) d,ds[i]?=some d->JT K tc (.val d::fixD sel Z1) λb Z4=>b=p d/\if b=true then JO K te Z4 λe Z5=>e=f d/\∃x,Z5=x::fixD sel Z1 else ∃x,Z4=x::fixD sel Z1) /\
   Po ((ds.filter p).map f) Z1):JN K (tComp 1 sel wi (gName 0) tc te) Z Po:=by
 refine Zu7 hsel λg G H U R k c=>h g G H U R k λJ ds G' H' Z' k' s' it ⟨z,p,f,ht,he⟩=>c J ds G' H' Z' k' s' it ⟨z,λi ys Z=>ys=((ds.take i).filter p).map f/\∃x,Z = x::fixD sel Z',⟨by simp,.any,rfl⟩,?_,?_⟩
 ·rintro i d ys Z2 hd ⟨rfl,x,rfl⟩
  have tk:ds.take (i+1)=ds.take i++[d]:=by
   rw[Wb5,hd];rfl
  refine Zc3 (by decide) ?_;intro g G H U Q k c;refine ht i d hd g G H U Q k λb G1 H1 Z1 k1 s1 ⟨e1,q⟩=>c b G1 H1 Z1 k1 s1 ?_;cases b with
  |true=>
   rw[if_pos rfl]at q ⊢;intro g G H U Q k c;refine q g G H U Q k λa od G2 H2 Z2 k2 s2 pd ⟨e2,x,e3⟩=>c a od G2 H2 Z2 k2 s2 pd ⟨?_,x,e3⟩;rw[tk,Wbg,Was,Wa9,<- e1,e2];rfl
  |false=>
   rw[if_neg Wal]at q ⊢;obtain⟨x,e3⟩:=q;refine⟨?_,x,e3⟩;rw[tk,Wbg,Was,Wa9,<- e1];simp
 ·rintro ys Z2 ⟨rfl,x,rfl⟩
  rw[Wba,show (x::fixD sel Z')=[x]++fixD sel Z' from rfl,Zc7 (by simp)];exact he
end
section
variable {K:W.Frag}{Z:Evt}
abbrev OSp:=List D->(OD->Prop)->Prop
def spO (K:W.Frag) (f:OSp):Sp:=λvs H Q _=>∃F ds Post,Same F H/\Reps K F vs ds/\f ds Post /\
 ∀a H' o od,Same H H' -> H a=none->H' a=some o->OwnRep K (λb=>if b=a then none else glue F H H' b) o od->Post od->Q (.ref a) H'
theorem Zsw {f:OSp}{ta:TA}{E:XK}{Po:OD->Evt->Prop}(h:JA K ta Z λds Z1=>f ds λod=>Po od Z1):JO K (tCall (spO K f) [] E ta) Z Po:=λg G H U Q k c=>
 h g G H U _ k λvs ds G1 H1 Z1 k1 s1 r1 p1=>by
  show spO K f (vs++[]) H1 Q E;rw[Wbi];refine⟨G1,ds,_,k1.live,r1,p1,λa H' o od sh ha hn rr pd=>?_⟩;have sg:Same G1 (λb=>if b=a then none else glue G1 H1 H' b):=λb o e=>by
   have hb:b≠a:=by intro z;subst z;rw[k1.live _ _ e]at ha;cases ha
   show (if b=a then none else glue G1 H1 H' b)=some o;rw[if_neg hb];exact Zf3 k1.live b o e
  have k2:Ok K g (λb=>if b=a then none else glue G1 H1 H' b) H' U Z1:=k1.grow sg sh λb o e=>by
   have e:(if b=a then none else glue G1 H1 H' b)=some o:=e;by_cases hb:b=a
   ·rw[if_pos hb]at e;cases e
   ·rw[if_neg hb]at e;exact Ziq k1.live (λb o _ e=>sh b o e) b o e
  refine c a _ _ H' Z1 k2 (s1.trans sg) ⟨o,hn,rr,by simp,k1.there ha,?_,λj x od' e1 e2 e3=>?_⟩ pd
  ·cases q:g.Xo a with
   |none=>rfl
   |some u=>have z:=(k1.ext a u q).1;rw[ha]at z;cases z
  ·obtain⟨b,oo,w1,w2,_⟩:=k1.own j x od' e1 e2
   rw[e3]at w1;cases w1;rw[ha]at w2;cases w2
theorem Zzv {f:OSp}{t:TS}{N:List Str}{vs:List V}{H:Hp}{Q:VK}{E:XK}(ht:∀ds Post,f ds Post->ds.length<=N.length/\JS K t (startD N ds) ⟨λ_=>False,λ_ _=>False,λ_=>False,λ_=>False,λod _=>Post od⟩) (h:spO K f vs H Q E) :
  t { nx:=λ_ H'=>Q .non H',rt:=Q } (start N vs) H:=by
 obtain⟨F,ds,Post,l,rs,hf,q⟩:=h;obtain⟨hl,hj⟩:=ht ds Post hf;refine hj ⟨λ_=>False,F,H,λ_=>none⟩ F H (start N vs) _ (Zf1 rs hl (λ_ _ _ e=>e) (λ_ z=>z.elim) (Same.refl _) (λb o e=>⟨l b o e,.inr e⟩) λ_=>rfl) ⟨λ_ _ _ _ _ z=>z.elim,λ_ _ _ _ _ _ _ _ z=>z.elim,λ_ _ _ _ _ z=>z.elim,λ_ _ _ _ _ z=>z.elim,λa od U G H' Z k pd p=>?_⟩;obtain⟨o,h1,h2,h3,h4,h5,h6⟩:=pd;refine q a H' o od (λb o e=>k.same b o (λz=>z) e) h4 h1 (h2.mono λb o e=>?_) p;have hb:b≠a:=by intro z;subst z;rw[h3]at e;cases e
 show (if b=a then none else glue F H H' b)=some o;rw[if_neg hb];obtain⟨e1,e2⟩:=k.frz b o e;rcases e2 with z|z
 ·rw[Ze8 z];exact e1
 ·rw[Zdq (l b o z)];exact z
theorem Zvk {f:OSp}{n:Nat}(h:∀ds Post,f ds Post->ds.length=n):∀vs H Q E,spO K f vs H Q E->vs.length=n:=λvs H Q E hq_=>by obtain⟨F,ds,Post,l,rs,hf,q⟩:=hq_;rw[rs.length];exact h ds Post hf
end
def fLaw:DSp:=λds Post=>∃ns:List Int,ds=[.scr (ns.map .int)]/\ns.length<=63/\Post (.bl true)
def spLaw (K:W.Frag):Sp:=λvs H Q _=>∃(a:Addr) (ns:List Int),vs=[.ref a]/\SqL K H a (ns.map V.int)/\ns.length<=63/\∀H',Q (.bl true) H'
theorem Zs3 {K:W.Frag}{vs:List V}{H:Hp}{Q:VK}{E:XK}(h:spLaw K vs H Q E):spD K fLaw vs H Q E:=by
 obtain⟨a,ns,rfl,hs,hl,q⟩:=h;refine⟨H,[.scr (ns.map .int)],λd=>d=.bl true,Same.refl _,.cons (.scr hs<|Reps.ofInts ns) .nil,⟨ns,rfl,hl,rfl⟩,λr H' d sh rr e=>?_⟩;subst e;cases rr.inv;exact q H'
theorem walk_law {l:PySem.W.OpenLaw}{q:Program}{loose:List Str}{XP:(Str->Option Value)->Heap->Prop}{YP:World->Heap->Prop}{d:DefRec}{K:Params->W.Frag}{k:Nat}{x:Str}(hk:Room k callerA) (hn:l.most=some 63) (hdf:d.params.defaults=[])
  (hY:∀(w:World) (h:Heap),YP w h->(K w.params).In h)
  (F:∀(w:World) (mg:Str->Option Value) (fa:Addr) (h:Heap),(K w.params).In h->h.Ns mainGlobals mg->mg d.name=some (.ref fa) ->
   ∃fd:FuncData,(∀(s:Shared) (u:Value),BindsTo s fd ⟨[u],[]⟩ [(x,u)])/\∀base:Heap,(K w.params).In base->base.Ns mainGlobals mg->FnOk l.prog w (K w.params) mg base CX0 k fa fd [x] (spD (K w.params) fLaw)) :
  PySem.W.WalkO q loose XP YP l.row.toRowW d [] (λf vs=>PySem.call f vs):=
 L2.walk_of (n:=63) (k:=k) (x:=x) (CX:=λ_=>CX0) (sp:=λw=>spLaw<|K w.params) hn (by decide) hdf hk hY
  (λw mg fa h h1 h2 h3=>by
   obtain⟨fd,b,f⟩:=F w mg fa h h1 h2 h3;exact⟨fd,b,λbase kb nb=>(f base kb nb).imp λvs H Q E z=>Zs3 z⟩)
  (λ_ _ a ns hl _ hS=>⟨a,ns,rfl,hS,hl,λ_=>rfl⟩) λ_ _ _ _ _ z=>z
def SqB (b:Bool) (K:W.Frag) (H:Hp) (a:Addr) (xs:List V):Prop:=match b with|true=>SqT K H a xs|false=>SqL K H a xs
def ItB (b:Bool) (h:Heap) (j a:Addr) (i:Nat):Prop:=match b with|true=>h.IsTupleIter j a i|false=>h.IsListIter j a i
def HsB (b:Bool) (h:Heap) (a:Addr) (ws:Array Value):Prop:=match b with|true=>h.IsTuple a ws|false=>h.IsList a ws
theorem ItB.at {b:Bool}{h h':Heap}{j a:Addr}{i:Nat}(x:ItB b h j a i) (e:∀o,h.get? j=some o->h'.get? j=some o):ItB b h' j a i:=by
 cases b
 ·exact Heap.IsListIter.at (show h.IsListIter j a i from x) e
 ·exact Heap.IsTupleIter.at (show h.IsTupleIter j a i from x) e
theorem ItB.off {b:Bool}{h h':Heap}{j a c:Addr}{i:Nat}(x:ItB b h j a i) (e:Heap.ExtBut c h h') (n:j≠c):ItB b h' j a i:=x.at λo q=>e j o n q
theorem ItB.obj {b:Bool}{h:Heap}{j a:Addr}{i:Nat}(x:ItB b h j a i):∃o,h.get? j=some o/\o.data=.fields #[.ref a,.int i 0]:=by
 cases b <;> (obtain⟨o,e,_,d⟩:=x;exact⟨o,e,d⟩)
theorem HsB.off {b:Bool}{h h':Heap}{a c:Addr}{ws:Array Value}(x:HsB b h a ws) (e:Heap.ExtBut c h h') (n:a≠c):HsB b h' a ws:=by
 cases b <;> (obtain⟨o,q,r⟩:=x;exact⟨o,e a o n q,r⟩)
theorem HsB.lt {b:Bool}{h:Heap}{a:Addr}{ws:Array Value}(x:HsB b h a ws):a<h.objs.size:=by
 cases b <;> (obtain⟨o,q,r⟩:=x;exact Wap q)
theorem Inv.seqB {X:Cx}{pins:List (Addr × Obj)}{U:St}{H:Hp}{s:Shared}{b:Bool}{a:Addr}{xs:List V}(I:Inv X pins U H s) (h:SqB b X.K H a xs):∃its:List Value,Vals xs its/\HsB b s.heap a its.toArray:=by
 cases b
 ·obtain⟨its,r,p,_⟩:=I.list h
  exact⟨its,r,p.isList⟩
 ·obtain⟨its,r,p,_⟩:=I.tuple h
  exact⟨its,r,p⟩
theorem Inv.seqB_inj {X:Cx}{pins:List (Addr × Obj)}{U:St}{H:Hp}{s:Shared}{b:Bool}{a:Addr}{xs ys:List V}(I:Inv X pins U H s) (h:SqB b X.K H a xs) (h':SqB b X.K H a ys):xs=ys:=by
 cases b
 ·exact I.list_inj h h'
 ·exact I.tuple_inj h h'
section
variable {prog:Program}{w:World}{A:Around}{E:Value->Shared->Prop}{s:Shared}
theorem Zie {b:Bool}{j a:Addr}{i:Nat}{ws:Array Value}{x:Value}{Q:Value->Shared->Prop}(g:ItB b s.heap j a i) (l:HsB b s.heap a ws) (e:ws[i]?=some x)
  (q:∀h',ItB b h' j a (i+1)->Heap.SameBut j s.heap h' -> Q x { s with heap:=h' }):wpAny (model prog w) A (Builtin.SmallTypes.nextOf (.ref j)) Q E s:=by
 cases b
 ·exact wpAny_nextOf_list_item g l e q
 ·obtain⟨o,g1,g2,g3⟩:=id g
  obtain⟨u,l1,_,n,l2⟩:=l;have ty:s.TypeIs (.ref j) "tuple_iterator":=⟨o,g1,g2⟩;unfold Builtin.SmallTypes.nextOf;refine wpAny_bind<|wpAny_callSpecial?_slot (name:=Str.ofString "__next__") ty F.slot_tuple_iterator_next<|wpAny_call_entry F.slot_tuple_iterator_next ty F.entry_tuple_iterator_next ?_<|F.args_tuple_iterator_next_1 _;refine(show wpAny _ _ (field (.ref j) 0 >>= _) _ _ s from wpAny_bind (wpAny_field g1 g3 (x:=.ref a) rfl ?_));refine(show wpAny _ _ (if (Value.ref a == Value.none)=true then _ else _) _ _ s from ?_);rw[if_neg (by exact Wal)];refine(show wpAny _ _ (field (.ref j) 1 >>= _) _ _ s from wpAny_bind (wpAny_field g1 g3 (x:=.int i 0) rfl ?_));refine(show wpAny _ _ (seqItems? (.ref a) >>= _) _ _ s from wpAny_bind (wpAny_seqItems l1 l2 ?_));simp only[Wam,e];refine wpAny_bind<|wpAny_setField g1 g3 (by simp)<|wpAny_pure ⟨x,rfl,wpAny_pure<|q _ ⟨_,Wce _ g1<|Obj.isFreed_of_fields<|Obj.data_mapFields g3 _,(Obj.cls_mapFields ..).trans g2,?_⟩<|Heap.SameBut.update ..⟩;rw[Obj.data_mapFields g3];simp[rawInt]
theorem Zoj {b:Bool}{j a:Addr}{i:Nat}{ws:Array Value}{Q:Value->Shared->Prop}(hh:A.handled=none) (g:ItB b s.heap j a i) (l:HsB b s.heap a ws) (e:ws[i]?=none)
  (q:∀h' x,Heap.ExtBut j s.heap h' -> (∃o,h'.get? x=some o/\o.cls=.type "StopIteration")->E (.ref x) { s with heap:=h' }):wpAny (model prog w) A (Builtin.SmallTypes.nextOf (.ref j)) Q E s:=by
 cases b
 ·exact wpAny_nextOf_list_end hh g l e q
 ·obtain⟨o,g1,g2,g3⟩:=id g
  obtain⟨u,l1,_,n,l2⟩:=l;have ty:s.TypeIs (.ref j) "tuple_iterator":=⟨o,g1,g2⟩;unfold Builtin.SmallTypes.nextOf;refine wpAny_bind<|wpAny_callSpecial?_slot (name:=Str.ofString "__next__") ty F.slot_tuple_iterator_next<|wpAny_call_entry F.slot_tuple_iterator_next ty F.entry_tuple_iterator_next ?_<|F.args_tuple_iterator_next_1 _;refine(show wpAny _ _ (field (.ref j) 0 >>= _) _ _ s from wpAny_bind (wpAny_field g1 g3 (x:=.ref a) rfl ?_));refine(show wpAny _ _ (if (Value.ref a == Value.none)=true then _ else _) _ _ s from ?_);rw[if_neg (by exact Wal)];refine(show wpAny _ _ (field (.ref j) 1 >>= _) _ _ s from wpAny_bind (wpAny_field g1 g3 (x:=.int i 0) rfl ?_));refine(show wpAny _ _ (seqItems? (.ref a) >>= _) _ _ s from wpAny_bind (wpAny_seqItems l1 l2 ?_));simp only[Wam,e];refine wpAny_bind<|wpAny_rule<|wpAny_bind<|wpAny_setField g1 g3 (by simp) (show wpAny _ _ (newExc (.type "StopIteration") [] >>= _) _ _ _ from wpAny_bind ?_);simp only[newExc,newTuple];refine wpAny_bind<|wpAny_newObj_type (wpAny_bind (m:=firstArgMember _ _)<|wpAny_of_eq (a:=Value.none) (by first|rfl|(simp only[firstArgMember];rfl))<|wpAny_newObj_type ?_ (by size_fits)) (by size_fits);simp only[raiseNew];refine wpAny_bind<|wpAny_handled ?_
  first|rw[show A.in1.handled=none from hh]|rw[hh]
  exact wpAny_bind<|wpAny_pure<|wpAny_throw<|q _ _ (((Heap.SameBut.update ..).extBut.push _).push _) ⟨_,Wao _ rfl,rfl⟩
theorem Zvm {b c:Bool}{z U_ O j1 j2 a1 a2:Addr}{k1 k2:Nat}{vs us:Array Value}{x y p r:Value}{Q:Option Value->Shared->Prop}(D:ZipApart z U_ O j1 j2 a1 a2)
  (gz:IsZip s.heap z U_ O .none) (gU:IsPair s.heap U_ (.ref j1) (.ref j2)) (gO:IsPair s.heap O p r) (g1:ItB b s.heap j1 a1 k1) (g2:ItB c s.heap j2 a2 k2) (l1:HsB b s.heap a1 vs) (l2:HsB c s.heap a2 us) (ex:vs[k1]?=some x) (ey:us[k2]?=some y)
  (q:∀h',IsZip h' z U_ O (rawInt s.heap.objs.size)->IsPair h' O x y->ItB b h' j1 a1 (k1+1)->ItB c h' j2 a2 (k2+1)->IsPair h' s.heap.objs.size x y->h'.objs.size=s.heap.objs.size+1 ->
   (∀d o,d≠z->d≠O->d≠j1->d≠j2->s.heap.get? d=some o->h'.get? d=some o)->Q (some (.ref s.heap.objs.size)) { s with heap:=h' }):wpAny (model prog w) A (pyNext (.ref z)) Q E s:=by
 have ty:s.TypeIs (.ref z) "zip":=⟨_,gz,rfl⟩;unfold pyNext;refine wpAny_bind<|wpAny_attempt<|wpAny_callSpecial?_slot (name:=Str.ofString "__next__") ty F.slot_zip_next<|wpAny_call_entry F.slot_zip_next ty F.entry_zip_next ?_<|F.args_zip_next_1 _;refine(show wpAny _ _ (field (.ref z) 2 >>= _) _ _ _ from wpAny_bind (wpAny_field gz rfl (x:=.bool false) rfl ?_));refine(show wpAny _ _ (field (.ref z) 3 >>= _) _ _ _ from wpAny_bind (wpAny_field gz rfl (x:=.ref U_) rfl<|wpAny_bind<|wpAny_seqItems gU rfl ?_));refine(show wpAny _ _ (Builtin.SmallTypes.ownedTupleIsFree (.ref z) >>= _) _ _ _ from wpAny_bind ?_);unfold Builtin.SmallTypes.ownedTupleIsFree;refine wpAny_bind<|wpAny_field gz rfl (x:=.none) rfl<|wpAny_pure ?_;simp only[if_true];refine wpAny_bind<|wpAny_rule<|wpAny_bind<|wpAny_field gz rfl (x:=.ref O) rfl<|wpAny_bind (wpAny_setField_rec gz (by simp) λh₁ z₁ s₁=>wpAny_bind ?_)
 replace z₁:IsZip h₁ z U_ O .ellipsis:=z₁
 simp only[List.zipIdx_cons,List.zipIdx_nil,List.forIn_cons,List.forIn_nil];refine wpAny_bind<|wpAny_bind<|wpAny_onRaise (show wpAny _ _ (Builtin.SmallTypes.nextOf (.ref j1) >>= _) _ _ _ from wpAny_bind (Zie (g1.off s₁.extBut D.i1z) (l1.off s₁.extBut D.l1z) ex λh₂ g₂ s₂=>wpAny_pure ?_));have o₂:IsPair h₂ O p r:=s₂.extBut _ _ D.TOi1<|s₁.extBut _ _ D.TOz gO;refine wpAny_bind<|wpAny_seqItems o₂ rfl<|wpAny_bind (wpAny_updateSeq_pair o₂ λh₃ o₃ s₃=>wpAny_bind<|wpAny_letGo<|wpAny_pure ?_)
 replace o₃:IsPair h₃ O x r:=o₃
 refine wpAny_bind<|wpAny_bind<|wpAny_onRaise (show wpAny _ _ (Builtin.SmallTypes.nextOf (.ref j2) >>= _) _ _ _ from wpAny_bind (Zie (((g2.off s₁.extBut D.i2z).off s₂.extBut D.i12.symm).off s₃.extBut D.TOi2.symm) (((l2.off s₁.extBut D.l2z).off s₂.extBut D.l2i1).off s₃.extBut D.l2TO) ey λh₄ g₄ s₄=>wpAny_pure ?_));have o₄:IsPair h₄ O x r:=s₄.extBut _ _ D.TOi2 o₃;refine wpAny_bind<|wpAny_seqItems o₄ rfl<|wpAny_bind (wpAny_updateSeq_pair o₄ λh₅ o₅ s₅=>wpAny_bind<|wpAny_letGo<|wpAny_pure<|wpAny_pure ?_)
 replace o₅:IsPair h₅ O x y:=o₅
 refine wpAny_bind<|wpAny_seqItems o₅ rfl<|wpAny_bind<|wpAny_newTuple ?_;have n5:h₅.objs.size=s.heap.objs.size:=by rw[s₅.1,s₄.1,s₃.1,s₂.1,s₁.1]
 have z₅:IsZip h₅ z U_ O .ellipsis:=s₅.extBut _ _ D.TOz.symm<|s₄.extBut _ _ D.i2z.symm<|s₃.extBut _ _ D.TOz.symm<|s₂.extBut _ _ D.i1z.symm z₁;have old:∀d o,d≠z->d≠O->d≠j1->d≠j2->s.heap.get? d=some o->h₅.get? d=some o:=λd o c1 c2 c3 c4 e=>s₅.extBut _ _ c2<|s₄.extBut _ _ c4<|s₃.extBut _ _ c2<|s₂.extBut _ _ c3<|s₁.extBut _ _ c1 e;have t1:ItB b h₅ j1 a1 (k1+1):=((g₂.off s₃.extBut D.TOi1.symm).off s₄.extBut D.i12).off s₅.extBut D.TOi1.symm;have t2:ItB c h₅ j2 a2 (k2+1):=g₄.off s₅.extBut D.TOi2.symm;have zl:z<h₅.objs.size:=Wap z₅;refine(show wpAny _ _ (Builtin.SmallTypes.ownedTupleHandOut (.ref z) (.ref h₅.objs.size) >>= _) _ _ _ from wpAny_bind ?_);unfold Builtin.SmallTypes.ownedTupleHandOut;have z₆:IsZip (h₅.push { cls:=.type "tuple",data:=.seq #[x,y] }) z U_ O .ellipsis:=Wad _ z₅;refine wpAny_bind (wpAny_setField_rec z₆ (by simp) λh₇ z₇ s₇=>?_)
 replace z₇:IsZip h₇ z U_ O (rawInt h₅.objs.size):=z₇
 refine wpAny_setField_rec z₇ (by simp) λh₈ z₈ s₈=>?_
 replace z₈:IsZip h₈ z U_ O (rawInt h₅.objs.size):=z₈
 have up:∀d o,d≠z->h₅.get? d=some o->h₈.get? d=some o:=λd o c1 e=>s₈.extBut _ _ c1<|s₇.extBut _ _ c1<|Wad _ e;have new8:IsPair h₈ h₅.objs.size x y:=s₈.extBut _ _ (Wc6 zl)<|s₇.extBut _ _ (Wc6 zl)<|Wao _ rfl;have n8:h₈.objs.size=h₅.objs.size+1:=by rw[s₈.1,s₇.1,Wcc]
 rw[n5]at z₈ new8 n8;refine wpAny_pure ⟨_,rfl,wpAny_pure ?_⟩;refine(show Q (some (.ref h₅.objs.size)) _ from ?_);rw[n5];exact q h₈ z₈ (up _ _ D.TOz o₅) (t1.at λo e=>up _ o D.i1z e) (t2.at λo e=>up _ o D.i2z e) new8 n8 λd o c1 c2 c3 c4 e=>up d o c1<|old d o c1 c2 c3 c4 e
theorem Zxw {b c:Bool}{z U_ O j1 j2 a1 a2:Addr}{k1 k2:Nat}{vs us:Array Value}{p r:Value}{Q:Option Value->Shared->Prop}(hh:A.handled=none) (D:ZipApart z U_ O j1 j2 a1 a2)
  (gz:IsZip s.heap z U_ O .none) (gU:IsPair s.heap U_ (.ref j1) (.ref j2)) (gO:IsPair s.heap O p r) (g1:ItB b s.heap j1 a1 k1) (g2:ItB c s.heap j2 a2 k2) (l1:HsB b s.heap a1 vs) (l2:HsB c s.heap a2 us) (e:vs[k1]?=none\/us[k2]?=none)
  (q:∀h',(∀d o,d≠z->d≠O->d≠j1->d≠j2->s.heap.get? d=some o->h'.get? d=some o)->Q none { s with heap:=h' }):wpAny (model prog w) A (pyNext (.ref z)) Q E s:=by
 have ty:s.TypeIs (.ref z) "zip":=⟨_,gz,rfl⟩;have fin:∀{h':Heap}{x:Addr},(∀d o,d≠z->d≠O->d≠j1->d≠j2->s.heap.get? d=some o->h'.get? d=some o)->(∃o,h'.get? x=some o/\o.cls=.type "StopIteration")->wpAny (model prog w) A (do if (<- isInstance (.ref x) (.type "StopIteration")) then pure none else throw (.ref x)) Q E { s with heap:=h' }:=λ{h' x} hk ⟨o,ho,hc⟩=>by
  refine wpAny_bind<|wpAny_isInstance (T:="StopIteration") (b:=true) ⟨o,ho,hc⟩ isSubtype_stop ?_;exact wpAny_pure<|q _ hk
 unfold pyNext;refine wpAny_bind<|wpAny_attempt<|wpAny_callSpecial?_slot (name:=Str.ofString "__next__") ty F.slot_zip_next<|wpAny_call_entry F.slot_zip_next ty F.entry_zip_next ?_<|F.args_zip_next_1 _;refine(show wpAny _ _ (field (.ref z) 2 >>= _) _ _ _ from wpAny_bind (wpAny_field gz rfl (x:=.bool false) rfl ?_));refine(show wpAny _ _ (field (.ref z) 3 >>= _) _ _ _ from wpAny_bind (wpAny_field gz rfl (x:=.ref U_) rfl<|wpAny_bind<|wpAny_seqItems gU rfl ?_));refine(show wpAny _ _ (Builtin.SmallTypes.ownedTupleIsFree (.ref z) >>= _) _ _ _ from wpAny_bind ?_);unfold Builtin.SmallTypes.ownedTupleIsFree;refine wpAny_bind<|wpAny_field gz rfl (x:=.none) rfl<|wpAny_pure ?_;simp only[if_true];refine wpAny_bind<|wpAny_rule<|wpAny_bind<|wpAny_field gz rfl (x:=.ref O) rfl<|wpAny_bind (wpAny_setField_rec gz (by simp) λh₁ z₁ s₁=>wpAny_bind ?_)
 replace z₁:IsZip h₁ z U_ O .ellipsis:=z₁
 simp only[List.zipIdx_cons,List.zipIdx_nil,List.forIn_cons,List.forIn_nil];refine wpAny_bind<|wpAny_bind<|wpAny_onRaise (show wpAny _ _ (Builtin.SmallTypes.nextOf (.ref j1) >>= _) _ _ _ from ?_);cases ex:vs[k1]? with
 |none=>
  refine wpAny_bind (Zoj hh (g1.off s₁.extBut D.i1z) (l1.off s₁.extBut D.l1z) ex λh₂ y s₂ ⟨u,u1,u2⟩=>?_);have z₂:IsZip h₂ z U_ O .ellipsis:=s₂ _ _ D.i1z.symm z₁;have yz:y≠z:=λx=>by subst x;rw[z₂]at u1;cases u1;simp at u2
  exact wpAny_setField_rec z₂ (by simp) λh₃ _ s₃=>fin (λd o c1 _ c3 _ x=>s₃.extBut _ _ c1<|s₂ _ _ c3<|s₁.extBut _ _ c1 x) ⟨u,s₃.extBut _ _ yz u1,u2⟩
 |some x=>
  have ey:us[k2]?=none:=by rcases e with h|h;rw[ex]at h;cases h;exact h
  refine wpAny_bind (Zie (g1.off s₁.extBut D.i1z) (l1.off s₁.extBut D.l1z) ex λh₂ g₂ s₂=>wpAny_pure ?_);have o₂:IsPair h₂ O p r:=s₂.extBut _ _ D.TOi1<|s₁.extBut _ _ D.TOz gO;refine wpAny_bind<|wpAny_seqItems o₂ rfl<|wpAny_bind (wpAny_updateSeq_pair o₂ λh₃ o₃ s₃=>wpAny_bind<|wpAny_letGo<|wpAny_pure ?_);refine wpAny_bind<|wpAny_bind<|wpAny_onRaise (show wpAny _ _ (Builtin.SmallTypes.nextOf (.ref j2) >>= _) _ _ _ from ?_);refine wpAny_bind (Zoj hh (((g2.off s₁.extBut D.i2z).off s₂.extBut D.i12.symm).off s₃.extBut D.TOi2.symm) (((l2.off s₁.extBut D.l2z).off s₂.extBut D.l2i1).off s₃.extBut D.l2TO) ey λh₄ y s₄ ⟨u,u1,u2⟩=>?_);have z₄:IsZip h₄ z U_ O .ellipsis:=s₄ _ _ D.i2z.symm<|s₃.extBut _ _ D.TOz.symm<|s₂.extBut _ _ D.i1z.symm z₁;have yz:y≠z:=λx=>by subst x;rw[z₄]at u1;cases u1;simp at u2
  exact wpAny_setField_rec z₄ (by simp) λh₅ _ s₅=>fin (λd o c1 c2 c3 c4 x=>s₅.extBut _ _ c1<|s₄ _ _ c4<|s₃.extBut _ _ c2<|s₂.extBut _ _ c3<|s₁.extBut _ _ c1 x) ⟨u,s₅.extBut _ _ yz u1,u2⟩
end
section
abbrev zt1 (h:Heap) (a:Addr):Heap:=h.push ⟨.type "tuple_iterator",none,.fields #[.ref a,.int 0 0],#[]⟩
abbrev zt2 (h:Heap) (a c:Addr):Heap:=(zt1 h a).push ⟨.type "tuple_iterator",none,.fields #[.ref c,.int 0 0],#[]⟩
abbrev zt3 (h:Heap) (a c:Addr):Heap:=(zt2 h a c).push ⟨.type "tuple",none,.seq #[.ref h.objs.size,.ref (zt1 h a).objs.size],#[]⟩
abbrev zt4 (h:Heap) (a c:Addr):Heap:=(zt3 h a c).push ⟨.type "tuple",none,.seq #[.none,.none],#[]⟩
abbrev zt5 (h:Heap) (a c:Addr):Heap:=(zt4 h a c).push ⟨.type "zip",none,.fields #[.none,.bool false,.bool false,.ref (zt2 h a c).objs.size,.ref (zt3 h a c).objs.size],#[]⟩
theorem Zsd (a c:Addr) (vs us:Array Value) :
  Meets (Builtin.«zip.__new__» ⟨[.type "zip",.ref a,.ref c],[]⟩) (λ_ R s=>s.heap.IsTuple a vs/\s.heap.IsTuple c us/\R (.ok (.ret (.ref (zt4 s.heap a c).objs.size))) { s with heap:=zt5 s.heap a c }):=.of_wp λprog w A R s h=>by
 obtain⟨hp,g,d,tk,os⟩:=s;obtain⟨u1,u2,h⟩:=h;have sub0:=sub_zip;have v1:Heap.IsTuple (Shared.heap ⟨hp,g,d,tk,os⟩) a vs:=u1;have v2:Heap.IsTuple (Shared.heap ⟨hp.push { cls:=.type "tuple_iterator",data:=.fields #[.ref a,.int 0 0] },g,d,tk,os⟩) c us:=Heap.IsTuple.push u2 _
 wp_walk using wpAny_pyIter_tuple v1,wpAny_pyIter_tuple v2
 exact⟨_,rfl,h⟩
variable {prog:Program}{w:World}{A:Around}{E:Value->Shared->Prop}{s:Shared}
theorem Zwn {b:Bool}{a c:Addr}{vs us:Array Value}{Q:Value->Shared->Prop}(l1:HsB b s.heap a vs) (l2:HsB b s.heap c us)
  (q:∀h',IsZip h' (s.heap.objs.size+4) (s.heap.objs.size+2) (s.heap.objs.size+3) .none->IsPair h' (s.heap.objs.size+2) (.ref s.heap.objs.size) (.ref (s.heap.objs.size+1))->IsPair h' (s.heap.objs.size+3) .none .none ->
   ItB b h' s.heap.objs.size a 0->ItB b h' (s.heap.objs.size+1) c 0->(∀d o,s.heap.get? d=some o->h'.get? d=some o)->Q (.ref (s.heap.objs.size+4)) { s with heap:=h' }):wpAny (model prog w) A (call (.type "zip") [.ref a,.ref c]) Q E s:=by
 cases b
 ·exact call_zip_2 l1 l2 λh' b1 b2 b3 b4 b5 b6 hk=>q h' b1 b2 b3 b4 b5 hk
 ·refine callType_new F.called_zip (by decide) (F.typeCall_zip_2 _ _) (F.newCall_zip_2 _ _) (λobj=>F.args_object_init_3 obj _ _) F.entry_zip_new (Zsd a c vs us) ⟨l1,l2,?_⟩
  have z1:(zt1 s.heap a).objs.size=s.heap.objs.size+1:=Wcc ..;have z2:(zt2 s.heap a c).objs.size=s.heap.objs.size+2:=by rw[Wcc,z1]
  have z3:(zt3 s.heap a c).objs.size=s.heap.objs.size+3:=by rw[Wcc,z2]
  have z4:(zt4 s.heap a c).objs.size=s.heap.objs.size+4:=by rw[Wcc,z3]
  have p5:(zt5 s.heap a c).get? (zt4 s.heap a c).objs.size=some _:=Wao _ rfl;have p4:(zt5 s.heap a c).get? (zt3 s.heap a c).objs.size=some _:=Wad _<|Wao _ rfl;have p3:(zt5 s.heap a c).get? (zt2 s.heap a c).objs.size=some _:=Wad _<|Wad _<|Wao _ rfl;have p2:(zt5 s.heap a c).get? (zt1 s.heap a).objs.size=some _:=Wad _<|Wad _<|Wad _<|Wao _ rfl;have p1:(zt5 s.heap a c).get? s.heap.objs.size=some _:=Wad _<|Wad _<|Wad _<|Wad _<|Wao _ rfl;show _/\_;rw[z2,z3,z4]at p5;rw[z1,z2]at p3;rw[z3]at p4;rw[z1]at p2;rw[z4];exact⟨⟨_,p5,rfl⟩,q _ p5 p3 p4 ⟨_,p1,rfl,rfl⟩ ⟨_,p2,rfl,rfl⟩ λd o e=>Wad _<|Wad _<|Wad _<|Wad _<|Wad _ e⟩
end
def Izb (b:Bool) (K:W.Frag) (l1 l2:Addr):It:=
 ⟨λi H=>∃xs ys x y,SqB b K H l1 xs/\SqB b K H l2 ys/\xs[i]?=some x/\ys[i]?=some y,
  λi H v H'=>∃p x y,H p=none/\v=.ref p/\H'=upd H p (.tup [x,y])/\∀xs ys,SqB b K H l1 xs->SqB b K H l2 ys->xs[i]?=some x/\ys[i]?=some y,
  λi H=>∃xs ys,SqB b K H l1 xs/\SqB b K H l2 ys/\(xs.length<=i\/ys.length<=i)⟩
theorem Zw3 {b:Bool}{P:Program}{w:World}{K:W.Frag}{es:List Expr}{kk:Nat}{tp:Pos}(l1 l2 z TI TO i1 i2:Addr) (D:ZipApart z TI TO i1 i2 l1 l2):Turn P w K (.Tuple es kk tp) (Izb b K l1 l2) [z,TI,TO,i1,i2] z
  (λi h=>IsZip h z TI TO .none/\IsPair h TI (.ref i1) (.ref i2)/\(∃a b,IsPair h TO a b)/\ItB b h i1 l1 i/\ItB b h i2 l2 i) where
 mem:=by simp
 obj:=λi h st b2 hb=>by
  obtain⟨hz,hTI,⟨a,b',hTO⟩,h1,h2⟩:=st;obtain⟨o1,e1,d1⟩:=h1.obj;obtain⟨o2,e2,d2⟩:=h2.obj;simp only[Wan,Wbk,or_false]at hb;rcases hb with rfl|rfl|rfl|rfl|rfl
  ·exact⟨_,hz,λv q=>by cases q⟩
  ·exact⟨_,hTI,λv q=>by cases q⟩
  ·exact⟨_,hTO,λv q=>by cases q⟩
  ·exact⟨o1,e1,λv q=>by rw[d1]at q;cases q⟩
  ·exact⟨o2,e2,λv q=>by rw[d2]at q;cases q⟩
 keep:=λi h h' st k=>by
  obtain⟨hz,hTI,⟨a,b',hTO⟩,h1,h2⟩:=st;exact⟨k z (by simp) _ hz,k TI (by simp) _ hTI,⟨a,b',k TO (by simp) _ hTO⟩,h1.at λo e=>k i1 (by simp) o e,h2.at λo e=>k i2 (by simp) o e⟩
 item:=by
  intro X hP hw hK hc i pins s U H E I hf st hg;subst hP hw hK;obtain⟨hz,hTI,⟨a,b',hTO⟩,h1,h2⟩:=st;obtain⟨xs,ys,x,y,hq1,hq2,hx,hy⟩:=hg;obtain⟨its1,r1,p1⟩:=I.seqB hq1;obtain⟨its2,r2,p2⟩:=I.seqB hq2;obtain⟨u1,hu1,ru1⟩:=r1.get hx;obtain⟨u2,hu2,ru2⟩:=r2.get hy;refine Zvm D hz hTI hTO h1 h2 p1 p2 (x:=u1) (y:=u2) (by simpa using hu1) (by simpa using hu2) λh' b1 b2 b3 b4 b5 b6 hk=>?_;refine⟨_,rfl,wpAny_letOwnedTupleGo_zip (s:={ s with heap:=h' }) b1 λh'' hz'' hs''=>?_⟩;have lt:∀{c o},s.heap.get? c=some o->c≠s.heap.objs.size:=λe=>Way<|Wap e;have hTz:s.heap.objs.size≠z:=Ne.symm<|lt hz;have hTfree:H s.heap.objs.size=none:=I.hok.fresh<|Wag _;have kept:∀c o,c ∉ [z,TI,TO,i1,i2]->s.heap.get? c=some o->h''.get? c=some o:=λc o hc e=>by
   simp only[Wan,Wbk,or_false,not_or]at hc;exact hs''.extBut _ _ hc.1<|hk c o hc.1 hc.2.2.1 hc.2.2.2.1 hc.2.2.2.2 e
  have hT:h''.get? s.heap.objs.size=some { cls:=.type "tuple",data:=.seq #[u1,u2] }:=hs''.extBut _ _ hTz b5;have ntr:∀c o,H c=some o->c ∉ [z,TI,TO,i1,i2]:=λc o e hc=>by rw[(hf c hc).1]at e;cases e
  have hok:HOk X.prog X.w (upd H s.heap.objs.size (.tup [x,y])) h'':=λc o e=>by
   by_cases hcT:c=s.heap.objs.size
   ·subst hcT
    rw[Zao]at e;cases e;exact⟨by show 2<=sizeLine;decide,[u1,u2],.cons ru1 (.cons ru2 .nil),_,hT,⟨rfl,_,rfl⟩,rfl⟩
   ·rw[Zak hcT]at e
    refine(I.hok c o e).stay (λd v hd q=>kept d v ?_ q) (λd q=>by rw[Zak (Zal q hTfree)];exact q) λd zs q=>by rw[Zak (Zal q hTfree)];exact q
    rcases hd with hd|hd
    ·rw[hd];exact ntr c o e
    ·exact ntr d _ hd
  have I2:Inv X pins U (upd H s.heap.objs.size (.tup [x,y])) { s with heap:=h'' }:=by
   refine I.call (g':=s.gens) (t':=s.toks) (d':=s.drawn) (ch:=[z,TI,TO,i1,i2]) ⟨λc o e n hc hx=>kept c o hx e,λc o e n hc hx=>⟨o.slots,kept c o hx e⟩,λc o e n hx=>by rw[Zak (lt e)];exact n,λc o e hx=>⟨o,kept c o hx e⟩,
    λc zs q=>by rw[Zak (Zal q hTfree)];exact q,λc o zs q=>by rw[Zak (Zal q hTfree)];exact q,λc zs q=>⟨#[],by rw[Zak (Zal q hTfree),q];simp⟩⟩ hok I.bare λc hcc=>?_
   obtain⟨f0,f1,f2,f3,f4,f5⟩:=hf c hcc;exact⟨f3,f1,f4,f5⟩
  refine⟨.ref s.heap.objs.size,_,I2,rfl,⟨s.heap.objs.size,x,y,hTfree,rfl,rfl,λxs' ys' q1 q2=>?_⟩,⟨hz'',hs''.extBut _ _ D.TIz<|hk _ _ D.TIz D.TITO D.TIi1 D.TIi2 hTI,⟨_,_,hs''.extBut _ _ D.TOz b2⟩,b3.off hs''.extBut D.i1z,b4.off hs''.extBut D.i2z⟩,λc hcc=>?_⟩
  ·rw[I.seqB_inj q1 hq1,I.seqB_inj q2 hq2];exact⟨hx,hy⟩
  ·have hcl:c≠s.heap.objs.size:=by
    simp only[Wan,Wbk,or_false]at hcc;obtain⟨_,e1,_⟩:=h1.obj;obtain⟨_,e2,_⟩:=h2.obj;rcases hcc with rfl|rfl|rfl|rfl|rfl
    ·exact lt hz
    ·exact lt hTI
    ·exact lt hTO
    ·exact lt e1
    ·exact lt e2
   rw[Zak hcl];exact(hf c hcc).1
 done:=by
  intro X hP hw hK hc i pins s U H E I hf st hg;subst hP hw hK;obtain⟨hz,hTI,⟨a,b',hTO⟩,h1,h2⟩:=st;obtain⟨xs,ys,hq1,hq2,hend⟩:=hg;obtain⟨its1,r1,p1⟩:=I.seqB hq1;obtain⟨its2,r2,p2⟩:=I.seqB hq2;have l1':=r1.length;have l2':=r2.length;refine Zxw (I.ok.hd hc) D hz hTI hTO h1 h2 p1 p2 ?_ λh' hk=>⟨rfl,?_⟩
  ·rcases hend with q|q
   ·left;simp;omega
   ·right;simp;omega
  ·have kept:∀c o,c ∉ [z,TI,TO,i1,i2]->s.heap.get? c=some o->h'.get? c=some o:=λc o hc e=>by
    simp only[Wan,Wbk,or_false,not_or]at hc;exact hk c o hc.1 hc.2.2.1 hc.2.2.2.1 hc.2.2.2.2 e
   have ntr:∀c o,H c=some o->c ∉ [z,TI,TO,i1,i2]:=λc o e hc=>by rw[(hf c hc).1]at e;cases e
   refine I.call (g':=s.gens) (t':=s.toks) (d':=s.drawn) (ch:=[z,TI,TO,i1,i2]) ⟨λc o e n hc hx=>kept c o hx e,λc o e n hc hx=>⟨o.slots,kept c o hx e⟩,λc o e n hx=>n,λc o e hx=>⟨o,kept c o hx e⟩,
    λc zs q=>q,λc o zs q=>q,λc zs q=>⟨#[],by rw[q];simp⟩⟩ (λc o e=>?_) I.bare λc hcc=>?_
   ·refine(I.hok c o e).stay (λd v hd q=>kept d v ?_ q) (λd q=>q) λd zs q=>q
    rcases hd with hd|hd
    ·rw[hd];exact ntr c o e
    ·exact ntr d _ hd
   ·obtain⟨f0,f1,f2,f3,f4,f5⟩:=hf c hcc
    exact⟨f3,f1,f4,f5⟩
 self:=λ_ _ _ _ _ st h=>wpAny_pyIter_zip st.1 h
section
variable {X:Cx}
def iZip (K:W.Frag) (ta:TA):TI:=λU H R=>ta U H λvs H1=>∃b l1 l2,vs=[.ref l1,.ref l2]/\(∃xs,SqB b K H1 l1 xs)/\(∃ys,SqB b K H1 l2 ys)/\R (Izb b K l1 l2) H1
theorem Zy3 (K:W.Frag) {es:List Expr}{kk:Nat}{tp:Pos}{a b:Expr}{ta:TA}{p pos:Pos}(hg:Gl X "zip") (hm:X.mg "zip" = none) (ha:PA X [a,b] ta) (hs:starEach [a,b] X.env=[(false,eval a X.env),(false,eval b X.env)]:=by rfl) (hs2:starEach [b] X.env=[(false,eval b X.env)]:=by rfl) (hK:X.K=K:=by rfl) :
  PI X (.Tuple es kk tp) (.Call (.Name "zip" p) [a,b] [] pos) (iZip K ta):=by
 subst hK;intro pins s U H R I h;refine Call_<|Zd2 I hg hm (Zxq)<|PyProof.Rows.callWith_type1 (thn (ha pos pins s U H _ I h) λus s1 ⟨vs,H1,I1,r1,q1⟩=>?_) (by rw[hs,hs2]) (by rw[hs2];rfl);obtain⟨b,l1,l2,e,⟨xs,hx⟩,⟨ys,hy⟩,q⟩:=q1;subst e;obtain⟨u1,u2,rfl,q1,q2⟩:=r1.two;cases (show u1=Value.ref l1 from q1);cases (show u2=Value.ref l2 from q2);obtain⟨its1,w1,p1⟩:=I1.seqB hx;obtain⟨its2,w2,p2⟩:=I1.seqB hy;have lt1:l1<s1.heap.objs.size:=p1.lt;have lt2:l2<s1.heap.objs.size:=p2.lt;refine Zwn p1 p2 λh' b1 b2 b3 b4 b5 hk=>?_;refine wpAny_pyIter_zip b1 ?_;have I2:Inv X pins U H1 { s1 with heap:=h' }:=I1.kept (t':=s1.toks) hk;refine⟨s1.heap.objs.size+4,[s1.heap.objs.size+4,s1.heap.objs.size+2,s1.heap.objs.size+3,s1.heap.objs.size,s1.heap.objs.size+1],_,_,H1,rfl,I2,Zw3 l1 l2 _ _ _ _ _<|zipApart_new lt1 lt2,⟨b1,b2,⟨_,_,b3⟩,b4,b5⟩,λb hb=>?_,q⟩;have hge:s1.heap.objs.size<=b:=by
  simp only[Wan,Wbk,or_false]at hb;rcases hb with rfl|rfl|rfl|rfl|rfl <;> omega
 exact I1.fpOk hge<|I1.hok.fresh hge
def rIsiU (K:W.Frag):List V->Hp->VK->Prop:=λxs H Q=>rIsi K xs H Q\/∃(x:V) (p:Addr) (ns:List String) (T:String) (b:Bool),xs=[x,.ref p]/\H p=some (.tup<|ns.map V.ty)/\TyOf K H x (.type T)/\PySem.W.kitAny K (.type T) (ns.map Value.type)=some b/\Q (.bl b) H
theorem Znx {pins:List (Addr × Obj)}{U:St}{H:Hp}{s:Shared}{x:V}{u t:Value}(I:Inv X pins U H s) (rx:RelV x u) (ty:TyOf X.K H x t) (nt:∃T,t=.type T):∃Hh:Heap->Prop,PySem.W.KitX X.K u t Hh/\Hh s.heap/\u≠.builtin "__main__.__loader__#opaque":=by
 cases ty with
 |non=>cases (show u=Value.none from rx);exact⟨_,PySem.W.kitx_none,True.intro,λz=>nomatch z⟩
 |bl y=>cases (show u=Value.bool y from rx);exact⟨_,PySem.W.kitx_bool,True.intro,λz=>nomatch z⟩
 |int i=>obtain⟨t,q⟩:=(show ∃t,u=Value.int i t from rx);cases q;exact⟨_,PySem.W.kitx_int,True.intro,λz=>nomatch z⟩
 |str y=>obtain⟨t,q⟩:=(show ∃t,u=Value.str y t from rx);cases q;exact⟨_,PySem.W.kitx_str,True.intro,λz=>nomatch z⟩
 |flt y=>obtain⟨t,q⟩:=(show ∃t,u=Value.float y t from rx);cases q;exact⟨_,PySem.W.kitx_float,True.intro,λz=>nomatch z⟩
 |@lst a xs ea=>
  cases (show u=Value.ref a from rx);obtain⟨_,_,n,_,h1⟩:=(show ObjOk X.prog X.w H s.heap a (.lst xs) from I.hok a _ ea);exact⟨_,PySem.W.kitx_list,⟨_,h1,rfl⟩,λz=>nomatch z⟩
 |@frz a ob xs ea=>
  cases (show u=Value.ref a from rx);obtain⟨_,_,_,n,_,h1⟩:=(show ObjOk X.prog X.w H s.heap a (.frz ob (.lst xs)) from I.hok a _ ea);exact⟨_,PySem.W.kitx_list,⟨_,h1,rfl⟩,λz=>nomatch z⟩
 |@tup a xs ea=>
  cases (show u=Value.ref a from rx);obtain⟨_,_,_,p⟩:=(show ObjOk X.prog X.w H s.heap a (.tup xs) from I.hok a _ ea);obtain⟨o,h1,⟨h2,_⟩,_⟩:=p;exact⟨_,PySem.W.kitx_tuple,⟨o,h1,h2⟩,λz=>nomatch z⟩
 |@dK a kvs ea=>
  cases (show u=Value.ref a from rx);obtain⟨_,_,vs,_,p⟩:=(show ObjOk X.prog X.w H s.heap a (.dK kvs) from I.hok a _ ea);obtain⟨o,es,ep,h1,h2,_⟩:=p;exact⟨_,PySem.W.kitx_dict,⟨o,h1,h2.1⟩,λz=>nomatch z⟩
 |@dT a kvs ea=>
  cases (show u=Value.ref a from rx);obtain⟨_,_,xs,_,o,es,ep,h1,h2,_⟩:=(show ObjOk X.prog X.w H s.heap a (.dT kvs) from I.hok a _ ea);exact⟨_,PySem.W.kitx_dict,⟨o,h1,h2.1⟩,λz=>nomatch z⟩
 |@ins a C dx fs ea cl ha hn htk hm=>obtain⟨T,e⟩:=nt;cases e
theorem isiUK (K:W.Frag) (hK:X.K=K:=by rfl):CallR X (.builtin "isinstance") (rIsiU K):=by
 subst hK;refine CallR.or Zlo ?_;intro pins s U H xs us Q I r h;obtain⟨x,p,ns,T,b,rfl,hp,ty,e,q⟩:=h;obtain⟨u,u',rfl,rx,rn⟩:=vals2 r;cases (show u'=Value.ref p from rn);obtain⟨Hh,Z_,hz,hne⟩:=Znx I rx ty ⟨T,rfl⟩;obtain⟨_,its,rv,o,ho,⟨hc,n,hd⟩,hdd⟩:=I.hok p _ hp;have hv:∀(ns:List String) (its:List Value),Vals (ns.map V.ty) its->its=ns.map Value.type:=by
  intro ns
  induction ns with
  |nil=>intro its h;cases h;rfl
  |cons b r ih=>intro its h;cases h with|cons h1 h2=>cases (show _=Value.type b from h1);rw[ih _ h2];rfl
 have e2:=hv ns its rv;subst e2;obtain⟨cls,dd,data,sl⟩:=o;simp only at hc hd hdd;subst hc hd hdd;exact PySem.W.kia_tup Z_ I.kIn hz ho e hne λtk=>⟨.bl b,H,I.tok _,rfl,q⟩
end
section
variable {K:W.Frag}{Z:Evt}
theorem Ztf {b:Bool}{G:Hp}{l1 l2:Addr}{xs ys:List V}{ds es:List D}(h1:∀G1 H1,Same G G1->Same G1 H1->SqB b K H1 l1 xs) (h2:∀G1 H1,Same G G1->Same G1 H1->SqB b K H1 l2 ys) (r1:Reps K G xs ds) (r2:Reps K G ys es) (hl:ds.length=es.length) :
  ItOk K G (Izb b K l1 l2) ((ds.zip es).map λp=>D.tup [p.1,p.2]):=λG1 H1 sg sh=>by
 have hl1:=r1.length;have hl2:=r2.length;have e1:=h1 G1 H1 sg sh;have e2:=h2 G1 H1 sg sh;refine⟨⟨xs,ys,e1,e2,.inl (by rw[Wab,List.length_zip];omega)⟩,λi d hd=>?_⟩;rw[Wae]at hd;cases q:(ds.zip es)[i]? with
 |none=>rw[q]at hd;cases hd
 |some pr=>
  rw[q]at hd;have hd:D.tup [pr.1,pr.2]=d:=by simpa using hd
  subst hd;rw[Wcb]at q;obtain⟨u,hu,ru⟩:=r1.get q.1;obtain⟨v,hv,rv⟩:=r2.get q.2;refine⟨⟨xs,ys,u,v,e1,e2,hu,hv⟩,λx H2 ⟨p,a,b',hp,ex,eH,hab⟩=>?_⟩;obtain⟨ha,hb⟩:=hab xs ys e1 e2;rw[hu]at ha;rw[hv]at hb;cases ha;cases hb;subst ex;subst eH;have hG:G1 p=none:=by
   cases z:G1 p with
   |none=>rfl
   |some o=>rw[sh _ _ z]at hp;cases hp
  refine⟨upd G1 p (.tup [u,v]),λc o e=>by rw[Zak (Zal e hG)];exact e,λc o e=>by rw[Zak (Zal e hp)];exact e,λc o e=>?_,?_⟩
  ·by_cases hc:c=p
   ·subst hc;rw[Zao]at e ⊢;exact⟨e,.inr hp⟩
   ·rw[Zak hc]at e ⊢;exact⟨sh c o e,.inl e⟩
  ·have sg2:Same G1 (upd G1 p (.tup [u,v])):=λc o e=>by rw[Zak (Zal e hG)];exact e
   exact .tup Zao (.cons ((ru.mono sg).mono sg2) (.cons ((rv.mono sg).mono sg2) .nil))
theorem Zxb {ta:TA}{P:List D->Evt->Prop}(h:JA K ta Z λds Z1=>∃as bs,ds=[.tup as,.tup bs]/\as.length=bs.length/\P ((as.zip bs).map λp=>D.tup [p.1,p.2]) Z1):JI K (iZip K ta) Z P:=λg G H U R k c=>
 h g G H U _ k λvs ds G1 H1 Z1 k1 s1 r1 hq_=>by
  obtain⟨as,bs,e,hl,p1⟩:=hq_;subst e;obtain⟨_,_,rfl,ra,rr⟩:=r1.inv
  next=>
   obtain⟨_,_,rfl,rb,rr⟩:=rr.inv
   next=>
    cases rr.inv;obtain⟨_,_,rfl,ha,rsa⟩:=ra.inv
    next=>
     obtain⟨_,_,rfl,hb,rsb⟩:=rb.inv
     next=>
      exact⟨true,_,_,rfl,⟨_,SqT.of<|k1.live _ _ ha⟩,⟨_,SqT.of<|k1.live _ _ hb⟩,c _ _ G1 H1 Z1 k1 s1 (Ztf (λ_ _ sg sh=>SqT.of<|sh _ _<|sg _ _ ha) (λ_ _ sg sh=>SqT.of<|sh _ _<|sg _ _ hb) rsa rsb hl) p1⟩
theorem Zot {d:D}{n T:String}{b:Bool}{P:D->Evt->Prop}(ht:tyD d=some T) (e:∀K,PySem.W.kitOne K (.type T) (.type n)=some b) (p:P (.bl b) Z):JC K (rIsiU K) [d,.ty n] Z P:=λg G H U Q vs k rs c=>.inl<|Zxo ht e p g G H U Q vs k rs c
end
section
variable {prog:Program}{w:World}{A:Around}{E:Value->Shared->Prop}{s:Shared}
theorem Zu6 {b:Bool}{e j a:Addr}{i:Nat}{ws:Array Value}{x old:Value}{Q:Option Value->Shared->Prop}(ge:IsEnum s.heap e j i old) (g:ItB b s.heap j a i) (l:HsB b s.heap a ws) (ex:ws[i]?=some x) (ne:e≠j)
  (q:∀h',IsEnumOut h' e j ((i:Int)+1) x s.heap.objs.size->ItB b h' j a (i+1)->h'.get? s.heap.objs.size=some { cls:=.type "tuple",data:=.seq #[.int i s.toks,x] } ->
   (∀c o,c≠e->c≠j->s.heap.get? c=some o->h'.get? c=some o)->Q (some (.ref s.heap.objs.size)) { s with heap:=h',toks:=s.toks+1 }):wpAny (model prog w) A (pyNext (.ref e)) Q E s:=by
 cases b
 ·exact wpAny_pyNext_enum_item ge g l ex ne λh' b1 b2 b3 _ b4=>q h' b1 b2 b3 b4
 obtain⟨hp,g0,d,tk,os⟩:=s;have ty:Shared.TypeIs ⟨hp,g0,d,tk,os⟩ (.ref e) "enumerate":=⟨_,ge,rfl⟩;unfold pyNext;refine wpAny_bind<|wpAny_attempt<|wpAny_callSpecial?_slot (name:=Str.ofString "__next__") ty F.slot_enumerate_next<|wpAny_call_entry F.slot_enumerate_next ty F.entry_enumerate_next ?_<|F.args_enumerate_next_1 _;refine(show wpAny _ _ (field (.ref e) 2 >>= _) _ _ _ from wpAny_bind (wpAny_field ge rfl (x:=.ref j) rfl<|wpAny_bind (Zie (b:=true) g l ex λh₁ g₁ s₁=>?_)))
 replace s₁:Heap.SameBut j hp h₁:=s₁
 have e₁:IsEnum h₁ e j i old:=(s₁.2 e ne).trans ge;refine(show wpAny _ _ (field (.ref e) 3 >>= _) _ _ ⟨h₁,g0,d,tk,os⟩ from wpAny_bind (wpAny_field e₁ rfl (x:=rawInt i) rfl ?_));refine(show wpAny _ _ (field (.ref e) 4 >>= _) _ _ ⟨h₁,g0,d,tk,os⟩ from wpAny_bind (wpAny_field e₁ rfl (x:=.none) rfl ?_));refine(show wpAny _ _ (mkInt i >>= _) _ _ ⟨h₁,g0,d,tk,os⟩ from wpAny_bind (wpAny_mkInt ?_));refine(show wpAny _ _ (setField (.ref e) 3 (rawInt ((i:Int)+1)) >>= _) _ _ ⟨h₁,g0,d,tk+1,os⟩ from wpAny_bind (wpAny_setField_rec e₁ (by simp) λh₂ e₂ s₂=>?_))
 replace s₂:Heap.SameBut e h₁ h₂:=s₂
 replace e₂:IsEnum h₂ e j ((i:Int)+1) old:=e₂
 refine(show wpAny _ _ (setField (.ref e) 4 .none >>= _) _ _ ⟨h₂,g0,d,tk+1,os⟩ from wpAny_bind (wpAny_setField_rec e₂ (by simp) λh₃ e₃ s₃=>?_))
 replace s₃:Heap.SameBut e h₂ h₃:=s₃
 replace e₃:IsEnum h₃ e j ((i:Int)+1) old:=e₃
 refine(show wpAny _ _ (newTuple [.int i tk,x] >>= _) _ _ ⟨h₃,g0,d,tk+1,os⟩ from wpAny_bind (wpAny_newTuple ?_));have e₄:IsEnum (h₃.push { cls:=.type "tuple",data:=.seq #[.int i tk,x] }) e j ((i:Int)+1) old:=Wad _ e₃;generalize eh₄:h₃.push { cls:=.type "tuple",data:=.seq #[.int i tk,x] } = h₄ at e₄;have n3:h₃.objs.size=hp.objs.size:=by rw[s₃.1,s₂.1,s₁.1]
 have el:e<hp.objs.size:=Wap ge;have t₄:h₄.get? hp.objs.size=some { cls:=.type "tuple",data:=.seq #[.int i tk,x] }:=by rw[<- eh₄,<- n3];exact Wao _ rfl
 have k₄:∀c o,c≠e->c≠j->hp.get? c=some o->h₄.get? c=some o:=λc o c1 c2 z=>by rw[<- eh₄];exact Wad _<|s₃.extBut c o c1<|s₂.extBut c o c1<|s₁.extBut c o c2 z
 have g₄:ItB true h₄ j a (i+1):=by rw[<- eh₄];exact((g₁.off s₂.extBut<|Ne.symm ne).off s₃.extBut (Ne.symm ne)).at λo z=>Wad _ z
 refine(show wpAny _ _ (Builtin.SmallTypes.ownedTupleIsFree (.ref e) >>= _) _ _ ⟨h₄,g0,d,tk+1,os⟩ from ?_);rw[n3];clear eh₄ e₃ s₃ e₂ s₂ e₁ s₁ g₁ n3 h₃ h₂ h₁;refine wpAny_bind ?_;unfold Builtin.SmallTypes.ownedTupleIsFree;refine wpAny_bind<|wpAny_field e₄ rfl (x:=.none) rfl<|wpAny_pure ?_;simp only[if_true];refine wpAny_bind<|wpAny_rule<|wpAny_bind<|wpAny_field e₄ rfl (x:=old) rfl<|wpAny_bind (wpAny_setField_rec e₄ (by simp) λh₅ e₅ s₅=>?_)
 replace s₅:Heap.SameBut e h₄ h₅:=s₅
 replace e₅:IsEnum h₅ e j ((i:Int)+1) x:=e₅
 refine(show wpAny _ _ (Builtin.SmallTypes.ownedTupleHandOut (.ref e) (.ref hp.objs.size) >>= _) _ _ ⟨h₅,g0,d,tk+1,os⟩ from wpAny_bind ?_);unfold Builtin.SmallTypes.ownedTupleHandOut;refine wpAny_bind (wpAny_setField_rec e₅ (by simp) λh₆ e₆ s₆=>?_)
 replace s₆:Heap.SameBut e h₅ h₆:=s₆
 replace e₆:IsEnumOut h₆ e j ((i:Int)+1) x hp.objs.size:=e₆
 refine wpAny_setField_rec e₆ (by simp) λh₇ e₇ s₇=>?_
 replace s₇:Heap.SameBut e h₆ h₇:=s₇
 replace e₇:IsEnumOut h₇ e j ((i:Int)+1) x hp.objs.size:=e₇
 have up:∀c o,c≠e->h₄.get? c=some o->h₇.get? c=some o:=λc o c1 z=>s₇.extBut c o c1<|s₆.extBut c o c1<|s₅.extBut c o c1 z;exact wpAny_bind<|wpAny_letGo<|wpAny_pure ⟨_,rfl,wpAny_pure (q h₇ e₇ (g₄.at λo z=>up j o (Ne.symm ne) z) (up _ _ (Wc6 el) t₄) λc o c1 c2 z=>up c o c1<|k₄ c o c1 c2 z)⟩
theorem Zzo {b:Bool}{e j a:Addr}{i:Nat}{ws:Array Value}{old:Value}{Q:Option Value->Shared->Prop}(hh:A.handled=none) (ge:IsEnum s.heap e j i old) (g:ItB b s.heap j a i) (l:HsB b s.heap a ws) (ex:ws[i]?=none)
  (q:∀h',Heap.ExtBut j s.heap h' -> Q none { s with heap:=h' }):wpAny (model prog w) A (pyNext (.ref e)) Q E s:=by
 have ty:s.TypeIs (.ref e) "enumerate":=⟨_,ge,rfl⟩;unfold pyNext;refine wpAny_bind<|wpAny_attempt<|wpAny_callSpecial?_slot (name:=Str.ofString "__next__") ty F.slot_enumerate_next<|wpAny_call_entry F.slot_enumerate_next ty F.entry_enumerate_next ?_<|F.args_enumerate_next_1 _;refine(show wpAny _ _ (field (.ref e) 2 >>= _) _ _ _ from wpAny_bind (wpAny_field ge rfl (x:=.ref j) rfl<|wpAny_bind (Zoj hh g l ex λh' x e' ⟨o,ho,hc⟩=>?_)));exact wpAny_bind<|wpAny_isInstance (T:="StopIteration") (b:=true) ⟨o,ho,hc⟩ isSubtype_stop<|wpAny_pure<|q _ e'
theorem Ztl (a:Addr) (ws:Array Value) (n:Nat) (dct:Option Addr) (sl:Array (Option Value)) :
  Meets (Builtin.«enumerate.__new__» ⟨[.type "enumerate",.ref a],[]⟩) (λ_ R s=>s.heap.get? a=some ⟨.type "tuple",dct,.seq ws n,sl⟩ /\
   R (.ok (.ret (.ref (zt1 s.heap a).objs.size))) { s with heap:=(zt1 s.heap a).push ⟨.type "enumerate",none,.fields #[.none,.bool false,.ref s.heap.objs.size,rawInt 0,.none,.none],#[]⟩ }):=.of_wp λprog w A R s h=>by
 obtain⟨hp,g,d,tk,os⟩:=s;obtain⟨l,h⟩:=h;have sub0:=sub_enumerate;have t0:Heap.IsTuple (Shared.heap ⟨hp,g,d,tk,os⟩) a ws:=⟨_,l,rfl,n,rfl⟩
 wp_walk using AutoSeq1.wpAny_loadPart' l
 refine wpAny_stack_any λst=>wpAny_pure ?_;split
 ·rename_i c _ _ _ _ _
  cases (c == Value.type "enumerate") <;> (wp_walk using AutoSeq1.wpAny_loadPart' l,wpAny_pyIter_tuple t0;exact⟨_,rfl,h⟩)
 ·wp_walk using AutoSeq1.wpAny_loadPart' l,wpAny_pyIter_tuple t0
  exact⟨_,rfl,h⟩
theorem Zw8 {b:Bool}{a:Addr}{ws:Array Value}{Q:Value->Shared->Prop}(l:HsB b s.heap a ws)
  (q:∀h',IsEnum h' (s.heap.objs.size+1) s.heap.objs.size 0 .none->ItB b h' s.heap.objs.size a 0->(∀c o,s.heap.get? c=some o->h'.get? c=some o)->Q (.ref<|s.heap.objs.size+1) { s with heap:=h' }):wpAny (model prog w) A (call (.type "enumerate") [.ref a]) Q E s:=by
 cases b
 ·exact call_enumerate_list l λh' b1 b2 _ b3=>q h' b1 b2 b3
 ·obtain⟨⟨oc,od,oda,os⟩,l1,hc,n,hd⟩:=l
  dsimp only at hc hd;subst hc hd;refine callType_new F.called_enumerate (by decide) (F.typeCall_enumerate_1 _) (F.newCall_enumerate_1 _) (λobj=>F.args_object_init_2 obj _) F.entry_enumerate_new (Ztl a ws n od os) ⟨l1,?_⟩;have z1:(zt1 s.heap a).objs.size=s.heap.objs.size+1:=Wcc ..;show _/\_;rw[z1];have he:IsEnum ((zt1 s.heap a).push ⟨.type "enumerate",none,.fields #[.none,.bool false,.ref s.heap.objs.size,rawInt 0,.none,.none],#[]⟩) (s.heap.objs.size+1) s.heap.objs.size 0 .none:=by
   rw[<- z1];exact Wao _ rfl
  exact⟨⟨_,he,rfl⟩,q _ he ⟨_,Wad _<|Wao _ rfl,rfl,rfl⟩ λc o z=>Wad _<|Wad _ z⟩
end
def Ieb (b:Bool) (K:W.Frag) (l:Addr):It:=
 ⟨λi H=>∃xs x,SqB b K H l xs/\xs[i]?=some x,
  λi H v H'=>∃p x,H p=none/\v=.ref p/\H'=upd H p (.tup [.int (i:Int),x])/\∀xs,SqB b K H l xs->xs[i]?=some x,
  λi H=>∃xs,SqB b K H l xs/\xs.length<=i⟩
theorem Zw7 {b:Bool}{P:Program}{w:World}{K:W.Frag}{es:List Expr}{kk:Nat}{tp:Pos}(l z j:Addr) (D:z≠j):Turn P w K (.Tuple es kk tp) (Ieb b K l) [z,j] z
  (λi h=>(∃old,IsEnum h z j i old)/\ItB b h j l i) where
 mem:=by simp
 obj:=λi h st b2 hb=>by
  obtain⟨⟨old,hz⟩,h1⟩:=st;obtain⟨o1,e1,d1⟩:=h1.obj;simp only[Wan,Wbk,or_false]at hb;rcases hb with rfl|rfl
  ·exact⟨_,hz,λv q=>by cases q⟩
  ·exact⟨o1,e1,λv q=>by rw[d1]at q;cases q⟩
 keep:=λi h h' st k=>by
  obtain⟨⟨old,hz⟩,h1⟩:=st;exact⟨⟨old,k z (by simp) _ hz⟩,h1.at λo e=>k j (by simp) o e⟩
 item:=by
  intro X hP hw hK hc i pins s U H E I hf st hg;subst hP hw hK;obtain⟨⟨old,hz⟩,h1⟩:=st;obtain⟨xs,x,hq1,hx⟩:=hg;obtain⟨its1,r1,p1⟩:=I.seqB hq1;obtain⟨u1,hu1,ru1⟩:=r1.get hx;refine Zu6 hz h1 p1 (x:=u1) (by simpa using hu1) D λh' b1 b2 b3 hk=>?_;refine⟨_,rfl,wpAny_letOwnedTupleGo_enum (s:={ s with heap:=h',toks:=s.toks+1 }) b1 λh'' hz'' hs''=>?_⟩;have lt:∀{c o},s.heap.get? c=some o->c≠s.heap.objs.size:=λe=>Way<|Wap e;have hTz:s.heap.objs.size≠z:=Ne.symm<|lt hz;have hTfree:H s.heap.objs.size=none:=I.hok.fresh<|Wag _;have kept:∀c o,c ∉ [z,j]->s.heap.get? c=some o->h''.get? c=some o:=λc o hc e=>by
   simp only[Wan,Wbk,or_false,not_or]at hc;exact hs''.extBut _ _ hc.1<|hk c o hc.1 hc.2 e
  have hT:h''.get? s.heap.objs.size=some { cls:=.type "tuple",data:=.seq #[.int i s.toks,u1] }:=hs''.extBut _ _ hTz b3;have ntr:∀c o,H c=some o->c ∉ [z,j]:=λc o e hc=>by rw[(hf c hc).1]at e;cases e
  have hok:HOk X.prog X.w (upd H s.heap.objs.size (.tup [.int (i:Int),x])) h'':=λc o e=>by
   by_cases hcT:c=s.heap.objs.size
   ·subst hcT
    rw[Zao]at e;cases e;exact⟨by show 2<=sizeLine;decide,[.int i s.toks,u1],.cons ⟨_,rfl⟩ (.cons ru1 .nil),_,hT,⟨rfl,_,rfl⟩,rfl⟩
   ·rw[Zak hcT]at e
    refine(I.hok c o e).stay (λd v hd q=>kept d v ?_ q) (λd q=>by rw[Zak (Zal q hTfree)];exact q) λd zs q=>by rw[Zak (Zal q hTfree)];exact q
    rcases hd with hd|hd
    ·rw[hd];exact ntr c o e
    ·exact ntr d _ hd
  have I2:Inv X pins U (upd H s.heap.objs.size (.tup [.int (i:Int),x])) { s with heap:=h'',toks:=s.toks+1 }:=by
   refine I.call (g':=s.gens) (t':=s.toks+1) (d':=s.drawn) (ch:=[z,j]) ⟨λc o e n hc hx=>kept c o hx e,λc o e n hc hx=>⟨o.slots,kept c o hx e⟩,λc o e n hx=>by rw[Zak (lt e)];exact n,λc o e hx=>⟨o,kept c o hx e⟩,
    λc zs q=>by rw[Zak (Zal q hTfree)];exact q,λc o zs q=>by rw[Zak (Zal q hTfree)];exact q,λc zs q=>⟨#[],by rw[Zak (Zal q hTfree),q];simp⟩⟩ hok I.bare λc hcc=>?_
   obtain⟨f0,f1,f2,f3,f4,f5⟩:=hf c hcc;exact⟨f3,f1,f4,f5⟩
  refine⟨.ref s.heap.objs.size,_,I2,rfl,⟨s.heap.objs.size,x,hTfree,rfl,rfl,λxs' q1=>?_⟩,⟨⟨_,by have:=hz'';push_cast at this ⊢;exact this⟩,b2.off hs''.extBut<|Ne.symm D⟩,λc hcc=>?_⟩
  ·rw[I.seqB_inj q1 hq1];exact hx
  ·have hcl:c≠s.heap.objs.size:=by
    simp only[Wan,Wbk,or_false]at hcc;obtain⟨_,e1,_⟩:=h1.obj;rcases hcc with rfl|rfl
    ·exact lt hz
    ·exact lt e1
   rw[Zak hcl];exact(hf c hcc).1
 done:=by
  intro X hP hw hK hc i pins s U H E I hf st hg;subst hP hw hK;obtain⟨⟨old,hz⟩,h1⟩:=st;obtain⟨xs,hq1,hend⟩:=hg;obtain⟨its1,r1,p1⟩:=I.seqB hq1;have l1':=r1.length;refine Zzo (I.ok.hd hc) hz h1 p1 (by simp;omega) λh' hk=>⟨rfl,?_⟩;have kept:∀c o,c ∉ [z,j]->s.heap.get? c=some o->h'.get? c=some o:=λc o hc e=>by
   simp only[Wan,Wbk,or_false,not_or]at hc;exact hk c o hc.2 e
  have ntr:∀c o,H c=some o->c ∉ [z,j]:=λc o e hc=>by rw[(hf c hc).1]at e;cases e
  refine I.call (g':=s.gens) (t':=s.toks) (d':=s.drawn) (ch:=[z,j]) ⟨λc o e n hc hx=>kept c o hx e,λc o e n hc hx=>⟨o.slots,kept c o hx e⟩,λc o e n hx=>n,λc o e hx=>⟨o,kept c o hx e⟩,
   λc zs q=>q,λc o zs q=>q,λc zs q=>⟨#[],by rw[q];simp⟩⟩ (λc o e=>?_) I.bare λc hcc=>?_
  ·refine(I.hok c o e).stay (λd v hd q=>kept d v ?_ q) (λd q=>q) λd zs q=>q
   rcases hd with hd|hd
   ·rw[hd];exact ntr c o e
   ·exact ntr d _ hd
  ·obtain⟨f0,f1,f2,f3,f4,f5⟩:=hf c hcc
   exact⟨f3,f1,f4,f5⟩
 self:=λ_ _ _ _ _ st h=>by
  obtain⟨⟨old,hz⟩,_⟩:=st;exact wpAny_pyIter_enum hz h
theorem Zj4:bootBuiltins "enumerate" = some (.type "enumerate"):=by kernel_rfl
section
variable {X:Cx}
def iEnum (K:W.Frag) (ta:TA):TI:=λU H R=>ta U H λvs H1=>∃b l,vs=[.ref l]/\(∃xs,SqB b K H1 l xs)/\R (Ieb b K l) H1
theorem Zfu (K:W.Frag) {es:List Expr}{kk:Nat}{tp:Pos}{a:Expr}{ta:TA}{p pos:Pos}(hg:Gl X "enumerate") (hm:X.mg "enumerate" = none) (ha:PA X [a] ta) (hs:starEach [a] X.env=[(false,eval a X.env)]:=by rfl) (hs2:starEach [] X.env=[]:=by rfl) (hK:X.K=K:=by rfl) :
  PI X (.Tuple es kk tp) (.Call (.Name "enumerate" p) [a] [] pos) (iEnum K ta):=by
 subst hK;intro pins s U H R I h;refine Call_<|Zd2 I hg hm (Zj4)<|PyProof.Rows.callWith_type1 (thn (ha pos pins s U H _ I h) λus s1 ⟨vs,H1,I1,r1,q1⟩=>?_) (by rw[hs,hs2]) (by rw[hs2];rfl);obtain⟨b,l1,e,⟨xs,hx⟩,q⟩:=q1;subst e;obtain⟨u1,rfl,q1⟩:=vals1 r1;cases (show u1=Value.ref l1 from q1);obtain⟨its1,w1,p1⟩:=I1.seqB hx;refine Zw8 p1 λh' b1 b2 hk=>?_;refine wpAny_pyIter_enum b1 ?_;have I2:Inv X pins U H1 { s1 with heap:=h' }:=I1.kept (t':=s1.toks) hk;refine⟨s1.heap.objs.size+1,[s1.heap.objs.size+1,s1.heap.objs.size],_,_,H1,rfl,I2,Zw7 l1 _ _<|Nat.succ_ne_self _,⟨⟨_,b1⟩,b2⟩,λb hb=>?_,q⟩;have hge:s1.heap.objs.size<=b:=by
  simp only[Wan,Wbk,or_false]at hb;rcases hb with rfl|rfl <;> omega
 exact I1.fpOk hge<|I1.hok.fresh hge
def rMin1 (K:W.Frag):List V->Hp->VK->Prop:=λxs H Q=>∃(b:Bool) (p:Addr) (ns:List Int),xs=[.ref p]/\SqB b K H p (ns.map V.int)/\0<ns.length/\∀m,m∈ns->(∀a∈ns,m<=a)->Q (.int m) H
theorem minK (K:W.Frag) (hc:X.calm=true) (hK:X.K=K:=by rfl):CallR X (.builtin "min") (rMin1 K):=by
 subst hK;intro pins s U H xs us Q I r h;obtain⟨b,p,ns,rfl,hx,hne,q⟩:=h;obtain⟨u,rfl,ru⟩:=vals1 r;cases (show u=Value.ref p from ru);obtain⟨its,w1,p1⟩:=I.seqB hx;have hlt:=p1.lt;have hl:=w1.length;rw[Wab]at hl;have hv:∀(i:Nat) v,its.toArray[i]?=some v->∃t,v=Value.int (ns.getD i 0) t:=λi v e=>by
  have hi:i<its.length:=by simpa using (Array.getElem?_eq_some_iff.mp e).1
  obtain⟨v',e1,t,e2⟩:=w1.get (i:=i) (x:=.int<|ns.getD i 0) (by rw[Wae,Wac,Waa (by omega)];rfl);rw[Wcr,e1]at e;cases e;exact⟨t,e2⟩
 have fin:∀{h':Heap}{tk:Nat}{v:Value},its.toArray[argBest (λi j=>decide (ns.getD i 0<ns.getD j 0)) (its.toArray.size-1)]?=some v->(∀c o,s.heap.get? c=some o->h'.get? c=some o)->EP X pins U Q v { s with heap:=h',toks:=tk }:=λ{h' tk v} hP hk=>by
  obtain⟨t,rfl⟩:=hv _ _ hP;obtain⟨h1,h2⟩:=argBest_lt (λi=>ns.getD i 0)<|its.toArray.size-1;have hz:its.toArray.size=ns.length:=by simp[hl]
  rw[hz]at h1 h2 ⊢;refine⟨.int<|ns.getD (argBest (λi j=>decide (ns.getD i 0<ns.getD j 0))<|ns.length-1) 0,H,I.kept hk,⟨_,rfl⟩,q _ ?_ λa ha=>?_⟩
  ·rw[Wac,Waa (by omega)];exact Wa8 _
  ·obtain⟨j,hj,rfl⟩:=List.mem_iff_getElem.mp ha
   have:=h2 j (by omega);rw[Wac (l:=ns) (i:=j),Waa hj]at this;exact this
 have old:∀{o:Obj}{h':Heap},(∀c u,c ∉ [s.heap.objs.size]->(s.heap.push o).get? c=some u->h'.get? c=some u)->∀c u,s.heap.get? c=some u->h'.get? c=some u:=λhk c u e=>hk c u (λhm=>by
  have:c=s.heap.objs.size:=by simpa using hm
  exact absurd (this ▸ Wap e) (Wch _)) (Wad _ e)
 have fp:∀o:Obj,∀c∈[s.heap.objs.size,p],c<(s.heap.push o).objs.size:=λo c hc=>by
  rw[Wcc];simp only[Wan,Wbk,or_false]at hc;rcases hc with rfl|rfl
  ·exact Wc3 _
  ·exact Wbo hlt
 cases b
 ·refine call_min_walk (wpAny_pyIter_list p1 ?_)
  exact⟨_,_,_,_,_,_,_,rfl,Walks.list (A:=X.A.in1) (I.ok.hd hc) _ p (Way hlt) its.toArray,⟨⟨_,Wao _ rfl,rfl,rfl⟩,Heap.IsList.push p1 _⟩,fp _,by simp;omega,CmpOf.ints_lt (λi=>ns.getD i 0) hv,λv h' tk hP hk=>fin hP<|old hk⟩
 ·refine call_min_walk (wpAny_pyIter_tuple p1 ?_)
  exact⟨_,_,_,_,_,_,_,rfl,Walks.tuple (A:=X.A.in1) (I.ok.hd hc) _ p (Way hlt) its.toArray,⟨⟨_,Wao _ rfl,rfl,rfl⟩,Heap.IsTuple.push p1 _⟩,fp _,by simp;omega,CmpOf.ints_lt (λi=>ns.getD i 0) hv,λv h' tk hP hk=>fin hP<|old hk⟩
end
section
variable {K:W.Frag}{Z:Evt}
theorem Zru {ns:List Int}{m:Int}{d:D}{P:D->Evt->Prop}(hd:d=.lst (ns.map .int)\/d=.tup (ns.map .int)) (hm:m∈ns) (hle:∀a∈ns,m<=a) (p:P (.int m) Z):JC K (rMin1 K) [d] Z P:=λg G H U Q vs k rs c=>by
 have fin:∀m',m'∈ns->(∀a∈ns,m' <= a)->Q (.int m') H:=λm' h1 h2=>by
  have:m'=m:=Int.le_antisymm (h2 m hm)<|hle m' h1;subst this;exact c _ _ G H Z k (Same.refl _) (.int _) p
 have pos:0<ns.length:=Wb9 hm;obtain⟨_,_,rfl,r,t⟩:=rs.inv
 next=>
  cases t.inv;rcases hd with hd|hd <;> subst hd
  ·obtain⟨_,_,rfl,ha,rs⟩:=r.inv
   next=>have:=rs.ints;subst this;exact⟨false,_,ns,rfl,SqL.of<|k.live _ _ ha,pos,fin⟩
  ·obtain⟨_,_,rfl,ha,rs⟩:=r.inv
   next=>have:=rs.ints;subst this;exact⟨true,_,ns,rfl,SqT.of<|k.live _ _ ha,pos,fin⟩
def enD (ds:List D):List D:=ds.zipIdx.map λp=>D.tup [.int (p.2:Int),p.1]
theorem Zlb (ds:List D):(enD ds).length=ds.length:=by unfold enD;rw[Wab,List.length_zipIdx]
theorem Zqb {ds:List D}{i:Nat}{e:D}(h:(enD ds)[i]?=some e):∃d,ds[i]?=some d/\e=.tup [.int (i:Int),d]:=by
 unfold enD at h;rw[Wae,List.getElem?_zipIdx]at h;cases q:ds[i]? with
 |none=>rw[q]at h;cases h
 |some d=>rw[q]at h;refine⟨d,rfl,?_⟩;simpa using h.symm
theorem Zjt {b:Bool}{G:Hp}{l1:Addr}{xs:List V}{ds:List D}(h1:∀G1 H1,Same G G1->Same G1 H1->SqB b K H1 l1 xs) (r1:Reps K G xs ds):ItOk K G (Ieb b K l1) (enD ds):=λG1 H1 sg sh=>by
 have hl1:=r1.length;have e1:=h1 G1 H1 sg sh;refine⟨⟨xs,e1,by rw[Zlb];omega⟩,λi d hd=>?_⟩;obtain⟨d0,q,rfl⟩:=Zqb hd;obtain⟨u,hu,ru⟩:=r1.get q;refine⟨⟨xs,u,e1,hu⟩,λx H2 ⟨p,a,hp,ex,eH,hab⟩=>?_⟩;have ha:=hab xs e1;rw[hu]at ha;cases ha;subst ex;subst eH;have hG:G1 p=none:=by
  cases z:G1 p with
  |none=>rfl
  |some o=>rw[sh _ _ z]at hp;cases hp
 refine⟨upd G1 p (.tup [.int (i:Int),u]),λc o e=>by rw[Zak (Zal e hG)];exact e,λc o e=>by rw[Zak (Zal e hp)];exact e,λc o e=>?_,?_⟩
 ·by_cases hc:c=p
  ·subst hc;rw[Zao]at e ⊢;exact⟨e,.inr hp⟩
  ·rw[Zak hc]at e ⊢;exact⟨sh c o e,.inl e⟩
 ·have sg2:Same G1 (upd G1 p (.tup [.int (i:Int),u])):=λc o e=>by rw[Zak (Zal e hG)];exact e
  exact .tup Zao (.cons (.int _) (.cons ((ru.mono sg).mono sg2) .nil))
theorem Zpa {ta:TA}{P:List D->Evt->Prop}(h:JA K ta Z λds Z1=>∃as,(ds=[.lst as]\/ds=[.tup as])/\P (enD as) Z1):JI K (iEnum K ta) Z P:=λg G H U R k c=>
 h g G H U _ k λvs ds G1 H1 Z1 k1 s1 r1 hq_=>by
  obtain⟨as,e,p1⟩:=hq_;rcases e with e|e
  ·subst e
   obtain⟨_,_,rfl,ra,rr⟩:=r1.inv
   next=>
    cases rr.inv;obtain⟨_,_,rfl,ha,rsa⟩:=ra.inv
    next=>exact⟨false,_,rfl,⟨_,SqL.of<|k1.live _ _ ha⟩,c _ _ G1 H1 Z1 k1 s1 (Zjt (λ_ _ sg sh=>SqL.of<|sh _ _<|sg _ _ ha) rsa) p1⟩
  ·subst e
   obtain⟨_,_,rfl,ra,rr⟩:=r1.inv
   next=>
    cases rr.inv;obtain⟨_,_,rfl,ha,rsa⟩:=ra.inv
    next=>exact⟨true,_,rfl,⟨_,SqT.of<|k1.live _ _ ha⟩,c _ _ G1 H1 Z1 k1 s1 (Zjt (λ_ _ sg sh=>SqT.of<|sh _ _<|sg _ _ ha) rsa) p1⟩
end
open PySem PySem.Spec PyProof.Rows PySem.SeqAt
theorem Zna (l b:Addr) (items items2:Array Value) (n n2:Nat) (dd dd2:Option Addr) (sl sl2:Array (Option Value)) :
  Meets (Builtin.«tuple.__lt__» ⟨[.ref l,.ref b],[]⟩)
   (λA R s=>s.heap.get? l=some { cls:=.type "tuple",dict:=dd,data:=.seq items n,slots:=sl } /\ s.heap.get? b=some { cls:=.type "tuple",dict:=dd2,data:=.seq items2 n2,slots:=sl2 } /\
    (items2.size=0\/∃(y x:Int) (ty tx:Tok) (ys xs:List Value),items.toList=.int y ty::ys/\items2.toList=.int x tx::xs/\x<y) /\
    R (.ok (.ret (.bool false))) s):=
 .of_wp λprog w A R s h=>by
  obtain⟨hp,g,d,tk,os⟩:=s;obtain⟨hl,hb,he,h⟩:=h;have f2:=AutoSeq1.sub_tuple_tuple
  wp_walk using wpAny_loadPart' hl,wpAny_loadPart' hb,wpAny_forIn_list _ (λrest b s'=>b.1=none/\s'=⟨hp,g,d,tk,os⟩ /\ rest=items.toList.zip items2.toList) _
  case turn=>
   rintro⟨y,x⟩ rest b s' ⟨hb',rfl,hz⟩;rcases he with he|⟨y',x',ty,tx,ys,xs,e1,e2,hlt⟩
   ·have:items2.toList=[]:=by rw[Array.toList_eq_nil_iff];exact Array.eq_empty_of_size_eq_zero he
    rw[this,Wee]at hz;cases hz
   ·rw[e1,e2,Wcg]at hz
    injection hz with hz1 hz2
    injection hz1 with hy hx
    subst hy hx;refine wpAny_bind<|EqAt.int_int y' ty x' tx prog w _ _ ?_;have e:(y' == x')=false:=by rw[beq_eq_false_iff_ne];omega
    rw[e];simp only[Wd1,if_true];refine wpAny_bind<|wpAny_rule<|wpAny_bind ?_;refine PyProof.Rows.lt_int ?_;rw[decide_eq_false (show ¬ y'<x' by omega)];exact wpAny_bind<|wpAny_pure<|wpAny_pure<|wpAny_pure ⟨_,rfl,h⟩
  case fin=>
   rintro⟨b1,b2⟩ s' ⟨hb',rfl,hz⟩;simp only at hb';subst hb';have hz2:items2.size=0:=by
    rcases he with he|⟨y',x',ty,tx,ys,xs,e1,e2,hlt⟩
    ·exact he
    ·rw[e1,e2,Wcg]at hz;cases hz
   refine wpAny_pure ⟨_,rfl,?_⟩;rw[hz2];exact h
  case h=>
   exact⟨rfl,rfl,rfl⟩
theorem Zq0:∀n:Nat,n<200->minRun' n n 0<=n:=by decide +kernel
section
variable {prog:Program}{w:World}{A:Around}{E:Value->Shared->Prop}{s:Shared}
theorem Zvq {st:SortSt}{nrem a:Nat}{Q:AscSt->SortSt->Prop}(hc:∀i,1<=i->i<nrem->∀Q:Option Bool->SortSt->Prop,Q (some false) st->wpS (model prog w) A E s (ltAt' i<|i-1) Q st) (ha:1<=a) (han:a<=nrem) (h:Q (none,nrem) st) :
  wpS (model prog w) A E s (ascLoop a nrem) Q st:=by
 unfold ascLoop;refine wpS_forRange (I:=λx c st'=>st'=st/\c=(none,x)) ?step ?fin ⟨rfl,rfl⟩
 case fin=>
  rintro c st' ⟨rfl,rfl⟩;rw[show max a nrem=nrem by omega];exact h
 case step=>
  rintro x c st' hax hxn ⟨rfl,rfl⟩;dsimp only;refine wpS_bind<|hc x (by omega) hxn _ ?_;simp only[Wav,if_false];exact wpS_pure ⟨rfl,rfl⟩
theorem Ztj {st:SortSt}{n:Nat}{Q:Unit->SortSt->Prop}(hs:(arrOf st).size=n) (hp:pendingOf st = #[]) (h2:2<=n) (hn:n<200) (hc:∀i,1<=i->i<n->∀Q:Option Bool->SortSt->Prop,Q (some false) st->wpS (model prog w) A E s (ltAt' i<|i-1) Q st)
  (h:∀st',arrOf st'=arrOf st->failedOf st'=failedOf st->Q () st'):wpS (model prog w) A E s sortRuns' Q st:=by
 have hmr:=Zq0 n hn;rw[sortRuns'_eq];refine wpS_bind (wpS_get ?_);dsimp only;simp only[hs];refine wpS_bind (wpS_mono (wpS_forRange
  (I:=λx c st'=>(x=0/\c=(none,0)/\st'=st)\/(1<=x/\c=(none,n)/\st'=setPending st #[(0,n,0)]))
  (Q:=λc st'=>c=(none,n)/\st'=setPending st #[(0,n,0)]) ?step ?fin (.inl ⟨rfl,rfl,rfl⟩)) ?post)
 case fin=>
  rintro c st' (⟨hx,_,_⟩|⟨_,hc,hD⟩)
  ·omega
  ·exact⟨hc,hD⟩
 case step=>
  rintro x c st' _ hx (⟨rfl,rfl,rfl⟩|⟨hx1,rfl,rfl⟩)
  ·dsimp only
   rw[if_neg (by omega)];simp only[Wep,Nat.zero_add];rw[countRun0_eq];refine wpS_bind<|wpS_bind<|Zvq hc (Wag 1) (by omega) ?_;dsimp only;rw[if_pos (by simp)];refine wpS_pure ?_;dsimp only;rw[if_neg (by omega)];refine wpS_bind<|wpS_get ?_;rw[hp];refine wpS_bind<|wpS_modify<|wpS_pure (.inr ⟨by omega,rfl,?_⟩);rw[hp];rfl
  ·dsimp only
   rw[if_pos (Wag _)];exact wpS_pure ⟨rfl,rfl⟩
 case post=>
  rintro c st' ⟨rfl,rfl⟩;dsimp only;refine wpS_bind<|wpS_mono (wpS_forRange (I:=λ_ c st''=>st''=setPending st #[(0,n,0)]/\c=(none,())) (Q:=λc st''=>st''=setPending st #[(0,n,0)]/\c=(none,())) ?_ (λ_ _ hh=>hh) ⟨rfl,rfl⟩) ?_
  ·rintro x c st'' _ _ ⟨rfl,rfl⟩
   refine wpS_bind<|wpS_get ?_;rw[if_pos (show (pendingOf<|setPending st #[(0,n,0)]).size<=1 from Wag 1)];exact wpS_pure ⟨rfl,rfl⟩
  ·rintro c st'' ⟨rfl,rfl⟩
   exact wpS_pure<|h _ rfl rfl
def KeepBut (a:Addr) (h h':Heap):Prop:=∀b o,b≠a->h.get? b=some o->h'.get? b=some o
theorem Zi1 {a:Addr}{vs:List Value}{n:Nat}{κ:SortKind}{P:Fin->Shared->Prop}(ho:s.heap.get? a=some (seqObj "list" vs.toArray n)) (hz:vs.length<200)
  (hk:2<=vs.length->∀h',KeepBut a s.heap h' -> ∀Q:SortKind->Shared->Prop,Q κ { s with heap:=h' } -> wpAny (model prog w) A (keyKind' vs.toArray) Q E { s with heap:=h' })
  (hc:∀h',KeepBut a s.heap h' -> ∀i,1<=i->i<vs.length->∀(E:Value->Shared->Prop) (Q:Bool->Shared->Prop),Q false { s with heap:=h' } -> wpAny (model prog w) A (keyLt' κ (vs.getD i .none)<|vs.getD (i-1) .none) Q E { s with heap:=h' })
  (h:P (.done (.ret .none)) { s with heap:=sortedHeap s.heap a vs vs.toArray }):wpAny (model prog w) A (Builtin.«list.sort» ⟨[.ref a],[]⟩) P E s:=by
 rw[list_sort_plain];have ha:a<s.heap.objs.size:=Wap ho;have hsz:vs.toArray.size=vs.length:=by simp
 have hline:vs.length<=sizeLine:=by rw[sizeLine_eq];omega
 refine wpAny_bind<|listItems_at ho rfl ?_;refine wpAny_bind<|listUpdate_at ho rfl ?_ (by rw[hsz];exact hline)<|Wbn _;obtain⟨e1,ho1⟩:∃e1,(s.heap.update a (Obj.mapSeq λ_=>#[])).get? a=some (seqObj "list" #[] e1):=⟨_,get?_update_seq ho λ_=>#[]⟩;refine wpAny_bind<|seqEpoch_at ho1 rfl ?_;refine wpAny_bind<|wpAny_newTuple ?_ hline;refine wpAny_bind<|wpAny_newList ?_<|Wbn _;refine wpAny_holding ?_;have ho6:(((s.heap.update a (Obj.mapSeq λ_=>#[])).push (seqObj "tuple" vs.toArray 0)).push (seqObj "list" #[] 0)).get? a=some (seqObj "list" #[] e1):=by
  rw[Wd4 _ _ _ (by rw[size_push',Wet];exact Way<|Wbo ha),Wd4 _ _ _ (by rw[Wet];exact Way ha)];exact ho1
 have keep:KeepBut a s.heap (((s.heap.update a (Obj.mapSeq λ_=>#[])).push (seqObj "tuple" vs.toArray 0)).push (seqObj "list" #[] 0)):=λb o hb q=>
  Wad _ (Wad _ ((Heap.get?_update_ne _ _ _ _ hb).trans q))
 show wpAny (model prog w) A _ P E { s with heap:=((s.heap.update a (Obj.mapSeq λ_=>#[])).push (seqObj "tuple" vs.toArray 0)).push (seqObj "list" #[] 0) };dsimp only;have out:((vs.toArray.zip vs.toArray).map (·.2))=vs.toArray:=by
  apply Array.toList_inj.mp;rw[Array.toList_map,Array.toList_zip];exact List.map_snd_zip<|Wag _
 by_cases h2:vs.toArray.size<2
 ·rw[if_pos h2,if_pos h2]
  refine wpAny_bind<|wpAny_pure ?_;rw[StateT.run_pure];refine wpAny_bind<|wpAny_pure ?_;dsimp only;refine wpAny_bind<|seqEpoch_at ho6 rfl ?_;rw[show arrOf (SortSt.mk' general' (vs.toArray.zip vs.toArray) #[] 7 none)=vs.toArray.zip vs.toArray from rfl,out];refine wpAny_bind<|listUpdate_at ho6 rfl ?_ (Wbn _) (by rw[hsz];exact Wdk hline);simp only[bne_self_eq_false,Wav,if_false];exact wpAny_pure h
 ·rw[if_neg h2,if_neg h2]
  refine wpAny_bind<|hk (by omega) _ keep _ ?_;refine wpAny_bind (wpAny_mono (Ztj (n:=vs.length) (st:=SortSt.mk' κ (vs.toArray.zip vs.toArray) #[] 7 none) (Q:=λ_ st'=>arrOf st'=vs.toArray.zip vs.toArray/\failedOf st'=none) ?_ rfl (by omega) hz ?_ ?_) ?_ λ_ _ e=>e)
  ·show (vs.toArray.zip vs.toArray).size=_
   rw[Array.size_zip,hsz,Nat.min_self]
  ·intro i h1 hi Q hq
   have g:∀j,j<vs.length->(arrOf<|SortSt.mk' κ (vs.toArray.zip vs.toArray) #[] 7 none)[j]?=some (vs.getD j .none,vs.getD j .none):=λj hj=>by
    show (vs.toArray.zip vs.toArray)[j]?=_;rw[<- Array.getElem?_toList,Array.toList_zip];show (vs.zip vs)[j]?=_;rw[Wcb,Wac,Waa hj];exact⟨rfl,rfl⟩
   rw[ltAt'_eq];refine wpS_bind<|wpS_get ?_;show wpS _ _ _ _ (do let x <- elem' (arrOf<|SortSt.mk' κ (vs.toArray.zip vs.toArray) #[] 7 none) i;let y <- elem' (arrOf<|SortSt.mk' κ (vs.toArray.zip vs.toArray) #[] 7 none) (i-1);lt' x y) Q _;rw[elem'_eq,elem'_eq,g i hi,g (i-1) (by omega)];refine wpS_bind<|wpS_pure<|wpS_bind<|wpS_pure ?_;rw[lt'_eq];refine wpS_bind<|wpS_get ?_;refine wpS_bind<|wpS_lift<|wpAny_attempt<|hc _ keep i h1 hi _ _ ⟨rfl,?_⟩;exact wpS_pure hq
  ·exact λst' a1 a2=>⟨a1,a2⟩
  rintro⟨⟨⟩,st'⟩ s' ⟨rfl,har,hf⟩;dsimp only;refine wpAny_bind<|seqEpoch_at ho6 rfl ?_;rw[har,out];refine wpAny_bind<|listUpdate_at ho6 rfl ?_ (Wbn _) (by rw[hsz];exact Wdk hline);rw[hf];simp only[bne_self_eq_false,Wav,if_false];exact wpAny_pure h
theorem Zeg {l:Addr}{vs:List Value}{κ:SortKind}{Q:Value->Shared->Prop}(hl:s.heap.IsList l vs.toArray) (hz:vs.length<200)
  (hk:2<=vs.length->∀h',(∀b o,s.heap.get? b=some o->h'.get? b=some o)->∀(E:Value->Shared->Prop) (Q:SortKind->Shared->Prop),Q κ { s with heap:=h' } -> wpAny (model prog w) A.in1.in1 (keyKind' vs.toArray) Q E { s with heap:=h' })
  (hc:∀h',(∀b o,s.heap.get? b=some o->h'.get? b=some o)->∀i,1<=i->i<vs.length->∀(E:Value->Shared->Prop) (Q:Bool->Shared->Prop),Q false { s with heap:=h' } -> wpAny (model prog w) A.in1.in1 (keyLt' κ (vs.getD i .none)<|vs.getD (i-1) .none) Q E { s with heap:=h' })
  (h:Q (.ref<|s.heap.objs.size+1) { s with heap:=sortedAll s.heap vs vs.toArray }):wpAny (model prog w) A (call (.builtin "sorted") [.ref l]) Q E s:=by
 have hline:vs.length<=sizeLine:=by rw[sizeLine_eq];omega
 refine Calls.call_function_entry kind_sorted plain_sorted entry_sorted (args_sorted1 _) ?_;unfold Builtin.«sorted»;refine wpAny_bind (m:=checkCount "sorted" 1 1 _)<|wpAny_pure ?_;refine wpAny_bind<|collect_list hl ?_ hline;refine wpAny_bind<|wpAny_newList ?_ hline;have hsz:((s.heap.push<|seqObj "list" #[] 0).update s.heap.objs.size (Obj.mapSeq (· ++ vs.toArray))).objs.size=s.heap.objs.size+1:=by
  rw[Wet,size_push']
 have hoL:(((s.heap.push<|seqObj "list" #[] 0).update s.heap.objs.size (Obj.mapSeq (· ++ vs.toArray))).push (seqObj "list" vs.toArray 0)).get? (s.heap.objs.size+1)=some (seqObj "list" vs.toArray 0):=by
  rw[<- hsz];exact Wao _ rfl
 have keep:∀b o,s.heap.get? b=some o->(((s.heap.push<|seqObj "list" #[] 0).update s.heap.objs.size (Obj.mapSeq (· ++ vs.toArray))).push (seqObj "list" vs.toArray 0)).get? b=some o:=λb o q=>by
  have hlt:b<s.heap.objs.size:=Wap q;rw[Wd4 _ _ _ (by rw[hsz];exact Way<|Wbo hlt),Heap.get?_update_ne _ _ _ _ (Way hlt),Wd4 _ _ _ (Way hlt)];exact q
 have up:∀h',KeepBut (s.heap.objs.size+1) (((s.heap.push<|seqObj "list" #[] 0).update s.heap.objs.size (Obj.mapSeq (· ++ vs.toArray))).push (seqObj "list" vs.toArray 0)) h' -> ∀b o,s.heap.get? b=some o->h'.get? b=some o:=λh' k b o q=>
  k b o (Way<|Wbo<|Wap q) (keep b o q)
 show wpAny _ _ _ _ _ { s with heap:=((s.heap.push<|seqObj "list" #[] 0).update s.heap.objs.size (Obj.mapSeq (· ++ vs.toArray))).push (seqObj "list" vs.toArray 0) };rw[hsz];refine wpAny_bind<|wpAny_holding<|wpAny_call_entry slot_list_sort ⟨_,hoL,rfl⟩ entry_list_sort (Zi1 (κ:=κ) hoL hz (λh2 h' k Q q=>hk h2 h' (up h' k) _ Q q) (λh' k i h1 hi E Q q=>hc h' (up h' k) i h1 hi E Q q) ⟨_,rfl,?_⟩)<|args_list_sort _;exact wpAny_pure ⟨_,rfl,h⟩
end
def rowLe (a b:List Int):Prop:=a=[]\/∃x y s t,a=x::s/\b=y::t/\x<y
def Asc (rs:List (List Int)):Prop:=∀i a b,rs[i]?=some a->rs[i+1]?=some b->rowLe a b
def RowAt (h:Heap) (v:Value) (r:List Int):Prop:=∃(a:Addr) (its:List Value),v=.ref a/\IsTup h a its.toArray/\IntsAre its r
theorem RowAt.keep {h h':Heap}{v:Value}{r:List Int}(x:RowAt h v r) (k:∀b o,h.get? b=some o->h'.get? b=some o):RowAt h' v r:=by
 obtain⟨a,its,e,⟨o,ho,hc⟩,i⟩:=x;exact⟨a,its,e,⟨o,k a o ho,hc⟩,i⟩
theorem Zbz {its:List Value}{x:Int}{r:List Int}(h:IntsAre its (x::r)):∃t us,its=.int x t::us/\IntsAre us r:=by
 cases its with
 |nil=>have:=h.length;simp at this
 |cons v us=>
  cases h with
  |cons _ _ b=>exact⟨_,_,rfl,b⟩
theorem Zg4 {its:List Value}(h:IntsAre its []):its=[]:=by
 cases its with
 |nil=>rfl
 |cons v us=>have:=h.length;simp at this
section
variable {prog:Program}{w:World}{A:Around}{E:Value->Shared->Prop}{s:Shared}
theorem Zgy:∀(vs:List Value) (rs:List (List Int)) {Q:List (Option Value)->Shared->Prop},Paired (RowAt s.heap) vs rs ->
  (∀fs:List (Option Value),Paired (λ(f:Option Value) (r:List Int)=>(r=[]/\f=none)\/∃x t l,r=x::l/\f=some (.int x t)) fs rs->Q fs s)->wpAny (model prog w) A (vs.mapM firstOfTuple') Q E s
 |[],[],_,_,h=>by rw[List.mapM_nil];exact wpAny_pure (h [] .nil)
 |v::vs,r::rs,Q,.cons p t,h=>by
  obtain⟨a,its,rfl,⟨o,ho,hc,n,hd⟩,hi⟩:=p;rw[List.mapM_cons];refine wpAny_bind ?_;rw[PySem.W.kas_first_eq];refine wpAny_bind<|PySem.W.Looks.here (show PySem.W.Looks (model prog w) s.heap (typeOf (.ref a)) o.cls from (PySem.W.Looks.ld ho).andThen .now) ?_;rw[hc,if_neg (by first|decide|simp)];refine wpAny_bind<|listItems_at ho hd<|wpAny_pure ?_;refine wpAny_bind (Zgy vs rs (Q:=λbs s'=>wpAny _ A (pure (its.toArray[0]?::bs)) Q E s') t λfs pf=>wpAny_pure<|h _ (.cons ?_ pf));cases r with
  |nil=>rw[Zg4 hi];exact .inl ⟨rfl,rfl⟩
  |cons x l=>
   obtain⟨t,us,rfl,_⟩:=Zbz hi;exact .inr ⟨x,t,l,rfl,by simp⟩
theorem Znq {vs:List Value}{rs:List (List Int)}(p:Paired (RowAt s.heap) vs rs):∀v∈vs,PySem.W.Looks (model prog w) s.heap (typeOf v) (.type "tuple"):=by
 intro v hv
 induction p with
 |nil=>cases hv
 |cons q t ih=>
  rcases Wan.mp hv with e|hv
  ·subst e
   obtain⟨a,its,rfl,⟨o,ho,hc,_⟩,_⟩:=q;have z:PySem.W.Looks (model prog w) s.heap (typeOf (.ref a)) o.cls:=(PySem.W.Looks.ld ho).andThen .now;rw[hc]at z;exact z
  ·exact ih hv
theorem Zn0 {vs:List Value}{rs:List (List Int)}{Q:SortKind->Shared->Prop}(p:Paired (RowAt s.heap) vs ([]::rs)) (h:Q oneType' s):wpAny (model prog w) A (keyKind' vs.toArray) Q E s:=by
 have hT:=Znq (prog:=prog) (w:=w) p;rw[keyKind'_eq,Wd2,map_eq_pure_bind];refine wpAny_bind<|wpAny_bind (Zgy vs _ p λfs pf=>wpAny_pure ?_);cases pf with
 |@cons f _ fs _ hf _=>
  have hf:f=none:=by
   rcases hf with z|⟨x,t,l,z,_⟩
   ·exact z.2
   ·cases z
  subst hf;rw[if_neg (by simp),if_neg (by simp)];rw[oneTypeOnly'_eq,Wd2,map_eq_pure_bind];refine wpAny_bind<|wpAny_bind<|wpAny_bind<|PySem.W.kas_mapM (r:=.type "tuple") _ (λv hv Q' hq=>(hT v hv).here hq)<|wpAny_pure ?_;cases p with
  |@cons v _ vs _ _ _=>
   have hall:((Wbl (λ_=>Value.type "tuple") (v::vs)).toArray.all λx=>x == Value.type "tuple")=true:=by
    simp only[List.all_toArray,List.all_map,Wcn];intro _ _;exact(by decide:(Value.type "tuple" == Value.type "tuple")=true)
   have h0:(Wbl (λ_=>Value.type "tuple") (v::vs)).toArray[0]?=some (Value.type "tuple"):=by simp
   rw[h0];simp only[hall,if_true];exact wpAny_pure<|wpAny_pure h
theorem Zoa {vs:List Value}{rs:List (List Int)}{Q:SortKind->Shared->Prop}(p:Paired (RowAt s.heap) vs rs) (hne:∀r∈rs,r≠[]) (h1:rs≠[]) (h:Q (tuples' true) s):wpAny (model prog w) A (keyKind' vs.toArray) Q E s:=by
 have ex:∃fs:List Value,PySem.W.KatTups s.heap vs fs/\fs.length=rs.length/\∀v∈fs,PySem.W.Looks (model prog w) s.heap (typeOf v) (.type "int"):=by
  clear h h1
  induction p with
  |nil=>exact⟨[],trivial,rfl,λ_ h=>nomatch h⟩
  |@cons v r vs rs q t ih=>
   obtain⟨fs,k1,k2,k3⟩:=ih λr hr=>hne r<|Waw _ hr;obtain⟨a,its,rfl,⟨o,ho,hc,n,hd⟩,hi⟩:=q;cases r with
   |nil=>exact absurd rfl (hne [] Wa7)
   |cons x l=>
    obtain⟨tk,us,rfl,_⟩:=Zbz hi;refine⟨.int x tk::fs,.cons ho hc hd (by simp) k1,by rw[Waj,Waj,k2],λv hv=>?_⟩;rcases Wan.mp hv with e|hv
    ·subst e;exact .now
    ·exact k3 v hv
 obtain⟨fs,k1,k2,k3⟩:=ex;have hpos:0<rs.length:=Wdu.mpr h1;exact PySem.W.kat_kind k1 (by omega) k3 (by decide) h
theorem Ztn {v u:Value}{a b:List Int}{Q:Bool->Shared->Prop}(hu:A.units<cLine) (pa:RowAt s.heap u a) (pb:RowAt s.heap v b) (hle:rowLe a b) (h:Q false s):wpAny (model prog w) A (keyLt' oneType' v u) Q E s:=by
 obtain⟨l,its,rfl,⟨⟨c1,d1,dt1,sl1⟩,ho,hc,n,hd⟩,hi⟩:=pb;obtain⟨k,its2,rfl,⟨⟨c2,d2,dt2,sl2⟩,ho2,hc2,n2,hd2⟩,hi2⟩:=pa;simp only at hc hd hc2 hd2;subst hc hd hc2 hd2;rw[keyLt'_oneType,oneLt'_eq];simp only[if_true];refine wpAny_bind<|wpAny_cRoomFor hu ?_;refine wpAny_bind<|wpAny_callSpecialIfBound?_slot (T:="tuple") ⟨_,ho,rfl⟩ F.slot_tuple_lt<|call_meets F.slot_tuple_lt ⟨_,ho,rfl⟩ F.entry_tuple_lt (F.args_tuple_lt_2 _ _) (Zna l k its.toArray its2.toArray n n2 d1 d2 sl1 sl2) ⟨ho,ho2,?_,?_⟩
 ·rcases hle with z|⟨x,y,s',t',rfl,rfl,hlt⟩
  ·subst z;rw[Zg4 hi2];exact .inl rfl
  ·obtain⟨t1,us1,rfl,_⟩:=Zbz hi
   obtain⟨t2,us2,rfl,_⟩:=Zbz hi2;exact .inr ⟨y,x,t1,t2,us1,us2,rfl,rfl,hlt⟩
 ·exact wpAny_truthy_bool h
theorem Zsn {v u:Value}{a b:List Int}{Q:Bool->Shared->Prop}(pa:RowAt s.heap u a) (pb:RowAt s.heap v b) (hne:a≠[]) (hle:rowLe a b) (h:Q false s):wpAny (model prog w) A (keyLt' (tuples' true) v u) Q E s:=by
 obtain⟨l,its,rfl,⟨o1,ho,hc,n,hd⟩,hi⟩:=pb;obtain⟨k,its2,rfl,⟨o2,ho2,hc2,n2,hd2⟩,hi2⟩:=pa;rcases hle with z|⟨x,y,s',t',rfl,rfl,hlt⟩
 ·exact absurd z hne
 ·obtain⟨t1,us1,rfl,_⟩:=Zbz hi
  obtain⟨t2,us2,rfl,_⟩:=Zbz hi2;refine PySem.W.kat_lt ho hd ho2 hd2 ?_;show PySem.W.KatLex prog w A true _ Q ((Value.int y t1,Value.int x t2)::us1.zip us2) 0 s;refine PySem.W.kat_cons<|EqAt.int_int y t1 x t2 prog w _ _ ?_;have e:(y == x)=false:=by rw[beq_eq_false_iff_ne];omega
  rw[e];refine PySem.W.kat_no ?_;refine oneLt_int ?_;rw[decide_eq_false (show ¬ y<x by omega)];exact h
end
section
variable {X:Cx}
def rInU (K:W.Frag) (neg:Bool):R2:=λx y H Q=>rIn K neg x y H Q\/(∃a o,y=.ref a/\DGet H a x o/\Q (.bl (if neg then !o.isSome else o.isSome)) H) \/
 ∃a S n i,y=.ref a/\x=.int i/\H a=some (.set S n)/\Q (.bl (if neg then !S i else S i)) H
theorem inK (K:W.Frag) (hu:X.A.units+1<cLine) (hK:X.K=K:=by rfl):OpR X (compareOp .In) (rInU K false):=by
 subst hK;intro pins s U H x y v u Q I rx ry h;rcases h with h|⟨a,o,rfl,hd,q⟩|⟨a,S,n,i,rfl,rfl,hs,q⟩
 ·exact Zol pins s U H x y v u Q I rx ry h
 ·cases ry
  exact d_in hu I hd rx λs' I'=>⟨.bl _,H,I',rfl,q⟩
 ·cases ry
  obtain⟨t,rfl⟩:=rx;exact wpAny_inSet_of (knd:=intKind X.prog X.w) (k:=i) (by simp[intKind,Value.isInt]) rfl (I.hok a _ hs) ⟨.bl _,H,I.tok _,rfl,q⟩
theorem notinK (K:W.Frag) (hu:X.A.units+1<cLine) (hK:X.K=K:=by rfl):OpR X (compareOp .NotIn) (rInU K true):=by
 subst hK;intro pins s U H x y v u Q I rx ry h;rcases h with h|⟨a,o,rfl,hd,q⟩|⟨a,S,n,i,rfl,rfl,hs,q⟩
 ·exact Zjx pins s U H x y v u Q I rx ry h
 ·cases ry
  exact Zu3 hu I hd rx λs' I'=>⟨.bl _,H,I',rfl,q⟩
 ·cases ry
  obtain⟨t,rfl⟩:=rx;exact wpAny_notInSet_of (knd:=intKind X.prog X.w) (k:=i) (by simp[intKind,Value.isInt]) rfl (I.hok a _ hs) ⟨.bl _,H,I.tok _,rfl,q⟩
def rSet0:List V->Hp->VK->Prop:=λxs H Q=>xs=[]/\∀p,H p=none->Q (.ref p) (upd H p (.set (λ_=>false) 0))
theorem Zpe:CallR X (.type "set") rSet0:=by
 intro pins s U H xs us Q I r h;obtain⟨rfl,q⟩:=h;cases r;refine call_set_0 λled=>⟨.ref s.heap.objs.size,_,I.laid (t':=s.toks) (λ_ _ z=>Wad _ z) (Wag _) ?_,rfl,q _<|I.hok.fresh<|Wag _⟩;exact(setObjOf_fresh (knd:=intKind X.prog X.w) led).setOf (Wao _ rfl) (by decide)
def rSAdd:V->List V->Hp->VK->Prop:=λx vs H Q=>∃a S n i,x=.ref a/\vs=[.int i]/\H a=some (.set S n)/\n+1<4096/\Q .non (upd H a (.set (λk=>S k || decide (k=i)) (if S i then n else n+1)))
theorem Zwl:MtM X "set.add" rSAdd:=by
 intro pins s U H x vs v us Q I rx rv h;obtain⟨a,S,n,i,rfl,rfl,hs,hn,q⟩:=h;cases rx;obtain⟨u,rfl,ru⟩:=rv.one;obtain⟨t,rfl⟩:=ru;have hS:s.heap.SetOf (intKind X.prog X.w) a S n:=I.hok a _ hs;refine call_set_add (knd:=intKind X.prog X.w) (k:=i) (by simp[intKind,Value.isInt]) rfl hS hn λh' sb hS'=>?_;refine⟨.non,_,Zg6 I (by rw[hs];trivial) sb ?_ ?_,rfl,q⟩
 ·obtain⟨o,_,_,_,ho,_⟩:=hS';exact⟨o,ho⟩
 ·exact hS'
def rIndexL (K:W.Frag):V->List V->Hp->VK->Prop:=λx vs H Q=>∃(a:Addr) (ns:List Int) (i:Int),x=.ref a/\vs=[.int i]/\SqL K H a (ns.map V.int)/\ns.length<=1000/\i∈ns/\Q (.int (ns.idxOf i:Nat)) H
theorem idxLK (K:W.Frag) (hK:X.K=K:=by rfl):MtM X "list.index" (rIndexL K):=by
 subst hK;intro pins s U H x vs v us Q I rx rv h;obtain⟨a,ns,i,rfl,rfl,hx,hl,hm,q⟩:=h;cases rx;obtain⟨u,rfl,ru⟩:=rv.one;obtain⟨t,rfl⟩:=ru;obtain⟨its,r,pl,hz⟩:=I.list hx;have hi:=Zck r;have hlen:=hi.length;obtain⟨⟨cls,dd,data,sl⟩,ho,hc,n,hd⟩:=pl.isList;simp only at hc hd;subst hc hd;have hj:ns.idxOf i<ns.length:=List.idxOf_lt_length_iff.mpr hm;refine call_meets PySem.F.slot_list_index ⟨_,ho,rfl⟩ PySem.F.entry_list_index (PySem.F.args_list_index_2 _ _)
  (list_indexAt a its.toArray n dd sl (.int i t) (isInt i) (ns.idxOf i) (by simpa [hlen] using hj) (by omega) ?_ ?_) ⟨ho,λy hy=>(eq_isInt i t hi y (by simpa using hy)).at _ _,⟨.int _,H,I.tok _,⟨_,rfl⟩,q⟩⟩
 ·show isInt i its[ns.idxOf i]=true
  rw[isInt_at i hi _ (by omega) hj];simpa using List.getElem_idxOf hj
 ·intro j hjs hlt
  show isInt i its[j]=false;rw[isInt_at i hi j (by simpa using hjs) (by omega)];exact ne_of_lt_idxOf hlt _
def rSortR (K:W.Frag):List V->Hp->VK->Prop:=λxs H Q=>∃p us rs,xs=[.ref p]/\SqL K H p us/\us.length<200/\Paired (λ(u:V) (r:List Int)=>∃a,u=.ref a/\SqT K H a (r.map V.int)) us rs/\Asc rs/\∀l,H l=none->Q (.ref l) (upd H l (.lst us))
theorem Zqj {pins:List (Addr × Obj)}{U:St}{H:Hp}{s:Shared}(I:Inv X pins U H s):∀{us:List V}{its:List Value}{rs:List (List Int)},Vals us its->Paired (λ(u:V) (r:List Int)=>∃a,u=.ref a/\SqT X.K H a (r.map V.int)) us rs->Paired (RowAt s.heap) its rs
 |_,_,_,.nil,.nil=>.nil
 |_,_,_,.cons r t,.cons p q=>by
  obtain⟨a,rfl,hs⟩:=p;cases r;obtain⟨its,r',pl,_⟩:=I.tuple hs;exact .cons ⟨a,its,rfl,pl,Zck r'⟩<|Zqj I t q
theorem Paired.getD {R:Value->List Int->Prop}:∀{vs:List Value}{rs:List (List Int)}{i:Nat},Paired R vs rs->i<vs.length->∃r,rs[i]?=some r/\R (vs.getD i .none) r
 |_,_,0,.cons p _,_=>⟨_,rfl,p⟩
 |_,_,i+1,.cons _ t,h=>by
  obtain⟨r,h1,h2⟩:=Paired.getD (i:=i) t (by simpa using h);exact⟨r,by simpa using h1,by simpa using h2⟩
theorem Paired.len {R:Value->List Int->Prop}:∀{vs:List Value}{rs:List (List Int)},Paired R vs rs->vs.length=rs.length
 |_,_,.nil=>rfl
 |_,_,.cons _ t=>by rw[Waj,Waj,Paired.len t]
theorem Paired.up {R R':Value->List Int->Prop}(f:∀v r,R v r->R' v r):∀{vs:List Value}{rs:List (List Int)},Paired R vs rs->Paired R' vs rs
 |_,_,.nil=>.nil
 |_,_,.cons p t=>.cons (f _ _ p) (Paired.up f t)
theorem Zzn {rs:List (List Int)}(h:Asc rs) (h0:∀r,rs[0]?=some r->r≠[]):∀r∈rs,r≠[]:=by
 have all:∀(i:Nat) r,rs[i]?=some r->r≠[]:=by
  intro i
  induction i with
  |zero=>exact h0
  |succ i ih=>
   intro b hb;have hi:i<rs.length:=by have:=(Waf.mp hb).1;omega
   have ha:=Waa hi;rcases h i _ b ha hb with z|⟨x,y,s,t,_,e,_⟩
   ·exact absurd z<|ih _ ha
   ·rw[e];exact List.cons_ne_nil _ _
 intro r hr;obtain⟨i,hi⟩:=Wco.mp hr;exact all i r hi
theorem sortRK (K:W.Frag) (hu:X.A.units+8<cLine) (hK:X.K=K:=by rfl):CallR X (.builtin "sorted") (rSortR K):=by
 subst hK;intro pins s U H xs us Q I r h;obtain⟨p,ys,rs,rfl,hx,hl,hp,ha,q⟩:=h;obtain⟨u,rfl,ru⟩:=vals1 r;cases (show u=Value.ref p from ru);obtain⟨its,w1,p1,hz⟩:=I.list hx;have pr:=Zqj I w1 hp;have hlen:=w1.length;have hrl:=Paired.len pr;have fin:EP X pins U Q (.ref<|s.heap.objs.size+1) { s with heap:=sortedAll s.heap its its.toArray }:=by
  obtain⟨e,he⟩:=sortedAll_at s.heap its its.toArray;refine⟨.ref<|s.heap.objs.size+1,_,I.laid (t':=s.toks) (λ_ _ z=>sortedAll_old z) (Wc2 _) (show ObjOk X.prog X.w _ _ _ (.lst ys) from ⟨hz,its,e,w1,he⟩),rfl,q _<|I.hok.fresh<|Wc2 _⟩
 have hu2:X.A.in1.in1.units<cLine:=Wcs (by show X.A.units+1+1<=X.A.units+8;omega) hu;have cmp:∀i,1<=i->i<its.length->∃a b,rs[i-1]?=some a/\RowAt s.heap (its.getD (i-1) .none) a/\RowAt s.heap (its.getD i .none) b/\rowLe a b:=λi h1 hi=>by
  obtain⟨a,ha1,ha2⟩:=Paired.getD (i:=i-1) pr (by omega);obtain⟨b,hb1,hb2⟩:=Paired.getD (i:=i) pr hi;exact⟨a,b,ha1,ha2,hb2,ha (i-1) a b ha1 (by rw[show i-1+1=i by omega];exact hb1)⟩
 by_cases h0:rs[0]?=some []
 ·refine Zeg (κ:=oneType') p1.isList (by omega) (λ_ h' k E Q hq=>?_) (λh' k i h1 hi E Q hq=>?_) fin
  ·cases rs with
   |nil=>cases h0
   |cons r0 rs=>
    have:r0=[]:=by simpa using h0
    subst this;exact Zn0 (s:={ s with heap:=h' }) (Paired.up (λv r z=>z.keep k) pr) hq
  ·obtain⟨a,b,_,c1,c2,c3⟩:=cmp i h1 hi
   exact Ztn (s:={ s with heap:=h' }) hu2 (c1.keep k) (c2.keep k) c3 hq
 ·have hne:∀r∈rs,r≠[]:=Zzn ha λr hr e=>h0 (by rw[hr,e])
  refine Zeg (κ:=tuples' true) p1.isList (by omega) (λh2 h' k E Q hq=>?_) (λh' k i h1 hi E Q hq=>?_) fin
  ·exact Zoa (s:={ s with heap:=h' }) (Paired.up (λv r z=>z.keep k) pr) hne (by intro z;subst z;rw[Wb6]at hrl;omega) hq
  ·obtain⟨a,b,c0,c1,c2,c3⟩:=cmp i h1 hi
   exact Zsn (s:={ s with heap:=h' }) (c1.keep k) (c2.keep k) (hne a<|Wau c0) c3 hq
end
section
variable {K:W.Frag}{Z:Evt}{P:D->Evt->Prop}
theorem Zj2 {G:Hp}{k:Key}:∀{kvs:List (Key × V)}{kds:List (Key × D)},Paired (λ(p:Key × V) (q:Key × D)=>p.1=q.1/\Rep K G p.2 q.2) kvs kds->(valV kvs k).isSome=(valD kds k).isSome
 |_,_,.nil=>rfl
 | (k1,v1)::kvs,(k2,d2)::kds,.cons ⟨e,r⟩ t=>by
  have e:k1=k2:=e;subst e;have ih:=Zj2 (k:=k) t;unfold valV valD at ih ⊢;by_cases h:k1=k
  ·rw[List.find?_cons_of_pos (by simpa using h),List.find?_cons_of_pos (by simpa using h)];rfl
  ·rw[Wdj (by simpa using h),Wdj (by simpa using h)];exact ih
theorem Zui {neg:Bool}{n:Nat}{ta:TE}(h:JE K ta Z λd Z1=>∃x kvs i,Z1[n]?=some x/\x.od=some (.dct kvs)/\d=.int i/\P (.bl (if neg then !(valD kvs (.inl i)).isSome else (valD kvs (.inl i)).isSome)) Z1):JE K (tOp (rInU K neg) ta<|tVar n) Z P:=λg G H U Q k c=>
 h g G H U _ k λv d G1 H1 Z1 k1 s1 r1 hq_=>by
  obtain⟨x,kvs,i,q1,q2,q3,p⟩:=hq_;subst q3;cases r1.inv;obtain⟨a,o,w1,w2,w3,w4,w5⟩:=k1.own n x _ q1 q2;cases o with
  |dK vs=>
   refine⟨.ref a,w1,.inr (.inl ⟨a,_,rfl,DGet.k (k:=Sum.inl i) w2,?_⟩)⟩;rw[Zj2 (K:=K) (G:=G1) w3];exact c _ _ G1 H1 Z1 k1 s1 (.bl _) p
  |_=>exact absurd w3 (λz=>z)
theorem Zy8 {neg:Bool}{n:Nat}{ta:TE}(h:JE K ta Z λd Z1=>∃x S m i,Z1[n]?=some x/\x.od=some (.set S m)/\d=.int i/\P (.bl (if neg then !S i else S i)) Z1):JE K (tOp (rInU K neg) ta<|tVar n) Z P:=λg G H U Q k c=>
 h g G H U _ k λv d G1 H1 Z1 k1 s1 r1 hq_=>by
  obtain⟨x,S,m,i,q1,q2,q3,p⟩:=hq_;subst q3;cases r1.inv;obtain⟨a,o,w1,w2,w3,w4,w5⟩:=k1.own n x _ q1 q2;cases o with
  |set S' m'=>
   obtain⟨e1,e2⟩:S'=S/\m'=m:=w3;subst e1 e2;exact⟨.ref a,w1,.inr (.inr ⟨a,S',m',i,rfl,rfl,w2,c _ _ G1 H1 Z1 k1 s1 (.bl _) p⟩)⟩
  |_=>exact absurd w3 (λz=>z)
theorem Zw0 {Po:OD->Evt->Prop}(p:Po (.set (λ_=>false) 0) Z):JO K (tCB rSet0 tNil) Z Po:=λg G H U Q k c=>by
 refine⟨rfl,λl hl=>?_⟩;obtain⟨k2,pd⟩:=k.fresh (od:=.set (λ_=>false) 0) hl (show OwnRep K G (.set (λ_=>false) 0) (.set (λ_=>false) 0) from ⟨rfl,rfl⟩);exact c l _ G _ Z k2 (Same.refl _) pd p
theorem Zwx {n:Nat}{te:TE}{x:Slot}{S0:Int->Bool}{n0:Nat}{nx bk ct:Evt->Prop}{rt:D->Evt->Prop}{ro:OD->Evt->Prop}(hx:Z[n]?=some x) (ho:x.od=some (.set S0 n0))
  (h:JE K te Z λd Z1=>∃y S m i,Z1[n]?=some y/\y.od=some (.set S m)/\d=.int i/\m+1<4096/\nx (Z1.set n<|y.put (.set (λk=>S k || decide (k=i)) (if S i then m else m+1)))) :
  JS K (tDrop<|tBM K "set" rSAdd (tVar n)<|tCons te tNil) Z ⟨nx,rt,bk,ct,ro⟩:=λg G H U E k c=>by
 obtain⟨a,o,h1,h2,h3,h4,h5⟩:=k.own n x _ hx ho;cases o with
 |set S1 n1=>
  refine⟨.ref a,h1,.inr (.inr (.inr ⟨rfl,_,_,h2⟩)),h g G H U _ k λv d G1 H1 Z1 k1 s1 r1 ⟨y,S,m,i,q1,q2,q3,q4,p⟩=>?_⟩;subst q3;cases r1.inv;obtain⟨a',o',w1,w2,w3,w4,w5⟩:=k1.own n y _ q1 q2;rw[h1]at w1;cases w1;cases o' with
  |set S' m'=>
   obtain⟨e1,e2⟩:S'=S/\m'=m:=w3;subst e1 e2;exact⟨a,S',m',i,rfl,rfl,w2,q4,c.nx U G1 _ _ (k1.write q1 q2 h1 (show OwnRep K G1 (.set _ _) (.set _ _) from ⟨rfl,rfl⟩)) p⟩
  |_=>exact absurd w3 (λz=>z)
 |_=>exact absurd h3 (λz=>z)
theorem Zog {to te:TE}(h:JE K to Z λd Z1=>∃ns:List Int,d=.lst (ns.map D.int)/\ns.length<=1000/\JE K te Z1 λe Z2=>∃i,e=.int i/\i∈ns/\P (.int (ns.idxOf i:Nat)) Z2) :
  JE K (tBM K "list" (rIndexL K) to<|tCons te tNil) Z P:=λg G H U Q k c=>
 h g G H U _ k λv d G1 H1 Z1 k1 s1 r1 hq_=>by
  obtain⟨ns,e,hl,p1⟩:=hq_;subst e;obtain⟨a,vs,rfl,ha,rs⟩:=r1.inv
  next=>
   refine⟨.inl ⟨rfl,_,SqL.of<|k1.live _ _ ha⟩,p1 g G1 H1 U _ k1 λu e G2 H2 Z2 k2 s2 r2 ⟨i,q1,q2,p⟩=>?_⟩;subst q1;cases r2.inv;have ev:vs=ns.map V.int:=rs.ints;subst ev;exact⟨a,ns,i,rfl,rfl,SqL.of<|k2.live _ _<|s2 _ _ ha,hl,q2,c _ _ G2 H2 Z2 k2 (s1.trans s2) (.int _) p⟩
def rowD (r:List Int):D:=.tup<|r.map D.int
theorem Zmc {G H:Hp}(l:Same G H):∀{vs:List V}{rs:List (List Int)},Reps K G vs (rs.map rowD)->Paired (λ(u:V) (r:List Int)=>∃a,u=.ref a/\SqT K H a (r.map V.int)) vs rs
 |[],[],_=>.nil
 |[],_::_,h=>by cases h
 |_::_,[],h=>by cases h
 |v::vs,r::rs,h=>by
  cases h with
  |cons r1 t=>
   obtain⟨a,us,rfl,ha,rr⟩:=r1.inv
   next=>
    have ev:=rr.ints;subst ev;exact .cons ⟨a,rfl,SqT.of<|l _ _ ha⟩<|Zmc l t
theorem Ztr {ta:TA}{Po:OD->Evt->Prop}(h:JA K ta Z λds Z1=>∃rs:List (List Int),ds=[.lst (rs.map rowD)]/\rs.length<200/\Asc rs/\Po (.lst<|rs.map rowD) Z1):JO K (tCB (rSortR K) ta) Z Po:=λg G H U Q k c=>
 h g G H U _ k λvs ds G1 H1 Z1 k1 s1 r1 hq_=>by
  obtain⟨rs,e,hl,ha,p⟩:=hq_;subst e;obtain⟨_,_,rfl,r,t⟩:=r1.inv
  next=>
   cases t.inv;obtain⟨a,us,rfl,ha',rr⟩:=r.inv
   next=>
    have hlen:=rr.length;rw[Wab]at hlen;refine⟨a,us,rs,rfl,SqL.of<|k1.live _ _ ha',by omega,Zmc k1.live rr,ha,λl hl=>?_⟩;obtain⟨k2,pd⟩:=k1.fresh (od:=.lst<|rs.map rowD) hl (show OwnRep K G1 (.lst us) (.lst<|rs.map rowD) from rr);exact c l _ G1 _ Z1 k2 s1 pd p
end
theorem Zhb {A:Around}{k:Nat}(hr:Room k A):A.units+8<cLine:=Wcs (Nat.add_le_add_left (by decide:8<=64) _) hr.units
open PySem PySem.Spec PyProof.Rows PySem.SeqAt
section
variable {X:Cx}
theorem Zek:∀{vs:List Value}{ns:List Int},vs.length=ns.length->(∀(i:Nat) v,vs[i]?=some v->∃t,v=.int (ns.getD i 0) t)->IntsAre vs ns
 |[],[],_,_=>.nil
 |[],_::_,h,_=>by simp at h
 |_::_,[],h,_=>by simp at h
 |v::vs,n::ns,h,g=>by
  obtain⟨t,rfl⟩:=g 0 v rfl;exact .cons n t (Zek (by simpa using h) λi u e=>by simpa using g (i+1) u (by simpa using e))
def tLR (ta:TA):TE:=λU H Q=>ta U H λvs H1=>∃n:Nat,vs=[.int (n:Int)]/\n<=1000/\∀l,H1 l=none->Q (.ref l) (upd H1 l (.lst ((Wah n).map λi:Nat=>V.int (i:Int))))
theorem Zki {a:Expr}{ta:TA}{p p2 pos pos2:Pos}(hc:X.calm=true) (hgL:Gl X "list") (hmL:X.mg "list" = none) (hgR:Gl X "range") (hmR:X.mg "range" = none) (ha:PA X [a] ta) (hs:starEach [a] X.env=[(false,eval a X.env)]:=by rfl)
  (he:starEach [.Call (.Name "range" p2) [a] [] pos2] X.env=[(false,eval (.Call (.Name "range" p2) [a] [] pos2) X.env)]:=by rfl) :
  PE X (.Call (.Name "list" p) [.Call (.Name "range" p2) [a] [] pos2] [] pos) (tLR ta):=by
 intro pins s U H Q I h;refine wpAny_Call_Name_kw<|Zd2 I hgL hmL Zqs ?_;refine PyProof.Rows.callWith_type1 ?_ he rfl;rw[he];show wpAny _ _ (spliced ((false,eval (.Call (.Name "range" p2) [a] [] pos2) X.env)::backTo pos [])) _ _ s;refine Calls.spliced_cons ?_;refine Call_<|Zd2 I hgR hmR boot_range<|PyProof.Rows.callWith_type1 (thn (ha pos2 pins s U H _ I h) λus s1 ⟨vs,H1,I1,r1,q1⟩=>?_) hs rfl;obtain⟨n,e,hn,q⟩:=q1;subst e;cases r1 with
 |cons r rr=>
  cases rr;obtain⟨t,rfl⟩:=r;refine call_range_1<|Calls.spliced_nil ?_;have I2:Inv X pins U H1 { s1 with heap:=s1.heap.push { cls:=.type "range",data:=.fields #[.int 0 s1.toks,.int (n:Int) t,.int 1 (s1.toks+1)] },toks:=s1.toks+1+1 }:=I1.kept λb o e=>Wad _ e;refine call_list_range (a:=0) (b:=(n:Int)) (c:=1) (n:=n) (I1.ok.hd hc) (IsRange.new ..) (small_one (by decide) (by decide) (by omega)<|by omega) (by rw[rangeSize_one];split <;> omega) (by omega) λh' tk acc c' hk hD hI=>?_
  have hl:acc.size=n:=hI.1;refine⟨.ref _,_,I2.laid (t':=tk) hk (Wag _) (show ObjOk X.prog X.w _ h' _ (.lst ((Wah n).map λi:Nat=>V.int (i:Int))) from ⟨?_,acc.toList,c',?_,?_⟩),rfl,q _<|I2.hok.fresh<|Wag _⟩
  ·rw[Wab,Waz];exact Wcj<|small1000 hn
  ·have:IntsAre acc.toList ((Wah n).map λi:Nat=>(i:Int)):=by
    refine Zek (by rw[Array.length_toList,hl,Wab,Waz]) λi v e=>?_;have hi:i<n:=by
     have:=(Waf.mp e).1;rw[Array.length_toList,hl]at this;exact this
    obtain⟨t',rfl⟩:=hI.2 i v (by rw[<- Array.getElem?_toList];exact e);refine⟨t',?_⟩;rw[Wac,Wae,Wb4 hi];show Value.int (0+(i:Int)*1) t'=Value.int (i:Int) t';rw[Wc1,Int.mul_one]
   have:=Zfb this;rw[Wa6]at this;exact this
  ·rw[Array.toArray_toList];exact hD
end
section
variable {K:W.Frag}{Z:Evt}{P:D->Evt->Prop}
theorem Zz9 {ta:TA}{Po:OD->Evt->Prop}(h:JA K ta Z λds Z1=>∃n:Nat,ds=[.int (n:Int)]/\n<=1000/\Po (.lst ((Wah n).map λi:Nat=>D.int (i:Int))) Z1):JO K (tLR ta) Z Po:=λg G H U Q k c=>
 h g G H U _ k λvs ds G1 H1 Z1 k1 s1 r1 hq_=>by
  obtain⟨n,e,hl,p⟩:=hq_;subst e;obtain⟨_,_,rfl,r,t⟩:=r1.inv
  next=>
   cases t.inv;cases r.inv;refine⟨n,rfl,hl,λl hl=>?_⟩;obtain⟨k2,pd⟩:=k1.fresh (od:=.lst ((Wah n).map λi:Nat=>D.int (i:Int))) hl (show OwnRep K G1 (.lst ((Wah n).map λi:Nat=>V.int (i:Int))) (.lst ((Wah n).map λi:Nat=>D.int (i:Int))) from by
    have:=Reps.ofInts (K:=K) (G:=G1) ((Wah n).map λi:Nat=>(i:Int));rw[Wa6,Wa6]at this;exact this)
   exact c l _ G1 _ Z1 k2 s1 pd p
end
open PySem PySem.Spec PyProof.Rows PySem.SeqAt
def Ris (xs:Array Nat):Prop:=∀(i j a b:Nat),i<j->xs[i]?=some a->xs[j]?=some b->a<b
theorem Zjd (xs:Array Nat) (R:Ris xs) (j:Nat):∀(fuel lo hi:Nat),hi-lo<=fuel->lo<=hi->hi<=xs.size->(∀(i a:Nat),i<lo->xs[i]?=some a->a<j)->(∀(i a:Nat),hi<=i->xs[i]?=some a->j<=a) ->
  SetTable.below.go xs j fuel lo hi<=xs.size/\(∀(i a:Nat),i<SetTable.below.go xs j fuel lo hi->xs[i]?=some a->a<j)/\∀(i a:Nat),SetTable.below.go xs j fuel lo hi<=i->xs[i]?=some a->j<=a
 |0,lo,hi,h1,h2,h3,h4,h5=>by
  have:lo=hi:=by omega
  subst this;show lo<=xs.size/\_;exact⟨h3,h4,h5⟩
 |fuel+1,lo,hi,h1,h2,h3,h4,h5=>by
  unfold SetTable.below.go;by_cases hlt:lo<hi
  ·rw[if_pos hlt]
   dsimp only;have hm:(lo+hi) / 2<xs.size:=by omega
   have hg:xs.getD ((lo+hi) / 2) j=xs[(lo+hi) / 2]:=by simp[Array.getD,hm]
   by_cases hc:xs.getD ((lo+hi) / 2) j<j
   ·rw[if_pos hc]
    refine Zjd xs R j fuel _ _ (by omega) (by omega) h3 (λi a hi' e=>?_) h5;by_cases hi2:i=(lo+hi) / 2
    ·subst hi2
     rw[Array.getElem?_eq_getElem hm]at e;cases e;omega
    ·have:=R i ((lo+hi) / 2) a _ (by omega) e (Array.getElem?_eq_getElem hm)
     omega
   ·rw[if_neg hc]
    refine Zjd xs R j fuel _ _ (by omega) (by omega) (by omega) h4 λi a hi' e=>?_;by_cases hi2:i=(lo+hi) / 2
    ·subst hi2
     rw[Array.getElem?_eq_getElem hm]at e;cases e;omega
    ·have:=R ((lo+hi) / 2) i _ a (by omega) (Array.getElem?_eq_getElem hm) e
     omega
  ·rw[if_neg hlt]
   have:lo=hi:=by omega
   subst this;exact⟨h3,h4,h5⟩
theorem Zec {xs:Array Nat}(R:Ris xs) (j:Nat):SetTable.below xs j<=xs.size/\(∀(i a:Nat),i<SetTable.below xs j->xs[i]?=some a->a<j)/\∀(i a:Nat),SetTable.below xs j<=i->xs[i]?=some a->j<=a:=
 Zjd xs R j xs.size 0 xs.size (by omega) (Wbn _) (Wag _) (λi a h=>by omega) λi a h e=>by
  have:=(Array.getElem?_eq_some_iff.mp e).1;omega
theorem Zdi {α:Type}(xs:Array α) (p:Nat) (x:α) (h:p<=xs.size):(SetTable.insertAt xs p x).toList=xs.toList.take p++x::xs.toList.drop p:=by
 unfold SetTable.insertAt;rw[Array.toList_append,Array.toList_push,Array.toList_extract,Array.toList_extract];simp[List.extract_eq_take_drop,Wcz];rw[Wdi (by simp)]
theorem Zb1 {α:Type}(xs:Array α) (p:Nat) (x:α) (h:p<=xs.size) (i:Nat):(SetTable.insertAt xs p x)[i]?=if i<p then xs[i]? else if i=p then some x else xs[i-1]?:=by
 rw[<- Array.getElem?_toList,Zdi xs p x h];by_cases h1:i<p
 ·rw[if_pos h1,Wbd (by rw[Wbm,Array.length_toList];omega),Wd3 h1,Array.getElem?_toList]
 ·rw[if_neg h1,Wa2 (by rw[Wbm,Array.length_toList];omega),Wbm,Array.length_toList,Wd8 h]
  by_cases h2:i=p
  ·rw[if_pos h2,h2,Nat.sub_self];rfl
  ·rw[if_neg h2,show i-p=(i-1-p)+1 by omega,Wc0,Wdz,Array.getElem?_toList,show p+(i-1-p)=i-1 by omega]
theorem Zom {xs:Array Nat}(R:Ris xs) {j:Nat}(hj:xs[SetTable.below xs j]?≠some j):Ris (SetTable.insertAt xs (SetTable.below xs j) j):=by
 obtain⟨b1,b2,b3⟩:=Zec R j;have b4:∀(i a:Nat),SetTable.below xs j<=i->xs[i]?=some a->j<a:=λi a h e=>by
  have h1:=b3 i a h e;by_cases hi:i=SetTable.below xs j
  ·subst hi
   rcases Wb8 h1 with z|z
   ·exact z
   ·subst z;exact absurd e hj
  ·obtain⟨s1,s2⟩:=Array.getElem?_eq_some_iff.mp e
   have hlt:SetTable.below xs j<xs.size:=by omega
   have h2:=b3 _ _ (Wag _)<|Array.getElem?_eq_getElem hlt;have:=R (SetTable.below xs j) i _ a (by omega) (Array.getElem?_eq_getElem hlt) e;omega
 intro i k a b hik ha hb;rw[Zb1 _ _ _ b1]at ha hb;split at ha
 ·split at hb
  ·exact R i k a b hik ha hb
  ·split at hb
   ·cases hb;exact b2 i a (by omega) ha
   ·exact R i (k-1) a b (by omega) ha hb
 ·split at ha
  ·cases ha
   rw[if_neg (by omega),if_neg (by omega)]at hb;exact b4 (k-1) b (by omega) hb
  ·rw[if_neg (by omega),if_neg (by omega)]at hb
   exact R (i-1) (k-1) a b (by omega) ha hb
theorem Zp8:Ris #[]:=λi j a b _ e=>by simp at e
theorem Zq2 (n:Nat):Ris (Array.range n):=λi j a b h e1 e2=>by
 simp[Array.getElem?_range]at e1 e2;omega
structure TabOk (led:Bool) (t:SetTable):Prop where
 led:t.led=led
 dum:t.dummies = #[]
 ris:Ris t.place
theorem TabOk.fresh (led:Bool):TabOk led (SetTable.fresh 0 0 led):=⟨rfl,rfl,Zp8⟩
theorem TabOk.standIn {led:Bool}{t:SetTable}(h:TabOk led t) (n:Nat):TabOk led (t.standIn n):=⟨h.led,rfl,Zq2 n⟩
theorem Zjb (j:Nat):SetTable.has #[] j=false:=by unfold SetTable.has;simp
theorem Zgn {t:SetTable}(hd:t.dummies = #[]) {hashAt:Nat->Int}{h:Int}:∀(fuel:Nat) (p:SetTable.Probe) {j:Nat}{dm:Option Nat},p.dummy=none->SetTable.probe.go t hashAt h fuel p=some (.empty j dm)->dm=none/\t.place[SetTable.below t.place j]?≠some j
 |0,_,_,_,_,e=>by cases e
 |fuel+1,p,j,dm,hp,e=>by
  unfold SetTable.probe.go at e;have adv:(t.advance p).dummy=none:=by unfold SetTable.advance;split <;> exact hp
  unfold SetTable.slot at e;dsimp only at e;by_cases hl:(t.place[SetTable.below t.place p.j]? == some p.j)=true
  ·rw[if_pos hl]at e
   dsimp only at e;split at e
   ·cases e
   ·exact Zgn hd fuel _ adv e
  ·rw[if_neg hl,hd,Zjb]at e
   simp only[Wav,if_false]at e;injection e with e
   injection e with e1 e2
   subst e1 e2;exact⟨hp,λz=>hl (by rw[z];simp)⟩
theorem TabOk.put {led:Bool}{t:SetTable}(h:TabOk led t) {j:Nat}(hj:t.place[SetTable.below t.place j]?≠some j):TabOk led (t.put j).1:=by
 refine⟨h.led,?_,Zom h.ris hj⟩;show (if SetTable.has t.dummies j=true then _ else t.dummies) = #[];rw[h.dum,Zjb];rfl
theorem TabOk.layNew {led:Bool}{t:SetTable}(h:TabOk led t) (es:Array (Int × Value)) (hs:Int) (x:Value):TabOk led (layNew t es hs x).2.1:=by
 unfold PySem.layNew;unfold SetTable.freeSlot;cases q:t.probe (λ_=>hs+1) hs (t.probeStart hs) with
 |none=>exact h.standIn _
 |some m=>
  cases m with
  |candidate j i p=>exact h.standIn _
  |empty j dm=>
   obtain⟨e1,e2⟩:=Zgn h.dum _ (t.probeStart hs) rfl (show SetTable.probe.go t (λ_=>hs+1) hs (10*SetTable.turns t.mask) (t.probeStart hs)=some (.empty j dm) from q);subst e1;show TabOk led ((t.put j).1.orStandIn _);unfold SetTable.orStandIn;split
   ·exact h.put e2
   ·exact(h.put e2).standIn _
theorem Zm1 (owner:Array (Option Nat)) (m:Nat):Ris ((((Wah m).filterMap λj=>(owner.getD j none).map (j,·)).map (·.1)).toArray):=by
 have pw:((Wah m).filterMap λj=>(owner.getD j none).map (j,·)).Pairwise (λa b=>a.1<b.1):=by
  rw[List.pairwise_filterMap];refine List.Pairwise.imp ?_ Wbj;intro a b hab c hc d hd;cases qa:owner.getD a none with
  |none=>rw[qa]at hc;cases hc
  |some k=>
   cases qb:owner.getD b none with
   |none=>rw[qb]at hd;cases hd
   |some l=>
    rw[qa]at hc;rw[qb]at hd;have hc:(a,k)=c:=by simpa using hc
    have hd:(b,l)=d:=by simpa using hd
    subst hc hd;exact hab
 intro i j a b hij ea eb;rw[Wcr,Wae]at ea eb;cases qa:((Wah m).filterMap λj=>(owner.getD j none).map (j,·))[i]? with
 |none=>rw[qa]at ea;cases ea
 |some c=>
  cases qb:((Wah m).filterMap λj=>(owner.getD j none).map (j,·))[j]? with
  |none=>rw[qb]at eb;cases eb
  |some d=>
   rw[qa]at ea;rw[qb]at eb;have ea:c.1=a:=by simpa using ea
   have eb:d.1=b:=by simpa using eb
   subst ea eb;obtain⟨i1,i2⟩:=Waf.mp qa;obtain⟨j1,j2⟩:=Waf.mp qb;have:=Wcu.mp pw i j i1 j1 hij;rw[i2,j2]at this;exact this
theorem TabOk.relay {led:Bool}{t:SetTable}(h:TabOk led t) (es:Array (Int × Value)) (wanted:Nat):TabOk led (relayAll t es wanted).2.1:=by
 unfold PySem.relayAll;cases q:t.relaid (es.map (·.1)) wanted with
 |none=>exact h.standIn _
 |some r=>
  obtain⟨t',order⟩:=r;dsimp only;split
  ·unfold SetTable.relaid SetTable.laid at q
   cases q2:SetTable.layClean (SetTable.sizeAbove wanted-1) (es.map (·.1)) with
   |none=>rw[q2]at q;cases q
   |some owner=>
    rw[q2]at q;have q:_=some (t',order):=q;have e:=congrArg Prod.fst<|Wbs.inj q;dsimp only at e;rw[<- e];exact⟨h.led,rfl,Zm1 owner _⟩
  ·exact h.standIn _
def numOf:Value->Int
 |.int i _=>i
 |_=>0
section
variable {prog:Program}{w:World}
def byTextB (w:World):Bool:=w.params.followText "set-order"
structure SetG (prog:Program) (w:World) (h:Heap) (a:Addr) (o:Obj) (es:Array (Int × Value)) (ep:Nat) (t:SetTable) (ks:List Int):Prop where
 get:h.get? a=some o
 ex:o.ExactSet
 dat:o.data=.set es ep t
 el:ElemsOf (intKind prog w) es.toList
 room:es.size<scanBound
 fit:t.fits es.size=true
 tab:TabOk (!byTextB w) t
 perm:(es.toList.map λe=>numOf e.2).Perm ks
 nd:ks.Nodup
def SetI (prog:Program) (w:World) (h:Heap) (a:Addr) (ks:List Int):Prop:=∃o es ep t,SetG prog w h a o es ep t ks
theorem SetI.keep {h h':Heap}{a:Addr}{ks:List Int}(x:SetI prog w h a ks) (k:∀o,h.get? a=some o->h'.get? a=some o):SetI prog w h' a ks:=by
 obtain⟨o,es,ep,t,g⟩:=x;exact⟨o,es,ep,t,k _ g.get,g.ex,g.dat,g.el,g.room,g.fit,g.tab,g.perm,g.nd⟩
theorem SetG.size {h:Heap}{a:Addr}{o:Obj}{es:Array (Int × Value)}{ep:Nat}{t:SetTable}{ks:List Int}(g:SetG prog w h a o es ep t ks):es.size=ks.length:=by
 have:=g.perm.length_eq;rw[Wab,Array.length_toList]at this;exact this
theorem Zkg {k:Int}{v:Value}(h:(intKind prog w).is k v=true):numOf v=k/\∃t,v=.int k t:=by
 obtain⟨t,rfl⟩:=Value.isInt_shape (show Value.isInt k v=true from h);exact⟨rfl,t,rfl⟩
theorem Zmk {es:List (Int × Value)}(h:ElemsOf (intKind prog w) es) {e:Int × Value}(he:e∈es):∃t,e.2=.int (numOf e.2) t:=by
 obtain⟨⟨k,hk,_⟩,_⟩:=h e he;obtain⟨h1,t,h2⟩:=Zkg hk;exact⟨t,by rw[h2];rfl⟩
theorem Zo9 {es:List (Int × Value)}(h:ElemsOf (intKind prog w) es) {k:Int}:(∃e∈es,(intKind prog w).is k e.2=true)↔k∈es.map λe=>numOf e.2:=by
 rw[Wa1];constructor
 ·rintro⟨e,he,hp⟩;exact⟨e,he,(Zkg hp).1⟩
 ·rintro⟨e,he,rfl⟩
  obtain⟨t,ht⟩:=Zmk h he;exact⟨e,he,by rw[ht];exact intKind_is _ _ _ _⟩
section
variable {A:Around}{E:Value->Shared->Prop}{s:Shared}
theorem SetG.store {h:Heap}{a:Addr}{o:Obj}{es:Array (Int × Value)}{ep:Nat}{t:SetTable}{ks:List Int}(g:SetG prog w h a o es ep t ks) {es':Array (Int × Value)}{t':SetTable}{ks':List Int}
  (hel:ElemsOf (intKind prog w) es'.toList) (hb:es'.size<scanBound) (hf:t'.fits es'.size=true) (ht:TabOk (!byTextB w) t') (hp:(es'.toList.map λe=>numOf e.2).Perm ks') (hn:ks'.Nodup) :
  SetG prog w (h.update a<|Obj.putSet es' t') a { o with data:=.set es' (ep+1) t' } es' (ep+1) t' ks':=by
 have hg:(h.update a<|Obj.putSet es' t').get? a=some { o with data:=.set es' (ep+1) t' }:=by
  have:=Wce (Obj.putSet es' t') g.get (by rw[putSet_of es' t' g.dat];rfl);rw[putSet_of es' t' g.dat]at this;exact this
 exact⟨hg,g.ex,rfl,hel,hb,hf,ht,hp,hn⟩
def addE (ks:List Int) (k:Int):List Int:=if k∈ks then ks else ks++[k]
theorem Ztc {a:Addr}{ks:List Int}{k:Int}{tk:Tok}{Q:Bool->Shared->Prop}(hS:SetI prog w s.heap a ks) (hroom:ks.length+1<scanBound)
  (h:∀b h',Heap.SameBut a s.heap h' -> SetI prog w h' a (addE ks k)->Q b { s with heap:=h' }) :
  wpAny (model prog w) A (setAddHashed a (.int k tk)<|hashInt k) Q E s:=by
 obtain⟨o,es,ep,t,g⟩:=hS;have hsz:=g.size;have hkey:(intKind prog w).is k (.int k tk)=true:=intKind_is _ _ _ _;unfold setAddHashed setAddHashedIn;refine wpAny_holding<|wpAny_bind<|wpAny_setState_of g.get g.dat g.fit ?_;dsimp only;rw[byScan_of (knd:=intKind prog w) rfl g.room g.el];simp only[↓reduceIte];unfold setAddByScan;refine wpAny_bind ?_;refine wpAny_bind<|wpAny_rule ?_;refine wpAny_bind<|wpAny_setScan_of (knd:=intKind prog w) (k:=k) hkey g.get g.dat g.fit g.el ?_;cases hr:List.findIdx? (λe=>(intKind prog w).is k e.2) es.toList with
 |some j=>
  dsimp only;obtain⟨hj,hpj,_⟩:=List.findIdx?_eq_some_iff_getElem.mp hr;have hk:k∈ks:=g.perm.mem_iff.mp ((Zo9 g.el).mp ⟨es.toList[j],Wa8 hj,hpj⟩);refine wpAny_pure<|wpAny_pure ?_;have e:s = { s with heap:=s.heap }:=by cases s;rfl
  rw[e];refine h _ s.heap (Heap.SameBut.refl a s.heap) ?_;unfold addE;rw[if_pos hk];exact⟨o,es,ep,t,g⟩
 |none=>
  dsimp only;have hk:k ∉ ks:=λz=>by
   obtain⟨e,he,hp⟩:=(Zo9 g.el).mpr (g.perm.mem_iff.mpr z);have:=List.findIdx?_eq_none_iff.mp hr e he;rw[hp]at this;cases this
  have hgw:∀(b:Bool) {s₁:Shared}{Q':Unit->Shared->Prop},Q' () s₁ -> wpAny (model prog w) A (match b with|true=>rule "set.scan.the-table-gave-way" |false=>pure ()) Q' E s₁:=
   λb s₁ Q' hq=>by cases b <;> first|exact wpAny_pure hq|exact wpAny_rule hq
  have hperm:=layNew_perm t es (hashInt k) (.int k tk);have hfits:=layNew_fits t es (hashInt k) (.int k tk);have htab:=g.tab.layNew es (hashInt k) (.int k tk);generalize hL:layNew t es (hashInt k) (.int k tk)=L at hperm hfits htab ⊢;obtain⟨es1,t1,wasDummy,gave⟩:=L;dsimp only at hperm hfits htab ⊢;rw[Array.toList_push]at hperm;have hel1:ElemsOf (intKind prog w) es1.toList:=(g.el.push (k:=k) hkey rfl).perm hperm;have hsz1:es1.size=es.size+1:=by rw[<- Array.length_toList,hperm.length_eq,Wai,Array.length_toList];rfl
  have hb1:es1.size<scanBound:=by omega
  have hp1:(es1.toList.map λe=>numOf e.2).Perm (ks++[k]):=by
   refine(hperm.map _).trans ?_;rw[Was];exact List.Perm.append_right _ g.perm
  have hnd1:(ks++[k]).Nodup:=by
   rw[Wcx];refine⟨g.nd,by simp,λa ha b hb e=>?_⟩;rw[Wa4.mp hb]at e;exact hk (e ▸ ha)
  have eadd:addE ks k=ks++[k]:=by unfold addE;rw[if_neg hk]
  refine wpAny_bind<|hgw _ ?_;have tail:∀(Q2:Option Bool->Shared->Prop),(∀h',Heap.SameBut a s.heap h' -> SetI prog w h' a (ks++[k])->Q2 (some true) { s with heap:=h' })->∀(g0:Bool->Sem Unit),(∀(b:Bool) (s₁:Shared) (Q':Unit->Shared->Prop),Q' () s₁ -> wpAny (model prog w) A (g0 b) Q' E s₁) ->
    wpAny (model prog w) A (do
     storeSet a es1 t1
     if (!wasDummy && t1.tooFull)=true then do
       g0 (relayAll t1 es1<|SetTable.grown es1.size).2.2
       storeSet a (relayAll t1 es1<|SetTable.grown es1.size).1 (relayAll t1 es1<|SetTable.grown es1.size).2.1
       pure (some true)
      else pure (some true)) Q2 E s:=by
   intro Q2 hq g0 hg0;refine wpAny_bind<|wpAny_storeSet_of g.get g.dat ?_<|fits_of_scanBound hb1;have g1:=g.store (es':=es1) (t':=t1) hel1 hb1 hfits htab hp1 hnd1;have sb1:=Heap.SameBut.update s.heap a<|Obj.putSet es1 t1;split
   ·have hp:=relayAll_perm t1 es1 (SetTable.grown es1.size)
    have hfr:=relayAll_fits t1 es1<|SetTable.grown es1.size;have htr:=htab.relay es1<|SetTable.grown es1.size;generalize hRl:relayAll t1 es1 (SetTable.grown es1.size)=Rl at hp hfr htr ⊢;obtain⟨es2,t3,gave2⟩:=Rl;dsimp only at hp hfr htr ⊢;have hsz2:es2.size=es1.size:=by rw[<- Array.length_toList,hp.length_eq,Array.length_toList]
    refine wpAny_bind<|hg0 _ _ _ ?_;refine wpAny_bind (wpAny_storeSet_of g1.get rfl ?_<|fits_of_scanBound (by omega));have g2:=g1.store (es':=es2) (t':=t3) (hel1.perm hp) (by omega) hfr htr ((hp.map _).trans hp1) hnd1;exact wpAny_pure<|hq _ (sb1.trans<|Heap.SameBut.update _ a _) ⟨_,_,_,_,g2⟩
   ·exact wpAny_pure<|hq _ sb1 ⟨_,_,_,_,g1⟩
  have hgv:∀(b:Bool) (s₁:Shared) (Q':Unit->Shared->Prop),Q' () s₁ -> wpAny (model prog w) A (match b with|true=>rule "set.scan.the-table-gave-way" |false=>pure ()) Q' E s₁:=λb s₁ Q' hq=>hgw b hq;split
  ·refine wpAny_bind ?_
   rw[hashByValue_scannable 8 (x:=.int k tk) rfl];refine wpAny_pure ?_;simp only[plainKind,if_true];exact tail _ (λh' sb hS'=>by dsimp only;exact wpAny_pure<|h _ h' sb (by rw[eadd];exact hS')) _ hgv
  ·refine wpAny_bind (wpAny_pure ?_)
   simp only[↓reduceIte];exact tail _ (λh' sb hS'=>by dsimp only;exact wpAny_pure<|h _ h' sb (by rw[eadd];exact hS')) _ hgv
end
end
def metK (val:Nat->Int):Nat->List Int
 |0=>[]
 |i+1=>addE (metK val i) (val i)
theorem Zmj (val:Nat->Int) (i:Nat):(metK val i).length<=i:=by
 induction i with
 |zero=>exact Wag _
 |succ i ih=>
  show (addE (metK val i)<|val i).length<=i+1;unfold addE;split
  ·omega
  ·rw[Wai,Wbq];omega
theorem Zs4 {val:Nat->Int}{i:Nat}{x:Int}:x∈metK val i ↔ ∃j,j<i/\val j=x:=by
 induction i with
 |zero=>simp[metK]
 |succ i ih=>
  show x∈addE (metK val i) (val i)↔_;unfold addE;constructor
  ·intro h
   split at h
   ·obtain⟨j,hj,e⟩:=ih.mp h;exact⟨j,by omega,e⟩
   ·rcases Wbh.mp h with h|h
    ·obtain⟨j,hj,e⟩:=ih.mp h;exact⟨j,by omega,e⟩
    ·exact⟨i,by omega,(Wa4.mp h).symm⟩
  ·rintro⟨j,hj,rfl⟩
   by_cases hji:j=i
   ·subst hji
    split
    ·assumption
    ·exact Wa3 _ (by simp)
   ·have:=ih.mpr ⟨j,by omega,rfl⟩
    split
    ·exact this
    ·exact Wdb _ this
section
variable {prog:Program}{w:World}{A:Around}{R:Result->Shared->Prop}{I:Addr}{fp wr:List Addr}{G:Array GenState->Array GenState->Prop}{n:Nat}{P:Nat->Value->Prop}{St:Nat->Shared->Prop}
theorem Zlg (W:WalksS prog w A.in1 I fp wr G n P St) (S:Addr) (hSf:S ∉ fp)
  (val:Nat->Int) (hval:∀i v,P i v->∃t,v=.int (val i) t) (hb:n+1<scanBound) :
  ∀(k i:Nat) (s:Shared),n-i=k->i<=n->St i s->SetI prog w s.heap S (metK val i) ->
   (∀s',Moved (S::wr) G s s' -> SetI prog w s'.heap S (metK val n)->R (.ok (.ret .none)) s') ->
   codeAny (model prog w) A (.builtin "set.update.loop" ⟨[.ref S,.ref I],[]⟩) R s:=by
 have hSw:S ∉ wr:=λh=>hSf<|W.sub _ h;have hsub:∀b∈wr,b∈S::wr:=λb hb=>Waw _ hb;intro k
 induction k with
 |zero=>
  intro i s hk hi hst hS hR;have hin:i=n:=by omega
  subst hin;refine codeAny_builtin F.entry_set_update_loop ?_;rw[Around.under_plainId F.plain_set_update_loop _];show wpAny _ A.in1 (pyNext (.ref I) >>= _) _ _ s;refine wpAny_bind (W.done s _ _ hst λs' hm=>?_);show wpAny _ A.in1 (ret Value.none) _ _ s';exact wpAny_pure<|hR s' (hm.mono hsub) (hS.keep λo e=>hm.heap S o hSw e)
 |succ k ih=>
  intro i s hk hi hst hS hR;have hlt:i<n:=by omega
  refine codeAny_builtin F.entry_set_update_loop ?_;rw[Around.under_plainId F.plain_set_update_loop _];show wpAny _ A.in1 (pyNext (.ref I) >>= _) _ _ s;refine wpAny_bind (W.item i s _ _ hlt hst λv s' hP hst' hm=>?_);obtain⟨t,rfl⟩:=hval i v hP;have hS':SetI prog w s'.heap S (metK val i):=hS.keep λo e=>hm.heap S o hSw e;show wpAny _ A.in1 (holding [Value.int (val i) t] (setAdd S (.int (val i) t)) >>= _) _ _ s';refine wpAny_bind<|wpAny_holding ?_;unfold setAdd;refine wpAny_holding ?_;refine wpAny_bind ((intKind prog w).pyHash (k:=val i) (intKind_is _ _ _ _) ?_);have hroom:(metK val i).length+1<scanBound:=by have:=Zmj val i;omega
  refine Ztc (s:={ s' with toks:=s'.toks+1 }) hS' hroom λb h' hsb hS2=>?_;refine wpAny_pure ⟨plainId_quiet F.plain_set_update_loop _,ih (i+1) _ (by omega) hlt (W.frame _ s' _ _ hst' (Wc2 _) λb hb o e=>?_) hS2 λs'' hm'' hS''=>?_⟩
  ·rw[hsb.2 b (λh:b=S=>hSf (by rw[<- h];exact hb))];exact e
  ·refine hR s'' (Moved.trans W.gtrans ((hm.mono hsub).then_heap (Wc2 _) λb o hb e=>?_) hm'') hS''
   rw[hsb.2 b (λh:b=S=>hb (by rw[h];exact Wa7))];exact e
end
section
variable {prog:Program}{w:World}{A:Around}{E:Value->Shared->Prop}{s:Shared}
abbrev set0 (w:World):Obj:={ cls:=.type "set",dict:=none,data:=.set #[] 0 (.fresh 0 0 (!byTextB w)) }
theorem Ztd (x:Value) {N:Value->Shared->Prop}(h:N (.ref s.heap.objs.size) { s with heap:=s.heap.push (set0 w) }) :
  codeAny (model prog w) A (.call (.builtin "set.__new__") ⟨[.type "set",x],[]⟩) (wants N E) s:=
 codeAny_of_tree (by
  have su:=sub_set_self;obtain⟨hp,g,d,tk,os⟩:=s;refine wpAny_bind (m:=checkBuiltinCall "set.__new__" ⟨[.type "set",x],[]⟩)<|wpAny_of_eq (F.newCall_set_1 x)<|wpAny_pure ⟨plainId_quiet F.plain_set_new _,codeAny_builtin F.entry_set_new ?_⟩;rw[Around.under_plainId F.plain_set_new _];unfold Builtin.«set.__new__» Builtin.Frozenset.newClass
  wp_walk
  refine wpAny_askSetting (wpAny_pure ?_);simp only[newObj];exact wpAny_bind (wpAny_alloc (wpAny_pure (wpAny_pure h))))
theorem Zp4 {S l:Addr}{its:Array Value}{ns:List Int}{N:Result->Shared->Prop}(hh:A.handled=none) (hS:s.heap.get? S=some (set0 w)) (hl:s.heap.IsList l its) (hi:IntsAre its.toList ns) (hb:its.size+1<scanBound)
  (q:∀h' tk,SetI prog w h' S (metK (λi=>ns.getD i 0) its.size)->(∀b o,b≠S->s.heap.get? b=some o->h'.get? b=some o)->N (.ok (.ret .none)) { s with heap:=h',toks:=tk }) :
  wpAny (model prog w) A.in1 (Builtin.«set.__init__» ⟨[.ref S,.ref l],[]⟩) (λfin s'=>match fin with|.done f=>N (.ok f) s'|.again c=>c.quiet=true/\codeAny (model prog w) A c N s') (λe s'=>N (.error e) s') s:=by
 have lS:l≠S:=by
  obtain⟨o,e,c,_⟩:=hl;intro z;subst z;rw[hS]at e;cases e;exact absurd (show Value.type "set" = Value.type "list" from c) (by decide)
 have lt:l<s.heap.objs.size:=by obtain⟨o,e,_⟩:=hl;exact Wap e
 have ltS:S<s.heap.objs.size:=Wap hS;obtain⟨⟨c0,d0,dt0,sl0⟩,e0,hc0,n0,hd0⟩:=id hl;simp only at hc0 hd0;subst hc0 hd0;have hT:s.TypeIs (.ref S) "set":=⟨_,hS,rfl⟩;have k1:=F.sub_list_set;have k2:=F.sub_list_frozenset;have k3:(Value.type "list" == Value.type "dict")=false:=by decide
 unfold Builtin.«set.__init__» noKeywords Builtin.Frozenset.updateFrom;generalize hPI:pyIter=PI
 wp_walk
 subst hPI;refine wpAny_pyIter_list hl<|wpAny_bind<|wpAny_runValue ?_;have ne1:l≠s.heap.objs.size:=Way lt;have ne2:S ∉ [s.heap.objs.size,l]:=by
  simp only[Wan,Wbk,or_false,not_or];exact⟨Way ltS,Ne.symm lS⟩
 refine Zlg (Walks.list (by simp[hh]) _ l ne1 its).toS S ne2 (λi=>ns.getD i 0) (λi v e=>IntsAre.int_at hi i v (by rw[Array.getElem?_toList];exact e)) hb its.size 0 _ (by omega) (Wbn _) ⟨⟨_,Wao _ rfl,rfl,rfl⟩,hl.push _⟩ ?_ λs2 mv fin=>?_
 ·exact⟨_,#[],0,_,Wad _ hS,⟨rfl,rfl,rfl⟩,rfl,λe he=>by simp at he,by decide,by rfl,TabOk.fresh _,List.Perm.refl _,Wdl⟩
 ·rw[Moved.eq_with mv]
  refine wpAny_pure<|wpAny_pure (q _ _ fin λb o hb e=>mv.heap b o ?_<|Wad _ e);simp only[Wan,Wbk,or_false,not_or];exact⟨hb,Way<|Wap e⟩
set_option maxHeartbeats 3200000 in
theorem Zoq {l:Addr}{its:Array Value}{ns:List Int}{Q:Value->Shared->Prop}(hh:A.handled=none) (hl:s.heap.IsList l its) (hi:IntsAre its.toList ns) (hb:its.size+1<scanBound)
  (q:∀(h':Heap) (tk:Nat),SetI prog w h' s.heap.objs.size (metK (λi=>ns.getD i 0) its.size)->(∀b o,s.heap.get? b=some o->h'.get? b=some o)->Q (.ref s.heap.objs.size) { s with heap:=h',toks:=tk }) :
  wpAny (model prog w) A (call (.type "set") [.ref l]) Q E s:=by
 have ft:=F.called_set;obtain⟨c,tl,e1⟩:=ft.mro;have e2:=ft.made;have e3:=ft.sub;have e4:=ft.notType;have e5:=ft.canCreate;have e6:=F.typeCall_set_1 (.ref l);refine wpAny_call<|codeAny_of_tree (show wpAny _ _ (callAny (.type "set") _) _ _ _ from wpAny_pure ⟨Code.quiet_builtin _ (by decide +kernel),codeAny_builtin F.entry_type_call ?_⟩);rw[Around.under_plain (weight_type_call_type _ _ _) rfl]
 repeat (any_goals (first|assumption|wp_step))
 refine codeAny_mono (Ztd (.ref l) (E:=E) (N:=λv s1=>v=.ref s.heap.objs.size/\s1 = { s with heap:=s.heap.push (set0 w) }) ⟨rfl,rfl⟩) λr s1 hr=>?_;cases r with
 |error e=>exact hr
 |ok fl=>
  cases fl with
  |ret v=>
   obtain⟨rfl,rfl⟩:=hr;have hS:(s.heap.push<|set0 w).get? s.heap.objs.size=some (set0 w):=Wao _ rfl;have hT:Shared.TypeIs { s with heap:=s.heap.push (set0 w) } (.ref s.heap.objs.size) "set":=⟨_,hS,rfl⟩;have f1:=ft.init.lookup;have f2:=ft.init.bind (.ref s.heap.objs.size)
   repeat (any_goals (first|assumption|wp_step))
   refine codeAny_mono (codeAny_call_builtin (R:=wants (λr s2=>r=.none/\Q (.ref s.heap.objs.size) s2) E) ft.init.plain F.entry_set_init<|check_set_init_1 hT (Zp4 (by simp[hh]) hS (hl.push _) hi hb λh' tk z1 z2=>⟨rfl,q h' tk z1 λb o e=>z2 b o (Way<|Wap e)<|Wad _ e⟩)) λr2 s2 hr2=>?_;cases r2 with
   |error e=>exact hr2
   |ok fl2=>
    cases fl2 with
    |ret r=>
     obtain⟨rfl,hq⟩:=hr2
     repeat (any_goals (first|assumption|wp_step))
    |_=>exact hr2.elim
  |_=>exact hr.elim
end
open PySem PySem.Spec PyProof.Rows PySem.SeqAt
theorem Zau:PySem.Slot "set_iterator" "__next__" "set_iterator.__next__":=
 .of (owner:="set_iterator") (n:="__next__") (by rw[typeLookup_type,builtinLookup_eq_fast];kernel_rfl) (by decide +kernel) (by decide +kernel) (by decide +kernel)
  (by first|exact .inl (by decide +kernel)|exact .inr (by decide +kernel)) (by rw[isSubtype_type];kernel_rfl)
theorem Zbw:entryFor table "set_iterator.__next__" = some Builtin.«set_iterator.__next__»:=entryFor_of_tree (by kernel_rfl)
theorem Zhf:entryFor table "set.__iter__" = some Builtin.«frozenset.__iter__»:=entryFor_alias (id':="frozenset.__iter__") (by kernel_rfl) rfl (by decide +kernel) (by kernel_rfl)
theorem Zb4 (a:Value):argsOk "set_iterator.__next__" ⟨[a],[]⟩:=by
 unfold argsOk;kernel_rfl
abbrev setItO (first:Value) (i:Nat) (a:Addr) (n ep:Nat):Obj:={ cls:=.type "set_iterator",dict:=none,data:=.fields #[first,.int i 0,.ref a,.int n 0,.int ep 0],slots:=#[] }
section
variable {prog:Program}{w:World}{A:Around}{E:Value->Shared->Prop}{s:Shared}
theorem Zn9 {I a:Addr}{slot i next:Nat}{x:Value}{o:Obj}{es:Array (Int × Value)}{ep:Nat}{t:SetTable}{ks:List Int}{Q:Option Value->Shared->Prop}(hI:s.heap.get? I=some (setItO (.int slot 0) i a es.size ep)) (g:SetG prog w s.heap a o es ep t ks)
  (hn:∀(A:Around) (E:Value->Shared->Prop) (Q':Option (Value × Nat)->Shared->Prop),Q' (some (x,next)) s->wpAny (model prog w) A (setNext a slot i ep) Q' E s)
  (q:∀h',h'.get? I=some (setItO (.int next 0) (i+1) a es.size ep)->Heap.SameBut I s.heap h' -> Q (some x) { s with heap:=h' }):wpAny (model prog w) A (pyNext (.ref I)) Q E s:=by
 have hT:s.TypeIs (.ref I) "set_iterator":=⟨_,hI,rfl⟩;unfold pyNext;refine wpAny_bind<|wpAny_attempt<|wpAny_callSpecial?_slot (name:=Str.ofString "__next__") hT Zau<|wpAny_call_entry Zau hT Zbw ?_<|Zb4 _;refine wpAny_bind<|wpAny_pure ?_;refine wpAny_bind<|wpAny_fieldsOf hI rfl ?_;refine wpAny_bind<|wpAny_setEntries_of g.get g.dat g.fit ?_;rw[if_neg (by simp)];refine wpAny_bind<|hn _ _ _ ?_;refine wpAny_bind (wpAny_setField_rec hI (by simp) λh1 e1 sb1=>?_);refine wpAny_bind (wpAny_setField_rec (s:={ s with heap:=h1 }) e1 (by simp) λh2 e2 sb2=>?_);exact wpAny_pure ⟨_,rfl,wpAny_pure<|q h2 (by rw[e2];rfl)<|sb1.trans sb2⟩
theorem Znn {I a:Addr}{slot i:Nat}{o:Obj}{es:Array (Int × Value)}{ep:Nat}{t:SetTable}{ks:List Int}{Q:Option Value->Shared->Prop}(hh:A.handled=none) (hI:s.heap.get? I=some (setItO (.int slot 0) i a es.size ep)) (g:SetG prog w s.heap a o es ep t ks)
  (hn:∀(A:Around) (E:Value->Shared->Prop) (Q':Option (Value × Nat)->Shared->Prop),Q' none s->wpAny (model prog w) A (setNext a slot i ep) Q' E s)
  (q:∀h',Heap.ExtBut I s.heap h' -> Q none { s with heap:=h' }):wpAny (model prog w) A (pyNext (.ref I)) Q E s:=by
 have hT:s.TypeIs (.ref I) "set_iterator":=⟨_,hI,rfl⟩;unfold pyNext;refine wpAny_bind<|wpAny_attempt<|wpAny_callSpecial?_slot (name:=Str.ofString "__next__") hT Zau<|wpAny_call_entry Zau hT Zbw ?_<|Zb4 _;refine wpAny_bind<|wpAny_pure ?_;refine wpAny_bind<|wpAny_fieldsOf hI rfl ?_;refine wpAny_bind<|wpAny_setEntries_of g.get g.dat g.fit ?_;rw[if_neg (by simp)];refine wpAny_bind<|hn _ _ _ ?_;refine wpAny_bind (wpAny_setField_rec hI (by simp) λh1 e1 sb1=>wpAny_bind ?_);simp only[newExc,newTuple];refine wpAny_bind<|wpAny_newObj_type ?_ (by size_fits);refine wpAny_bind (m:=firstArgMember _ _)<|wpAny_of_eq (a:=Value.none) (by first|rfl|(simp only[firstArgMember];rfl)) ?_;refine wpAny_newObj_type ?_ (by size_fits);simp only[raiseNew];refine wpAny_bind<|wpAny_handled ?_;rw[show A.in1.handled=none from hh];refine wpAny_bind<|wpAny_pure<|wpAny_throw ?_;refine wpAny_bind<|wpAny_isInstance (T:="StopIteration") (b:=true) ⟨_,Wao _ rfl,rfl⟩ isSubtype_stop ?_;exact wpAny_pure<|q _ ((sb1.extBut.push _).push _)
theorem Zk6 {I a T:Addr}{i k:Nat}{e:Int × Value}{o:Obj}{es:Array (Int × Value)}{ep:Nat}{t:SetTable}{ks:List Int}{pl:List Nat}{Q:Option Value->Shared->Prop}(hI:s.heap.get? I=some (setItO (.ref T) i a es.size ep)) (g:SetG prog w s.heap a o es ep t ks)
  (hT:s.heap.get? T=some { cls:=.type "tuple",data:=.seq (pl.map λj:Nat=>rawInt (j:Int)).toArray }) (hk:pl[i]?=some k) (he:es[k]?=some e)
  (q:∀h',h'.get? I=some (setItO (.ref T) (i+1) a es.size ep)->Heap.SameBut I s.heap h' -> Q (some e.2) { s with heap:=h' }):wpAny (model prog w) A (pyNext (.ref I)) Q E s:=by
 have hTy:s.TypeIs (.ref I) "set_iterator":=⟨_,hI,rfl⟩;unfold pyNext;refine wpAny_bind<|wpAny_attempt<|wpAny_callSpecial?_slot (name:=Str.ofString "__next__") hTy Zau<|wpAny_call_entry Zau hTy Zbw ?_<|Zb4 _;refine wpAny_bind<|wpAny_pure ?_;refine wpAny_bind<|wpAny_fieldsOf hI rfl ?_;refine wpAny_bind<|wpAny_setEntries_of g.get g.dat g.fit ?_;rw[if_neg (by simp)];refine wpAny_bind<|wpAny_seqItems hT rfl ?_;have e1:(pl.map λj:Nat=>rawInt (j:Int)).toArray[(i:Int).toNat]?=some (.int (k:Int) 0):=by
  rw[Wam,Wcr,Wae,hk];rfl
 dsimp only;rw[e1];dsimp only;unfold setNextDrawn;refine wpAny_bind<|wpAny_bind<|wpAny_setState_of g.get g.dat g.fit ?_;dsimp only;rw[if_neg (by simp)];rw[show es[(k:Int).toNat]?=some e from by rw[Wam];exact he];obtain⟨e1,e2⟩:=e;refine wpAny_pure ?_;refine wpAny_bind (wpAny_setField_rec hI (by simp) λh2 e2' sb2=>?_);exact wpAny_pure ⟨_,rfl,wpAny_pure<|q h2 (by rw[e2'];rfl) sb2⟩
theorem Zhd {I a T:Addr}{i:Nat}{o:Obj}{es:Array (Int × Value)}{ep:Nat}{t:SetTable}{ks:List Int}{pl:List Nat}{Q:Option Value->Shared->Prop}(hh:A.handled=none) (hI:s.heap.get? I=some (setItO (.ref T) i a es.size ep)) (g:SetG prog w s.heap a o es ep t ks)
  (hT:s.heap.get? T=some { cls:=.type "tuple",data:=.seq (pl.map λj:Nat=>rawInt (j:Int)).toArray }) (hk:pl[i]?=none)
  (q:∀h',Heap.ExtBut I s.heap h' -> Q none { s with heap:=h' }):wpAny (model prog w) A (pyNext (.ref I)) Q E s:=by
 have hTy:s.TypeIs (.ref I) "set_iterator":=⟨_,hI,rfl⟩;unfold pyNext;refine wpAny_bind<|wpAny_attempt<|wpAny_callSpecial?_slot (name:=Str.ofString "__next__") hTy Zau<|wpAny_call_entry Zau hTy Zbw ?_<|Zb4 _;refine wpAny_bind<|wpAny_pure ?_;refine wpAny_bind<|wpAny_fieldsOf hI rfl ?_;refine wpAny_bind<|wpAny_setEntries_of g.get g.dat g.fit ?_;rw[if_neg (by simp)];refine wpAny_bind<|wpAny_seqItems hT rfl ?_;have e1:(pl.map λj:Nat=>rawInt (j:Int)).toArray[(i:Int).toNat]?=none:=by
  rw[Wam,Wcr,Wae,hk];rfl
 dsimp only;rw[e1];dsimp only;refine wpAny_bind (wpAny_setField_rec hI (by simp) λh1 e1 sb1=>?_);refine wpAny_bind (wpAny_setField_rec (s:={ s with heap:=h1 }) e1 (by simp) λh2 e2 sb2=>wpAny_bind ?_);simp only[newExc,newTuple];refine wpAny_bind<|wpAny_newObj_type ?_ (by size_fits);refine wpAny_bind (m:=firstArgMember _ _)<|wpAny_of_eq (a:=Value.none) (by first|rfl|(simp only[firstArgMember];rfl)) ?_;refine wpAny_newObj_type ?_ (by size_fits);simp only[raiseNew];refine wpAny_bind<|wpAny_handled ?_;rw[show A.in1.handled=none from hh];refine wpAny_bind<|wpAny_pure<|wpAny_throw ?_;refine wpAny_bind<|wpAny_isInstance (T:="StopIteration") (b:=true) ⟨_,Wao _ rfl,rfl⟩ isSubtype_stop ?_;exact wpAny_pure<|q _ (((sb1.trans sb2).extBut.push _).push _)
theorem Zhs (a:Addr) (slot given ep:Nat):setNext a slot given ep=(do
  let (es,epoch,t) <- setState a
  if <- setsByText then
   if epoch != ep then unsupported "set_iterator.__next__:elements-changed"
   return ((<- setWalk a)[given]?).map λe=>(e.2,slot)
  if !t.plain && es.size > 1 then unsupported "set_iterator.__next__:the-table-is-plain-no-more"
  let _ <- (if !t.led && !es.isEmpty then unsupported "set:maker-not-led" else pure ():Sem Unit)
  let i:=SetTable.below t.place slot
  return match es[i]?,t.place[i]? with
   |some (_,x),some j=>some (x,j+1)
   |_,_=>none):=rfl
theorem Zob (a:Addr):setWalk a=(do
  let (es,epoch,t) <- setState a
  if <- setsByText then return pickOrder ((<- ask).params.setOrder a epoch) es
  if !t.plain && es.size > 1 then return (<- drawOrder es.size es.toList).toArray
  let _ <- (if !t.led && es.size > 1 then unsupported "set:maker-not-led" else pure ():Sem Unit)
  return es):=rfl
theorem Zlk (a:Addr):setDrawn a=(do
  let (es,_,t) <- setState a
  let byText <- setsByText
  return !byText && (!t.plain && es.size > 1)):=rfl
end
theorem Zd5:PySem.Slot "set_iterator" "__iter__" "set_iterator.__iter__":=
 .of (owner:="set_iterator") (n:="__iter__") (by rw[typeLookup_type,builtinLookup_eq_fast];kernel_rfl) (by decide +kernel) (by decide +kernel) (by decide +kernel)
  (by first|exact .inl (by decide +kernel)|exact .inr (by decide +kernel)) (by rw[isSubtype_type];kernel_rfl)
theorem Zfy:entryFor table "set_iterator.__iter__" = some Builtin.«dict_keyiterator.__iter__»:=entryFor_alias (id':="dict_keyiterator.__iter__") (by kernel_rfl) rfl (by decide +kernel) (by kernel_rfl)
theorem Zg2 (a:Value):argsOk "set_iterator.__iter__" ⟨[a],[]⟩:=by unfold argsOk;kernel_rfl
section
variable {prog:Program}{w:World}{A:Around}{E:Value->Shared->Prop}{s:Shared}
theorem Zhi {I:Addr}{first:Value}{i n ep:Nat}{a:Addr}{Q:Value->Shared->Prop}(hI:s.heap.get? I=some (setItO first i a n ep)) (q:Q (.ref I) s):wpAny (model prog w) A (pyIter (.ref I)) Q E s:=by
 have hT:s.TypeIs (.ref I) "set_iterator":=⟨_,hI,rfl⟩;refine wpAny_pyIter_slot hT Zd5<|wpAny_call_entry Zd5 hT Zfy ?_<|Zg2 _;show wpAny _ _ (ret (.ref I)) _ _ s;exact wpAny_pure ⟨_,rfl,"set_iterator",_,hT,Zau.lookup,q⟩
theorem Ze3 {Q:Bool->Shared->Prop}(q:Q (byTextB w) s):wpAny (model prog w) A setsByText Q E s:=by
 unfold setsByText;exact wpAny_bind<|wpAny_askSetting<|wpAny_pure q
theorem Zj7 {a:Addr}{slot given ep:Nat}{o:Obj}{es:Array (Int × Value)}{t:SetTable}{ks:List Int}{Q:Option (Value × Nat)->Shared->Prop}(hb:byTextB w=true) (g:SetG prog w s.heap a o es ep t ks)
  (q:Q (((pickOrder (w.params.setOrder a ep) es)[given]?).map λe=>(e.2,slot)) s):wpAny (model prog w) A (setNext a slot given ep) Q E s:=by
 rw[Zhs];refine wpAny_bind<|wpAny_setState_of g.get g.dat g.fit<|wpAny_bind<|Ze3 ?_;rw[hb];simp only[if_true];rw[if_neg (by simp),Zob];refine wpAny_bind<|wpAny_bind<|wpAny_setState_of g.get g.dat g.fit<|wpAny_bind<|Ze3 ?_;rw[hb];simp only[if_true];exact wpAny_bind<|wpAny_askSetting<|wpAny_pure<|wpAny_pure q
theorem Zhn {a:Addr}{slot given ep:Nat}{o:Obj}{es:Array (Int × Value)}{t:SetTable}{ks:List Int}{Q:Option (Value × Nat)->Shared->Prop}(hb:byTextB w=false) (g:SetG prog w s.heap a o es ep t ks) (hd:(!t.plain && decide (es.size > 1))=false)
  (q:Q (match es[SetTable.below t.place slot]?,t.place[SetTable.below t.place slot]? with|some (_,x),some j=>some (x,j+1)|_,_=>none) s):wpAny (model prog w) A (setNext a slot given ep) Q E s:=by
 have hl:t.led=true:=by rw[g.tab.led,hb];rfl
 rw[Zhs];refine wpAny_bind<|wpAny_setState_of g.get g.dat g.fit<|wpAny_bind<|Ze3 ?_;rw[hb];simp only[Wav,if_false,hd,hl,Wc9,Wci];exact wpAny_bind<|wpAny_pure<|wpAny_pure q
theorem Zfn {α:Type}:∀{l:List α}{i:Nat}(h:i<l.length),(l[i]::l.eraseIdx i).Perm l
 |x::l,0,_=>List.Perm.refl _
 |x::l,i+1,h=>by
  have h':i<l.length:=by simpa using h
  show (l[i]::x::l.eraseIdx i).Perm (x::l);exact(List.Perm.swap _ _ _).trans (List.Perm.cons _<|Zfn h')
theorem Zqh {α:Type}(next:Nat->Nat):∀(fuel k:Nat) (left:List α) (out:Array α),left.length=fuel->(pickOrder.go next fuel k left out).toList.Perm (out.toList++left)
 |0,k,left,out,h=>by
  have:left=[]:=Wb2 h;subst this;unfold pickOrder.go;rw[Wbi]
 |fuel+1,k,left,out,h=>by
  unfold pickOrder.go;have hi:next k % left.length<left.length:=Web _ (by omega)
  rw[Waa hi];dsimp only;refine(Zqh next fuel (k+1) _ _ (by rw[List.length_eraseIdx_of_lt hi];omega)).trans ?_;rw[Array.toList_push,Wcz];refine List.Perm.append_left _ ?_;exact Zfn hi
theorem Zrt {α:Type}(next:Nat->Nat) (xs:Array α):(pickOrder next xs).toList.Perm xs.toList:=by
 unfold pickOrder;exact Zqh next xs.size 0 xs.toList #[] (by simp)
def slotAt (pl:Array Nat):Nat->Nat
 |0=>0
 |j+1=>pl.getD j 0+1
theorem Zfv {pl:Array Nat}(R:Ris pl) {j:Nat}(hj:j<=pl.size):SetTable.below pl (slotAt pl j)=j:=by
 obtain⟨b1,b2,b3⟩:=Zec R<|slotAt pl j;cases j with
 |zero=>
  apply Classical.byContradiction;intro h;have hlt:0<pl.size:=by omega
  have:=b2 0 _ (by omega)<|Array.getElem?_eq_getElem hlt;exact absurd this (by show ¬ _<0;omega)
 |succ j=>
  have hlt:j<pl.size:=by omega
  have hg:pl.getD j 0=pl[j]:=by simp[Array.getD,hlt]
  have es:slotAt pl (j+1)=pl[j]+1:=by show pl.getD j 0+1=_;rw[hg]
  rw[es]at b1 b2 b3 ⊢;rcases Weo (SetTable.below pl<|pl[j]+1) (j+1) with z|z|z
  ·have:=b3 j _ (by omega) (Array.getElem?_eq_getElem hlt)
   omega
  ·exact z
  ·have hlt2:j+1<pl.size:=by omega
   have h1:=b2 (j+1) _ z<|Array.getElem?_eq_getElem hlt2;have h2:=R j (j+1) _ _ (by omega) (Array.getElem?_eq_getElem hlt)<|Array.getElem?_eq_getElem hlt2;omega
theorem SetG.keep {h h':Heap}{a:Addr}{o:Obj}{es:Array (Int × Value)}{ep:Nat}{t:SetTable}{ks:List Int}(g:SetG prog w h a o es ep t ks) (k:∀o,h.get? a=some o->h'.get? a=some o):SetG prog w h' a o es ep t ks:=
 ⟨k _ g.get,g.ex,g.dat,g.el,g.room,g.fit,g.tab,g.perm,g.nd⟩
theorem Zhw (hh:A.handled=none) {I a:Addr}(hne:a≠I) {o:Obj}{es:Array (Int × Value)}{ep:Nat}{t:SetTable}{ks:List Int}(sl:Nat->Nat) (L:List (Int × Value))
  (hs:∀(s:Shared) j e,SetG prog w s.heap a o es ep t ks->L[j]?=some e->∀(A:Around) (E:Value->Shared->Prop) (Q':Option (Value × Nat)->Shared->Prop),Q' (some (e.2,sl (j+1))) s->wpAny (model prog w) A (setNext a (sl j) j ep) Q' E s)
  (hd:∀(s:Shared),SetG prog w s.heap a o es ep t ks->∀(A:Around) (E:Value->Shared->Prop) (Q':Option (Value × Nat)->Shared->Prop),Q' none s->wpAny (model prog w) A (setNext a (sl L.length) L.length ep) Q' E s) :
  Walks prog w A I [I,a] [I] L.length (λj v=>∃e,L[j]?=some e/\v=e.2) (λj h=>h.get? I=some (setItO (.int (sl j) 0) j a es.size ep)/\SetG prog w h a o es ep t ks) where
 sub:=λb hb=>by simp at hb;simp[hb]
 frame:=λ_ _ _ st hk=>⟨hk I (by simp) _ st.1,st.2.keep λo e=>hk a (by simp) o e⟩
 item:=λi s Q E hi st hQ=>by
  refine Zn9 st.1 st.2 (hs s i _ st.2<|Waa hi) λh' e sb=>?_;refine hQ _ h' s.toks ⟨_,Waa hi,rfl⟩ ⟨e,st.2.keep λo q=>(sb.2 a hne).trans q⟩ λb o hb q=>(sb.2 b λz=>hb (by simp[z])).trans q
 done:=λs Q E st hQ=>Znn hh st.1 st.2 (hd s st.2) λh' eb=>hQ h' s.toks λb o hb e=>eb b o (λz=>hb (by simp[z])) e
 self:=λ_ _ _ _ st hQ=>Zhi st.1 hQ
theorem Zk4 (hh:A.handled=none) {I a T:Addr}(hne:a≠I) (hnt:T≠I) {o:Obj}{es:Array (Int × Value)}{ep:Nat}{t:SetTable}{ks:List Int}(pl:List Nat) (L:List (Int × Value)) (hl:L.length=pl.length) (hs:∀(j k:Nat) e,pl[j]?=some k->L[j]?=some e->es[k]?=some e) :
  Walks prog w A I [I,a,T] [I] L.length (λj v=>∃e,L[j]?=some e/\v=e.2) (λj h=>h.get? I=some (setItO (.ref T) j a es.size ep)/\SetG prog w h a o es ep t ks/\h.get? T=some { cls:=.type "tuple",data:=.seq (pl.map λj:Nat=>rawInt (j:Int)).toArray }) where
 sub:=λb hb=>by simp at hb;simp[hb]
 frame:=λ_ _ _ st hk=>⟨hk I (by simp) _ st.1,st.2.1.keep λo e=>hk a (by simp) o e,hk T (by simp) _ st.2.2⟩
 item:=λi s Q E hi st hQ=>by
  have hp:i<pl.length:=by omega
  refine Zk6 st.1 st.2.1 st.2.2 (Waa hp) (hs i _ _ (Waa hp)<|Waa hi) λh' e sb=>?_;refine hQ _ h' s.toks ⟨_,Waa hi,rfl⟩ ⟨e,st.2.1.keep λo q=>(sb.2 a hne).trans q,(sb.2 T hnt).trans st.2.2⟩ λb o hb q=>(sb.2 b λz=>hb (by simp[z])).trans q
 done:=λs Q E st hQ=>Zhd hh st.1 st.2.1 st.2.2 (Wbt<|by omega) λh' eb=>hQ h' s.toks λb o hb e=>eb b o (λz=>hb (by simp[z])) e
 self:=λ_ _ _ _ st hQ=>Zhi st.1 hQ
theorem Zqv {src:Source}{n:Nat}{Q:Nat->Shared->Prop}(hn:n≠0) (q:∀k dr,k<n->Q k { s with drawn:=dr }):wpAny (model prog w) A (choose src n) Q E s:=by
 intro Γ p _;unfold choose;rw[Sem.wp_choose];refine⟨hn,?_⟩;show Sem.wp _ _ (Sem.pure _) _ _ _ _
 first|rw[Sem.wp_pure]|simp only[Sem.wp]
 exact q _ _<|Web _<|Nat.pos_of_ne_zero hn
theorem Zrc:∀(n:Nat) {s:Shared}{xs:List Nat}{Q:List Nat->Shared->Prop},xs.length=n->(∀ys dr,ys.Perm xs->Q ys { s with drawn:=dr })->wpAny (model prog w) A (drawOrder n xs) Q E s
 |0,s,xs,Q,h,q=>by
  have:xs=[]:=Wb2 h;subst this;unfold drawOrder;exact wpAny_pure<|q [] s.drawn<|List.Perm.refl _
 |n+1,s,[],Q,h,q=>by simp at h
 |n+1,s,x::xs,Q,h,q=>by
  unfold drawOrder;refine wpAny_bind (Zqv (by simp) λk dr hk=>?_);rw[Waa hk];refine wpAny_bind (Zrc n (by rw[List.length_eraseIdx_of_lt hk];omega) λys dr' hy=>wpAny_pure<|q _ dr' ?_);exact(List.Perm.cons _ hy).trans (Zfn hk)
end
section
variable {prog:Program}{w:World}{A:Around}{E:Value->Shared->Prop}{s:Shared}
structure SWalk (prog:Program) (w:World) (A:Around) (a:Addr) (es:Array (Int × Value)) (s s1:Shared) (I:Addr) where
 fp:List Addr
 L:List (Int × Value)
 St:Nat->Heap->Prop
 old:∀b o,s.heap.get? b=some o->s1.heap.get? b=some o
 new:s.heap.objs.size<=I
 fpo:∀b∈fp,b=a\/s.heap.objs.size<=b
 perm:L.Perm es.toList
 W:Walks prog w A I fp [I] L.length (λj v=>∃e,L[j]?=some e/\v=e.2) St
 st:St 0 s1.heap
theorem Zn4 (es:Array (Int × Value)):(Wah es.size).map (λk=>es.getD k (0,.none))=es.toList:=by
 apply Wes
 ·simp
 ·intro i h1 h2
  simp only[List.getElem_map,Wcq,Array.getElem_toList];simp only[Array.length_toList]at h2;simp[Array.getD,h2]
theorem set_iter {a:Addr}{o:Obj}{es:Array (Int × Value)}{ep:Nat}{t:SetTable}{ks:List Int}{Q:Value->Shared->Prop}(hh:A.handled=none) (g:SetG prog w s.heap a o es ep t ks)
  (q:∀(h1:Heap) dr (I:Addr),Nonempty (SWalk prog w A a es s { s with heap:=h1,drawn:=dr } I)->Q (.ref I) { s with heap:=h1,drawn:=dr }):wpAny (model prog w) A (pyIter (.ref a)) Q E s:=by
 have hT:s.TypeIs (.ref a) "set":=⟨o,g.get,g.ex.1⟩;have hlt:a<s.heap.objs.size:=Wap g.get;have hne1:a≠s.heap.objs.size:=Way hlt;have hne2:a≠s.heap.objs.size+1:=Way<|Wbo hlt;have hroom:es.size<=sizeLine:=by
  have:=g.room;rw[sizeLine_eq];unfold scanBound at this;omega
 refine wpAny_pyIter_slot hT F.slot_set_iter<|wpAny_call_entry F.slot_set_iter hT Zhf ?_<|F.args_set_iter_1 _;unfold Builtin.«frozenset.__iter__» Builtin.Frozenset.slot0 slotArgs;simp only[Wer,Wc9,Wav,↓reduceIte,bind_assoc,Wb6,bne_self_eq_false];unfold Builtin.Frozenset.addrOf Builtin.Frozenset.sizeOf;refine wpAny_bind<|wpAny_pure ?_
 try dsimp only
 refine wpAny_bind<|wpAny_pure ?_;refine wpAny_bind<|wpAny_bind<|wpAny_setEntries_of g.get g.dat g.fit<|wpAny_pure ?_;rw[Zlk];refine wpAny_bind<|wpAny_bind<|wpAny_setState_of g.get g.dat g.fit<|wpAny_bind<|Ze3<|wpAny_pure ?_;by_cases hd:(!byTextB w && (!t.plain && decide (es.size > 1)))=true
 ·have hd2:=hd
  rw[if_pos hd];refine wpAny_bind (Zrc es.size (by simp) λys dr hy=>?_);have hyl:=hy.length_eq;rw[Waz]at hyl;refine wpAny_bind<|wpAny_newTuple ?_ (by rw[Wab,hyl];exact hroom);have g1:=g.keep (h':=s.heap.push<|seqObj "tuple" (ys.map λi:Nat=>rawInt (i:Int)).toArray 0) λo e=>Wad _ e;refine wpAny_bind<|wpAny_setEpoch_of g1.get g1.dat g1.fit ?_;refine wpAny_bind<|wpAny_newObj_type ?_ (by size_fits);have hsz:(s.heap.push<|seqObj "tuple" (ys.map λi:Nat=>rawInt (i:Int)).toArray 0).objs.size=s.heap.objs.size+1:=size_push' _ _;have hI:((s.heap.push<|seqObj "tuple" (ys.map λi:Nat=>rawInt (i:Int)).toArray 0).push (setItO (.ref s.heap.objs.size) 0 a es.size ep)).get? (s.heap.objs.size+1)=some (setItO (.ref s.heap.objs.size) 0 a es.size ep):=by
   rw[<- hsz];exact Wao _ rfl
  have hTu:((s.heap.push<|seqObj "tuple" (ys.map λi:Nat=>rawInt (i:Int)).toArray 0).push (setItO (.ref s.heap.objs.size) 0 a es.size ep)).get? s.heap.objs.size=some { cls:=.type "tuple",data:=.seq (ys.map λj:Nat=>rawInt (j:Int)).toArray }:=
   Wad _ (Wao _ rfl)
  show wpAny _ _ (ret (.ref (s.heap.push<|seqObj "tuple" (ys.map λi:Nat=>rawInt (i:Int)).toArray 0).objs.size)) _ _ { s with heap:=(s.heap.push<|seqObj "tuple" (ys.map λi:Nat=>rawInt (i:Int)).toArray 0).push (setItO (.ref s.heap.objs.size) 0 a es.size ep),drawn:=dr };rw[hsz];refine wpAny_pure ⟨_,rfl,"set_iterator",_,⟨_,hI,rfl⟩,Zau.lookup,?_⟩;have hin:∀k∈ys,k<es.size:=λk hk=>Waq.mp<|hy.mem_iff.mp hk;have hL:(ys.map λk=>es.getD k (0,.none)).length=ys.length:=Wab _;refine q _ dr (s.heap.objs.size+1) ⟨⟨[s.heap.objs.size+1,a,s.heap.objs.size],ys.map λk=>es.getD k (0,.none),_,λb o e=>Wad _<|Wad _ e,Wc2 _,?_,?_,Zk4 hh hne2 (Way<|Wc3 _) ys _ hL ?_,hI,g1.keep λo e=>Wad _ e,hTu⟩⟩
  ·intro b hb
   simp only[Wan,Wbk,or_false]at hb;rcases hb with h|h|h
   ·exact .inr (by rw[h];exact Wc2 _)
   ·exact .inl h
   ·exact .inr<|Nat.le_of_eq h.symm
  ·exact(hy.map _).trans (List.Perm.of_eq<|Zn4 es)
  ·intro j k e h1 h2
   rw[Wae,h1]at h2;cases h2;have:=hin k<|Wau h1;simp[Array.getD,this]
 ·rw[if_neg hd]
  refine wpAny_bind<|wpAny_pure ?_;refine wpAny_bind<|wpAny_setEpoch_of g.get g.dat g.fit ?_;refine wpAny_bind<|wpAny_newObj_type ?_ (by size_fits);have hI:(s.heap.push<|setItO (.int 0 0) 0 a es.size ep).get? s.heap.objs.size=some (setItO (.int 0 0) 0 a es.size ep):=Wao _ rfl;refine wpAny_pure ⟨_,rfl,"set_iterator",_,⟨_,hI,rfl⟩,Zau.lookup,?_⟩;have g1:=g.keep (h':=s.heap.push<|setItO (.int 0 0) 0 a es.size ep) λo e=>Wad _ e;have fpo:∀b∈[s.heap.objs.size,a],b=a\/s.heap.objs.size<=b:=λb hb=>by
   simp at hb;rcases hb with h|h
   ·right;omega
   ·exact .inl h
  cases hb:byTextB w with
  |true=>
   refine q _ s.drawn s.heap.objs.size ⟨⟨[s.heap.objs.size,a],(pickOrder (w.params.setOrder a ep) es).toList,_,λb o e=>Wad _ e,Wag _,fpo,Zrt _ _,Zhw hh hne1 (λ_=>0) _ ?_ ?_,hI,g1⟩⟩
   ·intro s j e g he A E Q' hq
    refine Zj7 hb g ?_;rw[Array.getElem?_toList]at he;rw[he];exact hq
   ·intro s g A E Q' hq
    refine Zj7 hb g ?_;rw[Array.getElem?_eq_none (by simp)];exact hq
  |false=>
   have hd':(!t.plain && decide (es.size > 1))=false:=by
    rw[hb]at hd;simpa using hd
   have hps:t.place.size=es.size:=by
    have:=g.fit;unfold SetTable.fits at this;simp only[Wbc,beq_iff_eq]at this;exact this.1
   refine q _ s.drawn s.heap.objs.size ⟨⟨[s.heap.objs.size,a],es.toList,_,λb o e=>Wad _ e,Wag _,fpo,List.Perm.refl _,Zhw hh hne1 (slotAt t.place) _ ?_ ?_,hI,g1⟩⟩
   ·intro s j e g he A E Q' hq
    refine Zhn hb g hd' ?_;rw[Array.getElem?_toList]at he;have hj:=(Array.getElem?_eq_some_iff.mp he).1;rw[Zfv g.tab.ris (by omega),he,Array.getElem?_eq_getElem (by omega)];have:slotAt t.place (j+1)=t.place[j]+1:=by
     show t.place.getD j 0+1=_;simp[Array.getD,show j<t.place.size by omega]
    rw[this]at hq;exact hq
   ·intro s g A E Q' hq
    refine Zhn hb g hd' ?_;rw[Array.length_toList,Zfv g.tab.ris (Nat.le_of_eq hps.symm),Array.getElem?_eq_none (Wag _)];exact hq
end
section
variable {prog:Program}{w:World}{A:Around}{E:Value->Shared->Prop}{s:Shared}
theorem Zso {r:Addr}{Q:Bool->Shared->Prop}(hT:s.TypeIs (.ref r) "set") (h:Q false s):wpAny (model prog w) A (Builtin.List.listLengthHint (.ref r)) Q E s:=by
 unfold Builtin.List.listLengthHint;refine wpAny_bind<|wpAny_specialOf hT F.slot_set_len.lookup ?_;generalize hid:("set.__len__":String)=nm
 wp_delta
 rw[show splitId nm=some ("set","__len__") by subst hid;decide +kernel];subst hid;refine wpAny_bind<|wpAny_isInstance (T:="set") (b:=true) hT (by rw[isSubtype_type];kernel_rfl) ?_;refine wpAny_ite_split (λz=>absurd z<|by decide) λ_=>?_;refine wpAny_ite_split (λ_=>wpAny_bind<|wpAny_typeOf hT<|wpAny_pure h) λz=>absurd (by decide +kernel) z
theorem Zky {L:List (Int × Value)}{acc:Array Value}(h:ItemsOf (λj v=>∃e,L[j]?=some e/\v=e.2) acc L.length):acc.toList=L.map (·.2):=by
 obtain⟨h1,h2⟩:=h;apply Wca;intro i;rw[Array.getElem?_toList,Wae];by_cases hi:i<acc.size
 ·obtain⟨e,e1,e2⟩:=h2 i _ (Array.getElem?_eq_getElem hi)
  rw[e1,Array.getElem?_eq_getElem hi,e2];rfl
 ·rw[Array.getElem?_eq_none (by omega),Wbt (by omega)];rfl
theorem Znh {R:Result->Shared->Prop}{a S:Addr}{o:Obj}{es:Array (Int × Value)}{ep c₀:Nat}{t:SetTable}{ks:List Int}(hh:A.handled=none) (g:SetG prog w s.heap a o es ep t ks) (hSa:S≠a) (res:Value) (hS:s.heap.get? S=some { cls:=.type "list",data:=.seq #[] c₀ })
  (hR:∀h' tk dr c' (L:List (Int × Value)),(∀b o,b≠S->s.heap.get? b=some o->h'.get? b=some o)->L.Perm es.toList->h'.get? S=some { cls:=.type "list",dict:=none,data:=.seq (L.map (·.2)).toArray c',slots:=#[] } -> R (.ok (.ret res)) { s with heap:=h',toks:=tk,drawn:=dr }) :
  wpAny (model prog w) A.in1 (Builtin.List.listExtendWith (.ref S) (.ref a) res)
   (λfin s'=>match fin with|.done f=>R (.ok f) s'|.again c'=>c'.quiet=true/\codeAny (model prog w) A c' R s') (λe s'=>R (.error e) s') s:=by
 have hT:s.TypeIs (.ref a) "set":=⟨o,g.get,g.ex.1⟩;have hSl:S<s.heap.objs.size:=Wap hS;unfold Builtin.List.listExtendWith;refine wpAny_bind<|wpAny_typeOf (T:="set") hT ?_;have h1:Builtin.List.listSameRef (.ref S) (.ref a)=false:=by simp[Builtin.List.listSameRef,hSa]
 have h2:(Value.type "set" == Value.type "list")=false:=by decide +kernel
 have h3:(Value.type "set" == Value.type "tuple")=false:=by decide +kernel
 simp only[h1,h2,h3,Bool.or_false,Wav,if_false];refine wpAny_bind (set_iter hh g λh1 dr I ⟨K⟩=>?_);have hK:=K.perm.length_eq;have hn:K.L.length<=sizeLine:=by
  have:=g.room;rw[hK,Array.length_toList,sizeLine_eq];unfold scanBound at this;omega
 have hSf:S ∉ K.fp:=λz=>by
  rcases K.fpo S z with z|z
  ·exact hSa z
  ·exact absurd hSl<|Nat.not_lt.mpr z
 have key:∀(h:Heap) (c₁ tk:Nat),K.St 0 h->(∀b o,b≠S->s.heap.get? b=some o->h.get? b=some o) ->
   h.get? S=some { cls:=.type "list",data:=.seq #[] c₁ } -> codeAny (model prog w) A (.builtin "list.extend.loop" ⟨[.ref S,.ref I,res],[]⟩) R { s with heap:=h,toks:=tk,drawn:=dr }:=by
  intro h c₁ tk hst hk hS₁;refine codeAny_extend_loopS K.W.toS hn S hSf res _ 0 _ #[] c₁ rfl (Wbn _) hst hS₁ (ItemsOf.nil _) λs' acc' c' hm hS' hacc=>?_;rw[Moved.eq_with hm];have ea:=Zky hacc;refine hR s'.heap s'.toks dr c' K.L (λb o hb e=>hm.heap b o (λhmem=>?_)<|hk b o hb e) K.perm ?_
  ·rcases Wan.mp hmem with e'|hmem
   ·exact hb e'
   ·exact absurd (Wap e) (by rw[Wa4.mp hmem];exact Nat.not_lt.mpr K.new)
  ·rw[<- ea,Array.toArray_toList];exact hS'
 have hS₁:=K.old _ _ hS;refine wpAny_bind<|wpAny_holding<|Zso ⟨o,K.old _ _ g.get,g.ex.1⟩ ?_;refine wpAny_ite_split (λ_=>?_) λ_=>wpAny_pure ⟨plainId_quiet F.plain_extend_loop _,key _ c₀ _ K.st (λb o _ e=>K.old _ _ e) hS₁⟩;refine wpAny_bind<|wpAny_rule ?_;refine wpAny_bind ?_;show wpAny _ _ (updateSeq S (·.push .none) >>= λ_=>updateSeq S (·.pop)) _ _ _;refine wpAny_bind<|wpAny_updateSeq hS₁ rfl ?_;have hS₂:=Wce (Obj.mapSeq (·.push Value.none)) hS₁ rfl;refine wpAny_updateSeq (hz:=by seq_fits) hS₂ rfl ?_;have hS₃:=Wce (Obj.mapSeq (·.pop)) hS₂ rfl;refine wpAny_pure ⟨plainId_quiet F.plain_extend_loop _,key _ _ _ ?_ (λb o hb e=>?_) hS₃⟩
 ·refine K.W.frame 0 _ _ K.st λb hb o e=>?_
  have hbS:S≠b:=λh=>hSf (h ▸ hb);exact(Wcm _ _ hbS).trans ((Wcm _ _ hbS).trans e)
 ·exact(Wcm _ _<|Ne.symm hb).trans ((Wcm _ _<|Ne.symm hb).trans (K.old _ _ e))
theorem Zll {R:List Value->Shared->Prop}{a:Addr}{o:Obj}{es:Array (Int × Value)}{ep:Nat}{t:SetTable}{ks:List Int}(hh:A.handled=none) (g:SetG prog w s.heap a o es ep t ks)
  (h:∀(h':Heap) (tk:Nat) dr (L:List (Int × Value)),(∀b o,s.heap.get? b=some o->h'.get? b=some o)->s.heap.objs.size<h'.objs.size->L.Perm es.toList->R (L.map (·.2)) { s with heap:=h',toks:=tk,drawn:=dr }) :
  wpAny (model prog w) A (collect (.ref a)) R E s:=by
 have hlt:a<s.heap.objs.size:=Wap g.get;unfold collect;refine wpAny_bind<|wpAny_runValue<|codeAny_builtin entry_proto_collect' ?_;rw[Around.under_plainId F.plain_proto_collect _];show wpAny _ A.in1 (newList [] >>= λl=>again (.builtin "list.__iadd__" ⟨[l,.ref a],[]⟩)) _ _ s;refine wpAny_bind<|wpAny_newList ?_;refine wpAny_pure ⟨plainId_quiet F.plain_list_iadd _,codeAny_builtin entry_list_iadd' ?_⟩;rw[Around.under_plainId F.plain_list_iadd _];show wpAny _ A.in1 (Builtin.List.listExtendWith (.ref s.heap.objs.size) (.ref a) (.ref s.heap.objs.size)) _ _ _;have hS₁:(s.heap.push<|seqObj "list" ([]:List Value).toArray 0).get? s.heap.objs.size=some { cls:=.type "list",data:=.seq #[] 0 }:=Wao _ rfl;have z:=Znh (A:=A) (s:={ s with heap:=s.heap.push (seqObj "list" ([]:List Value).toArray 0) })
  (R:=λ(q:Result) (s':Shared)=>∃(h':Heap) (tk:Nat) (dr:_) (c':Nat) (L:List (Int × Value)),q=.ok (.ret (.ref s.heap.objs.size))/\s' = { s with heap:=h',toks:=tk,drawn:=dr } /\
   (∀b o,s.heap.get? b=some o->h'.get? b=some o)/\L.Perm es.toList/\h'.get? s.heap.objs.size=some { cls:=.type "list",dict:=none,data:=.seq (L.map (·.2)).toArray c',slots:=#[] })
  hh (g.keep λo e=>Wad _ e) (Wc6 hlt) (.ref s.heap.objs.size) hS₁
  λh' tk dr c' L hk hp hS'=>⟨h',tk,dr,c',L,rfl,rfl,λb o e=>hk b o (Way<|Wap e)<|Wad _ e,hp,hS'⟩
 refine wpAny_mono z (λfin s' x=>?_) λe s' x=>?_
 ·cases fin with
  |done f=>
   obtain⟨h',tk,dr,c',L,e,rfl,hk,hp,hS'⟩:=x;cases e;show wpAny _ A (load s.heap.objs.size >>= _) _ _ _;refine wpAny_bind<|wpAny_load hS' ?_;exact wpAny_pure<|h h' tk dr L hk (Wap hS') hp
  |again c₁=>
   refine⟨x.1,codeAny_mono x.2 λq s₂ y=>?_⟩;obtain⟨h',tk,dr,c',L,rfl,rfl,hk,hp,hS'⟩:=y;show wpAny _ A (load s.heap.objs.size >>= _) _ _ _;refine wpAny_bind<|wpAny_load hS' ?_;exact wpAny_pure<|h h' tk dr L hk (Wap hS') hp
 ·obtain⟨h',tk,dr,c',L,e,_⟩:=x
  cases e
theorem Zgs:∀{vs:List Value},(∀v∈vs,∃t,v=.int (numOf v) t)->IntsAre vs (vs.map numOf)
 |[],_=>.nil
 |v::vs,h=>by
  obtain⟨t,e⟩:=h v (by simp);have:=Zgs (vs:=vs) λu hu=>h u<|Waw _ hu;rw[Wbe];generalize numOf v=n at e ⊢;subst e;exact .cons _ t this
theorem Zn7 {a:Addr}{ks:List Int}{Q:Value->Shared->Prop}(hh:A.handled=none) (hS:SetI prog w s.heap a ks) (h64:ks.length<64)
  (h:∀(h':Heap) (tk:Nat) dr (l:Addr) (out:List Value) (ms:List Int) (c:Nat),(∀b o,s.heap.get? b=some o->h'.get? b=some o)->s.heap.objs.size<=l->h'.get? l=some (seqObj "list" out.toArray c)->IntsAre out ms->ms.Perm ks->ms.Pairwise (· <= ·)->Q (.ref l) { s with heap:=h',toks:=tk,drawn:=dr }) :
  wpAny (model prog w) A (call (.builtin "sorted") [.ref a]) Q E s:=by
 obtain⟨o,es,ep,t,g⟩:=hS;refine Calls.call_function_entry kind_sorted plain_sorted entry_sorted (args_sorted1 _) ?_;unfold Builtin.«sorted»;refine wpAny_bind (m:=checkCount "sorted" 1 1 _)<|wpAny_pure ?_;refine wpAny_bind (Zll hh g λh' tk dr L hk hsz hp=>?_);have hI:IntsAre (L.map (·.2)) ((L.map (·.2)).map numOf):=Zgs λv hv=>by
  obtain⟨e,he,rfl⟩:=Wa1.mp hv;exact Zmk g.el<|hp.mem_iff.mp he
 have hpk:((L.map (·.2)).map numOf).Perm ks:=by
  rw[Wa6];exact(hp.map _).trans g.perm
 have hlen:(L.map (·.2)).length<64:=by
  have:=hpk.length_eq;rw[Wab]at this;omega
 refine wpAny_bind<|wpAny_newList ?_ (by rw[sizeLine_eq];omega);have hoL:(h'.push<|seqObj "list" (L.map (·.2)).toArray 0).get? h'.objs.size=some (seqObj "list" (L.map (·.2)).toArray 0):=Wao _ rfl;refine wpAny_bind<|wpAny_holding<|wpAny_call_entry slot_list_sort ⟨_,hoL,rfl⟩ entry_list_sort (list_sort_tree hoL hI hlen λout ms a1 a2 a3=>⟨_,rfl,?_⟩)<|args_list_sort _;obtain⟨c,hc⟩:=sortedHeap_at (out:=out) hoL;refine wpAny_pure ⟨_,rfl,h _ tk dr _ out.toList ms c (λb o e=>?_) (Wcj hsz) (by rw[Array.toArray_toList];exact hc) a1 (a2.trans hpk) a3⟩;have hb:=hk b o e;have hbl:=Wap hb;rw[sortedHeap_old (Way hbl) (by rw[size_push'];exact Wbo hbl)];exact Wad _ hb
end
section
variable {X:Cx}
theorem Inv.drew {pins:List (Addr × Obj)}{U:List (Option V)}{H:Hp}{s:Shared}(I:Inv X pins U H s) (dr:_):Inv X pins U H { s with drawn:=dr }:=
 ⟨I.ok,I.os,I.bare,I.base,I.loc,I.cell,I.free,I.freeC,I.pin,I.hok,I.len⟩
theorem Zq7 {ms:List Int}(h1:ms.Pairwise (· <= ·)) (h2:ms.Nodup):ms.Pairwise (· < ·):=by
 have:=List.Pairwise.and h1 h2;exact this.imp λhq_=>by obtain⟨a,b⟩:=hq_;omega
theorem Zi9 {ns:List Int}{x:Int}:x∈metK (λi=>ns.getD i 0) ns.length↔x∈ns:=by
 rw[Zs4];constructor
 ·rintro⟨j,hj,rfl⟩
  rw[Wac,Waa hj];exact Wa8 hj
 ·intro h
  obtain⟨j,hj,rfl⟩:=Wdc h;exact⟨j,hj,by rw[Wac,Waa hj];rfl⟩
def tSS (K:W.Frag) (ta:TA):TE:=λU H Q=>ta U H λvs H1=>∃(p:Addr) (ns:List Int),vs=[.ref p]/\SqL K H1 p (ns.map V.int)/\ns.length<64/\∀(l:Addr) (ms:List Int),ms.Pairwise (· < ·)->(∀x,x∈ms↔x∈ns)->H1 l=none->Q (.ref l) (upd H1 l (.lst<|ms.map V.int))
theorem Zn6 {a:Expr}{ta:TA}{p p2 pos pos2:Pos}{K:W.Frag}(hK:X.K=K) (hc:X.calm=true) (hgL:Gl X "sorted") (hmL:X.mg "sorted" = none) (hgR:Gl X "set") (hmR:X.mg "set" = none) (ha:PA X [a] ta) (hs:starEach [a] X.env=[(false,eval a X.env)]:=by rfl)
  (he:starEach [.Call (.Name "set" p2) [a] [] pos2] X.env=[(false,eval (.Call (.Name "set" p2) [a] [] pos2) X.env)]:=by rfl) :
  PE X (.Call (.Name "sorted" p) [.Call (.Name "set" p2) [a] [] pos2] [] pos) (tSS K ta):=by
 subst hK;intro pins s U H Q I h;refine wpAny_Call_Name_kw<|Zd2 I hgL hmL Zg7 ?_;refine PyProof.Rows.callWith_builtin1 ?_ he rfl;rw[he];show wpAny _ _ (spliced ((false,eval (.Call (.Name "set" p2) [a] [] pos2) X.env)::backTo pos [])) _ _ s;refine Calls.spliced_cons ?_;refine wpAny_Call_Name_kw<|Zd2 I hgR hmR Zos ?_;refine PyProof.Rows.callWith_type1 (thn (ha pos2 pins s U H _ I h) λus s1 ⟨vs,H1,I1,r1,q1⟩=>?_) hs rfl;obtain⟨p,ns,e,hx,hl,q⟩:=q1;subst e;obtain⟨u,rfl,ru⟩:=vals1 r1;cases (show u=Value.ref p from ru);obtain⟨its,w1,p1,hz⟩:=I1.list hx;have hi:=Zck w1;have hlen:=hi.length;refine Zoq (I1.ok.hd hc) p1.isList (by simpa using hi) (by rw[War];unfold scanBound;omega) λh' tk hS hk=>?_;rw[show its.toArray.size=ns.length by rw[War];exact hlen]at hS;refine Calls.spliced_nil ?_;have I2:Inv X pins U H1 { s1 with heap:=h',toks:=tk }:=I1.kept hk;have hm:=Zmj (λi=>ns.getD i 0) ns.length;refine Zn7 (s:={ s1 with heap:=h',toks:=tk }) (I1.ok.hd hc) hS (by omega) λh2 tk2 dr l out ms c k2 hl2 ho2 hi2 hp2 hs2=>?_;have hml:=hp2.length_eq;have nd:ms.Nodup:=by
  obtain⟨_,_,_,_,g⟩:=hS;exact hp2.nodup_iff.mpr g.nd
 have I3:=(I2.laid (t':=tk2) k2 hl2 (show ObjOk X.prog X.w _ h2 l (.lst<|ms.map V.int) from ⟨by rw[Wab];exact Wcj (small1000<|by omega),out,c,Zfb hi2,ho2⟩)).drew dr;exact⟨.ref l,_,I3,rfl,q l ms (Zq7 hs2 nd) (λx=>hp2.mem_iff.trans Zi9)<|I2.hok.fresh hl2⟩
end
section
variable {K:W.Frag}{Z:Evt}
theorem Zzr {ta:TA}{Po:OD->Evt->Prop}(h:JA K ta Z λds Z1=>∃ns:List Int,ds=[.lst (ns.map .int)]/\ns.length<64/\∀ms:List Int,ms.Pairwise (· < ·)->(∀x,x∈ms↔x∈ns)->Po (.lst<|ms.map .int) Z1):JO K (tSS K ta) Z Po:=λg G H U Q k c=>
 h g G H U _ k λvs ds G1 H1 Z1 k1 s1 r1 hq_=>by
  obtain⟨ns,e,hl,p⟩:=hq_;subst e;obtain⟨_,_,rfl,r,t⟩:=r1.inv
  next=>
   cases t.inv;obtain⟨a,us,rfl,ha,rr⟩:=r.inv
   next=>
    have ev:=rr.ints;subst ev;refine⟨a,ns,rfl,SqL.of<|k1.live _ _ ha,hl,λl ms o1 o2 hl=>?_⟩;obtain⟨k2,pd⟩:=k1.fresh (od:=.lst<|ms.map .int) hl (show OwnRep K G1 (.lst<|ms.map V.int) (.lst<|ms.map .int) from Reps.ofInts ms);exact c l _ G1 _ Z1 k2 s1 pd<|p ms o1 o2
end
structure CompScK (osc:Scope) (oN:List Str) (y:Str) (scope:Scope) (fvs:List Str) (sel:List Nat):Prop where
 kind:scope.kind=.function
 one:scope.names.filter (λz=>z.2 == .cell)=[(y,.cell)]
 own:∀z∈scope.names,z.1=y->z.2=.cell
 names:∀z∈scope.names,z.2=.local->scope.names.lookup z.1=some .local
 free:∀z∈scope.names,z.2=.free->osc.names.lookup z.1=some .cell\/osc.names.lookup z.1=some .free
 len:fvs.length=sel.length
 fv:∀p∈fvs.zip sel,oN[p.2]?=some p.1/\scope.names.lookup p.1=some .free
def compCxK (X:Cx) (y:Str) (scope:Scope) (N:List Str) (C:Addr) (s:Shared) (H:Hp) (ex:List Addr) (pn:List (Addr × Obj)):Cx:=
 { compCx X scope N C s H ex pn with env:=compEnvC scope ((y,C+1)::clOf X.env scope.names []) C X.env,fn:=λx=>x == y }
theorem Zdj {y:Str}:∀(names:List (Str × NameKind)) (n:Nat) (acc:List (Str × Addr)),(names.filter (λz=>z.2 == .cell)=[]->cellsFrom n names acc=acc)/\(names.filter (λz=>z.2 == .cell)=[(y,.cell)]->cellsFrom n names acc=(y,n)::acc)
 |[],n,acc=>⟨λ_=>rfl,λh=>by simp at h⟩
 | (x,k)::r,n,acc=>by
  unfold cellsFrom;rw[Wa9];cases hk:k == NameKind.cell with
  |true=>
   simp only[hk,if_true];refine⟨λh=>by simp at h,λh=>?_⟩;have h1:=(List.cons.inj h).1;have h2:=(List.cons.inj h).2;cases h1;exact(Zdj (y:=y) r (n+1) _).1 h2
  |false=>
   simp only[hk,Wav,if_false];exact Zdj r n acc
theorem Zdk {y:Str}:∀(names:List (Str × NameKind)) (h:Heap),(names.filter (λz=>z.2 == .cell)=[]->pushCells h names=h)/\(names.filter (λz=>z.2 == .cell)=[(y,.cell)]->pushCells h names=h.push { cls:=.type "cell",data:=.cell none })
 |[],h=>⟨λ_=>rfl,λh=>by simp at h⟩
 | (x,k)::r,h=>by
  unfold pushCells;rw[Wa9];cases hk:k == NameKind.cell with
  |true=>
   simp only[hk,if_true];exact⟨λh=>by simp at h,λe=>(Zdk (y:=y) r _).1 (List.cons.inj e).2⟩
  |false=>
   simp only[hk,Wav,if_false];exact Zdk r h
section
variable {X:Cx}{pins:List (Addr × Obj)}{U:St}{H:Hp}{s:Shared}{fp:List Addr}{scope:Scope}{tgs fvs:List Str}{sel:List Nat}{y:Str}
theorem newEnvK {M:Model}{A:Around}{E:Value->Shared->Prop}{osc:Scope}{oN:List Str}{g:Addr}{cl:List (Str × Addr)}{qual:Str}{env:Env}{Q:Env->Shared->Prop}(S:CompScK osc oN y scope fvs sel)
  (q:∀h',h'.Ns s.heap.objs.size (λ_=>none)->h'.IsCell (s.heap.objs.size+1) none->(∀b o,s.heap.get? b=some o->h'.get? b=some o) ->
   Q { scope,locals:=s.heap.objs.size,globals:=g,cells:=(y,s.heap.objs.size+1)::cl,qual,func:=none,code:=env.code,frame:=env.frame,builtins:=env.builtins } { s with heap:=h' }) :
  wpAny M A (newFunctionEnv scope g cl [] qual none .none<|some env) Q E s:=by
 simp only[newFunctionEnv,Option.isSome_some,if_true];refine wpAny_bind<|wpAny_alloc ?_;refine wpAny_bind<|wpAny_layCells _ (λname kind cells=>by cases hkc:kind == NameKind.cell <;> simp[hkc]) _ _ _ _ ?_
 have hsz:(s.heap.push { cls:=.type "dict",data:=.dict #[] }).objs.size=s.heap.objs.size+1:=Wcc ..;rw[(Zdj (y:=y) _ _ _).2 S.one,(Zdk (y:=y) _ _).2 S.one];show wpAny M A _ Q E { s with heap:=(s.heap.push { cls:=.type "dict",data:=.dict #[] }).push { cls:=.type "cell",data:=.cell none } };refine wpAny_bind<|wpAny_pure<|wpAny_pure ?_;have hc:((s.heap.push { cls:=.type "dict",data:=.dict #[] }).push { cls:=.type "cell",data:=.cell none }).get? (s.heap.objs.size+1)=some { cls:=.type "cell",data:=.cell none }:=by
  rw[<- hsz];exact Wao _ rfl
 have z:=q _ ((Heap.Ns.new s.heap (.type "dict")).keeps λb o e=>Wad { cls:=.type "cell",data:=.cell none } e) ⟨_,hc,rfl⟩ λb o e=>Wad _<|Wad _ e;rw[<- hsz]at z;exact z
theorem ownK {env:Env}{names:List (Str × NameKind)}{n:Nat}{x:Str}{c:Addr}(e:((y,n)::clOf env names []).lookup x=some c):(x=y/\c=n)\/env.cells.lookup x=some c:=by
 rw[Wb1]at e;split at e
 ·rename_i h
  cases e;exact .inl ⟨by simpa using h,rfl⟩
 ·exact .inr<|Zbg _ _ (λ_ _ z=>by simp at z) e
theorem Zgg (S:CompScK X.env.scope X.N y scope fvs sel) (ok:X.Ok):∀n,(n,NameKind.free)∈scope.names->∃a,X.env.cells.lookup n=some a:=λn hn=>
 ok.has n (S.free _ hn rfl)
theorem Zrz (S:CompScK X.env.scope X.N y scope fvs sel) (N:List Str) (I:Inv X pins U H s) (hf:∀b∈fp,FpOk X pins H b) (hlt:∀b∈fp,b<s.heap.objs.size):(compCxK X y scope N s.heap.objs.size s H fp<|X.pn++pins).Ok where
 mod:=I.ok.mod
 kind:=S.kind
 glob:=I.ok.glob
 blt:=I.ok.blt
 above:=Wag _
 inj:=λx z c h1 h2=>by
  have old:∀x,X.env.cells.lookup x=some c->c≠s.heap.objs.size+1:=λx e=>by
   obtain⟨v,q⟩:=I.cell x c e;exact Way<|Wbo q.lt
  rcases ownK h1 with ⟨a,b⟩|a
  ·rcases ownK h2 with ⟨a',b'⟩|a'
   ·rw[a,a']
   ·exact absurd b<|old _ a'
  ·rcases ownK h2 with ⟨a',b'⟩|a'
   ·exact absurd b'<|old _ a
   ·exact I.ok.inj x z c a a'
 has:=λx hx=>by
  by_cases hxy:x=y
  ·subst hxy
   exact⟨s.heap.objs.size+1,by show ((x,_)::clOf X.env scope.names []).lookup x=_;simp⟩
  have hm:(x,NameKind.free)∈scope.names:=by
   have key:∀k,(k=.cell\/k=.free)->(relab X.env.scope scope).names.lookup x=some k->(x,NameKind.free)∈scope.names:=λk hk h=>by
    obtain⟨⟨n,j⟩,hy,e⟩:=Wa1.mp<|PySem.mem_of_lookup h;dsimp only at e;split at e
    ·rename_i hj
     have e1:n=x:=congrArg Prod.fst e;have hj':j=.free:=by
      simp only[Wbc,beq_iff_eq]at hj;exact hj.1.1
     rw[<- e1,<- hj'];exact hy
    ·have e1:n=x:=congrArg Prod.fst e
     have e2:j=k:=congrArg Prod.snd e;rcases hk with z|z
     ·have hin:((n,j):Str × NameKind)∈scope.names.filter (λz=>z.2 == .cell):=Wa5.mpr ⟨hy,by rw[e2,z];rfl⟩
      rw[S.one,Wa4]at hin;exact absurd (e1.symm.trans<|congrArg Prod.fst hin) hxy
     ·rw[<- e1,<- z,<- e2];exact hy
   rcases hx with z|z
   ·exact key _ (.inl rfl) z
   ·exact key _ (.inr rfl) z
  obtain⟨c,hc⟩:=Zdo scope.names [] hm (Zgg S I.ok x hm);exact⟨c,by
   show ((y,_)::clOf X.env scope.names []).lookup x=_;rw[Wb1,show (x == y)=false from by simpa using hxy];exact hc⟩
 cab:=λx c h e=>by
  rcases ownK e with ⟨_,z⟩|z
  ·rw[z];exact Wc2 _
  ·have hx:x=y:=by simpa using (show (x == y)=true from h)
   subst hx;have:((x,s.heap.objs.size+1)::clOf X.env scope.names []).lookup x=some c:=e;simp at this;rw[<- this];exact Wc2 _
 hd:=I.ok.hd
 frames:=I.ok.frames
 stk:=.inl rfl
 exf:=λb hb=>⟨Way (hlt b hb),λx c e=>by
  rcases ownK e with ⟨_,z⟩|z
  ·rw[z];exact Wc6<|Wbo<|hlt b hb
  ·exact(hf b hb).2.2.2.2.1 x c z⟩
 bs:=I.bs
 bsz:=Wbx I.ok.bsz I.sz
 noex:=λb o e hb=>by
  rcases(hf b hb).2.2.2.1 with z|z
  ·exact I.ok.noex b o e z
  ·exact absurd (Wbf (Wap e)<|Wbx I.ok.bsz z)<|Wch _
 exfs:=λb hb z=>by
  rcases Wan.mp (I.stkSub b z) with e|z
  ·exact(hf b hb).2.1 e
  ·exact(hf b hb).2.2.1 z
 funs:=I.stack
 frf:=I.stkFree
theorem Zoo (S:CompScK X.env.scope X.N y scope fvs sel) (I:Inv X pins U H s) (hf:∀b∈fp,FpOk X pins H b) (hlt:∀b∈fp,b<s.heap.objs.size) {h':Heap}{tk:Nat}{m:Str->Option Value}
  (hns:h'.Ns s.heap.objs.size m) (hcl:h'.IsCell (s.heap.objs.size+1) none) (old:∀b o,s.heap.get? b=some o->h'.get? b=some o) :
  Inv (compCxK X y scope (tgs++fvs) s.heap.objs.size s H fp<|X.pn++pins) [] (compSt tgs.length sel U) H { s with heap:=h',toks:=tk } where
 ok:=Zrz S _ I hf hlt
 os:=rfl
 bare:=I.bare
 base:=Un.kept old
 loc:=by
  refine⟨m,hns,λi x v h1 h2 h3=>?_⟩;have h1:(tgs++fvs)[i]?=some x:=h1;unfold compSt at h2;by_cases hi:i<tgs.length
  ·rw[Wbd (by simpa using hi),Wb7,if_pos hi]at h2
   cases h2
  ·have hi':tgs.length<=i:=Nat.le_of_not_lt hi
   rw[Wa2 (by simpa using hi'),Wae,Wax]at h2;rw[Wa2 hi']at h1;cases hj:sel[i-tgs.length]? with
   |none=>rw[hj]at h2;cases h2
   |some j=>
    rw[hj]at h2;have h2:(U[j]?).getD none=some v:=by simpa using h2
    have hz:(x,j)∈fvs.zip sel:=by
     refine Wau (i:=i-tgs.length) ?_;rw[Wcb];exact⟨h1,hj⟩
    obtain⟨hN,hfr⟩:=S.fv _ hz;have hU:U[j]?=some (some v):=by
     cases q:U[j]? with
     |none=>rw[q]at h2;cases h2
     |some o=>rw[q]at h2;exact congrArg some h2
    have hko:X.env.scope.names.lookup x=some .cell\/X.env.scope.names.lookup x=some .free:=S.free (x,.free) (PySem.mem_of_lookup hfr) rfl;obtain⟨m0,hn0,hl0⟩:=I.loc;obtain⟨u,r,l⟩:=hl0 j x v hN hU (.inr hko);refine⟨u,r,.inr ⟨Zfm hfr,?_⟩⟩;rcases l with ⟨hk,_⟩|⟨_,c,hc,hcell⟩
    ·have hk:X.env.scope.names.lookup x=some .local:=hk
     rcases hko with z|z <;> (rw[hk]at z;cases z)
    ·obtain⟨c',hc'⟩:=Zdo scope.names [] (PySem.mem_of_lookup hfr) ⟨c,hc⟩
     have e:=Zbg scope.names [] (λ_ _ z=>by simp at z) hc';rw[hc]at e;cases e;obtain⟨o,ho,hd⟩:=hcell;have hxy:(x == y)=false:=by
      cases q:x == y with
      |false=>rfl
      |true=>
       have:x=y:=by simpa using q
       have:=S.own (x,.free) (PySem.mem_of_lookup hfr) this;cases this
     exact⟨c,by show ((y,s.heap.objs.size+1)::clOf X.env scope.names []).lookup x=some c;rw[Wb1,hxy];exact hc',o,old _ _ ho,hd⟩
 cell:=λx c e=>by
  rcases ownK e with ⟨_,z⟩|z
  ·rw[z];exact⟨none,hcl⟩
  ·obtain⟨v,o,ho,hd⟩:=I.cell x c z
   exact⟨v,o,old _ _ ho,hd⟩
 free:=I.hok.fresh<|Wag _
 freeC:=λx c e=>by
  rcases ownK e with ⟨_,z⟩|z
  ·rw[z];exact I.hok.fresh<|Wc2 _
  ·exact I.freeC x c z
 pin:=λp hp=>by
  have hp:p∈(X.pn++pins)++[]:=hp;rw[Wbi]at hp;obtain⟨e,n,ne,nf,d⟩:=I.pin p hp;refine⟨old _ _ e,n,Way<|Wap e,λz=>?_,d⟩;rcases Wan.mp (I.stkSub p.1 z) with q|q
  ·exact ne q
  ·exact nf q
 hok:=I.hok.kept old
 len:=by
  unfold compSt;show _=(tgs++fvs).length;rw[Wai,Wai,Wax,Wab,S.len]
theorem Znv {N:List Str}{U':St}{H':Hp}{s':Shared}{h':Heap}(I:Inv X pins U H s) (hf:∀b∈fp,FpOk X pins H b)
  (J:Inv (compCxK X y scope N s.heap.objs.size s H fp<|X.pn++pins) [] U' H' s') (sb:Heap.SameBut s.heap.objs.size s'.heap h'):Inv X pins U H' { s' with heap:=h' }:=by
 have B:Un (frs X.stack) fp H H' s.heap s'.heap:=J.base;have ne:∀b o,s.heap.get? b=some o->b≠s.heap.objs.size:=λb o e=>Way<|Wap e;have fr:H' s.heap.objs.size=none:=J.free;refine I.call' (s':={ s' with heap:=h' }) (ch:=fp) J.os ⟨λb o e n h1 h2=>?_,λb o e n h1 h2=>?_,B.free,λb o e h2=>?_,B.tups,B.frzs,B.tbls⟩ (λb ob e=>?_) J.bare λb hb=>?_
 ·exact(sb.2 b<|ne b o e).trans (B.keep b o e n h1 h2)
 ·obtain⟨sl,q⟩:=B.slot b o e n h1 h2
  exact⟨sl,(sb.2 b<|ne b o e).trans q⟩
 ·obtain⟨o',q⟩:=B.there b o e h2
  exact⟨o',(sb.2 b<|ne b o e).trans q⟩
 ·refine(J.hok b ob e).stay (λc w' hc q=>(sb.2 c ?_).trans q) (λ_ q=>q) λ_ _ q=>q
  intro z;rcases hc with hc|hc
  ·rw[<- hc,z,fr]at e;cases e
  ·rw[z,fr]at hc;cases hc
 ·exact⟨(hf b hb).2.2.2.1,(hf b hb).2.1,(hf b hb).2.2.2.2.1,(hf b hb).2.2.2.2.2⟩
end
section
variable {X:Cx}
theorem Zn1 {y:Str}{elt tg iter:Expr}{ifs:List Expr}{scope:Scope}{pos:Pos}{tgs fvs:List Str}{sel:List Nat}{g:TG}{tc:TT}{te:TE}(S:CompScK X.env.scope X.N y scope fvs sel) (hc:X.calm=true)
  (hg:∀C s H ex pn,PG (compCxK X y scope (tgs++fvs) C s H ex pn) tg g) (ht:∀C s H ex pn,PTs (compCxK X y scope (tgs++fvs) C s H ex pn) ifs tc) (he:∀C s H ex pn,PE (compCxK X y scope (tgs++fvs) C s H ex pn) elt te)
  {pins:List (Addr × Obj)}{U:St}{s:Shared}{itv:Value}{Q:VK}{E:Value->Shared->Prop}{RR:Value->Addr->Result->Shared->Prop}
  (h2:PIE X pins U tg (λJ H1=>∀acc,H1 acc=none->∃W:Nat->Nat->St->Hp->Prop,
   (∃m,W 0 m (compSt tgs.length sel U) (upd H1 acc (.lst [])))/\∀i m U' H',W i m U' H' ->
   (J.stop i H' /\ Q (.ref acc) H')\/(J.go i H' /\ ∃N:St->Hp->Prop,(∀U2 H2,N U2 H2->∃m',m'<m/\W (i+1) m' U2 H2) /\
   ∀x H2,J.yld i H' x H2->g x U' H2 λU2 H3=>tc U2 H3 λb H4=>if b=true then te U2 H4 λy H5=>∃ys,H5 acc=some (.lst ys)/\ys.length<sizeLine/\N U2 (upd H5 acc (.lst (ys++[y]))) else N U2 H4)) itv s)
  (fin:∀(s':Shared) (C acc:Addr) (H':Hp) (m:Str->Option Value),s'.heap.Ns C m->FpOk X pins H' C->(∀h',Heap.SameBut C s'.heap h' -> Inv X pins U H' { s' with heap:=h' })->Q (.ref acc) H' -> RR (.ref acc) C (.ok .next) s') :
  wpAny (model X.prog X.w) X.A (newList []) (λacc s3=>wpAny (model X.prog X.w) X.A (newFunctionEnv scope X.env.globals (clOf X.env scope.names []) [] X.env.qual none .none (some X.env)) (λcenv s4=>
   codeAny (model X.prog X.w) X.A (.compStart (.ListComp elt [⟨tg,iter,ifs,0⟩] scope pos) 0 itv acc { cenv with scope:=relabel scope X.env }) (RR acc cenv.locals) s4) E s3) E s:=by
 obtain⟨it,fp,tn,J,H1,e,I,T,st,f2,h2⟩:=h2;subst e;have hlt:∀b∈fp,b<s.heap.objs.size:=λb hb=>let ⟨o,ho,_⟩:=T.obj 0 _ st b hb; Wap ho
 refine wpAny_newObj_type (newEnvK S λh1 hns hcl old=>?_);dsimp only at hns hcl old ⊢;have I3:Inv X pins U (upd H1 s.heap.objs.size (.lst [])) { s with heap:=s.heap.push { cls:=.type "list",data:=.seq ([]:List Value).toArray },toks:=s.toks }:=I.lnew (its:=[]) .nil (by decide);have hacc:H1 s.heap.objs.size=none:=I.hok.fresh<|Wag _;obtain⟨W,⟨m0,w0⟩,turn⟩:=h2 s.heap.objs.size hacc;generalize hs3:({ s with heap:=s.heap.push { cls:=.type "list",data:=.seq ([]:List Value).toArray },toks:=s.toks }:Shared)=s3 at I3;have hh3:s3.heap=s.heap.push { cls:=.type "list",data:=.seq ([]:List Value).toArray }:=by rw[<- hs3]
 have old3:∀b o,s.heap.get? b=some o->s3.heap.get? b=some o:=λb o q=>by rw[hh3];exact Wad _ q
 have hf3:∀b∈fp,FpOk X pins (upd H1 s.heap.objs.size (.lst [])) b:=λb hb=>⟨by rw[Zak (Way<|hlt b hb)];exact(f2 b hb).1,(f2 b hb).2⟩;have hlt3:∀b∈fp,b<s3.heap.objs.size:=λb hb=>by rw[hh3,Wcc];exact Wbo<|hlt b hb
 have tn3:tn 0 s3.heap:=T.keep 0 _ _ st λb hb o q=>old3 b o q;have old4:∀b o,s3.heap.get? b=some o->h1.get? b=some o:=λb o q=>by
  rw[hh3]at q;exact old b o q
 have tn4:tn 0 h1:=T.keep 0 _ _ tn3 λb hb o q=>old4 b o q;have hC:(s.heap.push { cls:=.type "list",data:=.seq ([]:List Value).toArray }).objs.size=s3.heap.objs.size:=by rw[hh3]
 rw[hC]at hns hcl;have J0:=Zoo (tgs:=tgs) (tk:=s.toks) S I3 hf3 hlt3 hns hcl old4;have es:({ s3 with heap:=h1,toks:=s.toks }:Shared) = { s with heap:=h1,toks:=s.toks }:=by rw[<- hs3]
 rw[es]at J0;generalize hY:compCxK X y scope (tgs++fvs) s3.heap.objs.size s3 (upd H1 s.heap.objs.size (.lst [])) fp (X.pn++pins)=Y at J0;have hYp:Y.prog=X.prog:=by rw[<- hY];rfl
 have hYw:Y.w=X.w:=by rw[<- hY];rfl
 have hYK:Y.K=X.K:=by rw[<- hY];rfl
 have hYA:Y.A=X.A:=by rw[<- hY];rfl
 have hYc:Y.calm=true:=by rw[<- hY];exact hc
 have hYx:Y.xe=λ_ _=>False:=by rw[<- hY];rfl
 have hYe:Y.env=compEnvC scope ((y,s3.heap.objs.size+1)::clOf X.env scope.names []) s3.heap.objs.size X.env:=by rw[<- hY];rfl
 have stat:∀{H':Hp},(∀b∈fp,H' b=none)->∀b∈fp,FpOk Y [] H' b:=λhn b hb=>by
  rw[<- hY];refine⟨hn b hb,Way<|hlt3 b hb,λz=>?_,.inl hb,λx c e=>?_,λp hp z=>?_⟩
  ·rcases Wan.mp (I3.stkSub b z) with q|q
   ·exact(hf3 b hb).2.1 q
   ·exact(hf3 b hb).2.2.1 q
  ·rcases ownK e with ⟨_,z⟩|z
   ·rw[z];exact Wc6<|Wbo<|hlt3 b hb
   ·exact(hf3 b hb).2.2.2.2.1 x c z
  ·have hp:p∈(X.pn++pins)++[]:=hp
   rw[Wbi]at hp;exact(hf3 b hb).2.2.2.2.2 p hp z
 have loop:codeAny (model X.prog X.w) X.A (.compLoop (.ListComp elt [⟨tg,iter,ifs,0⟩] scope pos) 0 (.ref it) (.ref s.heap.objs.size) Y.env) (RR (.ref s.heap.objs.size) s3.heap.objs.size)
   { s with heap:=h1,toks:=s.toks }:=by
  refine codeAny_loop rfl (λn s'=>∃i U' H',Inv Y [] U' H' s' /\ tn i s'.heap/\(∀b∈fp,H' b=none)/\W i n U' H') ?_ m0 ⟨0,_,_,J0,tn4,λb hb=>(hf3 b hb).1,w0⟩;rintro n s5 ⟨i,U5,H5,I5,st5,fr5,w5⟩;show wpAny _ X.A ((compTurn (.ListComp elt [⟨tg,iter,ifs,0⟩] scope pos) 0 (.ref it) (.ref s.heap.objs.size) Y.env).onRaise (λx=>do noteFrame x Y.env;theTreesLotGoes x)) _ _ s5;refine wpAny_noted (wpAny_mono (E:=λ_ _=>False) ?_ (λ_ _ q=>q) λ_ _ z=>z.elim);rw[compTurn_list];refine wpAny_bind<|wpAny_standAt<|wpAny_bind ?_;rcases turn i n U5 H5 w5 with ⟨stop,qn⟩|⟨go,N,hN,step⟩
  ·have D:=T.done Y hYp hYw hYK hYc i [] s5 U5 H5 (λ_ _=>False) I5 (stat fr5) st5 stop
   rw[hYA]at D;refine thn D λr s6 ⟨hr,I6⟩=>?_;subst hr;refine wpAny_pure ?_;obtain⟨m6,hn6,_⟩:=I6.loc;rw[hYe]at hn6;refine fin s6 _ _ H5 m6 hn6 (I3.fpOk (Wag _) (by have z:=I6.free;rw[hYe]at z;exact z)) (λh' sb=>?_) qn;have I6':Inv (compCxK X y scope (tgs++fvs) s3.heap.objs.size s3 (upd H1 s.heap.objs.size (.lst [])) fp<|X.pn++pins) [] U5 H5 s6:=by rw[hY];exact I6
   exact Znv I3 hf3 I6' sb
  ·have D:=T.item Y hYp hYw hYK hYc i [] s5 U5 H5 (λ_ _=>False) I5 (stat fr5) st5 go
   rw[hYA]at D;refine thn D λr s6 ⟨u,hr,h6⟩=>?_;subst hr;refine wpAny_bind (thn h6 λ_ s7 ⟨x,H7,I7,r7,y7,st7,fr7⟩=>?_);have I7':=I7.pinned (stat fr7)<|T.obj _ _ st7;have G:=hg s3.heap.objs.size s3 (upd H1 s.heap.objs.size (.lst [])) fp<|X.pn++pins;have TT:=ht s3.heap.objs.size s3 (upd H1 s.heap.objs.size (.lst [])) fp<|X.pn++pins;have EE:=he s3.heap.objs.size s3 (upd H1 s.heap.objs.size (.lst [])) fp<|X.pn++pins;rw[hY]at G TT EE;have G1:=G _ s7 U5 H7 x u _ I7' r7<|step x H7 y7;rw[hYp,hYw,hYA,hYx]at G1;refine wpAny_bind (thn G1 λ_ s8 ⟨U8,H8,I8,q8⟩=>?_);have T1:=TT _ s8 U8 H8 _ I8 q8;rw[hYp,hYw,hYA,hYx]at T1;refine wpAny_bind (thn T1 λok s9 ⟨H9,I9,q9⟩=>?_);have again:∀{s':Shared}{U':St}{H':Hp},Inv Y ([]++pinsAt fp s7.heap) U' H' s' -> N U' H' -> ∃m,m<n/\∃i U' H',Inv Y [] U' H' s' /\ tn i s'.heap/\(∀b∈fp,H' b=none)/\W i m U' H':=λ{s' U' H'} K7 n7=>by
    obtain⟨m',hm,w7⟩:=hN U' H' n7;refine⟨m',hm,i+1,U',H',K7.unpinned,T.keep _ _ _ st7 λb hb o e=>(K7.pin (b,o)<|Wa3 _<|Wa3 _<|Zb0 hb e).1,λb hb=>?_,w7⟩;obtain⟨o,e,d⟩:=T.obj _ _ st7 b hb;exact(K7.pin (b,o)<|Wa3 _<|Wa3 _<|Zb0 hb e).2.1
   cases ok with
   |false=>
    have q9:N U8 H9:=q9;exact wpAny_pure ⟨by rw[hYe],again I9 q9⟩
   |true=>
    have q9:te U8 H9 λy H5=>∃ys,H5 s.heap.objs.size=some (.lst ys)/\ys.length<sizeLine/\N U8 (upd H5 s.heap.objs.size (.lst<|ys++[y])):=q9;have E1:=EE _ s9 U8 H9 _ I9 q9;rw[hYp,hYw,hYA,hYx]at E1;refine wpAny_bind<|wpAny_bind (thn E1 λv sa ⟨y,Ha,Ia,ra,ys,ea,za,na⟩=>?_);have M:=Zcc (X:=Y) _ sa U8 Ha (.ref s.heap.objs.size) [y] (.ref s.heap.objs.size) [v] (λ_ H=>N U8 H) Ia rfl (.cons ra .nil) ⟨_,ys,y,rfl,rfl,ea,za,na⟩;rw[hYp,hYw,hYA,hYx]at M;refine wpAny_bind (thn M λ_ sb ⟨_,Hb,Ib,_,nb⟩=>wpAny_pure<|wpAny_pure ⟨by rw[hYe],again Ib nb⟩)
 have hcs:(relabel scope X.env)=(relabel scope X.env):=rfl;have loop':=loop;rw[hYe]at loop';show codeAny (model X.prog X.w) X.A (.compStart (.ListComp elt [⟨tg,iter,ifs,0⟩] scope pos) 0 (.ref it) (.ref s.heap.objs.size)<|compEnvC scope ((y,(s.heap.push { cls:=.type "list",data:=.seq ([]:List Value).toArray }).objs.size+1)::clOf X.env scope.names []) (s.heap.push { cls:=.type "list",data:=.seq ([]:List Value).toArray }).objs.size X.env) (RR (.ref s.heap.objs.size) (s.heap.push { cls:=.type "list",data:=.seq ([]:List Value).toArray }).objs.size) _;rw[hC];exact codeAny_compStart_list loop'<|T.self _ 0 _ _ _ tn4 loop'
theorem Zo2 {y:Str}{elt tg iter:Expr}{ifs:List Expr}{scope:Scope}{pos:Pos}{fvs:List Str}{sel:List Nat}{wi:TI}{g:TG}{tc:TT}{te:TE}(tgs:List Str) (S:CompScK X.env.scope X.N y scope fvs sel) (hc:X.calm=true)
  (hi:PI X tg iter wi) (hg:∀C s H ex pn,PG (compCxK X y scope (tgs++fvs) C s H ex pn) tg g) (ht:∀C s H ex pn,PTs (compCxK X y scope (tgs++fvs) C s H ex pn) ifs tc) (he:∀C s H ex pn,PE (compCxK X y scope (tgs++fvs) C s H ex pn) elt te)
  (hs:∀x,foldedSetIterable iter X.env x=pure x:=by intro _;rfl) :
  PE X (.ListComp elt [⟨tg,iter,ifs,0⟩] scope pos) (tComp tgs.length sel wi g tc te):=by
 intro pins s U H Q I h;rw[eval_ListComp];refine wpAny_comprehension_free (use:=none) rfl hs (Zb6<|Zgg S I.ok) S.kind S.names (thn (hi pins s U H _ I h) λv s1 h1=>thn h1 λitv s2 h2=>?_);refine Zn1 S hc hg ht he (RR:=λacc C=>compPost (model X.prog X.w) X.A X.xe none (EP X pins U Q) acc C) (Q:=Q) h2 ?_;intro s' C acc H' m hn _ hI q;exact⟨m,hn,λh' sb=>⟨.ref acc,H',hI h' sb,rfl,q⟩⟩
end
open PySem PySem.Spec PyProof.Rows PySem.SeqAt
section
variable {X:Cx}
theorem intsAt {its:List Value}{ns:List Int}(hi:IntsAre its ns):∀j (h:j<its.length),∃t,its[j]=.int (ns.getD j 0) t:=by
 induction hi with
 |nil=>intro j h;simp at h
 |cons n t _ ih=>
  intro j h;cases j with
  |zero=>exact⟨t,rfl⟩
  |succ j=>simpa using ih j (by simpa using h)
theorem Zew (ns:List Int):∀k,k<=ns.length->preSum (λi=>ns.getD i 0) k=(ns.take k).sum
 |0,_=>by rw[Wc4];rfl
 |k+1,hk=>by
  show preSum _ k+ns.getD k 0=_;have e:ns.take (k+1)=ns.take k++[ns[k]]:=by rw[Wb5,Waa (by omega:k<ns.length)];rfl
  rw[Zew ns k (by omega),e,List.sum_append,Wac,Waa (by omega:k<ns.length)];show _+ns[k]=_+(ns[k]+0);rw[Wea]
def rSum (K:W.Frag):List V->Hp->VK->Prop:=λxs H Q=>∃(p:Addr) (ns:List Int),xs=[.ref p]/\SqL K H p (ns.map V.int)/\Q (.int ns.sum) H
theorem sumK (K:W.Frag) (hc:X.calm=true) (hK:X.K=K:=by rfl):CallR X (.builtin "sum") (rSum K):=by
 subst hK;intro pins s U H xs us Q I r h;obtain⟨p,ns,rfl,hx,q⟩:=h;obtain⟨u,rfl,ru⟩:=vals1 r;cases (show u=Value.ref p from ru);obtain⟨its,w1,p1,_⟩:=I.list hx;have hi:=Zck w1;have hlen:=hi.length;have hlt:p<s.heap.objs.size:=by obtain⟨o,e,_⟩:=p1.isList;exact Wap e
 refine call_sum_walkG<|wpAny_pyIter_list p1.isList ?_;refine⟨s.heap.objs.size,_,_,_,_,_,λi=>ns.getD i 0,rfl,Walks.list (prog:=X.prog) (w:=X.w) (A:=X.A.in1) (show X.A.in1.handled=none from I.ok.hd hc) s.heap.objs.size p (Way hlt) its.toArray,⟨⟨_,Wao _ rfl,rfl,rfl⟩,p1.isList.push _⟩,?_,?_,λh' tk t' hk=>?_⟩
 ·intro b hb
  show b<(s.heap.push _).objs.size;rw[size_push'];simp only[Wan,Wbk,or_false]at hb;rcases hb with z|z
  ·rw[z];exact Wc3 _
  ·rw[z];exact Wbo hlt
 ·intro i v hv
  have hv:its[i]?=some v:=by simpa using (show its.toArray[i]?=some v from hv)
  obtain⟨h1,h2⟩:=Waf.mp hv;obtain⟨t,e⟩:=intsAt hi i h1;exact⟨t,by rw[<- h2,e]⟩
 ·have e:preSum (λi=>ns.getD i 0) its.toArray.size=ns.sum:=by
   rw[War,show its.length=ns.length by omega,Zew ns _ (Wag _),Wba]
  rw[e];have I0:Inv X pins U H { s with heap:=s.heap.push { cls:=.type "list_iterator",data:=.fields #[.ref p,.int 0 0] },toks:=s.toks }:=I.kept λb o e=>Wad _ e;have fp:=I.fpOk (b:=s.heap.objs.size) (H':=H) (Wag _)<|I.hok.fresh<|Wag _;exact⟨.int ns.sum,H,I0.turned (it:=s.heap.objs.size) (λb o hb e=>hk b o (by simpa using hb) e) (I.hok.fresh<|Wag _) (Wc6 I.lt) (.inr I.sz) fp.2.2.2.2.1 fp.2.2.2.2.2,⟨_,rfl⟩,q⟩
end
section
variable {K:W.Frag}{Z:Evt}{P:D->Evt->Prop}
theorem Zzi {ns:List Int}(p:P (.int ns.sum) Z):JC K (rSum K) [.lst (ns.map D.int)] Z P:=λg G H U Q vs k rs c=>by
 obtain⟨_,_,rfl,r,t⟩:=rs.inv
 next=>
  cases t.inv;obtain⟨a,us,rfl,ha,rr⟩:=r.inv
  next=>
   have ev:=rr.ints;subst ev;exact⟨a,ns,rfl,SqL.of<|k.live _ _ ha,c _ _ G H Z k (Same.refl _) (.int _) p⟩
theorem Zpo {b:Bool}(p:P (.int (if b then 1 else 0)) Z):JC K (λxs H Q=>(∃i,xs=[.int i]/\Q (.int i) H)\/∃k,xs=[.bl k]/\Q (.int (if k then 1 else 0)) H) [.bl b] Z P:=λg G H U Q vs k rs c=>by
 obtain⟨_,_,rfl,r,t⟩:=rs.inv
 next=>cases t.inv;cases r.inv;exact .inr ⟨b,rfl,c _ _ G H Z k (Same.refl _) (.int _) p⟩
end
section
variable {K:W.Frag}{Z:Evt}
theorem Zxg {ta:TA}{Po:OD->Evt->Prop}(h:JA K ta Z λds Z1=>∃es,(ds=[.tup es]\/ds=[.lst es])/\Po (.lst es) Z1):JO K (tCB (rLst K) ta) Z Po:=λg G H U Q k c=>
 h g G H U _ k λvs ds G1 H1 Z1 k1 s1 r1 hq_=>by
  obtain⟨es,e,p⟩:=hq_;rcases e with e|e <;> subst e
  ·obtain⟨_,_,rfl,r,t⟩:=r1.inv
   next=>
    cases t.inv;obtain⟨_,_,rfl,ha,rs⟩:=r.inv
    next=>
     refine⟨_,_,rfl,.inr<|SqT.of<|k1.live _ _ ha,λl hl=>?_⟩;obtain⟨k2,pd⟩:=k1.fresh (od:=.lst es) hl (show OwnRep K G1 (.lst _) (.lst es) from rs);exact c l _ G1 _ Z1 k2 s1 pd p
  ·obtain⟨_,_,rfl,r,t⟩:=r1.inv
   next=>
    cases t.inv;obtain⟨_,_,rfl,ha,rs⟩:=r.inv
    next=>
     refine⟨_,_,rfl,.inl<|SqL.of<|k1.live _ _ ha,λl hl=>?_⟩;obtain⟨k2,pd⟩:=k1.fresh (od:=.lst es) hl (show OwnRep K G1 (.lst _) (.lst es) from rs);exact c l _ G1 _ Z1 k2 s1 pd p
end
open PySem PySem.Spec PyProof.Rows PySem.SeqAt
section
variable {K:W.Frag}{Z:Evt}{P:D->Evt->Prop}
end
section
variable {K:W.Frag}{Z:Evt}
end
section
variable {X:Cx}
end
section
variable {K:W.Frag}{Z:Evt}{P:D->Evt->Prop}
theorem Zyz {x:Str}(p:P (.bl false) Z):JR2 K rNe (.str x) (.str x) Z P:=λg G H U Q u v k rx ry c=>by
 cases rx.inv;cases ry.inv;refine⟨rfl,?_⟩;rw[decide_eq_true rfl];exact c _ _ G H Z k (Same.refl _) (.bl _) p
end
abbrev rlt:=HT.lexLt
theorem Zzc (x y:Int) (xs ys:List Int):rlt (x::xs) (y::ys)=if x=y then rlt xs ys else decide (x<y):=rfl
theorem RowAt.inj {h:Heap}{v:Value}{a b:List Int}(x:RowAt h v a) (y:RowAt h v b):a=b:=by
 obtain⟨p,its,rfl,⟨o,ho,hc,n,hd⟩,hi⟩:=x;obtain⟨q,its2,e,⟨o2,ho2,hc2,n2,hd2⟩,hi2⟩:=y;cases e;rw[ho]at ho2;cases ho2;rw[hd]at hd2;have e:its=its2:=by
  have:=Data.seq.inj hd2;simpa using this.1
 subst e;clear hd hd2
 induction hi generalizing b with
 |nil=>cases hi2;rfl
 |cons n t _ ih=>cases hi2 with|cons _ _ r=>rw[ih r]
section
variable {X:Cx}
end
abbrev TB:=St->Hp->(St->Hp->Prop)->Prop
def LoopR (g:TG) (tb:TB) (R:St->Hp->Prop) (U0:St):It->Hp->Prop:=λJ H1=>∃W:Nat->Nat->St->Hp->Prop,(∃m,W 0 m U0 H1)/\∀i m U H,W i m U H ->
 (J.stop i H/\R U H)\/(J.go i H/\∃N:St->Hp->Prop,(∀U' H',N U' H' -> ∃m',m'<m/\W (i+1) m' U' H')/\∀x H',J.yld i H x H' -> g x U H' λU2 H2=>tb U2 H2 N)
def PB (Y:Cx) (body:Sem Unit) (tb:TB):Prop:=∀(pins:List (Addr × Obj)) (s:Shared) (U:St) (H:Hp) (N:St->Hp->Prop),Inv Y pins U H s->tb U H N ->
 wpAny (model Y.prog Y.w) Y.A body (λ_ s'=>∃U' H',Inv Y pins U' H' s' /\ N U' H') (λ_ _=>False) s
def PBT (Y:Cx) (rest:Sem Fin) (c:Code) (tb:TB):Prop:=∀(pins:List (Addr × Obj)) (s:Shared) (U:St) (H:Hp) (N:St->Hp->Prop),Inv Y pins U H s->tb U H N ->
 wpAny (model Y.prog Y.w) Y.A rest (λf s'=>f=.again c/\∃U' H',Inv Y pins U' H' s' /\ N U' H') (λ_ _=>False) s
theorem PB.rest {Y:Cx}{body:Sem Unit}{c:Code}{tb:TB}(h:PB Y body tb):PBT Y (do body;again c) c tb:=λpins s U H N I q=>
 wpAny_bind (thn (h pins s U H N I q) λ_ s' z=>wpAny_pure ⟨rfl,z⟩)
structure Plain (e:Expr):Prop where
 tu:∀(P:Program) (w:World) (A:Around) (d:Nat) (it acc:Value) (env:Env),A.under (.compLoop e d it acc env)=A/\(model P w).den (.compLoop e d it acc env)=(compTurn e d it acc env).onRaise (λx=>do noteFrame x env;theTreesLotGoes x)
 su:∀(P:Program) (w:World) (A:Around) (d:Nat) (it acc:Value) (env:Env),A.under (.compStart e d it acc env)=A/\(model P w).den (.compStart e d it acc env)=(compStart e d it acc env).onRaise (λx=>do noteFrame x env;standAt theWindowsPlace)
theorem Zni (k v:Expr) (gs:List Comprehension) (sc:Scope) (pos:Pos):Plain (.DictComp k v gs sc pos):=⟨λ_ _ _ _ _ _ _=>⟨rfl,rfl⟩,λ_ _ _ _ _ _ _=>⟨rfl,rfl⟩⟩
theorem Zp3 {Y:Cx}{e tg:Expr}{d:Nat}{p:Pos}{acc:Value}{rest:Value->Sem Fin}{g:TG}{tb:TB}(hpl:Plain e) (hc:Y.calm=true) (hx:Y.xe=λ_ _=>False)
  (hct:∀it,compTurn e d it acc Y.env=(do
   standAt p
   match <- pyNext it with
   |none=>pure (.done .next)
   |some v=>
    letOwnedTupleGo tg it v
    assign tg Y.env v
    rest it))
  (hg:PG Y tg g) (hb:∀it,PBT Y (rest it) (.compLoop e d it acc Y.env) tb) {pins:List (Addr × Obj)}{U:St}{s:Shared}{itv:Value}{R:St->Hp->Prop}(h:PIE Y pins U tg (LoopR g tb R U) itv s) :
  codeAny (model Y.prog Y.w) Y.A (.compLoop e d itv acc Y.env) (λr s'=>r=.ok .next/\∃U' H',Inv Y pins U' H' s' /\ R U' H') s:=by
 obtain⟨it,fp,tn,J,H2,e0,I2,T,st2,f2,W,⟨m0,w0⟩,turn⟩:=h;subst e0;have stat:∀{H':Hp},(∀b∈fp,H' b=none)->∀b∈fp,FpOk Y pins H' b:=λhn b hb=>⟨hn b hb,(f2 b hb).2⟩;refine codeAny_loop rfl (λn s'=>∃i U' H',Inv Y pins U' H' s' /\ tn i s'.heap/\(∀b∈fp,H' b=none)/\W i n U' H') ?_ m0 ⟨0,U,H2,I2,st2,λb hb=>(f2 b hb).1,w0⟩;rintro n s3 ⟨i,U3,H3,I3,st3,fr3,w3⟩;obtain⟨z1,z2⟩:=hpl.tu Y.prog Y.w Y.A d (.ref it) acc Y.env;rw[z1,z2];refine wpAny_noted (wpAny_mono (E:=λ_ _=>False) ?_ (λ_ _ q=>q) λ_ _ z=>z.elim);rw[hct];refine wpAny_bind<|wpAny_standAt<|wpAny_bind ?_;rcases turn i n U3 H3 w3 with ⟨stop,qn⟩|⟨go,N,hN,step⟩
 ·refine thn (T.done Y rfl rfl rfl hc i pins s3 U3 H3 (λ_ _=>False) I3 (stat fr3) st3 stop) λr s4 ⟨hr,I4⟩=>?_
  subst hr;exact wpAny_pure ⟨rfl,U3,H3,I4,qn⟩
 ·refine thn (T.item Y rfl rfl rfl hc i pins s3 U3 H3 (λ_ _=>False) I3 (stat fr3) st3 go) λr s4 ⟨u,hr,h4⟩=>?_
  subst hr;refine wpAny_bind (thn h4 λ_ s5 ⟨x,H5,I5,r5,y5,st5,fr5⟩=>?_);have I5':=I5.pinned (stat fr5)<|T.obj _ _ st5;have G1:=hg _ s5 U3 H5 x u _ I5' r5<|step x H5 y5;rw[hx]at G1;refine wpAny_bind (thn G1 λ_ s6 ⟨U6,H6,I6,q6⟩=>?_);refine thn (hb _ _ s6 U6 H6 N I6 q6) λfn s7 ⟨hfn,U7,H7,I7,n7⟩=>?_;subst hfn;refine⟨rfl,?_⟩;obtain⟨m',hm,w7⟩:=hN U7 H7 n7;refine⟨m',hm,i+1,U7,H7,I7.unpinned,T.keep _ _ _ st5 λb hb o e=>(I7.pin (b,o)<|Wa3 _<|Wa3 _<|Zb0 hb e).1,λb hb=>?_,w7⟩;obtain⟨o,e,_⟩:=T.obj _ _ st5 b hb;exact(I7.pin (b,o)<|Wa3 _<|Wa3 _<|Zb0 hb e).2.1
theorem Zng {Y:Cx}{e tg it0:Expr}{ifs:List Expr}{d:Nat}{acc:Value}{pins:List (Addr × Obj)}{U:St}{s:Shared}{itv:Value}{RR:It->Hp->Prop}{R:Result->Shared->Prop}(hpl:Plain e) (hcl:(clausesOf e)[d]?=some ⟨tg,it0,ifs,0⟩)
  (h:PIE Y pins U tg RR itv s) (h0:codeAny (model Y.prog Y.w) Y.A (.compLoop e d itv acc Y.env) R s):codeAny (model Y.prog Y.w) Y.A (.compStart e d itv acc Y.env) R s:=by
 obtain⟨it,fp,tn,J,H2,e0,I2,T,st2,f2,_⟩:=h;subst e0;refine codeAny_of_tree ?_;obtain⟨z1,z2⟩:=hpl.su Y.prog Y.w Y.A d (.ref it) acc Y.env;rw[z1,z2];refine wpAny_notedAt ?_;unfold compStart;rw[hcl];show wpAny _ _ (ask >>= _) _ _ s;refine wpAny_bind<|wpAny_askSetting<|wpAny_ite ?_;split
 ·first
   |exact wpAny_bind (wpAny_pure (wpAny_pure (And.intro rfl h0)))
   |exact wpAny_pure (And.intro rfl h0)
 ·refine wpAny_bind (wpAny_rule ?_)
  show wpAny _ _ (standAt it0.pos >>= _) _ _ s;exact wpAny_bind<|wpAny_standAt<|wpAny_bind<|T.self _ 0 _ _ _ st2<|wpAny_pure<|And.intro rfl h0
section
variable {X:Cx}
def tPutK (tk tv:TE) (D:Addr):TB:=λU H N=>tk U H λx H1=>tv U H1 λy H2=>∃kvs k,x=kV k/\H2 D=some (.dK kvs)/\kvs.length<sizeLine/\N U (upd H2 D (.dK<|putK kvs k y))
theorem Zzd {Y:Cx}{kx vx:Expr}{tk tv:TE}{p:Pos}(hx:Y.xe=λ_ _=>False) (hk:PE Y kx tk) (hv:PE Y vx tv) (D:Addr):PB Y (do
   let kv <- eval kx Y.env
   let vv <- holding [kv] (eval vx Y.env)
   standAt p
   holding [kv,vv] (dictSet D kv vv)) (tPutK tk tv D):=λpins s U H N I h=>by
 have h1:=hk pins s U H _ I h;rw[hx]at h1;refine wpAny_bind (thn h1 λu s1 ⟨x,H1,I1,rx,h2⟩=>?_);have h3:=hv pins s1 U H1 _ I1 h2;rw[hx]at h3;refine wpAny_bind<|wpAny_holding (thn h3 λr s2 ⟨y,H2,I2,ry,kvs,k,ex,hD,hl,hN⟩=>wpAny_bind<|wpAny_standAt<|wpAny_holding ?_);subst ex;obtain⟨z,hd,vs,rel,dd⟩:=Zza I2.hok hD;have hz:vs.length<=sizeLine:=by rw[<- rel.length];exact z
 have hl':(putK kvs k y).length<=sizeLine:=by have:=Zev kvs k y;omega
 refine wpAny_dictSet_pairs (hsz:=hz) (Znl rx) dd λh' dd' hs=>⟨U,_,?_,hN⟩;have he:∃q,h'.get? D=some q:=let ⟨q,_,_,hq,_⟩:=dd'; ⟨q,hq⟩
 exact Zg6 I2 (by rw[hD];exact True.intro) hs he<|Zuh hl' hd (rel.put k ry) dd'
end
section
variable {K:W.Frag}{Z:Evt}
def KD (K:W.Frag) (G:Hp):List (Key × V)->List (Key × D)->Prop:=Paired λ(p:Key × V) (q:Key × D)=>p.1=q.1/\Rep K G p.2 q.2
theorem KD.len {G:Hp}{vs:List (Key × V)}{ds:List (Key × D)}(h:KD K G vs ds):vs.length=ds.length:=Paired.length h
end
section
variable {K:W.Frag}{Z:Evt}{P:D->Evt->Prop}
theorem Zvy {n:Nat}{x:Slot}{kvs:List (Key × D)}(hx:Z[n]?=some x) (ho:x.od=some (.dct kvs)) (p:P (.int kvs.length) Z):JE K (tCB (rLenU K)<|tCons (tVar n) tNil) Z P:=λg G H U Q k c=>by
 obtain⟨a,o,h1,h2,h3,h4,h5⟩:=k.own n x _ hx ho;cases o with
 |dK vs=>
  have h3:KD K G vs kvs:=h3;refine⟨.ref a,h1,.inr ⟨a,vs,rfl,h2,?_⟩⟩;rw[h3.len];exact c _ _ G H Z k (Same.refl _) (.int _) p
 |_=>exact absurd h3 (λz=>z)
end
section
variable {X:Cx}{pins:List (Addr × Obj)}{U:St}{H H':Hp}{s:Shared}{h':Heap}{b:Addr}
end
section
variable {X:Cx}{pins:List (Addr × Obj)}{U:St}{H H':Hp}{s:Shared}{h':Heap}{a C T:Addr}
variable {M:Model}{E:Value->Shared->Prop}{Q:Unit->Shared->Prop}
end
section
variable {X:Cx}{pins:List (Addr × Obj)}{U:St}{H:Hp}{s:Shared}{a C:Addr}
end
section
variable {X:Cx}
end
section
variable {P:Program}{w:World}{K:W.Frag}{mg:Str->Option Value}{base:Heap}
end
section
variable {K:W.Frag}{Z:Evt}{E:XK}{Xp:Addr->Prop}{nx bk ct:Evt->Prop}{rt:D->Evt->Prop}{ro:OD->Evt->Prop}
end
open PySem PySem.Spec PyProof.Rows PySem.SeqAt
section
variable {K:W.Frag}{Z:Evt}{P:D->Evt->Prop}
end
section
variable {K:W.Frag}{Z:Evt}
end
section
variable {X:Cx}
def CDivB (i j:Int):Prop:=0<j/\j<=100000000000000000000000000000000000000000000000000000000000
theorem Zi7:OpR X (binaryOp .FloorDiv) (rI CDivB λi j=>.int<|i / j):=opI λi j _ _ _ _ _ hc q=>by
 have h1:(0:Int)<j:=hc.1;have h2:=hc.2;refine floordiv_int (by omega) (by rw[Int.fdiv_eq_ediv_of_nonneg i (by omega)];exact q) (.inl<|PyProof.noPylong_of_log2 ?_);have h3:j.natAbs<=100000000000000000000000000000000000000000000000000000000000:=by omega
 have h4:j.natAbs<2 ^ 200:=Wcs h3 (by decide);exact Nat.lt_trans ((Nat.log2_lt<|by omega).2 h4) (by decide)
end
section
variable {K:W.Frag}{Z:Evt}{E:XK}{Xp:Addr->Prop}{P:D->Evt->Prop}
end
def keyPd:Key->PyData
 |.inl i=>.int i
 |.inr x=>.str x
mutual
def D.pd:D->PyData
 |.non=>.none
 |.bl b=>.bool b
 |.int i=>.int i
 |.str x=>.str x
 |.tup ds=>.tuple (D.pds ds)
 |.lst ds=>.list (D.pds ds)
 |.dct ks ds=>.dict ((ks.map keyPd).zip (D.pds ds))
 |_=>.none
def D.pds:List D->List PyData
 |[]=>[]
 |d::ds=>D.pd d::D.pds ds
end
section
variable {X:Cx}
end
def PV (K:W.Frag) (te:TE) (Z:Evt) (d:D):Prop:=∀P:D->Evt->Prop,P d Z -> JE K te Z P
def PVs (K:W.Frag) (ta:TA) (Z:Evt) (ds:List D):Prop:=∀P:List D->Evt->Prop,P ds Z -> JA K ta Z P
def PR2 (K:W.Frag) (r:R2) (d e:D) (Z:Evt) (x:D):Prop:=∀P:D->Evt->Prop,P x Z -> JR2 K r d e Z P
section
variable {K:W.Frag}{Z:Evt}
theorem Zn3 {te:TE}{d:D}{P:D->Evt->Prop}(h:PV K te Z d) (p:P d Z):JE K te Z P:=h P p
theorem Zxi {ta:TA}{ds:List D}{P:List D->Evt->Prop}(h:PVs K ta Z ds) (p:P ds Z):JA K ta Z P:=h P p
theorem Zc6 {i:Nat}{d:D}(h:Z[i]?=some (.val d)):PV K (tVar i) Z d:=λP p=>Zab h p
theorem Zdw {i:Int}:PV K (tC (.int i)) Z (.int i):=λP p=>Zai p
theorem Zxc:PVs K tNil Z []:=λP p=>Zaf p
theorem Zm2 {ta:TE}{tr:TA}{d:D}{ds:List D}(h:PV K ta Z d) (t:PVs K tr Z ds):PVs K (tCons ta tr) Z (d::ds):=λP p=>Zac<|h _<|t _ p
theorem Zes {r:R2}{ta tb:TE}{d e x:D}(a:PV K ta Z d) (b:PV K tb Z e) (h:PR2 K r d e Z x):PV K (tOp r ta tb) Z x:=λP p=>Zaj<|a _<|b _<|h P p
theorem Zyb {ds:List D}{i:Int}{d:D}(h:atI ds i=some d):PR2 K (rIxU K) (.tup ds) (.int i) Z d:=λP p=>Zav h p
theorem Zzb {ds:List D}{i:Int}{d:D}(h:atI ds i=some d):PR2 K (rIxU K) (.lst ds) (.int i) Z d:=λP p=>Zbu h p
theorem Zlu {i j:Int}:PR2 K (rAddU K) (.int i) (.int j) Z (.int<|i+j):=λP p=>Zc1 p
theorem Zz3 {f:Int->Int->Int}{i j:Int}:PR2 K (rI0 λi j=>.int<|f i j) (.int i) (.int j) Z (.int<|f i j):=λP p=>Ze7 p
theorem pr_I {C:Int->Int->Prop}{f:Int->Int->Int}{i j:Int}(hc:C i j):PR2 K (rI C λi j=>.int<|f i j) (.int i) (.int j) Z (.int<|f i j):=λP p=>jr_I hc p
theorem Zpj {ta tb:TE}{ds:List D}{i:Int}{d:D}(a:PV K ta Z (.tup ds)) (b:PV K tb Z (.int i)) (h:atI ds i=some d):PV K (tOp (rIxU K) ta tb) Z d:=Zes a b<|Zyb h
theorem Zyi {ta tb:TE}{ds:List D}{i:Int}{d:D}(a:PV K ta Z (.lst ds)) (b:PV K tb Z (.int i)) (h:atI ds i=some d):PV K (tOp (rIxU K) ta tb) Z d:=Zes a b<|Zzb h
theorem Zue {n:Nat}{ds:List D}{i:Int}{d:D}(hx:Z[n]?=some (.val (.tup ds))) (h:atI ds i=some d):PV K (tOp (rIxU K) (tVar n)<|tC (.int i)) Z d:=Zpj (Zc6 hx) Zdw h
theorem Zvz {ta:TE}{ds:List D}(a:PV K ta Z (.tup ds)):PV K (tCB (rLenU K)<|tCons ta tNil) Z (.int ds.length):=λP p=>Zbs<|Zac<|a _<|Zaf<|Zcr (.inr rfl) p
end
open PySem PySem.Spec PyProof.Rows PySem.SeqAt
section
variable {K:W.Frag}{Z:Evt}{P:D->Evt->Prop}
end
open PySem PySem.Spec PyProof.Rows PySem.SeqAt
section
variable {X:Cx}
theorem Znz {e tg1 it1:Expr}{scope:Scope}{tgs fvs:List Str}{sel:List Nat}{g1:TG}{ob:Obj}{ho:HO}{newAcc:Sem Value}{rest:Addr->Env->Value->Sem Fin}{tem:Addr->TB}(hpl:Plain e) (hcls:(clausesOf e)[0]?=some ⟨tg1,it1,[],0⟩)
  (hct0:∀(D:Addr) (env:Env) (it:Value),compTurn e 0 it (.ref D) env=(do
   standAt it1.pos
   match <- pyNext it with
   |none=>pure (.done .next)
   |some v=>
    letOwnedTupleGo tg1 it v
    assign tg1 env v
    rest D env it))
  (hnew:∀(s:Shared) (Q:Value->Shared->Prop) (E:Value->Shared->Prop),Q (.ref s.heap.objs.size) { s with heap:=s.heap.push ob } -> wpAny (model X.prog X.w) X.A newAcc Q E s)
  (hok:∀(pins:List (Addr × Obj)) (U:St) (H:Hp) (s:Shared),Inv X pins U H s->Inv X pins U (upd H s.heap.objs.size ho) { s with heap:=s.heap.push ob,toks:=s.toks })
  (S:CompSc X.env.scope X.N scope fvs sel) (hc:X.calm=true)
  (hg1:∀C s H ex pn,PG (compCx X scope (tgs++fvs) C s H ex pn) tg1 g1)
  (hb:∀C s H ex pn D it,PBT (compCx X scope (tgs++fvs) C s H ex pn) (rest D (compCx X scope (tgs++fvs) C s H ex pn).env it) (.compLoop e 0 it (.ref D) (compCx X scope (tgs++fvs) C s H ex pn).env) (tem D))
  {pins:List (Addr × Obj)}{U:St}{s:Shared}{itv:Value}{Q:VK}{E:Value->Shared->Prop}{RR:Value->Addr->Result->Shared->Prop}
  (h2:PIE X pins U tg1 (λJ H1=>∀acc,H1 acc=none->LoopR g1 (tem acc) (λ_ H'=>Q (.ref acc) H') (compSt tgs.length sel U) J (upd H1 acc ho)) itv s)
  (fin:∀(s':Shared) (C acc:Addr) (H':Hp) (m:Str->Option Value),s'.heap.Ns C m->FpOk X pins H' C->(∀h',Heap.SameBut C s'.heap h' -> Inv X pins U H' { s' with heap:=h' })->Q (.ref acc) H' -> RR (.ref acc) C (.ok .next) s') :
  wpAny (model X.prog X.w) X.A newAcc (λacc s3=>wpAny (model X.prog X.w) X.A (newFunctionEnv scope X.env.globals (clOf X.env scope.names []) [] X.env.qual none .none (some X.env)) (λcenv s4=>
   codeAny (model X.prog X.w) X.A (.compStart e 0 itv acc { cenv with scope:=relabel scope X.env }) (RR acc cenv.locals) s4) E s3) E s:=by
 obtain⟨it,fp,tn,J,H1,e0,I,T,st,f2,h2⟩:=h2;subst e0;have hlt:∀b∈fp,b<s.heap.objs.size:=λb hb=>let ⟨o,ho,_⟩:=T.obj 0 _ st b hb; Wap ho
 refine hnew s _ _<|wpAny_newFunctionEnv S.nocell (by intro y hy;simp at hy) (λh1 hns hsb=>?_) S.kind;dsimp only at hns hsb ⊢;have I3:=hok pins U H1 s I;have hacc:H1 s.heap.objs.size=none:=I.hok.fresh<|Wag _;have h2:=h2 s.heap.objs.size hacc;generalize hs3:({ s with heap:=s.heap.push ob,toks:=s.toks }:Shared)=s3 at I3;have hh3:s3.heap=s.heap.push ob:=by rw[<- hs3]
 have old3:∀b o,s.heap.get? b=some o->s3.heap.get? b=some o:=λb o q=>by rw[hh3];exact Wad _ q
 have hf3:∀b∈fp,FpOk X pins (upd H1 s.heap.objs.size ho) b:=λb hb=>⟨by rw[Zak (Way<|hlt b hb)];exact(f2 b hb).1,(f2 b hb).2⟩;have hlt3:∀b∈fp,b<s3.heap.objs.size:=λb hb=>by rw[hh3,Wcc];exact Wbo<|hlt b hb
 have tn3:tn 0 s3.heap:=T.keep 0 _ _ st λb hb o q=>old3 b o q;have old4:∀b o,s3.heap.get? b=some o->h1.get? b=some o:=λb o q=>by
  have hb:b≠s3.heap.objs.size:=Way<|Wap q;rw[hh3]at hb q;exact(hsb.2 b hb).trans (Wad _ q)
 have tn4:tn 0 h1:=T.keep 0 _ _ tn3 λb hb o q=>old4 b o q;have hC:(s.heap.push ob).objs.size=s3.heap.objs.size:=by rw[hh3]
 rw[hC]at hns;have J0:=Zm7 (tgs:=tgs) (tk:=s.toks+([]:List (Str × Value)).length) S I3 hf3 hlt3 hns old4;have es:({ s3 with heap:=h1,toks:=s.toks+([]:List (Str × Value)).length }:Shared) = { s with heap:=h1,toks:=s.toks+([]:List (Str × Value)).length }:=by rw[<- hs3]
 rw[es]at J0;have G1:=hg1 s3.heap.objs.size s3 (upd H1 s.heap.objs.size ho) fp<|X.pn++pins;have EM:=hb s3.heap.objs.size s3 (upd H1 s.heap.objs.size ho) fp (X.pn++pins) s.heap.objs.size;generalize hY:compCx X scope (tgs++fvs) s3.heap.objs.size s3 (upd H1 s.heap.objs.size ho) fp (X.pn++pins)=Y at J0 G1 EM;have hYp:Y.prog=X.prog:=by rw[<- hY];rfl
 have hYw:Y.w=X.w:=by rw[<- hY];rfl
 have hYK:Y.K=X.K:=by rw[<- hY];rfl
 have hYA:Y.A=X.A:=by rw[<- hY];rfl
 have hYc:Y.calm=true:=by rw[<- hY];exact hc
 have hYx:Y.xe=λ_ _=>False:=by rw[<- hY];rfl
 have hYe:Y.env=compEnvC scope (clOf X.env scope.names []) s3.heap.objs.size X.env:=by rw[<- hY];rfl
 have stat:∀{H':Hp},(∀b∈fp,H' b=none)->∀b∈fp,FpOk Y [] H' b:=λhn b hb=>by
  rw[<- hY];refine⟨hn b hb,Way<|hlt3 b hb,λz=>?_,.inl hb,λx c e=>?_,λp hp z=>?_⟩
  ·rcases Wan.mp (I3.stkSub b z) with q|q
   ·exact(hf3 b hb).2.1 q
   ·exact(hf3 b hb).2.2.1 q
  ·exact(hf3 b hb).2.2.2.2.1 x c (Zbg _ _ (λ_ _ z=>by simp at z) e)
  ·have hp:p∈(X.pn++pins)++[]:=hp
   rw[Wbi]at hp;exact(hf3 b hb).2.2.2.2.2 p hp z
 have T':Turn Y.prog Y.w Y.K tg1 J fp it tn:=by rw[hYp,hYw,hYK];exact T
 have PP:PIE Y [] (compSt tgs.length sel U) tg1 (LoopR g1 (tem s.heap.objs.size) (λ_ H'=>Q (.ref s.heap.objs.size) H')<|compSt tgs.length sel U) (.ref it) { s with heap:=h1,toks:=s.toks+([]:List (Str × Value)).length }:=
  ⟨it,fp,tn,J,_,rfl,J0,T',tn4,stat λb hb=>(hf3 b hb).1,h2⟩
 have L:=Zp3 (Y:=Y) (e:=e) (d:=0) (acc:=.ref s.heap.objs.size) hpl hYc hYx (hct0 s.heap.objs.size Y.env) G1 (λit=>EM it) PP;have ST:=Zng (d:=0) hpl hcls PP L;rw[hYp,hYw,hYA,hYe]at ST;show codeAny (model X.prog X.w) X.A (.compStart e 0 (.ref it) (.ref s.heap.objs.size)<|compEnvC scope (clOf X.env scope.names []) (s.heap.push ob).objs.size X.env) (RR (.ref s.heap.objs.size) (s.heap.push ob).objs.size) _;rw[hC];refine codeAny_mono ST λr s6 ⟨hr,U5,H5,I6,qn⟩=>?_;subst hr;obtain⟨m6,hn6,_⟩:=I6.loc;rw[hYe]at hn6;refine fin s6 _ _ H5 m6 hn6 (I3.fpOk (Wag _) (by have z:=I6.free;rw[hYe]at z;exact z)) (λh' sb=>?_) qn;have I6':Inv (compCx X scope (tgs++fvs) s3.heap.objs.size s3 (upd H1 s.heap.objs.size ho) fp<|X.pn++pins) [] U5 H5 s6:=by rw[hY];exact I6
 exact Zj3 I3 hf3 I6' sb
def tCompG (n:Nat) (sel:List Nat) (wi1:TI) (g1:TG) (ho:HO) (tem:Addr->TB):TE:=λU H Q=>wi1 U H λJ H1=>∀acc,H1 acc=none->LoopR g1 (tem acc) (λ_ H'=>Q (.ref acc) H') (compSt n sel U) J (upd H1 acc ho)
end
section
variable {K:W.Frag}{Z:Evt}
def gInO (G H:Hp) (acc:Addr) (o:HO):Gm:=⟨λ_=>False,G,H,λb=>if b=acc then some o else none⟩
theorem Zip {G H:Hp}{acc:Addr}{u:HO}{G' H':Hp}{U:St}{Z:Evt}(k:Ok K (gInO G H acc u) G' H' U Z):H' acc=some u/\G' acc=none/\∀(i:Nat) x od,Z[i]?=some x->x.od=some od -> U[i]?≠some (some (.ref acc)):=
 k.ext acc u (by show (if acc=acc then _ else _)=_;rw[if_pos rfl])
theorem Zs2 {G H:Hp}{acc:Addr}{u u':HO}{G' H':Hp}{U:St}{Z:Evt}(hH:H acc=none) (k:Ok K (gInO G H acc u) G' H' U Z):Ok K (gInO G H acc u') G' (upd H' acc u') U Z:=by
 obtain⟨w1,w2,w3⟩:=Zip k;have ne:∀{b:Addr}{o:HO},G' b=some o->b≠acc:=λ{b o} e z=>by subst z;rw[w2]at e;cases e
 refine⟨λb o hb e=>?_,λb hb=>hb.elim,k.sub,λb o e=>?_,λb o e=>?_,k.len,k.val,λi x od e1 e2=>?_,k.dis⟩
 ·have hb':b≠acc:=by intro z;subst z;have e:H b=some o:=e;rw[hH]at e;cases e
  rw[Zak hb'];exact k.same b o (λz=>z) e
 ·rw[Zak (ne e)];exact k.frz b o e
 ·have e:(if b=acc then some u' else none)=some o:=e
  by_cases hb:b=acc
  ·rw[if_pos hb]at e;cases e;subst hb
   exact⟨Zao,w2,w3⟩
  ·rw[if_neg hb]at e;cases e
 ·obtain⟨a,o,h1,h2,h3,h4,h5⟩:=k.own i x od e1 e2
  have hb:a≠acc:=by intro z;subst z;exact w3 i x od e1 e2 h1
  exact⟨a,o,h1,by rw[Zak hb];exact h2,h3,h4,h5⟩
def JB (K:W.Frag) (tem:Addr->TB) (Z:Evt) (od:OD) (P:OD->Evt->Prop):Prop:=∀(G1 H1:Hp) (acc:Addr) (o:HO) (G H:Hp) (U:St) (N:St->Hp->Prop),H1 acc=none->OwnRep K G o od->Ok K (gInO G1 H1 acc o) G H U Z ->
 (∀o' od' U' G' H' Z',Ok K (gInO G1 H1 acc o') G' H' U' Z' -> Same G G' -> OwnRep K G' o' od' -> P od' Z' -> N U' H')->tem acc U H N
theorem Zss {n:Nat}{sel:List Nat}{wi1:TI}{g1:TG}{ho:HO}{od0:OD}{tem:Addr->TB}{Po:OD->Evt->Prop}(h00:∀G,OwnRep K G ho od0)
  (h:JI K wi1 Z λds Z1=>(∀i∈sel,∃d,Z1[i]?=some (.val d))/\∃I:Nat->OD->Evt->Prop,I 0 od0 (compD n sel Z1) /\
   (∀i d od Z2,ds[i]?=some d->I i od Z2->JG K g1 d Z2 λZ3=>JB K tem Z3 od λod' Z4=>I (i+1) od' Z4) /\
   ∀od Z2,I ds.length od Z2->Po od Z1):JO K (tCompG n sel wi1 g1 ho tem) Z Po:=λg G H U Q k c=>
 h g G H U _ k λJ ds G1 H1 Z1 k1 s1 it ⟨hval,I,h0,ht,he⟩ acc hacc=>by
  have hGa:G1 acc=none:=by
   cases e:G1 acc with
   |none=>rfl
   |some u=>rw[k1.live _ _ e]at hacc;cases hacc
  have noOd:∀(i:Nat) x od,(compD n sel Z1)[i]?=some x->x.od=some od->False:=λi x od e1 e2=>by
   rcases Zb5 e1 with z|⟨j,i',ei,ej,z⟩
   ·subst z;cases e2
   ·obtain⟨d,hd⟩:=hval i' (Wau ej)
    rw[hd]at z;cases z;cases e2
  refine⟨λi m U' H'=>m=ds.length-i/\i<=ds.length/\∃G2 o2 od2 Z2,OwnRep K G2 o2 od2/\Ok K (gInO G1 H1 acc o2) G2 H' U' Z2/\Same G1 G2/\I i od2 Z2,⟨ds.length,by simp,Wbn _,G1,ho,od0,_,h00 _,?_,Same.refl _,h0⟩,?_⟩
  ·refine⟨λb o hb e=>?_,λb hb=>hb.elim,Same.refl _,λb o e=>⟨?_,.inr e⟩,λb o e=>?_,?_,λi d e=>?_,λi x od e1 e2=>(noOd i x od e1 e2).elim,λi j x y od od' a e1 e2=>(noOd i x od e1 e2).elim⟩
   ·have e:H1 b=some o:=e
    rw[Zak (Zal e hacc)];exact e
   ·rw[Zak (Zal e hGa)];exact k1.live b o e
   ·have e:(if b=acc then some ho else none)=some o:=e
    by_cases hb:b=acc
    ·rw[if_pos hb]at e;cases e;subst hb
     exact⟨Zao,hGa,λi x od e1 e2=>(noOd i x od e1 e2).elim⟩
    ·rw[if_neg hb]at e;cases e
   ·unfold compD compSt;simp
   ·rcases Zb5 e with z|⟨j,i',ei,ej,z⟩
    ·cases z
    ·subst ei
     obtain⟨v,w1,w2⟩:=k1.val i' d z;exact⟨v,by rw[Zdb ej,w1];rfl,w2⟩
  ·rintro i m U2 H2 ⟨rfl,hi,G2,o2,od2,Z2,r2,k2,s2,h2⟩
   obtain⟨stop,go⟩:=it G2 H2 s2 k2.live;by_cases hlt:i<ds.length
   ·obtain⟨a1,a2⟩:=go i _ (Waa hlt)
    refine .inr ⟨a1,λU' H'=>∃G3 o3 od3 Z3,OwnRep K G3 o3 od3/\Ok K (gInO G1 H1 acc o3) G3 H' U' Z3/\Same G1 G3/\I (i+1) od3 Z3,λU' H' p'=>⟨ds.length-(i+1),by omega,rfl,hlt,p'⟩,λx H3 y=>?_⟩;obtain⟨G3,b1,b2,b3,b4⟩:=a2 x H3 y;have k3:=k2.grow b1 b2 b3;refine ht i _ od2 Z2 (Waa hlt) h2 _ G3 H3 U2 x _ k3 b4 λU4 G4 H4 Z4 k4 s4 p4=>?_;exact p4 G1 H1 acc o2 G4 H4 U4 _ hacc (r2.mono<|b1.trans s4) k4 λo9 od9 U9 G9 H9 Z9 k9 s9 r9 p9=>⟨G9,o9,od9,Z9,r9,k9,s2.trans<|b1.trans<|s4.trans s9,p9⟩
   ·have e:i=ds.length:=by omega
    subst e;obtain⟨w1,w2,w3⟩:=Zip k2;refine .inl ⟨stop,?_⟩;have k9:Ok K g G2 H2 U Z1:=k1.grow s2 (λb o e=>k2.same b o (λz=>z) e) λb o e=>by
     obtain⟨f1,f2⟩:=k2.frz b o e;exact⟨f1,f2.symm⟩
    refine c acc _ G2 H2 Z1 k9 (s1.trans s2) ⟨o2,w1,r2,w2,k1.there hacc,?_,λi x od e1 e2 e3=>?_⟩<|he od2 Z2 h2
    ·cases q:g.Xo acc with
     |none=>rfl
     |some u=>have z:=(k1.ext acc u q).1;rw[hacc]at z;cases z
    ·obtain⟨a,oo,v1,v2,_⟩:=k1.own i x od e1 e2
     rw[e3]at v1;cases v1;rw[hacc]at v2;cases v2
theorem Zvj {tk tv:TE}{kvs:List (Key × D)}{P:OD->Evt->Prop}(h:JE K tk Z λkd Z1=>JE K tv Z1 λvd Z2=>∃ki:Int,kd=.int ki/\kvs.length<sizeLine/\P (.dct<|putD kvs (.inl ki) vd) Z2):JB K (tPutK tk tv) Z (.dct kvs) P:=λG1 H1 acc o G H U N hacc ra k c=>
 h _ G H U _ k λx kd Ga Ha Za ka sa r h2=>h2 _ Ga Ha U _ ka λy vd Gb Hb Zb kb sb rv ⟨ki,ek,hl,p⟩=>by
  subst ek;cases r.inv;cases o with
  |dK kv=>
   have ra':KD K Gb kv kvs:=OwnRep.mono (o:=.dK kv) (od:=.dct kvs) (sa.trans sb) ra;obtain⟨w1,w2,w3⟩:=Zip kb;exact⟨kv,.inl ki,rfl,w1,by rw[ra'.len];exact hl,c _ _ U Gb _ Zb (Zs2 hacc kb) (sa.trans sb) (show OwnRep K Gb (.dK _) (.dct _) from Zpf rv ra') p⟩
  |_=>exact absurd ra (λz=>z)
end
section
variable {K:W.Frag}{Z:Evt}{nx bk ct:Evt->Prop}{rt:D->Evt->Prop}{ro:OD->Evt->Prop}
end
section
variable {K:W.Frag}{Z:Evt}{P:D->Evt->Prop}
theorem Zmh {G:Hp}:∀{kvs:List (Key × V)}{kds:List (Key × D)},Paired (λ(p:Key × V) (q:Key × D)=>p.1=q.1/\Rep K G p.2 q.2) kvs kds->(kds.map (·.1)).zip (kvs.map (·.2))=kvs/\Reps K G (kvs.map (·.2)) (kds.map (·.2))
 |_,_,.nil=>⟨rfl,.nil⟩
 | (k1,v1)::kvs,(k2,d2)::kds,.cons ⟨e,r⟩ t=>by
  have e:k1=k2:=e;subst e;obtain⟨h1,h2⟩:=Zmh t;refine⟨?_,.cons r h2⟩;show (k1,v1)::(kds.map (·.1)).zip (kvs.map (·.2))=_;rw[h1]
theorem Zmw {G:Hp}:∀{ks:List Key}{vs:List V}{ds:List D},ks.length=vs.length->Reps K G vs ds->Paired (λ(p:Key × V) (q:Key × D)=>p.1=q.1/\Rep K G p.2 q.2) (ks.zip vs) (ks.zip ds)
 |[],_,_,_,_=>.nil
 |_::_,_,_,l,.nil=>by cases l
 |k::ks,_,_,l,.cons r rs=>.cons ⟨rfl,r⟩ (Zmw (Nat.succ.inj l) rs)
theorem Zs6 (kds:List (Key × D)):(kds.map (·.1)).zip (kds.map (·.2))=kds:=by
 induction kds with
 |nil=>rfl
 |cons a t ih=>rw[Wbe,Wbe,Wcg,ih]
theorem Ok.freezeD {g:Gm}{G H:Hp}{U:St}(k:Ok K g G H U Z) {a:Addr}{kds:List (Key × D)}{kvs:List (Key × V)}(p:Pend K g G H U Z a (.dct kds)) (hv:H a=some (.dK kvs)):Ok K g (upd G a (.dK kvs)) H U Z /\ Same G (upd G a (.dK kvs))/\Rep K (upd G a (.dK kvs)) (.ref a) (.dct (kds.map (·.1))<|kds.map (·.2)):=by
 obtain⟨o,p1,p2,p3,p4,p5,p6⟩:=p;rw[hv]at p1;cases p1;obtain⟨r1,r2⟩:=Zmh (K:=K) p2;have sg:Same G (upd G a (.dK kvs)):=λb u e=>by rw[Zak (Zal e p3)];exact e
 refine⟨⟨k.same,k.lent,k.sub.trans sg,λb u e=>?_,λb u e=>?_,k.len,λj d h=>?_,λj x od e1 e2=>?_,k.dis⟩,sg,.dct (vs:=kvs.map (·.2)) (by rw[r1];exact Zao) (by rw[Wab,Wab];exact(Paired.length p2).symm)<|r2.mono sg⟩
 ·by_cases hb:b=a
  ·subst hb;rw[Zao]at e;cases e;exact⟨hv,.inl p4⟩
  ·rw[Zak hb]at e;exact k.frz b u e
 ·obtain⟨h1,h2,h3⟩:=k.ext b u e
  have hb:b≠a:=by intro z;subst z;rw[p5]at e;cases e
  exact⟨h1,by rw[Zak hb];exact h2,h3⟩
 ·obtain⟨v,h1,h2⟩:=k.val j d h
  exact⟨v,h1,h2.mono sg⟩
 ·obtain⟨c,o,w1,w2,w3,w4,w5⟩:=k.own j x od e1 e2
  have hc:c≠a:=by intro z;subst z;exact p6 j x od e1 e2 w1
  exact⟨c,o,w1,w2,w3.mono sg,by rw[Zak hc];exact w4,w5⟩
def dctD (kds:List (Key × D)):D:=.dct (kds.map (·.1))<|kds.map (·.2)
theorem Zqa {t:TE}(h:JO K t Z λod Z1=>∃kds,od=.dct kds/\P (dctD kds) Z1):JE K t Z P:=λg G H U Q k c=>
 h g G H U Q k λa od G1 H1 Z1 k1 s1 pd hq_=>by
  obtain⟨kds,e,p1⟩:=hq_;subst e;obtain⟨o,q1,q2,_⟩:=id pd;cases o with
  |dK kvs=>
   obtain⟨k2,sg,r⟩:=k1.freezeD pd q1;exact c _ _ _ H1 Z1 k2 (s1.trans sg) r p1
  |_=>exact absurd q2 (λz=>z)
theorem Zlt {kds:List (Key × D)}{i:Int}{d:D}(h:valD kds (.inl i)=some d) (p:P d Z):JR2 K (rIxU K) (dctD kds) (.int i) Z P:=λg G H U Q x y k rx ry c=>by
 obtain⟨a,vs,rfl,ha,hl,rs⟩:=rx.inv;cases ry.inv;have pr:=Zmw hl rs;rw[Zs6]at pr;obtain⟨u,z1,z2⟩:=Zle pr h;exact .inr ⟨a,u,rfl,(by have:=DGet.k (k:=Sum.inl i)<|k.live _ _ ha;rw[z1]at this;exact this),c u d G H Z k (Same.refl _) z2 p⟩
end
end L2
set_option Elab.async false
set_option linter.all false
set_option maxRecDepth 100000
namespace HT
open PySem PyProof.Rows
end HT
namespace L2
open PySem PySem.Spec PyProof.Rows
section
variable {K:W.Frag}{Z:Evt}{P:D->Evt->Prop}
end
section
variable {prog:Program}{w:World}{A:Around}{R:Result->Shared->Prop}{I:Addr}{fp wr:List Addr}{G:Array GenState->Array GenState->Prop}{n:Nat}{P:Nat->Value->Prop}{St:Nat->Shared->Prop}{K:Type}[DecidableEq K] {knd:KeyKind prog w K}
end
section
variable {X:Cx}
end
section
variable {prog:Program}{w:World}{A:Around}{E:Value->Shared->Prop}{s:Shared}
end
section
variable {K:W.Frag}{Z:Evt}{P:D->Evt->Prop}
end
open PySem PySem.Spec PyProof.Rows PySem.SeqAt
section
variable {prog:Program}{w:World}{A:Around}{E:Value->Shared->Prop}{s:Shared}
end
section
variable {K:W.Frag}{Z:Evt}
end
open PySem PySem.Spec PyProof.Rows PySem.SeqAt
theorem Zon (a b:List Int):(((Wah<|min a.length b.length).all λj=>decide (a.getD j 0=b.getD j 0)) && a.length == b.length)=decide (a=b):=by
 rw[Wdh,Wbc,Wcn,beq_iff_eq,decide_eq_true_iff];constructor
 ·rintro⟨h1,h2⟩
  apply Wes h2;intro i hi hj;have:=of_decide_eq_true (h1 i<|Waq.mpr (by omega));rw[Wac,Wac,Waa hi,Waa hj]at this;exact this
 ·rintro rfl
  exact⟨λj _=>decide_eq_true rfl,rfl⟩
section
variable {A:Around}{s:Shared}
theorem Zm3 {x y:Value}{a b:List Int}(hx:RowAt s.heap x a) (hy:RowAt s.heap y b) (hu:A.units<cLine):EqAt A s x y (decide (a=b)):=by
 obtain⟨p,its,rfl,t1,i1⟩:=id hx;obtain⟨q,its2,rfl,t2,i2⟩:=id hy;by_cases e:p=q
 ·subst e
  rw[decide_eq_true (hx.inj hy)];exact EqAt.same _
 ·have l1:=i1.length
  have l2:=i2.length;have:=RcAt.tuples (A:=A) (s:=s) (e:=λj=>decide (a.getD j 0=b.getD j 0)) t1 t2 hu λj h1 h2=>by
   have h1':j<its.length:=by simpa using h1
   have h2':j<its2.length:=by simpa using h2
   obtain⟨t,et⟩:=IntsAre.int_at i1 j _<|Waa h1';obtain⟨t',et'⟩:=IntsAre.int_at i2 j _<|Waa h2';rw[List.getElem_toArray,List.getElem_toArray,et,et'];have z:=EqAt.int_int (A:=A.in1) (s:=s) (a.getD j 0) t (b.getD j 0) t';rw[Wd7]at z;exact z
  rw[War,War,l1,l2,Zon]at this;exact EqAt.of_refs e this
end
def cLt:List (List Int)->List (List Int)->Bool
 |[],[]=>false
 |[],_::_=>true
 |_::_,[]=>false
 |x::xs,y::ys=>if x=y then cLt xs ys else rlt x y
def CodeAt (h:Heap) (v:Value) (c:List (List Int)):Prop:=∃(a:Addr) (its:List Value),v=.ref a/\IsTup h a its.toArray/\Paired (RowAt h) its c
theorem CodeAt.keep {h h':Heap}{v:Value}{c:List (List Int)}(x:CodeAt h v c) (k:∀b o,h.get? b=some o->h'.get? b=some o):CodeAt h' v c:=by
 obtain⟨a,its,e,⟨o,ho,hc⟩,i⟩:=x;exact⟨a,its,e,⟨o,k a o ho,hc⟩,Paired.mapP i λ_ _ z=>z.keep k⟩
section
open PySem.AutoSeq1 (wpAny_loadPart')
open PySem.MeetsSeq PySem.MeetsSeq2 PySem.MeetsSeq3
theorem Zi2 (l b:Addr) (items items2:Array Value) (n n2:Nat) (dd dd2:Option Addr) (sl sl2:Array (Option Value)) (ns ms:List (List Int)) :
  Meets (Builtin.«tuple.__lt__» ⟨[.ref l,.ref b],[]⟩)
   (λA R s=>A.units+1<cLine/\(Paired (RowAt s.heap) items.toList ns/\Paired (RowAt s.heap) items2.toList ms)/\s.heap.get? l=some { cls:=.type "tuple",dict:=dd,data:=.seq items n,slots:=sl } /\ s.heap.get? b=some { cls:=.type "tuple",dict:=dd2,data:=.seq items2 n2,slots:=sl2 } /\
    R (.ok (.ret (.bool (cLt ns ms)))) s):=
 .of_wp λprog w A R s h=>by
  obtain⟨hp,g,d,tk,os⟩:=s;obtain⟨hu,⟨hi,hj⟩,hl,hb,h⟩:=h;have f2:=AutoSeq1.sub_tuple_tuple;have z1:items.size=ns.length:=by rw[<- Paired.length hi];simp
  have z2:items2.size=ms.length:=by rw[<- Paired.length hj];simp
  wp_walk using wpAny_loadPart' hl,wpAny_loadPart' hb,wpAny_forIn_list _ (λrest b s'=>b.1=none/\s'=⟨hp,g,d,tk,os⟩ /\ ∃(vs ws:List Value) (ns' ms':List (List Int)),rest=vs.zip ws /\
   Paired (RowAt hp) vs ns' /\ Paired (RowAt hp) ws ms' /\ ns'.length+items2.size=ms'.length+items.size/\R (.ok (.ret (.bool (cLt ns' ms')))) ⟨hp,g,d,tk,os⟩) _
  case turn=>
   rintro⟨y,x⟩ rest b s' ⟨hb',rfl,vs,ws,ns',ms',hz,hvi,hwi,hlen,hR⟩;cases hvi with
   |nil=>rw[List.zip_nil_left]at hz;cases hz
   |@cons _ a _ _ ra hvi'=>
    cases hwi with
    |nil=>rw[Wee]at hz;cases hz
    |@cons _ c _ _ rc hwi'=>
     rw[Wcg]at hz;injection hz with hyx hrest
     injection hyx with hy hx
     subst hy hx;have hR:R (.ok (.ret (.bool (if a=c then cLt _ _ else rlt a c)))) ⟨hp,g,d,tk,os⟩:=hR;simp only[Waj]at hlen;have he:=Zm3 (A:=A.in1) (s:=⟨hp,g,d,tk,os⟩) ra rc (by show A.units+1<cLine;exact hu);refine wpAny_bind<|he prog w _ _ ?_;by_cases e:a=c
     ·rw[if_pos e]at hR
      rw[decide_eq_true e]
      wp_walk
      exact⟨rfl,rfl,_,_,_,_,hrest,hvi',hwi',by omega,hR⟩
     ·rw[if_neg e]at hR
      rw[decide_eq_false e];have hri:∀(Q:Value->Shared->Prop) (E:Value->Shared->Prop),Q (.bool<|rlt a c) ⟨hp,g,d,tk,os⟩ -> wpAny (model prog w) A.in1 (richCompare .Lt y x) Q E ⟨hp,g,d,tk,os⟩:=λQ E q=>by
       obtain⟨l',its',rfl,⟨⟨c1,d1,dt1,sl1⟩,ho,hc,k1,hd⟩,hi'⟩:=ra;obtain⟨l2,its2',rfl,⟨⟨c2,d2,dt2,sl2'⟩,ho2,hc2,k2,hd2⟩,hi2'⟩:=rc;simp only at hc hd hc2 hd2;subst hc hd hc2 hd2;exact richCompare_meets_room (op:=.Lt) ⟨_,ho,rfl⟩ ⟨_,ho2,rfl⟩ PySem.F.slot_tuple_lt PySem.F.entry_tuple_lt (PySem.F.args_tuple_lt_2 _ _) (HT.tuple_lt_ints l' l2 its'.toArray its2'.toArray k1 k2 d1 d2 sl1 sl2' a c (by simpa using hi') (by simpa using hi2'))
        ⟨ho,ho2,show Value.bool (HT.lexLt a c)≠Value.notImplemented/\_ from ⟨(λx=>nomatch x),q⟩⟩ (by show A.units+1<cLine;exact hu)
      wp_walk using hri
      exact⟨_,rfl,by simpa using hR⟩
  case fin=>
   rintro⟨b1,b2⟩ s' ⟨hb',rfl,vs,ws,ns',ms',hz,hvi,hwi,hlen,hR⟩;simp only at hb';subst hb';have hv:cLt ns' ms'=decide (items.size<items2.size):=by
    cases hvi with
    |nil=>
     cases hwi with
     |nil=>
      simp only[Wb6]at hlen;exact(decide_eq_false<|by omega).symm
     |cons _ hw=>
      simp only[Wb6,Waj]at hlen;exact(decide_eq_true<|by omega).symm
    |cons _ hv=>
     cases hwi with
     |nil=>
      simp only[Wb6,Waj]at hlen;exact(decide_eq_false<|by omega).symm
     |cons _ hw=>
      rw[Wcg]at hz;cases hz
   rw[hv]at hR
   wp_walk
   exact⟨_,rfl,by simpa [Builtin.Tuple.tupleCompareSizes] using hR⟩
  ·exact⟨rfl,rfl,_,_,_,_,rfl,hi,hj,by omega,h⟩
end
theorem Paired.getC {α β:Type}{R:α -> β -> Prop}:∀{vs:List α}{rs:List β}{i:Nat}{v:α},Paired R vs rs->vs[i]?=some v->∃r,rs[i]?=some r/\R v r
 |_,_,_,_,.nil,e=>by simp at e
 |_,_,0,_,.cons r _,e=>by simp at e;subst e;exact⟨_,rfl,r⟩
 |_,_,i+1,_,.cons _ t,e=>Paired.getC (i:=i) t (by simpa using e)
section
variable {prog:Program}{w:World}{A:Around}{E:Value->Shared->Prop}{s:Shared}
end
open PySem PySem.Spec PyProof.Rows PySem.SeqAt
def RowV (K:W.Frag) (H:Hp) (y:V) (r:List Int):Prop:=∃b,y=.ref b/\SqT K H b (r.map V.int)
def CodeV (K:W.Frag) (H:Hp) (y:V) (c:List (List Int)):Prop:=∃b zs,y=.ref b/\SqT K H b zs/\Paired (RowV K H) zs c
section
variable {X:Cx}
theorem Zgf {α:Type}{R:V -> α -> Prop}{T:Value -> α -> Prop}(h:∀y u c,RelV y u->R y c->T u c):∀{ys:List V}{us:List Value}{cs:List α},Vals ys us->Paired R ys cs->Paired T us cs
 |_,_,_,.nil,.nil=>.nil
 |_,_,_,.cons a b,.cons c d=>.cons (h _ _ _ a c) (Zgf h b d)
theorem Zy5 {pins:List (Addr × Obj)}{s:Shared}{U:St}{H:Hp}(I:Inv X pins U H s) {y:V}{u:Value}{r:List Int}(ru:RelV y u) (h:RowV X.K H y r):RowAt s.heap u r:=by
 obtain⟨b,rfl,hs⟩:=h;obtain⟨its,w1,p1,_⟩:=I.tuple hs;exact⟨b,its,ru,p1,Zck w1⟩
theorem Zva {pins:List (Addr × Obj)}{s:Shared}{U:St}{H:Hp}(I:Inv X pins U H s) {y:V}{u:Value}{c:List (List Int)}(ru:RelV y u) (h:CodeV X.K H y c):CodeAt s.heap u c:=by
 obtain⟨b,zs,rfl,hs,hp⟩:=h;obtain⟨its,w1,p1,_⟩:=I.tuple hs;exact⟨b,its,ru,p1,Zgf (R:=RowV X.K H) (T:=RowAt s.heap) (λy u c a b=>Zy5 I a b) w1 hp⟩
end
section
variable {K:W.Frag}{Z:Evt}{P:D->Evt->Prop}
theorem Zwa {G:Hp}{H:Hp}(hs:Same G H) {v:V}{r:List Int}(h:Rep K G v (rowD r)):RowV K H v r:=by
 obtain⟨a,vs,rfl,ha,rs⟩:=h.inv;have ev:=rs.ints;subst ev;exact⟨a,rfl,SqT.of<|hs _ _ ha⟩
theorem Zjv {G:Hp}{H:Hp}(hs:Same G H):∀{vs:List V}{c:List (List Int)},Reps K G vs (c.map rowD)->Paired (RowV K H) vs c
 |_,[],.nil=>.nil
 |_,r::c,.cons a b=>.cons (Zwa hs a) (Zjv hs b)
theorem Zh1 {G:Hp}{H:Hp}(hs:Same G H):∀{vs:List V}{cs:List (List<|List Int)},Reps K G vs (cs.map λc=>D.tup<|c.map rowD)->Paired (CodeV K H) vs cs
 |_,[],.nil=>.nil
 |_,c::cs,.cons a b=>by
  obtain⟨p,ws,rfl,ha,rs⟩:=a.inv;exact .cons ⟨p,ws,rfl,SqT.of<|hs _ _ ha,Zjv hs rs⟩<|Zh1 hs b
end
open PySem PySem.Spec PyProof.Rows PySem.SeqAt
section
variable {K:W.Frag}{Z:Evt}{P:D->Evt->Prop}
end
open PySem PySem.Spec PyProof.Rows PySem.SeqAt
section
variable {K:W.Frag}{Z:Evt}{P:D->Evt->Prop}
end
open PySem PySem.Spec PyProof.Rows PySem.SeqAt
open PySem PySem.Spec PyProof.Rows PySem.SeqAt
section
variable {X:Cx}
end
section
variable {prog:Program}{w:World}{A:Around}{E:Value->Shared->Prop}{s:Shared}
end
section
variable {K:W.Frag}{Z:Evt}{P:D->Evt->Prop}
end
open PySem PySem.Spec PyProof.Rows PySem.SeqAt
section
variable {prog:Program}{w:World}{A:Around}{E:Value->Shared->Prop}{s:Shared}
end
section
variable {K:W.Frag}{Z:Evt}
end
section
variable {K:W.Frag}{Z:Evt}{P:D->Evt->Prop}
end
section
variable {X:Cx}
end
def advM (m:Nat) (p:SetTable.Probe):SetTable.Probe:=
 if p.more > 0 then { p with j:=p.j+1,more:=p.more-1 } else
 let (i,perturb):=SetTable.leap m p.i p.perturb
 { p with j:=i,more:=SetTable.runEnd m i-i,i,perturb }
def prb (m:Nat) (h:Int):Nat->SetTable.Probe
 |0=>{ j:=SetTable.bits h % (m+1),more:=SetTable.runEnd m (SetTable.bits h % (m+1))-SetTable.bits h % (m+1),i:=SetTable.bits h % (m+1),perturb:=SetTable.bits h,dummy:=none }
 |n+1=>advM m (prb m h n)
def lp (m:Nat) (h:Int):Nat->Nat × Nat
 |0=>(SetTable.bits h % (m+1),SetTable.bits h)
 |k+1=>SetTable.leap m (lp m h k).1 (lp m h k).2
def runL (m i:Nat):Nat:=SetTable.runEnd m i-i
theorem Zpk (m i:Nat):runL m i<=9:=by unfold runL SetTable.runEnd;split <;> omega
theorem Zlj {m i r:Nat}(h:i<=m) (hr:r<=runL m i):i+r<=m:=by
 unfold runL SetTable.runEnd at hr;split at hr <;> omega
theorem Zuz (m:Nat) (h:Int):∀k,(lp m h k).1<=m
 |0=>Wck (Web _ (Nat.succ_pos m))
 |k+1=>Wck (Web _ (Nat.succ_pos m))
theorem Zgp {m:Nat}{h:Int}{n i q:Nat}(e:prb m h n=⟨i,runL m i,i,q,none⟩):∀r,r<=runL m i->prb m h (n+r)=⟨i+r,runL m i-r,i,q,none⟩
 |0,_=>e
 |r+1,hr=>by
  show advM m (prb m h<|n+r)=_;rw[Zgp e r (by omega)];unfold advM;rw[if_pos (show runL m i-r > 0 by omega)];rfl
theorem Zm8 (m:Nat) (h:Int):∀k,∃n,n<=10*k/\k<=n/\prb m h n=⟨(lp m h k).1,runL m (lp m h k).1,(lp m h k).1,(lp m h k).2,none⟩ /\ ∀n',n'<n->∃k' r,k'<k/\r<=runL m (lp m h k').1/\(prb m h n').j=(lp m h k').1+r
 |0=>⟨0,Wag _,Wag _,rfl,λn' h=>absurd h (Wcf _)⟩
 |k+1=>by
  obtain⟨n,h1,h0,h2,h3⟩:=Zm8 m h k;have h9:=Zpk m (lp m h k).1;refine⟨n+runL m (lp m h k).1+1,by omega,by omega,?_,λn' hn=>?_⟩
  ·show advM m (prb m h<|n+runL m (lp m h k).1)=_
   rw[Zgp h2 _ (Wag _)];unfold advM;rw[if_neg (show ¬ runL m (lp m h k).1-runL m (lp m h k).1 > 0 by omega)];rfl
  ·by_cases hc:n'<n
   ·obtain⟨k',r,a,b,c⟩:=h3 n' hc
    exact⟨k',r,by omega,b,c⟩
   ·refine⟨k,n'-n,by omega,by omega,?_⟩
    have:=Zgp h2 (n'-n) (by omega);rw[show n+(n'-n)=n' by omega]at this;rw[this]
theorem Zxm (m:Nat) (h:Int) (n:Nat):(prb m h n).j<=m:=by
 obtain⟨n2,_,a1,_,a3⟩:=Zm8 m h<|n+1;obtain⟨k',r,_,b,c⟩:=a3 n (by omega);rw[c];exact Zlj (Zuz m h k') b
def stp (m:Nat):Nat->Nat->Nat
 |0,i=>i
 |k+1,i=>(stp m k i*5+1) % (m+1)
def Cyc (m:Nat):Prop:=∀i j,i<=m->j<=m->∃k,k<=m/\stp m k i=j
theorem Zih (m:Nat) (a:Nat):∀b i,stp m (a+b) i=stp m b (stp m a i)
 |0,i=>rfl
 |b+1,i=>by show (stp m (a+b) i*5+1) % (m+1)=_;rw[Zih m a b i];rfl
theorem Zyl {m:Nat}(h1:stp m (m+1) 0=0) (h2:∀j,j<m+1->∃k,k<m+1/\stp m k 0=j):Cyc m:=by
 intro i j hi hj;obtain⟨a,ha,rfl⟩:=h2 i (by omega);obtain⟨b,hb,rfl⟩:=h2 j (by omega);by_cases c:a<=b
 ·exact⟨b-a,by omega,by rw[<- Zih,show a+(b-a)=b by omega]⟩
 ·refine⟨m+1-a+b,by omega,?_⟩
  rw[<- Zih,show a+(m+1-a+b)=(m+1)+b by omega,Zih,h1]
def orb (m:Nat):Nat->Nat->List Nat
 |0,_=>[]
 |f+1,i=>i::orb m f ((i*5+1) % (m+1))
theorem Zjp (m:Nat):∀k i,stp m (k+1) i=stp m k ((i*5+1) % (m+1))
 |0,i=>rfl
 |k+1,i=>by show (stp m (k+1) i*5+1) % (m+1)=_;rw[Zjp m k i];rfl
theorem Zp7 (m:Nat):∀f i j,j∈orb m f i->∃k,k<f/\stp m k i=j
 |0,i,j,h=>by cases h
 |f+1,i,j,h=>by
  rcases Wan.mp h with e|e
  ·exact⟨0,by omega,e.symm⟩
  ·obtain⟨k,a,b⟩:=Zp7 m f _ j e
   exact⟨k+1,by omega,by rw[Zjp];exact b⟩
def cycB (m:Nat):Bool:=stp m (m+1) 0 == 0 && (Wah<|m+1).all λj=>(orb m (m+1) 0).contains j
theorem Zr9 {m:Nat}(h:cycB m=true):Cyc m:=by
 unfold cycB at h;rw[Wbc]at h;refine Zyl (by simpa using h.1) λj hj=>?_;have:=Wcn.mp h.2 j<|Waq.mpr hj;exact Zp7 m _ _ j (by simpa using this)
theorem cyc7:Cyc 7:=Zr9 (by decide +kernel)
theorem cyc31:Cyc 31:=Zr9 (by decide +kernel)
theorem cyc127:Cyc 127:=Zr9 (by decide +kernel)
theorem cyc511:Cyc 511:=Zr9 (by decide +kernel)
theorem Zuv (m:Nat) (h:Int):∀k,(lp m h k).2=SetTable.bits h / 32 ^ k
 |0=>by show SetTable.bits h=_;rw[Nat.pow_zero,Nat.div_one]
 |k+1=>by show (lp m h k).2 / 32=_;rw[Zuv m h k,Nat.div_div_eq_div_mul,Nat.pow_succ]
theorem Zvl (h:Int):SetTable.bits h<2 ^ 64:=by
 unfold SetTable.bits;have h1:=Wct h (show (0:Int)<2 ^ 64 by decide);have h2:=Wc7 h (show (2 ^ 64:Int)≠0 by decide);have:((2:Int) ^ 64)=((2 ^ 64:Nat):Int):=by decide
 omega
theorem Zq6 (m:Nat) (h:Int):∀k,lp m h (13+k)=(stp m k (lp m h 13).1,0)
 |0=>by
  have e:=Zuv m h 13;have b:=Zvl h;rw[Nat.div_eq_of_lt (Wbf b<|by decide)]at e;show lp m h 13=((lp m h 13).1,0);rw[<- e]
 |k+1=>by
  show SetTable.leap m (lp m h (13+k)).1 (lp m h (13+k)).2=_;rw[Zq6 m h k];unfold SetTable.leap;show ((stp m k (lp m h 13).1*5+1+0 / 32) % (m+1),0 / 32)=_;rw[Nat.zero_div];rfl
theorem Zmu {m:Nat}(hc:Cyc m) (h:Int) {j:Nat}(hj:j<=m):∃k,k<=m+13/\(lp m h k).1=j:=by
 obtain⟨k,h1,h2⟩:=hc _ _ (Zuz m h 13) hj;exact⟨13+k,by omega,by rw[Zq6,h2]⟩
theorem Zps {m:Nat}(hc:Cyc m) (h:Int) {j:Nat}(hj:j<=m):∃n,n<10*(m+15)/\(prb m h n).j=j:=by
 obtain⟨k,h1,h2⟩:=Zmu hc h hj;obtain⟨n,a,_,b,_⟩:=Zm8 m h k;exact⟨n,by omega,by rw[b];exact h2⟩
def Rch (m:Nat) (pl:Nat->Prop) (h:Int) (j:Nat):Prop:=∃n,n<10*(m+15)/\(prb m h n).j=j/\∀n',n'<n->pl (prb m h n').j
theorem Rch.mono {m:Nat}{pl pl':Nat->Prop}{h:Int}{j:Nat}(r:Rch m pl h j) (i:∀x,pl x->pl' x):Rch m pl' h j:=
 let ⟨n,a,b,c⟩:=r; ⟨n,a,b,λn' hn=>i _<|c n' hn⟩
structure STb (t:SetTable) (hs:List Int):Prop where
 dm:t.dummies = #[]
 cy:Cyc t.mask
 rs:Ris t.place
 sz:t.place.size=hs.length
 le:∀(i j:Nat),t.place[i]?=some j->j<=t.mask
 rc:∀(i j:Nat) (h:Int),t.place[i]?=some j->hs[i]?=some h->Rch t.mask (λx=>∃y:Nat,t.place[y]?=some x) h j
 ro:t.place.size<t.mask
theorem Zt9 {xs:Array Nat}(R:Ris xs) {i j:Nat}(h:xs[i]?=some j):SetTable.below xs j=i:=by
 obtain⟨b1,b2,b3⟩:=Zec R j;have hi:=(Array.getElem?_eq_some_iff.mp h).1;rcases Weo (SetTable.below xs j) i with c|c|c
 ·have hb:SetTable.below xs j<xs.size:=by omega
  have e:=Array.getElem?_eq_getElem hb;have h1:=R _ _ _ _ c e h;have h2:=b3 _ _ (Wag _) e;omega
 ·exact c
 ·have:=b2 i j c h;omega
theorem Ze6 {t:SetTable}(R:Ris t.place) {i j:Nat}(h:t.place[i]?=some j):t.slot j=.live i:=by
 unfold SetTable.slot;dsimp only;rw[Zt9 R h,h];simp
theorem Zne {t:SetTable}(hd:t.dummies = #[]) {j:Nat}(h:∀i:Nat,t.place[i]?≠some j):t.slot j=.empty:=by
 unfold SetTable.slot;dsimp only;rw[if_neg (by simpa using h _),hd,Zjb];simp
theorem Zgx (m:Nat) (h:Int):∀n,(prb m h n).dummy=none
 |0=>rfl
 |n+1=>by
  show (advM m<|prb m h n).dummy=none;unfold advM;split
  ·exact Zgx m h n
  ·exact Zgx m h n
theorem Zo7 {t:SetTable}{hs:List Int}(T:STb t hs) {hashAt:Nat->Int}{h:Int}(hn:∀i,i<t.place.size->hashAt i≠h) {n0:Nat}(h0:∀i:Nat,t.place[i]?≠some (prb t.mask h n0).j) :
  ∀fuel n,n<=n0->n0<n+fuel->n0<10*(t.mask+15)->(∀n',n'<n->∃y:Nat,t.place[y]?=some (prb t.mask h n').j) ->
   ∃j,SetTable.probe.go t hashAt h fuel (prb t.mask h n)=some (.empty j none)/\j<=t.mask/\(∀i:Nat,t.place[i]?≠some j)/\Rch t.mask (λx=>∃y:Nat,t.place[y]?=some x) h j
 |0,n,h1,h2,_,_=>by omega
 |fuel+1,n,h1,h2,h3,h4=>by
  unfold SetTable.probe.go;by_cases c:∃i:Nat,t.place[i]?=some (prb t.mask h n).j
  ·obtain⟨i,hi⟩:=c
   rw[Ze6 T.rs hi];dsimp only;have his:=(Array.getElem?_eq_some_iff.mp hi).1;rw[if_neg (by simpa using hn i his)];have hne:n≠n0:=λe=>by subst e;exact h0 i hi
   exact Zo7 T hn h0 fuel (n+1) (by omega) (by omega) h3 λn' hn'=>by
    rcases Wb8 (Wck hn') with z|z
    ·exact h4 n' z
    ·subst z;exact⟨i,hi⟩
  ·have c':∀i:Nat,t.place[i]?≠some (prb t.mask h n).j:=λi z=>c ⟨i,z⟩
   rw[Zne T.dm c'];dsimp only;rw[Zgx];exact⟨_,rfl,Zxm _ _ _,c',n,by omega,rfl,h4⟩
theorem Zme {t:SetTable}{hs:List Int}(T:STb t hs) {hashAt:Nat->Int}{h:Int}{i0:Nat}(hi0:hashAt i0=h) (hn:∀i,i<t.place.size->hashAt i=h->i=i0) {n0:Nat}(h0:t.place[i0]?=some (prb t.mask h n0).j)
  (hb:∀n',n'<n0->∃y:Nat,t.place[y]?=some (prb t.mask h n').j):∀fuel n,n<=n0->n0<n+fuel->∃j nx,SetTable.probe.go t hashAt h fuel (prb t.mask h n)=some (.candidate j i0 nx)/\t.place[i0]?=some j
 |0,n,h1,h2=>by omega
 |fuel+1,n,h1,h2=>by
  unfold SetTable.probe.go;rcases Wb8 h1 with c|c
  ·obtain⟨i,hi⟩:=hb n c
   rw[Ze6 T.rs hi];dsimp only;have his:=(Array.getElem?_eq_some_iff.mp hi).1;by_cases q:hashAt i=h
   ·have:=hn i his q
    subst this;rw[if_pos (by simpa using q)];exact⟨_,_,rfl,hi⟩
   ·rw[if_neg (by simpa using q)]
    exact Zme T hi0 hn h0 hb fuel (n+1) (by omega) (by omega)
  ·subst c
   rw[Ze6 T.rs h0];dsimp only;rw[if_pos (by simpa using hi0)];exact⟨_,_,rfl,h0⟩
theorem Zrh:∀{ms l:List Nat},ms.Nodup->(∀x∈ms,x∈l)->ms.length<=l.length
 |[],_,_,_=>Wbn _
 |x::ms,l,h1,h2=>by
  rw[Wbu]at h1;have hx:=h2 x (by simp);have:=Zrh (ms:=ms) (l:=l.erase x) h1.2 λy hy=>(Wdp λz:y=x=>h1.1 (z ▸ hy)).mpr (h2 y (by simp[hy]));rw[Wdd hx]at this;have:=Wb9 hx;rw[Waj];omega
theorem Zqq {xs:Array Nat}{m:Nat}(h:xs.size<m):∃j,j<=m/\∀i:Nat,xs[i]?≠some j:=by
 refine Classical.byContradiction λhc=>?_;have all:∀j,j<=m->∃i:Nat,xs[i]?=some j:=λj hj=>Classical.byContradiction λz=>hc ⟨j,hj,λi e=>z ⟨i,e⟩⟩;have sub:(Wah<|m+1).length<=xs.toList.length:=Zrh Wdn λx hx=>by
  obtain⟨i,e⟩:=all x (by have:=Waq.mp hx;omega);exact Array.mem_toList_iff.mpr<|Array.mem_of_getElem? e
 rw[Waz,Array.length_toList]at sub;omega
theorem Zo6 {t:SetTable}{hs:List Int}(T:STb t hs) {hashAt:Nat->Int}{h:Int}(hn:∀i,i<t.place.size->hashAt i≠h) :
  ∃j,t.probe hashAt h (t.probeStart h)=some (.empty j none)/\j<=t.mask/\(∀i:Nat,t.place[i]?≠some j)/\Rch t.mask (λx=>∃y:Nat,t.place[y]?=some x) h j:=by
 obtain⟨j,h1,h2⟩:=Zqq T.ro;obtain⟨n,a,rfl⟩:=Zps T.cy h h1;exact Zo7 T hn h2 _ 0 (Wbn _) (by show n<0+10*SetTable.turns t.mask;unfold SetTable.turns;omega) a λn' h=>absurd h<|Wcf _
theorem Zlr {t:SetTable}{hs:List Int}(T:STb t hs) {hashAt:Nat->Int}{h:Int}{i0:Nat}(h0:hs[i0]?=some h) (ha:hashAt i0=h) (hn:∀i,i<t.place.size->hashAt i=h->i=i0) :
  ∃j nx,t.probe hashAt h (t.probeStart h)=some (.candidate j i0 nx)/\t.place[i0]?=some j:=by
 have hl:=(Waf.mp h0).1;rw[<- T.sz]at hl;have e:=Array.getElem?_eq_getElem hl;obtain⟨n,a,b,c⟩:=T.rc _ _ _ e h0;exact Zme T ha hn (by rw[b];exact e) c _ 0 (Wbn _) (by show n<0+10*SetTable.turns t.mask;unfold SetTable.turns;omega)
theorem Zt3 {α:Type}(l:List α) (p:Nat) (x:α) (h:p<=l.length) (i:Nat):(l.take p++x::l.drop p)[i]?=if i<p then l[i]? else if i=p then some x else l[i-1]?:=by
 by_cases h1:i<p
 ·rw[if_pos h1,Wbd (by rw[Wbm];omega),Wd3 h1]
 ·rw[if_neg h1,Wa2 (by rw[Wbm];omega),Wbm,Wd8 h]
  by_cases h2:i=p
  ·rw[if_pos h2,h2,Nat.sub_self];rfl
  ·rw[if_neg h2,show i-p=(i-1-p)+1 by omega,Wc0,Wdz,show p+(i-1-p)=i-1 by omega]
theorem Zqy {xs:Array Nat}{j:Nat}(hp:SetTable.below xs j<=xs.size) (y:Nat):(∃i:Nat,(SetTable.insertAt xs (SetTable.below xs j) j)[i]?=some y)↔y=j\/∃i:Nat,xs[i]?=some y:=by
 constructor
 ·rintro⟨i,e⟩
  rw[Zb1 _ _ _ hp]at e;split at e
  ·exact .inr ⟨_,e⟩
  ·split at e
   ·exact .inl (Wbs.inj e).symm
   ·exact .inr ⟨_,e⟩
 ·rintro(rfl|⟨i,e⟩)
  ·exact⟨SetTable.below xs y,by rw[Zb1 _ _ _ hp,if_neg (Wch _),if_pos rfl]⟩
  ·by_cases c:i<SetTable.below xs j
   ·exact⟨i,by rw[Zb1 _ _ _ hp,if_pos c];exact e⟩
   ·exact⟨i+1,by rw[Zb1 _ _ _ hp,if_neg (by omega),if_neg (by omega)];exact e⟩
theorem STb.put {t:SetTable}{hs:List Int}(T:STb t hs) {h:Int}{j:Nat}(hj:j<=t.mask) (hf:∀i:Nat,t.place[i]?≠some j) (hr:Rch t.mask (λx=>∃y:Nat,t.place[y]?=some x) h j) (hro:t.place.size+1<t.mask) :
  STb (t.put j).1 (hs.take (t.put j).2++h::hs.drop (t.put j).2)/\(t.put j).2<=hs.length:=by
 have hp:SetTable.below t.place j<=t.place.size:=(Zec T.rs j).1;have hd:(t.put j).1.dummies = #[]:=by
  show (if SetTable.has t.dummies j=true then _ else t.dummies) = #[];rw[T.dm,Zjb];rfl
 have hz:(SetTable.insertAt t.place (SetTable.below t.place j) j).size=t.place.size+1:=by
  rw[<- Array.length_toList,Zdi _ _ _ hp,Wai,Waj,Wbm,Wby,Array.length_toList];omega
 have hs1:=T.sz;have up:∀x,(∃y:Nat,t.place[y]?=some x)->∃y:Nat,(t.put j).1.place[y]?=some x:=λx hx=>(Zqy hp x).mpr (.inr hx);refine⟨⟨hd,T.cy,Zom T.rs<|hf _,?_,λi y e=>?_,λi y g e1 e2=>?_,?_⟩,by rw[<- hs1];exact hp⟩
 ·show (SetTable.insertAt t.place (SetTable.below t.place j) j).size=_
  rw[hz,Wai,Waj,Wbm,Wby];show _=min (SetTable.below t.place j) hs.length+(hs.length-SetTable.below t.place j+1);omega
 ·rcases(Zqy hp y).mp ⟨i,e⟩ with rfl|⟨i',e'⟩
  ·exact hj
  ·exact T.le i' y e'
 ·have e1:(SetTable.insertAt t.place (SetTable.below t.place j) j)[i]?=some y:=e1
  have e2:(hs.take (SetTable.below t.place j)++h::hs.drop (SetTable.below t.place j))[i]?=some g:=e2;rw[Zb1 _ _ _ hp]at e1;rw[Zt3 _ _ _ (by omega)]at e2;by_cases c1:i<SetTable.below t.place j
  ·rw[if_pos c1]at e1 e2
   exact(T.rc i y g e1 e2).mono up
  ·rw[if_neg c1]at e1 e2
   by_cases c2:i=SetTable.below t.place j
   ·rw[if_pos c2]at e1 e2
    cases e1;cases e2;exact hr.mono up
   ·rw[if_neg c2]at e1 e2
    exact(T.rc _ y g e1 e2).mono up
 ·show (SetTable.insertAt t.place (SetTable.below t.place j) j).size<t.mask
  rw[hz];exact hro
def fil (ow:Array (Option Nat)):Nat:=ow.toList.countP (·.isSome)
def Tkn (ow:Array (Option Nat)) (x:Nat):Prop:=∃q,ow[x]?=some (some q)
theorem Zl2 {m:Nat}{ow:Array (Option Nat)}{h:Int}(hz:ow.size=m+1) {k0:Nat}(h0:ow[(lp m h k0).1]?=some none) (hk0:k0<=m+13):∀fuel k,k<=k0->k0<k+fuel ->
  (∀k' r,k'<k->r<=runL m (lp m h k').1->Tkn ow ((lp m h k').1+r))->∃j,SetTable.layClean.free m ow fuel (lp m h k).1 (lp m h k).2=some j/\j<=m/\ow[j]?=some none/\Rch m (Tkn ow) h j
 |0,k,h1,h2,_=>by omega
 |fuel+1,k,h1,h2,hb=>by
  have hle:=Zuz m h k;have get:∀r,r<=runL m (lp m h k).1->((ow.getD ((lp m h k).1+r)<|some 0).isNone=true↔ow[(lp m h k).1+r]?=some none)/\(¬ (ow.getD ((lp m h k).1+r)<|some 0).isNone=true->Tkn ow ((lp m h k).1+r)):=λr hr=>by
   have hin:=Zlj hle hr;have hlt:(lp m h k).1+r<ow.size:=by omega
   have e:=Array.getElem?_eq_getElem hlt;rw[Array.getD_eq_getD_getElem?,e,Wek];constructor
   ·cases ow[(lp m h k).1+r] <;> simp
   ·intro z
    cases q:ow[(lp m h k).1+r] with
    |none=>rw[q]at z;exact absurd rfl z
    |some v=>exact⟨v,by rw[e,q]⟩
  have hlen:SetTable.runEnd m (lp m h k).1+1-(lp m h k).1=runL m (lp m h k).1+1:=by
   unfold runL SetTable.runEnd;split <;> omega
  obtain⟨n,n1,n2,n3,n4⟩:=Zm8 m h k;unfold SetTable.layClean.free;rw[hlen];cases q:(Wah<|runL m (lp m h k).1+1).find? λr=>(ow.getD ((lp m h k).1+r)<|some 0).isNone with
  |some r=>
   dsimp only;obtain⟨q1,q2,q3⟩:=List.find?_range_eq_some.mp q;have hr:r<=runL m (lp m h k).1:=by have:=Waq.mp q2;omega
   have hr9:=Zpk m (lp m h k).1;refine⟨_,rfl,Zlj hle hr,((get r hr).1).mp q1,n+r,by omega,by rw[Zgp n3 r hr],λn' hn'=>?_⟩;by_cases c:n'<n
   ·obtain⟨k',r',a,b,d⟩:=n4 n' c
    rw[d];exact hb k' r' a b
   ·have hr':n'-n<r:=by omega
    have e:=Zgp n3 (n'-n) (by omega);rw[show n+(n'-n)=n' by omega]at e;rw[e];exact(get _<|by omega).2 (by have z:=q3 (n'-n) hr';intro z';rw[z']at z;cases z)
  |none=>
   dsimp only;have hall:∀r,r<=runL m (lp m h k).1->Tkn ow ((lp m h k).1+r):=λr hr=>(get r hr).2 (by have z:=List.find?_range_eq_none.mp q r (by omega);intro z';rw[z']at z;cases z);have hne:k≠k0:=λe=>by
    subst e;obtain⟨v,hv⟩:=hall 0<|Wbn _;rw[Nat.add_zero,h0]at hv;cases hv
   refine Zl2 hz h0 hk0 fuel (k+1) (by omega) (by omega) λk' r hk hr=>?_;rcases Wb8 (Wck hk) with z|z
   ·exact hb k' r z hr
   ·subst z;exact hall r hr
structure Lai (m:Nat) (hs:List Int) (k:Nat) (ow:Array (Option Nat)):Prop where
 sz:ow.size=m+1
 cn:fil ow=k
 at_:∀(j q:Nat),ow[j]?=some (some q)->q<k/\∀h,hs[q]?=some h->Rch m (Tkn ow) h j
 ex:∀q,q<k->∃j:Nat,ow[j]?=some (some q)
 inj:∀(j j' q:Nat),ow[j]?=some (some q)->ow[j']?=some (some q)->j=j'
theorem Zvr (m:Nat) (hs:List Int):Lai m hs 0 (Array.replicate (m+1) none):=by
 have no:∀(j q:Nat),(Array.replicate (m+1) (none:Option Nat))[j]?≠some (some q):=λj q e=>by
  rw[Array.getElem?_replicate]at e;split at e <;> cases e
 refine⟨Array.size_replicate,?_,λj q e=>absurd e<|no j q,λq h=>absurd h<|Wcf _,λj _ q e=>absurd e<|no j q⟩;unfold fil;rw[Array.toList_replicate,List.countP_replicate];rfl
theorem Zto {m:Nat}{ow:Array (Option Nat)}(hz:ow.size=m+1) (h:fil ow<m+1):∃j,j<=m/\ow[j]?=some none:=by
 refine Classical.byContradiction λhc=>?_;have all:∀x∈ow.toList,x.isSome=true:=λx hx=>by
  obtain⟨i,hi⟩:=Wdq hx;rw[Array.getElem?_toList]at hi;cases x with
  |some v=>rfl
  |none=>exact absurd ⟨i,by have:=(Array.getElem?_eq_some_iff.mp hi).1;omega,hi⟩ hc
 have:=List.countP_eq_length.mpr all;unfold fil at h;rw[this,Array.length_toList]at h;omega
theorem Zow {l:List (Option Nat)}{j:Nat}(v:Nat) (h:l[j]?=some none):(l.set j<|some v).countP (·.isSome)=l.countP (·.isSome)+1:=by
 obtain⟨h1,h2⟩:=Waf.mp h;rw[List.countP_set h1,h2];simp
theorem Zs0 {m:Nat}{hs:List Int}{k:Nat}{ow:Array (Option Nat)}(L:Lai m hs k ow) (hc:Cyc m) (hk:k<=m) {h:Int}(hh:hs[k]?=some h) :
  ∃j,SetTable.layClean.free m ow (SetTable.turns m) (SetTable.bits h % (m+1)) (SetTable.bits h)=some j/\Lai m hs (k+1) (ow.setIfInBounds j<|some k):=by
 obtain⟨j0,h1,h2⟩:=Zto L.sz (by rw[L.cn];omega);obtain⟨k0,h3,h4⟩:=Zmu hc h h1;obtain⟨j,e1,e2,e3,e4⟩:=Zl2 L.sz (h:=h) (k0:=k0) (by rw[h4];exact h2) h3 (SetTable.turns m) 0 (Wbn _) (by unfold SetTable.turns;omega) λk' r h=>absurd h<|Wcf _;have hj:j<ow.size:=by rw[L.sz];omega
 have get:∀x:Nat,(ow.setIfInBounds j<|some k)[x]?=if j=x then some (some k) else ow[x]?:=λx=>by
  rw[Array.getElem?_setIfInBounds];by_cases c:j=x
  ·rw[if_pos c,if_pos c,if_pos (by omega)]
  ·rw[if_neg c,if_neg c]
 have up:∀x,Tkn ow x->Tkn (ow.setIfInBounds j<|some k) x:=λx ⟨q,hq⟩=>by
  by_cases c:j=x
  ·exact⟨k,by rw[get,if_pos c]⟩
  ·exact⟨q,by rw[get,if_neg c];exact hq⟩
 refine⟨j,e1,⟨by rw[Array.size_setIfInBounds];exact L.sz,?_,λx q e=>?_,λq hq=>?_,λx x' q a b=>?_⟩⟩
 ·unfold fil
  rw[Array.toList_setIfInBounds,Zow k (by rw[Array.getElem?_toList];exact e3)];have:=L.cn;unfold fil at this;omega
 ·rw[get]at e
  by_cases c:j=x
  ·rw[if_pos c]at e
   cases e;refine⟨by omega,λg hg=>?_⟩;rw[hh]at hg;cases hg;rw[<- c];exact e4.mono up
  ·rw[if_neg c]at e
   obtain⟨a,b⟩:=L.at_ x q e;exact⟨by omega,λg hg=>(b g hg).mono up⟩
 ·rcases Wb8 (Wck hq) with z|z
  ·obtain⟨x,hx⟩:=L.ex q z
   have c:j≠x:=λc=>by rw[<- c,e3]at hx;cases hx
   exact⟨x,by rw[get,if_neg c];exact hx⟩
  ·subst z
   exact⟨j,by rw[get,if_pos rfl]⟩
 ·rw[get]at a b
  by_cases c:j=x
  ·by_cases c':j=x'
   ·rw[<- c,c']
   ·rw[if_pos c]at a;rw[if_neg c']at b
    cases a;have:=(L.at_ _ _ b).1;omega
  ·by_cases c':j=x'
   ·rw[if_neg c]at a;rw[if_pos c']at b
    cases b;have:=(L.at_ _ _ a).1;omega
   ·rw[if_neg c]at a;rw[if_neg c']at b
    exact L.inj x x' q a b
def layStep (m:Nat) (acc:Option (Array (Option Nat) × Nat)) (h:Int):Option (Array (Option Nat) × Nat):=do
 let (owner,k) <- acc
 let j <- SetTable.layClean.free m owner (SetTable.turns m) (SetTable.bits h % (m+1)) (SetTable.bits h)
 pure (owner.setIfInBounds j<|some k,k+1)
theorem Zkx (m:Nat) (hs:Array Int):SetTable.layClean m hs=(hs.toList.foldl (layStep m)<|some (Array.replicate (m+1) none,0)).map (·.1):=by
 rw[Array.foldl_toList];rfl
theorem Zms {m:Nat}{hs:List Int}(hc:Cyc m) (hm:hs.length<=m):∀(rest:List Int) (k:Nat) (ow:Array (Option Nat)),Lai m hs k ow->hs.drop k=rest->k<=hs.length->∃ow',rest.foldl (layStep m) (some (ow,k))=some (ow',hs.length)/\Lai m hs hs.length ow'
 |[],k,ow,L,e,hk=>by
  have:k=hs.length:=by
   have:=congrArg Wbb e;rw[Wby,Wb6]at this;omega
  subst this;exact⟨ow,rfl,L⟩
 |h::rest,k,ow,L,e,hk=>by
  have hlt:k<hs.length:=by
   have:=congrArg Wbb e;rw[Wby,Waj]at this;omega
  have hh:hs[k]?=some h:=by
   have:=Wdz (xs:=hs) (i:=k) (j:=0);rw[e]at this;simpa using this.symm
  obtain⟨j,e1,L1⟩:=Zs0 L hc (by omega) hh;have es:layStep m (some (ow,k)) h=some (ow.setIfInBounds j<|some k,k+1):=by
   show (SetTable.layClean.free m ow (SetTable.turns m) (SetTable.bits h % (m+1))<|SetTable.bits h).bind (λj=>some (ow.setIfInBounds j<|some k,k+1))=_;rw[e1];rfl
  rw[List.foldl_cons,es];refine Zms hc hm rest (k+1) _ L1 ?_ (by omega);rw[<- List.drop_drop,e];rfl
def liveL (ow:Array (Option Nat)) (m:Nat):List (Nat × Nat):=(Wah<|m+1).filterMap λj=>(ow.getD j none).map (j,·)
theorem Zdn {m:Nat}{ow:Array (Option Nat)}(hz:ow.size=m+1) (j q:Nat):(j,q)∈liveL ow m↔ow[j]?=some (some q):=by
 unfold liveL;rw[Wef];constructor
 ·rintro⟨x,hx,e⟩
  have hx:=Waq.mp hx;have g:=Array.getElem?_eq_getElem (show x<ow.size by omega);rw[Array.getD_eq_getD_getElem?,g,Wek]at e;cases z:ow[x] with
  |none=>rw[z]at e;cases e
  |some v=>
   rw[z]at e;cases e;rw[g,z]
 ·intro e
  have hx:=(Array.getElem?_eq_some_iff.mp e).1;refine⟨j,Waq.mpr (by omega),?_⟩;rw[Array.getD_eq_getD_getElem?,e];rfl
theorem Zny (m:Nat) (ow:Array (Option Nat)):(liveL ow m).Pairwise λa b=>a.1<b.1:=by
 unfold liveL;rw[List.pairwise_filterMap];refine List.Pairwise.imp ?_ Wbj;intro a b hab c hc d hd;cases qa:ow.getD a none with
 |none=>rw[qa]at hc;cases hc
 |some k=>
  cases qb:ow.getD b none with
  |none=>rw[qb]at hd;cases hd
  |some l=>
   rw[qa]at hc;rw[qb]at hd;have hc:(a,k)=c:=by simpa using hc
   have hd:(b,l)=d:=by simpa using hd
   subst hc hd;exact hab
theorem Zqx {m:Nat}{hs:List Int}{k:Nat}{ow:Array (Option Nat)}(L:Lai m hs k ow):((liveL ow m).map (·.2)).Perm (Wah k):=by
 have nd:((liveL ow m).map (·.2)).Nodup:=by
  rw[Wda,Wbz];refine List.Pairwise.imp_of_mem ?_<|Zny m ow;intro a b ha hb hab e;obtain⟨j,q⟩:=a;obtain⟨j',q'⟩:=b;simp only at hab e;subst e;have:=L.inj _ _ _ ((Zdn L.sz _ _).mp ha) ((Zdn L.sz _ _).mp hb);omega
 refine(List.perm_ext_iff_of_nodup nd Wdn).mpr λq=>?_;rw[Wa1,Waq];constructor
 ·rintro⟨⟨j,q'⟩,h1,rfl⟩
  exact(L.at_ _ _ ((Zdn L.sz _ _).mp h1)).1
 ·intro h
  obtain⟨j,hj⟩:=L.ex q h;exact⟨(j,q),(Zdn L.sz _ _).mpr hj,rfl⟩
theorem Zmt {α:Type}{es:Array α}:∀(l:List Nat),(∀q∈l,q<es.size)->(l.filterMap (es[·]?)).length=l.length/\∀x:Nat,(l.filterMap (es[·]?))[x]?=(l[x]?).bind (es[·]?)
 |[],_=>⟨rfl,λx=>by simp⟩
 |q::l,h=>by
  obtain⟨i1,i2⟩:=Zmt l λx hx=>h x<|Waw _ hx;have e:=Array.getElem?_eq_getElem (h q<|by simp);rw[List.filterMap_cons_some e];refine⟨by rw[Waj,Waj,i1],λx=>?_⟩;cases x with
  |zero=>show some _=_;rw[<- e];rfl
  |succ x=>show (l.filterMap (es[·]?))[x]?=_;rw[i2];rfl
theorem Zt6 {α:Type}(es:Array α):(Wah es.size).filterMap (es[·]?)=es.toList:=by
 apply Wca;intro i;rw[(Zmt (es:=es) (Wah es.size) λq h=>Waq.mp h).2];by_cases c:i<es.size
 ·rw[Wb4 c,Array.getElem?_toList];rfl
 ·rw[Wbt (show (Wah es.size).length<=i by rw[Waz];omega),Wbt (show es.toList.length<=i by rw[Array.length_toList];omega)];rfl
theorem Zv5 {m fg mv:Nat}{ld pn:Bool}{hs:Array Int}(hc:Cyc m) (hm:hs.size<m):∃t' order,SetTable.laid m fg mv ld pn hs=some (t',order)/\t'.mask=m/\t'.led=ld/\t'.plain=pn/\STb t' (order.toList.filterMap (hs[·]?))/\order.toList.Perm (Wah hs.size):=by
 obtain⟨ow,e1,L⟩:=Zms (m:=m) (hs:=hs.toList) hc (by rw[Array.length_toList];omega) hs.toList 0 _ (Zvr m hs.toList) (by simp)<|Wbn _;rw[Array.length_toList]at e1 L;have e2:SetTable.layClean m hs=some ow:=by rw[Zkx,e1];rfl
 have pm:=Zqx L;refine⟨{ mask:=m,place:=((liveL ow m).map (·.1)).toArray,dummies:=#[],finger:=fg,led:=ld,moves:=mv,plain:=pn },((liveL ow m).map (·.2)).toArray,?_,rfl,rfl,rfl,?_,by simpa using pm⟩
 ·unfold SetTable.laid
  rw[e2];rfl
 have hq:∀q∈(liveL ow m).map (·.2),q<hs.size:=λq h=>Waq.mp ((pm.mem_iff).mp h);obtain⟨f1,f2⟩:=Zmt (es:=hs) _ hq;have hl:(liveL ow m).length=hs.size:=by have:=pm.length_eq;rwa [Wab,Waz]at this
 have pl:∀(i j:Nat),((liveL ow m).map (·.1)).toArray[i]?=some j->∃q,(liveL ow m)[i]?=some (j,q):=λi j e=>by
  rw[Wcr,Wae]at e;cases z:(liveL ow m)[i]? with
  |none=>rw[z]at e;cases e
  |some p=>rw[z]at e;obtain⟨a,b⟩:=p;cases e;exact⟨b,rfl⟩
 have tk:∀x,Tkn ow x->∃y:Nat,((liveL ow m).map (·.1)).toArray[y]?=some x:=λx ⟨q,hx⟩=>by
  obtain⟨y,hy⟩:=Wdq ((Zdn L.sz x q).mpr hx);exact⟨y,by rw[Wcr,Wae,hy];rfl⟩
 refine⟨rfl,hc,Zm1 ow<|m+1,?_,λi j e=>?_,λi j h e1 e2=>?_,?_⟩
 ·show ((liveL ow m).map (·.1)).toArray.size=_
  rw[War,Wab,f1,Wab]
 ·obtain⟨q,hq'⟩:=pl i j e
  have:=(Zdn L.sz _ _).mp (Wau hq');have:=(Array.getElem?_eq_some_iff.mp this).1;have hz:=L.sz;show j<=m;omega
 ·obtain⟨q,hq'⟩:=pl i j e1
  rw[f2,Wae,hq']at e2;have e2:hs[q]?=some h:=e2;have:=(L.at_ _ _ ((Zdn L.sz _ _).mp (Wau hq'))).2 h (by rw[Array.getElem?_toList];exact e2);exact this.mono tk
 ·show ((liveL ow m).map (·.1)).toArray.size<m
  rw[War,Wab,hl];exact hm
def hashP (k:Int × Int):Int:=reduceHash<|Builtin.Tuple.tupleHashOf [hashInt k.1,hashInt k.2]
def SmP (k:Int × Int):Prop:=0<=k.1/\k.1<64/\0<=k.2/\k.2<2
def allP:List (Int × Int):=(Wah 64).flatMap λi:Nat=>[((i:Int),0),((i:Int),1)]
theorem Zlx {k:Int × Int}(h:SmP k):k∈allP:=by
 obtain⟨h1,h2,h3,h4⟩:=h;unfold allP;rw[List.mem_flatMap];refine⟨k.1.toNat,Waq.mpr (by omega),?_⟩;have:k.2=0\/k.2=1:=by omega
 rcases this with e|e
 ·exact Wan.mpr (.inl<|Prod.ext (by show k.1=((k.1.toNat:Nat):Int);omega) e)
 ·exact Wan.mpr (.inr<|Wa4.mpr<|Prod.ext (by show k.1=((k.1.toNat:Nat):Int);omega) e)
def nodB:List Int->Bool
 |[]=>true
 |x::l=>l.all (λy=>y != x) && nodB l
theorem Zoz:∀{l:List Int},nodB l=true->l.Nodup
 |[],_=>Wdl
 |x::l,h=>by
  unfold nodB at h;rw[Wbc,Wcn]at h;exact Wbu.mpr ⟨λhx=>by have:=h.1 x hx;simp at this,Zoz h.2⟩
theorem Ztq:(allP.map hashP).Nodup:=Zoz (by decide +kernel)
theorem Zgo {α β:Type}{f:α -> β}:∀{l:List α},(l.map f).Nodup->∀{a b:α},a∈l->b∈l->f a=f b->a=b
 |[],_,a,b,ha,_,_=>by cases ha
 |x::l,h,a,b,ha,hb,e=>by
  rw[Wbe,Wbu]at h;rcases Wan.mp ha with ha|ha
  ·rcases Wan.mp hb with hb|hb
   ·rw[ha,hb]
   ·rw[ha]at e;exact absurd (e ▸ Wec hb) h.1
  ·rcases Wan.mp hb with hb|hb
   ·rw[hb]at e;exact absurd (e ▸ Wec ha) h.1
   ·exact Zgo h.2 ha hb e
theorem Zl6 {a b:Int × Int}(ha:SmP a) (hb:SmP b) (e:hashP a=hashP b):a=b:=Zgo Ztq (Zlx ha) (Zlx hb) e
def entP (hf:Int × Int->Int) (x:(Int × Int) × Addr):Int × Value:=(hf x.1,.ref x.2)
structure StG (hf:Int × Int->Int) (h:Heap) (a:Addr) (o:Obj) (es:Array (Int × Value)) (ep:Nat) (t:SetTable) (xs:List ((Int × Int) × Addr)):Prop where
 ob:h.get? a=some o
 ex:o.ExactSet
 da:o.data=.set es ep t
 el:es.toList.Perm (xs.map<|entP hf)
 tb:STb t (es.toList.map (·.1))
 nf:es.size*5<t.mask*3
 mks:t.mask=7\/t.mask=31\/t.mask=127\/t.mask=511
def PSt (hf:Int × Int->Int) (a:Addr) (xs:List ((Int × Int) × Addr)) (h:Heap):Prop:=∃o es ep t,StG hf h a o es ep t xs
theorem PSt.keep {hf:Int × Int->Int}{a:Addr}{xs:List ((Int × Int) × Addr)}{h h':Heap}(x:PSt hf a xs h) (k:∀o,h.get? a=some o->h'.get? a=some o):PSt hf a xs h':=by
 obtain⟨o,es,ep,t,g⟩:=x;exact⟨o,es,ep,t,k _ g.ob,g.ex,g.da,g.el,g.tb,g.nf,g.mks⟩
theorem StG.size {hf:Int × Int->Int}{h:Heap}{a:Addr}{o:Obj}{es:Array (Int × Value)}{ep:Nat}{t:SetTable}{xs:List ((Int × Int) × Addr)}(g:StG hf h a o es ep t xs):es.size=xs.length:=by
 have:=g.el.length_eq
 rwa [Array.length_toList,Wab]at this
theorem StG.psz {hf:Int × Int->Int}{h:Heap}{a:Addr}{o:Obj}{es:Array (Int × Value)}{ep:Nat}{t:SetTable}{xs:List ((Int × Int) × Addr)}(g:StG hf h a o es ep t xs):t.place.size=es.size:=by
 have:=g.tb.sz
 rwa [Wab,Array.length_toList]at this
theorem StG.fits {hf:Int × Int->Int}{h:Heap}{a:Addr}{o:Obj}{es:Array (Int × Value)}{ep:Nat}{t:SetTable}{xs:List ((Int × Int) × Addr)}(g:StG hf h a o es ep t xs):t.fits es.size=true:=by
 unfold SetTable.fits SetTable.fill;rw[g.tb.dm,g.psz];have:=g.tb.ro;rw[g.psz]at this;simp;omega
theorem StG.gave {hf:Int × Int->Int}{h:Heap}{a:Addr}{o:Obj}{es:Array (Int × Value)}{ep:Nat}{t:SetTable}{xs:List ((Int × Int) × Addr)}(g:StG hf h a o es ep t xs):t.gaveWay=false:=by
 unfold SetTable.gaveWay;rcases g.mks with e|e|e|e <;> rw[e] <;> rfl
section
variable {prog:Program}{w:World}{A:Around}{E:Value->Shared->Prop}{s:Shared}
abbrev IsP (prog:Program) (w:World) (h:Heap) (k:Int × Int) (a:Addr):Prop:=IsTupleKey (PySem.intKind prog w) h [k.1,k.2] a
theorem Zex {k:Int × Int}{a:Addr}{Q:Bool->Shared->Prop}(hk:IsP prog w s.heap k a) (h:Q false s):wpAny (model prog w) A (ofAClassStatement 8 (.ref a)) Q E s:=by
 have hT:=hk.typeIs;obtain⟨o,items,n,ho,_,hd,hi⟩:=hk;unfold ofAClassStatement;refine wpAny_bind<|wpAny_typeOf hT ?_;dsimp only;refine wpAny_bind<|wpAny_pure ?_;simp only[Wc9,Wav,↓reduceIte];refine wpAny_bind<|wpAny_seqItems ho hd ?_;dsimp only;refine wpAny_bind ?_;rw[<- Array.forIn_toList];refine wpAny_forIn_list _ (λrest (r:Option Bool × Unit) s'=>r.1=none/\s'=s/\∀v∈rest,carriedByValue v=true) _ ?_ ?_ _ _ ⟨rfl,rfl,hi.byValue⟩
 ·rintro v rest r s' ⟨hr,rfl,hall⟩
  have e:ofAClassStatement 7 v=pure false:=by
   have:=hall v Wa7;cases v with
   |ref a=>simp[carriedByValue]at this
   |_=>rfl
  rw[e];refine wpAny_bind<|wpAny_pure ?_;simp only[Wav,if_false];exact wpAny_pure ⟨rfl,rfl,λu hu'=>hall u<|Waw _ hu'⟩
 ·rintro⟨r1,r2⟩ s' ⟨hr,rfl,_⟩
  simp only at hr;subst hr;exact wpAny_pure h
theorem noneSeen {b:Addr}{k:Int × Int}(hk:IsP prog w s.heap k b):∀(ys:List Value) {Q:Bool->Shared->Prop},(∀y∈ys,∃k' c,y=.ref c/\IsP prog w s.heap k' c)->Q false s->wpAny (model prog w) A (searchCouldBeSeen (.ref b) ys) Q E s:=by
 intro ys Q hy h;unfold searchCouldBeSeen;refine wpAny_bind ?_;refine wpAny_forIn_list _ (λrest (r:Option Bool × Unit) s'=>r.1=none/\s'=s/\∀y∈rest,∃k' c,y=.ref c/\IsP prog w s.heap k' c) _ ?_ ?_ _ _ ⟨rfl,rfl,hy⟩
 ·rintro v rest r s' ⟨hr,rfl,hall⟩
  obtain⟨k',c,rfl,hk'⟩:=hall v Wa7;dsimp only;split
  ·exact wpAny_pure ⟨rfl,rfl,λu hu'=>hall u<|Waw _ hu'⟩
  ·refine wpAny_bind (wpAny_eqIsQuiet_tuple hk ?_)
   simp only[Wc9,Wav,↓reduceIte];refine wpAny_bind<|wpAny_eqIsQuiet_tuple hk' ?_;simp only[Wc9,Wav,↓reduceIte];refine wpAny_bind<|Zex hk ?_;simp only[Wav,↓reduceIte];refine wpAny_bind<|Zex hk' ?_;simp only[Wav,↓reduceIte];exact wpAny_pure ⟨rfl,rfl,λu hu'=>hall u<|Waw _ hu'⟩
 ·rintro⟨r1,r2⟩ s' ⟨hr,rfl,_⟩
  simp only at hr;subst hr;exact wpAny_pure h
theorem nodH {hf:Int × Int->Int}(hfi:∀{a b:Int × Int},SmP a->SmP b->hf a=hf b->a=b):∀{xs:List ((Int × Int) × Addr)},(xs.map (·.1)).Nodup->(∀x∈xs,SmP x.1)->(xs.map ((·.1)∘entP hf)).Nodup
 |[],_,_=>Wdl
 |x::xs,h,hs=>by
  rw[Wbe,Wbu]at h ⊢;refine⟨λhx=>?_,nodH hfi h.2 λy hy=>hs y<|Waw _ hy⟩;obtain⟨y,hy,e⟩:=Wa1.mp hx;exact h.1<|Wa1.mpr ⟨y,hy,hfi (hs y<|Waw _ hy) (hs x<|by simp) e⟩
theorem Zh4 {hf:Int × Int->Int}(hfi:∀{a b:Int × Int},SmP a->SmP b->hf a=hf b->a=b) {adding:Bool}{a b:Addr}{o:Obj}{es:Array (Int × Value)}{ep:Nat}{t:SetTable}{xs:List ((Int × Int) × Addr)}{k:Int × Int}{Q:SetFound->Shared->Prop}(hu:A.units<cLine) (g:StG hf s.heap a o es ep t xs)
  (hm:∀x∈xs,SmP x.1/\IsP prog w s.heap x.1 x.2) (nd:(xs.map (·.1)).Nodup) (hk:SmP k) (hkb:IsP prog w s.heap k b)
  (hin:k∈xs.map (·.1)->∀i:Option Nat,(adding=false->i.isSome=true)->Q (.there i) s)
  (hout:k ∉ xs.map (·.1)->∀j,j<=t.mask->(∀i:Nat,t.place[i]?≠some j)->Rch t.mask (λx=>∃y:Nat,t.place[y]?=some x) (hf k) j->Q (.free j false) s) :
  wpAny (model prog w) A (setSearch a (.ref b) (hf k) adding) Q E s:=by
 unfold setSearch setSearchFrom;refine wpAny_bind<|wpAny_setState_of g.ob g.da g.fits ?_;dsimp only;rw[g.gave];simp only[Wav,↓reduceIte,Wel];have ent:∀(i:Nat) (e:Int × Value),es[i]?=some e->∃x∈xs,e=entP hf x:=λi e he=>by
  have:e∈xs.map (entP hf):=g.el.mem_iff.mp (by rw[Array.mem_toList_iff];exact Array.mem_of_getElem? he);obtain⟨x,hx,rfl⟩:=Wa1.mp this;exact⟨x,hx,rfl⟩
 by_cases c:k∈xs.map (·.1)
 ·obtain⟨x0,hx0,rfl⟩:=Wa1.mp c
  have:entP hf x0∈es.toList:=g.el.mem_iff.mpr<|Wec hx0;obtain⟨i0,hi0⟩:=Wdq this;have hi1:es[i0]?=some (hf x0.1,Value.ref x0.2):=by rw[<- Array.getElem?_toList];exact hi0
  have hn:∀i,i<t.place.size->(es[i]?.map (·.1)).getD 0=hf x0.1->i=i0:=λi hi e=>by
   rw[g.psz]at hi;have he:=Array.getElem?_eq_getElem hi;obtain⟨x,hx,ex⟩:=ent _ _ he;rw[he]at e;have e:es[i].1=hf x0.1:=e;rw[ex]at e;have e2:=hfi (hm x hx).1 hk e;have nd2:(es.toList.map (·.1)).Nodup:=by
    have p:=g.el.map (·.1);refine p.nodup_iff.mpr ?_;rw[Wa6];exact nodH hfi nd λy hy=>(hm y hy).1
   have h1:(es.toList.map (·.1))[i]?=some (hf x0.1):=by rw[Wae,Array.getElem?_toList,he,ex,<- e2];rfl
   have h2:(es.toList.map (·.1))[i0]?=some (hf x0.1):=by rw[Wae,hi0];rfl
   obtain⟨l1,v1⟩:=Waf.mp h1;obtain⟨l2,v2⟩:=Waf.mp h2;exact(Wdo nd2).mp (v1.trans v2.symm)
  obtain⟨j,nx,e1,e2⟩:=Zlr g.tb (h:=hf x0.1) (i0:=i0) (by rw[Wae,hi0];rfl) (hashAt:=λi=>(es[i]?.map (·.1)).getD 0) (by show (es[i0]?.map (·.1)).getD 0=_;rw[hi1];rfl) hn;have hs:=Ze6 g.tb.rs e2;generalize hp:t.probe _ (hf x0.1) (t.probeStart<|hf x0.1)=r;obtain rfl:r=some (.candidate j i0 nx):=hp.symm.trans e1;dsimp only;have seen:∀y∈((es.filter λx=>x.1 == hf x0.1).toList.map (·.2)),∃k' c,y=Value.ref c/\IsP prog w s.heap k' c:=λy hy=>by
   obtain⟨e,he,rfl⟩:=Wa1.mp hy;have he:e∈es.toList:=by
    rw[Array.toList_filter]at he;exact(Wa5.mp he).1
   obtain⟨x,hx,rfl⟩:=Wa1.mp<|g.el.mem_iff.mp he;exact⟨x.1,x.2,rfl,(hm x hx).2⟩
  have hx2:=(hm x0 hx0).2;have same:t.sameMemory t.moves t.mask=some true:=by unfold SetTable.sameMemory;rw[if_pos (by simp)]
  rw[hi1];dsimp only;by_cases hl:t.led=true
  ·rw[hl]
   simp only[Wc9,Wav,↓reduceIte];refine wpAny_bind<|wpAny_holding<|wpAny_eqBool_tuple hu hx2 hkb ?_;refine wpAny_bind<|wpAny_setState_of g.ob g.da g.fits ?_;dsimp only;rw[same,decide_eq_true rfl];cases adding
   ·simp only[Wci,Wav,↓reduceIte]
    rw[hs];dsimp only;rw[hi1];dsimp only;refine wpAny_bind<|wpAny_isSame_ref_self ?_;refine wpAny_bind<|wpAny_pure ?_;simp only[↓reduceIte];exact wpAny_pure (hin c _ λ_=>rfl)
   ·simp only[Bool.and_self,↓reduceIte]
    exact wpAny_pure (hin c _ λz=>Bool.noConfusion z)
  ·rw[Wb0.mpr hl]
   simp only[Wd1,↓reduceIte];refine wpAny_bind<|noneSeen hkb _ seen ?_;simp only[Wav,↓reduceIte];refine wpAny_bind<|wpAny_holding<|wpAny_eqBool_tuple hu hx2 hkb ?_;refine wpAny_bind<|wpAny_setState_of g.ob g.da g.fits ?_;dsimp only;rw[same,decide_eq_true rfl];cases adding
   ·simp only[Wci,Wav,↓reduceIte]
    rw[hs];dsimp only;rw[hi1];dsimp only;refine wpAny_bind<|wpAny_isSame_ref_self ?_;refine wpAny_bind<|wpAny_pure ?_;simp only[↓reduceIte];exact wpAny_pure (hin c _ λ_=>rfl)
   ·simp only[Bool.and_self,↓reduceIte]
    exact wpAny_pure (hin c _ λz=>Bool.noConfusion z)
 ·have hn:∀i,i<t.place.size->(es[i]?.map (·.1)).getD 0≠hf k:=λi hi e=>by
   rw[g.psz]at hi;have he:=Array.getElem?_eq_getElem hi;obtain⟨x,hx,ex⟩:=ent _ _ he;rw[he]at e;have e:es[i].1=hf k:=e;rw[ex]at e;exact c<|Wa1.mpr ⟨x,hx,hfi (hm x hx).1 hk e⟩
  obtain⟨j,e1,e2,e3,e4⟩:=Zo6 g.tb hn;generalize hp:t.probe _ (hf k) (t.probeStart<|hf k)=r;obtain rfl:r=some (.empty j none):=hp.symm.trans e1;exact wpAny_pure<|hout c j e2 e3 e4
theorem noScan {b:Addr}(es:Array (Int × Value)):byScan (.ref b) es=false:=rfl
variable {hf:Int × Int->Int}(hfi:∀{a b:Int × Int},SmP a->SmP b->hf a=hf b->a=b)
include hfi
theorem Zr3 {a b:Addr}{xs:List ((Int × Int) × Addr)}{k:Int × Int}{Q:Option Nat->Shared->Prop}(hu:A.units<cLine) (g:PSt hf a xs s.heap)
  (hm:∀x∈xs,SmP x.1/\IsP prog w s.heap x.1 x.2) (nd:(xs.map (·.1)).Nodup) (hk:SmP k) (hkb:IsP prog w s.heap k b)
  (h:∀r:Option Nat,r.isSome=decide (k∈xs.map (·.1))->Q r s):wpAny (model prog w) A (setFind a (.ref b)<|hf k) Q E s:=by
 obtain⟨o,es,ep,t,g⟩:=g;unfold setFind setFindIn;refine wpAny_bind<|wpAny_setState_of g.ob g.da g.fits ?_;dsimp only;rw[noScan];simp only[Wav,↓reduceIte];refine wpAny_bind (Zh4 hfi hu g hm nd hk hkb (λc i hi=>?_) λc j _ _ _=>?_)
 ·exact wpAny_pure<|h i (by rw[decide_eq_true c];exact hi rfl)
 ·exact wpAny_pure<|h none (by rw[decide_eq_false c];rfl)
theorem PSt.typeIs {a:Addr}{xs:List ((Int × Int) × Addr)}(g:PSt hf a xs s.heap):s.TypeIs (.ref a) "set":=let ⟨o,_,_,_,g⟩:=g; ⟨o,g.ob,g.ex.1⟩
theorem Zmp {k:Int × Int}{b:Addr}(hfe:∀(k:Int × Int),tupleKeyHash (PySem.intKind prog w) [k.1,k.2]=hf k) {Q:Int->Shared->Prop}(hu:A.units<cLine) (hkb:IsP prog w s.heap k b) (h:Q (hf k) { s with toks:=s.toks+3 }):wpAny (model prog w) A (pyHash (.ref b)) Q E s:=
 wpAny_pyHash_tuple hu hkb (by rw[hfe];exact h)
theorem Zjq {a b:Addr}{xs:List ((Int × Int) × Addr)}{k:Int × Int}(hfe:∀(k:Int × Int),tupleKeyHash (PySem.intKind prog w) [k.1,k.2]=hf k) {Q:Bool->Shared->Prop}(hu:A.units+1<cLine) (g:PSt hf a xs s.heap)
  (hm:∀x∈xs,SmP x.1/\IsP prog w s.heap x.1 x.2) (nd:(xs.map (·.1)).Nodup) (hk:SmP k) (hkb:IsP prog w s.heap k b)
  (h:Q (decide<|k∈xs.map (·.1)) { s with toks:=s.toks+3 }):wpAny (model prog w) A (contains (.ref a) (.ref b)) Q E s:=by
 unfold contains
 try with_reducible refine wpAny_holding ?_
 have hT:=g.typeIs hfi;refine wpAny_bind (wpAny_specialOf hT F.slot_set_contains.lookup ?_);show wpAny _ _ (if (some (Value.builtin "set.__contains__") == some Value.none)=true then _ else _) _ E s;rw[if_neg (by rw[beq_builtin_none];exact Wal)];refine wpAny_bind (wpAny_callSpecialUnlessNone?_slot (name:=Str.ofString "__contains__") hT F.slot_set_contains
  (wpAny_call_entry F.slot_set_contains hT entry_set_contains ?_ (F.args_set_contains_2 _ _)))
 unfold Builtin.«frozenset.__contains__» Builtin.Frozenset.oneOther;simp only[Wer,bind_assoc];unfold Builtin.Frozenset.addrOf Builtin.Frozenset.withSetAsKey setContains;refine wpAny_bind<|wpAny_pure ?_
 try dsimp only
 refine wpAny_bind<|wpAny_pure ?_
 try dsimp only
 refine wpAny_bind<|wpAny_tryCatch ?_;refine wpAny_holding ?_;refine wpAny_bind<|Zmp hfi hfe ?_ hkb ?_
 ·exact hu
 refine wpAny_bind (Zr3 hfi ?_ (s:={ s with toks:=s.toks+3 }) g hm nd hk hkb λr hr=>?_)
 ·exact hu
 refine wpAny_pure ?_;show wpAny _ _ (ret<|Value.bool r.isSome) _ _ _;rw[hr];exact wpAny_pure ⟨_,rfl,wpAny_truthy_bool h⟩
theorem Zrp {a b:Addr}{xs:List ((Int × Int) × Addr)}{k:Int × Int}(hfe:∀(k:Int × Int),tupleKeyHash (PySem.intKind prog w) [k.1,k.2]=hf k) {Q:Value->Shared->Prop}(hu:A.units+1<cLine) (g:PSt hf a xs s.heap)
  (hm:∀x∈xs,SmP x.1/\IsP prog w s.heap x.1 x.2) (nd:(xs.map (·.1)).Nodup) (hk:SmP k) (hkb:IsP prog w s.heap k b)
  (h:Q (.bool (!decide (k∈xs.map (·.1)))) { s with toks:=s.toks+3 }):wpAny (model prog w) A (compareOp .NotIn (.ref b) (.ref a)) Q E s:=by
 show wpAny _ _ (do return .bool (!(<- contains (.ref a) (.ref b)))) Q E s;exact wpAny_bind<|Zjq hfi hfe hu g hm nd hk hkb<|wpAny_pure h
omit hfi in
theorem Zlh {k:Int × Int}{a:Addr}{Q:Bool->Shared->Prop}(hk:IsP prog w s.heap k a) (h:Q true s):wpAny (model prog w) A (hashByValue 8 (.ref a)) Q E s:=by
 have hT:=hk.typeIs;obtain⟨o,items,n,ho,_,hd,hi⟩:=hk;unfold hashByValue;refine wpAny_bind<|wpAny_specialOf hT F.slot_tuple_hash.lookup ?_;dsimp only;refine wpAny_bind<|wpAny_seqItems ho hd ?_;rw[Wek];refine wpAny_bind ?_;rw[<- Array.forIn_toList];refine wpAny_forIn_list _ (λrest (r:Option Bool × Unit) s'=>r.1=none/\s'=s/\∃ks,ItemsAre (PySem.intKind prog w) ks rest) _ ?_ ?_ _ _ ⟨rfl,rfl,_,hi⟩
 ·rintro v rest r s' ⟨hr,rfl,ks,hall⟩
  cases hall with
  |cons h1 h2=>
   obtain⟨t,rfl⟩:=Value.isInt_shape h1;unfold hashByValue;refine wpAny_bind<|wpAny_pure ?_;simp only[Wc9,Wav,if_false];exact wpAny_pure ⟨rfl,rfl,_,h2⟩
 ·rintro⟨r1,r2⟩ s' ⟨hr,rfl,_⟩
  simp only at hr;subst hr;exact wpAny_pure h
omit hfi in
theorem Zln (a:Addr) (wanted:Nat):setRelay a wanted=(do
  let (es,_,t) <- setState a
  if SetTable.sizeAbove wanted > sizeLine then unsupported "set:memory"
  let (es,t) <- (do
   let some (t,order):=t.relaid (es.map (·.1)) wanted|unsupported "internal:set-table-without-room"
   let es':=order.filterMap (es[·]?)
   if es'.size != es.size then unsupported "internal:set-table-lost-an-element"
   pure (es',t))
  storeSet a es t):=rfl
omit hfi in
theorem StG.store {h:Heap}{a:Addr}{o:Obj}{es:Array (Int × Value)}{ep:Nat}{t:SetTable}(ho:h.get? a=some o) (hx:o.ExactSet) (hd:o.data=.set es ep t) (es':Array (Int × Value)) (t':SetTable) :
  (h.update a<|Obj.putSet es' t').get? a=some { o with data:=.set es' (ep+1) t' }:=by
 have:=Wce (Obj.putSet es' t') ho (by rw[putSet_of es' t' hd];rfl);rw[putSet_of es' t' hd]at this;exact this
theorem Zr8 {a b:Addr}{o:Obj}{es:Array (Int × Value)}{ep:Nat}{t:SetTable}{xs:List ((Int × Int) × Addr)}{k:Int × Int}{Q:Bool->Shared->Prop}(g:StG hf s.heap a o es ep t xs) (hb:xs.length<=200)
  {j:Nat}(j1:j<=t.mask) (j2:∀i:Nat,t.place[i]?≠some j) (j3:Rch t.mask (λx=>∃y:Nat,t.place[y]?=some x) (hf k) j)
  (h:∀h',Heap.SameBut a s.heap h' -> PSt hf a (xs++[(k,b)]) h' -> Q true { s with heap:=h' }) :
  wpAny (model prog w) A (do
   storeSet a (SetTable.insertAt es (t.put j).2 (hf k,Value.ref b)) (t.put j).1
   if (!false && (t.put j).1.tooFull)=true then do
    setRelay a (SetTable.grown<|es.size+1)
    pure true
   else pure true) Q E s:=by
 have hsz:=g.size;have hps:=g.psz;have hnf:=g.nf;have hmk:=g.mks;obtain⟨T,hp⟩:=g.tb.put j1 j2 j3 (by omega);rw[Wab,Array.length_toList]at hp;obtain⟨p,ep'⟩:∃p,(t.put j).2=p:=⟨_,rfl⟩;obtain⟨t1,et⟩:∃t1,(t.put j).1=t1:=⟨_,rfl⟩;have em:t1.mask=t.mask:=by rw[<- et];rfl
 rw[ep',et]at T ⊢;rw[ep']at hp;obtain⟨es1,ee⟩:∃es1,SetTable.insertAt es p (hf k,Value.ref b)=es1:=⟨_,rfl⟩;have hl1:es1.toList=es.toList.take p++(hf k,Value.ref b)::es.toList.drop p:=by rw[<- ee];exact Zdi _ _ _ hp
 have T1:STb t1 (es1.toList.map (·.1)):=by
  rw[hl1,Was,Wbe,Weg,Wej];exact T
 have el1:es1.toList.Perm ((xs++[(k,b)]).map (entP hf)):=by
  rw[hl1,Was];refine List.perm_middle.trans ?_;rw[Wdm];exact(List.perm_append_comm (l₁:=[_]) (l₂:=es.toList)).trans (g.el.append<|List.Perm.refl _)
 have z1:es1.size=es.size+1:=by
  rw[<- Array.length_toList,hl1,Wai,Waj,Wbm,Wby,Array.length_toList];omega
 have pz1:t1.place.size=es1.size:=by have:=T1.sz;rwa [Wab,Array.length_toList]at this
 have f1:t1.fits es1.size=true:=by
  unfold SetTable.fits SetTable.fill;rw[T1.dm,pz1];have:=T1.ro;rw[pz1]at this;simp;omega
 rw[ee];refine wpAny_bind<|wpAny_storeSet_of g.ob g.da ?_ (by rw[z1,sizeLine_eq];omega);have ho1:=StG.store g.ob g.ex g.da es1 t1;have sb:=Heap.SameBut.update s.heap a<|Obj.putSet es1 t1;by_cases c:t1.tooFull=true
 ·rw[c]
  simp only[Wd1,Bool.and_self,↓reduceIte];have c':(t1.place.size+t1.dummies.size)*5 >= t1.mask*3:=by simpa [SetTable.tooFull,SetTable.fill] using c
  rw[T1.dm,pz1,z1,em]at c';have c':(es.size+1+0)*5 >= t.mask*3:=c';obtain⟨M,e1,e2,e3,e4⟩:∃M,SetTable.sizeAbove (SetTable.grown<|es.size+1)-1=M/\Cyc M/\(M=7\/M=31\/M=127\/M=511)/\(es.size+1)*5<M*3/\SetTable.sizeAbove (SetTable.grown<|es.size+1)<=sizeLine:=by
   rcases hmk with m|m|m|m
   ·obtain e:es.size+1=5:=by omega
    rw[e];exact⟨31,by decide,cyc31,.inr (.inl rfl),by decide,by decide⟩
   ·obtain e:es.size+1=19:=by omega
    rw[e];exact⟨127,by decide,cyc127,.inr (.inr (.inl rfl)),by decide,by decide⟩
   ·obtain e:es.size+1=77:=by omega
    rw[e];exact⟨511,by decide,cyc511,.inr (.inr (.inr rfl)),by decide,by decide⟩
   ·omega
  rw[Zln];refine wpAny_bind<|wpAny_bind<|wpAny_setState_of ho1 rfl f1 ?_;dsimp only;rw[if_neg (by omega)];obtain⟨t2,order,q1,q2,q3,q4,T2,pm⟩:=Zv5 (m:=M) (fg:=t1.finger) (mv:=t1.movedTo M) (ld:=t1.led) (pn:=t1.plain) (hs:=es1.map (·.1)) e2 (by rw[Array.size_map,z1];omega);have q:t1.relaid (es1.map (·.1)) (SetTable.grown<|es.size+1)=some (t2,order):=by
   unfold SetTable.relaid;rw[e1];exact q1
  rw[q];dsimp only;rw[Array.size_map]at pm;have hq:∀x∈order.toList,x<es1.size:=λx hx=>Waq.mp<|pm.mem_iff.mp hx;obtain⟨f2,f3⟩:=Zmt (es:=es1) order.toList hq;have ol:order.toList.length=es1.size:=by have:=pm.length_eq;rwa [Waz]at this
  have fl:(order.filterMap (es1[·]?)).toList=order.toList.filterMap (es1[·]?):=Array.toList_filterMap;have z2:(order.filterMap (es1[·]?)).size=es1.size:=by rw[<- Array.length_toList,fl,f2,ol]
  have el2:(order.filterMap (es1[·]?)).toList.Perm ((xs++[(k,b)]).map (entP hf)):=by
   rw[fl];refine(pm.filterMap _).trans ?_;rw[Zt6];exact el1
  have T2':STb t2 ((order.filterMap (es1[·]?)).toList.map (·.1)):=by
   have:(order.filterMap (es1[·]?)).toList.map (·.1)=order.toList.filterMap ((es1.map (·.1))[·]?):=by
    rw[fl,List.map_filterMap];congr 1
    funext x
    rw[Array.getElem?_map]
   rw[this];exact T2
  rw[if_neg (by rw[z2];simp)];refine wpAny_bind<|wpAny_pure ?_;dsimp only;refine wpAny_storeSet_of ho1 rfl ?_ (by rw[z2,z1,sizeLine_eq];omega);refine wpAny_pure<|h _ (sb.trans<|Heap.SameBut.update _ a _) ⟨_,_,_,t2,StG.store ho1 g.ex rfl _ t2,g.ex,rfl,el2,T2',?_,by rw[q2];exact e3⟩;rw[z2,z1,q2];exact e4.1
 ·rw[Wb0.mpr c]
  simp only[Wcv,Wav,↓reduceIte];refine wpAny_pure<|h _ sb ⟨_,es1,ep+1,t1,ho1,g.ex,rfl,el1,T1,?_,by rw[em];exact hmk⟩;have c':¬ (t1.place.size+t1.dummies.size)*5 >= t1.mask*3:=by simpa [SetTable.tooFull,SetTable.fill] using c
  rw[T1.dm,pz1]at c';have c':¬ (es1.size+0)*5 >= t1.mask*3:=c';omega
theorem Zh8 {a b:Addr}{xs:List ((Int × Int) × Addr)}{k:Int × Int}{Q:Bool->Shared->Prop}(hu:A.units<cLine) (g:PSt hf a xs s.heap)
  (hm:∀x∈xs,SmP x.1/\IsP prog w s.heap x.1 x.2) (nd:(xs.map (·.1)).Nodup) (hk:SmP k) (hkb:IsP prog w s.heap k b) (hb:xs.length<=200)
  (h:∀(r:Bool) h',Heap.SameBut a s.heap h' -> PSt hf a (if k∈xs.map (·.1) then xs else xs++[(k,b)]) h' -> Q r { s with heap:=h' }) :
  wpAny (model prog w) A (setAddHashed a (.ref b)<|hf k) Q E s:=by
 obtain⟨o,es,ep,t,g⟩:=g;unfold setAddHashed setAddHashedIn;refine wpAny_holding ?_;refine wpAny_bind<|wpAny_setState_of g.ob g.da g.fits ?_;dsimp only;rw[noScan];simp only[Wav,↓reduceIte];refine wpAny_bind (Zh4 hfi hu g hm nd hk hkb (λc i hi=>?_) λc j j1 j2 j3=>?_)
 ·dsimp only
  have:=h false s.heap<|Heap.SameBut.refl _ _;rw[if_pos c]at this;exact wpAny_pure (this ⟨o,es,ep,t,g⟩)
 ·dsimp only
  refine wpAny_bind (wpAny_setState_of g.ob g.da g.fits ?_);dsimp only;have tail:wpAny (model prog w) A (do
   storeSet a (SetTable.insertAt es (t.put j).2 (hf k,Value.ref b)) (t.put j).1
   if (!false && (t.put j).1.tooFull)=true then do
    setRelay a (SetTable.grown<|es.size+1)
    pure true
   else pure true) Q E s:=Zr8 hfi g hb j1 j2 j3 λh' sb P=>h true h' sb (by rw[if_neg c];exact P)
  split
  ·refine wpAny_bind (Zlh hkb ?_)
   simpa only[↓reduceIte] using tail
  ·refine wpAny_bind (wpAny_pure ?_)
   simpa only[↓reduceIte] using tail
theorem Zlv {a b:Addr}{xs:List ((Int × Int) × Addr)}{k:Int × Int}(hfe:∀(k:Int × Int),tupleKeyHash (PySem.intKind prog w) [k.1,k.2]=hf k) {Q:Value->Shared->Prop}(hu:A.units+1<cLine) (g:PSt hf a xs s.heap)
  (hm:∀x∈xs,SmP x.1/\IsP prog w s.heap x.1 x.2) (nd:(xs.map (·.1)).Nodup) (hk:SmP k) (hkb:IsP prog w s.heap k b) (hb:xs.length<=200)
  (h:∀h',Heap.SameBut a s.heap h' -> PSt hf a (if k∈xs.map (·.1) then xs else xs++[(k,b)]) h' -> Q .none { s with heap:=h',toks:=s.toks+3 }) :
  wpAny (model prog w) A (call (.builtin "set.add") [.ref a,.ref b]) Q E s:=by
 refine wpAny_call_entry F.slot_set_add (g.typeIs hfi) F.entry_set_add ?_<|F.args_set_add_2 _ _;unfold Builtin.«set.add» Builtin.Frozenset.oneOther;simp only[Wer,bind_assoc];unfold Builtin.Frozenset.addrOf setAdd;refine wpAny_bind<|wpAny_pure ?_
 try dsimp only
 refine wpAny_bind<|wpAny_pure ?_
 try dsimp only
 refine wpAny_bind ?_;refine wpAny_holding ?_;refine wpAny_bind<|Zmp hfi hfe ?_ hkb ?_
 ·exact hu
 refine Zh8 hfi ?_ (s:={ s with toks:=s.toks+3 }) g hm nd hk hkb hb λr h' hsb hS'=>?_
 ·exact hu
 show wpAny _ _ (ret Value.none) _ _ _;exact wpAny_pure ⟨_,rfl,h h' hsb hS'⟩
end
def MemT (H:Hp) (xs:List ((Int × Int) × Addr)):Prop:=(xs.map (·.1)).Nodup/\∀x∈xs,SmP x.1/\H x.2=some (.tup [.int x.1.1,.int x.1.2])
theorem Zqr {P:Program}{w:World}{H:Hp}{h:Heap}{b:Addr}{k:Int × Int}(ok:HOk P w H h) (e:H b=some (.tup [.int k.1,.int k.2])):IsP P w h k b:=by
 obtain⟨_,its,r,o,h1,⟨h2,n,h3⟩,_⟩:=(show ObjOk P w H h b (.tup [.int k.1,.int k.2]) from ok b _ e);obtain⟨u,v,rfl,⟨t1,rfl⟩,⟨t2,rfl⟩⟩:=r.two;exact⟨o,_,n,h1,h2,h3,.cons (by simp[PySem.intKind,Value.isInt]) (.cons (by simp[PySem.intKind,Value.isInt]) .nil)⟩
theorem Zqn {P:Program}{w:World}{H:Hp}{h:Heap}{xs:List ((Int × Int) × Addr)}(ok:HOk P w H h) (m:MemT H xs):∀x∈xs,SmP x.1/\IsP P w h x.1 x.2:=λx hx=>⟨(m.2 x hx).1,Zqr ok (m.2 x hx).2⟩
theorem Zw2 {P:Program}{w:World}{H:Hp}{h:Heap}{p p':Addr}{xs:List ((Int × Int) × Addr)}(ok:HOk P w H h) (e:H p=some (.ext<|PSt hashP p' xs)):p'=p/\PSt hashP p xs h:=by
 obtain⟨f,⟨o,ho⟩,st⟩:=(show ObjOk P w H h p (.ext<|PSt hashP p' xs) from ok p _ e);by_cases c:p'=p
 ·subst c;exact⟨rfl,f⟩
 ·have f0:=f
  obtain⟨o',es,ep,t,g⟩:=f0;have f2:=st h (h.update p' λo=>{ o with data:=.seq #[] 0 }) f λo q=>by
   rw[(Heap.SameBut.update h p' _).2 p (Ne.symm c)];exact q
  obtain⟨o2,es2,ep2,t2,g2⟩:=f2;have e2:=Wce (λo:Obj=>{ o with data:=.seq #[] 0 }) g.ob rfl;have:=g2.ob;rw[e2]at this;cases this;exact absurd g2.da (λz=>by cases z)
theorem Zup {P:Program}{w:World}{H:Hp}{h:Heap}{p:Addr}{xs:List ((Int × Int) × Addr)}(f:PSt hashP p xs h):ObjOk P w H h p (.ext<|PSt hashP p xs):=
 ⟨f,let ⟨o,_,_,_,g⟩:=f; ⟨o,g.ob⟩,λh1 h2 a b=>a.keep b⟩
section
variable {X:Cx}
def rSet0T:List V->Hp->VK->Prop:=λxs H Q=>xs=[]/\∀p,H p=none->Q (.ref p) (upd H p (.ext<|PSt hashP p []))
theorem Zv0 (led:Bool):STb (SetTable.fresh 0 0 led) []:=⟨rfl,cyc7,Zp8,rfl,λi j e=>by simp[SetTable.fresh]at e,λi j h e=>by simp[SetTable.fresh]at e,by show 0<7;decide⟩
theorem Zoc:CallR X (.type "set") rSet0T:=by
 intro pins s U H xs us Q I r h;obtain⟨rfl,q⟩:=h;cases r;refine call_set_0 λled=>⟨.ref s.heap.objs.size,_,I.laid (t':=s.toks) (λ_ _ z=>Wad _ z) (Wag _) ?_,rfl,q _<|I.hok.fresh<|Wag _⟩;exact Zup ⟨_,#[],0,_,Wao _ rfl,⟨rfl,rfl,rfl⟩,rfl,List.Perm.refl _,Zv0 led,by show 0*5<7*3;decide,.inl rfl⟩
def rNinT:R2:=λx y H Q=>∃a a' b xs k,y=.ref a/\x=.ref b/\H a=some (.ext<|PSt hashP a' xs)/\MemT H xs/\SmP k/\H b=some (.tup [.int k.1,.int k.2])/\Q (.bl (!decide (k∈xs.map (·.1)))) H
theorem ninT (hu:X.A.units+1<cLine):OpR X (compareOp .NotIn) rNinT:=by
 intro pins s U H x y v u Q I rx ry h;obtain⟨a,a',b,xs,k,rfl,rfl,ha,hm,hk,hb,q⟩:=h;cases rx;cases ry;obtain⟨rfl,f⟩:=Zw2 I.hok ha;exact Zrp Zl6 (λ_=>rfl) hu f (Zqn I.hok hm) hm.1 hk (Zqr I.hok hb) ⟨.bl _,H,I.tok _,rfl,q⟩
def rSAddT:V->List V->Hp->VK->Prop:=λx vs H Q=>∃a a' b xs k,x=.ref a/\vs=[.ref b]/\H a=some (.ext<|PSt hashP a' xs)/\MemT H xs/\SmP k/\H b=some (.tup [.int k.1,.int k.2])/\xs.length<=200 /\
 Q .non (upd H a (.ext<|PSt hashP a (if k∈xs.map (·.1) then xs else xs++[(k,b)])))
theorem Zmd (hu:X.A.units+1<cLine):MtM X "set.add" rSAddT:=by
 intro pins s U H x vs v us Q I rx rv h;obtain⟨a,a',b,xs,k,rfl,rfl,ha,hm,hk,hb,hn,q⟩:=h;cases rx;obtain⟨u,rfl,ru⟩:=rv.one;cases ru;obtain⟨rfl,f⟩:=Zw2 I.hok ha;refine Zlv Zl6 (λ_=>rfl) hu f (Zqn I.hok hm) hm.1 hk (Zqr I.hok hb) hn λh' sb P=>?_;refine⟨.non,_,Zg6 I (by rw[ha];trivial) sb ?_<|Zup P,rfl,q⟩;obtain⟨o,_,_,_,g⟩:=P;exact⟨o,g.ob⟩
def tyS (x:V) (H:Hp):Prop:=∃p p' xs,x=.ref p/\H p=some (.ext<|PSt hashP p' xs)
def tBMS (r:V->List V->Hp->VK->Prop) (to:TE) (t:TA):TE:=λU H Q=>to U H λx H1=>tyS x H1/\t U H1 λxs H2=>r x xs H2 Q
theorem Zxj {pins:List (Addr × Obj)}{U:St}{H:Hp}{s:Shared}{x:V}{v:Value}(I:Inv X pins U H s) (r:RelV x v) (ty:tyS x H) :
  s.TypeIs v "set" /\ ∀a,v=.ref a->∃ob,s.heap.get? a=some ob/\ob.dict=none:=by
 obtain⟨p,p',xs,rfl,e⟩:=ty;cases r;obtain⟨rfl,o,es,ep,t,g⟩:=Zw2 I.hok e;exact⟨⟨o,g.ob,g.ex.1⟩,λa e2=>by cases e2;exact⟨o,g.ob,g.ex.2.1⟩⟩
variable {o e:Expr}{es:List Expr}{to:TE}{t:TA}{name:Str}{apos cpos:Pos}{id:String}{r:V->List V->Hp->VK->Prop}
theorem bmS (pa:PlainAttrs "set") (slot:PySem.Slot "set" name id) (hty:typeOf (.builtin id)=pure (.type "method_descriptor")) (hm:MtM X id r) (ho:PE X o to) (ha:PA X (e::es) t)
  (hbase:attributeBase o name X.env (eval o X.env)=eval o X.env:=by rfl)
  (hfew:((backTo cpos (starEach (e::es) X.env)).all (λx=>!x.1) && (backToKw cpos (keywordEach [] X.env)).all (λx=>x.1.isSome)
   && decide ((e::es).length+([]:List Keyword).length+(if ([]:List Keyword).isEmpty then 0 else 1)<30))=true:=by rfl)
  (hline:(apos.endLine == cpos.line)=true:=by rfl) (hs:starEach (e::es) X.env=(false,eval e X.env)::starEach es X.env:=by rfl) (hplain:(backTo cpos<|starEach es X.env).any (·.1)=false:=by rfl) :
  PE X (.Call (.Attribute o name apos) (e::es) [] cpos) (tBMS r to t):=by
 intro pins s U H Q I h;refine wpAny_Call_method_late hbase hfew hline rfl (thn (ho pins s U H _ I h) λv s1 ⟨x,H1,I1,r1,ty,q1⟩=>?_);obtain⟨h1,h2⟩:=Zxj I1 r1 ty;refine⟨"set",id,pa,slot,hty,h1,h2,?_⟩;have hA:=ha cpos pins s1 U H1 _ I1 q1;rw[hs]at hA ⊢;refine Calls.callWith_builtin (by show (false || (backTo cpos<|starEach es X.env).any (·.1))=false;rw[hplain] <;> rfl)<|Calls.evalArgs_plain ?_
 exact thn hA λus s2 ⟨vs,H2,I2,r2,q2⟩=>hm pins s2 U H2 x vs v us Q I2 r1 r2 q2
end
def stR (ks:List (Int × Int)):Hp->(Heap->Prop)->Prop:=λG φ=>∃a xs,φ = PSt hashP a xs/\xs.map (·.1)=ks/\MemT G xs
def stO (ks:List (Int × Int)):OD:=.ext<|stR ks
def dP (k:Int × Int):D:=.tup [.int k.1,.int k.2]
theorem MemT.mono {G G':Hp}{xs:List ((Int × Int) × Addr)}(s:Same G G') (m:MemT G xs):MemT G' xs:=⟨m.1,λx hx=>⟨(m.2 x hx).1,s _ _ (m.2 x hx).2⟩⟩
def addP (ks:List (Int × Int)) (k:Int × Int):List (Int × Int):=if k∈ks then ks else ks++[k]
section
variable {K:W.Frag}{Z:Evt}{P:D->Evt->Prop}
theorem Zra {G:Hp}{o:HO}{ks:List (Int × Int)}(h:OwnRep K G o (stO ks)):∃a xs,o=.ext (PSt hashP a xs)/\xs.map (·.1)=ks/\MemT G xs:=by
 cases o with
 |ext φ=>
  obtain⟨G0,s,a,xs,rfl,e,m⟩:=h;exact⟨a,xs,rfl,e,m.mono s⟩
 |_=>exact h.elim
theorem Zyr {G:Hp}{v:V}{k:Int × Int}(r:Rep K G v (dP k)):∃b,v=.ref b/\G b=some (.tup [.int k.1,.int k.2]):=by
 obtain⟨b,vs,rfl,ha,rs⟩:=r.inv;obtain⟨u,us,rfl,r1,rs1⟩:=rs.inv;obtain⟨u2,us2,rfl,r2,rs2⟩:=rs1.inv;cases r1.inv;cases r2.inv;cases rs2.inv;exact⟨b,rfl,ha⟩
theorem Zwc {Po:OD->Evt->Prop}(p:Po (stO []) Z):JO K (tCB rSet0T tNil) Z Po:=λg G H U Q k c=>by
 refine⟨rfl,λl hl=>?_⟩;obtain⟨k2,pd⟩:=k.fresh (od:=stO []) hl (show OwnRep K G (.ext<|PSt hashP l []) (stO []) from ⟨G,Same.refl _,l,[],rfl,rfl,Wdl,λx h=>nomatch h⟩);exact c l _ G _ Z k2 (Same.refl _) pd p
theorem Zw1 {n:Nat}{ta:TE}(h:JE K ta Z λd Z1=>∃x ks k,Z1[n]?=some x/\x.od=some (stO ks)/\d=dP k/\SmP k/\P (.bl (!decide (k∈ks))) Z1):JE K (tOp rNinT ta<|tVar n) Z P:=λg G H U Q k c=>
 h g G H U _ k λv d G1 H1 Z1 k1 s1 r1 hq_=>by
  obtain⟨x,ks,kk,q1,q2,q3,q4,p⟩:=hq_;subst q3;obtain⟨b,rfl,hb⟩:=Zyr r1;obtain⟨a,o,w1,w2,w3,w4,w5⟩:=k1.own n x _ q1 q2;obtain⟨a',xs,rfl,e,m⟩:=Zra w3;refine⟨.ref a,w1,a,a',b,xs,kk,rfl,rfl,w2,m.mono λb o hb=>k1.live b o hb,q4,k1.live _ _ hb,?_⟩;rw[e];exact c _ _ G1 H1 Z1 k1 s1 (.bl _) p
theorem Zl0 {n:Nat}{te:TE}{x:Slot}{ks0:List (Int × Int)}{nx bk ct:Evt->Prop}{rt:D->Evt->Prop}{ro:OD->Evt->Prop}(hx:Z[n]?=some x) (ho:x.od=some (stO ks0))
  (h:JE K te Z λd Z1=>∃y ks k,Z1[n]?=some y/\y.od=some (stO ks)/\d=dP k/\SmP k/\ks.length<=200/\nx (Z1.set n<|y.put<|stO<|addP ks k)) :
  JS K (tDrop<|tBMS rSAddT (tVar n)<|tCons te tNil) Z ⟨nx,rt,bk,ct,ro⟩:=λg G H U E k c=>by
 obtain⟨a,o,h1,h2,h3,h4,h5⟩:=k.own n x _ hx ho;obtain⟨a0,xs0,rfl,_,_⟩:=Zra h3;refine⟨.ref a,h1,⟨a,a0,xs0,rfl,h2⟩,h g G H U _ k λv d G1 H1 Z1 k1 s1 r1 ⟨y,ks,kk,q1,q2,q3,q4,q5,p⟩=>?_⟩;subst q3;obtain⟨b,rfl,hb⟩:=Zyr r1;obtain⟨a',o',w1,w2,w3,w4,w5⟩:=k1.own n y _ q1 q2;rw[h1]at w1;cases w1;obtain⟨a1,xs,rfl,e,m⟩:=Zra w3;refine⟨a,a1,b,xs,kk,rfl,rfl,w2,m.mono λb o hb=>k1.live b o hb,q4,k1.live _ _ hb,by rw[<- e,Wab]at q5;exact q5,c.nx U G1 _ _ (k1.write q1 q2 h1 ?_) p⟩;refine⟨G1,Same.refl _,a,_,rfl,?_,?_⟩
 ·unfold addP
  rw[e];split
  ·exact e
  ·rw[Was,e];rfl
 ·rw[e]
  by_cases cc:kk∈ks
  ·rw[if_pos cc];exact m
  ·rw[if_neg cc]
   refine⟨?_,λx hx=>?_⟩
   ·rw[Was,e]
    exact Wcx.mpr ⟨e ▸ m.1,by simp,λx hx y hy=>by
     have:y=kk:=by simpa using hy
     subst this;exact λz=>cc (z ▸ hx)⟩
   ·rcases Wbh.mp hx with hx|hx
    ·exact m.2 x hx
    ·have:x=(kk,b):=by simpa using hx
     subst this;exact⟨q4,hb⟩
end
open PySem PySem.Spec PyProof.Rows PySem.SeqAt
def codLe (a b:List (List Int)):Prop:=a=[]\/∃x y s t,a=x::s/\b=y::t/\x≠y/\rlt y x=false
def AscC (cs:List (List<|List Int)):Prop:=∀i a b,cs[i]?=some a->cs[i+1]?=some b->codLe a b
theorem Zt8 {a b:List (List Int)}(h:codLe a b):cLt b a=false:=by
 rcases h with rfl|⟨x,y,s,t,rfl,rfl,h1,h2⟩
 ·cases b <;> rfl
 ·show (if y=x then _ else rlt y x)=false
  rw[if_neg (Ne.symm h1)];exact h2
section
variable {prog:Program}{w:World}{A:Around}{E:Value->Shared->Prop}{s:Shared}
theorem Zx2 {x y:Value}{a b:List Int}{Q:Value->Shared->Prop}(hu:A.units<cLine) (hx:RowAt s.heap x a) (hy:RowAt s.heap y b) (h:Q (.bool<|rlt a b) s):wpAny (model prog w) A (richCompare .Lt x y) Q E s:=by
 obtain⟨l,its,rfl,⟨⟨c1,d1,dt1,sl1⟩,ho,hc,k1,hd⟩,hi⟩:=hx;obtain⟨l2,its2,rfl,⟨⟨c2,d2,dt2,sl2⟩,ho2,hc2,k2,hd2⟩,hi2⟩:=hy;simp only at hc hd hc2 hd2;subst hc hd hc2 hd2;exact richCompare_meets_room (op:=.Lt) ⟨_,ho,rfl⟩ ⟨_,ho2,rfl⟩ PySem.F.slot_tuple_lt PySem.F.entry_tuple_lt (PySem.F.args_tuple_lt_2 _ _) (HT.tuple_lt_ints l l2 its.toArray its2.toArray k1 k2 d1 d2 sl1 sl2 a b (by simpa using hi) (by simpa using hi2))
  ⟨ho,ho2,show Value.bool (HT.lexLt a b)≠Value.notImplemented/\_ from ⟨(λx=>nomatch x),h⟩⟩ hu
theorem Znt {vs:List Value}{cs:List (List<|List Int)}(p:Paired (CodeAt s.heap) vs cs):∀v∈vs,PySem.W.Looks (model prog w) s.heap (typeOf v) (.type "tuple"):=by
 intro v hv
 induction p with
 |nil=>cases hv
 |cons q t ih=>
  rcases Wan.mp hv with e|hv
  ·subst e
   obtain⟨a,its,rfl,⟨o,ho,hc,_⟩,_⟩:=q;have z:PySem.W.Looks (model prog w) s.heap (typeOf (.ref a)) o.cls:=(PySem.W.Looks.ld ho).andThen .now;rw[hc]at z;exact z
  ·exact ih hv
theorem Zgt:∀(vs:List Value) (cs:List (List<|List Int)) {Q:List (Option Value)->Shared->Prop},Paired (CodeAt s.heap) vs cs ->
  (∀fs:List (Option Value),Paired (λ(f:Option Value) (c:List (List Int))=>c=[]->f=none) fs cs->Q fs s)->wpAny (model prog w) A (vs.mapM firstOfTuple') Q E s
 |[],[],_,_,h=>by rw[List.mapM_nil];exact wpAny_pure (h [] .nil)
 |v::vs,c::cs,Q,.cons p t,h=>by
  obtain⟨a,its,rfl,⟨o,ho,hc,n,hd⟩,hi⟩:=p;rw[List.mapM_cons];refine wpAny_bind ?_;rw[PySem.W.kas_first_eq];refine wpAny_bind<|PySem.W.Looks.here (show PySem.W.Looks (model prog w) s.heap (typeOf (.ref a)) o.cls from (PySem.W.Looks.ld ho).andThen .now) ?_;rw[hc,if_neg (by first|decide|simp)];refine wpAny_bind<|listItems_at ho hd<|wpAny_pure ?_;refine wpAny_bind (Zgt vs cs (Q:=λbs s'=>wpAny _ A (pure (its.toArray[0]?::bs)) Q E s') t λfs pf=>wpAny_pure<|h _ (.cons ?_ pf));intro e;subst e;cases hi;rfl
theorem Zno {vs:List Value}{cs:List (List<|List Int)}{Q:SortKind->Shared->Prop}(p:Paired (CodeAt s.heap) vs ([]::cs)) (h:Q oneType' s):wpAny (model prog w) A (keyKind' vs.toArray) Q E s:=by
 have hT:=Znt (prog:=prog) (w:=w) p;rw[keyKind'_eq,Wd2,map_eq_pure_bind];refine wpAny_bind<|wpAny_bind (Zgt vs _ p λfs pf=>wpAny_pure ?_);cases pf with
 |@cons f _ fs _ hf _=>
  have hf:f=none:=hf rfl;subst hf;rw[if_neg (by simp),if_neg (by simp)];rw[oneTypeOnly'_eq,Wd2,map_eq_pure_bind];refine wpAny_bind<|wpAny_bind<|wpAny_bind<|PySem.W.kas_mapM (r:=.type "tuple") _ (λv hv Q' hq=>(hT v hv).here hq)<|wpAny_pure ?_;cases p with
  |@cons v _ vs _ _ _=>
   have hall:((Wbl (λ_=>Value.type "tuple") (v::vs)).toArray.all λx=>x == Value.type "tuple")=true:=by
    simp only[List.all_toArray,List.all_map,Wcn];intro _ _;exact(by decide:(Value.type "tuple" == Value.type "tuple")=true)
   have h0:(Wbl (λ_=>Value.type "tuple") (v::vs)).toArray[0]?=some (Value.type "tuple"):=by simp
   rw[h0];simp only[hall,if_true];exact wpAny_pure<|wpAny_pure h
theorem Znj {vs:List Value}{cs:List (List<|List Int)}{Q:SortKind->Shared->Prop}(p:Paired (CodeAt s.heap) vs cs) (hne:∀r∈cs,r≠[]) (h1:cs≠[]) (h:Q (tuples' false) s):wpAny (model prog w) A (keyKind' vs.toArray) Q E s:=by
 have ex:∃fs:List Value,PySem.W.KatTups s.heap vs fs/\fs.length=cs.length/\∀v∈fs,PySem.W.Looks (model prog w) s.heap (typeOf v) (.type "tuple"):=by
  clear h h1
  induction p with
  |nil=>exact⟨[],trivial,rfl,λ_ h=>nomatch h⟩
  |@cons v r vs cs q t ih=>
   obtain⟨fs,k1,k2,k3⟩:=ih λr hr=>hne r<|Waw _ hr;obtain⟨a,its,rfl,⟨o,ho,hc,n,hd⟩,hi⟩:=q;cases hi with
   |nil=>exact absurd rfl (hne [] Wa7)
   |@cons u x us l hx hl=>
    refine⟨u::fs,.cons ho hc hd (by simp) k1,by rw[Waj,Waj,k2],λv hv=>?_⟩;rcases Wan.mp hv with e|hv
    ·subst e
     obtain⟨b,its2,rfl,⟨o2,ho2,hc2,_⟩,_⟩:=hx;have z:PySem.W.Looks (model prog w) s.heap (typeOf (.ref b)) o2.cls:=(PySem.W.Looks.ld ho2).andThen .now;rw[hc2]at z;exact z
    ·exact k3 v hv
 obtain⟨fs,k1,k2,k3⟩:=ex;have hpos:0<cs.length:=Wdu.mpr h1;exact PySem.W.kat_kind k1 (by omega) k3 (by decide) h
theorem Ztg {v u:Value}{a b:List (List Int)}{Q:Bool->Shared->Prop}(hu:A.units+2<cLine) (pa:CodeAt s.heap u a) (pb:CodeAt s.heap v b) (hle:codLe a b) (h:Q false s):wpAny (model prog w) A (keyLt' oneType' v u) Q E s:=by
 obtain⟨l,its,rfl,⟨⟨c1,d1,dt1,sl1⟩,ho,hc,n,hd⟩,hi⟩:=pb;obtain⟨k,its2,rfl,⟨⟨c2,d2,dt2,sl2⟩,ho2,hc2,n2,hd2⟩,hi2⟩:=pa;simp only at hc hd hc2 hd2;subst hc hd hc2 hd2;rw[keyLt'_oneType,oneLt'_eq];simp only[if_true];refine wpAny_bind<|wpAny_cRoomFor (by omega) ?_;refine wpAny_bind<|wpAny_callSpecialIfBound?_slot (T:="tuple") ⟨_,ho,rfl⟩ F.slot_tuple_lt<|call_meets F.slot_tuple_lt ⟨_,ho,rfl⟩ F.entry_tuple_lt (F.args_tuple_lt_2 _ _) (Zi2 l k its.toArray its2.toArray n n2 d1 d2 sl1 sl2 b a) ⟨?_,⟨by simpa using hi,by simpa using hi2⟩,ho,ho2,?_⟩
 ·show A.units+1<cLine;omega
 ·rw[Zt8 hle]
  exact wpAny_truthy_bool h
theorem Zr1 {v u:Value}{a b:List (List Int)}{Q:Bool->Shared->Prop}(hu:A.units+2<cLine) (pa:CodeAt s.heap u a) (pb:CodeAt s.heap v b) (hne:a≠[]) (hle:codLe a b) (h:Q false s):wpAny (model prog w) A (keyLt' (tuples' false) v u) Q E s:=by
 obtain⟨l,its,rfl,⟨o1,ho,hc,n,hd⟩,hi⟩:=pb;obtain⟨k,its2,rfl,⟨o2,ho2,hc2,n2,hd2⟩,hi2⟩:=pa;rcases hle with z|⟨x,y,s',t',rfl,rfl,h1,h2⟩
 ·exact absurd z hne
 ·cases hi with
  |@cons u1 _ us1 _ q1 _=>
   cases hi2 with
   |@cons u2 _ us2 _ q2 _=>
    refine PySem.W.kat_lt ho hd ho2 hd2 ?_;show PySem.W.KatLex prog w A false _ Q ((u1,u2)::us1.zip us2) 0 s;refine PySem.W.kat_cons<|Zm3 q1 q2 (by omega) prog w _ _ ?_;rw[decide_eq_false (Ne.symm h1)];refine PySem.W.kat_no ?_;rw[oneLt'_eq];simp only[Wci,Wav,if_false];refine wpAny_bind<|Zx2 (by omega) q1 q2 ?_;rw[h2];exact wpAny_truthy_bool h
end
section
variable {X:Cx}
def rSortC (K:W.Frag):List V->Hp->VK->Prop:=λxs H Q=>∃p us cs,xs=[.ref p]/\SqL K H p us/\us.length<200/\Paired (CodeV K H) us cs/\AscC cs/\∀l,H l=none->Q (.ref l) (upd H l (.lst us))
theorem Zvp {cs:List (List<|List Int)}(h:AscC cs) (h0:∀r,cs[0]?=some r->r≠[]):∀r∈cs,r≠[]:=by
 intro r hr;obtain⟨i,hi⟩:=Wdq hr;cases i with
 |zero=>exact h0 r hi
 |succ i=>
  have hl:=(Waf.mp hi).1;have e:=Waa (show i<cs.length by omega);have:∀j,j<cs.length->∀c,cs[j]?=some c->c≠[]:=by
   intro j
   induction j with
   |zero=>intro _ c hc;exact h0 c hc
   |succ j ih=>
    intro hj c hc;have e:=Waa (show j<cs.length by omega);rcases h j _ _ e hc with z|⟨x,y,s,t,_,z,_⟩
    ·exact absurd z<|ih (by omega) _ e
    ·rw[z];exact λz=>nomatch z
  exact this _ hl _ hi
theorem Paired.getV {β:Type}{R:Value -> β -> Prop}{vs:List Value}{rs:List β}{i:Nat}(p:Paired R vs rs) (h:i<vs.length):∃r,rs[i]?=some r/\R (vs.getD i .none) r:=by
 obtain⟨r,h1,h2⟩:=Paired.getC p<|Waa h;refine⟨r,h1,?_⟩;rw[Wac,Waa h];exact h2
theorem sortCK (K:W.Frag) (hu:X.A.units+8<cLine) (hK:X.K=K:=by rfl):CallR X (.builtin "sorted") (rSortC K):=by
 subst hK;intro pins s U H xs us Q I r h;obtain⟨p,ys,cs,rfl,hx,hl,hp,ha,q⟩:=h;obtain⟨u,rfl,ru⟩:=vals1 r;cases (show u=Value.ref p from ru);obtain⟨its,w1,p1,hz⟩:=I.list hx;have pr:Paired (CodeAt s.heap) its cs:=Zgf (R:=CodeV X.K H) (T:=CodeAt s.heap) (λy u c ru h=>Zva I ru h) w1 hp;have hlen:=w1.length;have hrl:=Paired.length pr;have fin:EP X pins U Q (.ref<|s.heap.objs.size+1) { s with heap:=sortedAll s.heap its its.toArray }:=by
  obtain⟨e,he⟩:=sortedAll_at s.heap its its.toArray;refine⟨.ref<|s.heap.objs.size+1,_,I.laid (t':=s.toks) (λ_ _ z=>sortedAll_old z) (Wc2 _) (show ObjOk X.prog X.w _ _ _ (.lst ys) from ⟨hz,its,e,w1,he⟩),rfl,q _<|I.hok.fresh<|Wc2 _⟩
 have hu2:X.A.in1.in1.units+2<cLine:=Wcs (by show X.A.units+1+1+2<=X.A.units+8;omega) hu;have cmp:∀i,1<=i->i<its.length->∃a b,cs[i-1]?=some a/\CodeAt s.heap (its.getD (i-1) .none) a/\CodeAt s.heap (its.getD i .none) b/\codLe a b:=λi h1 hi=>by
  obtain⟨a,ha1,ha2⟩:=Paired.getV (i:=i-1) pr (by omega);obtain⟨b,hb1,hb2⟩:=Paired.getV (i:=i) pr hi;exact⟨a,b,ha1,ha2,hb2,ha (i-1) a b ha1 (by rw[show i-1+1=i by omega];exact hb1)⟩
 by_cases h0:cs[0]?=some []
 ·refine Zeg (κ:=oneType') p1.isList (by omega) (λ_ h' k E Q hq=>?_) (λh' k i h1 hi E Q hq=>?_) fin
  ·cases cs with
   |nil=>cases h0
   |cons r0 cs=>
    have:r0=[]:=by simpa using h0
    subst this;exact Zno (s:={ s with heap:=h' }) (Paired.mapP pr λv r z=>z.keep k) hq
  ·obtain⟨a,b,_,c1,c2,c3⟩:=cmp i h1 hi
   exact Ztg (s:={ s with heap:=h' }) hu2 (c1.keep k) (c2.keep k) c3 hq
 ·have hne:∀r∈cs,r≠[]:=Zvp ha λr hr e=>h0 (by rw[hr,e])
  refine Zeg (κ:=tuples' false) p1.isList (by omega) (λh2 h' k E Q hq=>?_) (λh' k i h1 hi E Q hq=>?_) fin
  ·exact Znj (s:={ s with heap:=h' }) (Paired.mapP pr λv r z=>z.keep k) hne (by intro z;subst z;rw[Wb6]at hrl;omega) hq
  ·obtain⟨a,b,c0,c1,c2,c3⟩:=cmp i h1 hi
   exact Zr1 (s:={ s with heap:=h' }) hu2 (c1.keep k) (c2.keep k) (hne a<|Wau c0) c3 hq
end
section
variable {K:W.Frag}{Z:Evt}{P:D->Evt->Prop}
def codD (c:List (List Int)):D:=.tup<|c.map rowD
theorem Zr6 {ta:TA}{Po:OD->Evt->Prop}(h:JA K ta Z λds Z1=>∃cs:List (List<|List Int),ds=[.lst (cs.map codD)]/\cs.length<200/\AscC cs/\Po (.lst<|cs.map codD) Z1):JO K (tCB (rSortC K) ta) Z Po:=λg G H U Q k c=>
 h g G H U _ k λvs ds G1 H1 Z1 k1 s1 r1 hq_=>by
  obtain⟨cs,e,hl,ha,p⟩:=hq_;subst e;obtain⟨_,_,rfl,r,t⟩:=r1.inv;cases t.inv;obtain⟨a,us,rfl,ha',rr⟩:=r.inv;have hlen:=rr.length;rw[Wab]at hlen;refine⟨a,us,cs,rfl,SqL.of<|k1.live _ _ ha',by omega,Zh1 k1.live rr,ha,λl hl=>?_⟩;obtain⟨k2,pd⟩:=k1.fresh (od:=.lst<|cs.map codD) hl (show OwnRep K G1 (.lst us) (.lst<|cs.map codD) from rr);exact c l _ G1 _ Z1 k2 s1 pd p
end
section
variable {X:Cx}
theorem Zrd {kx vx tg1 it1:Expr}{scope:Scope}{pos spos py:Pos}{fvs:List Str}{sel:List Nat}{wi1:TI}{g1:TG}{tk tv:TE}{i:Nat}{y:Str}(hN:X.N.Nodup) (hiy:X.N[i]?=some y) (hx:Loc X.env.scope y) (tgs:List Str) (S:CompSc X.env.scope X.N scope fvs sel) (hc:X.calm=true)
  (hi1:PI X tg1 it1 wi1) (hg1:∀C s H ex pn,PG (compCx X scope (tgs++fvs) C s H ex pn) tg1 g1)
  (hk:∀C s H ex pn,PE (compCx X scope (tgs++fvs) C s H ex pn) kx tk) (hv:∀C s H ex pn,PE (compCx X scope (tgs++fvs) C s H ex pn) vx tv)
  (hs1:∀x,foldedSetIterable it1 X.env x=pure x:=by intro _;rfl)
  (hsw:swapsWith (.DictComp kx vx [⟨tg1,it1,[],0⟩] scope pos) (some (.Name y py)) spos.line X.env=pure true:=by rfl)
  (hf:X.fn y=true\/X.env.scope.names.lookup y=some .local:=by first|exact .inl rfl|exact .inr rfl|assumption) :
  PS X (.Assign [.Name y py] (.DictComp kx vx [⟨tg1,it1,[],0⟩] scope pos) spos) (tAsg (tCompG tgs.length sel wi1 g1 (.dK [])<|tPutK tk tv)<|gName i):=by
 intro pins s U H D I h;rw[exec_Assign_Name_used _ _ _ _ hsw];refine wpAny_bind (wpAny_standAt (wpAny_bind ?_));show wpAny _ X.A (do let _ <- comprehension (.DictComp kx vx [⟨tg1,it1,[],0⟩] scope pos) scope X.env _ newDict false (eval it1 X.env) (some (assign (.Name y py) X.env))) _ _ s;refine wpAny_bind (wpAny_mono (wpAny_comprehension_free (use:=some (assign (.Name y py) X.env)) (Q:=λ_ s'=>SP X pins D .next s') rfl hs1 (Zb6 (Zee S I.ok)) S.kind S.names
  (thn (hi1 pins s U H _ I h) λv s1 h1=>thn h1 λitv s2 h2=>?_)) (λ_ s' hq=>wpAny_pure (wpAny_pure hq)) λ_ _ e=>e)
 refine Znz (tgs:=tgs) (ob:={ cls:=.type "dict",data:=.dict #[] }) (ho:=.dK []) (Zni _ _ _ _ _) rfl (λD env it=>rfl) (λs Q E q=>wpAny_newObj_type q) (λpins U H s I=>I.laid (a:=s.heap.objs.size) (o:=.dK []) (h':=s.heap.push { cls:=.type "dict",data:=.dict #[] }) (t':=s.toks) (λ_ _ q=>Wad _ q) (Wag _)<|Ztk s.heap I.big) S hc hg1 (λC s H ex pn D it=>(Zzd (Y:=compCx X scope (tgs++fvs) C s H ex pn) rfl (hk C s H ex pn) (hv C s H ex pn) D).rest) (RR:=λacc C=>compPost (model X.prog X.w) X.A X.xe (some<|assign (.Name y py) X.env) (λ_ s'=>SP X pins D .next s') acc C) (Q:=λv H'=>D.nx (U.set i<|some v) H') h2 ?_;intro s' C acc H' m hn fp hI q;have I0:Inv X pins U H' s':=hI s'.heap (.refl ..);show wpAny _ X.A (assign (.Name y py) X.env (.ref acc)) _ _ _;refine wpAny_assign_Name<|Zgv (v:=.ref acc) I0 hN hiy hx rfl (λs2 I2 hsb=>?_) hf;obtain⟨a,sb,ha⟩:=hsb;have hCa:C≠a:=by
  rcases ha with z|z
  ·rw[z];exact fp.2.1
  ·exact Ne.symm<|fp.2.2.2.2.1 y a z
 refine⟨m,hn.sameBut sb hCa,λh' sb'=>?_⟩;obtain⟨f0,f1,f2,f3,f4,f5⟩:=fp;exact⟨_,H',I2.turned (t':=s2.toks) (it:=C) (λb o hb e=>(sb'.2 b hb).trans e) f0 f1 f3 f4 f5,q⟩
end
section
variable {K:W.Frag}{Z:Evt}
theorem Zwq {x y:Str}{P:D->Evt->Prop}(p:P (.bl<|decide (x=y)) Z):JR2 K rEq (.str x) (.str y) Z P:=λg G H U Q v u k rx ry c=>by
 cases rx.inv;cases ry.inv;refine⟨rfl,?_⟩;rw[show decide (V.str x=V.str y)=decide (x=y) from decide_eq_decide.mpr ⟨λe=>V.str.inj e,λe=>by rw[e]⟩];exact c _ _ G H Z k (Same.refl _) (.bl _) p
theorem Zqw {P:D->Evt->Prop}{sel:List Nat}{wi:TI}{tc:TT}{te:TE}(hsel:sel.Nodup)
  (h:JI K wi Z λds Z1=>ds.length<sizeLine/\∃(p:D->Bool) (f:D->D),
   (∀(i:Nat) d,ds[i]?=some d->∃a b c,d=.tup [.tup [a,b],c]/\JT K tc (.val a::.val b::.val c::fixD sel Z1) λt Z4=>t=p d/\if t=true then JE K te Z4 λe Z5=>e=f d/\∃x y z,Z5=x::y::z::fixD sel Z1 else ∃x y z,Z4=x::y::z::fixD sel Z1) /\
   P (.lst ((ds.filter p).map f)) Z1):JE K (tComp 3 sel wi (gTup K 2 (gCons (gTup K 2 (gCons (gName 0) (gCons (gName 1) gNil))) (gCons (gName 2) gNil))) tc te) Z P:=by
 refine Zix hsel λg G H U R k c=>h g G H U R k λJ ds G' H' Z' k' s' it ⟨z,p,f,ht,he⟩=>c J ds G' H' Z' k' s' it ⟨z,fixD sel Z',p,f,rfl,λi d ts hd hts=>?_,?_⟩
 ·obtain⟨a,b,c,rfl,hj⟩:=ht i d hd
  refine Zk1 rfl<|Zc5<|Zk1 rfl<|Zc5<|Zc3 (by decide)<|Zc5<|Zc3 (by decide)<|Ziw<|Zc5<|Zc3 (by decide)<|Ziw ?_;obtain⟨x,y,z,rfl⟩:∃x y z,ts=[x,y,z]:=by
   match ts,hts with
   |[x,y,z],_=>exact⟨x,y,z,rfl⟩
  intro g G H U Q k c;refine hj g G H U Q k λb G1 H1 Z1 k1 s1 ⟨e1,q⟩=>c b G1 H1 Z1 k1 s1 ⟨e1,?_⟩;cases b with
  |true=>
   rw[if_pos rfl]at q ⊢;exact q.mono λe Z5 ⟨e2,x,y,z,e3⟩=>⟨e2,[x,y,z],rfl,e3⟩
  |false=>
   rw[if_neg Wal]at q ⊢;obtain⟨x,y,z,e3⟩:=q;exact⟨[x,y,z],rfl,e3⟩
 ·rw[Zc7 (by simp)];exact he
end
open PySem PySem.Spec PyProof.Rows PySem.SeqAt
section
variable {K:W.Frag}{Z:Evt}
end
open PySem PySem.Spec PyProof.Rows PySem.SeqAt
section
variable {X:Cx}
def rSumT (K:W.Frag):List V->Hp->VK->Prop:=λxs H Q=>∃(p:Addr) (ns:List Int),xs=[.ref p]/\SqT K H p (ns.map V.int)/\Q (.int ns.sum) H
theorem sumTK (K:W.Frag) (hc:X.calm=true) (hK:X.K=K:=by rfl):CallR X (.builtin "sum") (rSumT K):=by
 subst hK;intro pins s U H xs us Q I r h;obtain⟨p,ns,rfl,hx,q⟩:=h;obtain⟨u,rfl,ru⟩:=vals1 r;cases (show u=Value.ref p from ru);obtain⟨its,w1,p1,_⟩:=I.tuple hx;have hi:=Zck w1;have hlen:=hi.length;have hlt:p<s.heap.objs.size:=by obtain⟨o,e,_⟩:=p1;exact Wap e
 refine call_sum_walkG<|wpAny_pyIter_tuple p1 ?_;refine⟨s.heap.objs.size,_,_,_,_,_,λi=>ns.getD i 0,rfl,Walks.tuple (prog:=X.prog) (w:=X.w) (A:=X.A.in1) (show X.A.in1.handled=none from I.ok.hd hc) s.heap.objs.size p (Way hlt) its.toArray,⟨⟨_,Wao _ rfl,rfl,rfl⟩,p1.push _⟩,?_,?_,λh' tk t' hk=>?_⟩
 ·intro b hb
  show b<(s.heap.push _).objs.size;rw[size_push'];simp only[Wan,Wbk,or_false]at hb;rcases hb with z|z
  ·rw[z];exact Wc3 _
  ·rw[z];exact Wbo hlt
 ·intro i v hv
  have hv:its[i]?=some v:=by simpa using (show its.toArray[i]?=some v from hv)
  obtain⟨h1,h2⟩:=Waf.mp hv;obtain⟨t,e⟩:=intsAt hi i h1;exact⟨t,by rw[<- h2,e]⟩
 ·have e:preSum (λi=>ns.getD i 0) its.toArray.size=ns.sum:=by
   rw[War,show its.length=ns.length by omega,Zew ns _ (Wag _),Wba]
  rw[e];have I0:Inv X pins U H { s with heap:=s.heap.push { cls:=.type "tuple_iterator",data:=.fields #[.ref p,.int 0 0] },toks:=s.toks }:=I.kept λb o e=>Wad _ e;have fp:=I.fpOk (b:=s.heap.objs.size) (H':=H) (Wag _)<|I.hok.fresh<|Wag _;exact⟨.int ns.sum,H,I0.turned (it:=s.heap.objs.size) (λb o hb e=>hk b o (by simpa using hb) e) (I.hok.fresh<|Wag _) (Wc6 I.lt) (.inr I.sz) fp.2.2.2.2.1 fp.2.2.2.2.2,⟨_,rfl⟩,q⟩
def rNeP (K:W.Frag):R2:=λx y H Q=>∃(p q:Addr) (a b c d:Int),x=.ref p/\y=.ref q/\SqT K H p [.int a,.int b]/\SqT K H q [.int c,.int d]/\Q (.bl (!(a == c && b == d))) H
theorem nePK (K:W.Frag) (hu:X.A.units+1<cLine) (hK:X.K=K:=by rfl):OpR X (compareOp .NotEq) (rNeP K):=by
 subst hK;intro pins s U H x y v u Q I rx ry h;obtain⟨p,q,a,b,c,d,rfl,rfl,h1,h2,k⟩:=h;cases rx;cases ry;obtain⟨its,w1,p1,_⟩:=I.tuple h1;obtain⟨its2,w2,p2,_⟩:=I.tuple h2;obtain⟨u1,u2,rfl,⟨t1,rfl⟩,⟨t2,rfl⟩⟩:=w1.two;obtain⟨v1,v2,rfl,⟨t3,rfl⟩,⟨t4,rfl⟩⟩:=w2.two;have z:=RcNeAt.tuples (A:=X.A) (s:=s) (e:=λj=>if j=0 then a == c else b == d) p1 p2 (by omega) λj g1 g2=>by
  have g1':j<2:=g1;rcases(show j=0\/j=1 by omega) with e|e
  ·subst e;exact EqAt.int_int a t1 c t3
  ·subst e;exact EqAt.int_int b t2 d t4
 have e1:(!((Wah<|min 2 2).all (λj=>if j=0 then a == c else b == d) && (2 == 2))) = !(a == c && b == d):=by
  show (!(((a == c) && ((b == d) && true)) && true))=_;rw[Wds,Wds]
 have z:RcNeAt X.A s (.ref p) (.ref q) (!((Wah<|min 2 2).all (λj=>if j=0 then a == c else b == d) && (2 == 2))):=z;rw[e1]at z;exact z X.prog X.w _ _ ⟨.bl _,H,I,rfl,k⟩
end
section
variable {K:W.Frag}{Z:Evt}{P:D->Evt->Prop}
theorem Zze {a b c d:Int}(p:P (.bl (!(a == c && b == d))) Z):JR2 K (rNeP K) (.tup [.int a,.int b]) (.tup [.int c,.int d]) Z P:=λg G H U Q x y k rx ry e=>by
 obtain⟨i,vs,rfl,ha,rs⟩:=rx.inv;obtain⟨j,ws,rfl,hb,rt⟩:=ry.inv;have e1:=Reps.ints (ns:=[a,b]) rs;have e2:=Reps.ints (ns:=[c,d]) rt;subst e1;subst e2;exact⟨i,j,a,b,c,d,rfl,rfl,SqT.of<|k.live _ _ ha,SqT.of<|k.live _ _ hb,e _ _ G H Z k (Same.refl _) (.bl _) p⟩
theorem Zxh {ns:List Int}(p:P (.int ns.sum) Z):JC K (rSumT K) [.tup (ns.map D.int)] Z P:=λg G H U Q vs k rs c=>by
 obtain⟨_,_,rfl,r,t⟩:=rs.inv
 next=>
  cases t.inv;obtain⟨a,us,rfl,ha,rr⟩:=r.inv
  next=>
   have ev:=rr.ints;subst ev;exact⟨_,ns,rfl,SqT.of<|k.live _ _ ha,c _ _ G H Z k (Same.refl _) (.int _) p⟩
end
end L2
set_option Elab.async false
set_option linter.all false
set_option maxRecDepth 100000
set_option maxHeartbeats 4000000
namespace Lw
open PySem L2
def top (i:Nat):Stmt:=PySem.Challenge.pw_holefloor_k26_whole_even_lack_of_two_sid.main.body.getD i (.Pass ⟨0,0,0,0⟩)
abbrev Ya0:Stmt:=top 1
abbrev Yag:Stmt:=top 2
abbrev Yam:Stmt:=top 4
abbrev Ya1:Stmt:=top 5
abbrev Ya2:Stmt:=top 6
abbrev Ya3:Stmt:=top 7
abbrev Ya4:Stmt:=top 9
abbrev Ya5:Stmt:=top 10
abbrev Yan:Stmt:=top 11
abbrev Ya6:Stmt:=top 13
abbrev Ya7:Stmt:=top 14
abbrev Ya8:Stmt:=top 16
abbrev Ya9:Stmt:=top 17
abbrev Yba:Stmt:=top 18
abbrev Ybb:Stmt:=top 19
abbrev Yao:Stmt:=top 20
abbrev Ybc:Stmt:=top 21
abbrev Yap:Stmt:=top 23
abbrev Yaq:Stmt:=top 24
abbrev Yar:Stmt:=top 25
abbrev Yas:Stmt:=top 26
abbrev Ybd:Stmt:=top 27
abbrev Yat:Stmt:=top 28
abbrev Yau:Stmt:=top 30
abbrev Ybe:Stmt:=top 31
abbrev Ybf:Stmt:=top 32
abbrev Yah:Stmt:=top 33
abbrev Yav:Stmt:=top 34
abbrev Ybg:Stmt:=top 35
abbrev Yae:Stmt:=top 36
theorem Ybo:FnScope ["web","end"] ["web","end"] (defScope Ya0):=⟨rfl,rfl,rfl,by decide +kernel,rfl,by decide +kernel,by decide +kernel⟩
theorem Yad:FnScope ["web","many","ties","firsts","a","b","low","high"] ["web"] (defScope Yag):=⟨rfl,rfl,rfl,by decide +kernel,rfl,by decide +kernel,by decide +kernel⟩
theorem Yaw:FnScope ["ends","at"] ["ends"] (defScope Yam):=⟨rfl,rfl,rfl,by decide +kernel,rfl,by decide +kernel,by decide +kernel⟩
theorem Ybl:FnScope ["web","order","end","row"] ["web","order","end"] (defScope Ya1):=⟨rfl,rfl,rfl,by decide +kernel,rfl,by decide +kernel,by decide +kernel⟩
theorem Ybm:FnScope ["web","order","end","row"] ["web","order","end"] (defScope Ya2):=⟨rfl,rfl,rfl,by decide +kernel,rfl,by decide +kernel,by decide +kernel⟩
theorem Ybp:FnScope ["row"] ["row"] (defScope Ya3):=⟨rfl,rfl,rfl,by decide +kernel,rfl,by decide +kernel,by decide +kernel⟩
theorem Ybq:FnScope ["web","order","end"] ["web","order","end"] (defScope Ya4):=⟨rfl,rfl,rfl,by decide +kernel,rfl,by decide +kernel,by decide +kernel⟩
theorem Yax:FnScope ["web","order","end","face","come"] ["web","order","end"] (defScope Ya5):=⟨rfl,rfl,rfl,by decide +kernel,rfl,by decide +kernel,by decide +kernel⟩
theorem Yai:FnScope ["web","order","told","gone","end","face","come"] ["web","order"] (defScope Yan):=⟨rfl,rfl,rfl,by decide +kernel,rfl,by decide +kernel,by decide +kernel⟩
theorem Ybr:FnScope ["web","order"] ["web","order"] (defScope Ya6):=⟨rfl,rfl,rfl,by decide +kernel,rfl,by decide +kernel,by decide +kernel⟩
theorem Ybh:FnScope ["web","faces_many","many","ties"] ["web","faces_many"] (defScope Ya7):=⟨rfl,rfl,rfl,by decide +kernel,rfl,by decide +kernel,by decide +kernel⟩
theorem Ybn:FnScope ["web","order","crossings","state","partner"] ["web","order","crossings","state"] (defScope Ya8):=⟨rfl,rfl,rfl,by decide +kernel,rfl,by decide +kernel,by decide +kernel⟩
theorem Ybs:FnScope ["web","crossings","state"] ["web","crossings","state"] (defScope Ya9):=⟨rfl,rfl,rfl,by decide +kernel,rfl,by decide +kernel,by decide +kernel⟩
theorem Ybi:FnScope ["crossings","state","end","hand"] ["crossings","state"] (defScope Yba):=⟨rfl,rfl,rfl,by decide +kernel,rfl,by decide +kernel,by decide +kernel⟩
theorem Yay:FnScope ["web","order","crossings","state","come_through","come"] ["web","order","crossings","state"] (defScope Ybb):=⟨rfl,rfl,rfl,by decide +kernel,rfl,by decide +kernel,by decide +kernel⟩
theorem Yaj:FnScope ["web","order","crossings","told","gone","end","face","state"] ["web","order","crossings"] (defScope Yao):=⟨rfl,rfl,rfl,by decide +kernel,rfl,by decide +kernel,by decide +kernel⟩
theorem Ybt:FnScope ["web","order","crossings"] ["web","order","crossings"] (defScope Ybc):=⟨rfl,rfl,rfl,by decide +kernel,rfl,by decide +kernel,by decide +kernel⟩
theorem Yak:FnScope ["web","crossings","paths","given","tie","a","b"] ["web","crossings"] (defScope Yap):=⟨rfl,rfl,rfl,by decide +kernel,rfl,by decide +kernel,by decide +kernel⟩
theorem Yal:FnScope ["web","paths","end","here","there"] ["web"] (defScope Yaq):=⟨rfl,rfl,rfl,by decide +kernel,rfl,by decide +kernel,by decide +kernel⟩
theorem Ybj:FnScope ["path","end","other"] ["path","end","other"] (defScope Yar):=⟨rfl,rfl,rfl,by decide +kernel,rfl,by decide +kernel,by decide +kernel⟩
theorem Ybu:FnScope ["crossings","ends"] ["crossings","ends"] (defScope Yas):=⟨rfl,rfl,rfl,by decide +kernel,rfl,by decide +kernel,by decide +kernel⟩
theorem Ybv:FnScope ["given","a","b","crossing"] ["given","a","b","crossing"] (defScope Ybd):=⟨rfl,rfl,rfl,by decide +kernel,rfl,by decide +kernel,by decide +kernel⟩
theorem Ybk:FnScope ["web","order","crossings","place","rows","changed"] ["web","order","crossings","place"] (defScope Yat):=⟨rfl,rfl,rfl,by decide +kernel,rfl,by decide +kernel,by decide +kernel⟩
theorem Ybw:FnScope ["_law_script"] ["_law_script"] (defScope Yau):=⟨rfl,rfl,rfl,by decide +kernel,rfl,by decide +kernel,by decide +kernel⟩
theorem Yaf:FnScope ["_law_pen_here","_law_many","_law_digit","_law_at","_law_cell","_law_number"] ["_law_pen_here","_law_many"] (defScope Ybe):=⟨rfl,rfl,rfl,by decide +kernel,rfl,by decide +kernel,by decide +kernel⟩
theorem Yaa:FnScope ["_law_pen_here","_law_places","_law_ties","_law_many","_law_way","_law_count","_law_found","_law_k","_law_a","_law_b"] ["_law_pen_here","_law_places","_law_ties"] (defScope Ybf):=⟨rfl,rfl,rfl,by decide +kernel,rfl,by decide +kernel,by decide +kernel⟩
theorem Yaz:FnScope ["_law_pen_here","_law_web_here","_law_rows","_law_k","_law_row","!0","!1","!2","!3","!4","!5","!6","!7","!8","!9","!10","!11","!12","!13","!14","!15","!16","!17","!18","!19","!20","!21","!22","!23","!24"] ["_law_pen_here","_law_web_here"] (defScope Yah):=⟨rfl,rfl,rfl,by decide +kernel,rfl,by decide +kernel,by decide +kernel⟩
theorem Yac:FnScope ["_law_pen_here","_law_web_here","_law_way","_law_held","_law_odd","_law_found","_law_tie","_law_pair","_law_number"] ["_law_pen_here","_law_web_here"] (defScope Yav):=⟨rfl,rfl,rfl,by decide +kernel,rfl,by decide +kernel,by decide +kernel⟩
theorem Ybx:FnScope ["_law_found"] ["_law_found"] (defScope Ybg):=⟨rfl,rfl,rfl,by decide +kernel,rfl,by decide +kernel,by decide +kernel⟩
theorem Yab:FnScope ["_law_script","_law_pen_here","_law_web_here","_law_order_here","_law_crossings_here","_law_found","_law_given","_law_place"] ["_law_script"] (defScope Yae):=⟨rfl,rfl,rfl,by decide +kernel,rfl,by decide +kernel,by decide +kernel⟩
def Mb (mg:Str->Option Value):Prop:=∀x∈["abs","bool","enumerate","int","isinstance","len","list","max","min","range","set","sorted","sum","tuple","zip"],mg x=none
local macro_rules | `(tactic| walk_at "js")=>`(tactic| first
 |with_reducible refine Zam (t:=tAsg _ _) ?_
 |with_reducible refine Zam (t:=tPar _ _ _) ?_
 |with_reducible refine Zam (t:=tDrop _) ?_
 |with_reducible refine iteF ?_
 |with_reducible refine iteT ?_
 |with_reducible refine Zbb ?_
 |with_reducible refine Za9 ?_
 |with_reducible refine Zdf ?_
 |with_reducible refine Zkz ?_
 |with_reducible refine Zax ?_
 |refine Zpi rfl rfl ?_
 |refine Ztv rfl rfl ?_
 |with_reducible refine Zaj ?_
 |with_reducible refine Zz6 ?_
 |with_reducible refine Zai ?_
 |with_reducible refine Zz5 ?_
 |with_reducible refine Zx4 ?_
 |with_reducible refine Zvg ?_
 |with_reducible refine Zbs ?_
 |with_reducible refine Zay ?_
 |refine Ziu rfl rfl ?_
 |refine Zd4 rfl rfl ?_
 |with_reducible refine Zcb ?_
 |with_reducible refine Zlq ?_
 |with_reducible refine Zxp ?_
 |with_reducible refine Zpp ?_
 |with_reducible refine Zla ?_
 |with_reducible refine Zpc ?_
 |with_reducible refine Zf7 ?_
 |with_reducible refine Zeo ?_
 |with_reducible refine Zet ?_
 |with_reducible refine Zaf ?_
 |with_reducible refine Zac ?_
 |with_reducible refine Za3 ?_
 |with_reducible refine Zhv ?_
 |with_reducible refine Zoh ?_
 |with_reducible refine Zft ?_
 |with_reducible refine Zej ?_
 |with_reducible refine Zcg ?_
 |with_reducible refine Zc1 ?_
 |with_reducible refine Ze7 ?_
 |with_reducible refine Zpt ?_
 |with_reducible refine Zdt ?_
 |with_reducible refine Znf ?_
 |with_reducible refine Zx5 ?_
 |with_reducible refine Zhj ?_
 |with_reducible refine Zbk ?_
 |refine Zab rfl ?_
 |refine Zav rfl ?_
 |refine Zbu rfl ?_
 |refine Zcr (Or.inl rfl) ?_
 |refine Zcr (Or.inr rfl) ?_
 |refine Zcx (Or.inl rfl) ?_
 |refine Zcx (Or.inr rfl) ?_
 |refine Zuw (Or.inl rfl) ?_
 |refine Zuw (Or.inr rfl) ?_
 |refine Zmg ?_
 |refine⟨⟨_,_,rfl,rfl⟩,?_⟩
 |refine⟨_,_,_,_,rfl,rfl,rfl,rfl,?_⟩
 |refine⟨_,rfl,?_⟩
 |refine jr_I (by first|(show (0:Int)<_;omega)|exact⟨by omega,by omega⟩|exact Or.inl ⟨by omega,by omega⟩|exact Or.inr ⟨by omega,by omega⟩|exact⟨by decide,by decide,by decide⟩) ?_)
local macro_rules | `(tactic| walk_at "draw")=>`(tactic| first|refine Zeq rfl rfl (by assumption) (by omega) (by omega) λ_ _ _ _ _=>?_|refine⟨_,_,rfl,rfl,by assumption,_,rfl,by omega,by omega,λ_ _ _ _ _=>?_⟩)
def Pen (ps:List D):Prop:=∃(cs:List Int) (at_ num:Int),ps=[.lst (cs.map .int),.int at_,.int num]/\0<=at_/\0<=num/\cs.length<=63
def fDraw:BSp:=λps ds Post=>Pen ps/\∃m:Int,ds=[.int m]/\1<=m/\m<=100000000000000000000000000000000000000000000000000000000000/\∀r ps',Pen ps' -> 0<=r->r<m->Post (.int r) ps'
abbrev LendQ (f:BSp) (i:Nat) (P:D->Evt->Prop):List D->Evt->Prop:=λds Z1=>∃y ps,Z1[i]?=some y/\y.od=some (.lst ps)/\f ps ds λd ps'=>P d (Z1.set i<|y.put (.lst ps'))
theorem Ziu {K:W.Frag}{Z:Evt}{P:D->Evt->Prop}{f:BSp}{ta:TA}{E:XK}{i:Nat}{x:Slot}{od:OD}(hx:Z[i]?=some x) (ho:x.od=some od) (h:JA K ta Z (LendQ f i P)):JE K (tCall (spB K f) [] E<|tCons (tVar i) ta) Z P:=Zd4 hx ho h
theorem Zeq {Z1:Evt}{i:Nat}{y:Slot}{ps:List D}{m:Int}{P:D->Evt->Prop}(hx:Z1[i]?=some y) (ho:y.od=some (.lst ps)) (hp:Pen ps) (h1:1<=m) (h2:m<=100000000000000000000000000000000000000000000000000000000000) (h:∀r ps',Pen ps' -> 0<=r->r<m->P (.int r) (Z1.set i<|y.put (.lst ps'))) :
  LendQ fDraw i P [.int m] Z1:=⟨y,ps,hx,ho,hp,m,rfl,h1,h2,h⟩
theorem Z0d {K:W.Frag}{Z:Evt}{E:XK}{i:Nat}{y:Slot}{ps:List D}{m:Int}{P:D->Evt->Prop}(hx:Z[i]?=some y) (ho:y.od=some (.lst ps)) (hp:Pen ps) (h1:1<=m) (h2:m<=100000000000000000000000000000000000000000000000000000000000) (h:∀r ps',Pen ps' -> 0<=r->r<m->P (.int r) (Z.set i<|y.put (.lst ps'))) :
  JE K (tCall (spB K fDraw) [] E<|tCons (tVar i)<|tCons (tC (.int m)) tNil) Z P:=Ziu hx ho<|Zac<|Zai<|Zaf<|Zeq hx ho hp h1 h2 h
section
variable {P:Program}{w:World}{K:W.Frag}{mg:Str->Option Value}{base:Heap}{f:Addr}{fd:FuncData}
theorem Zv7 (mb:Mb mg) (F:Fun K "_law_draw" "_law_draw" Ybe f fd):FnOk P w K mg base CX0 1 f fd ["_law_pen_here","_law_many"] (spB K fDraw):=by
 refine F.ok Yaf (Zi6 λps ds Post h=>by obtain⟨_,m,rfl,_⟩:=h;rfl) λcdv A outer s H vs Q E hr h=>?_;have hu:=Zby hr;refine⟨_,(Zad (Zc0 (Zaz Zvn (Za0 (ixK K hu) (pv 0) Zag λ_ _=>rfl) Zag<|nomark _) (Zad (Zaq (i:=2) Yaf.nd rfl (Or.inl rfl)<|Zat Zb2 (Za0 (ixK K hu) (pv 0) Zag λ_ _=>rfl)<|pv 1)<|Zad (Ze4 (Zat Zi7 (Za0 (ixK K hu) (pv 0) Zag λ_ _=>rfl)<|pv 1)<|Zj5 (pv 0) Zag<|setU hu)<|Zah<|Za1<|pv 2) Zbe)<|Zad (Zaq (i:=3) Yaf.nd rfl (Or.inl rfl)<|Za0 (ixK K hu) (pv 0) Zag λ_ _=>rfl)<|Zad (Ze4 (Zat (addK K) (pv 3) Zag)<|Zj5 (pv 0) Zag<|setU hu)<|Zad (Zaq (i:=4) Yaf.nd rfl (Or.inl rfl) Zag)<|Zad (Zc0 (Zaz Zvn (Zas (lenK K) rfl (mb "len"<|by decide) Zcn<|Zaa (Za0 (ixK K hu) (pv 0) Zag λ_ _=>rfl) Zae) Zag<|nomark _) (Zah<|Zaq (i:=4) Yaf.nd rfl (Or.inl rfl)<|Za0 (ixK K hu) (Za0 (ixK K hu) (pv 0) Zag λ_ _=>rfl) (Zat Zb2 (pv 3)<|Zas (lenK K) rfl (mb "len"<|by decide) Zcn<|Zaa (Za0 (ixK K hu) (pv 0) Zag λ_ _=>rfl) Zae) λ_ _=>rfl) Zbe)<|Zad (Zc0 (PW.pt<|pw_and (Zaz Zsk (pv 3) (Zas (lenK K) rfl (mb "len"<|by decide) Zcn<|Zaa (Za0 (ixK K hu) (pv 0) Zag λ_ _=>rfl) Zae)<|nomark _)<|pw_and1<|Zaz Z0c (Zas Zik rfl (mb "abs"<|by decide) Zoy<|Zaa (pv 4) Zae) (Zat Zyv Zag Zag)<|nomark _) (Zad (Ze4 (Zat Zi7 (Zas Zik rfl (mb "abs"<|by decide) Zoy<|Zaa (pv 4) Zae)<|pv 1)<|Zj5 (pv 0) Zag<|setU hu)<|Zah<|Za1<|Zat Zb2 (Zas Zik rfl (mb "abs"<|by decide) Zoy<|Zaa (pv 4) Zae)<|pv 1) Zbe)<|Zad (Zaq (i:=5) Yaf.nd rfl (Or.inl rfl)<|Zat Zb2 (Zat Zdg (Zat (addK K) (Zat (addK K) (Zat Zb2 (pv 4) Zag)<|Zat Zdg Zag<|pv 3) Zag) Zag) Zag)<|Zad (Zaq (i:=5) Yaf.nd rfl (Or.inl rfl)<|Zat Zb2 (Zat (addK K) (Zat (addK K) (Zat Zdg (pv 5)<|pv 5)<|Zat Zdg Zag<|pv 5)<|pv 3) Zag)<|Zah<|Za1<|Zat Zb2 (Zat Zi7 (Zat Zb2 (Zat Zdg (pv 5) Zag) Zag) Zag)<|pv 1),Zrw (λps ds Post hf=>?_) h⟩;obtain⟨⟨cs,at_,num,rfl,h1,h2,h3⟩,m,rfl,h4,h5,q⟩:=hf;refine⟨by simp,?_⟩;dsimp only[cxOf,startD,Wbp,Wbl,Wbb,Wak];refine Zbi (λZ=>¬ 0<num /\ Z = [.bor (.lst [.lst (cs.map .int),.int at_,.int num]),.val (.int m),.any,.any,.any,.any]) ?_ ?_
 ·repeat walk_at "js"
  refine ite2 (λc=>?_) λc=>?_
  ·have c:=of_decide_eq_true c
   repeat walk_at "js"
   exact q _ _ ⟨cs,at_,num / m,rfl,h1,Int.ediv_nonneg h2 (by omega),h3⟩ (Wc7 _<|by omega) (Wct _<|by omega)
  ·repeat walk_at "js"
   exact⟨of_decide_eq_false<|Wb0.mpr c,rfl⟩
 rintro Z1 ⟨hn,rfl⟩
 repeat walk_at "js"
 refine Zbi (λZ=>∃c:Int,Z = [.bor (.lst [.lst (cs.map .int),.int (at_+1),.int num]),.val (.int m),.any,.val (.int at_),.val (.int c),.any]) ?_ ?_
 ·repeat walk_at "js"
  refine ite2 (λc=>?_) λc=>?_
  ·have c:=of_decide_eq_true c
   rw[Wab]at c
   repeat walk_at "js"
   rw[Wab]
   repeat walk_at "js"
   obtain⟨cell,_,hc⟩:=Zp2 (f:=D.int) (xs:=cs) (i:=at_ % (cs.length:Int)) (Wc7 _<|by omega) (Wct _<|by omega);refine Zbu hc ?_;exact⟨cell,rfl⟩
  ·repeat walk_at "js"
   exact⟨11,rfl⟩
 rintro Z1 ⟨cell,rfl⟩;refine Zbi (λZ=>Z = [.bor (.lst [.lst (cs.map .int),.int (at_+1),.int num]),.val (.int m),.any,.val (.int at_),.val (.int cell),.any]) ?_ ?_
 ·repeat walk_at "js"
  refine ite2 (λc=>?_) λc=>?_
  ·repeat walk_at "js"
   refine ite2 (λc=>?_) λc=>?_
   ·repeat walk_at "js"
    have ha:0<=(if cell<0 then -cell else cell):=by split <;> omega
    exact q _ _ ⟨cs,at_+1,_,rfl,by omega,Int.ediv_nonneg ha (by omega),h3⟩ (Wc7 _<|by omega) (Wct _<|by omega)
   ·repeat walk_at "js"
    rfl
  ·repeat walk_at "js"
   rfl
 rintro Z1 rfl
 repeat walk_at "js"
 exact q _ _ ⟨cs,at_+1,num,rfl,by omega,h2,h3⟩ (Wc7 _<|by omega) (Wct _<|by omega)
end
def fPen:NSp:=λds Post=>∃ns:List Int,ds=[.scr (ns.map .int)]/\ns.length<=63/\∀ps,Pen ps->Post ps
section
variable {P:Program}{w:World}{K:W.Frag}{mg:Str->Option Value}{base:Heap}{f:Addr}{fd:FuncData}
theorem Zx1 (mb:Mb mg) (F:Fun K "_law_pen" "_law_pen" Yau f fd):FnOk P w K mg base CX0 1 f fd ["_law_script"] (spN K fPen):=by
 refine F.ok Ybw (Zim λds Post h=>by obtain⟨ns,rfl,_⟩:=h;rfl) λcdv A outer s H vs Q E hr h=>?_;refine⟨_,(Zah<|Za1<|Zh0<|Zaa (Zcu ["_law_cell"] (show CompSc (defScope Yau) ["_law_script"] _ [] [] from ⟨rfl,by decide +kernel,by decide +kernel,by decide +kernel,rfl,by decide +kernel⟩) rfl (seqK K<|Zdr (slK K) (pv 0) Zer<|Zd9 Zag) (λ_ _ _ _ _=>(Zap (i:=0) (show List.Nodup (["_law_cell"]:List Str) from by decide) rfl<|Or.inl rfl)) (λ_ _ _ _ _=>Zcf) λ_ _ _ _ _=>(pv 0))<|Zaa Zag<|Zaa Zag Zae),Zr0 (λds Post hf=>?_) h⟩;obtain⟨ns,rfl,h1,q⟩:=hf;refine⟨by simp,?_⟩;dsimp only[cxOf,startD,Wbp,Wbl,Wbb,Wak];refine Zg5<|Zhr<|Zac<|Zdh (by decide)<|Zkb ?_
 repeat walk_at "js"
 have e:cutD (ns.map D.int) none (some 63)=ns.map D.int:=by
  unfold cutD;have e1:HT.sIx (ns.map D.int).length 0 none=0:=rfl;have e2:HT.sIx (ns.map D.int).length (ns.map D.int).length (some 63)=ns.length:=by
   rw[Wab];show min (Int.toNat 63) ns.length=_;omega
  rw[e1,e2,List.drop_zero,Wep,Wdi (by simp)]
 rw[e];refine⟨_,Or.inl rfl,by rw[Wab];exact Wcs h1 (by decide),λ_=>true,λd=>d,λi d hd=>?_,?_⟩
 ·repeat walk_at "js"
  exact⟨rfl,Zab rfl ⟨rfl,_,rfl⟩⟩
 ·repeat walk_at "js"
  refine⟨by show 3<=sizeLine;decide,_,rfl,q _ ⟨ns,0,0,?_,by decide,by decide,h1⟩⟩;simp
end
def encTie (t:Int × Int):D:=.tup [.int t.1,.int t.2]
def encWeb (n:Int) (ts:List (Int × Int)):D:=.tup [.int n,.tup (ts.map encTie)]
structure WebOk (n:Int) (ts:List (Int × Int)):Prop where
 lo:1<=n
 hi:n<=25
 len:ts.length<=24
 tie:∀t∈ts,0<=t.1/\t.1<n/\0<=t.2/\t.2<n
def fWeb:BSp:=λps ds Post=>Pen ps/\∃a b:Int,ds=[.int a,.int b]/\1<=a/\a<=25/\0<=b/\b<=24/\∀n ts ps',Pen ps' -> WebOk n ts->n<=a->(ts.length:Int)<=b->Post (encWeb n ts) ps'
theorem Zyn {Z1:Evt}{i:Nat}{y:Slot}{ps:List D}{a b:Int}{P:D->Evt->Prop}(hx:Z1[i]?=some y) (ho:y.od=some (.lst ps)) (hp:Pen ps) (h1:1<=a) (h2:a<=25) (h3:0<=b) (h4:b<=24) (h:∀n ts ps',Pen ps' -> WebOk n ts->n<=a->(ts.length:Int)<=b->P (encWeb n ts) (Z1.set i<|y.put (.lst ps'))) :
  LendQ fWeb i P [.int a,.int b] Z1:=⟨y,ps,hx,ho,hp,a,b,rfl,h1,h2,h3,h4,h⟩
theorem Zq3:2<=sizeLine:=by decide
theorem Zka {K:W.Frag}{Z:Evt}{i:Nat}{v c:Int}{P:Bool->Evt->Prop}(hx:Z[i]?=some (.val (.int v))) (h1:v=c->P true Z) (h2:¬ v=c->P false Z):JT K (tTest<|tOp rEq (tVar i)<|tC (.int c)) Z P:=
 Za3 (Zaj (Zab hx (Zai (Zdt ⟨_,rfl,by
  by_cases h:v=c
  ·rw[decide_eq_true h];exact h1 h
  ·rw[decide_eq_false h];exact h2 h⟩))))
def wSt (py:List D) (a b n way k:Int) (fs:List D) (i u v:Int):Evt:=[.bor (.lst py),.val (.int a),.val (.int b),.val (.int n),.val (.int way),.val (.int k),.own (.lst fs),.val (.int i),.val (.int u),.val (.int v)]
def wQ (py:List D) (a b n way k:Int) (fs:List D) (i:Int):Evt->Prop:=λZ=>∃u v:Int,0<=u/\u<n/\0<=v/\v<n /\ Z = wSt py a b n way k fs i u v
def wR (py:List D) (a b n way k:Int) (fs:List D) (i:Int):Evt->Prop:=λZ=>∃u v:Int,0<=u/\u<n/\0<=v /\ Z = wSt py a b n way k fs i u v
def wL (a b n way k:Int) (i:Nat):Evt->Prop:=λZ=>∃(ps:List D) (ts:List (Int × Int)) (x7 x8 x9:Slot),Pen ps/\ts.length=i/\(∀t∈ts,0<=t.1/\t.1<n/\0<=t.2/\t.2<n) /\ Z = [.bor (.lst ps),.val (.int a),.val (.int b),.val (.int n),.val (.int way),.val (.int k),.own (.lst<|ts.map encTie),x7,x8,x9]
section
variable {P:Program}{w:World}{K:W.Frag}{mg:Str->Option Value}{base:Heap}{f:Addr}{fd:FuncData}
theorem Zx3 (mb:Mb mg) (C32:Callee P w K mg base 1 "_law_draw" ["_law_pen_here","_law_many"] (spB K fDraw)) (F:Fun K "_law_web" "_law_web" Ybf f fd):FnOk P w K mg base CX0 2 f fd ["_law_pen_here","_law_places","_law_ties"] (spB K fWeb):=by
 refine F.ok Yaa (Zi6 λps ds Post h=>by obtain⟨_,a,b,rfl,_⟩:=h;rfl) λcdv A outer s H vs Q E hr h=>?_;refine⟨_,(Zad (Zaq (i:=3) Yaa.nd rfl (Or.inl rfl)<|Zat (addK K) Zag<|Za4 C32 (hr.mono<|by decide)<|Zaa (pv 0)<|Zaa (pv 1) Zae)<|Zad (Zaq (i:=4) Yaa.nd rfl (Or.inl rfl)<|Za4 C32 (hr.mono<|by decide)<|Zaa (pv 0)<|Zaa Zag Zae)<|Zad (Zaq (i:=5) Yaa.nd rfl (Or.inl rfl)<|Za4 C32 (hr.mono<|by decide)<|Zaa (pv 0)<|Zaa (Zat (addK K) (pv 2) Zag) Zae)<|Zad (Zc0 (Zaz Zbt (pv 4) Zag<|nomark _) (Zad (Zaq (i:=3) Yaa.nd rfl (Or.inl rfl)<|pv 1)<|Zah<|Zaq (i:=5) Yaa.nd rfl (Or.inl rfl)<|pv 2) Zbe)<|Zad (Zaq (i:=6) Yaa.nd rfl (Or.inl rfl)<|Zh0 Zae)<|Zad (Zdu PassesOwn.never rfl (Zbp rfl (mb "range"<|by decide)<|Zaa (pv 5) Zae) (Zap (i:=7) Yaa.nd rfl<|Or.inl rfl)<|Zad (Zun (i:=8) (j:=9) rfl Yaa.nd rfl rfl (by decide) rfl rfl (Zaa (Za4 C32 (hr.mono<|by decide)<|Zaa (pv 0)<|Zaa (pv 3) Zae)<|Zaa (Za4 C32 (hr.mono<|by decide)<|Zaa (pv 0)<|Zaa (pv 3) Zae) Zae) rfl)<|Zad (Zc0 (Zaz Zbt (pv 4) Zag<|nomark _) (Zah<|Zun (i:=8) (j:=9) rfl Yaa.nd rfl rfl (by decide) rfl rfl (Zaa (Zat Zb2 (pv 7)<|pv 3)<|Zaa (Zat Zb2 (Zat (addK K) (pv 7) Zag)<|pv 3) Zae) rfl) Zbe)<|Zad (Zc0 (Zaz Zbt (pv 4) Zag<|nomark _) (Zah<|Zaq (i:=8) Yaa.nd rfl (Or.inl rfl) Zag) Zbe)<|Zad (Zc0 (Zaz Zbt (pv 4) Zag<|nomark _) (Zah<|Zaq (i:=9) Yaa.nd rfl (Or.inl rfl)<|Zat (addK K) (Zat Zb2 (pv 8) Zag)<|Zat Zdg (Zat Zfi (pv 9) Zag) Zag) Zbe)<|Zad (Zc0 (PW.pt<|pw_and (Zaz Zbt (pv 4) Zag<|nomark _)<|pw_and1<|Zaz Zbt (Zat Zb2 (pv 9) Zag) Zag<|nomark _) (Zah<|Zaq (i:=9) Yaa.nd rfl (Or.inl rfl)<|pv 8) Zbe)<|Zah<|Zcz<|bmK K PySem.F.plainAttrs_list PySem.F.slot_list_append PySem.F.type_list_append Zcc (pv 6)<|Zaa (Zcd<|Zaa (pv 8)<|Zaa (Zas (Zgd rfl) rfl (mb "min"<|by decide) Zkj<|Zaa (pv 9)<|Zaa (Zat Zfq (pv 3) Zag) Zae) Zae) Zae)<|Zah<|Za1<|Zcd<|Zaa (pv 3)<|Zaa (Zbd (tupK K) rfl (mb "tuple"<|by decide) Zbx<|Zaa (pv 6) Zae) Zae),Zrw (λps ds Post hf=>?_) h⟩;obtain⟨hp,a,b,rfl,h1,h2,h3,h4,q⟩:=hf;refine⟨by simp,?_⟩;dsimp only[cxOf,startD,Wbp,Wbl,Wbb,Wak];refine Zam<|Zax<|Zaj<|Zai<|Ziu rfl rfl<|Yz1 rfl<|Zaf (Zeq (m:=a) rfl rfl hp h1 (Int.le_trans h2<|by decide) λr0 ps0 hp0 hr0 hs0=>Zc1 ?_);refine Zam<|Zax (Z0d rfl rfl hp0 (by decide) (by decide) λway ps1 hp1 hw0 hw1=>?_);refine Zam<|Zax<|Ziu rfl rfl<|Zac<|Zn3 (Zes (Zc6 rfl) Zdw Zlu)<|Zaf (Zeq (m:=b+1) rfl rfl hp1 (Int.add_le_add h3<|Wdx 1) (Int.le_trans (Int.add_le_add h4<|Wdx 1)<|by decide) λcnt ps2 hp2 hc0 hc1=>?_);refine Zbi (λZ=>∃n k:Int,1<=n/\n<=a/\0<=k/\k<=b /\ Z = [.bor (.lst ps2),.val (.int a),.val (.int b),.val (.int n),.val (.int way),.val (.int k),.any,.any,.any,.any]) ?_ ?_
 ·refine Zdf (Zka rfl (λc=>iteT ?_) λc=>iteF<|Zbb ⟨1+r0,cnt,Int.le_add_of_nonneg_right hr0,by omega,hc0,Int.le_of_lt_add_one hc1,rfl⟩)
  exact Zam<|Zax<|Zab rfl<|Zax<|Zab rfl ⟨a,b,h1,Wdx _,h3,Wdx _,rfl⟩
 rintro Z1 ⟨n,k,hn0,hn1,hk0,hk1,rfl⟩;have hn2:0<n:=Int.lt_of_lt_of_le (by decide) hn0;have hn3:n≠0:=Int.ne_of_gt hn2;refine Zam<|Zcp<|Zhr<|Zaf ⟨by decide,?_⟩;refine Zbi (wL a b n way k k.toNat) ?_ ?_
 ·refine Zd1 (Zbn<|Yz1 rfl<|Zaf ⟨_,rfl,by omega,by omega,?_⟩)
  refine⟨wL a b n way k,⟨ps2,[],.any,.any,.any,hp2,rfl,λ_ h=>(nomatch h),rfl⟩,?_,λZ2 h=>by rw[Zbc]at h;exact h⟩;rintro i d Z2 hd ⟨ps,ts,x7,x8,x9,hp',hl,ht,rfl⟩;obtain⟨hi,rfl⟩:=Zch hd;generalize (0+(i:Int))=I;refine Zbk<|Zam<|Zkz<|Zac<|Ziu rfl rfl<|Yz1 rfl<|Zaf (Zeq (m:=n) rfl rfl hp' hn0 (by omega) λx px hpx hx0 hx1=>?_);refine Zac<|Ziu rfl rfl<|Yz1 rfl<|Zaf (Zeq (m:=n) rfl rfl hpx hn0 (by omega) λy py hpy hy0 hy1=>Zaf ⟨_,_,rfl,?_⟩);refine Zbi (wQ py a b n way k (ts.map encTie) I) ?_ ?_
  ·refine Zdf (Zka rfl (λc=>iteT ?_) λc=>iteF<|Zbb ⟨x,y,hx0,hx1,hy0,hy1,rfl⟩)
   exact Zkz<|Zxi (Zm2 (Zes (Zc6 rfl) (Zc6 rfl)<|pr_I hn2)<|Zm2 (Zes (Zes (Zc6 rfl) Zdw Zlu) (Zc6 rfl)<|pr_I hn2) Zxc) ⟨_,_,rfl,_,_,Wc7 _ hn3,Wct _ hn2,Wc7 _ hn3,Wct _ hn2,rfl⟩
  rintro Z3 ⟨u,v,hu0,hu1,hv0,hv1,rfl⟩;refine Zbi (wQ py a b n way k (ts.map encTie) I) ?_ ?_
  ·exact Zdf<|Zka rfl (λc=>iteT<|Zax<|Zai ⟨0,v,Wdx _,hn2,hv0,hv1,rfl⟩) λc=>iteF<|Zbb ⟨u,v,hu0,hu1,hv0,hv1,rfl⟩
  rintro Z3 ⟨u,v,hu0,hu1,hv0,hv1,rfl⟩;refine Zbi (wR py a b n way k (ts.map encTie) I) ?_ ?_
  ·refine Zdf (Zka rfl (λc=>iteT ?_) λc=>iteF<|Zbb ⟨u,v,hu0,hu1,hv0,rfl⟩)
   exact Zax<|Zn3 (Zes (Zes (Zc6 rfl) Zdw<|pr_I (show (0:Int)<2 by decide)) (Zes (Zes (Zc6 rfl) Zdw<|pr_I ⟨by decide,by decide⟩) Zdw<|pr_I<|Or.inr ⟨by decide,by decide⟩) Zlu) ⟨u,_,hu0,hu1,by omega,rfl⟩
  rintro Z3 ⟨u,v,hu0,hu1,hv0,rfl⟩;refine Zbi (wR py a b n way k (ts.map encTie) I) ?_ ?_
  ·refine Zdf (Zhv<|Zka rfl (λc=>iteT ?_) λc=>iteF<|iteF<|Zbb ⟨u,v,hu0,hu1,hv0,rfl⟩)
   refine Za3<|Zaj<|Zn3 (Zes (Zc6 rfl) Zdw<|pr_I (show (0:Int)<2 by decide))<|Zai<|Zdt ⟨_,rfl,ite2 (λc=>?_) λc=>Zbb ⟨u,v,hu0,hu1,hv0,rfl⟩⟩;exact Zax<|Zab rfl ⟨u,u,hu0,hu1,hu0,rfl⟩
  rintro Z3 ⟨u,v,hu0,hu1,hv0,rfl⟩;refine Zhq rfl rfl<|Zcb<|Yz1 rfl<|Zac<|Zbs<|Yz1 rfl<|Zac<|Zn3 (Zes (Zc6 rfl) Zdw Zz3)<|Zaf<|Zhj<|Zaf ?_;refine⟨Zq3,_,_,rfl,rfl,?_,py,ts++[(u,if n-1<v then n-1 else v)],.val (.int I),.val (.int u),.val (.int v),hpy,by rw[Wai,hl];rfl,λt h=>?_,?_⟩
  ·rw[Wab];exact small1000 (by omega)
  ·rcases Wbh.mp h with h|h
   ·exact ht t h
   ·rw[Wa4.mp h]
    refine⟨hu0,hu1,?_,?_⟩
    ·show 0<=(if n-1<v then n-1 else v);split <;> omega
    ·show (if n-1<v then n-1 else v)<n;split <;> omega
  ·rw[Was];rfl
 rintro Z1 ⟨ps3,ts,x7,x8,x9,hp3,hl,ht,rfl⟩;refine Za9<|Zcb<|Yz1 rfl<|Zac<|Zbs<|Zac<|Zeu rfl<|Zaf<|Zcx (Or.inl rfl)<|Zaf ⟨Zq3,?_⟩;exact⟨_,rfl,q n ts _ hp3 ⟨hn0,by omega,by omega,ht⟩ hn1<|by omega⟩
end
def placeAt (ts:List (Int × Int)) (e:Nat):Int:=match ts[e / 2]? with
 |some t=>if e % 2=0 then t.1 else t.2
 |none=>-1
def encRow (r:List Int):D:=.tup<|r.map .int
def encOrd (o:List (List Int)):D:=.tup<|o.map encRow
def endsBelow (ts:List (Int × Int)) (m:Nat) (p:Int):List Int:=((Wah m).filter λe=>decide (placeAt ts e=p)).map λe:Nat=>(e:Int)
structure RowOk (ts:List (Int × Int)) (m:Nat) (p:Int) (r:List Int):Prop where
 perm:r.Perm (endsBelow ts m p)
 first:r.head?=(endsBelow ts m p).head?
structure OrdOk (n:Int) (ts:List (Int × Int)) (o:List (List Int)):Prop where
 len:(o.length:Int)=n
 row:∀(p:Nat) r,o[p]?=some r->RowOk ts (2*ts.length) (p:Int) r
theorem Zel (ts:List (Int × Int)) (k:Nat) (p:Int):endsBelow ts (k+1) p=endsBelow ts k p++(if placeAt ts k=p then [(k:Int)] else []):=by
 unfold endsBelow;rw[Wc5,Wbg,Was];congr 1;by_cases h:placeAt ts k=p
 ·simp[Wa9,h]
 ·simp[Wa9,h]
theorem Zi4 (ts:List (Int × Int)) (m:Nat) (p:Int):(endsBelow ts m p).length<=m:=by
 unfold endsBelow;rw[Wab];exact Wbx (Wcp _ _) (by rw[Waz];exact Wag _)
theorem RowOk.len {ts:List (Int × Int)}{m:Nat}{p:Int}{r:List Int}(h:RowOk ts m p r):r.length<=m:=by rw[h.perm.length_eq];exact Zi4 ts m p
theorem RowOk.stay {ts:List (Int × Int)}{k:Nat}{p:Int}{r:List Int}(h:RowOk ts k p r) (hp:placeAt ts k≠p):RowOk ts (k+1) p r:=by
 have e:=Zel ts k p;rw[if_neg hp,Wbi]at e;exact⟨by rw[e];exact h.perm,by rw[e];exact h.first⟩
theorem RowOk.put {ts:List (Int × Int)}{k j:Nat}{p:Int}{r:List Int}(h:RowOk ts k p r) (hp:placeAt ts k=p) (hj:j<=r.length) (h1:r≠[]->1<=j):RowOk ts (k+1) p (r.take j++(k:Int)::r.drop j):=by
 have e:=Zel ts k p;rw[if_pos hp]at e;refine⟨?_,?_⟩
 ·rw[e]
  refine List.perm_middle.trans ?_;rw[Wdm];exact(List.Perm.cons _ h.perm).trans (List.perm_append_singleton _ _).symm
 ·rw[e]
  cases r with
  |nil=>
   have z:endsBelow ts k p=[]:=List.Perm.eq_nil h.perm.symm;rw[z];have:j=0:=by simpa using hj
   subst this;rfl
  |cons x r'=>
   have h2:=h1 (by simp);obtain⟨j',rfl⟩:∃j',j=j'+1:=⟨j-1,by omega⟩;have h3:=h.first;show some x=_;cases q:endsBelow ts k p with
   |nil=>rw[q]at h3;cases h3
   |cons y l=>rw[q]at h3;exact h3
theorem Zur {ts:List (Int × Int)}{k:Nat}(h:k<2*ts.length):∃t,ts[k / 2]?=some t/\atI (ts.map encTie) ((0+(k:Int)) / 2)=some (encTie t)/\atI [D.int t.1,D.int t.2] ((0+(k:Int)) % 2)=some (.int<|placeAt ts k):=by
 have hk:k / 2<ts.length:=by omega
 refine⟨ts[k / 2],Waa hk,?_,?_⟩
 ·have e:(0+(k:Int)) / 2=((k / 2:Nat):Int):=by omega
  rw[e];exact Zb7 (by rw[Wae,Waa hk];rfl)
 ·have e2:placeAt ts k=if k % 2=0 then ts[k / 2].1 else ts[k / 2].2:=by
   unfold placeAt;rw[Waa hk]
  rw[e2];have e:(0+(k:Int)) % 2=((k % 2:Nat):Int):=by omega
  rw[e];by_cases h0:k % 2=0
  ·rw[if_pos h0,h0];exact Zb7 rfl
  ·have h1:k % 2=1:=by omega
   rw[if_neg h0,h1];exact Zb7 rfl
theorem Zb9 {n:Int}{ts:List (Int × Int)}(hW:WebOk n ts) {k:Nat}(h:k<2*ts.length):0<=placeAt ts k/\placeAt ts k<n:=by
 have hk:k / 2<ts.length:=by omega
 have:=hW.tie _<|Wa8 hk;unfold placeAt;rw[Waa hk];dsimp only;split <;> omega
def fOrder:BSp:=λps ds Post=>Pen ps/\∃n ts,ds=[encWeb n ts]/\WebOk n ts/\∀o ps',Pen ps' -> OrdOk n ts o->Post (encOrd o) ps'
theorem Zs7 {Z1:Evt}{i:Nat}{y:L2.Slot}{ps:List D}{n:Int}{ts:List (Int × Int)}{P:D->Evt->Prop}(hx:Z1[i]?=some y) (ho:y.od=some (.lst ps)) (hp:Pen ps) (hW:WebOk n ts) (h:∀o ps',Pen ps' -> OrdOk n ts o->P (encOrd o) (Z1.set i<|y.put (.lst ps'))) :
  LendQ fOrder i P [encWeb n ts] Z1:=⟨y,ps,hx,ho,hp,n,ts,rfl,hW,h⟩
def oSt (ps:List D) (n:Int) (ts:List (Int × Int)) (cs:List (Addr × List Int)) (x3 x4:L2.Slot):Evt:=.bor (.lst ps)::.val (encWeb n ts)::.val (.lst (cs.map λc=>D.adr c.1))::x3::x4::(cs.map (λc=>L2.Slot.ownA c.1 (.lst<|c.2.map D.int))++Wak (25-n.toNat) .any)
def oP (n:Int) (ts:List (Int × Int)) (k:Nat):Evt->Prop:=λZ=>∃(ps:List D) (cs:List (Addr × List Int)) (x3 x4:L2.Slot),Pen ps/\cs.length=n.toNat/\(∀(p:Nat) c,cs[p]?=some c->RowOk ts k (p:Int) c.2) /\ Z = oSt ps n ts cs x3 x4
theorem Zrb {n:Int}{ts:List (Int × Int)}{ps:List D}{as:List Addr}(hn2:n<=25) (hal:as.length=(Wbl (λ_=>OD.lst []) ((rngD 0 n.toNat).filter λ_=>true)).length):∃cs:List (Addr × List Int),cs.length=n.toNat/\(∀(p:Nat) c,cs[p]?=some c->c.2=[]) /\
  L2.putN 5 (as.zip<|Wbl (λ_=>OD.lst []) ((rngD 0 n.toNat).filter λ_=>true)) ([.bor (.lst ps),.val (encWeb n ts),.val (.lst<|as.map D.adr),.any,.any]++Wak 25 .any)=oSt ps n ts cs .any .any:=by
 have eR:(rngD 0 n.toNat).filter (λ_=>true)=rngD 0 n.toNat:=by simp
 rw[eR,Wab,Zbc]at hal;have eO:(rngD 0 n.toNat).map (λ_=>OD.lst [])=Wak n.toNat (OD.lst []):=by
  rw[List.map_const',Zbc]
 rw[eR,eO];generalize hcs:as.map (λa=>((a,[]):Addr × List Int))=cs;have hcl:cs.length=n.toNat:=by rw[<- hcs,Wab,hal]
 have e1:as.map D.adr=cs.map λc=>D.adr c.1:=by rw[<- hcs,Wa6];rfl
 have e2:as.zip (Wak n.toNat<|OD.lst [])=cs.map λc=>(c.1,OD.lst (c.2.map D.int)):=by
  rw[<- hcs,Wa6,<- hal];clear e1 hcl hcs hal
  induction as with
  |nil=>rfl
  |cons a r ih=>rw[Waj,Wdt,Wcg,ih];rfl
 have e3:=Zqe (cs.map λc=>(c.1,OD.lst (c.2.map D.int))) [.bor (.lst ps),.val (encWeb n ts),.val (.lst (cs.map λc=>D.adr c.1)),.any,.any] [] 25 (by rw[Wab];omega);rw[Wbi,Wbi,Wa6,Wab,hcl]at e3;refine⟨cs,hcl,λp c hc=>?_,by rw[e1,e2];exact e3⟩;rw[<- hcs,Wae]at hc;cases q:as[p]? with
 |none=>rw[q]at hc;cases hc
 |some a=>rw[q]at hc;cases hc;rfl
theorem Zyh {ps:List D}{n:Int}{ts:List (Int × Int)}{cs:List (Addr × List Int)}{x3 x4:L2.Slot}{p:Nat}{c:Addr × List Int}(h:cs[p]?=some c):(oSt ps n ts cs x3 x4)[p+5]?=some (.ownA c.1 (.lst<|c.2.map D.int)):=by
 show (cs.map (λc=>L2.Slot.ownA c.1 (.lst<|c.2.map D.int))++Wak (25-n.toNat) .any)[p]?=_;rw[Wbd (by rw[Wab];exact(Waf.mp h).1),Wae,h];rfl
theorem Zw9 {ps ps':List D}{n:Int}{ts:List (Int × Int)}{cs:List (Addr × List Int)}{x3 x4:L2.Slot}{p:Nat}{c:Addr × List Int}{r:List Int}{v:L2.Slot}(h:cs[p]?=some c) (hv:v=.ownA c.1 (.lst<|r.map D.int)):(oSt ps n ts cs x3 x4).set (p+5) v=oSt ps n ts (cs.set p (c.1,r)) x3 x4:=by
 have hp:=(Waf.mp h).1;have ea:(cs.set p (c.1,r)).map (λc=>D.adr c.1)=cs.map λc=>D.adr c.1:=by
  rw[List.map_set];apply Wca;intro i;by_cases hii:i=p
  ·subst hii
   rw[Wat (by rw[Wab];exact hp),Wae,h];rfl
  ·rw[Wa0 (Ne.symm hii)]
 unfold oSt;rw[ea,List.map_set,hv,<- List.set_append_left _ _ (by rw[Wab];exact hp)];rfl
section
variable {P:Program}{w:World}{K:W.Frag}{mg:Str->Option Value}{base:Heap}{f:Addr}{fd:FuncData}
theorem Zr4 (mb:Mb mg) (C32:Callee P w K mg base 1 "_law_draw" ["_law_pen_here","_law_many"] (spB K fDraw)) (F:Fun K "_law_order" "_law_order" Yah f fd):FnOk P w K mg base CX0 2 f fd ["_law_pen_here","_law_web_here"] (spB K fOrder):=by
 refine F.ok Yaz (Zi6 λps ds Post h=>by obtain⟨_,n,ts,rfl,_⟩:=h;rfl) λcdv A outer s H vs Q E hr h=>?_;have hu:=Zby hr;refine⟨_,(Zad (Zsu 5 (show ∀x∈(["_law_pen_here","_law_web_here","_law_rows","_law_k","_law_row","!0","!1","!2","!3","!4","!5","!6","!7","!8","!9","!10","!11","!12","!13","!14","!15","!16","!17","!18","!19","!20","!21","!22","!23","!24"]:List Str).drop 5,(defScope Yah).names.lookup x=none from by decide +kernel)<|Zeb (i:=2) ["_law_place"] (show CompSc (defScope Yah) ["_law_pen_here","_law_web_here","_law_rows","_law_k","_law_row","!0","!1","!2","!3","!4","!5","!6","!7","!8","!9","!10","!11","!12","!13","!14","!15","!16","!17","!18","!19","!20","!21","!22","!23","!24"] _ [] [] from ⟨rfl,by decide +kernel,by decide +kernel,by decide +kernel,rfl,by decide +kernel⟩) rfl Yaz.nd rfl (Or.inl rfl) (Zbp rfl (mb "range"<|by decide)<|Zaa (Za0 (ixK K hu) (pv 1) Zag λ_ _=>rfl) Zae) (λ_ _ _ _ _=>(Zap (i:=0) (show List.Nodup (["_law_place"]:List Str) from by decide) rfl<|Or.inl rfl)) (λ_ _ _ _ _=>Zcf) λ_ _ _ _ _=>(Zh0 Zae))<|Zad (Zdu PassesOwn.never rfl (Zbp rfl (mb "range"<|by decide)<|Zaa (Zat Zdg Zag<|Zas (lenK K) rfl (mb "len"<|by decide) Zcn<|Zaa (Za0 (ixK K hu) (pv 1) Zag λ_ _=>rfl) Zae) Zae) (Zap (i:=3) Yaz.nd rfl<|Or.inl rfl)<|Zad (Zaq (i:=4) Yaz.nd rfl (Or.inl rfl)<|Za0 (ixK K hu) (pv 2) (Za0 (ixK K hu) (Za0 (ixK K hu) (Za0 (ixK K hu) (pv 1) Zag λ_ _=>rfl) (Zat Zfi (pv 3) Zag) λ_ _=>rfl) (Zat Zb2 (pv 3) Zag) λ_ _=>rfl) λ_ _=>rfl)<|Zah<|Zcz<|bmK K PySem.F.plainAttrs_list PySem.F.slot_list_insert PySem.F.type_list_insert Zri (pv 4)<|Zaa (Zas (Zgd rfl) rfl (mb "min"<|by decide) Zkj<|Zaa (Zas (lenK K) rfl (mb "len"<|by decide) Zcn<|Zaa (pv 4) Zae)<|Zaa (Zat (addK K) Zag<|Za4 C32 (hr.mono<|by decide)<|Zaa (pv 0)<|Zaa (Zas (Zj8 rfl) rfl (mb "max"<|by decide) Zus<|Zaa Zag<|Zaa (Zas (lenK K) rfl (mb "len"<|by decide) Zcn<|Zaa (pv 4) Zae) Zae) Zae) Zae)<|Zaa (pv 3) Zae)<|Zah<|Za1<|Zbd (tupK K) rfl (mb "tuple"<|by decide) Zbx<|Zaa (Zcu ["_law_row"] (show CompSc (defScope Yah) ["_law_pen_here","_law_web_here","_law_rows","_law_k","_law_row","!0","!1","!2","!3","!4","!5","!6","!7","!8","!9","!10","!11","!12","!13","!14","!15","!16","!17","!18","!19","!20","!21","!22","!23","!24"] _ [] [] from ⟨rfl,by decide +kernel,by decide +kernel,by decide +kernel,rfl,by decide +kernel⟩) rfl (seqK K<|pv 2) (λ_ _ _ _ _=>(Zap (i:=0) (show List.Nodup (["_law_row"]:List Str) from by decide) rfl<|Or.inl rfl)) (λ_ _ _ _ _=>Zcf) λ_ _ _ _ _=>(Zbd (tupK K) rfl (mb "tuple"<|by decide) Zbx<|Zaa (pv 0) Zae)) Zae),Zrw (λps ds Post hf=>?_) h⟩;obtain⟨hp,n,ts,rfl,hW,q⟩:=hf;refine⟨by simp,?_⟩;dsimp only[cxOf,startD,Wbp,Wbl,Wbb];have hn:=hW.lo;have hn2:=hW.hi;have hts:=hW.len
 -- the rows
 refine Zam<|Zu4<|Zsq (by decide)<|Zbn ?_;refine Zac<|Yz2 rfl<|Zai<|Zav (d:=.int n) rfl<|Zaf ⟨n,rfl,by omega,by omega,?_⟩;refine⟨by rw[Zbc];exact small1000 (by omega),λ_=>true,λ_=>.lst [],λi d hd=>?_,by decide,?_,λas hal hnd=>?_⟩
 ·exact Zcg ⟨rfl,Zhr<|Zaf ⟨by decide,rfl,_,rfl⟩⟩
 ·rw[Wab]
  have e:((rngD 0 n.toNat).filter λ_=>true).length<=25:=Wbx (Wcp _ _) (by rw[Zbc];omega);show 5+_<=30;omega
 obtain⟨cs,hcl,hce,e⟩:=Zrb (ps:=ps) (ts:=ts) hn2 hal;refine Eq.mpr (congrArg (λZ=>JS K _ Z _) e) ?_
 -- the loop
 refine Zbi (oP n ts (2*ts.length)) ?_ ?_
 ·refine Zd1 (Zbn<|Zac<|Zn3 (Zes Zdw (Zvz<|Zue (ds:=[.int n,.tup (ts.map encTie)]) rfl rfl)<|pr_I<|Or.inl ⟨by decide,by decide⟩)<|Zaf ⟨_,rfl,?_,?_,?_⟩)
  ·rw[Wab];omega
  ·rw[Wab];omega
  have eL:((2:Int)*((ts.map encTie).length:Int)).toNat=2*ts.length:=by rw[Wab];omega
  refine⟨oP n ts,⟨ps,cs,.any,.any,hp,hcl,λp c hc=>by rw[hce p c hc];exact⟨List.Perm.refl _,rfl⟩,rfl⟩,?_,λZ h=>by rw[Zbc,eL]at h;exact h⟩
  ·rintro k d Z2 hd ⟨ps,cs,x3,x4,hp,hcl,hrow,rfl⟩
   rw[eL]at hd;obtain⟨hk,rfl⟩:=Zch hd;obtain⟨t,ht1,ht2,ht3⟩:=Zur hk;obtain⟨pl0,pl1⟩:=Zb9 hW hk;obtain⟨c,hc1,hc2⟩:=Zp2 (f:=λc:Addr × List Int=>D.adr c.1) (xs:=cs) (i:=placeAt ts k) pl0 (by omega);have hR:=hrow _ c hc1;have hRl:=hR.len;have ep:((placeAt ts k).toNat:Int)=placeAt ts k:=Wde pl0;have hsl:∀(ps:List D) (x3 x4:L2.Slot),(oSt ps n ts cs x3 x4)[(placeAt ts k).toNat+5]?=some (.ownA c.1 (.lst<|c.2.map D.int)):=λps x3 x4=>Zyh hc1;have hlen:(c.2.map D.int).length=c.2.length:=Wab _;refine Zbk<|Zam<|Zax<|Zn3 (Zyi (d:=.adr c.1) (Zc6 rfl) (Zpj (Zpj (Zue (d:=.tup<|ts.map encTie) rfl rfl) (Zes (Zc6 rfl) Zdw<|pr_I ⟨by decide,by decide⟩) ht2) (Zes (Zc6 rfl) Zdw<|pr_I (by show (0:Int)<2;decide)) ht3) hc2) ?_;refine Zv9 (a:=c.1) rfl (hsl ps _ _) ?_;refine Zbs<|Zac<|Zok rfl (hsl ps _ _)<|Zac<|Zaj<|Zai<|Ziu rfl rfl<|Zac<|Zbs<|Zac<|Zai<|Zac<|Zok rfl (hsl ps _ _)<|Zaf<|Zhj<|Zaf ?_;refine Zeq rfl rfl hp (by split <;> omega) (by split <;> omega) λr ps' hp' hr0 hr1=>?_
   refine Zc1<|Zaf<|Zhj<|Zab rfl ⟨_,_,_,rfl,hsl ps' _ _,by rw[hlen];exact small1000 (by omega),by split <;> omega,by split <;> omega,?_⟩
   generalize hi:insI (c.2.map D.int).length (if 1+r<((c.2.map D.int).length:Int) then 1+r else ((c.2.map D.int).length:Int))=j;have hj:j<=c.2.length/\(c.2≠[]->1<=j):=by
    rw[<- hi,hlen];unfold insI;refine⟨?_,λh=>?_⟩
    ·split <;> split <;> omega
    ·have:=Wdu.mpr h
     split <;> split <;> omega
   refine⟨ps',cs.set (placeAt ts k).toNat (c.1,c.2.take j++(k:Int)::c.2.drop j),.val (.int (0+(k:Int))),.val (.adr c.1),hp',by rw[Wcy];exact hcl,λp c' hc'=>?_,Zw9 (ps:=ps') (ps':=ps') hc1 ?_⟩
   ·by_cases hpp:p=(placeAt ts k).toNat
    ·subst hpp
     rw[Wat (by omega)]at hc';cases hc';exact hR.put (by omega) hj.1 hj.2
    ·rw[Wa0 (Ne.symm hpp)]at hc'
     exact(hrow p c' hc').stay (by omega)
   ·rw[Was,Weg,Wbe,Wej,Wc1]
 -- the end
 rintro Z1 ⟨ps3,cs3,x3,x4,hp3,hcl3,hrow3,rfl⟩;refine JS.conv (Z':=.bor (.lst ps3)::.val (encWeb n ts)::.val (.lst (cs3.map λc=>D.lst<|c.2.map D.int))::x3::x4::(Wak cs3.length .any++Wak (25-n.toNat) .any)) (λg G H U k=>?_) ?_
 ·have:=Ok.thaw (cs:=cs3.map λc=>(c.1,c.2.map D.int)) (R:=[.bor (.lst ps3),.val (encWeb n ts),.val (.lst (cs3.map λc=>D.adr c.1)),x3,x4]) (T:=Wak (25-n.toNat) .any) (i:=2) (g:=g) (G:=G) (H:=H) (U:=U) (K:=K) (by rw[Wa6];exact k) (by rw[Wa6];rfl)
  rw[Wa6,Wab]at this;exact this
 refine Za9<|Zbs<|Zac<|Zdh (by decide)<|Zkb<|Zab rfl ⟨_,Or.inl rfl,?_,λ_=>true,λd=>match d with|.lst ds=>.tup ds|d=>d,λi d hd=>?_,?_⟩
 ·rw[Wab];exact small1000 (by omega)
 ·rw[Wae]at hd
  cases q:cs3[i]? with
  |none=>rw[q]at hd;cases hd
  |some c=>
   rw[q]at hd;have hd:D.lst (c.2.map D.int)=d:=by simpa using hd
   subst hd;exact Zcg ⟨rfl,Zbs<|Yz1 rfl<|Zaf<|Zcx (Or.inl rfl) ⟨rfl,_,rfl⟩⟩
 ·refine Zaf (Zcx (Or.inl rfl) ⟨ps3,rfl,?_⟩)
  have e:((cs3.map λc=>D.lst<|c.2.map D.int).filter λ_=>true).map (λd=>match d with|.lst ds=>D.tup ds|d=>d)=(cs3.map (·.2)).map encRow:=by
   rw[Wbr.mpr (by simp),Wa6,Wa6];rfl
  rw[e];exact q _ _ hp3 ⟨by rw[Wab];omega,λp r hr=>by
   rw[Wae]at hr;cases z:cs3[p]? with
   |none=>rw[z]at hr;cases hr
   |some c=>rw[z]at hr;cases hr;exact hrow3 p c z⟩
end
def nextIn (r:List Int) (x:Int):Int:=r.getD ((r.idxOf x+1) % r.length) 0
def rowAt (ts:List (Int × Int)) (o:List (List Int)) (e:Nat):List Int:=o.getD (placeAt ts e).toNat []
def turnRow (r:List Int):List Int:=r.take 1++(r.drop 1).reverse
def partner (e:Nat):Nat:=if e % 2=0 then e+1 else e-1
theorem Zaw {e m:Nat}(h:e<2*m):partner e<2*m:=by unfold partner;split <;> omega
theorem Zij {ts:List (Int × Int)}{m:Nat}{p x:Int}:x∈endsBelow ts m p ↔ ∃e:Nat,e<m/\placeAt ts e=p/\(e:Int)=x:=by
 unfold endsBelow;rw[Wa1];constructor
 ·rintro⟨e,he,rfl⟩
  rw[Wa5,Waq]at he;exact⟨e,he.1,of_decide_eq_true he.2,rfl⟩
 ·rintro⟨e,h1,h2,rfl⟩
  exact⟨e,by rw[Wa5,Waq];exact⟨h1,decide_eq_true h2⟩,rfl⟩
theorem Zgr (ts:List (Int × Int)) (m:Nat) (p:Int):(endsBelow ts m p).Nodup:=by
 unfold endsBelow;refine List.Pairwise.map _ (λa b h=>?_)<|List.Pairwise.filter _ Wdn;intro e;exact h (by omega)
theorem RowOk.nodup {ts:List (Int × Int)}{m:Nat}{p:Int}{r:List Int}(h:RowOk ts m p r):r.Nodup:=h.perm.nodup_iff.mpr<|Zgr ts m p
theorem RowOk.mem {ts:List (Int × Int)}{m:Nat}{p x:Int}{r:List Int}(h:RowOk ts m p r):x∈r ↔ ∃e:Nat,e<m/\placeAt ts e=p/\(e:Int)=x:=h.perm.mem_iff.trans Zij
theorem RowOk.turn {ts:List (Int × Int)}{m:Nat}{p:Int}{r:List Int}(h:RowOk ts m p r):RowOk ts m p (turnRow r):=by
 refine⟨List.Perm.trans ?_ h.perm,?_⟩
 ·unfold turnRow
  exact(List.Perm.append_left _<|Wem _).trans (by rw[Wdm])
 ·rw[<- h.first]
  unfold turnRow;cases r with
  |nil=>rfl
  |cons x r=>rfl
theorem OrdOk.turn {n:Int}{ts:List (Int × Int)}{o:List (List Int)}(h:OrdOk n ts o):OrdOk n ts (o.map turnRow):=by
 refine⟨by rw[Wab];exact h.len,λp r hr=>?_⟩;rw[Wae]at hr;cases q:o[p]? with
 |none=>rw[q]at hr;cases hr
 |some r'=>rw[q]at hr;cases hr;exact(h.row p r' q).turn
theorem Zbo {n:Int}{ts:List (Int × Int)}{o:List (List Int)}(hW:WebOk n ts) (hO:OrdOk n ts o) {e:Nat}(he:e<2*ts.length) :
  o[(placeAt ts e).toNat]?=some (rowAt ts o e)/\RowOk ts (2*ts.length) (placeAt ts e) (rowAt ts o e)/\(e:Int)∈rowAt ts o e:=by
 obtain⟨p0,p1⟩:=Zb9 hW he;have hl:=hO.len;have hk:(placeAt ts e).toNat<o.length:=by omega
 have q:o[(placeAt ts e).toNat]?=some (rowAt ts o e):=by
  unfold rowAt;rw[Waa hk,Wac,Waa hk];rfl
 have r:=hO.row _ _ q;rw[show ((placeAt ts e).toNat:Int)=placeAt ts e by omega]at r;exact⟨q,r,r.mem.mpr ⟨e,he,rfl,rfl⟩⟩
theorem Zeh {r:List Int}{x:Int}(h:x∈r):r.idxOf x<r.length/\r[r.idxOf x]?=some x/\∀m,m<r.idxOf x->r[m]?≠some x:=by
 have hl:=List.idxOf_lt_length_of_mem h;refine⟨hl,?_,λm hm e=>?_⟩
 ·rw[Waa hl,List.getElem_idxOf hl]
 ·obtain⟨h1,h2⟩:=Waf.mp e
  have:=List.not_of_lt_findIdx (p:=(· == x)) (xs:=r) hm;rw[h2]at this;simp at this
theorem Zx0 (k:Nat):k ||| 1=2*(k / 2)+1:=by
 apply Nat.eq_of_testBit_eq;intro i;rw[Nat.testBit_or];cases i with
 |zero=>rw[Nat.testBit_zero,Nat.testBit_zero,Nat.testBit_zero];simp
 |succ i=>
  rw[Nat.testBit_succ,Nat.testBit_succ,Nat.testBit_succ,show (2*(k / 2)+1) / 2=k / 2 by omega];simp
theorem Zgm (k:Nat):Builtin.bitXor (k:Int) 1=(partner k:Int):=by
 have e1:Builtin.bitAnd (k:Int) 1=((k % 2:Nat):Int):=by
  unfold Builtin.bitAnd;rw[decide_eq_true (show (0:Int)<=(k:Int) by omega),decide_eq_true (show (0:Int)<=1 by decide)];show ((((k:Int).toNat &&& (1:Int).toNat:Nat)):Int)=_;rw[Wam,show (1:Int).toNat=1 from rfl,Nat.and_one_is_mod]
 have e2:Builtin.bitOr (k:Int) 1=((2*(k / 2)+1:Nat):Int):=by
  unfold Builtin.bitOr Builtin.bitAnd;rw[decide_eq_false (show ¬ (0:Int)<=Builtin.bitNot (k:Int) by unfold Builtin.bitNot;omega),decide_eq_false (show ¬ (0:Int)<=Builtin.bitNot 1 by decide)];show Builtin.bitNot (Builtin.bitNot (((Builtin.bitNot<|Builtin.bitNot (k:Int)).toNat ||| (Builtin.bitNot<|Builtin.bitNot 1).toNat:Nat):Int))=_;have n1:∀x:Int,Builtin.bitNot (Builtin.bitNot x)=x:=λx=>by unfold Builtin.bitNot;omega
  rw[n1,n1,n1,Wam,show (1:Int).toNat=1 from rfl,Zx0]
 unfold Builtin.bitXor;rw[e1,e2];unfold partner;split <;> omega
theorem Zb8 {α:Type}[DecidableEq α]:∀{l m:List α},l.Nodup->(∀x∈l,x∈m)->l.length<=m.length
 |[],_,_,_=>Wbn _
 |x::l,m,nd,h=>by
  rw[Wbu]at nd;have hx:=h x Wa7;have:=Zb8 (l:=l) (m:=m.erase x) nd.2 λy hy=>by
   have hne:y≠x:=λe=>nd.1 (e ▸ hy);exact(Wdp hne).mpr (h y<|Waw _ hy)
  rw[Wdd hx]at this;have hpos:0<m.length:=Wb9 hx;rw[Waj];omega
theorem Zjo (ts:List (Int × Int)) (m:Nat) (p:Int):(endsBelow ts m p).Pairwise (· < ·):=by
 unfold endsBelow;refine List.Pairwise.map _ (λa b h=>?_)<|List.Pairwise.filter _ Wbj;omega
theorem RowOk.least {ts:List (Int × Int)}{m:Nat}{p x:Int}{r:List Int}(h:RowOk ts m p (x::r)):∀a∈r,x<=a:=by
 intro a ha;have h1:=h.first;have h2:=Zjo ts m p;have h3:a∈endsBelow ts m p:=h.perm.mem_iff.mp<|Waw _ ha;cases q:endsBelow ts m p with
 |nil=>rw[q]at h1;cases h1
 |cons y l=>
  rw[q]at h1 h2 h3;have e:x=y:=Wbs.inj h1;subst e;rcases Wan.mp h3 with z|z
  ·omega
  ·have:=(Wdy.mp h2).1 a z;omega
def rotAt (l:List Int) (j:Nat):List Int:=l.drop j++l.take j
theorem Ze5:∀(l:List Int),l≠[]->∃m,m∈l/\∀a∈l,m<=a
 |[],h=>absurd rfl h
 |[x],_=>⟨x,Wa7,λa ha=>by rw[Wa4.mp ha];exact Wdx _⟩
 |x::y::l,_=>by
  obtain⟨m,h1,h2⟩:=Ze5 (y::l) (by simp);by_cases h:x<=m
  ·refine⟨x,Wa7,λa ha=>?_⟩
   rcases Wan.mp ha with z|z
   ·omega
   ·have:=h2 a z;omega
  ·refine⟨m,Waw _ h1,λa ha=>?_⟩
   rcases Wan.mp ha with z|z
   ·omega
   ·exact h2 a z
theorem Zl5 {l:List Int}(nd:l.Nodup) {j:Nat}{x:Int}(h:l[j]?=some x):l.idxOf x=j:=by
 obtain⟨h1,h2⟩:=Waf.mp h;obtain⟨i1,i2,_⟩:=Zeh (r:=l) (x:=x) (by rw[<- h2];exact Wa8 h1);obtain⟨i3,i4⟩:=Waf.mp i2;exact(Wdo nd).mp (i4.trans h2.symm)
theorem Zrx {ts:List (Int × Int)}{m:Nat}{p y:Int}{r:List Int}(h:RowOk ts m p r) (hm:y∈r.reverse) (hle:∀a∈r.reverse,y<=a):rotAt r.reverse (r.reverse.idxOf y)=turnRow r:=by
 cases r with
 |nil=>simp at hm
 |cons x t=>
  have e:y=x:=by
   have h1:=hle x (by simp);rcases Wan.mp (List.mem_reverse.mp hm) with z|z
   ·exact z
   ·have:=h.least y z;omega
  subst e;have nd:=h.nodup;have ei:(y::t).reverse.idxOf y=t.length:=by
   refine Zl5 ((Wem _).nodup_iff.mpr nd) ?_;rw[Wc8,Wa2 (by rw[Wb3];exact Wag _),Wb3,Nat.sub_self];rfl
  rw[ei];unfold rotAt turnRow;rw[Wc8,List.drop_left' (by rw[Wb3]),List.take_left' (by rw[Wb3])];rfl
theorem Zmv (r:List Int):(turnRow r).length=r.length:=by
 cases r with
 |nil=>rfl
 |cons x t=>show (x::t.reverse).length=_;rw[Waj,Wb3];rfl
def nxI (n k:Nat):Nat:=if k+1=n then 0 else k+1
def pvI (n k:Nat):Nat:=if k=0 then n-1 else k-1
def ngI (n k:Nat):Nat:=if k=0 then 0 else n-k
theorem Zvh {n k:Nat}(h:k<n):(k+1) % n=nxI n k:=by
 unfold nxI;split
 ·rename_i e;rw[e,Nat.mod_self]
 ·rw[Nat.mod_eq_of_lt (by omega)]
theorem Zk7 (r:List Int) {k:Nat}(h:k<r.length):(turnRow r)[k]?=r[ngI r.length k]?:=by
 cases r with
 |nil=>simp at h
 |cons x t=>
  unfold ngI;cases k with
  |zero=>rfl
  |succ k=>
   show (x::t.reverse)[k+1]?=_;rw[Waj]at h ⊢;rw[if_neg (by omega),Wc0,List.getElem?_reverse (by omega),show t.length+1-(k+1)=(t.length-1-k)+1 by omega,Wc0]
def prevIn (r:List Int) (x:Int):Int:=r.getD (pvI r.length<|r.idxOf x) 0
theorem Zda {r:List Int}(nd:r.Nodup) {k:Nat}{x:Int}(h:r[k]?=some x):nextIn r x=r.getD (nxI r.length k) 0:=by
 unfold nextIn;rw[Zl5 nd h,Zvh (Waf.mp h).1]
theorem Zha {r:List Int}(nd:r.Nodup) {k:Nat}{x:Int}(h:r[k]?=some x):prevIn r x=r.getD (pvI r.length k) 0:=by
 unfold prevIn;rw[Zl5 nd h]
theorem Zhl {r:List Int}(nd:r.Nodup):(turnRow r).Nodup:=by
 have p:(turnRow r).Perm r:=by
  unfold turnRow;exact(List.Perm.append_left _<|Wem _).trans (by rw[Wdm])
 exact p.nodup_iff.mpr nd
theorem Zkq {r:List Int}(nd:r.Nodup) {x:Int}(h:x∈r):nextIn (turnRow r) x=prevIn r x/\prevIn (turnRow r) x=nextIn r x:=by
 obtain⟨k,hk⟩:=Wco.mp h;have hl:=(Waf.mp hk).1;have h2:(turnRow r)[ngI r.length k]?=some x:=by
  rw[Zk7 r (by unfold ngI;split <;> omega),<- hk]
  congr 1;unfold ngI;split <;> split <;> omega
 rw[Zda nd hk,Zha nd hk,Zda (Zhl nd) h2,Zha (Zhl nd) h2,Zmv];rw[Wac,Wac,Wac,Wac,Zk7 r (by unfold ngI nxI;split <;> split <;> omega),Zk7 r (by unfold ngI pvI;split <;> split <;> omega)]
 constructor
 ·congr 2
  unfold ngI nxI pvI;repeat' split
  all_goals omega
 ·congr 2
  unfold ngI nxI pvI;repeat' split
  all_goals omega
theorem Zu2 {r:List Int}{k:Nat}(hk:k<r.length):atI (r.map D.int) ((k:Int)-1)=some (.int<|r.getD (pvI r.length k) 0):=by
 unfold pvI;by_cases h0:k=0
 ·subst h0
  rw[if_pos rfl];obtain⟨r',y,rfl⟩:∃r' y,r=r'++[y]:=⟨r.dropLast,r.getLast (by intro z;subst z;simp at hk),(List.dropLast_concat_getLast _).symm⟩;show atI ((r'++[y]).map D.int) (-1)=_;rw[Was,Weh,Zsm];simp
 ·rw[if_neg h0,show (k:Int)-1=((k-1:Nat):Int) by omega]
  exact Zb7 (by rw[Wae,Wac,Waa (by omega:k-1<r.length)];rfl)
theorem Zgb (ds:List D) {j:Nat}(h:j<=ds.length):cutD ds (some (j:Int)) none=ds.drop j:=by
 unfold cutD;rw[HT.sIx_nat,HT.sIx_none,Wd8 h,Wdi (by rw[Wby];exact Wag _)]
theorem Zuf (ds:List D) {j:Nat}(h:j<=ds.length):cutD ds none (some (j:Int))=ds.take j:=by
 unfold cutD;rw[HT.sIx_nat,HT.sIx_none,Wd8 h,List.drop_zero,Wep]
section
variable {P:Program}{w:World}{K:W.Frag}{mg:Str->Option Value}{base:Heap}{f:Addr}{fd:FuncData}
def fPlace:DSp:=λds Post=>∃n ts,∃e:Nat,ds=[encWeb n ts,.int e]/\e<2*ts.length/\Post (.int<|placeAt ts e)
def folOf (ts:List (Int × Int)) (o:List (List Int)) (e:Nat):Int:=nextIn (rowAt ts o e) e
def fFol:DSp:=λds Post=>∃n ts o,∃e:Nat,ds=[encWeb n ts,encOrd o,.int e]/\WebOk n ts/\OrdOk n ts o/\e<2*ts.length/\Post (.int<|folOf ts o e)
def fOnw:DSp:=λds Post=>∃n ts o,∃e:Nat,ds=[encWeb n ts,encOrd o,.int e]/\WebOk n ts/\OrdOk n ts o/\e<2*ts.length/\Post (.int<|folOf ts o<|partner e)
def fWhole:DSp:=λds Post=>∃e:Int,ds=[.int e]/\Post (.bl true)
theorem Zt5 (mb:Mb mg) (F:Fun K "place_of" "place_of" Ya0 f fd):FnOk P w K mg base CX0 1 f fd ["web","end"] (spD K fPlace):=by
 refine F.ok Ybo (Zba λds Post h=>by obtain⟨_,_,_,rfl,_⟩:=h;rfl) λcdv A outer s H vs Q E hr h=>?_;have hu:=Zby hr;refine⟨_,(Zah<|Za1<|Za0 (ixK K hu) (Za0 (ixK K hu) (Za0 (ixK K hu) (pv 0) Zag λ_ _=>rfl) (Zat Zfi (pv 1) Zag) λ_ _=>rfl) (Zat Zb2 (pv 1) Zag) λ_ _=>rfl),Zct (λds Post hf=>?_) h⟩;obtain⟨n,ts,e,rfl,he,q⟩:=hf;refine⟨by simp,?_⟩;dsimp only[startD,Wbp,Wbl,Wbb];obtain⟨t,h1,h2,h3⟩:=Zur he;rw[Wc1]at h2 h3;refine Za9<|Zaj<|Zaj<|Yz2 rfl<|Zai<|Zav (d:=.tup<|ts.map encTie) rfl ?_;refine Yz2 rfl<|Zai<|jr_I ⟨by omega,by omega⟩<|Zav h2 ?_;exact Yz2 rfl<|Zai<|jr_I (by show (0:Int)<2;omega)<|Zav h3 q
theorem Zkv (mb:Mb mg) (C54:Callee P w K mg base 1 "place_of" ["web","end"] (spD K fPlace)) (F:Fun K "follower" "follower" Ya1 f fd):FnOk P w K mg base CX0 2 f fd ["web","order","end"] (spD K fFol):=by
 refine F.ok Ybl (Zba λds Post h=>by obtain⟨_,_,_,_,rfl,_⟩:=h;rfl) λcdv A outer s H vs Q E hr h=>?_;have hu:=Zby hr;refine⟨_,(Zad (Zaq (i:=3) Ybl.nd rfl (Or.inl rfl)<|Za0 (ixK K hu) (pv 1) (Za4 C54 (hr.mono<|by decide)<|Zaa (pv 0)<|Zaa (pv 2) Zae) λ_ _=>rfl)<|Zah<|Za1<|Za0 (ixK K hu) (pv 3) (Zat Zb2 (Zat (addK K) (bmK K PySem.F.plainAttrs_tuple PySem.F.slot_tuple_index PySem.F.type_tuple_index (idxK K) (pv 3)<|Zaa (pv 2) Zae) Zag)<|Zas (lenK K) rfl (mb "len"<|by decide) Zcn<|Zaa (pv 3) Zae) λ_ _=>rfl),Zct (λds Post hf=>?_) h⟩;obtain⟨n,ts,o,e,rfl,hW,hO,he,q⟩:=hf;refine⟨by simp,?_⟩;dsimp only[startD,Wbp,Wbl,Wbb];obtain⟨g1,g2,g3⟩:=Zbo hW hO he;obtain⟨p0,p1⟩:=Zb9 hW he;obtain⟨i1,i2,i3⟩:=Zeh g3;have hat:atI (o.map encRow) (placeAt ts e)=some (encRow<|rowAt ts o e):=by
  have ep:placeAt ts e=(((placeAt ts e).toNat:Nat):Int):=by omega
  rw[ep];exact Zb7 (by rw[Wae,g1];rfl)
 refine Zam<|Zax<|Yz2 rfl<|Zay<|Yz1 rfl<|Yz1 rfl<|Zaf ⟨n,ts,e,rfl,he,Zav hat ?_⟩;refine Za9<|Yz2 rfl<|Zaj<|Zaj<|Zf7<|Zab rfl ⟨rowAt ts o e,rfl,Zab rfl ⟨e,(rowAt ts o e).idxOf (e:Int),rfl,i2,i3,?_⟩⟩;refine Zai<|Zc1 ?_;refine Zbs<|Yz1 rfl<|Zaf<|Zcr (Or.inr rfl) ?_;rw[Wab];refine jr_I (by show (0:Int)<_;omega) ?_;have e1:(((rowAt ts o e).idxOf (e:Int):Int)+1) % ((rowAt ts o e).length:Int)=((((rowAt ts o e).idxOf (e:Int)+1) % (rowAt ts o e).length:Nat):Int):=by push_cast;rfl
 rw[e1];have hm:((rowAt ts o e).idxOf (e:Int)+1) % (rowAt ts o e).length<(rowAt ts o e).length:=Web _ (by omega);refine Zav (d:=.int<|folOf ts o e) (Zb7 ?_) q;rw[Wae,Waa hm];unfold folOf nextIn;rw[Wac,Waa hm];rfl
theorem Zrv (mb:Mb mg) (C44:Callee P w K mg base 2 "follower" ["web","order","end"] (spD K fFol)) (F:Fun K "onward" "onward" Ya4 f fd):FnOk P w K mg base CX0 3 f fd ["web","order","end"] (spD K fOnw):=by
 refine F.ok Ybq (Zba λds Post h=>by obtain⟨_,_,_,_,rfl,_⟩:=h;rfl) λcdv A outer s H vs Q E hr h=>?_;refine⟨_,(Zah<|Za1<|Za4 C44 (hr.mono<|by decide)<|Zaa (pv 0)<|Zaa (pv 1)<|Zaa (Zat Zjm (pv 2) Zag) Zae),Zct (λds Post hf=>?_) h⟩;obtain⟨n,ts,o,e,rfl,hW,hO,he,q⟩:=hf;refine⟨by simp,?_⟩;dsimp only[startD,Wbp,Wbl,Wbb];refine Za9<|Zay<|Yz1 rfl<|Yz1 rfl<|Zac<|Yz2 rfl<|Zai<|Ze7 ?_;rw[Zgm];exact Zaf ⟨n,ts,o,partner e,rfl,hW,hO,Zaw he,q⟩
theorem Zsv (mb:Mb mg) (F:Fun K "_law_whole" "_law_whole" Ybg f fd):FnOk P w K mg base CX0 1 f fd ["_law_found"] (spD K fWhole):=by
 refine F.ok Ybx (Zba λds Post h=>by obtain⟨_,rfl,_⟩:=h;rfl) λcdv A outer s H vs Q E hr h=>?_;refine⟨_,(Zah<|Za1<|Zuk (Zas (isiUK K) rfl (mb "isinstance"<|by decide) Ze0<|Zaa (pv 0)<|Zaa (Zrn rfl (mb "int"<|by decide) Zuq (show RelV (.ty "int") _ from rfl)) Zae)<|Zuj<|Zyc<|Zas (isiUK K) rfl (mb "isinstance"<|by decide) Ze0<|Zaa (pv 0)<|Zaa (Zrn rfl (mb "bool"<|by decide) Zw6 (show RelV (.ty "bool") _ from rfl)) Zae),Zct (λds Post hf=>?_) h⟩;obtain⟨e,rfl,q⟩:=hf;refine⟨by simp,?_⟩;dsimp only[startD,Wbp,Wbl,Wbb];refine Za9<|Zlq<|Zbs<|Yz1 rfl<|Zac<|Zvg<|Zaf<|Zot (T:="int") (b:=true) rfl (λ_=>by rfl) ⟨_,rfl,?_⟩;rw[if_pos rfl];refine Zpp<|Zbs<|Yz1 rfl<|Zac<|Zvg<|Zaf<|Zot (T:="int") (b:=false) rfl (λ_=>by rfl) ⟨_,rfl,?_⟩;exact q
def fFore:DSp:=λds Post=>∃n ts o,∃e:Nat,ds=[encWeb n ts,encOrd o,.int e]/\WebOk n ts/\OrdOk n ts o/\e<2*ts.length/\Post (.int<|prevIn (rowAt ts o e) e)
theorem Zir (mb:Mb mg) (C54:Callee P w K mg base 1 "place_of" ["web","end"] (spD K fPlace)) (F:Fun K "forerunner" "forerunner" Ya2 f fd):FnOk P w K mg base CX0 2 f fd ["web","order","end"] (spD K fFore):=by
 refine F.ok Ybm (Zba λds Post h=>by obtain⟨_,_,_,_,rfl,_⟩:=h;rfl) λcdv A outer s H vs Q E hr h=>?_;have hu:=Zby hr;refine⟨_,(Zad (Zaq (i:=3) Ybm.nd rfl (Or.inl rfl)<|Za0 (ixK K hu) (pv 1) (Za4 C54 (hr.mono<|by decide)<|Zaa (pv 0)<|Zaa (pv 2) Zae) λ_ _=>rfl)<|Zah<|Za1<|Za0 (ixK K hu) (pv 3) (Zat Zfq (bmK K PySem.F.plainAttrs_tuple PySem.F.slot_tuple_index PySem.F.type_tuple_index (idxK K) (pv 3)<|Zaa (pv 2) Zae) Zag) λ_ _=>rfl),Zct (λds Post hf=>?_) h⟩;obtain⟨n,ts,o,e,rfl,hW,hO,he,q⟩:=hf;refine⟨by simp,?_⟩;dsimp only[startD,Wbp,Wbl,Wbb];obtain⟨g1,g2,g3⟩:=Zbo hW hO he;obtain⟨p0,p1⟩:=Zb9 hW he;obtain⟨i1,i2,i3⟩:=Zeh g3;have hat:atI (o.map encRow) (placeAt ts e)=some (encRow<|rowAt ts o e):=by
  have ep:placeAt ts e=(((placeAt ts e).toNat:Nat):Int):=by omega
  rw[ep];exact Zb7 (by rw[Wae,g1];rfl)
 refine Zam<|Zax<|Yz2 rfl<|Zay<|Yz1 rfl<|Yz1 rfl<|Zaf ⟨n,ts,e,rfl,he,Zav hat ?_⟩;refine Za9<|Yz2 rfl<|Zaj<|Zf7<|Zab rfl ⟨rowAt ts o e,rfl,Zab rfl ⟨e,(rowAt ts o e).idxOf (e:Int),rfl,i2,i3,?_⟩⟩;exact Zai<|Ze7<|Zav (Zu2 i1) q
end
def iter (f:Int->Int) (e:Int):Nat->Int
 |0=>e
 |n+1=>f (iter f e n)
def walkL (f:Int->Int) (e:Int) (n:Nat):List Int:=(Wah n).map (iter f e)
structure OneOne (f:Int->Int) (m:Nat):Prop where
 to:∀x,0<=x->x<(m:Int)->0<=f x/\f x<(m:Int)
 inj:∀x y,0<=x->x<(m:Int)->0<=y->y<(m:Int)->f x=f y->x=y
def NdTo (f:Int->Int) (e:Int) (n:Nat):Prop:=∀i j,i<n->j<n->iter f e i=iter f e j->i=j
structure IsOrb (f:Int->Int) (e:Int) (n:Nat):Prop where
 pos:0<n
 back:iter f e n=e
 nd:NdTo f e n
theorem Zca (f:Int->Int) (e:Int) (j n:Nat):iter f (iter f e j) n=iter f e (j+n):=by
 induction n with
 |zero=>rfl
 |succ n ih=>show f (iter f (iter f e j) n)=f (iter f e (j+n));rw[ih]
theorem Zce (f:Int->Int) (e:Int) (n:Nat):(walkL f e n).length=n:=by unfold walkL;rw[Wab,Waz]
theorem Zfd (f:Int->Int) (e:Int) (a b:Nat):walkL f e (a+b)=walkL f e a++walkL f (iter f e a) b:=by
 unfold walkL;rw[List.range_add,Was,Wa6];congr 1;apply Wcl;intro i _;exact(Zca f e a i).symm
theorem Zhy (f:Int->Int) (e:Int) (n:Nat):walkL f e (n+1)=walkL f e n++[iter f e n]:=by rw[Zfd];rfl
theorem Zar {f:Int->Int}{e x:Int}{n:Nat}:x∈walkL f e n ↔ ∃i,i<n/\iter f e i=x:=by
 unfold walkL;rw[Wa1];constructor
 ·rintro⟨i,h,rfl⟩;exact⟨i,Waq.mp h,rfl⟩
 ·rintro⟨i,h,rfl⟩;exact⟨i,Waq.mpr h,rfl⟩
theorem Zp5 {f:Int->Int}{e:Int}{n i:Nat}(h:i<n):(walkL f e n)[i]?=some (iter f e i):=by
 unfold walkL;rw[Wae,Wb4 h];rfl
theorem IsOrb.uniq {f:Int->Int}{e:Int}{n k:Nat}(h:IsOrb f e n) (h':IsOrb f e k):n=k:=by
 rcases Weo n k with z|z|z
 ·have:=h'.nd n 0 z h'.pos (by rw[h.back];rfl)
  have:=h.pos;omega
 ·exact z
 ·have:=h.nd k 0 z h.pos (by rw[h'.back];rfl)
  have:=h'.pos;omega
noncomputable def per (f:Int->Int) (e:Int):Nat:=Classical.epsilon<|IsOrb f e
noncomputable def orb (f:Int->Int) (e:Int):List Int:=walkL f e<|per f e
theorem IsOrb.per {f:Int->Int}{e:Int}{n:Nat}(h:IsOrb f e n):Lw.per f e=n:=(Classical.epsilon_spec (p:=IsOrb f e) ⟨n,h⟩).uniq h
theorem IsOrb.orb {f:Int->Int}{e:Int}{n:Nat}(h:IsOrb f e n):Lw.orb f e=walkL f e n:=by unfold Lw.orb;rw[h.per]
section
variable {f:Int->Int}{m:Nat}(F:OneOne f m) {e:Int}(h0:0<=e) (h1:e<(m:Int))
include F h0 h1
theorem Za7 (n:Nat):0<=iter f e n/\iter f e n<(m:Int):=by
 induction n with
 |zero=>exact⟨h0,h1⟩
 |succ n ih=>exact F.to _ ih.1 ih.2
theorem Zld {n:Nat}(hn:1<=n) (nd:NdTo f e n) (hne:iter f e n≠e):NdTo f e (n+1):=by
 have key:∀j,j<n->iter f e n≠iter f e j:=by
  intro j hj q;cases j with
  |zero=>exact hne q
  |succ j=>
   obtain⟨k,rfl⟩:∃k,n=k+1:=⟨n-1,by omega⟩;have a:=Za7 F h0 h1 k;have b:=Za7 F h0 h1 j;have:=nd k j (by omega) (by omega)<|F.inj _ _ a.1 a.2 b.1 b.2 q;omega
 intro i j hi hj q;by_cases hin:i=n
 ·by_cases hjn:j=n
  ·omega
  ·subst hin;exact absurd q (key j<|by omega)
 ·by_cases hjn:j=n
  ·subst hjn;exact absurd q.symm (key i<|by omega)
  ·exact nd i j (by omega) (by omega) q
theorem Zjn {n:Nat}(nd:NdTo f e n):n<=m:=by
 have hn:(walkL f e n).Nodup:=by
  unfold walkL List.Nodup;rw[Wbz,Wcu];intro i j hi hj hij;rw[Waz]at hi hj;rw[Wcq,Wcq];intro q;have:=nd i j hi hj q;omega
 have:=Zb8 (m:=(Wah m).map λe:Nat=>(e:Int)) hn λx hx=>by
  obtain⟨i,hi,rfl⟩:=Zar.mp hx;have:=Za7 F h0 h1 i;exact Wa1.mpr ⟨(iter f e i).toNat,Waq.mpr (by omega),by omega⟩
 rw[Zce,Wab,Waz]at this;exact this
theorem Zop:NdTo f e 1:=λi j hi hj _=>by omega
theorem Zyy:∃n,IsOrb f e n:=by
 apply Classical.byContradiction;intro hn;have all:∀n,NdTo f e (n+1):=by
  intro n
  induction n with
  |zero=>exact Zop F h0 h1
  |succ n ih=>
   refine Zld F h0 h1 (by omega) ih λq=>hn ⟨n+1,by omega,q,ih⟩
 have:=Zjn F h0 h1<|all m;omega
theorem Zde:IsOrb f e (per f e):=by
 obtain⟨n,h⟩:=Zyy F h0 h1;rw[h.per];exact h
theorem Zbv:e∈orb f e:=Zar.mpr ⟨0,(Zde F h0 h1).pos,rfl⟩
theorem Zqd:(orb f e).length<=m:=by
 unfold orb;rw[Zce];exact Zjn F h0 h1 (Zde F h0 h1).nd
theorem Za6 (k:Nat):iter f e k∈orb f e:=by
 have O:=Zde F h0 h1
 induction k with
 |zero=>exact Zbv F h0 h1
 |succ k ih=>
  obtain⟨i,hi,q⟩:=Zar.mp ih;show f (iter f e k)∈_;rw[<- q];by_cases hl:i+1=per f e
  ·have:f (iter f e i)=e:=by
    have:=O.back;rw[<- hl]at this;exact this
   rw[this];exact Zbv F h0 h1
  ·exact Zar.mpr ⟨i+1,by omega,rfl⟩
theorem Zcv {x:Int}(hx:x∈orb f e):0<=x/\x<(m:Int):=by
 obtain⟨i,_,rfl⟩:=Zar.mp hx;exact Za7 F h0 h1 i
theorem Zsy {x y:Int}(a0:0<=x) (a1:x<(m:Int)) (b0:0<=y) (b1:y<(m:Int)) (j:Nat) (q:iter f x j=iter f y j):x=y:=by
 induction j with
 |zero=>exact q
 |succ j ih=>
  have a:=Za7 F a0 a1 j;have b:=Za7 F b0 b1 j;exact ih<|F.inj _ _ a.1 a.2 b.1 b.2 q
theorem Zwp (j:Nat):IsOrb f (iter f e j) (per f e):=by
 have O:=Zde F h0 h1;refine⟨O.pos,?_,λi k hi hk q=>?_⟩
 ·rw[Zca,Nat.add_comm,<- Zca,O.back]
 ·rw[Zca,Zca,Nat.add_comm j i,Nat.add_comm j k,<- Zca,<- Zca]at q
  have a:=Za7 F h0 h1 i;have b:=Za7 F h0 h1 k;exact O.nd i k hi hk<|Zsy F h0 h1 a.1 a.2 b.1 b.2 j q
theorem Zbl {x:Int}(hx:x∈orb f e):e∈orb f x:=by
 have O:=Zde F h0 h1;obtain⟨j,hj,rfl⟩:=Zar.mp hx;have a:=Za7 F h0 h1 j;have:=Za6 F a.1 a.2<|per f e-j;rw[Zca,show j+(per f e-j)=per f e by omega,O.back]at this;exact this
theorem Zbj {x y:Int}(hx:x∈orb f e) (hy:y∈orb f x):y∈orb f e:=by
 obtain⟨j,_,rfl⟩:=Zar.mp hx;obtain⟨i,_,rfl⟩:=Zar.mp hy;rw[Zca];exact Za6 F h0 h1 _
theorem Zvb {j:Nat}(hj:j<per f e):rotAt (orb f e) j=orb f (iter f e j):=by
 have O:=Zde F h0 h1;rw[(Zwp F h0 h1 j).orb];unfold orb rotAt;have e1:walkL f e (per f e)=walkL f e j++walkL f (iter f e j) (per f e-j):=by rw[<- Zfd,show j+(per f e-j)=per f e by omega]
 have e2:walkL f (iter f e j) (per f e)=walkL f (iter f e j) (per f e-j)++walkL f e j:=by
  conv=>lhs;rw[show per f e=(per f e-j)+j by omega]
  rw[Zfd,Zca,show j+(per f e-j)=per f e by omega,O.back]
 rw[e2,e1,List.drop_left' (Zce ..),List.take_left' (Zce ..)]
theorem Zo5:(orb f e).Nodup:=by
 have O:=Zde F h0 h1;unfold orb walkL List.Nodup;rw[Wbz,Wcu];intro i j hi hj hij;rw[Waz]at hi hj;rw[Wcq,Wcq];intro q;have:=O.nd i j hi hj q;omega
theorem Zf8:∃l,orb f e=e::l:=by
 have O:=Zde F h0 h1;unfold orb;obtain⟨n,hn⟩:∃n,per f e=1+n:=⟨per f e-1,by have:=O.pos;omega⟩;rw[hn,Zfd];exact⟨_,rfl⟩
end
open Classical in
noncomputable def leastB (f:Int->Int) (e:Nat):Bool:=decide (∀x∈orb f (e:Int),(e:Int)<=x)
noncomputable def facesTo (f:Int->Int) (k:Nat):List (List Int):=((Wah k).filter (leastB f)).map λe:Nat=>orb f (e:Int)
theorem Zdz (f:Int->Int) (k:Nat):facesTo f (k+1)=facesTo f k++(if leastB f k=true then [orb f (k:Int)] else []):=by
 unfold facesTo;rw[Wc5,Wbg,Was];congr 1;by_cases h:leastB f k=true
 ·rw[if_pos h];simp[Wa9,h]
 ·rw[if_neg h];simp[Wa9,h]
theorem Zgl (f:Int->Int) (k:Nat):(facesTo f k).length<=k:=by
 unfold facesTo;rw[Wab];exact Wbx (Wcp _ _) (by rw[Waz];exact Wag _)
def MetTo (f:Int->Int) (k:Nat) (x:Int):Prop:=∃e:Nat,e<k/\x∈orb f (e:Int)
section
variable {f:Int->Int}{m:Nat}(F:OneOne f m)
include F
theorem Zd6 {k:Nat}(hk:k<m):MetTo f k (k:Int)↔leastB f k=false:=by
 unfold leastB;rw[decide_eq_false_iff_not];constructor
 ·rintro⟨e,he,hx⟩ h
  have:=h _<|Zbl F (by omega) (by omega) hx;omega
 ·intro h
  apply Classical.byContradiction;intro hn;refine h λx hx=>?_;have r:=Zcv F (by omega) (by omega) hx;apply Classical.byContradiction;intro hlt;refine hn ⟨x.toNat,by omega,?_⟩;rw[show ((x.toNat:Nat):Int)=x by omega];exact Zbl F (by omega) (by omega) hx
theorem Zm6 {k:Nat}(hk:k<m) {x:Int}:MetTo f (k+1) x↔MetTo f k x\/(leastB f k=true/\x∈orb f (k:Int)):=by
 constructor
 ·rintro⟨e,he,hx⟩
  by_cases hek:e=k
  ·subst hek
   by_cases hl:leastB f e=true
   ·exact .inr ⟨hl,hx⟩
   ·obtain⟨e',he',hx'⟩:=(Zd6 F hk).mpr (Wb0.mpr hl)
    exact .inl ⟨e',he',Zbj F (by omega) (by omega) hx' hx⟩
  ·exact .inl ⟨e,by omega,hx⟩
 ·rintro(⟨e,he,hx⟩|⟨_,hx⟩)
  ·exact⟨e,by omega,hx⟩
  ·exact⟨k,by omega,hx⟩
theorem Zk2 {k:Nat}(hk:k<=m) (z:Nat):Asc (Wak z []++facesTo f k):=by
 intro i a b ha hb;by_cases h1:i<z
 ·rw[Wbd (by rw[Wax];exact h1),Wb7,if_pos h1]at ha
  cases ha;exact .inl rfl
 ·rw[Wa2 (by rw[Wax];omega),Wax]at ha hb
  rw[show i+1-z=i-z+1 by omega]at hb;unfold facesTo at ha hb;rw[Wae]at ha hb;cases qa:((Wah k).filter (leastB f))[i-z]? with
  |none=>rw[qa]at ha;cases ha
  |some ea=>
   cases qb:((Wah k).filter (leastB f))[i-z+1]? with
   |none=>rw[qb]at hb;cases hb
   |some eb=>
    rw[qa]at ha;rw[qb]at hb;have ha:orb f (ea:Int)=a:=by simpa using ha
    have hb:orb f (eb:Int)=b:=by simpa using hb
    subst ha hb;have ma:=(Wa5.mp<|Wau qa).1;have mb:=(Wa5.mp<|Wau qb).1;rw[Waq]at ma mb;have hlt:ea<eb:=by
     have pw:((Wah k).filter (leastB f)).Pairwise (· < ·):=List.Pairwise.filter _ Wbj;obtain⟨p1,p2⟩:=Waf.mp qa;obtain⟨p3,p4⟩:=Waf.mp qb;have:=Wcu.mp pw (i-z) (i-z+1) p1 p3 (by omega);omega
    obtain⟨la,e1⟩:=Zf8 F (e:=(ea:Int)) (by omega) (by omega);obtain⟨lb,e2⟩:=Zf8 F (e:=(eb:Int)) (by omega) (by omega);exact .inr ⟨_,_,la,lb,e1,e2,by omega⟩
theorem Zou {x:Int}(h0:0<=x) (h1:x<(m:Int)):∃e:Nat,e<m/\leastB f e=true/\(e:Int)∈orb f x/\∀r∈facesTo f m,x∈r↔r=orb f (e:Int):=by
 obtain⟨y,hy,hle⟩:=Ze5 (orb f x) (by obtain⟨l,e⟩:=Zf8 F h0 h1;rw[e];simp);have r:=Zcv F h0 h1 hy;have ey:((y.toNat:Nat):Int)=y:=by omega
 have hl:leastB f y.toNat=true:=by
  unfold leastB;rw[decide_eq_true_iff,ey];exact λz hz=>hle z<|Zbj F h0 h1 hy hz
 refine⟨y.toNat,by omega,hl,by rw[ey];exact hy,λq hq=>?_⟩;unfold facesTo at hq;obtain⟨e,he,rfl⟩:=Wa1.mp hq;rw[Wa5,Waq]at he;rw[ey];constructor
 ·intro hx
  have h2:y∈orb f (e:Int):=Zbj F (by omega) (by omega) hx hy;have h3:(e:Int)∈orb f x:=Zbl F (by omega) (by omega) hx;have a:=hle _ h3;have b:(e:Int)<=y:=by
   have:=he.2;unfold leastB at this;exact of_decide_eq_true this y h2
  rw[show (e:Int)=y by omega]
 ·intro q
  rw[q];exact Zbl F h0 h1 hy
end
theorem Zry {r:List Int}{x:Int}(h:x∈r):nextIn r x∈r:=by
 obtain⟨h1,_,_⟩:=Zeh h;have hm:(r.idxOf x+1) % r.length<r.length:=Web _ (by omega);unfold nextIn;rw[Wac,Waa hm];exact Wa8 hm
theorem Zst {r:List Int}(nd:r.Nodup) {x y:Int}(hx:x∈r) (hy:y∈r) (h:nextIn r x=nextIn r y):x=y:=by
 obtain⟨i,hi⟩:=Wco.mp hx;obtain⟨j,hj⟩:=Wco.mp hy;obtain⟨i1,i2⟩:=Waf.mp hi;obtain⟨j1,j2⟩:=Waf.mp hj;rw[Zda nd hi,Zda nd hj,Wac,Wac]at h;have a:nxI r.length i<r.length:=by unfold nxI;split <;> omega
 have b:nxI r.length j<r.length:=by unfold nxI;split <;> omega
 rw[Waa a,Waa b]at h;have e:=(Wdo nd).mp (show r[nxI r.length i]=r[nxI r.length j] from h);have:i=j:=by unfold nxI at e;split at e <;> split at e <;> omega
 subst this;rw[hi]at hj;exact Wbs.inj hj
theorem Zan (e:Nat):partner (partner e)=e:=by unfold partner;split <;> split <;> omega
def onI (ts:List (Int × Int)) (o:List (List Int)) (x:Int):Int:=folOf ts o<|partner x.toNat
theorem Zc2 {n:Int}{ts:List (Int × Int)}{o:List (List Int)}(hW:WebOk n ts) (hO:OrdOk n ts o) {e:Nat}(he:e<2*ts.length):∃g:Nat,g<2*ts.length/\placeAt ts g=placeAt ts e/\(g:Int)=folOf ts o e:=by
 obtain⟨g1,g2,g3⟩:=Zbo hW hO he;exact g2.mem.mp<|Zry g3
theorem Zfw {n:Int}{ts:List (Int × Int)}{o:List (List Int)}(hW:WebOk n ts) (hO:OrdOk n ts o):OneOne (onI ts o) (2*ts.length):=by
 refine⟨λx h0 h1=>?_,λx y h0 h1 h2 h3 q=>?_⟩
 ·obtain⟨g,hg,_,e⟩:=Zc2 hW hO (Zaw (show x.toNat<2*ts.length by omega))
  unfold onI;rw[<- e];omega
 ·have hx:=Zaw (show x.toNat<2*ts.length by omega)
  have hy:=Zaw (show y.toNat<2*ts.length by omega);obtain⟨g,hg,pg,eg⟩:=Zc2 hW hO hx;obtain⟨k,hk,pk,ek⟩:=Zc2 hW hO hy;unfold onI at q;have egk:g=k:=by omega
  subst egk;have hp:placeAt ts (partner x.toNat)=placeAt ts (partner y.toNat):=pg.symm.trans pk;obtain⟨_,r2,r3⟩:=Zbo hW hO hx;obtain⟨_,_,r6⟩:=Zbo hW hO hy;have er:rowAt ts o (partner y.toNat)=rowAt ts o (partner x.toNat):=by unfold rowAt;rw[hp]
  unfold folOf at q;rw[er]at q r6;have:=Zst r2.nodup r3 r6 q;have e1:partner x.toNat=partner y.toNat:=by omega
  have e2:=congrArg partner e1;rw[Zan,Zan]at e2;omega
def lone (o:List (List Int)):Nat:=(o.filter λr=>r.isEmpty).length
theorem Zis (o:List (List Int)):lone o<=o.length:=Wcp _ _
theorem Zji (o:List (List Int)) (p:D->Bool) (hp:∀r:List Int,p (rowD r)=r.isEmpty) (g:D->D) (hg:∀d,g d=.tup []):((o.map rowD).filter p).map g=(Wak (lone o) ([]:List Int)).map rowD:=by
 unfold lone
 induction o with
 |nil=>rfl
 |cons r o ih=>
  rw[Wbe,Wa9,Wa9,hp];cases h:r.isEmpty with
  |true=>simp only[if_true];rw[Wbe,Waj,Wdt,Wbe,ih,hg];rfl
  |false=>simp only[Wav,if_false];exact ih
section
variable {P:Program}{w:World}{K:W.Frag}{mg:Str->Option Value}{base:Heap}{f:Addr}{fd:FuncData}
theorem Zfs:2<=sizeLine:=by decide
end
def fLeastL:DSp:=λds Post=>∃ns:List Int,ds=[.lst (ns.map .int)]/\0<ns.length/\ns.length<=100/\∀m,m∈ns->(∀a∈ns,m<=a)->Post (rowD<|rotAt ns<|ns.idxOf m)
def fFaceOf:DSp:=λds Post=>∃n ts o,∃e:Nat,ds=[encWeb n ts,encOrd o,.int e]/\WebOk n ts/\OrdOk n ts o/\e<2*ts.length/\∀g:Nat,g<2*ts.length->leastB (onI ts o) g=true->(g:Int)∈orb (onI ts o) e->Post (rowD<|orb (onI ts o) g)
noncomputable def allF (ts:List (Int × Int)) (o:List (List Int)):List (List Int):=Wak (lone o) []++facesTo (onI ts o) (2*ts.length)
def fFaces:NSp:=λds Post=>∃n ts o,ds=[encWeb n ts,encOrd o]/\WebOk n ts/\OrdOk n ts o/\Post ((allF ts o).map rowD)
theorem Zsp {n:Int}{ts:List (Int × Int)}{o:List (List Int)}(hW:WebOk n ts) (hO:OrdOk n ts o):(allF ts o).length<=100:=by
 unfold allF;rw[Wai,Wax];have:=Zgl (onI ts o) (2*ts.length);have:=Zis o;have:=hO.len;have:=hW.hi;have:=hW.len;omega
theorem Zsa {n:Int}{ts:List (Int × Int)}{o:List (List Int)}(hW:WebOk n ts) (hO:OrdOk n ts o):Asc (allF ts o):=Zk2 (Zfw hW hO) (Wag _) _
def loI (a b:Int):Int:=if b<a then b else a
def hiI (a b:Int):Int:=if b > a then b else a
def mergeL (l:List Int) (a b:Int):List Int:=l.map λf=>if f=hiI (l.getD a.toNat 0) (l.getD b.toNat 0) then loI (l.getD a.toNat 0) (l.getD b.toNat 0) else f
def marksL (n:Nat) (ts:List (Int × Int)):List Int:=ts.foldl (λl t=>mergeL l t.1 t.2) ((Wah n).map λi:Nat=>(i:Int))
theorem Zht (l:List Int) (a b:Int):(mergeL l a b).length=l.length:=by unfold mergeL;rw[Wab]
theorem Za5 (n:Nat) (ts:List (Int × Int)):(marksL n ts).length=n:=by
 unfold marksL;have:∀(ts:List (Int × Int)) (l:List Int),(ts.foldl (λl t=>mergeL l t.1 t.2) l).length=l.length:=by
  intro ts
  induction ts with
  |nil=>intro l;rfl
  |cons t ts ih=>intro l;rw[List.foldl_cons,ih,Zht]
 rw[this,Wab,Waz]
theorem Zbr {n:Nat}{ts:List (Int × Int)}{i:Nat}{t:Int × Int}(h:ts[i]?=some t):marksL n (ts.take<|i+1)=mergeL (marksL n<|ts.take i) t.1 t.2:=by
 unfold marksL;rw[Wb5,h,List.foldl_append];rfl
def Firsts (ms l:List Int):Prop:=ms.Pairwise (· < ·)/\∀x,x∈ms↔x∈l
theorem Zcl:∀{ms ms':List Int},ms.Pairwise (· < ·)->ms'.Pairwise (· < ·)->(∀x,x∈ms↔x∈ms')->ms=ms'
 |[],[],_,_,_=>rfl
 |[],y::l',_,_,h=>by have:=(h y).mpr (by simp);simp at this
 |x::l,[],_,_,h=>by have:=(h x).mp (by simp);simp at this
 |x::l,y::l',h1,h2,h=>by
  rw[Wdy]at h1 h2;have exy:x=y:=by
   have a:=(h x).mp (by simp);have b:=(h y).mpr (by simp);rcases Wan.mp a with z|z
   ·exact z
   ·rcases Wan.mp b with z'|z'
    ·exact z'.symm
    ·have:=h1.1 _ z'
     have:=h2.1 _ z;omega
  subst exy;rw[Zcl h1.2 h2.2 λz=>?_];constructor
  ·intro hz
   have:=h1.1 _ hz;rcases Wan.mp ((h z).mp (Waw _ hz)) with q|q
   ·omega
   ·exact q
  ·intro hz
   have:=h2.1 _ hz;rcases Wan.mp ((h z).mpr (Waw _ hz)) with q|q
   ·omega
   ·exact q
theorem Firsts.uniq {ms ms' l:List Int}(h:Firsts ms l) (h':Firsts ms' l):ms=ms':=Zcl h.1 h'.1 λx=>(h.2 x).trans (h'.2 x).symm
theorem Zci:∀{ms l:List Int},ms.Nodup->(∀x∈ms,x∈l)->ms.length<=l.length
 |[],_,_,_=>by simp
 |x::ms,l,h1,h2=>by
  rw[Wbu]at h1;have hx:=h2 x (by simp);have:=Zci (ms:=ms) (l:=l.erase x) h1.2 λy hy=>(Wdp λz:y=x=>h1.1 (z ▸ hy)).mpr (h2 y (by simp[hy]));rw[Wdd hx]at this;have:=Wb9 hx;rw[Waj];omega
theorem Firsts.len {ms l:List Int}(h:Firsts ms l):ms.length<=l.length:=Zci (h.1.imp λz=>Wd9 z) λx hx=>(h.2 x).mp hx
def partI (l:List Int) (n:Nat) (f:Int):List Int:=((Wah n).map λi:Nat=>(i:Int)).filter λp=>decide (l.getD p.toNat 0=f)
def lstI (r:List Int):D:=.lst<|r.map .int
def partsL (n:Nat) (ts:List (Int × Int)) (ms:List Int):List (List Int):=ms.map<|partI (marksL n ts) n
def fParts:NSp:=λds Post=>∃n ts,ds=[encWeb n ts]/\WebOk n ts/\∀ms,Firsts ms (marksL n.toNat ts)->Post ((partsL n.toNat ts ms).map lstI)
theorem Zxn (l:List Int) (n:Nat) (f:Int) (p:D->Bool) (hp:∀i:Int,p (.int i)=decide (l.getD i.toNat 0=f)) (g:D->D) (hg:∀d,g d=d):D.lst (((rngD 0 n).filter p).map g)=lstI (partI l n f):=by
 have e1:rngD 0 n=((Wah n).map λi:Nat=>(i:Int)).map D.int:=by
  unfold rngD;rw[Wa6];apply Wcl;intro i _;show D.int (0+(i:Int))=D.int (i:Int);rw[Wc1]
 unfold lstI partI;rw[e1,Wdv,show g=id from funext hg,List.map_id];have e2:(p∘D.int)=λq:Int=>decide (l.getD q.toNat 0=f):=funext hp;rw[e2]
theorem Zvo {n:Nat}{l ms:List Int}(q:D->Bool) (hq:∀d,q d=true) (g:D->D) (hg:∀f:Int,g (.int f)=lstI (partI l n f)):((ms.map D.int).filter q).map g=(ms.map<|partI l n).map lstI:=by
 rw[Wbr.mpr (λd _=>hq d),Wa6,Wa6];apply Wcl;intro f _;exact hg f
section
variable {f:Int->Int}{m:Nat}(F:OneOne f m)
include F
end
theorem Zb3 (l:List Int) (a b:Int) {p:Nat}(hp:p<l.length):(mergeL l a b).getD p 0=if l.getD p 0=hiI (l.getD a.toNat 0) (l.getD b.toNat 0) then loI (l.getD a.toNat 0) (l.getD b.toNat 0) else l.getD p 0:=by
 unfold mergeL;rw[Wac,Wae,Waa hp,Wac (l:=l) (i:=p),Waa hp];rfl
theorem lohi (a b:Int):(a=loI a b\/a=hiI a b)/\(b=loI a b\/b=hiI a b):=by
 unfold loI hiI;constructor
 ·by_cases h:b<a
  ·right;rw[if_neg (by omega)]
  ·left;rw[if_neg h]
 ·by_cases h:b<a
  ·left;rw[if_pos h]
  ·by_cases h2:b > a
   ·right;rw[if_pos h2]
   ·left;rw[if_neg h];omega
theorem Zho (l:List Int) {t:Int × Int}(h1:t.1.toNat<l.length) (h2:t.2.toNat<l.length):(mergeL l t.1 t.2).getD t.1.toNat 0=loI (l.getD t.1.toNat 0) (l.getD t.2.toNat 0)/\(mergeL l t.1 t.2).getD t.2.toNat 0=loI (l.getD t.1.toNat 0) (l.getD t.2.toNat 0):=by
 obtain⟨a,b⟩:=lohi (l.getD t.1.toNat 0)<|l.getD t.2.toNat 0;rw[Zb3 _ _ _ h1,Zb3 _ _ _ h2];constructor
 ·split
  ·rfl
  ·rename_i h;rcases a with a|a
   ·exact a
   ·exact absurd a h
 ·split
  ·rfl
  ·rename_i h;rcases b with b|b
   ·exact b
   ·exact absurd b h
section
variable {N:Nat}{ts:List (Int × Int)}(hW:WebOk (N:Int) ts)
include hW
theorem Zge:∀i,i<=ts.length->∀t∈ts.take i,(marksL N<|ts.take i).getD t.1.toNat 0=(marksL N<|ts.take i).getD t.2.toNat 0
 |0,_,t,ht=>by simp at ht
 |i+1,hi,t,ht=>by
  have hlt:i<ts.length:=hi;have z:=Waa hlt;rw[Zbr z];have hl:=Za5 N<|ts.take i;have hu:=hW.tie _<|Wa8 hlt;rw[Wb5,z]at ht;rcases Wbh.mp ht with h|h
  ·have ih:=Zge i (by omega) t h
   have hr:=hW.tie t<|List.mem_of_mem_take h;rw[Zb3 _ _ _ (by omega),Zb3 _ _ _ (by omega),ih]
  ·have e:t=ts[i]:=by simpa using h
   subst e;obtain⟨a,b⟩:=Zho (marksL N<|ts.take i) (t:=ts[i]) (by omega) (by omega);rw[a,b]
theorem Zmf {t:Int × Int}(ht:t∈ts):(marksL N ts).getD t.1.toNat 0=(marksL N ts).getD t.2.toNat 0:=by
 have:=Zge hW ts.length (Wag _) t (by rw[Wba];exact ht);rw[Wba]at this;exact this
end
theorem Zjy {l:List Int}{n:Nat}{g x:Int}:x∈partI l n g↔0<=x/\x<(n:Int)/\l.getD x.toNat 0=g:=by
 unfold partI;rw[Wa5,Wa1,decide_eq_true_iff];constructor
 ·rintro⟨⟨i,hi,rfl⟩,h⟩
  rw[Waq]at hi;exact⟨by omega,by omega,h⟩
 ·rintro⟨h0,h1,h⟩
  exact⟨⟨x.toNat,Waq.mpr (by omega),by omega⟩,h⟩
section
variable {N:Nat}{ts:List (Int × Int)}{o:List (List Int)}(hW:WebOk (N:Int) ts) (hO:OrdOk (N:Int) ts o)
include hW
theorem Zjw {e:Nat}(he:e<2*ts.length):(marksL N ts).getD (placeAt ts<|partner e).toNat 0=(marksL N ts).getD (placeAt ts e).toNat 0:=by
 have hk:e / 2<ts.length:=by omega
 have z:=Waa hk;have ht:=Zmf hW<|Wa8 hk;have e2:partner e / 2=e / 2:=by unfold partner;split <;> omega
 unfold placeAt;rw[e2,z];dsimp only;by_cases h:e % 2=0
 ·rw[if_pos h,if_neg (by unfold partner;rw[if_pos h];omega)];exact ht.symm
 ·rw[if_neg h,if_pos (by unfold partner;rw[if_neg h];omega)];exact ht
include hO
include hW hO
theorem Zn8:(allF ts o).length=lone o+((Wah (2*ts.length)).filter λe=>leastB (onI ts o) e && true).length:=by
 unfold allF facesTo;rw[Wai,Wax,Wab];congr 3
 funext e
 rw[Wds]
end
theorem Zi5 {l:List Int}{a b:Int}(h:l.getD a.toNat 0=l.getD b.toNat 0):mergeL l a b=l:=by
 unfold mergeL
 conv=>rhs;rw[<- List.map_id l]
 apply Wcl;intro f _;have e1:hiI (l.getD a.toNat 0) (l.getD b.toNat 0)=l.getD a.toNat 0:=by rw[<- h];unfold hiI;split <;> rfl
 have e2:loI (l.getD a.toNat 0) (l.getD b.toNat 0)=l.getD a.toNat 0:=by rw[<- h];unfold loI;split <;> rfl
 rw[e1,e2];split
 ·rename_i z;exact z.symm
 ·rfl
structure Goes (N:Nat) (l l':List Int) (lo hi:Int):Prop where
 len:l.length=N
 len':l'.length=N
 lt:lo<hi
 inL:lo∈l
 inH:hi∈l
 to:∀p:Nat,p<N->l'.getD p 0=if l.getD p 0=hi then lo else l.getD p 0
theorem Zfl {N:Nat}{l:List Int}{t:Int × Int}(hl:l.length=N) (h1:t.1.toNat<N) (h2:t.2.toNat<N) (hne:l.getD t.1.toNat 0≠l.getD t.2.toNat 0) :
  Goes N l (mergeL l t.1 t.2) (loI (l.getD t.1.toNat 0)<|l.getD t.2.toNat 0) (hiI (l.getD t.1.toNat 0)<|l.getD t.2.toNat 0):=by
 have m1:l.getD t.1.toNat 0∈l:=by rw[Wac,Waa (by omega:t.1.toNat<l.length)];exact Wa8 _
 have m2:l.getD t.2.toNat 0∈l:=by rw[Wac,Waa (by omega:t.2.toNat<l.length)];exact Wa8 _
 refine⟨hl,by rw[Zht,hl],?_,?_,?_,λp hp=>Zb3 _ _ _<|by omega⟩
 ·unfold loI hiI;split <;> split <;> omega
 ·unfold loI;split
  ·exact m2
  ·exact m1
 ·unfold hiI;split
  ·exact m2
  ·exact m1
section
variable {N:Nat}{l l' ms ms':List Int}{lo hi:Int}(G:Goes N l l' lo hi)
theorem Zov {l:List Int}{x:Int}(h:x∈l):∃p:Nat,p<l.length/\l.getD p 0=x:=by
 obtain⟨p,hp,rfl⟩:=Wdc h;exact⟨p,hp,by rw[Wac,Waa hp];rfl⟩
theorem Zp9 {l:List Int}{p:Nat}(h:p<l.length):l.getD p 0∈l:=by
 rw[Wac,Waa h];exact Wa8 h
include G
theorem Goes.mem {x:Int}:x∈l'↔x∈l/\x≠hi:=by
 have h1:=G.len;have h2:=G.len';have h3:=G.lt;constructor
 ·intro h
  obtain⟨p,hp,e⟩:=Zov h;rw[G.to p (by omega)]at e;split at e
  ·rw[<- e];exact⟨G.inL,by omega⟩
  ·rename_i z
   rw[<- e];exact⟨Zp9 (by omega),z⟩
 ·rintro⟨h,hne⟩
  obtain⟨p,hp,e⟩:=Zov h;have:l'.getD p 0=x:=by rw[G.to p (by omega),e,if_neg hne]
  rw[<- this];exact Zp9 (by omega)
theorem Goes.firsts (h:Firsts ms l) (h':Firsts ms' l'):ms'=ms.filter λg=>decide (g≠hi):=by
 refine Zcl h'.1 (List.Pairwise.filter _ h.1) λx=>?_;rw[h'.2,Wa5,decide_eq_true_iff,h.2];exact G.mem
omit G in
theorem Zqu (l:List Int) (N:Nat) (g:Int):(partI l N g).Pairwise (· < ·):=by
 unfold partI;refine List.Pairwise.filter _ ?_;rw[Wbz];exact Wbj.imp λh=>by omega
omit G in
theorem Zs8 {ms:List Int}{lo:Int}(h1:ms.Pairwise (· < ·)) (h3:lo∈ms):(ms.filter λg=>decide (g=lo))=[lo]:=by
 refine Zcl (List.Pairwise.filter _ h1) (by simp) λx=>?_;rw[Wa5,decide_eq_true_iff,Wa4];exact⟨λh=>h.2,λh=>⟨h ▸ h3,h⟩⟩
omit G in
theorem Zbq {α:Type}(p:α -> Bool):∀l:List α,l.length=(l.filter p).length+(l.filter λx=>!p x).length
 |[]=>rfl
 |x::l=>by
  have ih:=Zbq p l;rw[Wa9,Wa9];cases h:p x with
  |true=>simp only[if_true,Wc9,Wav,if_false,Waj];omega
  |false=>simp only[if_true,Wd1,Wav,if_false,Waj];omega
theorem Goes.count (h:Firsts ms l) (h':Firsts ms' l'):ms.length=ms'.length+1:=by
 rw[G.firsts h h'];have e:=Zs8 h.1 ((h.2 _).mpr G.inH);have q:=Zbq (λg:Int=>decide (g=hi)) ms;rw[e,Wbq]at q;have e2:(ms.filter λg=>!decide (g=hi))=ms.filter λg=>decide (g≠hi):=by
  apply Wbv;intro g _;by_cases c:g=hi
  ·rw[decide_eq_true c,decide_eq_false (by simpa using c)];rfl
  ·rw[decide_eq_false c,decide_eq_true c];rfl
 rw[e2]at q;omega
end
theorem Zea {f:Int->Int}{e:Int}{S:Int->Prop}(h:S e) (hc:∀x,S x->S (f x)):∀y∈orb f e,S y:=by
 intro y hy;obtain⟨j,hj,rfl⟩:=Zar.mp hy;clear hj hy
 induction j with
 |zero=>exact h
 |succ j ih=>exact hc _ ih
def swapF (f:Int->Int) (a b:Int) (x:Int):Int:=if x=a then f b else if x=b then f a else f x
theorem Zei (f:Int->Int) (a b:Int):swapF f a b a=f b:=by unfold swapF;rw[if_pos rfl]
theorem Zey (f:Int->Int) (a b:Int):swapF f a b b=f a:=by
 unfold swapF;by_cases h:b=a
 ·rw[if_pos h,h]
 ·rw[if_neg h,if_pos rfl]
theorem Zc8 {f:Int->Int}{a b x:Int}(h1:x≠a) (h2:x≠b):swapF f a b x=f x:=by unfold swapF;rw[if_neg h1,if_neg h2]
theorem Zre (f:Int->Int) (a b:Int):swapF (swapF f a b) a b=f:=by
 funext x
 by_cases h1:x=a
 ·subst h1;rw[Zei,Zey]
 ·by_cases h2:x=b
  ·subst h2;rw[Zey,Zei]
  ·rw[Zc8 h1 h2,Zc8 h1 h2]
theorem Zcy {f:Int->Int}{m:Nat}(F:OneOne f m) {a b:Int}(a0:0<=a) (a1:a<(m:Int)) (b0:0<=b) (b1:b<(m:Int)):OneOne (swapF f a b) m:=by
 refine⟨λx h0 h1=>?_,λx y x0 x1 y0 y1 q=>?_⟩
 ·unfold swapF
  split
  ·exact F.to _ b0 b1
  ·split
   ·exact F.to _ a0 a1
   ·exact F.to _ h0 h1
 ·-- the preimage through the exchange
  have key:∀z:Int,∃z',swapF f a b z=f z' /\ (z=a->z'=b)/\(z=b->z'=a)/\(z≠a->z≠b->z'=z):=λz=>by
   by_cases h1:z=a
   ·refine⟨b,by rw[h1,Zei],λ_=>rfl,λh=>?_,λh=>absurd h1 h⟩
    rw[<- h,h1]
   ·by_cases h2:z=b
    ·exact⟨a,by rw[h2,Zey],λh=>absurd h h1,λ_=>rfl,λ_ h=>absurd h2 h⟩
    ·exact⟨z,Zc8 h1 h2,λh=>absurd h h1,λh=>absurd h h2,λ_ _=>rfl⟩
  obtain⟨x',ex,xa,xb,xo⟩:=key x;obtain⟨y',ey,ya,yb,yo⟩:=key y;have rx:0<=x' /\ x'<(m:Int):=by
   by_cases h1:x=a
   ·rw[xa h1];exact⟨b0,b1⟩
   ·by_cases h2:x=b
    ·rw[xb h2];exact⟨a0,a1⟩
    ·rw[xo h1 h2];exact⟨x0,x1⟩
  have ry:0<=y' /\ y'<(m:Int):=by
   by_cases h1:y=a
   ·rw[ya h1];exact⟨b0,b1⟩
   ·by_cases h2:y=b
    ·rw[yb h2];exact⟨a0,a1⟩
    ·rw[yo h1 h2];exact⟨y0,y1⟩
  have e:=F.inj x' y' rx.1 rx.2 ry.1 ry.2 (by rw[<- ex,<- ey];exact q);by_cases h1:x=a
  ·by_cases h2:y=a
   ·rw[h1,h2]
   ·by_cases h3:y=b
    ·have:=xa h1;have:=yb h3;omega
    ·have:=xa h1;have:=yo h2 h3;omega
  ·by_cases h1':x=b
   ·by_cases h2:y=a
    ·have:=xb h1';have:=ya h2;omega
    ·by_cases h3:y=b
     ·rw[h1',h3]
     ·have:=xb h1';have:=yo h2 h3;omega
   ·have hx:=xo h1 h1'
    by_cases h2:y=a
    ·have:=ya h2;omega
    ·by_cases h3:y=b
     ·have:=yb h3;omega
     ·have:=yo h2 h3;omega
noncomputable def cnt (f:Int->Int) (m:Nat) (Pd:Nat->Bool):Nat:=((Wah m).filter λe=>leastB f e && Pd e).length
section
variable {f:Int->Int}{m:Nat}(F:OneOne f m)
include F
theorem Zd0 {x:Int}(h0:0<=x) (h1:x<(m:Int)) (p:Nat->Bool) (hp:∀e:Nat,e<m->(p e=true↔(e:Int)∈orb f x)):((Wah m).filter λe=>leastB f e && p e).length=1:=by
 obtain⟨g,hg,hl,hin,_⟩:=Zou F h0 h1;have mem:∀e,e∈((Wah m).filter λe=>leastB f e && p e)↔e=g:=λe=>by
  rw[Wa5,Waq,Wbc];constructor
  ·rintro⟨he,l1,l2⟩
   have l2:=(hp e he).mp l2;have m1:=Zbj F (by omega) (by omega) (Zbl F h0 h1 l2) hin;have m2:=Zbj F (by omega) (by omega) (Zbl F h0 h1 hin) l2;have a:=of_decide_eq_true (show decide (∀z∈orb f (e:Int),(e:Int)<=z)=true from l1) _ m1;have b:=of_decide_eq_true (show decide (∀z∈orb f (g:Int),(g:Int)<=z)=true from hl) _ m2;omega
  ·rintro rfl
   exact⟨hg,hl,(hp e hg).mpr hin⟩
 have nd:((Wah m).filter λe=>leastB f e && p e).Nodup:=List.Pairwise.filter _ Wdn;have a:=Zb8 (m:=[g]) nd λe he=>by rw[Wa4];exact(mem e).mp he
 have b:=Wb9 ((mem g).mpr rfl);rw[Wbq]at a;omega
theorem Zo0 {g:Int->Int}{S:Int->Prop}(hS:∀x,0<=x->x<(m:Int)->¬ S x->g x=f x) (hc:∀x,0<=x->x<(m:Int)->¬ S x->¬ S (f x)) (G:OneOne g m) {e:Int}(h0:0<=e) (h1:e<(m:Int)) (hn:¬ S e):∀y,y∈orb g e↔y∈orb f e:=by
 have it:∀j,iter g e j=iter f e j/\¬ S (iter f e j):=λj=>by
  induction j with
  |zero=>exact⟨rfl,hn⟩
  |succ j ih=>
   have r:=Za7 F h0 h1 j;refine⟨?_,hc _ r.1 r.2 ih.2⟩;show g (iter g e j)=f (iter f e j);rw[ih.1,hS _ r.1 r.2 ih.2]
 intro y;constructor
 ·intro hy
  obtain⟨j,_,rfl⟩:=Zar.mp hy;rw[(it j).1];exact Za6 F h0 h1 j
 ·intro hy
  obtain⟨j,_,rfl⟩:=Zar.mp hy;rw[<- (it j).1];exact Za6 G h0 h1 j
end
section
variable {f:Int->Int}{m:Nat}(F:OneOne f m) {a b:Int}(a0:0<=a) (a1:a<(m:Int)) (b0:0<=b) (b1:b<(m:Int)) (hab:a≠b) (hin:b∈orb f a)
include F a0 a1 b0 b1 hab hin
theorem halves:∃j,0<j/\j<per f a/\iter f a j=b/\(∀y,y∈orb (swapF f a b) b ↔ ∃i,1<=i/\i<=j/\iter f a i=y)/\(∀y,y∈orb (swapF f a b) a ↔ ∃i,(i=0\/j<i)/\i<per f a/\iter f a i=y):=by
 have O:=Zde F a0 a1;have G:=Zcy F a0 a1 b0 b1;obtain⟨j,hj,ej⟩:=Zar.mp hin;have hj0:0<j:=by
  rcases Nat.eq_zero_or_pos j with z|z
  ·rw[z]at ej;exact absurd ej hab
  ·exact z
 have nea:∀i,0<i->i<per f a->iter f a i≠a:=λi h1 h2 q=>by
  have:=O.nd i 0 h2 O.pos q;omega
 have neb:∀i,i≠j->i<per f a->iter f a i≠b:=λi h1 h2 q=>by
  have:=O.nd i j h2 hj<|q.trans ej.symm;omega
 have up1:∀i,1<=i->i<=j->iter (swapF f a b) b i=iter f a i:=λi h1 h2=>by
  induction i with
  |zero=>omega
  |succ i ih=>
   cases i with
   |zero=>exact Zey f a b
   |succ i=>
    show swapF f a b (iter (swapF f a b) b<|i+1)=f (iter f a<|i+1);rw[ih (by omega) (by omega),Zc8 (nea _ (by omega)<|by omega) (neb _ (by omega)<|by omega)]
 have up2:∀i,1<=i->j+i<=per f a->iter (swapF f a b) a i=iter f a (j+i):=λi h1 h2=>by
  induction i with
  |zero=>omega
  |succ i ih=>
   cases i with
   |zero=>
    show swapF f a b a=f (iter f a j);rw[Zei,ej]
   |succ i=>
    show swapF f a b (iter (swapF f a b) a<|i+1)=f (iter f a<|j+(i+1));rw[ih (by omega) (by omega),Zc8 (nea _ (by omega)<|by omega) (neb _ (by omega)<|by omega)]
 refine⟨j,hj0,hj,ej,λy=>⟨λhy=>?_,?_⟩,λy=>⟨λhy=>?_,?_⟩⟩
 ·refine Zea (S:=λy=>∃i,1<=i/\i<=j/\iter f a i=y) ⟨j,hj0,Wag _,ej⟩ (λx ⟨i,h1,h2,e⟩=>?_) y hy
  by_cases c:i=j
  ·have:x=b:=by rw[<- e,c,ej]
   exact⟨1,Wag _,hj0,by rw[this,Zey];rfl⟩
  ·refine⟨i+1,by omega,by omega,?_⟩
   rw[<- e,Zc8 (nea _ (by omega)<|by omega) (neb _ c<|by omega)];rfl
 ·rintro⟨i,h1,h2,rfl⟩
  rw[<- up1 i h1 h2];exact Za6 G b0 b1 i
 ·refine Zea (S:=λy=>∃i,(i=0\/j<i)/\i<per f a/\iter f a i=y) ⟨0,.inl rfl,O.pos,rfl⟩ (λx ⟨i,h1,h2,e⟩=>?_) y hy
  have step:∀k,j<k+1->k+1<=per f a->∃i,(i=0\/j<i)/\i<per f a/\iter f a i=f (iter f a k):=λk hk1 hk2=>by
   by_cases c:k+1=per f a
   ·refine⟨0,.inl rfl,O.pos,?_⟩
    have:=O.back;rw[<- c]at this;exact this.symm
   ·exact⟨k+1,.inr hk1,by omega,rfl⟩
  rcases h1 with h1|h1
  ·subst h1
   have:x=a:=e.symm;rw[this,Zei,<- ej];exact step j (by omega) (by omega)
  ·rw[<- e,Zc8 (nea _ (by omega) h2) (neb _ (by omega) h2)]
   exact step i (by omega) (by omega)
 ·rintro⟨i,h1,h2,rfl⟩
  rcases h1 with h1|h1
  ·subst h1;exact Zbv G a0 a1
  ·have:=up2 (i-j) (by omega) (by omega)
   rw[show j+(i-j)=i by omega]at this;rw[<- this];exact Za6 G a0 a1 _
theorem Zin (Pd:Nat->Bool) (hP:∀e:Nat,(e:Int)∈orb f a->Pd e=Pd a.toNat):cnt (swapF f a b) m Pd=cnt f m Pd+(if Pd a.toNat=true then 1 else 0):=by
 have O:=Zde F a0 a1;have G:=Zcy F a0 a1 b0 b1;obtain⟨j,hj0,hj,ej,L1,L2⟩:=halves F a0 a1 b0 b1 hab hin;have whole:∀y,y∈orb f a↔y∈orb (swapF f a b) b\/y∈orb (swapF f a b) a:=λy=>by
  rw[L1,L2];constructor
  ·intro hy
   obtain⟨i,hi,e⟩:=Zar.mp hy;by_cases c:1<=i/\i<=j
   ·exact .inl ⟨i,c.1,c.2,e⟩
   ·exact .inr ⟨i,by omega,hi,e⟩
  ·rintro(⟨i,h1,h2,rfl⟩|⟨i,h1,h2,rfl⟩) <;> exact Za6 F a0 a1 i
 have apart:∀y,y∈orb (swapF f a b) b->y∈orb (swapF f a b) a->False:=λy h1 h2=>by
  obtain⟨i,i1,i2,e1⟩:=(L1 y).mp h1;obtain⟨k,k1,k2,e2⟩:=(L2 y).mp h2;have:=O.nd i k (by omega) k2<|e1.trans e2.symm;omega
 -- outside nothing changes
 have out:∀e:Nat,e<m->(e:Int) ∉ orb f a->leastB (swapF f a b) e=leastB f e:=λe he hn=>by
  have:=Zo0 F (g:=swapF f a b) (S:=λx=>x∈orb f a) (λx h0 h1 hx=>Zc8 (λz=>hx (by rw[z];exact Zbv F a0 a1)) λz=>hx (by rw[z];exact hin))
   (λx h0 h1 hx hf=>hx<|Zbj F a0 a1 hf<|Zbl F h0 h1<|Za6 F h0 h1 1) G (e:=(e:Int)) (by omega) (by omega) hn
  unfold leastB;rw[decide_eq_decide];exact⟨λh x hx=>h x ((this x).mpr hx),λh x hx=>h x ((this x).mp hx)⟩
 unfold cnt;rw[Zbq (λe:Nat=>decide ((e:Int)∈orb f a)) ((Wah m).filter λe=>leastB (swapF f a b) e && Pd e),Zbq (λe:Nat=>decide ((e:Int)∈orb f a)) ((Wah m).filter λe=>leastB f e && Pd e)];rw[Wbw,Wbw,Wbw,Wbw];have eout:(Wah m).filter (λe:Nat=>(!decide ((e:Int)∈orb f a)) && (leastB (swapF f a b) e && Pd e))=(Wah m).filter λe:Nat=>(!decide ((e:Int)∈orb f a)) && (leastB f e && Pd e):=by
  apply Wbv;intro e he;rw[Waq]at he;by_cases c:(e:Int)∈orb f a
  ·rw[decide_eq_true c];rfl
  ·rw[out e he c]
 rw[eout];by_cases hp:Pd a.toNat=true
 ·rw[if_pos hp]
  have i1:((Wah m).filter λe:Nat=>decide ((e:Int)∈orb f a) && (leastB f e && Pd e)).length=1:=by
   rw[<- Zd0 F a0 a1 (λe:Nat=>decide ((e:Int)∈orb f a)) λe he=>decide_eq_true_iff];congr 1;apply Wbv;intro e he;by_cases c:(e:Int)∈orb f a
   ·rw[decide_eq_true c,hP e c,hp,Wds,Wdr]
   ·rw[decide_eq_false c,Wci,Wcv]
  have i2:((Wah m).filter λe:Nat=>decide ((e:Int)∈orb f a) && (leastB (swapF f a b) e && Pd e)).length=2:=by
   rw[Zbq (λe:Nat=>decide ((e:Int)∈orb (swapF f a b) b)) ((Wah m).filter λe:Nat=>decide ((e:Int)∈orb f a) && (leastB (swapF f a b) e && Pd e)),Wbw,Wbw];have k1:=Zd0 G b0 b1 (λe:Nat=>decide ((e:Int)∈orb (swapF f a b) b)) λe he=>decide_eq_true_iff;have k2:=Zd0 G a0 a1 (λe:Nat=>decide ((e:Int)∈orb (swapF f a b) a)) λe he=>decide_eq_true_iff;have e1:(Wah m).filter (λe:Nat=>decide ((e:Int)∈orb (swapF f a b) b) && (decide ((e:Int)∈orb f a) && (leastB (swapF f a b) e && Pd e)))=(Wah m).filter λe:Nat=>leastB (swapF f a b) e && decide ((e:Int)∈orb (swapF f a b) b):=by
    apply Wbv;intro e he;by_cases c:(e:Int)∈orb (swapF f a b) b
    ·have c2:=(whole _).mpr (.inl c)
     rw[decide_eq_true c,decide_eq_true c2,hP e c2,hp,Wdr,Wdr]
    ·rw[decide_eq_false c,Wci,Wcv]
   have e2:(Wah m).filter (λe:Nat=>(!decide ((e:Int)∈orb (swapF f a b) b)) && (decide ((e:Int)∈orb f a) && (leastB (swapF f a b) e && Pd e)))=(Wah m).filter λe:Nat=>leastB (swapF f a b) e && decide ((e:Int)∈orb (swapF f a b) a):=by
    apply Wbv;intro e he;by_cases c:(e:Int)∈orb (swapF f a b) a
    ·have c2:=(whole _).mpr (.inr c)
     have c3:(e:Int) ∉ orb (swapF f a b) b:=λz=>apart _ z c;rw[decide_eq_true c,decide_eq_false c3,decide_eq_true c2,hP e c2,hp,Wd1,Wdr,Wdr]
    ·rw[decide_eq_false c,Wcv]
     by_cases c3:(e:Int)∈orb (swapF f a b) b
     ·rw[decide_eq_true c3];rfl
     ·have c4:(e:Int) ∉ orb f a:=λz=>((whole _).mp z).elim c3 c
      rw[decide_eq_false c4,Wci,Wcv]
   rw[e1,e2,k1,k2]
  rw[i1,i2];omega
 ·rw[if_neg hp]
  have z:∀g:Int->Int,(Wah m).filter (λe:Nat=>decide ((e:Int)∈orb f a) && (leastB g e && Pd e))=[]:=λg=>by
   rw[Wd6];intro e he;by_cases c:(e:Int)∈orb f a
   ·rw[hP e c,Wb0.mpr hp,Wcv,Wcv];exact Wal
   ·rw[decide_eq_false c,Wci];exact Wal
  rw[z,z];rfl
end
section
variable {P:Program}{w:World}{K:W.Frag}{mg:Str->Option Value}{base:Heap}{f:Addr}{fd:FuncData}
theorem Zdd:∀l:List Int,∃ms,Firsts ms l
 |[]=>⟨[],.nil,λx=>Iff.rfl⟩
 |x::l=>by
  obtain⟨ms,h1,h2⟩:=Zdd l;by_cases c:x∈ms
  ·refine⟨ms,h1,λy=>?_⟩
   rw[Wan,h2];exact⟨.inr,λz=>z.elim (λq=>q ▸ (h2 x).mp c) id⟩
  ·refine⟨(ms.filter λy=>decide (y<x))++x::(ms.filter λy=>decide (x<y)),?_,λy=>?_⟩
   ·rw[List.pairwise_append,Wdy]
    refine⟨List.Pairwise.filter _ h1,⟨λa ha=>?_,List.Pairwise.filter _ h1⟩,λa ha b hb=>?_⟩
    ·rw[Wa5,decide_eq_true_iff]at ha;exact ha.2
    ·rw[Wa5,decide_eq_true_iff]at ha
     rcases Wan.mp hb with z|z
     ·rw[z];exact ha.2
     ·rw[Wa5,decide_eq_true_iff]at z;omega
   ·rw[Wbh,Wan,Wan,Wa5,Wa5,decide_eq_true_iff,decide_eq_true_iff,h2]
    constructor
    ·rintro(z|z|z)
     ·exact .inr z.1
     ·exact .inl z
     ·exact .inr z.1
    ·rintro(z|z)
     ·exact .inr (.inl z)
     ·rcases Int.lt_trichotomy y x with q|q|q
      ·exact .inl ⟨z,q⟩
      ·exact .inr (.inl q)
      ·exact .inr (.inr ⟨z,q⟩)
theorem Zpm {N r:Nat}(hr:r<N):(marksL N []).getD r 0=(r:Int):=by
 show ((Wah N).map λi:Nat=>(i:Int)).getD r 0=_;rw[Wac,Wae,Wb4 hr];rfl
theorem Zg0 {N:Nat}{ms:List Int}(h:Firsts ms (marksL N [])):ms=(Wah N).map λi:Nat=>(i:Int):=by
 refine Zcl h.1 ?_ λx=>(h.2 x).trans Iff.rfl;rw[Wbz];exact Wbj.imp λh=>by omega
end
section
variable {f:Int->Int}{m:Nat}(F:OneOne f m) {a b:Int}(a0:0<=a) (a1:a<(m:Int)) (b0:0<=b) (b1:b<(m:Int)) (hout:b ∉ orb f a)
include F a0 a1 b0 b1 hout
theorem joined:b∈orb (swapF f a b) a:=by
 have O:=Zde F b0 b1;have G:=Zcy F a0 a1 b0 b1;have nea:∀i,iter f b i≠a:=λi q=>by
  have:=Za6 F b0 b1 i;rw[q]at this;exact hout (Zbl F b0 b1 this)
 have neb:∀i,0<i->i<per f b->iter f b i≠b:=λi h1 h2 q=>by
  have:=O.nd i 0 h2 O.pos q;omega
 have up:∀i,1<=i->i<=per f b->iter (swapF f a b) a i=iter f b i:=λi h1 h2=>by
  induction i with
  |zero=>omega
  |succ i ih=>
   cases i with
   |zero=>exact Zei f a b
   |succ i=>
    show swapF f a b (iter (swapF f a b) a<|i+1)=f (iter f b<|i+1);rw[ih (by omega) (by omega),Zc8 (nea _) (neb _ (by omega)<|by omega)]
 have:=Za6 G a0 a1<|per f b;rw[up _ O.pos (Wag _),O.back]at this;exact this
theorem Zpu:∀y∈orb (swapF f a b) a,y∈orb f a\/y∈orb f b:=by
 refine Zea (S:=λy=>y∈orb f a\/y∈orb f b) (.inl<|Zbv F a0 a1) λx hx=>?_;have st:∀{e x:Int},0<=e->e<(m:Int)->x∈orb f e->f x∈orb f e:=λ{e x} e0 e1 h=>by
  have r:=Zcv F e0 e1 h;exact Zbj F e0 e1 h<|Za6 F r.1 r.2 1
 by_cases h1:x=a
 ·rw[h1,Zei];exact .inr<|st b0 b1<|Zbv F b0 b1
 ·by_cases h2:x=b
  ·rw[h2,Zey];exact .inl<|st a0 a1<|Zbv F a0 a1
  ·rw[Zc8 h1 h2]
   rcases hx with hx|hx
   ·exact .inl<|st a0 a1 hx
   ·exact .inr<|st b0 b1 hx
theorem Zif (Pd:Nat->Bool) (hPa:∀e:Nat,(e:Int)∈orb f a->Pd e=Pd a.toNat) (hPb:∀e:Nat,(e:Int)∈orb f b->Pd e=Pd a.toNat):cnt f m Pd=cnt (swapF f a b) m Pd+(if Pd a.toNat=true then 1 else 0):=by
 have G:=Zcy F a0 a1 b0 b1;have hab:a≠b:=λz=>hout (by rw[<- z];exact Zbv F a0 a1);have:=Zin G a0 a1 b0 b1 hab (joined F a0 a1 b0 b1 hout) Pd λe he=>(Zpu F a0 a1 b0 b1 hout _ he).elim (hPa e) (hPb e);rw[Zre]at this;exact this
end
def sgI (ts:List (Int × Int)) (o:List (List Int)) (k:Nat) (x:Int):Int:=if x.toNat / 2<k then onI ts o x else onI ts o ((partner x.toNat:Nat):Int)
section
variable {N:Nat}{ts:List (Int × Int)}{o:List (List Int)}(hW:WebOk (N:Int) ts) (hO:OrdOk (N:Int) ts o)
include hW hO
theorem Ziz:OneOne (sgI ts o 0) (2*ts.length):=by
 have F:=Zfw hW hO;have e:∀x:Int,sgI ts o 0 x=onI ts o ((partner x.toNat:Nat):Int):=λx=>by unfold sgI;rw[if_neg (by omega)]
 refine⟨λx h0 h1=>?_,λx y x0 x1 y0 y1 q=>?_⟩
 ·rw[e]
  have:=Zaw (show x.toNat<2*ts.length by omega);exact F.to _ (by omega) (by omega)
 ·rw[e,e]at q
  have hx:=Zaw (show x.toNat<2*ts.length by omega);have hy:=Zaw (show y.toNat<2*ts.length by omega);have:=F.inj _ _ (by omega) (by omega) (by omega) (by omega) q;have e1:partner x.toNat=partner y.toNat:=by omega
  have:=congrArg partner e1;rw[Zan,Zan]at this;omega
omit hW hO in
theorem Zig (k:Nat) (x:Int) (h0:0<=x):sgI ts o (k+1) x=swapF (sgI ts o k) ((2*k:Nat):Int) ((2*k+1:Nat):Int) x:=by
 have p1:partner (2*k)=2*k+1:=by unfold partner;rw[if_pos (by omega)]
 have p2:partner (2*k+1)=2*k:=by unfold partner;rw[if_neg (by omega)];omega
 by_cases h1:x=((2*k:Nat):Int)
 ·subst h1
  rw[Zei];unfold sgI;rw[if_pos (by omega),if_neg (by omega),Wam,p2]
 ·by_cases h2:x=((2*k+1:Nat):Int)
  ·subst h2
   rw[Zey];unfold sgI;rw[if_pos (by omega),if_neg (by omega),Wam,p1]
  ·rw[Zc8 h1 h2]
   unfold sgI;by_cases c:x.toNat / 2<k
   ·rw[if_pos (by omega),if_pos c]
   ·rw[if_neg (by omega),if_neg c]
theorem Zh2:∀k,k<=ts.length->OneOne (sgI ts o k) (2*ts.length)
 |0,_=>Ziz hW hO
 |k+1,hk=>by
  have F:=Zh2 k (by omega);have G:=Zcy F (a:=((2*k:Nat):Int)) (b:=((2*k+1:Nat):Int)) (by omega) (by omega) (by omega) (by omega);exact⟨λx h0 h1=>by rw[Zig k x h0];exact G.to x h0 h1,λx y x0 x1 y0 y1 q=>G.inj x y x0 x1 y0 y1 (by rw[<- Zig k x x0,<- Zig k y y0];exact q)⟩
theorem Zuy {k:Nat}(hk:k<=ts.length) {x:Int}(h0:0<=x) (h1:x<((2*ts.length:Nat):Int)):(marksL N<|ts.take k).getD (placeAt ts (sgI ts o k x).toNat).toNat 0=(marksL N<|ts.take k).getD (placeAt ts x.toNat).toNat 0:=by
 have hx:x.toNat<2*ts.length:=by omega
 unfold sgI;split
 ·rename_i c
  obtain⟨g,hg,pg,eg⟩:=Zc2 hW hO<|Zaw hx;have ht:x.toNat / 2<ts.length:=by omega
  have hm:ts[x.toNat / 2]∈ts.take k:=by
   refine Wau (i:=x.toNat / 2) ?_;rw[List.getElem?_take,if_pos c,Waa ht]
  have tm:=Zge hW k hk _ hm;unfold onI;rw[<- eg,Wam,pg];have e2:partner x.toNat / 2=x.toNat / 2:=by unfold partner;split <;> omega
  unfold placeAt;rw[e2,Waa ht];dsimp only;by_cases c2:x.toNat % 2=0
  ·rw[if_pos c2,if_neg (by unfold partner;rw[if_pos c2];omega)];exact tm.symm
  ·rw[if_neg c2,if_pos (by unfold partner;rw[if_neg c2];omega)];exact tm
 ·obtain⟨g,hg,pg,eg⟩:=Zc2 hW hO hx
  unfold onI;rw[Wam,Zan,<- eg,Wam,pg]
theorem Zgj {k:Nat}(hk:k<=ts.length) {x y:Int}(h0:0<=x) (h1:x<((2*ts.length:Nat):Int)) (hy:y∈orb (sgI ts o k) x):(marksL N<|ts.take k).getD (placeAt ts y.toNat).toNat 0=(marksL N<|ts.take k).getD (placeAt ts x.toNat).toNat 0:=by
 obtain⟨j,hj,rfl⟩:=Zar.mp hy;clear hy hj
 induction j with
 |zero=>rfl
 |succ j ih=>
  have r:=Za7 (Zh2 hW hO k hk) h0 h1 j;show (marksL N<|ts.take k).getD (placeAt ts (sgI ts o k<|iter (sgI ts o k) x j).toNat).toNat 0=_;rw[Zuy hW hO hk r.1 r.2];exact ih
end
structure Own (N:Nat) (ts:List (Int × Int)) (S:Int->Bool):Prop where
 tie:∀t∈ts,S t.1=S t.2
theorem Zef {N:Nat}{ts:List (Int × Int)}{S:Int->Bool}(hW:WebOk (N:Int) ts) (hS:Own N ts S):∀k,k<=ts.length->∀p:Nat,p<N->S ((marksL N<|ts.take k).getD p 0)=S (p:Int)
 |0,_,p,hp=>by
  rw[Wc4];show S (((Wah N).map λi:Nat=>(i:Int)).getD p 0)=_;rw[Wac,Wae,Wb4 hp];rfl
 |k+1,hk,p,hp=>by
  have hlt:k<ts.length:=hk;have hl:=Za5 N<|ts.take k;have ht:=hW.tie _<|Wa8 hlt;have ih:=Zef hW hS k (by omega);rw[Zbr (Waa hlt),Zb3 _ _ _ (by omega)];have s1:=ih ts[k].1.toNat (by omega);have s2:=ih ts[k].2.toNat (by omega);have st:=hS.tie _<|Wa8 hlt;rw[show ((ts[k].1.toNat:Nat):Int)=ts[k].1 by omega]at s1;rw[show ((ts[k].2.toNat:Nat):Int)=ts[k].2 by omega]at s2;split
  ·rename_i c
   have sp:=ih p hp;rw[c]at sp;rw[<- sp];unfold loI hiI;split <;> split
   all_goals first|rfl|rw[s2,s1,st]|rw[s1,s2,st]
  ·exact ih p hp
def inS (S:Int->Bool) (l:List Int):Nat:=(l.filter S).length
def tiesS (S:Int->Bool) (ts:List (Int × Int)):Nat:=(ts.filter λt=>S t.1).length
def endS (ts:List (Int × Int)) (S:Int->Bool) (e:Nat):Bool:=S<|placeAt ts e
section
variable {N:Nat}{ts:List (Int × Int)}{o:List (List Int)}{S:Int->Bool}(hW:WebOk (N:Int) ts) (hO:OrdOk (N:Int) ts o) (hS:Own N ts S)
include hW hO hS
theorem Zi8 {k:Nat}(hk:k<=ts.length) {x:Int}(h0:0<=x) (h1:x<((2*ts.length:Nat):Int)) (e:Nat) (he:(e:Int)∈orb (sgI ts o k) x):endS ts S e=endS ts S x.toNat:=by
 have r:=Zcv (Zh2 hW hO k hk) h0 h1 he;have q:=Zgj hW hO hk h0 h1 he;rw[Wam]at q;have p1:=Zb9 hW (show e<2*ts.length by omega);have p2:=Zb9 hW (show x.toNat<2*ts.length by omega);have m1:=Zef hW hS k hk (placeAt ts e).toNat (by omega);have m2:=Zef hW hS k hk (placeAt ts x.toNat).toNat (by omega);rw[q,m2]at m1;unfold endS;rw[show ((placeAt ts e).toNat:Int)=placeAt ts e by omega,show ((placeAt ts x.toNat).toNat:Int)=placeAt ts x.toNat by omega]at m1;exact m1.symm
omit hW hO hS in
theorem Zd8 {f g:Int->Int}{m:Nat}(F:OneOne f m) (h:∀x,0<=x->x<(m:Int)->g x=f x) (G:OneOne g m) (Pd:Nat->Bool):cnt g m Pd=cnt f m Pd:=by
 unfold cnt;congr 1;apply Wbv;intro e he;rw[Waq]at he;have:=Zo0 F (g:=g) (S:=λ_=>False) (λx h0 h1 _=>h x h0 h1) (λ_ _ _ h=>h) G (e:=(e:Int)) (by omega) (by omega) λh=>h;congr 1;unfold leastB;rw[decide_eq_decide];exact⟨λh x hx=>h x ((this x).mpr hx),λh x hx=>h x ((this x).mp hx)⟩
theorem Zsz {k:Nat}(hk:k<ts.length) :
  (cnt (sgI ts o<|k+1) (2*ts.length) (endS ts S)=cnt (sgI ts o k) (2*ts.length) (endS ts S)+(if S ts[k].1=true then 1 else 0)/\(marksL N<|ts.take k).getD ts[k].1.toNat 0=(marksL N<|ts.take k).getD ts[k].2.toNat 0) \/
  cnt (sgI ts o k) (2*ts.length) (endS ts S)=cnt (sgI ts o<|k+1) (2*ts.length) (endS ts S)+(if S ts[k].1=true then 1 else 0):=by
 have F:=Zh2 hW hO k (by omega);have F2:=Zh2 hW hO (k+1) (by omega);have a0:(0:Int)<=((2*k:Nat):Int):=by omega
 have a1:((2*k:Nat):Int)<((2*ts.length:Nat):Int):=by omega
 have b0:(0:Int)<=((2*k+1:Nat):Int):=by omega
 have b1:((2*k+1:Nat):Int)<((2*ts.length:Nat):Int):=by omega
 have G:=Zcy F a0 a1 b0 b1;have pa:placeAt ts (2*k)=ts[k].1:=by
  unfold placeAt;rw[show 2*k / 2=k by omega,Waa hk];dsimp only;rw[if_pos (by omega)]
 have pb:placeAt ts (2*k+1)=ts[k].2:=by
  unfold placeAt;rw[show (2*k+1) / 2=k by omega,Waa hk];dsimp only;rw[if_neg (by omega)]
 have ea:endS ts S (((2*k:Nat):Int)).toNat=S ts[k].1:=by unfold endS;rw[Wam,pa]
 have eb:endS ts S (((2*k+1:Nat):Int)).toNat=S ts[k].1:=by unfold endS;rw[Wam,pb,hS.tie _ (Wa8 hk)]
 rw[Zd8 G (λx h0 h1=>Zig k x h0) F2];by_cases c:((2*k+1:Nat):Int)∈orb (sgI ts o k) ((2*k:Nat):Int)
 ·left
  have q:=Zin F a0 a1 b0 b1 (by omega) c (endS ts S) λe he=>Zi8 hW hO hS (by omega) a0 a1 e he;rw[ea]at q;refine⟨q,?_⟩;have mk:=Zgj hW hO (k:=k) (by omega) a0 a1 c;rw[Wam,Wam,pa,pb]at mk;exact mk.symm
 ·right
  have q:=Zif F a0 a1 b0 b1 c (endS ts S) (λe he=>Zi8 hW hO hS (by omega) a0 a1 e he) λe he=>by
   rw[Zi8 hW hO hS (by omega) b0 b1 e he,ea,eb]
  rw[ea]at q;exact q
omit hO in
theorem Znd {k:Nat}(hk:k<ts.length) {ms ms2:List Int}(h:Firsts ms (marksL N<|ts.take k)) (h2:Firsts ms2 (marksL N<|ts.take<|k+1)) :
  ((marksL N<|ts.take k).getD ts[k].1.toNat 0=(marksL N<|ts.take k).getD ts[k].2.toNat 0->inS S ms2=inS S ms)/\inS S ms<=inS S ms2+(if S ts[k].1=true then 1 else 0)/\(S ts[k].1=false->inS S ms2=inS S ms):=by
 have hl:=Za5 N<|ts.take k;have ht:=hW.tie _<|Wa8 hk;rw[Zbr (Waa hk)]at h2;by_cases c:(marksL N<|ts.take k).getD ts[k].1.toNat 0=(marksL N<|ts.take k).getD ts[k].2.toNat 0
 ·rw[Zi5 c]at h2
  rw[h2.uniq h];exact⟨λ_=>rfl,Nat.le_add_right _ _,λ_=>rfl⟩
 ·have G:=Zfl hl (by omega) (by omega) c
  have e:=G.firsts h h2;have s1:=Zef hW hS k (by omega) ts[k].1.toNat (by omega);have s2:=Zef hW hS k (by omega) ts[k].2.toNat (by omega);have st:=hS.tie _<|Wa8 hk;rw[show ((ts[k].1.toNat:Nat):Int)=ts[k].1 by omega]at s1;rw[show ((ts[k].2.toNat:Nat):Int)=ts[k].2 by omega]at s2;have sh:S (hiI ((marksL N<|ts.take k).getD ts[k].1.toNat 0) ((marksL N<|ts.take k).getD ts[k].2.toNat 0))=S ts[k].1:=by
   unfold hiI;split
   ·rw[s2,st]
   ·exact s1
  obtain⟨hi,ehi⟩:∃hi,hiI ((marksL N<|ts.take k).getD ts[k].1.toNat 0) ((marksL N<|ts.take k).getD ts[k].2.toNat 0)=hi:=⟨_,rfl⟩;rw[ehi]at e sh;have q:=Zbq (λg:Int=>decide (g=hi))<|ms.filter S;rw[Wbw,Wbw]at q;have e2:ms2.filter S=ms.filter λg=>(!decide (g=hi)) && S g:=by
   rw[e,Wbw];apply Wbv;intro g _;by_cases z:g=hi
   ·rw[decide_eq_true z,decide_eq_false (by simpa using z),Wcv];rfl
   ·rw[decide_eq_false z,decide_eq_true z,Wds];rfl
  have hone:(ms.filter λg=>decide (g=hi) && S g).length<=(if S ts[k].1=true then 1 else 0):=by
   by_cases z:S ts[k].1=true
   ·rw[if_pos z]
    have:=Zb8 (l:=ms.filter λg=>decide (g=hi) && S g) (m:=[hi]) (List.Pairwise.filter _ (h.1.imp λz=>Wd9 z)) λx hx=>by
     rw[Wa5,Wbc,decide_eq_true_iff]at hx;rw[Wa4];exact hx.2.1
    exact this
   ·rw[if_neg z]
    have:(ms.filter λg=>decide (g=hi) && S g)=[]:=by
     rw[Wd6];intro x hx w;rw[Wbc,decide_eq_true_iff]at w;rw[w.1,sh]at w;exact z w.2
    rw[this];exact Wag _
  unfold inS;rw[e2];refine⟨λz=>absurd z c,by omega,λz=>?_⟩;rw[if_neg (by rw[z];exact Wal)]at hone;omega
omit hW hO hS in
theorem Zo8 {k:Nat}(hk:k<ts.length):tiesS S (ts.take<|k+1)=tiesS S (ts.take k)+(if S ts[k].1=true then 1 else 0):=by
 unfold tiesS;rw[Wb5,Waa hk,Wbg,Wai];congr 1;show (List.filter _ [ts[k]]).length=_;rw[Wa9];by_cases z:S ts[k].1=true
 ·rw[if_pos z,if_pos z];rfl
 ·rw[if_neg z,if_neg z];rfl
theorem euler {c0:Nat}{ms0:List Int}(h0:Firsts ms0 (marksL N [])) (hc:cnt (sgI ts o 0) (2*ts.length) (endS ts S)+c0=inS S ms0):∀k,k<=ts.length->∀ms,Firsts ms (marksL N<|ts.take k) ->
  cnt (sgI ts o k) (2*ts.length) (endS ts S)+c0+inS S ms0<=2*inS S ms+tiesS S (ts.take k)/\(cnt (sgI ts o k) (2*ts.length) (endS ts S)+c0+inS S ms0) % 2=tiesS S (ts.take k) % 2
 |0,_,ms,h=>by
  rw[Wc4]at h ⊢;rw[h.uniq h0];show _<=2*inS S ms0+0/\_=0 % 2;omega
 |k+1,hk,ms,h=>by
  obtain⟨ms1,h1⟩:=Zdd<|marksL N<|ts.take k;obtain⟨i1,i2⟩:=euler h0 hc k (by omega) ms1 h1;obtain⟨p1,p2,p3⟩:=Znd hW hS (show k<ts.length from hk) h1 h;rw[Zo8 (show k<ts.length from hk)];rcases Zsz hW hO hS (show k<ts.length from hk) with ⟨q,mk⟩|q
  ·have:=p1 mk
   rw[this,q];split <;> omega
  ·by_cases z:S ts[k].1=true
   ·rw[if_pos z]at q p2 ⊢
    omega
   ·have:=p3 (Wb0.mpr z)
    rw[if_neg z]at q p2 ⊢;omega
end
def rowP (o:List (List Int)) (p:Nat):List Int:=o.getD p []
def loneS (S:Int->Bool) (N:Nat) (o:List (List Int)):Nat:=((Wah N).filter λp:Nat=>S (p:Int) && (rowP o p).isEmpty).length
section
variable {N:Nat}{ts:List (Int × Int)}{o:List (List Int)}{S:Int->Bool}(hW:WebOk (N:Int) ts) (hO:OrdOk (N:Int) ts o)
include hW hO
theorem Zlp {e:Nat}:sgI ts o 0 (e:Int)=folOf ts o e:=by
 unfold sgI;rw[if_neg (by omega),Wam];unfold onI;rw[Wam,Zan]
theorem Zs1 {p:Nat}{x:Int}{r:List Int}(hp:p<N) (hr:rowP o p=x::r):∃e:Nat,e<2*ts.length/\x=(e:Int)/\placeAt ts e=(p:Int)/\rowAt ts o e=x::r/\leastB (sgI ts o 0) e=true:=by
 have hl:=hO.len;have q:o[p]?=some (x::r):=by
  unfold rowP at hr;rw[Wac,Waa (by omega:p<o.length)]at hr;rw[Waa (by omega:p<o.length)];exact congrArg some hr
 have R:=hO.row p _ q;obtain⟨e,he,pe,ee⟩:=R.mem.mp<|Wa7 ..;have er:rowAt ts o e=x::r:=by
  unfold rowAt;rw[pe,Wam];exact hr
 refine⟨e,he,ee.symm,pe,er,?_⟩;unfold leastB;rw[decide_eq_true_iff];have F:=Ziz hW hO;have inr:∀y∈orb (sgI ts o 0) (e:Int),y∈x::r:=Zea (S:=λy=>y∈x::r) (by rw[ee];exact Wa7 ..) λy hy=>by
  obtain⟨k,hk,pk,ek⟩:=R.mem.mp hy;rw[<- ek,Zlp hW hO];obtain⟨g,hg,pg,eg⟩:=Zc2 hW hO hk;rw[<- eg];exact R.mem.mpr ⟨g,hg,pg.trans pk,rfl⟩
 intro y hy;rcases Wan.mp (inr y hy) with z|z
 ·rw[z,ee];exact Wdx _
 ·rw[ee];exact R.least y z
theorem Zfj {e:Nat}(he:e<2*ts.length) (hl:leastB (sgI ts o 0) e=true):∃r,rowAt ts o e=(e:Int)::r:=by
 obtain⟨g1,g2,g3⟩:=Zbo hW hO he;have nd:=g2.nodup;obtain⟨i,hi⟩:=Wco.mp g3;have hil:=(Waf.mp hi).1;have F:=Ziz hW hO;obtain⟨r,er⟩:∃r,rowAt ts o e=r:=⟨_,rfl⟩;have nxt:∀a (ha:a<r.length),sgI ts o 0 r[a]=r.getD (nxI r.length a) 0:=λa ha=>by
  subst er;obtain⟨k,hk,pk,ek⟩:=g2.mem.mp<|Wa8 ha;rw[<- ek,Zlp hW hO];unfold folOf;have:rowAt ts o k=rowAt ts o e:=by unfold rowAt;rw[pk]
  rw[this];exact Zda nd (by rw[ek];exact Waa ha)
 rw[er]at hi hil;have up:∀j,i+j<r.length->iter (sgI ts o 0) (e:Int) j=r.getD (i+j) 0:=λj=>by
  induction j with
  |zero=>
   intro _;rw[Wac,Nat.add_zero,hi];rfl
  |succ j ih=>
   intro hj;show sgI ts o 0 (iter (sgI ts o 0) (e:Int) j)=_;rw[ih (by omega),Wac (i:=i+j),Waa (by omega:i+j<r.length)];show sgI ts o 0 r[i+j]=_;rw[nxt _ (by omega)];unfold nxI;rw[if_neg (by omega)];rfl
 have hmem:r.getD 0 0∈orb (sgI ts o 0) (e:Int):=by
  have:=Za6 F (e:=(e:Int)) (by omega) (by omega)<|r.length-i;rw[show r.length-i=(r.length-1-i)+1 by omega]at this;have e1:iter (sgI ts o 0) (e:Int) ((r.length-1-i)+1)=sgI ts o 0 (iter (sgI ts o 0) (e:Int)<|r.length-1-i):=rfl;rw[e1,up _ (by omega),Wac,Waa (by omega:i+(r.length-1-i)<r.length)]at this;have e2:sgI ts o 0 r[i+(r.length-1-i)]=r.getD 0 0:=by
   rw[nxt _ (by omega)];unfold nxI;rw[if_pos (by omega)]
  rw[<- e2];exact this
 have hle:=of_decide_eq_true (show decide (∀z∈orb (sgI ts o 0) (e:Int),(e:Int)<=z)=true from hl) _ hmem;rw[er]at g2 g3;rw[er];cases r with
 |nil=>simp at g3
 |cons x r=>
  refine⟨r,?_⟩;have hle:(e:Int)<=x:=hle;rcases Wan.mp g3 with z|z
  ·rw[z]
  ·have:=g2.least _ z
   rw[show (e:Int)=x by omega]
theorem Zt0:cnt (sgI ts o 0) (2*ts.length) (endS ts S)=((Wah N).filter λp:Nat=>S (p:Int) && !(rowP o p).isEmpty).length:=by
 unfold cnt;have rowEq:∀e:Nat,rowAt ts o e=rowP o (placeAt ts e).toNat:=λe=>rfl;apply Nat.le_antisymm
 ·rw[<- Wab (f:=λe=>(placeAt ts e).toNat)]
  refine Zb8 ?_ λp hp=>?_
  ·unfold List.Nodup
   rw[Wbz];refine List.Pairwise.imp_of_mem (R:=(· < ·)) (λ{a b} ha hb hab hq=>?_)<|List.Pairwise.filter _ Wbj;rw[Wa5,Waq,Wbc]at ha hb;obtain⟨r1,e1⟩:=Zfj hW hO ha.1 ha.2.1;obtain⟨r2,e2⟩:=Zfj hW hO hb.1 hb.2.1;rw[rowEq]at e1 e2;rw[hq,e2]at e1;have:=(List.cons.inj e1).1;omega
  ·obtain⟨e,he,rfl⟩:=Wa1.mp hp
   rw[Wa5,Waq,Wbc]at he;have pl:=Zb9 hW he.1;obtain⟨r1,e1⟩:=Zfj hW hO he.1 he.2.1;rw[rowEq]at e1;rw[Wa5,Waq,Wbc,e1,show (((placeAt ts e).toNat:Nat):Int)=placeAt ts e by omega];exact⟨by omega,he.2.2,rfl⟩
 ·rw[<- Wab (f:=λp=>((rowP o p).headD 0).toNat) (as:=(Wah N).filter λp:Nat=>S (p:Int) && !(rowP o p).isEmpty)]
  have hd:∀p:Nat,p<N->(!(rowP o p).isEmpty)=true->∃e:Nat,e<2*ts.length/\((rowP o p).headD 0).toNat=e/\placeAt ts e=(p:Int)/\leastB (sgI ts o 0) e=true:=λp hp hne=>by
   cases z:rowP o p with
   |nil=>rw[z]at hne;cases hne
   |cons x r=>
    obtain⟨e,he,ex,pe,_,hl⟩:=Zs1 hW hO hp z;refine⟨e,he,?_,pe,hl⟩;show x.toNat=e;rw[ex,Wam]
  refine Zb8 ?_ λq hq=>?_
  ·unfold List.Nodup
   rw[Wbz];refine List.Pairwise.imp_of_mem (R:=(· < ·)) (λ{a b} ha hb hab hq=>?_)<|List.Pairwise.filter _ Wbj;rw[Wa5,Waq,Wbc]at ha hb;obtain⟨e1,_,q1,p1,_⟩:=hd a ha.1 ha.2.2;obtain⟨e2,_,q2,p2,_⟩:=hd b hb.1 hb.2.2;have:e1=e2:=by rw[<- q1,<- q2];exact hq
   subst this;rw[p1]at p2;omega
  ·obtain⟨p,hp,rfl⟩:=Wa1.mp hq
   rw[Wa5,Waq,Wbc]at hp;obtain⟨e,he,q1,p1,hl⟩:=hd p hp.1 hp.2.2;rw[q1,Wa5,Waq,Wbc];refine⟨he,hl,?_⟩;unfold endS;rw[p1];exact hp.2.1
theorem Zk9 {ms0:List Int}(h:Firsts ms0 (marksL N [])):cnt (sgI ts o 0) (2*ts.length) (endS ts S)+loneS S N o=inS S ms0:=by
 rw[Zt0 hW hO,Zg0 h];unfold inS loneS;rw[Wdv,Wab];have:=Zbq (λp:Nat=>(rowP o p).isEmpty) ((Wah N).filter λp:Nat=>S (p:Int));rw[Wbw,Wbw]at this;have e0:((Wah N).filter (S∘λi:Nat=>(i:Int)))=(Wah N).filter λp:Nat=>S (p:Int):=rfl;rw[e0,this];have e1:((Wah N).filter λp:Nat=>S (p:Int) && (rowP o p).isEmpty)=(Wah N).filter λp:Nat=>(rowP o p).isEmpty && S (p:Int):=by
  apply Wbv;intro p _;exact Bool.and_comm _ _
 have e2:((Wah N).filter λp:Nat=>S (p:Int) && !(rowP o p).isEmpty)=(Wah N).filter λp:Nat=>(!(rowP o p).isEmpty) && S (p:Int):=by
  apply Wbv;intro p _;exact Bool.and_comm _ _
 rw[e1,e2];omega
theorem Zvi {e:Int}(h0:0<=e) (h1:e<((2*ts.length:Nat):Int)):onI ts o e=sgI ts o ts.length e:=by
 unfold sgI;rw[if_pos (by omega)]
theorem Zox (hS:Own N ts S) {ms:List Int}(hm:Firsts ms (marksL N ts)):cnt (onI ts o) (2*ts.length) (endS ts S)+loneS S N o+inS S ((Wah N).map λi:Nat=>(i:Int))<=2*inS S ms+tiesS S ts/\(cnt (onI ts o) (2*ts.length) (endS ts S)+loneS S N o+inS S ((Wah N).map λi:Nat=>(i:Int))) % 2=tiesS S ts % 2:=by
 obtain⟨ms0,h0⟩:=Zdd<|marksL N [];have b:=Zk9 (S:=S) hW hO h0;have e:=euler hW hO hS h0 b ts.length (Wag _) ms (by rw[Wba];exact hm);rw[Wba]at e;rw[Zg0 h0]at e;rw[Zd8 (Zh2 hW hO ts.length<|Wag _) (λx h0 h1=>Zvi hW hO h0 h1) (Zfw hW hO)];exact e
end
noncomputable def holesI (n:Int) (ts:List (Int × Int)) (o:List (List Int)) (ms:List Int):Int:=(2*(ms.length:Int)-n+(ts.length:Int)-((allF ts o).length:Int)) / 2
theorem Zff {N:Nat}{ts:List (Int × Int)}(hW:WebOk (N:Int) ts):∀k,k<=ts.length->∀g∈marksL N (ts.take k),0<=g/\g<(N:Int)/\(marksL N<|ts.take k).getD g.toNat 0=g
 |0,_,g,hg=>by
  rw[Wc4]at hg ⊢;obtain⟨p,hp,rfl⟩:=Wa1.mp hg;rw[Waq]at hp;exact⟨by omega,by omega,by rw[Wam];exact Zpm hp⟩
 |k+1,hk,g,hg=>by
  have hlt:k<ts.length:=hk;have hl:=Za5 N<|ts.take k;have ht:=hW.tie _<|Wa8 hlt;have ih:=Zff hW k (by omega);rw[Zbr (Waa hlt)]at hg ⊢;by_cases c:(marksL N<|ts.take k).getD ts[k].1.toNat 0=(marksL N<|ts.take k).getD ts[k].2.toNat 0
  ·rw[Zi5 c]at hg ⊢
   exact ih g hg
  ·have G:=Zfl hl (by omega) (by omega) c
   obtain⟨h1,h2⟩:=G.mem.mp hg;obtain⟨a,b,e⟩:=ih g h1;exact⟨a,b,by rw[G.to _ (by omega),e,if_neg h2]⟩
section
variable {N:Nat}{ts:List (Int × Int)}{o:List (List Int)}(hW:WebOk (N:Int) ts) (hO:OrdOk (N:Int) ts o)
include hW
include hO
theorem Zl4 {ms:List Int}(hm:Firsts ms (marksL N ts)):0<=holesI (N:Int) ts o ms/\2*holesI (N:Int) ts o ms+((allF ts o).length:Int)+(N:Int)=2*(ms.length:Int)+(ts.length:Int):=by
 obtain⟨h1,h2⟩:=Zox (S:=λ_=>true) hW hO ⟨λ_ _=>rfl⟩ hm;have al:=Zn8 hW hO;have e1:cnt (onI ts o) (2*ts.length) (endS ts λ_=>true)=((Wah (2*ts.length)).filter λe=>leastB (onI ts o) e && true).length:=rfl;have e2:inS (λ_=>true) ms=ms.length:=by unfold inS;rw[Wbr.mpr (λ_ _=>rfl)]
 have e3:inS (λ_=>true) ((Wah N).map λi:Nat=>(i:Int))=N:=by unfold inS;rw[Wbr.mpr (λ_ _=>rfl),Wab,Waz]
 have e4:tiesS (λ_=>true) ts=ts.length:=by unfold tiesS;rw[Wbr.mpr (λ_ _=>rfl)]
 have e5:loneS (λ_=>true) N o=lone o:=by
  have hl:=hO.len;unfold loneS lone;have eo:o=(Wah N).map λp=>rowP o p:=by
   apply Wes
   ·rw[Wab,Waz];omega
   ·intro i h1 h2
    rw[List.getElem_map,Wcq];unfold rowP;rw[Wac,Waa h1];rfl
  conv=>rhs;rw[eo]
  rw[Wdv,Wab];rfl
 rw[e1,e2,e3,e4,e5]at h1;rw[e1,e3,e4,e5]at h2;unfold holesI;omega
end
section
variable {N:Nat}{ts:List (Int × Int)}{o:List (List Int)}(hW:WebOk (N:Int) ts) (hO:OrdOk (N:Int) ts o) {ms:List Int}(hm:Firsts ms (marksL N ts))
include hW hm
include hO
end
section
variable {P:Program}{w:World}{K:W.Frag}{mg:Str->Option Value}{base:Heap}{f:Addr}{fd:FuncData}
theorem Zrk (mb:Mb mg) (F:Fun K "least_first" "least_first" Yam f fd):FnOk P w K mg base CX0 1 f fd ["ends"] (spD K fLeastL):=by
 refine F.ok Yaw (Zba λds Post h=>by obtain⟨_,rfl,_⟩:=h;rfl) λcdv A outer s H vs Q E hr h=>?_;refine⟨_,(Zad (Zc0 (Zh6<|truK K (pv 0) λ_=>rfl) (Zah<|Za1<|Zcd Zae) Zbe)<|Zad (Zaq (i:=1) Yaw.nd rfl (Or.inl rfl)<|bmK K PySem.F.plainAttrs_list PySem.F.slot_list_index PySem.F.type_list_index (idxLK K) (pv 0)<|Zaa (Zas (minK K rfl) rfl (mb "min"<|by decide) Zkj<|Zaa (pv 0) Zae) Zae)<|Zah<|Za1<|Zbd (tupK K) rfl (mb "tuple"<|by decide) Zbx<|Zaa (Zat (addK K) (Zdr (slK K) (pv 0) (Zd9<|pv 1) Zer)<|Zdr (slK K) (pv 0) Zer<|Zd9<|pv 1) Zae),Zct (λds Post hf=>?_) h⟩;obtain⟨ns,rfl,hp,hl,q⟩:=hf;refine⟨by simp,?_⟩;dsimp only[startD,Wbp,Wbl,Wbb];obtain⟨m,hm,hle⟩:=Ze5 ns<|Wdu.mp hp;obtain⟨i1,i2,i3⟩:=Zeh hm;refine Zam<|Zdf<|Zft<|Zej<|Zab rfl ⟨true,?_,?_⟩
 ·cases ns with
  |nil=>simp at hp
  |cons x t=>rfl
 refine iteF<|Zbb ?_;refine Zam<|Zax<|Zog<|Zab rfl ⟨ns,rfl,by omega,Zbs<|Yz1 rfl<|Zaf<|Zru (Or.inl rfl) hm hle ⟨m,rfl,hm,?_⟩⟩;have hj:ns.idxOf m<=(ns.map D.int).length:=by rw[Wab];omega
 refine Za9<|Zbs<|Zac<|Zaj<|Zla<|Zab rfl<|Zet<|Zab rfl ⟨_,rfl,Zeo ⟨.lst ((ns.map D.int).drop (ns.idxOf m)),?_,?_⟩⟩
 ·show some (D.lst<|cutD (ns.map D.int) (some ((ns.idxOf m:Nat):Int)) none)=_
  rw[Zgb _ hj]
 refine Zla<|Zab rfl<|Zeo<|Zet<|Zab rfl ⟨_,rfl,.lst ((ns.map D.int).take (ns.idxOf m)),?_,?_⟩
 ·show some (D.lst<|cutD (ns.map D.int) none<|some ((ns.idxOf m:Nat):Int))=_
  rw[Zuf _ hj]
 refine Zwv ?_<|Zaf<|Zcx (Or.inl rfl) ?_
 ·rw[Wby,Wbm,Wab]
  exact Wcj (small1000<|by omega)
 have q':=q m hm hle;unfold rowD rotAt at q';rw[Was,Wej,Weg]at q';exact q'
theorem Znw (mb:Mb mg) (C51:Callee P w K mg base 3 "onward" ["web","order","end"] (spD K fOnw)) (C50:Callee P w K mg base 1 "least_first" ["ends"] (spD K fLeastL)) (F:Fun K "face_of" "face_of" Ya5 f fd):FnOk P w K mg base CX0 4 f fd ["web","order","end"] (spD K fFaceOf):=by
 refine F.ok Yax (Zba λds Post h=>by obtain⟨_,_,_,_,rfl,_⟩:=h;rfl) λcdv A outer s H vs Q E hr h=>?_;refine⟨_,(Zad (Zaq (i:=3) Yax.nd rfl (Or.inl rfl)<|Zh0<|Zaa (pv 2) Zae)<|Zad (Zaq (i:=4) Yax.nd rfl (Or.inl rfl)<|Za4 C51 (hr.mono<|by decide)<|Zaa (pv 0)<|Zaa (pv 1)<|Zaa (pv 2) Zae)<|Zad (Zf6 PassesOwn.never (Zaz Zhh (pv 4) (pv 2)<|nomark _)<|Zad (Zcz<|bmK K PySem.F.plainAttrs_list PySem.F.slot_list_append PySem.F.type_list_append Zcc (pv 3)<|Zaa (pv 4) Zae)<|Zah<|Zaq (i:=4) Yax.nd rfl (Or.inl rfl)<|Za4 C51 (hr.mono<|by decide)<|Zaa (pv 0)<|Zaa (pv 1)<|Zaa (pv 4) Zae)<|Zah<|Za1<|Za4 C50 (hr.mono<|by decide)<|Zaa (pv 3) Zae),Zct (λds Post hf=>?_) h⟩;obtain⟨n,ts,o,e,rfl,hW,hO,he,q⟩:=hf;refine⟨by simp,?_⟩;dsimp only[startD,Wbp,Wbl,Wbb,Wak];have O:=Zfw hW hO;have hw:=hW.len;have h0:(0:Int)<=(e:Int):=by omega
 have h1:(e:Int)<((2*ts.length:Nat):Int):=by omega
 have onw:∀j:Nat,folOf ts o (partner (iter (onI ts o) e j).toNat)=iter (onI ts o) e (j+1):=λj=>rfl;refine Zam<|Zcp<|Zhr<|Yz1 rfl<|Zaf ⟨by show 1<=sizeLine;decide,?_⟩;refine Zam<|Zax<|Zay<|Yz1 rfl<|Yz1 rfl<|Yz1 rfl<|Zaf ⟨n,ts,o,e,rfl,hW,hO,he,?_⟩;refine Zbi (λZ=>∃k:Nat,IsOrb (onI ts o) e k /\ Z = [.val (encWeb n ts),.val (encOrd o),.val (.int e),.own (.lst ((walkL (onI ts o) e k).map .int)),.val (.int<|iter (onI ts o) e k)]) ?_ ?_
 ·refine Zga (fun μ Z=>∃k:Nat,1<=k/\NdTo (onI ts o) e k /\ μ = 2*ts.length-k /\ Z = [.val (encWeb n ts),.val (encOrd o),.val (.int e),.own (.lst ((walkL (onI ts o) e k).map .int)),.val (.int<|iter (onI ts o) e k)]) ⟨_,1,Wag _,Zop O h0 h1,rfl,rfl⟩ ?_
  rintro μ Z1 ⟨k,hk,nd,rfl,rfl⟩;have hkm:=Zjn O h0 h1 nd;refine Za3<|Yz2 rfl<|Zab rfl<|Znf ⟨_,rfl,?_⟩;by_cases hb:iter (onI ts o) e k=e
  ·rw[decide_eq_true hb]
   exact iteF ⟨k,⟨by omega,hb,nd⟩,rfl⟩
  ·rw[decide_eq_false hb]
   have nd2:=Zld O h0 h1 hk nd hb;have hkm2:=Zjn O h0 h1 nd2;have r:=Za7 O h0 h1 k;refine iteT<|Zam<|Zhq rfl rfl<|Zab rfl ⟨_,_,rfl,rfl,?_,?_⟩
   ·rw[Wab,Zce];exact small1000 (by omega)
   refine Zax<|Zay<|Yz1 rfl<|Yz1 rfl<|Yz1 rfl<|Zaf ⟨n,ts,o,(iter (onI ts o) e k).toNat,?_,hW,hO,by omega,?_⟩
   ·rw[show (((iter (onI ts o) e k).toNat:Nat):Int)=iter (onI ts o) e k by omega]
   refine⟨2*ts.length-(k+1),by omega,k+1,by omega,nd2,rfl,?_⟩;rw[Zhy,Was];rfl
 rintro Z1 ⟨k,O1,rfl⟩;have hkm:=Zjn O h0 h1 O1.nd;refine Za9<|Zay<|Zac<|Zeu rfl<|Zaf ⟨walkL (onI ts o) e k,rfl,?_,?_,λx hx hle=>?_⟩
 ·rw[Zce];exact O1.pos
 ·rw[Zce];omega
 ·have eo:=O1.orb
  rw[<- eo]at hx hle ⊢;have rx:=Zcv O h0 h1 hx;obtain⟨j,hj,ej⟩:=Zar.mp hx;have ei:(orb (onI ts o) e).idxOf x=j:=Zl5 (Zo5 O h0 h1) (by rw[<- ej];exact Zp5 hj);rw[ei,Zvb O h0 h1 hj,ej];have ex:((x.toNat:Nat):Int)=x:=by omega
  have:=q x.toNat (by omega) (by
   unfold leastB;rw[decide_eq_true_iff,ex];exact λz hz=>hle z (Zbj O h0 h1 hx hz)) (by rw[ex];exact hx)
  rw[ex]at this;exact this
theorem Zt7 (mb:Mb mg) (C41:Callee P w K mg base 4 "face_of" ["web","order","end"] (spD K fFaceOf)) (F:Fun K "faces" "faces" Yan f fd):FnOk P w K mg base CX0 5 f fd ["web","order"] (spN K fFaces):=by
 refine F.ok Yai (Zim λds Post h=>by obtain⟨_,_,_,rfl,_⟩:=h;rfl) λcdv A outer s H vs Q E hr h=>?_;have hu:=Zby hr;have hv:=Zhb hr;refine⟨_,(Zad (Zeb (i:=2) ["row"] (show CompSc (defScope Yan) ["web","order","told","gone","end","face","come"] _ [] [] from ⟨rfl,by decide +kernel,by decide +kernel,by decide +kernel,rfl,by decide +kernel⟩) rfl Yai.nd rfl (Or.inl rfl) (seqK K<|pv 1) (λ_ _ _ _ _=>(Zap (i:=0) (show List.Nodup (["row"]:List Str) from by decide) rfl<|Or.inl rfl)) (λ_ _ _ _ _=>(Zk5<|Zh6<|truK K (pv 0) λ_=>rfl)) λ_ _ _ _ _=>(Zcd Zae))<|Zad (Zaq (i:=3) Yai.nd rfl (Or.inl rfl)<|Zhu Zpe rfl (mb "set"<|by decide) Zos)<|Zad (Zdu PassesOwn.never rfl (Zbp rfl (mb "range"<|by decide)<|Zaa (Zat Zdg Zag<|Zas (lenK K) rfl (mb "len"<|by decide) Zcn<|Zaa (Za0 (ixK K hu) (pv 0) Zag λ_ _=>rfl) Zae) Zae) (Zap (i:=4) Yai.nd rfl<|Or.inl rfl)<|Zah<|Zc0 (Zaz (notinK K hu) (pv 4) (pv 3) rfl) (Zad (Zaq (i:=5) Yai.nd rfl (Or.inl rfl)<|Za4 C41 (hr.mono<|by decide)<|Zaa (pv 0)<|Zaa (pv 1)<|Zaa (pv 4) Zae)<|Zad (Zcz<|bmK K PySem.F.plainAttrs_list PySem.F.slot_list_append PySem.F.type_list_append Zcc (pv 2)<|Zaa (pv 5) Zae)<|Zah<|Zdu PassesOwn.never rfl (seqK K<|pv 5) (Zap (i:=6) Yai.nd rfl<|Or.inl rfl)<|Zah<|Zcz<|bmK K PySem.F.plainAttrs_set PySem.F.slot_set_add PySem.F.type_set_add Zwl (pv 3)<|Zaa (pv 6) Zae) Zbe)<|Zah<|Za1<|Zas (sortRK K hv) rfl (mb "sorted"<|by decide) Zg7<|Zaa (pv 2) Zae),Zr0 (λds Post hf=>?_) h⟩;obtain⟨n,ts,o,rfl,hW,hO,q⟩:=hf;refine⟨by simp,?_⟩;dsimp only[startD,Wbp,Wbl,Wbb,Wak];have O:=Zfw hW hO;have hw:=hW.len;have hn:=hW.hi;have ho:=hO.len;have hlone:=Zis o;refine Zam<|Zcp<|Zje (by decide)<|Zd7<|Zab rfl ⟨_,rfl,?_,λd=>match d with|.tup ds=>ds.isEmpty|_=>false,λ_=>.tup [],λi d hd=>?_,?_⟩
 ·rw[Wab];exact small1000 (by omega)
 ·rw[Wae]at hd
  cases z:o[i]? with
  |none=>rw[z]at hd;cases hd
  |some r=>
   rw[z]at hd;have hd:encRow r=d:=by simpa using hd
   subst hd;refine Zft<|Zej<|Zab rfl ⟨_,rfl,?_,?_⟩
   ·cases r <;> rfl
   ·cases r with
    |nil=>exact iteT (Zcb (Zaf ⟨by decide,rfl,_,rfl⟩))
    |cons x t=>exact iteF ⟨_,rfl⟩
 rw[show o.map encRow=o.map rowD from rfl,Zji o _ (λr=>by cases r <;> rfl) _ λ_=>rfl]
 refine Zam<|Zcp<|Zw0 ?_;refine Zbi (λZ=>∃(S:Int->Bool) (c:Nat) (x4 x5 x6:L2.Slot),Z = [.val (encWeb n ts),.val (encOrd o),.own (.lst ((allF ts o).map rowD)),.own (.set S c),x4,x5,x6]) ?_ ?_
 ·refine Zd1 (Zbn ?_)
  refine Zac<|Zaj<|Zai<|Zbs ?_;refine Zac<|Yz2 rfl<|Zai<|Zav (d:=.tup<|ts.map encTie) rfl ?_;refine Zaf<|Zcr (Or.inr rfl) ?_;rw[Wab];refine jr_I (Or.inl ⟨by omega,by omega⟩)<|Zaf ⟨_,rfl,by omega,by omega,?_⟩;have eL:((2:Int)*(ts.length:Int)).toNat=2*ts.length:=by omega
  rw[eL];refine⟨λk Z=>∃(S:Int->Bool) (c:Nat) (x4 x5 x6:L2.Slot),(∀x,S x=true↔MetTo (onI ts o) k x)/\c<=48*k /\ Z = [.val (encWeb n ts),.val (encOrd o),.own (.lst ((Wak (lone o) []++facesTo (onI ts o) k).map rowD)),.own (.set S c),x4,x5,x6],⟨λ_=>false,0,.any,.any,.any,λx=>?_,by omega,?_⟩,?_,?_⟩
  ·constructor
   ·intro z;cases z
   ·rintro⟨e,he,_⟩;omega
  ·rw[show facesTo (onI ts o) 0=[] from rfl,Wbi];rfl
  ·rintro k d Z2 hd ⟨S,c,x4,x5,x6,hS,hc,rfl⟩
   obtain⟨hk,rfl⟩:=Zch hd;rw[Wc1];have fl:=Zgl (onI ts o) k;refine Zbk<|Zdf<|Za3<|Zy8<|Zab rfl ⟨_,S,c,_,rfl,rfl,rfl,_,rfl,?_⟩;by_cases hm:S (k:Int)=true
   ·rw[hm]
    refine iteF<|Zbb ⟨S,c,.val (.int (k:Int)),x5,x6,λx=>?_,by omega,?_⟩
    ·have hl:=(Zd6 O hk).mp ((hS _).mp hm)
     rw[hS,Zm6 O hk,hl];simp
    ·have hl:=(Zd6 O hk).mp ((hS _).mp hm)
     rw[Zdz,if_neg (by rw[hl];exact Wal),Wbi];rfl
   ·have hl:leastB (onI ts o) k=true:=by
     cases z:leastB (onI ts o) k with
     |true=>rfl
     |false=>exact absurd ((hS _).mpr ((Zd6 O hk).mpr z)) hm
    rw[Wb0.mpr hm];have ol:=Zqd O (e:=(k:Int)) (by omega) (by omega);refine iteT<|Zam<|Zax<|Zay<|Yz1 rfl<|Yz1 rfl<|Yz1 rfl<|Zaf ⟨n,ts,o,k,rfl,hW,hO,hk,λg hg hlg hin=>?_⟩;have egk:g=k:=by
     have a:=of_decide_eq_true (show decide (∀x∈orb (onI ts o) (k:Int),(k:Int)<=x)=true from hl) _ hin;have b:=of_decide_eq_true (show decide (∀x∈orb (onI ts o) (g:Int),(g:Int)<=x)=true from hlg) _<|Zbl O (by omega) (by omega) hin;omega
    subst egk;refine Zam<|Zhq rfl rfl<|Zab rfl ⟨_,_,rfl,rfl,?_,?_⟩
    ·rw[Wab,Wai,Wax];exact small1000 (by omega)
    refine Zd1<|Zd7<|Zab rfl ⟨_,rfl,λi Z=>∃(S2:Int->Bool) (c2:Nat) (x6:L2.Slot),(∀x,S2 x=true↔MetTo (onI ts o) g x\/x∈(orb (onI ts o) (g:Int)).take i)/\c2<=48*g+i /\ Z = [.val (encWeb n ts),.val (encOrd o),.own (.lst ((Wak (lone o) []++facesTo (onI ts o) g).map rowD++[rowD (orb (onI ts o) (g:Int))])),.own (.set S2 c2),.val (.int (g:Int)),.val (rowD<|orb (onI ts o) (g:Int)),x6],⟨S,c,_,λx=>by rw[Wc4];simp[hS],by omega,rfl⟩,?_,?_⟩
    ·rintro i d Z3 hd ⟨S2,c2,x6,hS2,hc2,rfl⟩
     rw[Wae]at hd;cases z:(orb (onI ts o) (g:Int))[i]? with
     |none=>rw[z]at hd;cases hd
     |some y=>
      rw[z]at hd;have hd:D.int y=d:=by simpa using hd
      subst hd;have hi:=(Waf.mp z).1;refine Zbk<|Zwx rfl rfl<|Zab rfl ⟨_,S2,c2,y,rfl,rfl,rfl,by omega,_,_,_,λx=>?_,?_,rfl⟩
      ·rw[Wb5,z]
       simp only[Bool.or_eq_true,decide_eq_true_eq,hS2,Option.toList_some,Wbh,Wa4];exact or_assoc
      ·split <;> omega
    ·rintro Z3 ⟨S2,c2,x6,hS2,hc2,rfl⟩
     rw[Wab]at hS2 hc2;rw[Wba]at hS2;refine⟨S2,c2,.val (.int (g:Int)),.val<|rowD<|orb (onI ts o) (g:Int),x6,λx=>?_,by omega,?_⟩
     ·rw[hS2,Zm6 O hk,hl];simp
     ·rw[Zdz,if_pos hl,<- Wcz,Was (l₂:=[orb (onI ts o) (g:Int)])]
      rfl
  ·rintro Z2 ⟨S,c,x4,x5,x6,hS,hc,rfl⟩
   rw[Zbc];exact⟨S,c,_,_,_,rfl⟩
 rintro Z1 ⟨S,c,x4,x5,x6,rfl⟩;have al:=Zsp hW hO;exact Zg5<|Ztr<|Zac<|Zeu rfl<|Zaf ⟨_,rfl,by omega,Zsa hW hO,_,rfl,q⟩
def fLeast:DSp:=λds Post=>∃ns:List Int,ds=[.tup (ns.map .int)]/\ns.length<=100/\(ns=[]->Post (.tup []))/\∀m,m∈ns->(∀a∈ns,m<=a)->Post (encRow<|rotAt ns<|ns.idxOf m)
theorem Zua (mb:Mb mg) (F:Fun K "least_first" "least_first" Yam f fd):FnOk P w K mg base CX0 1 f fd ["ends"] (spD K fLeast):=by
 refine F.ok Yaw (Zba λds Post h=>by obtain⟨_,rfl,_⟩:=h;rfl) λcdv A outer s H vs Q E hr h=>?_;refine⟨_,(Zad (Zc0 (Zh6<|truK K (pv 0) λ_=>rfl) (Zah<|Za1<|Zcd Zae) Zbe)<|Zad (Zaq (i:=1) Yaw.nd rfl (Or.inl rfl)<|bmK K PySem.F.plainAttrs_tuple PySem.F.slot_tuple_index PySem.F.type_tuple_index (idxK K) (pv 0)<|Zaa (Zas (minK K rfl) rfl (mb "min"<|by decide) Zkj<|Zaa (pv 0) Zae) Zae)<|Zah<|Za1<|Zbd (tupK K) rfl (mb "tuple"<|by decide) Zbx<|Zaa (Zat (addK K) (Zdr (slK K) (pv 0) (Zd9<|pv 1) Zer)<|Zdr (slK K) (pv 0) Zer<|Zd9<|pv 1) Zae),Zct (λds Post hf=>?_) h⟩;obtain⟨ns,rfl,hl,q0,q⟩:=hf;refine⟨by simp,?_⟩;dsimp only[startD,Wbp,Wbl,Wbb];cases hns:ns with
 |nil=>
  refine Zam<|Zdf<|Zft<|Zej<|Zab rfl ⟨false,rfl,?_⟩;exact iteT<|Za9<|Zcb<|Zaf ⟨by decide,q0 hns⟩
 |cons x t=>
  rw[<- hns];obtain⟨m,hm,hle⟩:=Ze5 ns (by rw[hns];simp);obtain⟨i1,i2,i3⟩:=Zeh hm;refine Zam<|Zdf<|Zft<|Zej<|Zab rfl ⟨true,?_,?_⟩
  ·rw[hns];rfl
  refine iteF<|Zbb ?_;refine Zam<|Zax<|Zf7<|Zab rfl ⟨ns,rfl,Zbs<|Yz1 rfl<|Zaf<|Zru (Or.inr rfl) hm hle ⟨m,ns.idxOf m,rfl,i2,i3,?_⟩⟩;have hj:ns.idxOf m<=(ns.map D.int).length:=by rw[Wab];omega
  refine Za9<|Zbs<|Zac<|Zaj<|Zla<|Zab rfl<|Zet<|Zab rfl ⟨_,rfl,Zeo ⟨.tup ((ns.map D.int).drop (ns.idxOf m)),?_,?_⟩⟩
  ·show some (D.tup<|cutD (ns.map D.int) (some ((ns.idxOf m:Nat):Int)) none)=_
   rw[Zgb _ hj]
  refine Zla<|Zab rfl<|Zeo<|Zet<|Zab rfl ⟨_,rfl,.tup ((ns.map D.int).take (ns.idxOf m)),?_,?_⟩
  ·show some (D.tup<|cutD (ns.map D.int) none<|some ((ns.idxOf m:Nat):Int))=_
   rw[Zuf _ hj]
  refine Zjf ?_<|Zaf<|Zcx (Or.inr rfl) ?_
  ·rw[Wby,Wbm,Wab]
   exact Wcj (small1000<|by omega)
  have q':=q m hm hle;unfold encRow rotAt at q';rw[Was,Wej,Weg]at q';exact q'
def fTurnA:DSp:=λds Post=>∃(ts:List (Int × Int)) (i:Int) (r:List Int),ds=[encRow r]/\r.length<=100/\RowOk ts (2*ts.length) i r/\Post (encRow<|turnRow r)
theorem Zkh (mb:Mb mg) (C50:Callee P w K mg base 1 "least_first" ["ends"] (spD K fLeast)) (F:Fun K "turned_about" "turned_about" Ya3 f fd):FnOk P w K mg base CX0 2 f fd ["row"] (spD K fTurnA):=by
 refine F.ok Ybp (Zba λds Post h=>by obtain⟨_,_,_,rfl,_⟩:=h;rfl) λcdv A outer s H vs Q E hr h=>?_;refine⟨_,(Zah<|Za1<|Za4 C50 (hr.mono<|by decide)<|Zaa (slRK K<|pv 0) Zae),Zct (λds Post hf=>?_) h⟩;obtain⟨ts,i,r,rfl,hrl,hR,q⟩:=hf;refine⟨by simp,?_⟩;dsimp only[startD,Wbp,Wbl,Wbb];refine Za9<|Zay<|Zac<|Zpc<|Zab rfl ⟨_,rfl,Zaf ⟨r.reverse,?_,?_,λhn=>?_,λm hm hle=>?_⟩⟩
 ·rw[Weq]
 ·rw[Wb3];omega
 ·have:r=[]:=List.reverse_eq_nil_iff.mp hn
  subst this;exact q
 ·rw[Zrx hR hm hle]
  exact q
theorem Zcw {l:List Int}{x:Int}{n:Nat}(hl:l.length=n) (h0:0<=x) (h1:x<(n:Int)):atI (l.map D.int) x=some (.int<|l.getD x.toNat 0):=by
 rw[show x=((x.toNat:Nat):Int) by omega];refine Zb7 ?_;rw[Wae,Wac,Wam,Waa (by omega:x.toNat<l.length)];rfl
theorem Zk3 (mb:Mb mg) (F:Fun K "parts_of" "parts_of" Yag f fd):FnOk P w K mg base CX0 1 f fd ["web"] (spN K fParts):=by
 refine F.ok Yad (Zim λds Post h=>by obtain⟨_,_,rfl,_⟩:=h;rfl) λcdv A outer s H vs Q E hr h=>?_;have hu:=Zby hr;refine⟨_,(Zad (Ze4 (pv 0)<|gtupK (n:=2) K rfl<|Za2 (Zap (i:=1) Yad.nd rfl<|Or.inr rfl)<|Za2 (Zap (i:=2) Yad.nd rfl<|Or.inl rfl) Zco)<|Zad (Zaq (i:=3) Yad.nd rfl (Or.inr rfl)<|Zki rfl rfl (mb "list"<|by decide) rfl (mb "range"<|by decide)<|Zaa (pv 1) Zae)<|Zad (Zdu PassesOwn.never rfl (seqK K<|pv 2) (gtupK (n:=2) K rfl<|Za2 (Zap (i:=4) Yad.nd rfl<|Or.inl rfl)<|Za2 (Zap (i:=5) Yad.nd rfl<|Or.inl rfl) Zco)<|Zad (Zaq (i:=6) Yad.nd rfl (Or.inr rfl)<|Zas (Zgd rfl) rfl (mb "min"<|by decide) Zkj<|Zaa (Za0 (ixK K hu) (pv 3) (pv 4) λ_ _=>rfl)<|Zaa (Za0 (ixK K hu) (pv 3) (pv 5) λ_ _=>rfl) Zae)<|Zad (Zaq (i:=7) Yad.nd rfl (Or.inr rfl)<|Zas (Zj8 rfl) rfl (mb "max"<|by decide) Zus<|Zaa (Za0 (ixK K hu) (pv 3) (pv 4) λ_ _=>rfl)<|Zaa (Za0 (ixK K hu) (pv 3) (pv 5) λ_ _=>rfl) Zae)<|Zah<|Zaq (i:=3) Yad.nd rfl (Or.inr rfl)<|Zcu ["first"] (show CompSc (defScope Yag) ["web","many","ties","firsts","a","b","low","high"] _ ["low","high"] [6,7] from ⟨rfl,by decide +kernel,by decide +kernel,by decide +kernel,rfl,by decide +kernel⟩) rfl (seqK K<|pv 3) (λ_ _ _ _ _=>(Zap (i:=0) (show List.Nodup (["first","low","high"]:List Str) from by decide) rfl<|Or.inl rfl)) (λ_ _ _ _ _=>Zcf) λ_ _ _ _ _=>(Zi0 (Zaz Zbt (pv 0) (pv 2)<|nomark _) (pv 1)<|pv 0))<|Zah<|Za1<|Zo2 ["first"] (show CompScK (defScope Yag) ["web","many","ties","firsts","a","b","low","high"] "first" _ ["many","firsts"] [1,3] from ⟨rfl,by decide +kernel,by decide +kernel,by decide +kernel,by decide +kernel,rfl,by decide +kernel⟩) rfl (seqK K<|Zn6 rfl rfl rfl (mb "sorted"<|by decide) rfl (mb "set"<|by decide)<|Zaa (pv 3) Zae) (λ_ _ _ _ _=>(Zap (i:=0) (show List.Nodup (["first","many","firsts"]:List Str) from by decide) rfl<|Or.inr rfl)) (λ_ _ _ _ _=>Zcf) λ_ _ _ _ _=>(Zcu ["place"] (show CompSc (relab (defScope Yag) _) ["first","many","firsts"] _ ["first","firsts"] [0,2] from ⟨rfl,by decide +kernel,by decide +kernel,by decide +kernel,rfl,by decide +kernel⟩) rfl (Zbp rfl (mb "range"<|by decide)<|Zaa (pv 1) Zae) (λ_ _ _ _ _=>(Zap (i:=0) (show List.Nodup (["place","first","firsts"]:List Str) from by decide) rfl<|Or.inl rfl)) (λ_ _ _ _ _=>(Zk5<|Zaz Zbt (Za0 (ixK K hu) (pv 2) (pv 0) λ_ _=>rfl) (pv 1)<|nomark _)) λ_ _ _ _ _=>(pv 0))),Zr0 (λds Post hf=>?_) h⟩;obtain⟨n,ts,rfl,hW,q⟩:=hf;refine⟨by simp,?_⟩;dsimp only[startD,Wbp,Wbl,Wbb,Wak];have hn0:=hW.lo;have hn1:=hW.hi;have hts:=hW.len;obtain⟨N,rfl⟩:∃N:Nat,n=(N:Int):=⟨n.toNat,by omega⟩;rw[Wam]at q;refine Zam<|Zmz<|Zab rfl<|Zfr rfl<|Zbf<|Zbk<|Zbf<|Zbk<|Zd3 ?_;refine Zam<|Zax<|Zdm<|Zz9<|Yz1 rfl<|Zaf ⟨N,rfl,by omega,_,rfl,?_⟩;have e0:(Wah N).map (λi:Nat=>D.int (i:Int))=(marksL N<|ts.take 0).map D.int:=by
  show _=((Wah N).map λi:Nat=>(i:Int)).map D.int;rw[Wa6];rfl
 rw[e0];refine Zbi (λZ=>∃(x4 x5 x6 x7:L2.Slot),Z = [.val (encWeb (N:Int) ts),.val (.int (N:Int)),.val (.tup<|ts.map encTie),.val (.lst ((marksL N ts).map D.int)),x4,x5,x6,x7]) ?_ ?_
 ·refine Zd1 (Zd7<|Zab rfl ⟨_,rfl,λi Z=>∃(x4 x5 x6 x7:L2.Slot),Z = [.val (encWeb (N:Int) ts),.val (.int (N:Int)),.val (.tup<|ts.map encTie),.val (.lst ((marksL N<|ts.take i).map D.int)),x4,x5,x6,x7],⟨_,_,_,_,rfl⟩,?_,?_⟩)
  ·rintro i d Z2 hd ⟨x4,x5,x6,x7,rfl⟩
   rw[Wae]at hd;cases z:ts[i]? with
   |none=>rw[z]at hd;cases hd
   |some t=>
    rw[z]at hd;have hd:encTie t=d:=by simpa using hd
    subst hd;have ht:=hW.tie t<|Wau z;have hl:=Za5 N<|ts.take i;have hs:=Zbr (n:=N) z;obtain⟨l,el⟩:∃l,marksL N (ts.take i)=l:=⟨_,rfl⟩;rw[el]at hl hs ⊢;have a1:=Zcw hl ht.1 ht.2.1;have a2:=Zcw hl ht.2.2.1 ht.2.2.2;refine Zfr rfl<|Zbf<|Zbk<|Zbf<|Zbk<|Zd3 ?_;refine Zam<|Zax<|Zbs<|Zac<|Yz2 rfl<|Zab rfl<|Zbu a1<|Zac<|Yz2 rfl<|Zab rfl<|Zbu a2<|Zaf<|Zhj ?_;refine Zam<|Zax<|Zbs<|Zac<|Yz2 rfl<|Zab rfl<|Zbu a1<|Zac<|Yz2 rfl<|Zab rfl<|Zbu a2<|Zaf<|Zhj ?_;refine Zax<|Zdh (by decide)<|Zkb<|Zab rfl ⟨_,Or.inl rfl,?_,λ_=>true,λd=>match d with|.int g=>.int (if g=hiI (l.getD t.1.toNat 0) (l.getD t.2.toNat 0) then loI (l.getD t.1.toNat 0) (l.getD t.2.toNat 0) else g)|d=>d,λj d hd=>?_,?_⟩
    ·rw[Wab];exact small1000 (by omega)
    ·rw[Wae]at hd
     cases zz:l[j]? with
     |none=>rw[zz]at hd;cases hd
     |some g=>
      rw[zz]at hd;have hd:D.int g=d:=by simpa using hd
      subst hd;refine Zcg ⟨rfl,Zit<|Za3<|Yz2 rfl<|Zab rfl<|Zdt ⟨_,rfl,?_⟩⟩;show if decide (g=hiI (l.getD t.1.toNat 0) (l.getD t.2.toNat 0))=true then _ else _
      by_cases hg:g=hiI (l.getD t.1.toNat 0) (l.getD t.2.toNat 0)
      ·rw[decide_eq_true hg]
       refine iteT<|Zab rfl ⟨?_,_,rfl⟩;dsimp only;rw[if_pos hg];rfl
      ·rw[decide_eq_false hg]
       refine iteF<|Zab rfl ⟨?_,_,rfl⟩;dsimp only;rw[if_neg hg]
    ·have e1:((l.map D.int).filter λ_=>true).map (λd=>match d with|.int g=>D.int (if g=hiI (l.getD t.1.toNat 0) (l.getD t.2.toNat 0) then loI (l.getD t.1.toNat 0) (l.getD t.2.toNat 0) else g)|d=>d)=(marksL N<|ts.take<|i+1).map D.int:=by
      rw[hs,Wbr.mpr (by simp),Wa6];unfold mergeL;rw[Wa6];rfl
     rw[e1];exact⟨_,_,_,_,rfl⟩
  ·rintro Z2 ⟨x4,x5,x6,x7,rfl⟩
   rw[Wab,Wba];exact⟨_,_,_,_,rfl⟩
 rintro Z1 ⟨x4,x5,x6,x7,rfl⟩;have hl:=Za5 N ts;refine Zg5<|Zje (by decide)<|Zkb<|Zdm<|Zzr<|Yz1 rfl<|Zaf ⟨_,rfl,by omega,λms m1 m2=>⟨_,rfl,_,Or.inl rfl,?_,λ_=>true,λd=>match d with|.int g=>lstI (partI (marksL N ts) N g)|d=>d,λi d hd=>?_,?_⟩⟩
 ·have:=Firsts.len ⟨m1,m2⟩
  rw[Wab];exact small1000 (by omega)
 ·rw[Wae]at hd
  cases zz:ms[i]? with
  |none=>rw[zz]at hd;cases hd
  |some g=>
   rw[zz]at hd;have hd:D.int g=d:=by simpa using hd
   subst hd;refine Zcg ⟨rfl,Zdh (by decide)<|Zbn<|Yz1 rfl<|Zaf ⟨_,rfl,by omega,by omega,?_,λd=>match d with|.int p=>decide ((marksL N ts).getD p.toNat 0=g)|_=>false,λd=>d,λj d hd=>?_,?_⟩⟩
   ·rw[Zbc];exact small1000 (by omega)
   ·obtain⟨hj,rfl⟩:=Zch hd
    refine Za3<|Zaj<|Yz2 rfl<|Zab rfl<|Zbu (Zcw hl (by omega)<|by omega)<|Zab rfl<|Zdt ⟨_,rfl,rfl,?_⟩;split
    ·exact Zab rfl ⟨rfl,_,rfl⟩
    ·exact⟨_,rfl⟩
   ·refine⟨?_,_,rfl⟩
    rw[Wam];exact Zxn _ _ _ _ (λ_=>rfl) _ λ_=>rfl
 ·refine⟨_,rfl,?_⟩
  rw[Zvo (l:=marksL N ts) (n:=N) _ (λ_=>rfl) _ λ_=>rfl];exact q ms ⟨m1,m2⟩
def fHoles:DSp:=λds Post=>∃n ts o,ds=[encWeb n ts,encOrd o]/\WebOk n ts/\OrdOk n ts o/\∀ms,Firsts ms (marksL n.toNat ts)->Post (.int<|holesI n ts o ms)
def fLack:DSp:=λds Post=>∃n ts,∃c:Int,ds=[encWeb n ts,.int c]/\WebOk n ts/\∀ms,Firsts ms (marksL n.toNat ts)->Post (.int (2*(ms.length:Int)-n+(ts.length:Int)-c))
theorem Znk (mb:Mb mg) (C52:Callee P w K mg base 1 "parts_of" ["web"] (spN K fParts)) (F:Fun K "lacking" "lacking" Ya7 f fd):FnOk P w K mg base CX0 2 f fd ["web","faces_many"] (spD K fLack):=by
 refine F.ok Ybh (Zba λds Post h=>by obtain⟨_,_,_,rfl,_⟩:=h;rfl) λcdv A outer s H vs Q E hr h=>?_;refine⟨_,(Zad (Ze4 (pv 0)<|gtupK (n:=2) K rfl<|Za2 (Zap (i:=2) Ybh.nd rfl<|Or.inl rfl)<|Za2 (Zap (i:=3) Ybh.nd rfl<|Or.inl rfl) Zco)<|Zah<|Za1<|Zat Zfq (Zat (addK K) (Zat Zfq (Zat Zdg Zag<|Zas (lenK K) rfl (mb "len"<|by decide) Zcn<|Zaa (Za4 C52 (hr.mono<|by decide)<|Zaa (pv 0) Zae) Zae)<|pv 2)<|Zas (lenK K) rfl (mb "len"<|by decide) Zcn<|Zaa (pv 3) Zae)<|pv 1),Zct (λds Post hf=>?_) h⟩;obtain⟨n,ts,c,rfl,hW,q⟩:=hf;refine⟨by simp,?_⟩;dsimp only[startD,Wbp,Wbl,Wbb,Wak];have hn0:=hW.lo;have hn1:=hW.hi;have hts:=hW.len;have hl:=Za5 n.toNat ts;refine Zam<|Zmz<|Zab rfl<|Zfr rfl<|Zbf<|Zbk<|Zbf<|Zbk<|Zd3 ?_;refine Za9<|Zaj<|Zaj<|Zaj<|Zaj<|Zai<|Zbs<|Zac<|Zdm<|Zg3<|Yz1 rfl<|Zaf ⟨n,ts,rfl,hW,λms hm=>⟨_,rfl,?_⟩⟩;have hml:=hm.len;refine Zaf<|Zcr (Or.inl rfl) ?_;rw[Wab,show (partsL n.toNat ts ms).length=ms.length from Wab _];refine jr_I (Or.inl ⟨by omega,by omega⟩)<|Zab rfl<|Ze7<|Zbs<|Yz1 rfl<|Zaf<|Zcr (Or.inr rfl) ?_;rw[Wab];refine Zc1<|Zab rfl<|Ze7 ?_;exact q ms hm
theorem Ztz (mb:Mb mg) (C49:Callee P w K mg base 2 "lacking" ["web","faces_many"] (spD K fLack)) (C42:Callee P w K mg base 5 "faces" ["web","order"] (spN K fFaces)) (F:Fun K "holes" "holes" Ya6 f fd):FnOk P w K mg base CX0 6 f fd ["web","order"] (spD K fHoles):=by
 refine F.ok Ybr (Zba λds Post h=>by obtain⟨_,_,_,rfl,_⟩:=h;rfl) λcdv A outer s H vs Q E hr h=>?_;refine⟨_,(Zah<|Za1<|Zat Zfi (Za4 C49 (hr.mono<|by decide)<|Zaa (pv 0)<|Zaa (Zas (lenK K) rfl (mb "len"<|by decide) Zcn<|Zaa (Za4 C42 (hr.mono<|by decide)<|Zaa (pv 0)<|Zaa (pv 1) Zae) Zae) Zae) Zag),Zct (λds Post hf=>?_) h⟩;obtain⟨n,ts,o,rfl,hW,hO,q⟩:=hf;refine⟨by simp,?_⟩;dsimp only[startD,Wbp,Wbl,Wbb,Wak];refine Za9<|Zaj<|Zay<|Yz1 rfl<|Zac<|Zbs<|Zac<|Zdm<|Zg3<|Yz1 rfl<|Yz1 rfl<|Zaf ⟨n,ts,o,rfl,hW,hO,_,rfl,?_⟩;refine Zaf<|Zcr (Or.inl rfl) ?_;rw[Wab];exact Zaf ⟨n,ts,_,rfl,hW,λms hm=>Zai<|jr_I ⟨by omega,by omega⟩<|q ms hm⟩
def mk (N:Nat) (ts:List (Int × Int)) (p:Int):Int:=(marksL N ts).getD p.toNat 0
theorem Zwe {N:Nat}{ts:List (Int × Int)}(hW:WebOk (N:Int) ts) {g:Int->Int}(hg:∀t∈ts,g t.1=g t.2) {p:Int}(p0:0<=p) (p1:p<(N:Int)):g (mk N ts p)=g p:=by
 have:=Zef (S:=λx=>decide (g x=g p)) hW ⟨λt ht=>by rw[hg t ht]⟩ ts.length (Wag _) p.toNat (by omega);rw[Wba,show ((p.toNat:Nat):Int)=p by omega,decide_eq_true rfl]at this;exact of_decide_eq_true this
theorem Zyg {N:Nat}{ts:List (Int × Int)}(hW:WebOk (N:Int) ts) {t:Int × Int}(ht:t∈ts):mk N ts t.1=mk N ts t.2:=Zmf hW ht
theorem Zum {N:Nat}{ts:List (Int × Int)}{p:Int}(p0:0<=p) (p1:p<(N:Int)):mk N ts p∈marksL N ts:=Zp9 (by rw[Za5];omega)
theorem Zsc {f:Int->Int}{m:Nat}(F:OneOne f m) {x:Int}(h0:0<=x) (h1:x<(m:Int)):∃e:Nat,e<m/\leastB f e=true/\(e:Int)∈orb f x:=by
 obtain⟨z,hz,hle⟩:=Ze5 (orb f x) (λz=>by have:=Zbv F h0 h1;rw[z]at this;cases this);have hi:=Zcv F h0 h1 hz;refine⟨z.toNat,by omega,?_,by rw[Wde hi.1];exact hz⟩;unfold leastB;rw[decide_eq_true_iff,Wde hi.1];exact λw hw=>hle w<|Zbj F h0 h1 hz hw
theorem Zjl {f g ν:Int->Int}{m:Nat}(F:OneOne f m) (hc:∀x,0<=x->x<(m:Int) -> ν (f x)=g (ν x)) {x:Int}(h0:0<=x) (h1:x<(m:Int)):∀j,iter g (ν x) j = ν (iter f x j)
 |0=>rfl
 |j+1=>by
  have r:=Za7 F h0 h1 j;show g (iter g (ν x) j) = ν (f<|iter f x j);rw[Zjl F hc h0 h1 j,hc _ r.1 r.2]
theorem Zsh {f g ν:Int->Int}{m:Nat}(F:OneOne f m) (G:OneOne g m) (rg:∀x,0<=x->x<(m:Int)->0 <= ν x /\ ν x<(m:Int)) (inj:∀x y,0<=x->x<(m:Int)->0<=y->y<(m:Int) -> ν x = ν y->x=y) (hc:∀x,0<=x->x<(m:Int) -> ν (f x)=g (ν x)) {x y:Int}(h0:0<=x) (h1:x<(m:Int)) (k0:0<=y) (k1:y<(m:Int)) (h:ν y∈orb g (ν x)):y∈orb f x:=by
 obtain⟨j,_,e⟩:=Zar.mp h;rw[Zjl F hc h0 h1 j]at e;have r:=Za7 F h0 h1 j;rw[<- inj _ _ r.1 r.2 k0 k1 e];exact Za6 F h0 h1 j
theorem Zjj {α β:Type}{c:α -> β}{l:List α}(nd:l.Nodup) (inj:∀a∈l,∀b∈l,c a=c b->a=b):(l.map c).Nodup:=by
 rw[Wda,Wbz];exact List.Pairwise.imp_of_mem (λ{a b} ha hb hab e=>hab<|inj a ha b hb e)<|Wda.mp nd
theorem Zg1 {f g ν:Int->Int}{m:Nat}(F:OneOne f m) (G:OneOne g m) (rg:∀x,0<=x->x<(m:Int)->0 <= ν x /\ ν x<(m:Int)) (inj:∀x y,0<=x->x<(m:Int)->0<=y->y<(m:Int) -> ν x = ν y->x=y) (hc:∀x,0<=x->x<(m:Int) -> ν (f x)=g (ν x)):cnt f m (λ_=>true)<=cnt g m (λ_=>true):=by
 have ex:∀e:Nat,∃k:Nat,e<m->(k<m/\leastB g k=true/\(k:Int)∈orb g (ν (e:Int))):=λe=>by
  by_cases he:e<m
  ·obtain⟨r0,r1⟩:=rg (e:Int) (by omega) (by omega)
   obtain⟨k,a,b,c⟩:=Zsc G r0 r1;exact⟨k,λ_=>⟨a,b,c⟩⟩
  ·exact⟨0,λh=>absurd h he⟩
 let c:Nat->Nat:=λe=>Classical.choose<|ex e
 have cs:∀e,e<m->(c e<m/\leastB g (c e)=true/\((c e:Nat):Int)∈orb g (ν (e:Int))):=λe he=>Classical.choose_spec (ex e) he;unfold cnt;have memL:∀e,e∈(Wah m).filter (λe=>leastB f e && true)->e<m/\∀x∈orb f (e:Int),(e:Int)<=x:=λe he=>by
  obtain⟨a,b⟩:=Wa5.mp he;rw[Wds]at b;unfold leastB at b;exact⟨Waq.mp a,of_decide_eq_true b⟩
 have nd:(((Wah m).filter (λe=>leastB f e && true)).map c).Nodup:=by
  refine Zjj (Wdn.filter _) λa ha b hb e=>?_;obtain⟨a1,a2⟩:=memL a ha;obtain⟨b1,b2⟩:=memL b hb;obtain⟨ra0,ra1⟩:=rg (a:Int) (by omega) (by omega);obtain⟨rb0,rb1⟩:=rg (b:Int) (by omega) (by omega);obtain⟨p1,_,p3⟩:=cs a a1;obtain⟨_,_,q3⟩:=cs b b1;rw[<- e]at q3;have hk:=Zcv G ra0 ra1 p3;have s1:ν (b:Int)∈orb g (ν (a:Int)):=Zbj G ra0 ra1 p3<|Zbl G rb0 rb1 q3;have t1:=Zsh F G rg inj hc (by omega) (by omega) (by omega) (by omega) s1;have t2:=Zbl F (by omega) (by omega) t1;have:=a2 _ t1;have:=b2 _ t2;omega
 have:=Zb8 (m:=(Wah m).filter (λe=>leastB g e && true)) nd λx hx=>by
  obtain⟨e,he,rfl⟩:=Wa1.mp hx;obtain⟨p1,p2,_⟩:=cs e (memL e he).1;exact Wa5.mpr ⟨Waq.mpr p1,by rw[p2];rfl⟩
 rw[Wab]at this;exact this
end
def stD (s:Int):D:=.tup [.int (s / 2),.int (s % 2)]
theorem Zv3 (x:Int):stD (2*x)=.tup [.int x,.int 0]:=by unfold stD;rw[show 2*x / 2=x by omega,show 2*x % 2=0 by omega]
theorem Zzs (x:Int):stD (2*x+1)=.tup [.int x,.int 1]:=by unfold stD;rw[show (2*x+1) / 2=x by omega,show (2*x+1) % 2=1 by omega]
structure CrOk (ts:List (Int × Int)) (cs:List Int):Prop where
 len:cs.length=ts.length
 bit:∀c∈cs,c=0\/c=1
def gHand (cs:List Int) (s:Int):Int:=(s % 2+cs.getD (s / 4).toNat 0) % 2
def preOf (ts:List (Int × Int)) (o:List (List Int)) (e:Nat):Int:=prevIn (rowAt ts o e) e
def cOn (ts:List (Int × Int)) (o:List (List Int)) (cs:List Int) (s:Int):Int:=if gHand cs s=0 then 2*folOf ts o (partner (s / 2).toNat) else 2*preOf ts o (partner (s / 2).toNat)+1
def bkI (cs:List Int) (s:Int):Int:=2*((partner (s / 2).toNat:Nat):Int)+(1-gHand cs s)
theorem CrOk.at {ts:List (Int × Int)}{cs:List Int}(h:CrOk ts cs) {k:Nat}(hk:k<ts.length):∃c,cs[k]?=some c/\cs.getD k 0=c/\(c=0\/c=1):=by
 have hk':k<cs.length:=by rw[h.len];exact hk
 refine⟨cs[k],Waa hk',?_,h.bit _<|Wa8 hk'⟩;rw[Wac,Waa hk'];rfl
theorem Zjz (cs:List Int) (s:Int):gHand cs s=0\/gHand cs s=1:=by unfold gHand;omega
theorem Zts {n:Int}{ts:List (Int × Int)}{o:List (List Int)}(hW:WebOk n ts) (hO:OrdOk n ts o) {e:Nat}(he:e<2*ts.length):folOf ts (o.map turnRow) e=preOf ts o e:=by
 obtain⟨g1,g2,g3⟩:=Zbo hW hO he;obtain⟨h1,h2,h3⟩:=Zbo hW hO.turn he;have e1:rowAt ts (o.map turnRow) e=turnRow (rowAt ts o e):=by
  rw[Wae,g1]at h1;exact(Wbs.inj h1).symm
 unfold folOf preOf;rw[e1];exact(Zkq g2.nodup g3).1
def fHand:DSp:=λds Post=>∃(ts:List (Int × Int)) (cs:List Int) (s:Nat),ds=[encRow cs,stD s]/\CrOk ts cs/\s<4*ts.length/\Post (.int<|gHand cs s)
def fCrOn:DSp:=λds Post=>∃n ts o cs,∃s:Nat,ds=[encWeb n ts,encOrd o,encRow cs,stD s]/\WebOk n ts/\OrdOk n ts o/\CrOk ts cs/\s<4*ts.length/\Post (stD<|cOn ts o cs s)
section
variable {P:Program}{w:World}{K:W.Frag}{mg:Str->Option Value}{base:Heap}{f:Addr}{fd:FuncData}
theorem Zvv (mb:Mb mg) (F:Fun K "hand_beyond" "hand_beyond" Yba f fd):FnOk P w K mg base CX0 1 f fd ["crossings","state"] (spD K fHand):=by
 refine F.ok Ybi (Zba λds Post h=>by obtain⟨_,_,_,rfl,_⟩:=h;rfl) λcdv A outer s H vs Q E hr h=>?_;have hu:=Zby hr;refine⟨_,(Zad (Ze4 (pv 1)<|gtupK (n:=2) K rfl<|Za2 (Zap (i:=2) Ybi.nd rfl<|Or.inl rfl)<|Za2 (Zap (i:=3) Ybi.nd rfl<|Or.inl rfl) Zco)<|Zah<|Za1<|Zi0 (Zaz Zbt (Za0 (ixK K hu) (pv 0) (Zat Zfi (pv 2) Zag) λ_ _=>rfl) Zag<|nomark _) (Zat Zfq Zag<|pv 3)<|pv 3),Zct (λds Post hf=>?_) h⟩;obtain⟨ts,cs,t,rfl,hC,ht,q⟩:=hf;refine⟨by simp,?_⟩;dsimp only[startD,Wbp,Wbl,Wbb,Wak];obtain⟨c,c1,c2,c3⟩:=hC.at (k:=t / 4) (by omega);have hat:atI (cs.map D.int) ((t:Int) / 2 / 2)=some (.int c):=by
  rw[show (t:Int) / 2 / 2=((t / 4:Nat):Int) by omega];exact Zb7 (by rw[Wae,c1];rfl)
 have hg:gHand cs t=((t:Int) % 2+c) % 2:=by unfold gHand;rw[show ((t:Int) / 4).toNat=t / 4 by omega,c2]
 refine Zam<|Zmz<|Zab rfl<|Zfr rfl<|Zbf<|Zbk<|Zbf<|Zbk<|Zd3 ?_;refine Za9<|Zit<|Za3<|Zaj<|Yz2 rfl<|Yz2 rfl<|Zai<|jr_I ⟨by omega,by omega⟩<|Zav hat<|Zai<|Zdt ⟨_,rfl,?_⟩;refine ite2 (λz=>?_) λz=>?_
 ·have z:c=1:=of_decide_eq_true z
  refine Zaj<|Zai<|Zab rfl<|Ze7 ?_;rw[hg]at q;rw[show (1:Int)-(t:Int) % 2=((t:Int) % 2+c) % 2 by omega];exact q
 ·have z:¬ c=1:=of_decide_eq_false (Wb0.mpr z)
  refine Zab rfl ?_;rw[hg]at q;rw[show (t:Int) % 2=((t:Int) % 2+c) % 2 by omega];exact q
theorem Zv8 (mb:Mb mg) (C46:Callee P w K mg base 1 "hand_beyond" ["crossings","state"] (spD K fHand)) (C44:Callee P w K mg base 2 "follower" ["web","order","end"] (spD K fFol)) (C45:Callee P w K mg base 2 "forerunner" ["web","order","end"] (spD K fFore)) (F:Fun K "crossed_onward" "crossed_onward" Ya8 f fd):FnOk P w K mg base CX0 3 f fd ["web","order","crossings","state"] (spD K fCrOn):=by
 refine F.ok Ybn (Zba λds Post h=>by obtain⟨_,_,_,_,_,rfl,_⟩:=h;rfl) λcdv A outer s H vs Q E hr h=>?_;have hu:=Zby hr;refine⟨_,(Zad (Zaq (i:=4) Ybn.nd rfl (Or.inl rfl)<|Zat Zjm (Za0 (ixK K hu) (pv 3) Zag λ_ _=>rfl) Zag)<|Zad (Zc0 (Zaz Zbt (Za4 C46 (hr.mono<|by decide)<|Zaa (pv 2)<|Zaa (pv 3) Zae) Zag<|nomark _) (Zah<|Za1<|Zcd<|Zaa (Za4 C44 (hr.mono<|by decide)<|Zaa (pv 0)<|Zaa (pv 1)<|Zaa (pv 4) Zae)<|Zaa Zag Zae) Zbe)<|Zah<|Za1<|Zcd<|Zaa (Za4 C45 (hr.mono<|by decide)<|Zaa (pv 0)<|Zaa (pv 1)<|Zaa (pv 4) Zae)<|Zaa Zag Zae),Zct (λds Post hf=>?_) h⟩;obtain⟨n,ts,o,cs,t,rfl,hW,hO,hC,ht,q⟩:=hf;refine⟨by simp,?_⟩;dsimp only[startD,Wbp,Wbl,Wbb,Wak];have he:t / 2<2*ts.length:=by omega
 refine Zam<|Zax<|Zaj<|Yz2 rfl<|Zai<|Zav (d:=.int ((t / 2:Nat):Int)) (by rw[show ((t / 2:Nat):Int)=(t:Int) / 2 by omega];rfl)<|Zai<|Ze7 ?_;rw[Zgm];have ee:((t:Int) / 2).toNat=t / 2:=by omega
 refine Zam<|Zdf<|Za3<|Zaj<|Zay<|Yz1 rfl<|Yz1 rfl<|Zaf ⟨ts,cs,t,rfl,hC,ht,Zai<|Zdt ⟨_,rfl,?_⟩⟩;refine ite2 (λz=>?_) λz=>?_
 ·have z:gHand cs t=0:=of_decide_eq_true z
  refine Za9<|Zcb<|Zac<|Zay<|Yz1 rfl<|Yz1 rfl<|Yz1 rfl<|Zaf ⟨n,ts,o,partner<|t / 2,rfl,hW,hO,Zaw he,Zac<|Zai<|Zaf ⟨Zfs,?_⟩⟩;have q':=q;unfold cOn at q';rw[if_pos z,Zv3,ee]at q';exact q'
 ·have z:¬ gHand cs t=0:=of_decide_eq_false (Wb0.mpr z)
  refine Zbb<|Za9<|Zcb<|Zac<|Zay<|Yz1 rfl<|Yz1 rfl<|Yz1 rfl<|Zaf ⟨n,ts,o,partner<|t / 2,rfl,hW,hO,Zaw he,Zac<|Zai<|Zaf ⟨Zfs,?_⟩⟩;have q':=q;unfold cOn at q';rw[if_neg z,Zzs,ee]at q';exact q'
end
theorem Zbm (e:Nat):partner e / 2=e / 2:=by unfold partner;split <;> omega
section
variable {n:Int}{ts:List (Int × Int)}{o:List (List Int)}{cs:List Int}
theorem Zp0 (hW:WebOk n ts) (hO:OrdOk n ts o) {x:Nat}(hx:x<2*ts.length):∃k:Nat,k<2*ts.length/\preOf ts o x=(k:Int)/\folOf ts o k=(x:Int):=by
 obtain⟨g1,g2,g3⟩:=Zbo hW hO hx;have nd:=g2.nodup;obtain⟨i,hi⟩:=Wco.mp g3;have hil:=(Waf.mp hi).1;have ep:=Zha nd hi;have hj:pvI (rowAt ts o x).length i<(rowAt ts o x).length:=by unfold pvI;split <;> omega
 rw[Wac,Waa hj]at ep;have hmem:prevIn (rowAt ts o x) x∈rowAt ts o x:=by rw[ep];exact Wa8 hj
 obtain⟨k,hk,pk,ek⟩:=g2.mem.mp hmem;refine⟨k,hk,ek.symm,?_⟩;have er:rowAt ts o k=rowAt ts o x:=by unfold rowAt;rw[pk]
 have hkj:(rowAt ts o x)[pvI (rowAt ts o x).length i]?=some (k:Int):=by
  rw[Waa hj,ek,ep];rfl
 unfold folOf;rw[er,Zda nd hkj];have:nxI (rowAt ts o x).length (pvI (rowAt ts o x).length i)=i:=by
  unfold nxI pvI;repeat' split
  all_goals omega
 rw[this,Wac,hi];rfl
theorem Zyu (hW:WebOk n ts) (hO:OrdOk n ts o) {x:Nat}(hx:x<2*ts.length):∃k:Nat,k<2*ts.length/\folOf ts o x=(k:Int)/\preOf ts o k=(x:Int):=by
 obtain⟨g,hg,_,e⟩:=Zc2 hW hO hx;obtain⟨k,hk,h1,h2⟩:=Zp0 hW hO hg;have h3:=(Zfw hW hO).inj ((partner k:Nat):Int) ((partner x:Nat):Int) (by omega) (by have:=Zaw hk;omega) (by omega) (by have:=Zaw hx;omega) (by unfold onI;rw[Wam,Wam,Zan,Zan,h2,e]);have h4:partner k=partner x:=by omega
 have h5:=congrArg partner h4;rw[Zan,Zan]at h5;subst h5;exact⟨g,hg,e.symm,h1⟩
theorem Zjc (cs:List Int) (e:Nat) {h:Int}(hh:h=0\/h=1):gHand cs (2*(e:Int)+h)=(h+cs.getD (e / 2) 0) % 2:=by
 unfold gHand;rw[show ((2*(e:Int)+h) / 4).toNat=e / 2 by omega,show (2*(e:Int)+h) % 2=h by omega]
theorem Zdp (ts:List (Int × Int)) (o:List (List Int)) (cs:List Int) (e:Nat) {h:Int}(hh:h=0\/h=1):cOn ts o cs (2*(e:Int)+h)=if (h+cs.getD (e / 2) 0) % 2=0 then 2*folOf ts o (partner e) else 2*preOf ts o (partner e)+1:=by
 unfold cOn;rw[Zjc cs e hh,show ((2*(e:Int)+h) / 2).toNat=e by omega]
theorem Zem (cs:List Int) (e:Nat) {h:Int}(hh:h=0\/h=1):bkI cs (2*(e:Int)+h)=2*((partner e:Nat):Int)+(1-(h+cs.getD (e / 2) 0) % 2):=by
 unfold bkI;rw[Zjc cs e hh,show ((2*(e:Int)+h) / 2).toNat=e by omega]
theorem Zcm {m:Nat}{x:Int}(h0:0<=x) (h1:x<((4*m:Nat):Int)):∃(e:Nat) (h:Int),e<2*m/\(h=0\/h=1)/\x=2*(e:Int)+h:=⟨(x / 2).toNat,x % 2,by omega,by omega,by omega⟩
theorem cbit (hC:CrOk ts cs) {e:Nat}(he:e<2*ts.length):cs.getD (e / 2) 0=0\/cs.getD (e / 2) 0=1:=by
 obtain⟨c,_,h1,h2⟩:=hC.at (k:=e / 2) (by omega);rw[h1];exact h2
theorem Zsi (hC:CrOk ts cs) {x:Int}(h0:0<=x) (h1:x<((4*ts.length:Nat):Int)):bkI cs (bkI cs x)=x/\0<=bkI cs x/\bkI cs x<((4*ts.length:Nat):Int):=by
 obtain⟨e,h,he,hh,rfl⟩:=Zcm h0 h1;have hc:=cbit hC he;have hp:=Zaw he;rw[Zem cs e hh];refine⟨?_,by omega,by omega⟩;rw[Zem cs (partner e) (by omega),Zan,Zbm];omega
theorem Zrf (hW:WebOk n ts) (hO:OrdOk n ts o) (hC:CrOk ts cs) {x:Int}(h0:0<=x) (h1:x<((4*ts.length:Nat):Int)):cOn ts o cs (bkI cs<|cOn ts o cs x)=bkI cs x/\0<=cOn ts o cs x/\cOn ts o cs x<((4*ts.length:Nat):Int):=by
 obtain⟨e,h,he,hh,rfl⟩:=Zcm h0 h1;have hc:=cbit hC he;have hp:=Zaw he;rw[Zem cs e hh,Zdp ts o cs e hh];by_cases z:(h+cs.getD (e / 2) 0) % 2=0
 ·rw[if_pos z]
  obtain⟨k,hk,k1,k2⟩:=Zyu hW hO hp;have hck:=cbit hC hk;rw[k1];refine⟨?_,by omega,by omega⟩;rw[show 2*(k:Int)=2*(k:Int)+0 by omega,Zem cs k (Or.inl rfl),Zdp ts o cs (partner k) (by omega),Zbm,Zan,if_neg (by omega),k2];omega
 ·rw[if_neg z]
  obtain⟨k,hk,k1,k2⟩:=Zp0 hW hO hp;have hck:=cbit hC hk;rw[k1];refine⟨?_,by omega,by omega⟩;rw[Zem cs k (Or.inr rfl),Zdp ts o cs (partner k) (by omega),Zbm,Zan,if_pos (by omega),k2];omega
theorem Zgz (hW:WebOk n ts) (hO:OrdOk n ts o) (hC:CrOk ts cs):OneOne (cOn ts o cs) (4*ts.length):=by
 refine⟨λx h0 h1=>(Zrf hW hO hC h0 h1).2,λx y h0 h1 h2 h3 q=>?_⟩;have e1:=(Zrf hW hO hC h0 h1).1;have e2:=(Zrf hW hO hC h2 h3).1;rw[q,e2]at e1;rw[<- (Zsi hC h0 h1).1,<- e1,(Zsi hC h2 h3).1]
theorem Zzz (hC:CrOk ts cs) {x:Int}(h0:0<=x) (h1:x<((4*ts.length:Nat):Int)):bkI cs x≠x/\bkI cs x≠cOn ts o cs x:=by
 obtain⟨e,h,he,hh,rfl⟩:=Zcm h0 h1;have hc:=cbit hC he;rw[Zem cs e hh,Zdp ts o cs e hh];constructor
 ·have:partner e≠e:=by unfold partner;split <;> omega
  omega
 ·split <;> omega
theorem Zzj (hW:WebOk n ts) (hO:OrdOk n ts o) (hC:CrOk ts cs) {x:Int}(h0:0<=x) (h1:x<((4*ts.length:Nat):Int)) (k:Nat):iter (cOn ts o cs) x k≠bkI cs x:=by
 intro q;have F:=Zgz hW hO hC;have key:∀j,j<=k->bkI cs (iter (cOn ts o cs) x j)=iter (cOn ts o cs) x (k-j):=by
  intro j
  induction j with
  |zero=>intro _;exact q.symm
  |succ j ih=>
   intro hj;have i1:=ih (by omega);have r1:=Za7 F h0 h1 j;have r2:=Za7 F h0 h1<|j+1;have r3:=Za7 F h0 h1<|k-(j+1);have b2:=(Zsi hC r2.1 r2.2).2;refine F.inj _ _ b2.1 b2.2 r3.1 r3.2 ?_;have e1:=(Zrf hW hO hC r1.1 r1.2).1;rw[show cOn ts o cs (iter (cOn ts o cs) x<|k-(j+1))=iter (cOn ts o cs) x (k-j) by rw[show k-j=(k-(j+1))+1 by omega];rfl,<- i1];exact e1
 have r1:=Za7 F h0 h1<|k / 2;have z:=Zzz (o:=o) hC r1.1 r1.2;have e:=key (k / 2) (by omega);by_cases hk:k % 2=0
 ·rw[show k-k / 2=k / 2 by omega]at e
  exact z.1 e
 ·rw[show k-k / 2=k / 2+1 by omega]at e
  exact z.2 e
end
section
variable {P:Program}{w:World}{K:W.Frag}{mg:Str->Option Value}{base:Heap}{f:Addr}{fd:FuncData}
def fBack:DSp:=λds Post=>∃(d:D) (ts:List (Int × Int)) (cs:List Int) (s:Nat),ds=[d,encRow cs,stD s]/\CrOk ts cs/\s<4*ts.length/\Post (stD<|bkI cs s)
theorem Zyd (cs:List Int) (t:Nat):stD (bkI cs t)=.tup [.int ((partner (t / 2):Nat):Int),.int (1-gHand cs t)]:=by
 have:=Zjz cs t;unfold stD bkI;rw[show ((t:Int) / 2).toNat=t / 2 by omega,show (2*((partner (t / 2):Nat):Int)+(1-gHand cs t)) / 2=((partner (t / 2):Nat):Int) by omega,show (2*((partner (t / 2):Nat):Int)+(1-gHand cs t)) % 2=1-gHand cs t by omega]
theorem Zwi (mb:Mb mg) (C46:Callee P w K mg base 1 "hand_beyond" ["crossings","state"] (spD K fHand)) (F:Fun K "back_of" "back_of" Ya9 f fd):FnOk P w K mg base CX0 2 f fd ["web","crossings","state"] (spD K fBack):=by
 refine F.ok Ybs (Zba λds Post h=>by obtain⟨_,_,_,_,rfl,_⟩:=h;rfl) λcdv A outer s H vs Q E hr h=>?_;have hu:=Zby hr;refine⟨_,(Zah<|Za1<|Zcd<|Zaa (Zat Zjm (Za0 (ixK K hu) (pv 2) Zag λ_ _=>rfl) Zag)<|Zaa (Zat Zfq Zag<|Za4 C46 (hr.mono<|by decide)<|Zaa (pv 1)<|Zaa (pv 2) Zae) Zae),Zct (λds Post hf=>?_) h⟩;obtain⟨d,ts,cs,t,rfl,hC,ht,q⟩:=hf;refine⟨by simp,?_⟩;dsimp only[startD,Wbp,Wbl,Wbb,Wak];rw[Zyd]at q;refine Za9<|Zcb<|Zac<|Zaj<|Yz2 rfl<|Zai<|Zav (d:=.int ((t / 2:Nat):Int)) (by rw[show ((t / 2:Nat):Int)=(t:Int) / 2 by omega];rfl)<|Zai<|Ze7 ?_;rw[Zgm];exact Zac<|Zaj<|Zai<|Zay<|Yz1 rfl<|Yz1 rfl<|Zaf ⟨ts,cs,t,rfl,hC,ht,Ze7<|Zaf ⟨Zfs,q⟩⟩
end
section
variable {n:Int}{ts:List (Int × Int)}{o:List (List Int)}{cs:List Int}
structure StB (f b:Int->Int) (m:Nat):Prop where
 one:OneOne f m
 bb:∀x,0<=x->x<(m:Int)->b (b x)=x/\0<=b x/\b x<(m:Int)
 fb:∀x,0<=x->x<(m:Int)->f (b<|f x)=b x
 out:∀x,0<=x->x<(m:Int)->∀k,iter f x k≠b x
theorem Zqi (hW:WebOk n ts) (hO:OrdOk n ts o) (hC:CrOk ts cs):StB (cOn ts o cs) (bkI cs) (4*ts.length):=
 ⟨Zgz hW hO hC,λx h0 h1=>Zsi hC h0 h1,λx h0 h1=>(Zrf hW hO hC h0 h1).1,λx h0 h1 k=>Zzj hW hO hC h0 h1 k⟩
end
def CrM (f b:Int->Int) (k:Nat) (x:Int):Prop:=∃e:Nat,e<k/\(x∈orb f (2*(e:Int))\/∃y∈orb f (2*(e:Int)),b y=x)
open Classical in
noncomputable def frB (f b:Int->Int) (k:Nat):Bool:=!decide (CrM f b k (2*(k:Int)))
noncomputable def crTo (f b:Int->Int) (k:Nat):List (List Int):=((Wah k).filter (frB f b)).map λe:Nat=>orb f (2*(e:Int))
theorem Zfh {f b:Int->Int}{k:Nat}:frB f b k=true ↔ ¬ CrM f b k (2*(k:Int)):=by
 unfold frB;rw[Bool.not_eq_true',decide_eq_false_iff_not]
theorem Ze1 (f b:Int->Int) (k:Nat):crTo f b (k+1)=crTo f b k++(if frB f b k=true then [orb f (2*(k:Int))] else []):=by
 unfold crTo;rw[Wc5,Wbg,Was];congr 1;by_cases h:frB f b k=true
 ·rw[if_pos h,Wdf h];rfl
 ·rw[if_neg h,Wd5 h];rfl
theorem Zl9 (f b:Int->Int) (k:Nat):(crTo f b k).length<=k:=by
 unfold crTo;rw[Wab];exact Wbx (Wcp _ _) (by rw[Waz];exact Wag _)
section
variable {f b:Int->Int}{m:Nat}(S:StB f b m)
include S
theorem Zrm {e x:Int}(h0:0<=e) (h1:e<(m:Int)) (hx:x∈orb f e):∃z∈orb f e,f z=x:=by
 obtain⟨i,hi,rfl⟩:=Zar.mp hx;cases i with
 |zero=>
  have O:=Zde S.one h0 h1;have hp:=O.pos;refine⟨iter f e<|per f e-1,Za6 S.one h0 h1 _,?_⟩;have:=O.back;rw[show per f e=(per f e-1)+1 by omega]at this;exact this
 |succ i=>exact⟨iter f e i,Za6 S.one h0 h1 _,rfl⟩
theorem Zf9 {k:Nat}(hk:2*k<=m) {x:Int}(h:CrM f b k x):0<=x/\x<(m:Int)/\CrM f b k (f x)/\CrM f b k (b x):=by
 obtain⟨e,he,h⟩:=h;have e0:(0:Int)<=2*(e:Int):=by omega
 have e1:2*(e:Int)<(m:Int):=by omega
 rcases h with h|⟨y,hy,rfl⟩
 ·obtain⟨r0,r1⟩:=Zcv S.one e0 e1 h
  obtain⟨i,_,hi⟩:=Zar.mp h;exact⟨r0,r1,⟨e,he,.inl (by rw[<- hi];exact Za6 S.one e0 e1<|i+1)⟩,⟨e,he,.inr ⟨x,h,rfl⟩⟩⟩
 ·obtain⟨z,hz,rfl⟩:=Zrm S e0 e1 hy
  obtain⟨r0,r1⟩:=Zcv S.one e0 e1 hz;obtain⟨q0,q1⟩:=Zcv S.one e0 e1 hy;obtain⟨bb,b0,b1⟩:=S.bb _ q0 q1;refine⟨b0,b1,⟨e,he,.inr ⟨z,hz,(S.fb z r0 r1).symm⟩⟩,⟨e,he,.inl (by rw[bb];exact hy)⟩⟩
theorem Zf2 {k:Nat}(hk:2*k<=m) {x:Int}(h:CrM f b k x):∀j,CrM f b k (iter f x j)
 |0=>h
 |j+1=>(Zf9 S hk (Zf2 hk h j)).2.2.1
theorem Zja {k:Nat}(hk:2*k<=m) {x:Int}(h0:0<=x) (h1:x<(m:Int)) {y:Int}(hy:y∈orb f x) (h:CrM f b k y):CrM f b k x:=by
 obtain⟨r0,r1⟩:=Zcv S.one h0 h1 hy;have:=Zbl S.one h0 h1 hy;obtain⟨i,_,rfl⟩:=Zar.mp this;exact Zf2 S hk h i
theorem Zf4 {k:Nat}(hk:2*k+2<=m) {x:Int}:CrM f b (k+1) x↔CrM f b k x\/(frB f b k=true/\(x∈orb f (2*(k:Int))\/∃y∈orb f (2*(k:Int)),b y=x)):=by
 constructor
 ·rintro⟨e,he,h⟩
  rcases Wb8 (Wck he) with c|c
  ·exact .inl ⟨e,c,h⟩
  ·subst c
   by_cases q:CrM f b e (2*(e:Int))
   ·left
    rcases h with h|⟨y,hy,rfl⟩
    ·obtain⟨i,_,rfl⟩:=Zar.mp h
     exact Zf2 S (by omega) q i
    ·obtain⟨i,_,rfl⟩:=Zar.mp hy
     exact(Zf9 S (by omega)<|Zf2 S (by omega) q i).2.2.2
   ·right
    exact⟨Zfh.mpr q,h⟩
 ·rintro(⟨e,he,h⟩|⟨_,h⟩)
  ·exact⟨e,by omega,h⟩
  ·exact⟨k,by omega,h⟩
end
def stRow (s:Int):List Int:=[s / 2,s % 2]
def crD (r:List Int):D:=.tup<|r.map stD
theorem Zw5 (r:List Int):crD r=codD (r.map stRow):=by
 unfold crD codD;rw[Wa6];rfl
noncomputable def allC (ts:List (Int × Int)) (o:List (List Int)) (cs:List Int):List (List Int):=Wak (lone o) []++crTo (cOn ts o cs) (bkI cs) (2*ts.length)
theorem Zp6 {f b:Int->Int}{m k:Nat}(S:StB f b m) (hk:2*k<=m) {i:Nat}{r:List Int}(h:(crTo f b k)[i]?=some r):∃(e:Nat) (l:List Int),((Wah k).filter (frB f b))[i]?=some e/\e<k/\r=2*(e:Int)::l:=by
 unfold crTo at h;rw[Wae]at h;cases z:((Wah k).filter (frB f b))[i]? with
 |none=>rw[z]at h;cases h
 |some e=>
  rw[z]at h;have h:orb f (2*(e:Int))=r:=by simpa using h
  have he:=Waq.mp (Wa5.mp<|Wau z).1;obtain⟨l,hl⟩:=Zf8 S.one (e:=2*(e:Int)) (by omega) (by omega);exact⟨e,l,rfl,he,by rw[<- h,hl]⟩
theorem Zt1 {f b:Int->Int}{m k:Nat}(S:StB f b m) (hk:2*k<=m) (z:Nat):AscC ((Wak z []++crTo f b k).map (Wbl stRow)):=by
 intro i a c ha hc;rw[Wae]at ha hc;by_cases h:i<z
 ·rw[Wbd (by rw[Wax];exact h),Wb7,if_pos h]at ha
  left
  have:([]:List (List Int))=a:=by simpa using ha
  exact this.symm
 ·rw[Wa2 (by rw[Wax];omega),Wax]at ha hc
  cases za:(crTo f b k)[i-z]? with
  |none=>rw[za]at ha;cases ha
  |some ra=>
   cases zc:(crTo f b k)[i+1-z]? with
   |none=>rw[zc]at hc;cases hc
   |some rc=>
    rw[za]at ha;rw[zc]at hc;obtain⟨e,l,q1,q2,rfl⟩:=Zp6 S hk za;obtain⟨e',l',q3,q4,rfl⟩:=Zp6 S hk zc;have hlt:e<e':=by
     have pw:((Wah k).filter (frB f b)).Pairwise (· < ·):=List.Pairwise.filter _ Wbj;obtain⟨a1,a2⟩:=Waf.mp q1;obtain⟨b1,b2⟩:=Waf.mp q3;have:=Wcu.mp pw (i-z) (i+1-z) a1 b1 (by omega);rw[a2,b2]at this;exact this
    have ha:stRow (2*(e:Int))::l.map stRow=a:=by simpa using ha
    have hc:stRow (2*(e':Int))::l'.map stRow=c:=by simpa using hc
    refine .inr ⟨_,_,_,_,ha.symm,hc.symm,?_,?_⟩
    ·unfold stRow
     rw[show 2*(e:Int) / 2=e by omega,show 2*(e':Int) / 2=e' by omega];intro w;have:=(List.cons.inj w).1;omega
    ·unfold stRow
     rw[show 2*(e:Int) / 2=e by omega,show 2*(e':Int) / 2=e' by omega,Zzc,if_neg (by omega)];exact decide_eq_false (by omega)
section
variable {n:Int}{ts:List (Int × Int)}{o:List (List Int)}{cs:List Int}
theorem Ztb (hW:WebOk n ts) (hO:OrdOk n ts o):(allC ts o cs).length<=100:=by
 unfold allC;rw[Wai,Wax];have:=Zl9 (cOn ts o cs) (bkI cs) (2*ts.length);have:=Zis o;have:=hO.len;have:=hW.hi;have:=hW.len;omega
theorem Zti (hW:WebOk n ts) (hO:OrdOk n ts o) (hC:CrOk ts cs):AscC ((allC ts o cs).map (Wbl stRow)):=Zt1 (Zqi hW hO hC) (by omega) _
end
theorem Zzp (l:List (List Int)):l.map crD=(l.map<|Wbl stRow).map codD:=by
 rw[Wa6];exact Wcl λr _=>Zw5 r
def prI (x:Int):Int × Int:=(x / 2,x % 2)
theorem Zwy (x:Int):dP (prI x)=stD x:=rfl
theorem Zwt {x y:Int}(h:prI x=prI y):x=y:=by
 have h1:x / 2=y / 2:=congrArg Prod.fst h;have h2:x % 2=y % 2:=congrArg Prod.snd h;omega
structure StK (m:Nat) (ks:List (Int × Int)) (M:Int->Prop):Prop where
 nd:ks.Nodup
 rg:∀p∈ks,∃x:Nat,x<m/\p=prI (x:Int)
 mem:∀x:Nat,x<m->(prI (x:Int)∈ks↔M (x:Int))
theorem StK.len {m:Nat}{ks:List (Int × Int)}{M:Int->Prop}(h:StK m ks M):ks.length<=m:=by
 have h1:ks.length<=((Wah m).map λx:Nat=>prI (x:Int)).length:=by
  have gen:∀{ms l:List (Int × Int)},ms.Nodup->(∀x∈ms,x∈l)->ms.length<=l.length:=by
   intro ms
   induction ms with
   |nil=>intro l _ _;exact Wbn _
   |cons x ms ih=>
    intro l h1 h2;rw[Wbu]at h1;have hx:=h2 x (by simp);have:=ih (l:=l.erase x) h1.2 λy hy=>(Wdp λz:y=x=>h1.1 (z ▸ hy)).mpr (h2 y (by simp[hy]));rw[Wdd hx]at this;have:=Wb9 hx;rw[Waj];omega
  exact gen h.nd λp hp=>by
   obtain⟨x,hx,rfl⟩:=h.rg p hp;exact Wa1.mpr ⟨x,Waq.mpr hx,rfl⟩
 rwa [Wab,Waz]at h1
theorem Zmq {ks:List (Int × Int)}{k q:Int × Int}:q∈addP ks k↔q∈ks\/q=k:=by
 unfold addP;split
 ·rename_i h
  exact⟨.inl,λz=>by rcases z with z|z;exact z;rw[z];exact h⟩
 ·rw[Wbh,Wa4]
theorem StK.add {m:Nat}{ks:List (Int × Int)}{M:Int->Prop}(h:StK m ks M) {x:Nat}(hx:x<m):StK m (addP ks<|prI (x:Int)) λy=>M y\/y=(x:Int):=by
 refine⟨?_,λp hp=>?_,λy hy=>?_⟩
 ·unfold addP
  split
  ·exact h.nd
  ·rename_i hn
   exact Wcx.mpr ⟨h.nd,by simp,λa ha b hb=>by
    have:b=prI (x:Int):=by simpa using hb
    subst this;exact λz=>hn (z ▸ ha)⟩
 ·rcases Zmq.mp hp with hp|hp
  ·exact h.rg p hp
  ·exact⟨x,hx,hp⟩
 ·rw[Zmq,h.mem y hy]
  constructor
  ·rintro(z|z)
   ·exact .inl z
   ·exact .inr<|Zwt z
  ·rintro(z|z)
   ·exact .inl z
   ·exact .inr (by rw[z])
theorem StK.cong {m:Nat}{ks:List (Int × Int)}{M M':Int->Prop}(h:StK m ks M) (e:∀x:Nat,x<m->(M (x:Int)↔M' (x:Int))):StK m ks M':=⟨h.nd,h.rg,λx hx=>(h.mem x hx).trans (e x hx)⟩
theorem Zu8 (m:Nat) {M:Int->Prop}(h:∀x:Nat,x<m->¬ M (x:Int)):StK m [] M:=⟨Wdl,(λp hp=>nomatch hp),λx hx=>⟨λz=>(nomatch z),λz=>(h x hx z).elim⟩⟩
theorem smP {T x:Nat}(hT:T<=24) (hx:x<4*T):SmP (prI (x:Int)):=by
 unfold SmP prI;simp only;omega
def fRnd:DSp:=λds Post=>∃n ts o cs,∃s:Nat,ds=[encWeb n ts,encOrd o,encRow cs,stD s]/\WebOk n ts/\OrdOk n ts o/\CrOk ts cs/\s<4*ts.length/\Post (crD<|orb (cOn ts o cs) s)
def fCrF:NSp:=λds Post=>∃n ts o cs,ds=[encWeb n ts,encOrd o,encRow cs]/\WebOk n ts/\OrdOk n ts o/\CrOk ts cs/\Post ((allC ts o cs).map crD)
theorem Zub (o:List (List Int)) (p:D->Bool) (hp:∀r:List Int,p (rowD r)=r.isEmpty) (g:D->D) (hg:∀d,g d=.tup []):((o.map rowD).filter p).map g=(Wak (lone o) ([]:List Int)).map crD:=by
 rw[Zji o p hp g hg];rw[Wei,Wei];rfl
theorem Zz7 (x y:Int):(x / 2 == y / 2 && x % 2 == y % 2)=decide (x=y):=by
 rw[Wdh,Wbc,beq_iff_eq,beq_iff_eq,decide_eq_true_iff];omega
section
variable {P:Program}{w:World}{K:W.Frag}{mg:Str->Option Value}{base:Heap}{f:Addr}{fd:FuncData}
theorem Zx6 (mb:Mb mg) (C39:Callee P w K mg base 3 "crossed_onward" ["web","order","crossings","state"] (spD K fCrOn)) (F:Fun K "round_from" "round_from" Ybb f fd):FnOk P w K mg base CX0 4 f fd ["web","order","crossings","state"] (spD K fRnd):=by
 refine F.ok Yay (Zba λds Post h=>by obtain⟨_,_,_,_,_,rfl,_⟩:=h;rfl) λcdv A outer s H vs Q E hr h=>?_;have hu:=Zby hr;refine⟨_,(Zad (Zaq (i:=4) Yay.nd rfl (Or.inl rfl)<|Zh0<|Zaa (pv 3) Zae)<|Zad (Zaq (i:=5) Yay.nd rfl (Or.inl rfl)<|Za4 C39 (hr.mono<|by decide)<|Zaa (pv 0)<|Zaa (pv 1)<|Zaa (pv 2)<|Zaa (pv 3) Zae)<|Zad (Zf6 PassesOwn.never (Zaz (nePK K hu) (pv 5) (pv 3)<|nomark _)<|Zad (Zcz<|bmK K PySem.F.plainAttrs_list PySem.F.slot_list_append PySem.F.type_list_append Zcc (pv 4)<|Zaa (pv 5) Zae)<|Zah<|Zaq (i:=5) Yay.nd rfl (Or.inl rfl)<|Za4 C39 (hr.mono<|by decide)<|Zaa (pv 0)<|Zaa (pv 1)<|Zaa (pv 2)<|Zaa (pv 5) Zae)<|Zah<|Za1<|Zbd (tupK K) rfl (mb "tuple"<|by decide) Zbx<|Zaa (pv 4) Zae),Zct (λds Post hf=>?_) h⟩;obtain⟨n,ts,o,cs,e,rfl,hW,hO,hC,he,q⟩:=hf;refine⟨by simp,?_⟩;dsimp only[startD,Wbp,Wbl,Wbb,Wak];have O:=Zgz hW hO hC;have hw:=hW.len;have h0:(0:Int)<=(e:Int):=by omega
 have h1:(e:Int)<((4*ts.length:Nat):Int):=by omega
 refine Zam<|Zcp<|Zhr<|Yz1 rfl<|Zaf ⟨by show 1<=sizeLine;decide,?_⟩;refine Zam<|Zax<|Zay<|Yz1 rfl<|Yz1 rfl<|Yz1 rfl<|Yz1 rfl<|Zaf ⟨n,ts,o,cs,e,rfl,hW,hO,hC,he,?_⟩;refine Zbi (λZ=>∃k:Nat,IsOrb (cOn ts o cs) e k /\ Z = [.val (encWeb n ts),.val (encOrd o),.val (encRow cs),.val (stD e),.own (.lst ((walkL (cOn ts o cs) e k).map stD)),.val (stD<|iter (cOn ts o cs) e k)]) ?_ ?_
 ·refine Zga (fun μ Z=>∃k:Nat,1<=k/\NdTo (cOn ts o cs) e k /\ μ = 4*ts.length-k /\ Z = [.val (encWeb n ts),.val (encOrd o),.val (encRow cs),.val (stD e),.own (.lst ((walkL (cOn ts o cs) e k).map stD)),.val (stD<|iter (cOn ts o cs) e k)]) ⟨_,1,Wag _,Zop O h0 h1,rfl,rfl⟩ ?_
  rintro μ Z1 ⟨k,hk,nd,rfl,rfl⟩;have hkm:=Zjn O h0 h1 nd;have r:=Za7 O h0 h1 k;refine Za3<|Yz2 rfl<|Zab rfl<|Zze ⟨_,rfl,?_⟩;rw[Zz7];by_cases hb:iter (cOn ts o cs) e k=e
  ·rw[decide_eq_true hb]
   exact iteF ⟨k,⟨by omega,hb,nd⟩,rfl⟩
  ·rw[decide_eq_false hb]
   have nd2:=Zld O h0 h1 hk nd hb;have hkm2:=Zjn O h0 h1 nd2;refine iteT<|Zam<|Zhq rfl rfl<|Zab rfl ⟨_,_,rfl,rfl,?_,?_⟩
   ·rw[Wab,Zce];exact small1000 (by omega)
   refine Zax<|Zay<|Yz1 rfl<|Yz1 rfl<|Yz1 rfl<|Yz1 rfl<|Zaf ⟨n,ts,o,cs,(iter (cOn ts o cs) e k).toNat,?_,hW,hO,hC,by omega,?_⟩
   ·rw[show (((iter (cOn ts o cs) e k).toNat:Nat):Int)=iter (cOn ts o cs) e k by omega]
   refine⟨4*ts.length-(k+1),by omega,k+1,by omega,nd2,rfl,?_⟩;rw[Zhy,Was,show (((iter (cOn ts o cs) e k).toNat:Nat):Int)=iter (cOn ts o cs) e k by omega];rfl
 rintro Z1 ⟨k,O1,rfl⟩;have hkm:=Zjn O h0 h1 O1.nd;rw[O1.orb]at q;exact Za9<|Zbs<|Zac<|Zeu rfl<|Zaf<|Zcx (Or.inl rfl) q
theorem Zyp (mb:Mb mg) (C56:Callee P w K mg base 4 "round_from" ["web","order","crossings","state"] (spD K fRnd)) (C37:Callee P w K mg base 2 "back_of" ["web","crossings","state"] (spD K fBack)) (F:Fun K "crossed_faces" "crossed_faces" Yao f fd):FnOk P w K mg base CX0 5 f fd ["web","order","crossings"] (spN K fCrF):=by
 refine F.ok Yaj (Zim λds Post h=>by obtain⟨_,_,_,_,rfl,_⟩:=h;rfl) λcdv A outer s H vs Q E hr h=>?_;have hu:=Zby hr;have hv:=Zhb hr;refine⟨_,(Zad (Zeb (i:=3) ["row"] (show CompSc (defScope Yao) ["web","order","crossings","told","gone","end","face","state"] _ [] [] from ⟨rfl,by decide +kernel,by decide +kernel,by decide +kernel,rfl,by decide +kernel⟩) rfl Yaj.nd rfl (Or.inl rfl) (seqK K<|pv 1) (λ_ _ _ _ _=>(Zap (i:=0) (show List.Nodup (["row"]:List Str) from by decide) rfl<|Or.inl rfl)) (λ_ _ _ _ _=>(Zk5<|Zh6<|truK K (pv 0) λ_=>rfl)) λ_ _ _ _ _=>(Zcd Zae))<|Zad (Zaq (i:=4) Yaj.nd rfl (Or.inl rfl)<|Zhu Zoc rfl (mb "set"<|by decide) Zos)<|Zad (Zdu PassesOwn.never rfl (Zbp rfl (mb "range"<|by decide)<|Zaa (Zat Zdg Zag<|Zas (lenK K) rfl (mb "len"<|by decide) Zcn<|Zaa (Za0 (ixK K hu) (pv 0) Zag λ_ _=>rfl) Zae) Zae) (Zap (i:=5) Yaj.nd rfl<|Or.inl rfl)<|Zah<|Zc0 (Zaz (ninT hu) (Zcd<|Zaa (pv 5)<|Zaa Zag Zae) (pv 4) rfl) (Zad (Zaq (i:=6) Yaj.nd rfl (Or.inl rfl)<|Za4 C56 (hr.mono<|by decide)<|Zaa (pv 0)<|Zaa (pv 1)<|Zaa (pv 2)<|Zaa (Zcd<|Zaa (pv 5)<|Zaa Zag Zae) Zae)<|Zad (Zcz<|bmK K PySem.F.plainAttrs_list PySem.F.slot_list_append PySem.F.type_list_append Zcc (pv 3)<|Zaa (pv 6) Zae)<|Zah<|Zdu PassesOwn.never rfl (seqK K<|pv 6) (Zap (i:=7) Yaj.nd rfl<|Or.inl rfl)<|Zad (Zcz<|bmS PySem.F.plainAttrs_set PySem.F.slot_set_add PySem.F.type_set_add (Zmd hu) (pv 4)<|Zaa (pv 7) Zae)<|Zah<|Zcz<|bmS PySem.F.plainAttrs_set PySem.F.slot_set_add PySem.F.type_set_add (Zmd hu) (pv 4)<|Zaa (Za4 C37 (hr.mono<|by decide)<|Zaa (pv 0)<|Zaa (pv 2)<|Zaa (pv 7) Zae) Zae) Zbe)<|Zah<|Za1<|Zas (sortCK K hv) rfl (mb "sorted"<|by decide) Zg7<|Zaa (pv 3) Zae),Zr0 (λds Post hf=>?_) h⟩;obtain⟨n,ts,o,cs,rfl,hW,hO,hC,q⟩:=hf;refine⟨by simp,?_⟩;dsimp only[startD,Wbp,Wbl,Wbb,Wak];have S:=Zqi hW hO hC;have O:=S.one;have hw:=hW.len;have hn:=hW.hi;have ho:=hO.len;have hlone:=Zis o;refine Zam<|Zcp<|Zje (by decide)<|Zd7<|Zab rfl ⟨_,rfl,?_,λd=>match d with|.tup ds=>ds.isEmpty|_=>false,λ_=>.tup [],λi d hd=>?_,?_⟩
 ·rw[Wab];exact small1000 (by omega)
 ·rw[Wae]at hd
  cases z:o[i]? with
  |none=>rw[z]at hd;cases hd
  |some r=>
   rw[z]at hd;have hd:encRow r=d:=by simpa using hd
   subst hd;refine Zft<|Zej<|Zab rfl ⟨_,rfl,?_,?_⟩
   ·cases r <;> rfl
   ·cases r with
    |nil=>exact iteT (Zcb (Zaf ⟨by decide,rfl,_,rfl⟩))
    |cons x t=>exact iteF ⟨_,rfl⟩
 rw[show o.map encRow=o.map rowD from rfl,Zub o _ (λr=>by cases r <;> rfl) _ λ_=>rfl]
 refine Zam<|Zcp<|Zwc ?_;refine Zbi (λZ=>∃(ks:List (Int × Int)) (x5 x6 x7:L2.Slot),Z = [.val (encWeb n ts),.val (encOrd o),.val (encRow cs),.own (.lst ((allC ts o cs).map crD)),.own (stO ks),x5,x6,x7]) ?_ ?_
 ·refine Zd1 (Zbn ?_)
  refine Zac<|Zaj<|Zai<|Zbs ?_;refine Zac<|Yz2 rfl<|Zai<|Zav (d:=.tup<|ts.map encTie) rfl ?_;refine Zaf<|Zcr (Or.inr rfl) ?_;rw[Wab];refine jr_I (Or.inl ⟨by omega,by omega⟩)<|Zaf ⟨_,rfl,by omega,by omega,?_⟩;have eL:((2:Int)*(ts.length:Int)).toNat=2*ts.length:=by omega
  rw[eL];refine⟨λk Z=>∃(ks:List (Int × Int)) (x5 x6 x7:L2.Slot),StK (4*ts.length) ks (CrM (cOn ts o cs) (bkI cs) k) /\ Z = [.val (encWeb n ts),.val (encOrd o),.val (encRow cs),.own (.lst ((Wak (lone o) []++crTo (cOn ts o cs) (bkI cs) k).map crD)),.own (stO ks),x5,x6,x7],⟨[],.any,.any,.any,Zu8 _ λx _ ⟨e,he,_⟩=>absurd he<|Wcf _,?_⟩,?_,?_⟩
  ·rw[show crTo (cOn ts o cs) (bkI cs) 0=[] from rfl,Wbi];rfl
  ·rintro k d Z2 hd ⟨ks,x5,x6,x7,hS,rfl⟩
   obtain⟨hk,rfl⟩:=Zch hd;rw[Wc1];have fl:=Zl9 (cOn ts o cs) (bkI cs) k;have e2:((2*k:Nat):Int)=2*(k:Int):=by omega
   refine Zbk<|Zdf<|Za3<|Zw1<|Zcb<|Yz1 rfl<|Zac<|Zai<|Zaf ⟨Zfs,_,ks,prI ((2*k:Nat):Int),rfl,rfl,?_,smP hw (by omega),_,rfl,?_⟩
   ·rw[Zwy,e2,Zv3]
   by_cases hm:CrM (cOn ts o cs) (bkI cs) k ((2*k:Nat):Int)
   ·rw[decide_eq_true ((hS.mem (2*k)<|by omega).mpr hm)]
    have hl:frB (cOn ts o cs) (bkI cs) k=false:=by
     rw[Wb0];intro z;exact Zfh.mp z (e2 ▸ hm)
    refine iteF<|Zbb ⟨ks,.val (.int (k:Int)),x6,x7,hS.cong λx hx=>?_,?_⟩
    ·rw[Zf4 S (by omega),hl];simp
    ·rw[Ze1,if_neg (by rw[hl];exact Wal),Wbi];rfl
   ·rw[decide_eq_false (λz=>hm ((hS.mem (2*k)<|by omega).mp z))]
    have hl:frB (cOn ts o cs) (bkI cs) k=true:=Zfh.mpr (e2 ▸ hm);have ol:=Zqd O (e:=2*(k:Int)) (by omega) (by omega);refine iteT<|Zam<|Zax<|Zay<|Yz1 rfl<|Yz1 rfl<|Yz1 rfl<|Zac<|Zcb<|Yz1 rfl<|Zac<|Zai<|Zaf ⟨Zfs,Zaf ⟨n,ts,o,cs,2*k,?_,hW,hO,hC,by omega,?_⟩⟩
    ·rw[e2,Zv3]
    rw[e2];refine Zam<|Zhq rfl rfl<|Zab rfl ⟨_,_,rfl,rfl,?_,?_⟩
    ·rw[Wab,Wai,Wax];exact small1000 (by omega)
    refine Zd1<|Zd7<|Zab rfl ⟨_,rfl,λi Z=>∃(ks2:List (Int × Int)) (x7:L2.Slot),StK (4*ts.length) ks2 (λx=>CrM (cOn ts o cs) (bkI cs) k x\/x∈(orb (cOn ts o cs) (2*(k:Int))).take i\/∃y∈(orb (cOn ts o cs) (2*(k:Int))).take i,bkI cs y=x) /\ Z = [.val (encWeb n ts),.val (encOrd o),.val (encRow cs),.own (.lst ((Wak (lone o) []++crTo (cOn ts o cs) (bkI cs) k).map crD++[crD (orb (cOn ts o cs) (2*(k:Int)))])),.own (stO ks2),.val (.int (k:Int)),.val (crD<|orb (cOn ts o cs) (2*(k:Int))),x7],⟨ks,_,hS.cong λx hx=>by rw[Wc4];simp,rfl⟩,?_,?_⟩
    ·rintro i d Z3 hd ⟨ks2,x7,hS2,rfl⟩
     rw[Wae]at hd;cases z:(orb (cOn ts o cs) (2*(k:Int)))[i]? with
     |none=>rw[z]at hd;cases hd
     |some y=>
      rw[z]at hd;have hd:stD y=d:=by simpa using hd
      subst hd;obtain⟨r0,r1⟩:=Zcv O (by omega) (by omega)<|Wau z;obtain⟨Y,rfl⟩:∃Y:Nat,y=(Y:Int):=⟨y.toNat,by omega⟩;have hY:Y<4*ts.length:=by omega
      obtain⟨_,b0,b1⟩:=S.bb _ r0 r1;obtain⟨B,hB⟩:∃B:Nat,bkI cs (Y:Int)=(B:Int):=⟨(bkI cs (Y:Int)).toNat,by omega⟩;have hB4:B<4*ts.length:=by omega
      have l2:=hS2.len;have S3:=hS2.add hY;have l3:=S3.len;refine Zbk<|Zam<|Zl0 rfl rfl<|Zab rfl ⟨_,ks2,prI (Y:Int),rfl,rfl,Zwy _,smP hw hY,by omega,?_⟩;refine Zl0 rfl rfl<|Zay<|Yz1 rfl<|Yz1 rfl<|Yz1 rfl<|Zaf ⟨_,ts,cs,Y,rfl,hC,hY,_,_,prI (B:Int),rfl,rfl,?_,smP hw hB4,by omega,_,_,(S3.add hB4).cong λx hx=>?_,rfl⟩
      ·rw[Zwy,<- hB]
      ·rw[Wb5,z]
       simp only[Option.toList_some,Wbh,Wa4];constructor
       ·rintro((a|a)|a)
        ·rcases a with a|a|⟨y,a,b⟩
         ·exact .inl a
         ·exact .inr (.inl (.inl a))
         ·exact .inr (.inr ⟨y,.inl a,b⟩)
        ·exact .inr (.inl (.inr a))
        ·exact .inr (.inr ⟨_,.inr rfl,by rw[hB,a]⟩)
       ·rintro(a|(a|a)|⟨y,a|a,b⟩)
        ·exact .inl (.inl (.inl a))
        ·exact .inl (.inl (.inr (.inl a)))
        ·exact .inl (.inr a)
        ·exact .inl (.inl (.inr (.inr ⟨y,a,b⟩)))
        ·subst a;exact .inr (by rw[<- b,hB])
    ·rintro Z3 ⟨ks2,x7,hS2,rfl⟩
     rw[Wab]at hS2;rw[Wba]at hS2;refine⟨ks2,.val (.int (k:Int)),.val<|crD<|orb (cOn ts o cs) (2*(k:Int)),x7,hS2.cong λx hx=>?_,?_⟩
     ·rw[Zf4 S (by omega),hl];simp
     ·rw[Ze1,if_pos hl,<- Wcz,Was (l₂:=[orb (cOn ts o cs) (2*(k:Int))])]
      rfl
  ·rintro Z2 ⟨ks,x5,x6,x7,hS,rfl⟩
   rw[Zbc];exact⟨ks,_,_,_,rfl⟩
 rintro Z1 ⟨ks,x5,x6,x7,rfl⟩;have al:=Ztb (cs:=cs) hW hO;rw[Zzp]at q ⊢;exact Zg5<|Zr6<|Zac<|Zeu rfl<|Zaf ⟨_,rfl,by rw[Wab];omega,Zti hW hO hC,_,rfl,q⟩
end
def dbl (r:List Int):List Int:=r.map λx=>2*x
section
variable {n:Int}{ts:List (Int × Int)}{o:List (List Int)}{cs:List Int}
theorem Zjs (hz:∀c∈cs,c=0) (x:Int):gHand cs x=x % 2:=by
 unfold gHand;have:cs.getD (x / 4).toNat 0=0:=by
  rw[Wac];cases h:cs[(x / 4).toNat]? with
  |none=>rfl
  |some c=>exact hz c (Wau h)
 rw[this];omega
theorem Zww (hz:∀c∈cs,c=0) (x:Int):cOn ts o cs (2*x)=2*onI ts o x:=by
 unfold cOn;rw[Zjs hz,if_pos (by omega),show 2*x / 2=x by omega];rfl
theorem Zdv (hz:∀c∈cs,c=0) (x:Int):∀k,iter (cOn ts o cs) (2*x) k=2*iter (onI ts o) x k
 |0=>rfl
 |k+1=>by show cOn ts o cs (iter (cOn ts o cs) (2*x) k)=_;rw[Zdv hz x k,Zww hz];rfl
theorem Zh7 (hW:WebOk n ts) (hO:OrdOk n ts o) (hz:∀c∈cs,c=0) {x:Int}(h0:0<=x) (h1:x<((2*ts.length:Nat):Int)):orb (cOn ts o cs) (2*x)=dbl (orb (onI ts o) x):=by
 have I:=Zde (Zfw hW hO) h0 h1;have J:IsOrb (cOn ts o cs) (2*x) (per (onI ts o) x):=⟨I.pos,by rw[Zdv hz,I.back],λi j hi hj e=>I.nd i j hi hj (by rw[Zdv hz,Zdv hz]at e;omega)⟩;rw[J.orb,I.orb];unfold walkL dbl;rw[Wa6];exact Wcl λk _=>Zdv hz x k
theorem Zzf (hz:∀c∈cs,c=0) (x:Int):bkI cs (2*x) % 2=1:=by
 unfold bkI;rw[Zjs hz];omega
theorem Zta (hW:WebOk n ts) (hO:OrdOk n ts o) (hz:∀c∈cs,c=0) {k:Nat}(hk:k<=2*ts.length) (x:Int):CrM (cOn ts o cs) (bkI cs) k (2*x)↔MetTo (onI ts o) k x:=by
 constructor
 ·rintro⟨e,he,h⟩
  rw[Zh7 hW hO hz (by omega) (by omega)]at h;rcases h with h|⟨y,hy,h⟩
  ·obtain⟨z,hz',e'⟩:=Wa1.mp h
   exact⟨e,he,by rw[show x=z by omega];exact hz'⟩
  ·obtain⟨z,_,rfl⟩:=Wa1.mp hy
   have:=Zzf hz z;rw[h]at this;omega
 ·rintro⟨e,he,h⟩
  exact⟨e,he,.inl (by rw[Zh7 hW hO hz (by omega) (by omega)];exact Wa1.mpr ⟨x,h,rfl⟩)⟩
theorem Zs5 (hW:WebOk n ts) (hO:OrdOk n ts o) (hz:∀c∈cs,c=0) {k:Nat}(hk:k<2*ts.length):frB (cOn ts o cs) (bkI cs) k=leastB (onI ts o) k:=by
 have h1:=Zta hW hO hz (Wcj hk) (k:Int);have h2:=Zd6 (Zfw hW hO) hk;cases c:leastB (onI ts o) k with
 |true=>
  refine Zfh.mpr λz=>?_;have:=h2.mp<|h1.mp z;rw[c]at this;exact Bool.noConfusion this
 |false=>
  rw[Wb0];exact λz=>Zfh.mp z<|h1.mpr<|h2.mpr c
theorem Zkn (hW:WebOk n ts) (hO:OrdOk n ts o) (hz:∀c∈cs,c=0):∀k,k<=2*ts.length->crTo (cOn ts o cs) (bkI cs) k=(facesTo (onI ts o) k).map dbl
 |0,_=>rfl
 |k+1,hk=>by
  rw[Ze1,Zdz,Was,Zkn hW hO hz k (by omega),Zs5 hW hO hz (by omega),Zh7 hW hO hz (by omega) (by omega)];congr 1;split <;> rfl
theorem Zpy (hW:WebOk n ts) (hO:OrdOk n ts o) (hz:∀c∈cs,c=0):allC ts o cs=(allF ts o).map dbl:=by
 unfold allC allF;rw[Zkn hW hO hz _ (Wag _),Was,Wei];rfl
end
noncomputable def lackI (n:Int) (ts:List (Int × Int)) (o:List (List Int)) (cs:List Int) (ms:List Int):Int:=2*(ms.length:Int)-n+(ts.length:Int)-((allC ts o cs).length:Int)
def fLk:DSp:=λds Post=>∃n ts o cs,ds=[encWeb n ts,encOrd o,encRow cs]/\WebOk n ts/\OrdOk n ts o/\CrOk ts cs/\∀ms,Firsts ms (marksL n.toNat ts)->Post (.int<|lackI n ts o cs ms)
section
variable {P:Program}{w:World}{K:W.Frag}{mg:Str->Option Value}{base:Heap}{f:Addr}{fd:FuncData}
theorem Zu0 (mb:Mb mg) (C49:Callee P w K mg base 2 "lacking" ["web","faces_many"] (spD K fLack)) (C38:Callee P w K mg base 5 "crossed_faces" ["web","order","crossings"] (spN K fCrF)) (F:Fun K "lack" "lack" Ybc f fd):FnOk P w K mg base CX0 6 f fd ["web","order","crossings"] (spD K fLk):=by
 refine F.ok Ybt (Zba λds Post h=>by obtain⟨_,_,_,_,rfl,_⟩:=h;rfl) λcdv A outer s H vs Q E hr h=>?_;refine⟨_,(Zah<|Za1<|Za4 C49 (hr.mono<|by decide)<|Zaa (pv 0)<|Zaa (Zas (lenK K) rfl (mb "len"<|by decide) Zcn<|Zaa (Za4 C38 (hr.mono<|by decide)<|Zaa (pv 0)<|Zaa (pv 1)<|Zaa (pv 2) Zae) Zae) Zae),Zct (λds Post hf=>?_) h⟩;obtain⟨n,ts,o,cs,rfl,hW,hO,hC,q⟩:=hf;refine⟨by simp,?_⟩;dsimp only[startD,Wbp,Wbl,Wbb,Wak];refine Za9<|Zay<|Yz1 rfl<|Zac<|Zbs<|Zac<|Zdm<|Zg3<|Yz1 rfl<|Yz1 rfl<|Yz1 rfl<|Zaf ⟨n,ts,o,cs,rfl,hW,hO,hC,_,rfl,?_⟩;refine Zaf<|Zcr (Or.inl rfl)<|Zaf ⟨n,ts,_,rfl,hW,λms hm=>?_⟩;rw[Wab];exact q ms hm
end
def tovO (o:List (List Int)) (p:Nat):List (List Int):=o.set p<|turnRow<|o.getD p []
def tovC (ts:List (Int × Int)) (cs:List Int) (p:Int):List Int:=(ts.zip cs).map λz=>if (decide (z.1.1=p) != decide (z.1.2=p))=true then 1-z.2 else z.2
def atB (p q:Int):Int:=if q=p then 1 else 0
theorem Zlc (p q:Int):atB p q=0\/atB p q=1:=by unfold atB;split <;> simp
def phi (ts:List (Int × Int)) (p:Int) (x:Int):Int:=2*(x / 2)+(x % 2+atB p (placeAt ts (x / 2).toNat)) % 2
section
variable {n:Int}{ts:List (Int × Int)}{o:List (List Int)}{cs:List Int}{p:Nat}
theorem Zq8 (hO:OrdOk n ts o):OrdOk n ts (tovO o p):=by
 refine⟨by unfold tovO;rw[Wcy];exact hO.len,λq r hr=>?_⟩;unfold tovO at hr;by_cases hq:p=q
 ·subst hq
  by_cases hl:p<o.length
  ·rw[Wat hl]at hr
   cases hr;have:o[p]?=some (o.getD p []):=by rw[Wac,Waa hl];rfl
   exact(hO.row p _ this).turn
  ·rw[Wbt (by rw[Wcy];omega)]at hr;cases hr
 ·rw[Wa0 hq]at hr
  exact hO.row q r hr
theorem Zkw (hC:CrOk ts cs) {k:Nat}(hk:k<ts.length):(tovC ts cs (p:Int)).getD k 0=(cs.getD k 0+atB p ts[k].1+atB p ts[k].2) % 2:=by
 have hk2:k<cs.length:=by rw[hC.len];exact hk
 have e:(tovC ts cs (p:Int))[k]?=some (if (decide (ts[k].1=(p:Int)) != decide (ts[k].2=(p:Int)))=true then 1-cs[k] else cs[k]):=by
  unfold tovC;rw[Wae,Wcb.mpr (show ts[k]?=some (ts[k],cs[k]).1/\cs[k]?=some (ts[k],cs[k]).2 from ⟨Waa hk,Waa hk2⟩)];rfl
 rw[Wac,e,Wac,Waa hk2];show (if _ then _ else _)=(cs[k]+_+_) % 2;have hb:=hC.bit _<|Wa8 hk2;unfold atB;by_cases h1:ts[k].1=(p:Int) <;> by_cases h2:ts[k].2=(p:Int) <;> simp only[h1,h2,decide_true,decide_false,if_true,if_false,bne_self_eq_false,Wav] <;> rcases hb with hb|hb <;> rw[hb] <;> decide
theorem Zp1 (hC:CrOk ts cs):CrOk ts (tovC ts cs (p:Int)):=by
 have hl:(tovC ts cs (p:Int)).length=ts.length:=by unfold tovC;rw[Wab,List.length_zip,hC.len,Nat.min_self]
 refine⟨hl,λc hc=>?_⟩;obtain⟨k,hk,e⟩:=Wdc hc;have:=Zkw (p:=p) hC (k:=k) (by omega);rw[Wac,Waa hk]at this;have this:(tovC ts cs (p:Int))[k]=_:=this;rw[e]at this;omega
theorem Zns {e:Nat}(he:e<2*ts.length):atB p ts[e / 2].1+atB p ts[e / 2].2=atB p (placeAt ts e)+atB p (placeAt ts<|partner e):=by
 have h1:ts[e / 2]?=some ts[e / 2]:=Waa (by omega);have a1:placeAt ts e=if e % 2=0 then ts[e / 2].1 else ts[e / 2].2:=by unfold placeAt;rw[h1]
 have a2:placeAt ts (partner e)=if e % 2=0 then ts[e / 2].2 else ts[e / 2].1:=by
  unfold placeAt;rw[Zbm,h1];show (if _ then _ else _)=_;unfold partner;by_cases z:e % 2=0
  ·rw[if_pos z,if_pos z,if_neg (by omega)]
  ·rw[if_neg z,if_neg z,if_pos (by omega)]
 rw[a1,a2];split <;> omega
theorem Zu9 (hW:WebOk n ts) (hO:OrdOk n ts o) {e:Nat}(he:e<2*ts.length):rowAt ts (tovO o p) e=if placeAt ts e=(p:Int) then turnRow (rowAt ts o e) else rowAt ts o e:=by
 obtain⟨g1,_,_⟩:=Zbo hW hO he;have hp0:0<=placeAt ts e:=(Zb9 hW he).1;have hl:=(Waf.mp g1).1;unfold rowAt tovO;by_cases z:placeAt ts e=(p:Int)
 ·rw[if_pos z,Wac,z,Wam,Wat (by rw[z,Wam]at hl;exact hl)]
  rfl
 ·rw[if_neg z,Wac,Wa0 (by omega),<- Wac]
theorem Zvt (hW:WebOk n ts) (hO:OrdOk n ts o) {e:Nat}(he:e<2*ts.length):folOf ts (tovO o p) e=(if placeAt ts e=(p:Int) then preOf ts o e else folOf ts o e)/\preOf ts (tovO o p) e=(if placeAt ts e=(p:Int) then folOf ts o e else preOf ts o e):=by
 obtain⟨_,g2,g3⟩:=Zbo hW hO he;unfold folOf preOf;rw[Zu9 hW hO he];by_cases z:placeAt ts e=(p:Int)
 ·rw[if_pos z,if_pos z,if_pos z]
  exact Zkq g2.nodup g3
 ·rw[if_neg z,if_neg z,if_neg z]
  exact⟨rfl,rfl⟩
theorem Zjr (hW:WebOk n ts) (hO:OrdOk n ts o) {x:Nat}(hx:x<2*ts.length):∃k:Nat,k<2*ts.length/\preOf ts o x=(k:Int)/\placeAt ts k=placeAt ts x:=by
 obtain⟨k,hk,k1,k2⟩:=Zp0 hW hO hx;refine⟨k,hk,k1,?_⟩;obtain⟨g,hg,g1,g2⟩:=Zc2 hW hO hk;rw[k2]at g2;have:g=x:=by omega
 subst this;exact g1.symm
theorem Zfa (e:Nat) {h:Int}(hh:h=0\/h=1):phi ts p (2*(e:Int)+h)=2*(e:Int)+(h+atB p (placeAt ts e)) % 2:=by
 unfold phi;rw[show (2*(e:Int)+h) / 2=(e:Int) by omega,show (2*(e:Int)+h) % 2=h by omega,Wam]
theorem Zy0 {m:Nat}{x:Int}(h0:0<=x) (h1:x<((4*m:Nat):Int)):0<=phi ts p x/\phi ts p x<((4*m:Nat):Int):=by
 unfold phi;omega
theorem Ziy {m:Nat}{x:Int}(h0:0<=x) (h1:x<((4*m:Nat):Int)):phi ts p (phi ts p x)=x:=by
 obtain⟨e,h,_,hh,rfl⟩:=Zcm h0 h1;rw[Zfa e hh,Zfa e (by omega)];have:=Zlc p<|placeAt ts e;omega
theorem Zma (hW:WebOk n ts) (hO:OrdOk n ts o) (hC:CrOk ts cs) {x:Int}(h0:0<=x) (h1:x<((4*ts.length:Nat):Int)):cOn ts (tovO o p) (tovC ts cs p) (phi ts p x)=phi ts p (cOn ts o cs x):=by
 obtain⟨e,h,he,hh,rfl⟩:=Zcm h0 h1;have hp:=Zaw he;have b1:=Zlc p<|placeAt ts e;have b2:=Zlc p<|placeAt ts<|partner e;rw[Zfa e hh,Zdp _ _ _ e (by omega),Zdp _ _ _ e hh,Zkw hC (show e / 2<ts.length by omega)];have tp:=Zns (p:=p) he;have hc:=cbit hC he;obtain⟨f1,f2⟩:=Zvt (p:=p) hW hO hp;rw[f1,f2];obtain⟨g,hg,g1,g2⟩:=Zc2 hW hO hp;obtain⟨k,hk,k1,k2⟩:=Zjr hW hO hp;rw[<- g2,k1];have p1:=Zfa (ts:=ts) (p:=p) g (h:=0) (.inl rfl);have p2:=Zfa (ts:=ts) (p:=p) k (h:=1) (.inr rfl);rw[Wea]at p1;rw[g1]at p1;rw[k2]at p2;have ee:((h+atB p (placeAt ts e)) % 2+(cs.getD (e / 2) 0+atB p ts[e / 2].1+atB p ts[e / 2].2) % 2) % 2=(h+cs.getD (e / 2) 0+atB p (placeAt ts<|partner e)) % 2:=by omega
 rw[ee];by_cases z:placeAt ts (partner e)=(p:Int)
 ·have za:atB p (placeAt ts<|partner e)=1:=by unfold atB;rw[if_pos z]
  rw[za]at p1 p2 ⊢;rw[if_pos z,if_pos z];by_cases y:(h+cs.getD (e / 2) 0) % 2=0
  ·rw[if_pos y,if_neg (by omega),p1];omega
  ·rw[if_neg y,if_pos (by omega),p2];omega
 ·have za:atB p (placeAt ts<|partner e)=0:=by unfold atB;rw[if_neg z]
  rw[za]at p1 p2 ⊢;rw[if_neg z,if_neg z];by_cases y:(h+cs.getD (e / 2) 0) % 2=0
  ·rw[if_pos y,if_pos (by omega),p1];omega
  ·rw[if_neg y,if_neg (by omega),p2];omega
theorem Zro:lone (tovO o p)=lone o:=by
 unfold lone tovO;by_cases hl:p<o.length
 ·have e0:o.getD p []=o[p]:=by rw[Wac,Waa hl];rfl
  rw[e0];have e1:o=o.take p++o[p]::o.drop (p+1):=by simp
  have e2:o.set p (turnRow o[p])=o.take p++turnRow o[p]::o.drop (p+1):=List.set_eq_take_append_cons_drop.trans<|if_pos hl;have e3:(turnRow o[p]).isEmpty=o[p].isEmpty:=by
   have:=Zmv o[p];cases h1:o[p] with
   |nil=>rfl
   |cons a b=>
    cases h2:turnRow (a::b) with
    |nil=>rw[h1,h2]at this;cases this
    |cons c d=>rfl
  rw[e2]
  conv=>rhs;rw[e1]
  rw[Wbg,Wbg,Wai,Wai,Wa9,Wa9,e3];split <;> rfl
 ·rw[Wcw (by omega)]
end
section
variable {f b:Int->Int}{m:Nat}(S:StB f b m)
include S
open Classical in
theorem Zqt {k:Nat}(hk:2*k<=m):((Wah m).filter λe=>leastB f e && decide (CrM f b k (e:Int))).length=2*(crTo f b k).length:=by
 induction k with
 |zero=>
  have:((Wah m).filter λe=>leastB f e && decide (CrM f b 0 (e:Int)))=[]:=Wd6.mpr λe _=>by
   rw[decide_eq_false (λ⟨_,h,_⟩=>absurd h<|Wcf _),Wcv];exact Wal
  rw[this];rfl
 |succ k ih=>
  have ih:=ih (by omega);rw[Ze1,Wai];by_cases hf:frB f b k=true
  ·rw[if_pos hf,Wbq]
   have e0:(0:Int)<=2*(k:Int):=by omega
   have e1:2*(k:Int)<(m:Int):=by omega
   have nk:=Zfh.mp hf;obtain⟨bb,b0,b1⟩:=S.bb _ e0 e1;have inb:∀y,y∈orb f (b (2*(k:Int))) ↔ ∃z∈orb f (2*(k:Int)),b z=y:=λy=>by
    constructor
    ·intro hy
     obtain⟨i,hi,rfl⟩:=Zar.mp hy;clear hy hi
     induction i with
     |zero=>exact⟨_,Zbv S.one e0 e1,rfl⟩
     |succ i ihi=>
      obtain⟨z,hz,ez⟩:=ihi;obtain⟨w,hw,ew⟩:=Zrm S e0 e1 hz;obtain⟨w0,w1⟩:=Zcv S.one e0 e1 hw;refine⟨w,hw,?_⟩;show b w=f (iter f (b (2*(k:Int))) i);rw[<- ez,<- ew,S.fb w w0 w1]
    ·rintro⟨z,hz,rfl⟩
     have back:∀i,b (iter f (2*(k:Int)) i)∈orb f (b (2*(k:Int))):=λi=>by
      induction i with
      |zero=>exact Zbv S.one b0 b1
      |succ i ihi=>
       have r:=Za7 S.one e0 e1 i;have r2:=Za7 S.one e0 e1<|i+1;obtain⟨_,c0,c1⟩:=S.bb _ r2.1 r2.2;have q:=S.fb _ r.1 r.2;have m1:b (iter f (2*(k:Int)) i)∈orb f (b<|iter f (2*(k:Int))<|i+1):=by
        rw[<- q];exact Za6 S.one c0 c1 1
       exact Zbj S.one b0 b1 ihi<|Zbl S.one c0 c1 m1
     obtain⟨i,_,rfl⟩:=Zar.mp hz;exact back i
   have dis:∀y,y∈orb f (2*(k:Int))->¬ y∈orb f (b (2*(k:Int))):=λy h1 h2=>by
    have:=Zbj S.one e0 e1 h1<|Zbl S.one b0 b1 h2;obtain⟨i,_,e⟩:=Zar.mp this;exact S.out _ e0 e1 i e
   have c1:=Zd0 S.one e0 e1 (λe:Nat=>decide ((e:Int)∈orb f (2*(k:Int)))) λe _=>decide_eq_true_iff;have c2:=Zd0 S.one b0 b1 (λe:Nat=>decide ((e:Int)∈orb f (b (2*(k:Int))))) λe _=>decide_eq_true_iff;have split:∀l:List Nat,(l.filter λe=>leastB f e && decide (CrM f b (k+1) (e:Int))).length=(l.filter λe=>leastB f e && decide (CrM f b k (e:Int))).length+(l.filter λe=>leastB f e && decide ((e:Int)∈orb f (2*(k:Int)))).length+(l.filter λe=>leastB f e && decide ((e:Int)∈orb f (b (2*(k:Int))))).length:=λl=>by
    induction l with
    |nil=>rfl
    |cons e l ihl=>
     rw[Wa9,Wa9,Wa9,Wa9];cases hl:leastB f e with
     |false=>simp only[Wci,Wav,if_false];exact ihl
     |true=>
      simp only[Wdr,decide_eq_true_eq];have ms:=Zf4 S (k:=k) (by omega) (x:=(e:Int));by_cases a1:CrM f b k (e:Int)
      ·have n1:¬ (e:Int)∈orb f (2*(k:Int)):=λz=>nk (Zja S (by omega) e0 e1 z a1)
       have n2:¬ (e:Int)∈orb f (b (2*(k:Int))):=λz=>by
        obtain⟨y,hy,ey⟩:=(inb _).mp z;have r:=Zcv S.one e0 e1 hy;have:=(Zf9 S (by omega) a1).2.2.2;rw[<- ey,(S.bb _ r.1 r.2).1]at this;exact nk (Zja S (by omega) e0 e1 hy this)
       rw[if_pos (ms.mpr (.inl a1)),if_pos a1,if_neg n1,if_neg n2,Waj,Waj];omega
      ·by_cases a2:(e:Int)∈orb f (2*(k:Int))
       ·rw[if_pos (ms.mpr (.inr ⟨hf,.inl a2⟩)),if_neg a1,if_pos a2,if_neg (dis _ a2),Waj,Waj]
        omega
       ·by_cases a3:(e:Int)∈orb f (b (2*(k:Int)))
        ·rw[if_pos (ms.mpr (.inr ⟨hf,.inr ((inb _).mp a3)⟩)),if_neg a1,if_neg a2,if_pos a3,Waj,Waj]
         omega
        ·have n0:¬ CrM f b (k+1) (e:Int):=λz=>by
          rcases ms.mp z with z|⟨_,z|z⟩
          ·exact a1 z
          ·exact a2 z
          ·exact a3 ((inb _).mpr z)
         rw[if_neg n0,if_neg a1,if_neg a2,if_neg a3];exact ihl
   rw[split,ih,c1,c2];omega
  ·rw[if_neg hf]
   have same:((Wah m).filter λe=>leastB f e && decide (CrM f b (k+1) (e:Int)))=((Wah m).filter λe=>leastB f e && decide (CrM f b k (e:Int))):=by
    congr 1
    funext e
    congr 1;refine decide_eq_decide.mpr ?_;rw[Zf4 S (by omega)];exact⟨λz=>z.elim id λz=>absurd z.1 hf,.inl⟩
   rw[same,ih];rfl
theorem Zxf {k:Nat}(hk:m=2*k) (hand:∀x,0<=x->x<(m:Int)->x % 2=0\/f x % 2=0\/b x % 2=0):cnt f m (λ_=>true)=2*(crTo f b k).length:=by
 classical
 rw[<- Zqt S (by omega)];unfold cnt;congr 1;refine Wbv λe he=>?_;have he:=Waq.mp he;congr 1;symm;refine decide_eq_true ?_;have ev:∀x,0<=x->x<(m:Int)->x % 2=0->CrM f b k x:=λx h0 h1 z=>⟨(x / 2).toNat,by omega,.inl (by
  rw[show 2*(((x / 2).toNat:Nat):Int)=x by omega];exact Zbv S.one h0 h1)⟩
 have h0:(0:Int)<=(e:Int):=by omega
 have h1:(e:Int)<(m:Int):=by omega
 rcases hand _ h0 h1 with z|z|z
 ·exact ev _ h0 h1 z
 ·have r:=S.one.to _ h0 h1
  exact Zja S (by omega) h0 h1 (Za6 S.one h0 h1 1)<|ev _ r.1 r.2 z
 ·obtain⟨bb,b0,b1⟩:=S.bb _ h0 h1
  have:=(Zf9 S (by omega)<|ev _ b0 b1 z).2.2.2;rw[bb]at this;exact this
end
section
variable {n:Int}{ts:List (Int × Int)}{o:List (List Int)}{cs:List Int}{p:Nat}
theorem Zqg (hW:WebOk n ts) (hO:OrdOk n ts o) (hC:CrOk ts cs):cnt (cOn ts o cs) (4*ts.length) (λ_=>true)=2*(crTo (cOn ts o cs) (bkI cs) (2*ts.length)).length:=by
 refine Zxf (Zqi hW hO hC) (by omega) λx h0 h1=>?_;obtain⟨e,h,he,hh,rfl⟩:=Zcm h0 h1;rw[Zdp ts o cs e hh,Zem cs e hh];split <;> omega
theorem Zte (hW:WebOk n ts) (hO:OrdOk n ts o) (hC:CrOk ts cs):(allC ts (tovO o p)<|tovC ts cs p).length=(allC ts o cs).length:=by
 have F:=Zgz hW hO hC;have hO2:=Zq8 (p:=p) hO;have hC2:=Zp1 (p:=p) hC;have G:=Zgz hW hO2 hC2;have rg:∀x,0<=x->x<((4*ts.length:Nat):Int)->0<=phi ts p x/\phi ts p x<((4*ts.length:Nat):Int):=λx h0 h1=>Zy0 h0 h1;have inj:∀x y,0<=x->x<((4*ts.length:Nat):Int)->0<=y->y<((4*ts.length:Nat):Int)->phi ts p x=phi ts p y->x=y:=λx y a b c d e=>by
  rw[<- Ziy (ts:=ts) (p:=p) a b,e,Ziy c d]
 have k1:=Zg1 F G rg inj λx h0 h1=>(Zma hW hO hC h0 h1).symm;have k2:=Zg1 G F rg inj λx h0 h1=>by
  obtain⟨r0,r1⟩:=rg x h0 h1;have:=Zma (p:=p) hW hO hC r0 r1;rw[Ziy h0 h1]at this;rw[this];obtain⟨s0,s1⟩:=F.to _ r0 r1;exact Ziy s0 s1
 rw[Zqg hW hO hC,Zqg hW hO2 hC2]at k1 k2;unfold allC;rw[Wai,Wai,Wax,Wax,Zro];omega
end
inductive Pth (N:Nat) (ts:List (Int × Int)):Int->List Int->Prop
 |nil {p:Int}(h0:0<=p) (h1:p<(N:Int)) (h:mk N ts p=p):Pth N ts p []
 |snoc {q p:Int}{r:List Int}{e:Nat}(h:Pth N ts q r) (he:e<2*ts.length) (h1:placeAt ts e=q) (h2:placeAt ts (partner e)=p):Pth N ts p (r++[(e:Int)])
def encP (z:Int × List Int):Key × D:=(.inl z.1,encRow z.2)
theorem Zml {l:List (Int × List Int)}{x:Int}{r:List Int}(h:x ∉ l.map (·.1)):putD (l.map encP) (.inl x) (encRow r)=(l++[(x,r)]).map encP:=by
 unfold putD;rw[if_neg,Was]
 ·rfl
 ·rw[List.any_map,List.any_eq_true]
  rintro⟨z,hz,e⟩;have e:(Sum.inl z.1:Key)=Sum.inl x:=of_decide_eq_true e;injection e with e
  exact h<|Wa1.mpr ⟨z,hz,e⟩
theorem valP (l:List (Int × List Int)) (x:Int):valD (l.map encP) (.inl x)=(l.find? λz=>decide (z.1=x)).map λz=>encRow z.2:=by
 unfold valD
 induction l with
 |nil=>rfl
 |cons z r ih=>
  rw[Wbe,Wcd,Wcd];by_cases h:z.1=x
  ·rw[decide_eq_true h,show decide ((encP z).1=Sum.inl x)=true from decide_eq_true (by show (Sum.inl z.1:Key)=_;rw[h])]
   rfl
  ·rw[decide_eq_false h,show decide ((encP z).1=Sum.inl x)=false from decide_eq_false (λq=>h<|Sum.inl.inj q)]
   exact ih
theorem Zed {l:List (Int × List Int)}{x:Int}{z:Int × List Int}(h:(l.find? λz=>decide (z.1=x))=some z):z∈l/\z.1=x:=⟨List.mem_of_find?_eq_some h,of_decide_eq_true<|List.find?_some (p:=λz:Int × List Int=>decide (z.1=x)) h⟩
theorem Zfc {l:List (Int × List Int)}{x:Int}:(l.find? λz=>decide (z.1=x))=none↔x ∉ l.map (·.1):=by
 rw[Wd0,Wa1];constructor
 ·rintro h ⟨z,hz,e⟩
  exact h z hz<|decide_eq_true e
 ·intro h z hz e
  exact h ⟨z,hz,of_decide_eq_true e⟩
def pstep (ts:List (Int × Int)) (d:List (Int × List Int)) (e:Nat):List (Int × List Int):=
 match d.find? λz=>decide (z.1=placeAt ts e) with
 |some z=>match d.find? λz=>decide (z.1=placeAt ts (partner e)) with
  |some _=>d
  |none=>d++[(placeAt ts (partner e),z.2++[(e:Int)])]
 |none=>d
def pround (ts:List (Int × Int)) (k:Nat) (d:List (Int × List Int)):List (Int × List Int):=(Wah k).foldl (pstep ts) d
theorem Zep (ts:List (Int × Int)) (k:Nat) (d:List (Int × List Int)):pround ts (k+1) d=pstep ts (pround ts k d) k:=by
 unfold pround;rw[Wc5,List.foldl_append];rfl
def pIt (ts:List (Int × Int)) (d:List (Int × List Int)):Nat->List (Int × List Int)
 |0=>d
 |k+1=>pround ts (2*ts.length) (pIt ts d k)
def pBeg (ms:List Int):List (Int × List Int):=ms.map λg=>(g,[])
def pathsD (N:Nat) (ts:List (Int × Int)) (ms:List Int):List (Int × List Int):=pIt ts (pBeg ms) N
structure PInv (N:Nat) (ts:List (Int × Int)) (d:List (Int × List Int)):Prop where
 nd:(d.map (·.1)).Nodup
 rg:∀z∈d,0<=z.1/\z.1<(N:Int)
 pt:∀z∈d,Pth N ts z.1 z.2
 rt:∀p:Int,0<=p->p<(N:Int)->mk N ts p=p->p∈d.map (·.1)
 ln:∀z∈d,z.2.length<d.length
theorem Zg8 (ts:List (Int × Int)) (d:List (Int × List Int)) (e:Nat):(pstep ts d e=d/\(placeAt ts e∈d.map (·.1)->placeAt ts (partner e)∈d.map (·.1)))\/∃z∈d,z.1=placeAt ts e/\placeAt ts (partner e) ∉ d.map (·.1)/\pstep ts d e=d++[(placeAt ts<|partner e,z.2++[(e:Int)])]:=by
 unfold pstep;cases h:d.find? λz=>decide (z.1=placeAt ts e) with
 |none=>exact .inl ⟨rfl,λz=>absurd z (Zfc.mp h)⟩
 |some z=>
  cases h2:d.find? λz=>decide (z.1=placeAt ts (partner e)) with
  |some y=>
   refine .inl ⟨rfl,λ_=>?_⟩;obtain⟨a,b⟩:=Zed h2;exact Wa1.mpr ⟨y,a,b⟩
  |none=>exact .inr ⟨z,(Zed h).1,(Zed h).2,Zfc.mp h2,rfl⟩
section
variable {N:Nat}{ts:List (Int × Int)}(hW:WebOk (N:Int) ts)
include hW
theorem Zy9 {p:Int}(p0:0<=p) (p1:p<(N:Int)):0<=mk N ts p/\mk N ts p<(N:Int)/\mk N ts (mk N ts p)=mk N ts p:=by
 have:=Zff hW ts.length (Wag _) (mk N ts p) (by rw[Wba];exact Zum p0 p1);rw[Wba]at this;exact this
theorem Zmo:∀k,k<=ts.length->∀p:Nat,p<N->(marksL N<|ts.take k).getD p 0<=(p:Int)
 |0,_,p,hp=>by
  rw[Wc4];exact Int.le_of_eq<|Zpm hp
 |k+1,hk,p,hp=>by
  have hlt:k<ts.length:=hk;have ih:=Zmo k (by omega) p hp;rw[Zbr (Waa hlt),Zb3 _ _ _ (by rw[Za5];exact hp)];split
  ·rename_i c
   have:loI ((marksL N<|ts.take k).getD ts[k].1.toNat 0) ((marksL N<|ts.take k).getD ts[k].2.toNat 0)<=hiI ((marksL N<|ts.take k).getD ts[k].1.toNat 0) ((marksL N<|ts.take k).getD ts[k].2.toNat 0):=by
    unfold loI hiI;split <;> split <;> omega
   omega
  ·exact ih
theorem Zzw {p:Int}(p0:0<=p) (p1:p<(N:Int)):mk N ts p<=p:=by
 have:=Zmo hW ts.length (Wag _) p.toNat (by omega);rw[Wba]at this;unfold mk;omega
theorem Zrg {g:Int}(hg:g∈marksL N ts):∃l,partI (marksL N ts) N g=g::l:=by
 have r:=Zff hW ts.length (Wag _) g (by rw[Wba];exact hg);rw[Wba]at r;have hm:g∈partI (marksL N ts) N g:=Zjy.mpr ⟨r.1,r.2.1,r.2.2⟩;have ha:=Zqu (marksL N ts) N g;cases h:partI (marksL N ts) N g with
 |nil=>rw[h]at hm;cases hm
 |cons x l=>
  refine⟨l,?_⟩;have hx:x∈partI (marksL N ts) N g:=by rw[h];exact Wa7
  obtain⟨x0,x1,x2⟩:=Zjy.mp hx;have hle:mk N ts x<=x:=Zzw hW x0 x1;have hle:g<=x:=by rw[<- x2];exact hle
  rw[h]at hm ha;rcases Wan.mp hm with e|e
  ·rw[<- e]
  ·have:=(Wdy.mp ha).1 g e
   omega
theorem Ze9 {ms:List Int}(hm:Firsts ms (marksL N ts)) {g:Int}:g∈ms↔0<=g/\g<(N:Int)/\mk N ts g=g:=by
 rw[hm.2];constructor
 ·intro hg
  have r:=Zff hW ts.length (Wag _) g (by rw[Wba];exact hg);rw[Wba]at r;exact r
 ·rintro⟨a,b,c⟩
  rw[<- c];exact Zum a b
theorem Zs9 {ms:List Int}(hm:Firsts ms (marksL N ts)):PInv N ts (pBeg ms):=by
 have ek:(pBeg ms).map (·.1)=ms:=by unfold pBeg;rw[Wa6];exact List.map_id _
 refine⟨by rw[ek];exact hm.1.imp λz=>Wd9 z,λz hz=>?_,λz hz=>?_,λp p0 p1 e=>by rw[ek];exact(Ze9 hW hm).mpr ⟨p0,p1,e⟩,λz hz=>?_⟩
 ·obtain⟨g,hg,rfl⟩:=Wa1.mp hz
  have:=(Ze9 hW hm).mp hg;exact⟨this.1,this.2.1⟩
 ·obtain⟨g,hg,rfl⟩:=Wa1.mp hz
  have:=(Ze9 hW hm).mp hg;exact .nil this.1 this.2.1 this.2.2
 ·have:=Wb9 hz
  obtain⟨g,hg,rfl⟩:=Wa1.mp hz;exact this
theorem Zko {d:List (Int × List Int)}(h:PInv N ts d) {e:Nat}(he:e<2*ts.length):PInv N ts (pstep ts d e)/\d.length<=(pstep ts d e).length/\∀x∈d.map (·.1),x∈(pstep ts d e).map (·.1):=by
 rcases Zg8 ts d e with ⟨q,_⟩|⟨z,hz,e1,e2,q⟩
 ·rw[q];exact⟨h,Wag _,λx hx=>hx⟩
 ·rw[q]
  have hp:=Zb9 hW<|Zaw he;refine⟨⟨?_,λy hy=>?_,λy hy=>?_,λp p0 p1 m=>?_,λy hy=>?_⟩,by rw[Wai];omega,λx hx=>by rw[Was];exact Wdb _ hx⟩
  ·rw[Was]
   refine Wcx.mpr ⟨h.nd,by simp,λa ha b hb=>?_⟩;have:b=placeAt ts (partner e):=by simpa using hb
   subst this;exact λw=>e2 (w ▸ ha)
  ·rcases Wbh.mp hy with w|w
   ·exact h.rg y w
   ·rw[Wa4]at w;subst w;exact hp
  ·rcases Wbh.mp hy with w|w
   ·exact h.pt y w
   ·rw[Wa4]at w;subst w
    exact .snoc (h.pt z hz) he e1.symm rfl
  ·rw[Was];exact Wdb _<|h.rt p p0 p1 m
  ·rw[Wai,Wbq]
   rcases Wbh.mp hy with w|w
   ·have:=h.ln y w;omega
   ·rw[Wa4]at w;subst w
    have:=h.ln z hz;show (z.2++[(e:Int)]).length<_;rw[Wai,Wbq];omega
theorem Zcj {d:List (Int × List Int)}(h:PInv N ts d):∀k,k<=2*ts.length->PInv N ts (pround ts k d)/\d.length<=(pround ts k d).length/\(∀x∈d.map (·.1),x∈(pround ts k d).map (·.1))
 |0,_=>⟨h,Wag _,λx hx=>hx⟩
 |k+1,hk=>by
  obtain⟨a,b,c⟩:=Zcj h k (by omega);rw[Zep];obtain⟨a',b',c'⟩:=Zko hW a (e:=k) (by omega);exact⟨a',Wbx b b',λx hx=>c' x<|c x hx⟩
theorem Zdx {d:List (Int × List Int)}(h:PInv N ts d):∀k,k<=2*ts.length->(pround ts k d).length=d.length->pround ts k d=d/\∀e,e<k->placeAt ts e∈d.map (·.1)->placeAt ts (partner e)∈d.map (·.1)
 |0,_,_=>⟨rfl,λe he=>absurd he (Wcf _)⟩
 |k+1,hk,hl=>by
  obtain⟨a,b,c⟩:=Zcj hW h k (by omega);rw[Zep]at hl ⊢;obtain⟨a',b',_⟩:=Zko hW a (e:=k) (by omega);obtain⟨e1,e2⟩:=Zdx h k (by omega) (by omega);rw[e1]at hl ⊢;rcases Zg8 ts d k with ⟨q,q2⟩|⟨z,_,_,_,q⟩
  ·refine⟨q,λe he=>?_⟩
   rcases Wb8 (Wck he) with z|z
   ·exact e2 e z
   ·subst z;exact q2
  ·rw[q,Wai,Wbq]at hl
   omega
theorem Zdl {d:List (Int × List Int)}(h:PInv N ts d):d.length<=N:=by
 have:=Zci (l:=(Wah N).map λi:Nat=>(i:Int)) h.nd λx hx=>by
  obtain⟨z,hz,rfl⟩:=Wa1.mp hx;have:=h.rg z hz;exact Wa1.mpr ⟨z.1.toNat,Waq.mpr (by omega),by omega⟩
 rw[Wab,Wab,Waz]at this;exact this
theorem Zt2 {d:List (Int × List Int)}(h:PInv N ts d) (hl:N<=d.length) {p:Int}(p0:0<=p) (p1:p<(N:Int)):p∈d.map (·.1):=by
 apply Classical.byContradiction;intro hn;have:=Zci (ms:=p::d.map (·.1)) (l:=(Wah N).map λi:Nat=>(i:Int)) (Wbu.mpr ⟨hn,h.nd⟩) λx hx=>by
  rcases Wan.mp hx with e|hx
  ·subst e;exact Wa1.mpr ⟨x.toNat,Waq.mpr (by omega),by omega⟩
  ·obtain⟨z,hz,rfl⟩:=Wa1.mp hx
   have:=h.rg z hz;exact Wa1.mpr ⟨z.1.toNat,Waq.mpr (by omega),by omega⟩
 rw[Waj,Wab,Wab,Waz]at this;omega
theorem Zpw {d:List (Int × List Int)}(h:PInv N ts d) (hl:d.length<N):d.length<(pround ts (2*ts.length) d).length:=by
 obtain⟨_,b,_⟩:=Zcj hW h (2*ts.length)<|Wag _;rcases Wb8 b with z|z
 ·exact z
 ·exfalso
  obtain⟨_,cl⟩:=Zdx hW h (2*ts.length) (Wag _) z.symm;have all:∀p:Int,0<=p->p<(N:Int)->p∈d.map (·.1):=λp p0 p1=>by
   obtain⟨m0,m1,m2⟩:=Zy9 hW p0 p1;have hr:=h.rt _ m0 m1 m2;have:=Zwe hW (g:=λx=>if x∈d.map (·.1) then 1 else 0) (λt ht=>by
    obtain⟨i,hi,rfl⟩:=Wdc ht;have a1:placeAt ts (2*i)=ts[i].1:=by unfold placeAt;rw[show 2*i / 2=i by omega,Waa hi];show (if _ then _ else _)=_;rw[if_pos (by omega)]
    have a2:placeAt ts (2*i+1)=ts[i].2:=by unfold placeAt;rw[show (2*i+1) / 2=i by omega,Waa hi];show (if _ then _ else _)=_;rw[if_neg (by omega)]
    have q1:=cl (2*i) (by omega);have q2:=cl (2*i+1) (by omega);rw[show partner (2*i)=2*i+1 by unfold partner;rw[if_pos (by omega)],a1,a2]at q1;rw[show partner (2*i+1)=2*i by unfold partner;rw[if_neg (by omega)];omega,a1,a2]at q2;by_cases c:ts[i].1∈d.map (·.1)
    ·show (if _ then _ else _)=(if _ then _ else _)
     rw[if_pos c,if_pos (q1 c)]
    ·show (if _ then _ else _)=(if _ then _ else _)
     rw[if_neg c,if_neg (λz=>c (q2 z))]) p0 p1
   have this:(if mk N ts p∈d.map (·.1) then (1:Int) else 0)=if p∈d.map (·.1) then 1 else 0:=this
   rw[if_pos hr]at this;apply Classical.byContradiction;intro hn;rw[if_neg hn]at this;omega
  have:=Zci (ms:=(Wah N).map λi:Nat=>(i:Int)) (l:=d.map (·.1)) (by
   rw[Wda,Wbz];exact Wbj.imp λ{a b} hab e=>by omega) λx hx=>by
   obtain⟨i,hi,rfl⟩:=Wa1.mp hx;rw[Waq]at hi;exact all _ (by omega) (by omega)
  rw[Wab,Wab,Waz]at this;omega
theorem Zgh {d:List (Int × List Int)}(h:PInv N ts d) (hl:N<=d.length):pround ts (2*ts.length) d=d:=by
 obtain⟨a,b,_⟩:=Zcj hW h (2*ts.length)<|Wag _;have:=Zdl hW a;exact(Zdx hW h (2*ts.length) (Wag _)<|by omega).1
section
variable {ms:List Int}(hm:Firsts ms (marksL N ts))
include hm
theorem Zfg:∀k,PInv N ts (pIt ts (pBeg ms) k)
 |0=>Zs9 hW hm
 |k+1=>(Zcj hW (Zfg k) _ (Wag _)).1
theorem Zlf:∀k,k<=(pIt ts (pBeg ms) k).length\/(pIt ts (pBeg ms) k).length=N
 |0=>.inl (Wbn _)
 |k+1=>by
  have I:=Zfg hW hm k;have hN:=Zdl hW I;rcases Nat.lt_or_ge (pIt ts (pBeg ms) k).length N with z|z
  ·have:=Zpw hW I z
   rcases Zlf k with y|y
   ·left
    show k+1<=(pround ts (2*ts.length)<|pIt ts (pBeg ms) k).length;omega
   ·omega
  ·right
   show (pround ts (2*ts.length)<|pIt ts (pBeg ms) k).length=N;rw[Zgh hW I z];omega
theorem Zmn {k:Nat}(hl:N<=(pIt ts (pBeg ms) k).length):∀j,pIt ts (pBeg ms) (k+j)=pIt ts (pBeg ms) k
 |0=>rfl
 |j+1=>by
  show pround ts (2*ts.length) (pIt ts (pBeg ms)<|k+j)=_;rw[Zmn hl j];exact Zgh hW (Zfg hW hm k) hl
theorem Zud {k:Nat}(hk:k<=N) (hl:N<=(pIt ts (pBeg ms) k).length):pathsD N ts ms=pIt ts (pBeg ms) k:=by
 unfold pathsD;rw[show N=k+(N-k) by omega];have:=Zmn hW hm hl<|N-k;rw[show k+(N-k)=N by omega]at this ⊢;exact this
theorem Zgu:PInv N ts (pathsD N ts ms)/\(pathsD N ts ms).length=N:=by
 have I:=Zfg hW hm N;have:=Zdl hW I;refine⟨I,?_⟩;rcases Zlf hW hm N with z|z
 ·unfold pathsD;omega
 ·exact z
end
end
def pathOf (d:List (Int × List Int)) (p:Int):List Int:=((d.find? λz=>decide (z.1=p)).map λz=>z.2).getD []
theorem Zfo {N:Nat}{ts:List (Int × Int)}{d:List (Int × List Int)}(hW:WebOk (N:Int) ts) (h:PInv N ts d) (hl:N<=d.length) {p:Int}(p0:0<=p) (p1:p<(N:Int)):valD (d.map encP) (.inl p)=some (encRow<|pathOf d p)/\Pth N ts p (pathOf d p):=by
 have hp:=Zt2 hW h hl p0 p1;rw[valP];unfold pathOf;cases e:d.find? λz=>decide (z.1=p) with
 |none=>exact absurd hp (Zfc.mp e)
 |some z=>
  obtain⟨a,b⟩:=Zed e;exact⟨rfl,b ▸ h.pt z a⟩
theorem Zia {N:Nat}{ts:List (Int × Int)}{d:List (Int × List Int)}(hW:WebOk (N:Int) ts) (h:PInv N ts d) {p:Int}:(pathOf d p).length<=N:=by
 have:=Zdl hW h;unfold pathOf;cases e:d.find? λz=>decide (z.1=p) with
 |none=>exact Wbn _
 |some z=>
  have:=h.ln z (Zed e).1;show z.2.length<=N;omega
theorem Pth.in {N:Nat}{ts:List (Int × Int)}{p:Int}{r:List Int}(h:Pth N ts p r):∀x∈r,∃e:Nat,e<2*ts.length/\x=(e:Int):=by
 induction h with
 |nil=>intro x hx;cases hx
 |snoc h he h1 h2 ih=>
  intro x hx;rcases Wbh.mp hx with z|z
  ·exact ih x z
  ·rw[Wa4]at z;exact⟨_,he,z⟩
def crsum (cs:List Int) (r:List Int):Int:=(r.map λe=>cs.getD (e.toNat / 2) 0).sum
theorem Znu (cs r:List Int) (e:Nat):crsum cs (r++[(e:Int)])=crsum cs r+cs.getD (e / 2) 0:=by
 unfold crsum;rw[Was,List.sum_append];simp
def fitB (x y c:Int):Bool:=decide ((!decide (x=y))=decide (c=1))
theorem Zl1 {x y c:Int}(hx:x=0\/x=1) (hy:y=0\/y=1) (hc:c=0\/c=1):fitB x y c=true↔(x+y+c) % 2=0:=by
 rcases hx with rfl|rfl <;> rcases hy with rfl|rfl <;> rcases hc with rfl|rfl <;> decide
def givI (cs:List Int) (d:List (Int × List Int)) (p:Int):Int:=crsum cs (pathOf d p) % 2
theorem Zil (cs:List Int) (d:List (Int × List Int)) (p:Int):givI cs d p=0\/givI cs d p=1:=by unfold givI;omega
def Two (ts:List (Int × Int)) (cs:List Int) (s:Int->Int):Prop:=∀(i:Nat) (t:Int × Int),ts[i]?=some t->(s t.1+s t.2+cs.getD i 0) % 2=0
def badB (ts:List (Int × Int)) (cs:List Int) (d:List (Int × List Int)) (i:Nat):Bool:=!fitB (givI cs d (ts.getD i (0,0)).1) (givI cs d (ts.getD i (0,0)).2) (cs.getD i 0)
def strip:List Int->List Int->List Int × List Int
 |x::p,y::q=>if x=y then strip p q else (x::p,y::q)
 |p,q=>(p,q)
def ringI (p:List Int) (e:Int) (q:List Int):List Int:=(strip p q).1++[e]++(strip p q).2.reverse.map λx=>((partner x.toNat:Nat):Int)
def sidesD (N:Nat) (ts:List (Int × Int)) (cs:List Int) (d:List (Int × List Int)):D:=
 match (Wah ts.length).find? (badB ts cs d) with
 |some i=>.tup [.str "one",encRow (ringI (pathOf d (ts.getD i (0,0)).1) (2*(i:Int)) (pathOf d (ts.getD i (0,0)).2))]
 |none=>.tup [.str "two",encRow ((Wah N).map λp:Nat=>givI cs d (p:Int))]
section
variable {N:Nat}{ts:List (Int × Int)}{cs:List Int}{d:List (Int × List Int)}
theorem Zxe {s:Int->Int}(h:Two ts cs s) {e:Nat}(he:e<2*ts.length):(s (placeAt ts e)+s (placeAt ts<|partner e)+cs.getD (e / 2) 0) % 2=0:=by
 have h1:ts[e / 2]?=some ts[e / 2]:=Waa (by omega);have a1:placeAt ts e=if e % 2=0 then ts[e / 2].1 else ts[e / 2].2:=by unfold placeAt;rw[h1]
 have a2:placeAt ts (partner e)=if e % 2=0 then ts[e / 2].2 else ts[e / 2].1:=by
  unfold placeAt;rw[Zbm,h1];show (if _ then _ else _)=_;unfold partner;by_cases z:e % 2=0
  ·rw[if_pos z,if_pos z,if_neg (by omega)]
  ·rw[if_neg z,if_neg z,if_pos (by omega)]
 have:=h _ _ h1;rw[a1,a2];split <;> omega
theorem Zhm (hW:WebOk (N:Int) ts) {e:Nat}(he:e<2*ts.length):mk N ts (placeAt ts<|partner e)=mk N ts (placeAt ts e):=Zjw hW he
theorem Zmx (hW:WebOk (N:Int) ts) {s:Int->Int}(h:Two ts cs s) {p:Int}{r:List Int}(hp:Pth N ts p r):(crsum cs r+s p+s (mk N ts p)) % 2=0:=by
 induction hp with
 |nil h0 h1 h=>rw[h];unfold crsum;simp;omega
 |snoc hq he h1 h2 ih=>
  have t:=Zxe h he;have m:=Zhm hW he;rw[h1,h2]at m;rw[h1,h2]at t;rw[Znu,m];omega
theorem Ztu (hW:WebOk (N:Int) ts) (hC:CrOk ts cs) (hd:PInv N ts d) (hl:N<=d.length):(Wah ts.length).find? (badB ts cs d)=none ↔ ∃s,Two ts cs s:=by
 rw[Wd0];have cb:∀i,i<ts.length->cs.getD i 0=0\/cs.getD i 0=1:=λi hi=>by
  obtain⟨c,_,h2,h3⟩:=hC.at hi;rw[h2];exact h3
 constructor
 ·intro h
  refine⟨givI cs d,λi t ht=>?_⟩;have hi:=(Waf.mp ht).1;have:=h i<|Waq.mpr hi;unfold badB at this;rw[Bool.not_eq_true,Bool.not_eq_false',Wac,ht]at this;exact(Zl1 (Zil ..) (Zil ..)<|cb i hi).mp this
 ·rintro⟨s,hs⟩ i hi
  have hi:=Waq.mp hi;have ht:ts[i]?=some ts[i]:=Waa hi;unfold badB;rw[Bool.not_eq_true,Bool.not_eq_false',Wac,ht];refine(Zl1 (Zil ..) (Zil ..)<|cb i hi).mpr ?_;have tb:=hW.tie _<|Wa8 hi;have p1:=Zmx hW hs (Zfo hW hd hl tb.1 tb.2.1).2;have p2:=Zmx hW hs (Zfo hW hd hl tb.2.2.1 tb.2.2.2).2;have m:=Zyg hW<|Wa8 hi;have:=hs i _ ht;show (givI cs d ts[i].1+givI cs d ts[i].2+_) % 2=0;unfold givI;rw[m]at p1;omega
open Classical in
noncomputable def wordS (ts:List (Int × Int)) (cs:List Int):Str:=if ∃s,Two ts cs s then "two" else "one"
theorem Zhp (hW:WebOk (N:Int) ts) (hC:CrOk ts cs) (hd:PInv N ts d) (hl:N<=d.length):∃r,sidesD N ts cs d=.tup [.str (wordS ts cs),r]:=by
 have b:=Ztu hW hC hd hl;unfold sidesD wordS;cases h:(Wah ts.length).find? (badB ts cs d) with
 |none=>rw[if_pos (b.mp h)];exact⟨_,rfl⟩
 |some i=>rw[if_neg (λz=>by rw[b.mpr z]at h;cases h)];exact⟨_,rfl⟩
theorem Zsf (p q:List Int):(∀x∈(strip p q).1,x∈p)/\(∀x∈(strip p q).2,x∈q)/\(strip p q).1.length<=p.length/\(strip p q).2.length<=q.length:=by
 induction p generalizing q with
 |nil=>cases q <;> exact⟨λx h=>h,λx h=>h,Wag _,Wag _⟩
 |cons x p ih=>
  cases q with
  |nil=>exact⟨λx h=>h,λx h=>h,Wag _,Wag _⟩
  |cons y q=>
   show _/\_;unfold strip;split
   ·obtain⟨a,b,c,e⟩:=ih q
    exact⟨λz hz=>Waw _<|a z hz,λz hz=>Waw _<|b z hz,Wdk c,Wdk e⟩
   ·exact⟨λx h=>h,λx h=>h,Wag _,Wag _⟩
end
structure SwapsG (m M:Nat) (pl:Int->Int) (f:Nat->Int->Int) (a b:Nat->Int) (us:List (Int × Int)):Prop where
 one:OneOne (f 0) m
 keep:∀x,0<=x->x<(m:Int)->pl (f 0 x)=pl x
 pin:∀x,0<=x->x<(m:Int)->0<=pl x/\pl x<(M:Int)
 step:∀j,j<us.length->∀x,0<=x->x<(m:Int)->f (j+1) x=swapF (f j) (a j) (b j) x
 ain:∀j,j<us.length->0<=a j/\a j<(m:Int)/\0<=b j/\b j<(m:Int)/\a j≠b j
 tie:∀j,j<us.length->us[j]?=some (pl<|a j,pl (b j))
section
variable {m M:Nat}{pl:Int->Int}{f:Nat->Int->Int}{a b:Nat->Int}{us:List (Int × Int)}(S:SwapsG m M pl f a b us)
include S
theorem Zhk:∀j,j<=us.length->OneOne (f j) m
 |0,_=>S.one
 |j+1,hj=>by
  obtain⟨a0,a1,b0,b1,_⟩:=S.ain j (by omega);have G:=Zcy (Zhk j (by omega)) a0 a1 b0 b1;exact⟨λx h0 h1=>by rw[S.step j (by omega) x h0 h1];exact G.to x h0 h1,λx y h0 h1 h2 h3 e=>by
   rw[S.step j (by omega) x h0 h1,S.step j (by omega) y h2 h3]at e;exact G.inj x y h0 h1 h2 h3 e⟩
theorem Zls:∀j,j<=us.length->∀x,0<=x->x<(m:Int)->(marksL M<|us.take j).getD (pl<|f j x).toNat 0=(marksL M<|us.take j).getD (pl x).toNat 0
 |0,_,x,h0,h1=>by rw[S.keep x h0 h1]
 |j+1,hj,x,h0,h1=>by
  have hlt:j<us.length:=by omega
  obtain⟨a0,a1,b0,b1,_⟩:=S.ain j hlt;have F:=Zhk S j (by omega);have ih:=Zls j (by omega);have ml:=Za5 M<|us.take j;have pa:=S.pin _ a0 a1;have pb:=S.pin _ b0 b1;rw[S.step j hlt x h0 h1,Zbr (S.tie j hlt)];have tr:∀y z:Int,0<=pl y->pl y<(M:Int)->0<=pl z->pl z<(M:Int)->(marksL M<|us.take j).getD (pl y).toNat 0=(marksL M<|us.take j).getD (pl z).toNat 0->(mergeL (marksL M<|us.take j) (pl<|a j)<|pl<|b j).getD (pl y).toNat 0=(mergeL (marksL M<|us.take j) (pl<|a j)<|pl<|b j).getD (pl z).toNat 0:=λy z y0 y1 z0 z1 e=>by
   rw[Zb3 _ _ _ (by omega),Zb3 _ _ _ (by omega),e]
  have ms:=Zho (marksL M<|us.take j) (t:=(pl<|a j,pl (b j))) (by show (pl<|a j).toNat<_;omega) (by show (pl<|b j).toNat<_;omega);have mab:(mergeL (marksL M<|us.take j) (pl<|a j)<|pl<|b j).getD (pl<|a j).toNat 0=(mergeL (marksL M<|us.take j) (pl<|a j)<|pl<|b j).getD (pl<|b j).toNat 0:=ms.1.trans ms.2.symm;have pf:∀y,0<=y->y<(m:Int)->0<=pl (f j y)/\pl (f j y)<(M:Int):=λy y0 y1=>S.pin _ (F.to y y0 y1).1 (F.to y y0 y1).2;by_cases ea:x=a j
  ·rw[ea,Zei]
   exact(tr _ _ (pf _ b0 b1).1 (pf _ b0 b1).2 pb.1 pb.2 (ih _ b0 b1)).trans mab.symm
  ·by_cases eb:x=b j
   ·rw[eb,Zey]
    exact(tr _ _ (pf _ a0 a1).1 (pf _ a0 a1).2 pa.1 pa.2 (ih _ a0 a1)).trans mab
   ·rw[Zc8 ea eb]
    exact tr _ _ (pf _ h0 h1).1 (pf _ h0 h1).2 (S.pin _ h0 h1).1 (S.pin _ h0 h1).2 (ih _ h0 h1)
theorem Zys {j:Nat}(hj:j<=us.length) {x y:Int}(h0:0<=x) (h1:x<(m:Int)) (hy:y∈orb (f j) x):(marksL M<|us.take j).getD (pl y).toNat 0=(marksL M<|us.take j).getD (pl x).toNat 0:=by
 have F:=Zhk S j hj;obtain⟨i,hi,rfl⟩:=Zar.mp hy;clear hy hi
 induction i with
 |zero=>rfl
 |succ i ih=>
  have r:=Za7 F h0 h1 i;exact(Zls S j hj _ r.1 r.2).trans ih
theorem Zl8 {c0:Nat}(hc:cnt (f 0) m (λ_=>true)<=c0):∀j,j<=us.length->∀ms,Firsts ms (marksL M<|us.take j)->cnt (f j) m (λ_=>true)+2*M<=2*ms.length+c0+j
 |0,_,ms,h=>by
  rw[Wc4]at h;have:Firsts ((Wah M).map λi:Nat=>(i:Int)) (marksL M []):=by
   refine⟨?_,λx=>Iff.rfl⟩;rw[Wbz];exact Wbj.imp λ{a b} hab=>by omega
  rw[h.uniq this,Wab,Waz];omega
 |j+1,hj,ms,h=>by
  have hlt:j<us.length:=by omega
  obtain⟨a0,a1,b0,b1,hab⟩:=S.ain j hlt;have F:=Zhk S j (by omega);have G:=Zhk S (j+1) hj;have pa:=S.pin _ a0 a1;have pb:=S.pin _ b0 b1;obtain⟨ns,hn⟩:=Zdd<|marksL M<|us.take j;have ih:=Zl8 hc j (by omega) ns hn;have eq:cnt (f<|j+1) m (λ_=>true)=cnt (swapF (f j) (a j)<|b j) m (λ_=>true):=Zd8 (Zcy F a0 a1 b0 b1) (λx h0 h1=>S.step j hlt x h0 h1) G _;rw[eq];rw[Zbr (S.tie j hlt)]at h;by_cases c:(marksL M<|us.take j).getD (pl<|a j).toNat 0=(marksL M<|us.take j).getD (pl<|b j).toNat 0
  ·have h:Firsts ms (mergeL (marksL M<|us.take j) (pl<|a j)<|pl<|b j):=h
   rw[Zi5 c]at h;rw[h.uniq hn];by_cases hin:b j∈orb (f j) (a j)
   ·have:=Zin F a0 a1 b0 b1 hab hin (λ_=>true) (λ_ _=>rfl)
    rw[if_pos rfl]at this;omega
   ·have:=Zif F a0 a1 b0 b1 hin (λ_=>true) (λ_ _=>rfl) (λ_ _=>rfl)
    rw[if_pos rfl]at this;omega
  ·have hout:b j ∉ orb (f j) (a j):=λz=>c (Zys S (by omega) a0 a1 z).symm
   have cl:=Zif F a0 a1 b0 b1 hout (λ_=>true) (λ_ _=>rfl) λ_ _=>rfl;rw[if_pos rfl]at cl;have Gs:=Zfl (N:=M) (t:=(pl<|a j,pl (b j))) (Za5 M<|us.take j) (by show (pl<|a j).toNat<M;omega) (by show (pl<|b j).toNat<M;omega) c;have:=Gs.count hn h;omega
end
def rotI (ts:List (Int × Int)) (o:List (List Int)) (x:Int):Int:=if x % 2=0 then 2*folOf ts o (x / 2).toNat else 2*preOf ts o (x / 2).toNat+1
def crI (cs:List Int) (x:Int):Int:=2*((partner (x / 2).toNat:Nat):Int)+gHand cs x
def plI (ts:List (Int × Int)) (x:Int):Int:=2*placeAt ts (x / 2).toNat+x % 2
def hfI (cs:List Int) (x:Int):Nat:=2*(x.toNat / 4)+(if x.toNat % 4 / 2=0 then x.toNat % 2 else (gHand cs x).toNat)
def dbI (ts:List (Int × Int)) (o:List (List Int)) (cs:List Int) (j:Nat) (x:Int):Int:=if hfI cs x<j then rotI ts o (crI cs x) else rotI ts o x
def aI (j:Nat):Int:=((4*(j / 2)+j % 2:Nat):Int)
def dbU (ts:List (Int × Int)) (cs:List Int):List (Int × Int):=(Wah (2*ts.length)).map λj=>(plI ts<|aI j,plI ts (crI cs<|aI j))
section
variable {N:Nat}{ts:List (Int × Int)}{o:List (List Int)}{cs:List Int}
theorem Zib (cs:List Int) (e:Nat) {h:Int}(hh:h=0\/h=1):crI cs (2*(e:Int)+h)=2*((partner e:Nat):Int)+(h+cs.getD (e / 2) 0) % 2:=by
 unfold crI;rw[Zjc cs e hh,show ((2*(e:Int)+h) / 2).toNat=e by omega]
theorem Zf5 (ts:List (Int × Int)) (o:List (List Int)) (e:Nat) {h:Int}(hh:h=0\/h=1):rotI ts o (2*(e:Int)+h)=if h=0 then 2*folOf ts o e else 2*preOf ts o e+1:=by
 unfold rotI;rw[show ((2*(e:Int)+h) / 2).toNat=e by omega,show (2*(e:Int)+h) % 2=h by omega]
theorem Zfk (ts:List (Int × Int)) (e:Nat) {h:Int}(hh:h=0\/h=1):plI ts (2*(e:Int)+h)=2*placeAt ts e+h:=by
 unfold plI;rw[show ((2*(e:Int)+h) / 2).toNat=e by omega,show (2*(e:Int)+h) % 2=h by omega]
theorem Zid (cs:List Int) (e:Nat) {h:Int}(hh:h=0\/h=1):hfI cs (2*(e:Int)+h)=2*(e / 2)+(if e % 2=0 then h.toNat else ((h+cs.getD (e / 2) 0) % 2).toNat):=by
 unfold hfI;rw[Zjc cs e hh];have e1:(2*(e:Int)+h).toNat=2*e+h.toNat:=by omega
 rw[e1,show (2*e+h.toNat) / 4=e / 2 by omega,show (2*e+h.toNat) % 4 / 2=e % 2 by omega,show (2*e+h.toNat) % 2=h.toNat by omega]
theorem Zlm (hC:CrOk ts cs) {x:Int}(h0:0<=x) (h1:x<((4*ts.length:Nat):Int)):0<=crI cs x/\crI cs x<((4*ts.length:Nat):Int)/\crI cs (crI cs x)=x/\hfI cs (crI cs x)=hfI cs x/\crI cs x≠x/\hfI cs x<2*ts.length:=by
 obtain⟨e,h,he,hh,rfl⟩:=Zcm h0 h1;have hc:=cbit hC he;have hp:=Zaw he;have pp:=Zan e;have ph:=Zbm e;rw[Zib cs e hh,Zib cs (partner e) (by omega),Zid cs e hh,Zid cs (partner e) (by omega),pp,ph];refine⟨by omega,by omega,by omega,?_,?_,?_⟩
 ·unfold partner
  by_cases z:e % 2=0
  ·rw[if_pos z,if_neg (by omega),if_pos z];omega
  ·rw[if_neg z,if_pos (by omega),if_neg z]
 ·have:partner e≠e:=by unfold partner;split <;> omega
  omega
 ·split <;> omega
theorem a_in {j:Nat}(hj:j<2*ts.length):0<=aI j/\aI j<((4*ts.length:Nat):Int)/\hfI cs (aI j)=j:=by
 unfold aI;refine⟨by omega,by omega,?_⟩;have:=Zid cs (2*(j / 2)) (h:=((j % 2:Nat):Int)) (by omega);rw[show 2*(((2*(j / 2):Nat)):Int)+((j % 2:Nat):Int)=((4*(j / 2)+j % 2:Nat):Int) by omega]at this;rw[this,if_pos (by omega)];omega
theorem Zzt (hC:CrOk ts cs) {x:Int}(h0:0<=x) (h1:x<((4*ts.length:Nat):Int)) {j:Nat}(hj:hfI cs x=j):x=aI j\/x=crI cs (aI j):=by
 have key:∀y:Int,0<=y->y<((4*ts.length:Nat):Int)->(y / 2) % 2=0->hfI cs y=j->y=aI j:=λy y0 y1 z hy=>by
  obtain⟨e,h,he,hh,rfl⟩:=Zcm y0 y1;rw[Zid cs e hh,if_pos (by omega)]at hy;unfold aI;omega
 obtain⟨c0,c1,c2,c3,_⟩:=Zlm hC h0 h1;by_cases z:(x / 2) % 2=0
 ·exact .inl<|key x h0 h1 z hj
 ·right
  have:=key (crI cs x) c0 c1 (by
   obtain⟨e,h,he,hh,rfl⟩:=Zcm h0 h1;rw[Zib cs e hh];have:partner e=e-1:=by unfold partner;rw[if_neg (by omega)]
   have hc:=cbit hC he;omega) (by rw[c3];exact hj)
  rw[<- this,c2]
theorem Zl7 (x:Int):rotI ts o (crI cs x)=cOn ts o cs x:=by
 have hb:=Zjz cs x;have:=Zf5 ts o (partner (x / 2).toNat) (h:=gHand cs x) hb;unfold crI cOn;rw[this]
theorem Zqc (hW:WebOk (N:Int) ts) (hO:OrdOk (N:Int) ts o) {x:Int}(h0:0<=x) (h1:x<((4*ts.length:Nat):Int)):plI ts (rotI ts o x)=plI ts x/\0<=rotI ts o x/\rotI ts o x<((4*ts.length:Nat):Int):=by
 obtain⟨e,h,he,hh,rfl⟩:=Zcm h0 h1;rw[Zf5 ts o e hh,Zfk ts e hh];obtain⟨g,hg,g1,g2⟩:=Zc2 hW hO he;obtain⟨k,hk,k1,k2⟩:=Zjr hW hO he;rcases hh with rfl|rfl
 ·rw[if_pos rfl,<- g2]
  have:=Zfk ts g (h:=0) (.inl rfl);rw[Wea]at this;rw[this,g1];omega
 ·rw[if_neg (by decide),k1,Zfk ts k (.inr rfl),k2]
  omega
theorem Zk8 (hW:WebOk (N:Int) ts) (hO:OrdOk (N:Int) ts o) (hC:CrOk ts cs):OneOne (rotI ts o) (4*ts.length):=by
 have O:=Zgz hW hO hC;refine⟨λx h0 h1=>(Zqc hW hO h0 h1).2,λx y h0 h1 h2 h3 e=>?_⟩;obtain⟨a0,a1,a2,_⟩:=Zlm hC h0 h1;obtain⟨b0,b1,b2,_⟩:=Zlm hC h2 h3;have r1:=Zl7 (ts:=ts) (o:=o) (cs:=cs)<|crI cs x;have r2:=Zl7 (ts:=ts) (o:=o) (cs:=cs)<|crI cs y;rw[a2]at r1;rw[b2]at r2;rw[r1,r2]at e;have:=O.inj _ _ a0 a1 b0 b1 e;rw[<- a2,this,b2]
theorem Zl3 (hW:WebOk (N:Int) ts) (hO:OrdOk (N:Int) ts o) (hC:CrOk ts cs):SwapsG (4*ts.length) (2*N) (plI ts) (dbI ts o cs) aI (λj=>crI cs<|aI j) (dbU ts cs):=by
 have ul:(dbU ts cs).length=2*ts.length:=by unfold dbU;rw[Wab,Waz]
 have d0:∀x,dbI ts o cs 0 x=rotI ts o x:=λx=>by unfold dbI;rw[if_neg (Wcf _)]
 refine⟨?_,λx h0 h1=>?_,λx h0 h1=>?_,λj hj x h0 h1=>?_,λj hj=>?_,λj hj=>?_⟩
 ·have R:=Zk8 hW hO hC
  exact⟨λx h0 h1=>by rw[d0];exact R.to x h0 h1,λx y a b c d e=>R.inj x y a b c d (by rw[d0,d0]at e;exact e)⟩
 ·rw[d0];exact(Zqc hW hO h0 h1).1
 ·obtain⟨e,h,he,hh,rfl⟩:=Zcm h0 h1
  rw[Zfk ts e hh];have:=Zb9 hW he;omega
 ·rw[ul]at hj
  obtain⟨a0,a1,a2⟩:=a_in (cs:=cs) hj;obtain⟨c0,c1,c2,c3,c4,_⟩:=Zlm hC a0 a1;by_cases ea:x=aI j
  ·rw[ea,Zei]
   unfold dbI;rw[a2,if_pos (Wc3 _),c3,a2,if_neg (Wch _)]
  ·by_cases eb:x=crI cs (aI j)
   ·rw[eb,Zey]
    unfold dbI;rw[c3,a2,if_pos (Wc3 _),if_neg (Wch _),c2]
   ·rw[Zc8 ea eb]
    have hne:hfI cs x≠j:=λz=>(Zzt hC h0 h1 z).elim ea eb;unfold dbI;by_cases z:hfI cs x<j
    ·rw[if_pos z,if_pos (by omega)]
    ·rw[if_neg z,if_neg (by omega)]
 ·rw[ul]at hj
  obtain⟨a0,a1,a2⟩:=a_in (cs:=cs) hj;obtain⟨c0,c1,_,_,c4,_⟩:=Zlm hC a0 a1;exact⟨a0,a1,c0,c1,Ne.symm c4⟩
 ·rw[ul]at hj
  unfold dbU;rw[Wae,Wb4 hj];rfl
theorem Zqp (hC:CrOk ts cs) {x:Int}(h0:0<=x) (h1:x<((4*ts.length:Nat):Int)):dbI ts o cs (2*ts.length) x=cOn ts o cs x:=by
 unfold dbI;rw[if_pos (Zlm hC h0 h1).2.2.2.2.2,Zl7]
def lmI (N:Nat) (ts:List (Int × Int)) (cs:List Int) (p:Int):Int:=(marksL (2*N)<|dbU ts cs).getD p.toNat 0
theorem Zsb (hW:WebOk (N:Int) ts) (hO:OrdOk (N:Int) ts o) (hC:CrOk ts cs) {ms ns:List Int}(hm:Firsts ms (marksL N ts)) (hn:Firsts ns (marksL (2*N)<|dbU ts cs)):ns.length<=2*ms.length:=by
 have S:=Zl3 hW hO hC;have ul:(dbU ts cs).length=2*ts.length:=by unfold dbU;rw[Wab,Waz]
 have lm:∀x,0<=x->x<((4*ts.length:Nat):Int)->lmI N ts cs (plI ts<|crI cs x)=lmI N ts cs (plI ts x):=λx h0 h1=>by
  have:=Zls S (2*ts.length) (by omega) x h0 h1;rw[<- ul,Wba,ul,Zqp hC h0 h1,<- Zl7]at this;obtain⟨c0,c1,_⟩:=Zlm hC h0 h1;rw[(Zqc hW hO c0 c1).1]at this;exact this
 have go:∀{p:Int}{r:List Int},Pth N ts p r->∀h:Int,(h=0\/h=1)->∃h':Int,(h'=0\/h'=1)/\lmI N ts cs (2*p+h)=lmI N ts cs (2*mk N ts p+h'):=λ{p r} hp=>by
  induction hp with
  |nil h0 h1 h=>intro k hk;exact⟨k,hk,by rw[h]⟩
  |@snoc q p r e hq he h1 h2 ih=>
   intro h hh;have hc:=cbit hC he;obtain⟨h',hh',e'⟩:=ih ((h+cs.getD (e / 2) 0) % 2) (by omega);refine⟨h',hh',?_⟩;have m:=Zhm hW he;rw[h1,h2]at m;rw[m,<- e'];have:=lm (2*((partner e:Nat):Int)+h) (by omega) (by have:=Zaw he;omega);rw[Zib cs (partner e) hh,Zan,Zbm,Zfk ts e (by omega),Zfk ts (partner e) hh,h1,h2]at this;exact this.symm
 obtain⟨I,hl⟩:=Zgu hW hm;have sub:∀x∈ns,x∈ms.flatMap λg=>[lmI N ts cs (2*g),lmI N ts cs (2*g+1)]:=λx hx=>by
  obtain⟨P,hP,rfl⟩:=Zov ((hn.2 x).mp hx);rw[Za5]at hP;obtain⟨_,hp⟩:=Zfo hW I (by omega) (p:=((P / 2:Nat):Int)) (by omega) (by omega);obtain⟨h',hh',e'⟩:=go hp ((P % 2:Nat):Int) (by omega);have e':_=_:=(congrArg (λz:Nat=>(marksL (2*N)<|dbU ts cs).getD z 0) (show P=(2*((P / 2:Nat):Int)+((P % 2:Nat):Int)).toNat by omega)).trans e';rw[e'];refine List.mem_flatMap.mpr ⟨mk N ts ((P / 2:Nat):Int),(Ze9 hW hm).mpr (Zy9 hW (by omega)<|by omega),?_⟩;rcases hh' with rfl|rfl
  ·rw[Wea];exact Wa7
  ·exact Waw _ Wa7
 have:=Zci (hn.1.imp λz=>Wd9 z) sub;have fl:∀l:List Int,(l.flatMap λg=>[lmI N ts cs (2*g),lmI N ts cs (2*g+1)]).length=2*l.length:=λl=>by
  induction l with
  |nil=>rfl
  |cons g l ih=>rw[List.flatMap_cons,Wai,ih,Waj];simp;omega
 rw[fl]at this;exact this
theorem Zkc (Pd:Nat->Bool):∀n:Nat,((Wah (2*n)).filter Pd).length=((Wah n).filter λe=>Pd (2*e)).length+((Wah n).filter λe=>Pd (2*e+1)).length
 |0=>rfl
 |n+1=>by
  rw[show 2*(n+1)=2*n+1+1 by omega,Wc5,Wc5,Wc5,Wbg,Wbg,Wbg,Wbg,Wai,Wai,Wai,Wai,Zkc Pd n];have one:∀(q:Nat->Bool) (k:Nat),([k].filter q).length=if q k=true then 1 else 0:=λq k=>by
   by_cases z:q k=true
   ·rw[Wdf z,if_pos z];rfl
   ·rw[Wd5 z,if_neg z];rfl
  rw[one,one,one,one];omega
theorem Zkm {α:Type}{p q:α -> Bool}(h:∀x,p x=true->q x=true):∀l:List α,(l.filter p).length<=(l.filter q).length
 |[]=>Wag _
 |x::l=>by
  have ih:=Zkm h l;by_cases z:p x=true
  ·rw[Wdf z,Wdf (h x z)];exact Nat.succ_le_succ ih
  ·rw[Wd5 z,Wa9]
   split
   ·exact Wdk ih
   ·exact ih
theorem Zug (hO:OrdOk (N:Int) ts o):loneS (λ_=>true) N o=lone o:=by
 have hl:=hO.len;unfold loneS lone;have:o=(Wah N).map λp=>rowP o p:=by
  refine Wca λp=>?_;by_cases hp:p<N
  ·rw[Wae,Wb4 hp]
   rw[Waa (show p<o.length by omega)];show some _=some (o.getD p []);rw[Wac,Waa (show p<o.length by omega)];rfl
  ·rw[Wbt (by omega),Wbt (by rw[Wab,Waz];omega)]
 conv=>rhs;rw[this]
 rw[Wdv,Wab];rfl
theorem Zm5 (hW:WebOk (N:Int) ts) (hO:OrdOk (N:Int) ts o) (hC:CrOk ts cs) {o':List (List Int)}(hO':OrdOk (N:Int) ts o') {h:Nat}(hh:h<2) (he:∀y:Nat,y<2*ts.length->rotI ts o (2*(y:Int)+(h:Int))=2*folOf ts o' y+(h:Int)):((Wah (2*ts.length)).filter λe=>leastB (rotI ts o) (2*e+h) && true).length<=cnt (sgI ts o' 0) (2*ts.length) (endS ts λ_=>true):=by
 have R:=Zk8 hW hO hC;have G:=Ziz hW hO';have it:∀(e:Nat),e<2*ts.length->∀i,iter (rotI ts o) (2*(e:Int)+(h:Int)) i=2*iter (sgI ts o' 0) (e:Int) i+(h:Int):=λe hl i=>by
  induction i with
  |zero=>rfl
  |succ i ih=>
   have r:=Za7 G (e:=(e:Int)) (by omega) (by omega) i;show rotI ts o (iter (rotI ts o) (2*(e:Int)+(h:Int)) i)=2*sgI ts o' 0 (iter (sgI ts o' 0) (e:Int) i)+(h:Int);rw[ih];obtain⟨y,hy⟩:∃y:Nat,iter (sgI ts o' 0) (e:Int) i=(y:Int):=⟨_,(Wde r.1).symm⟩;rw[hy,he y (by omega),Zlp hW hO']
 unfold cnt;rw[Wbv (q:=λe=>leastB (rotI ts o) (2*e+h) && decide (e<2*ts.length)) λe he=>by rw[decide_eq_true (Waq.mp he)]];refine Zkm (λe hq=>?_) _;obtain⟨h1,h2⟩:=Bool.and_eq_true_iff.mp hq;have h2:=of_decide_eq_true h2;refine Bool.and_eq_true_iff.mpr ⟨decide_eq_true λz hz=>?_,rfl⟩;obtain⟨i,_,rfl⟩:=Zar.mp hz;have:=of_decide_eq_true h1 _ (by rw[show ((2*e+h:Nat):Int)=2*(e:Int)+(h:Int) by omega];exact Za6 R (e:=2*(e:Int)+(h:Int)) (by omega) (by omega) i);rw[it e h2 i]at this;omega
theorem Zwz (hW:WebOk (N:Int) ts) (hO:OrdOk (N:Int) ts o) (hC:CrOk ts cs):cnt (rotI ts o) (4*ts.length) (λ_=>true)+2*lone o<=2*N:=by
 have f0:Firsts ((Wah N).map λi:Nat=>(i:Int)) (marksL N []):=by
  refine⟨?_,λx=>Iff.rfl⟩;rw[Wbz];exact Wbj.imp λ{a b} hab=>by omega
 have b1:=Zk9 (S:=λ_=>true) hW hO f0;have b2:=Zk9 (S:=λ_=>true) hW hO.turn f0;have is0:inS (λ_=>true) ((Wah N).map λi:Nat=>(i:Int))=N:=by unfold inS;rw[Wbr.mpr (λ_ _=>rfl),Wab,Waz]
 have lt:lone (o.map turnRow)=lone o:=by
  unfold lone;rw[Wdv,Wab];congr 1;exact Wbv λr _=>by cases r <;> rfl
 rw[is0,Zug hO]at b1;rw[is0,Zug hO.turn,lt]at b2;have e1:=Zm5 hW hO hC hO (h:=0) (by omega) λy _=>(Zf5 ts o y (h:=0) (.inl rfl)).trans (by rw[if_pos rfl];omega);have e2:=Zm5 hW hO hC hO.turn (h:=1) (by omega) λy hy=>(Zf5 ts o y (h:=1) (.inr rfl)).trans (by rw[if_neg (by decide),Zts hW hO hy];omega);have sp:=Zkc (λe=>leastB (rotI ts o) e && true) (2*ts.length);have ec:cnt (rotI ts o) (4*ts.length) (λ_=>true)=((Wah (2*(2*ts.length))).filter λe=>leastB (rotI ts o) e && true).length:=by
  unfold cnt;rw[show 4*ts.length=2*(2*ts.length) by omega]
 rw[ec,sp];have e1:((Wah (2*ts.length)).filter λe=>leastB (rotI ts o) (2*e) && true).length<=_:=e1;omega
theorem Zsj (hW:WebOk (N:Int) ts) (hO:OrdOk (N:Int) ts o) (hC:CrOk ts cs) {ms:List Int}(hm:Firsts ms (marksL N ts)):0<=lackI (N:Int) ts o cs ms:=by
 have S:=Zl3 hW hO hC;have ul:(dbU ts cs).length=2*ts.length:=by unfold dbU;rw[Wab,Waz]
 have rc:=Zwz hW hO hC;have c0:cnt (dbI ts o cs 0) (4*ts.length) (λ_=>true)<=2*N-2*lone o:=by
  have:cnt (dbI ts o cs 0) (4*ts.length) (λ_=>true)=cnt (rotI ts o) (4*ts.length) (λ_=>true):=Zd8 (Zk8 hW hO hC) (λx _ _=>by unfold dbI;rw[if_neg (Wcf _)]) S.one _;omega
 obtain⟨ns,hn⟩:=Zdd<|marksL (2*N)<|dbU ts cs;have k:=Zl8 S c0 (2*ts.length) (by omega) ns (by rw[<- ul,Wba];exact hn);have e:cnt (dbI ts o cs (2*ts.length)) (4*ts.length) (λ_=>true)=cnt (cOn ts o cs) (4*ts.length) (λ_=>true):=Zd8 (Zgz hW hO hC) (λx h0 h1=>Zqp hC h0 h1) (Zhk S _<|by omega) _;rw[e,Zqg hW hO hC]at k;have cl:=Zsb hW hO hC hm hn;unfold lackI allC;rw[Wai,Wax];omega
end
def fPaths:OSp:=λds Post=>∃(N:Nat) (ts:List (Int × Int)),ds=[encWeb N ts]/\WebOk (N:Int) ts/\∀ms,Firsts ms (marksL N ts)->Post (.dct ((pathsD N ts ms).map encP))
def fCt:DSp:=λds Post=>∃(ts:List (Int × Int)) (cs r:List Int),ds=[encRow cs,encRow r]/\CrOk ts cs/\r.length<=100/\(∀x∈r,∃e:Nat,e<2*ts.length/\x=(e:Int))/\Post (.int<|crsum cs r)
def fFits:DSp:=λds Post=>∃(g:D) (gs:List Int) (a b c:Int),ds=[g,.int a,.int b,.int c]/\(g=.lst (gs.map .int)\/g=.tup (gs.map .int))/\0<=a/\a<(gs.length:Int)/\0<=b/\b<(gs.length:Int)/\Post (.bl<|fitB (gs.getD a.toNat 0) (gs.getD b.toNat 0) c)
def fRing:DSp:=λds Post=>∃(p q:List Int) (e:Int),ds=[encRow p,.int e,encRow q]/\p.length<=100/\q.length<=100/\(∀x∈q,0<=x)/\Post (encRow<|ringI p e q)
def fSides:DSp:=λds Post=>∃(N:Nat) (ts:List (Int × Int)) (cs:List Int),ds=[encWeb N ts,encRow cs]/\WebOk (N:Int) ts/\CrOk ts cs/\∀ms,Firsts ms (marksL N ts)->Post (sidesD N ts cs<|pathsD N ts ms)
theorem Zpl {N:Nat}{ts:List (Int × Int)}{ms:List Int}{i:Nat}{d:D}(h:((partsL N ts ms).map lstI)[i]?=some d):∃g,ms[i]?=some g/\d=lstI (partI (marksL N ts) N g):=by
 unfold partsL at h;rw[Wae,Wae]at h;cases z:ms[i]? with
 |none=>rw[z]at h;cases h
 |some g=>rw[z]at h;exact⟨g,rfl,by simpa using h.symm⟩
theorem Zrs {ms:List Int}{i:Nat}{g:Int}(h:ms[i]?=some g) (nd:ms.Nodup):putD ((pBeg<|ms.take i).map encP) (.inl g) (.tup [])=(pBeg<|ms.take<|i+1).map encP:=by
 have ek:(pBeg<|ms.take i).map (·.1)=ms.take i:=by unfold pBeg;rw[Wa6];exact List.map_id _
 have hn:g ∉ (pBeg<|ms.take i).map (·.1):=by
  rw[ek];intro hm;obtain⟨hi,hg⟩:=Waf.mp h;have e:ms=ms.take i++g::ms.drop (i+1):=by rw[<- hg];simp
  rw[e]at nd;exact(Wcx.mp nd).2.2 g hm g Wa7 rfl
 have:=Zml (r:=[]) hn;rw[show encRow []=D.tup [] from rfl]at this;rw[this,Wb5,h];unfold pBeg;rw[Was,Was,Was];rfl
theorem at0c (x:D) (l:List D):atI (x::l) 0=some x:=Zb7 (xs:=x::l) (j:=0) rfl
section
variable {P:Program}{w:World}{K:W.Frag}{mg:Str->Option Value}{base:Heap}{f:Addr}{fd:FuncData}
theorem Ztx (mb:Mb mg) (C52:Callee P w K mg base 1 "parts_of" ["web"] (spN K fParts)) (C54:Callee P w K mg base 1 "place_of" ["web","end"] (spD K fPlace)) (F:Fun K "paths_of" "paths_of" Yaq f fd):FnOk P w K mg base CX0 2 f fd ["web"] (spO K fPaths):=by
 refine F.ok Yal (Zvk λds Post h=>by obtain⟨_,_,rfl,_⟩:=h;rfl) λcdv A outer s H vs Q E hr h=>?_;have hu:=Zby hr;refine⟨_,(Zad (Zrd (i:=1) Yal.nd rfl (Or.inl rfl) ["part"] (show CompSc (defScope Yaq) ["web","paths","end","here","there"] _ [] [] from ⟨rfl,by decide +kernel,by decide +kernel,by decide +kernel,rfl,by decide +kernel⟩) rfl (seqK K<|Za4 C52 (hr.mono<|by decide)<|Zaa (pv 0) Zae) (λ_ _ _ _ _=>(Zap (i:=0) (show List.Nodup (["part"]:List Str) from by decide) rfl<|Or.inl rfl)) (λ_ _ _ _ _=>(Za0 (ixK K hu) (pv 0) Zag λ_ _=>rfl)) λ_ _ _ _ _=>(Zcd Zae))<|Zad (Zf6 PassesOwn.never (Zaz Zsk (Zas (lenK K) rfl (mb "len"<|by decide) Zcn<|Zaa (pv 1) Zae) (Za0 (ixK K hu) (pv 0) Zag λ_ _=>rfl)<|nomark _)<|Zah<|Zdu PassesOwn.never rfl (Zbp rfl (mb "range"<|by decide)<|Zaa (Zat Zdg Zag<|Zas (lenK K) rfl (mb "len"<|by decide) Zcn<|Zaa (Za0 (ixK K hu) (pv 0) Zag λ_ _=>rfl) Zae) Zae) (Zap (i:=2) Yal.nd rfl<|Or.inl rfl)<|Zad (Zaq (i:=3) Yal.nd rfl (Or.inl rfl)<|Za4 C54 (hr.mono<|by decide)<|Zaa (pv 0)<|Zaa (pv 2) Zae)<|Zad (Zaq (i:=4) Yal.nd rfl (Or.inl rfl)<|Za4 C54 (hr.mono<|by decide)<|Zaa (pv 0)<|Zaa (Zat Zjm (pv 2) Zag) Zae)<|Zah<|Zc0 (PW.pt<|pw_and (Zaz (inK K hu) (pv 3) (pv 1) rfl)<|pw_and1<|Zaz (notinK K hu) (pv 4) (pv 1) rfl) (Zah<|Ze4 (Zat (addK K) (Za0 (ixK K hu) (pv 1) (pv 3) λ_ _=>rfl)<|Zcd<|Zaa (pv 2) Zae)<|Zj5 (pv 1) (pv 4)<|setU hu) Zbe)<|Zah<|Za1<|pv 1),Zzv (λds Post hf=>?_) h⟩;obtain⟨N,ts,rfl,hW,q⟩:=hf;refine⟨by simp,?_⟩;dsimp only[startD,Wbp,Wbl,Wbb,Wak];have hw:=hW.len;have hn:=hW.hi;have hn0:=hW.lo;refine Zam<|Zcp<|Zss (od0:=.dct []) (λ_=>.nil)<|Zkb<|Zdm<|Zg3<|Yz1 rfl<|Zaf ⟨_,ts,rfl,hW,λms hm=>?_⟩;rw[Wam]at hm ⊢;have hml:=hm.len;rw[Za5]at hml;have nd:ms.Nodup:=hm.1.imp λz=>Wd9 z;refine⟨_,rfl,_,Or.inl rfl,λi hi=>(nomatch hi),λi od Z=>∃x,od=.dct ((pBeg<|ms.take i).map encP) /\ Z = [x],⟨.any,rfl,rfl⟩,?_,?_⟩
 ·rintro i d od Z2 hd ⟨x,rfl,rfl⟩
  obtain⟨g,hg,rfl⟩:=Zpl hd;obtain⟨l,hl⟩:=Zrg hW ((hm.2 g).mp (Wau hg));refine Zbk<|Zvj<|Yz2 rfl<|Zai<|Zbu (d:=.int g) (by rw[hl];exact at0c _ _)<|Zcb<|Zaf ⟨by decide,g,rfl,?_,.val<|lstI<|partI (marksL N ts) N g,?_,rfl⟩
  ·rw[Wab]
   unfold pBeg;rw[Wab,Wbm];exact small1000 (by omega)
  ·rw[Zrs hg nd]
 rintro od Z2 ⟨x,rfl,rfl⟩;rw[Wab,show (partsL N ts ms).length=ms.length by unfold partsL;rw[Wab],Wba];refine Zbi (λZ=>∃(x2 x3 x4:L2.Slot),Z = [.val (encWeb N ts),.own (.dct ((pathsD N ts ms).map encP)),x2,x3,x4]) ?_ ?_
 ·refine Zga (fun μ Z=>∃(k:Nat) (x2 x3 x4:L2.Slot),k<=N /\ μ = N-(pIt ts (pBeg ms) k).length /\ Z = [.val (encWeb N ts),.own (.dct ((pIt ts (pBeg ms) k).map encP)),x2,x3,x4]) ⟨_,0,_,_,_,Wbn _,rfl,rfl⟩ ?_
  rintro μ Z1 ⟨k,x2,x3,x4,hk,rfl,rfl⟩;have I:=Zfg hW hm k;have hlen:=Zdl hW I;refine Za3<|Zaj<|Zvy rfl rfl<|Yz2 rfl<|Zai<|Zav (d:=.int (N:Int)) rfl<|Zpt ⟨_,rfl,?_⟩;rw[Wab];by_cases c:(pIt ts (pBeg ms) k).length<N
  ·have hgo:=Zpw hW I c
   rw[show decide (((pIt ts (pBeg ms) k).length:Int)<(N:Int))=true from decide_eq_true (by omega)];have hk2:k+1<=N:=by
    rcases Zlf hW hm k with z|z
    ·omega
    ·omega
   refine iteT<|Zd1<|Zbn ?_;refine Zac<|Zaj<|Zai<|Zbs ?_;refine Zac<|Yz2 rfl<|Zai<|Zav (d:=.tup<|ts.map encTie) rfl ?_;refine Zaf<|Zcr (Or.inr rfl) ?_;rw[Wab];refine jr_I (Or.inl ⟨by omega,by omega⟩)<|Zaf ⟨_,rfl,by omega,by omega,?_⟩;have eL:((2:Int)*(ts.length:Int)).toNat=2*ts.length:=by omega
   rw[eL];refine⟨λj Z=>∃(x2 x3 x4:L2.Slot),Z = [.val (encWeb N ts),.own (.dct ((pround ts j<|pIt ts (pBeg ms) k).map encP)),x2,x3,x4],⟨x2,x3,x4,rfl⟩,?_,?_⟩
   ·rintro j dd Z2 hd ⟨x2,x3,x4,rfl⟩
    obtain⟨hj,rfl⟩:=Zch hd;rw[Wc1];have hJ:=(Zcj hW I j<|by omega).1;have lJ:=Zdl hW hJ;refine Zbk<|Zam<|Zax<|Zay<|Yz1 rfl<|Yz1 rfl<|Zaf ⟨_,ts,j,rfl,hj,?_⟩;refine Zam<|Zax<|Zay<|Yz1 rfl<|Zac<|Yz2 rfl<|Zai<|Ze7 ?_;rw[Zgm];refine Zaf ⟨_,ts,partner j,rfl,Zaw hj,?_⟩;refine Zdf<|Zhv<|Za3<|Zui<|Zab rfl ⟨_,_,_,rfl,rfl,rfl,_,rfl,?_⟩;show if (if false=true then _ else _)=true then _ else _
    rw[if_neg Wal,valP];have es:=Zep ts j<|pIt ts (pBeg ms) k;unfold pstep at es;cases h1:(pround ts j<|pIt ts (pBeg ms) k).find? λz=>decide (z.1=placeAt ts j) with
    |none=>
     rw[h1]at es;refine iteF<|iteF<|Zbb ?_;show ∃(y2 y3 y4:L2.Slot),_=[_,L2.Slot.own (.dct ((pround ts (j+1)<|pIt ts (pBeg ms) k).map encP)),y2,y3,y4];rw[es];exact⟨_,_,_,rfl⟩
    |some z=>
     rw[h1]at es;refine iteT<|Za3<|Zui<|Zab rfl ⟨_,_,_,rfl,rfl,rfl,_,rfl,?_⟩;show if (if true=true then _ else _)=true then _ else _
     rw[if_pos rfl,valP];cases h2:(pround ts j<|pIt ts (pBeg ms) k).find? λz=>decide (z.1=placeAt ts (partner j)) with
     |some y=>
      rw[h2]at es;refine iteF<|Zbb ?_;show ∃(y2 y3 y4:L2.Slot),_=[_,L2.Slot.own (.dct ((pround ts (j+1)<|pIt ts (pBeg ms) k).map encP)),y2,y3,y4];rw[es];exact⟨_,_,_,rfl⟩
     |none=>
      rw[h2]at es;have zl:=hJ.ln z (Zed h1).1;refine iteT<|Zwg<|Zaj<|Zwo rfl rfl<|Zab rfl ⟨_,_,_,encRow z.2,rfl,rfl,rfl,?_,Zcb<|Yz1 rfl<|Zaf ⟨by show 1<=sizeLine;decide,Zjf ?_ ⟨⟨_,_,rfl,rfl⟩,Zab rfl ⟨_,_,_,rfl,rfl,rfl,?_,?_⟩⟩⟩⟩
      ·rw[valP,h1];rfl
      ·rw[Wab];exact Wcj<|small1000 (by show z.2.length+1<=_;omega)
      ·rw[Wab];exact small1000 (by omega)
      ·show ∃(y2 y3 y4:L2.Slot),_=[_,L2.Slot.own (.dct ((pround ts (j+1)<|pIt ts (pBeg ms) k).map encP)),y2,y3,y4]
       have ee:encRow (z.2++[(j:Int)])=.tup (z.2.map D.int++[.int (j:Int)]):=by unfold encRow;rw[Was];rfl
       rw[es,<- Zml (Zfc.mp h2),ee];exact⟨_,_,_,rfl⟩
   ·rintro Z2 ⟨x2,x3,x4,rfl⟩
    rw[Zbc];exact⟨_,by have hgo:(pIt ts (pBeg ms) k).length<(pIt ts (pBeg ms)<|k+1).length:=hgo;have:=Zdl hW<|Zfg hW hm<|k+1;omega,k+1,x2,x3,x4,hk2,rfl,rfl⟩
  ·rw[show decide (((pIt ts (pBeg ms) k).length:Int)<(N:Int))=false from decide_eq_false (by omega)]
   refine iteF ⟨x2,x3,x4,?_⟩;rw[Zud hW hm hk (by omega)]
 rintro Z1 ⟨x2,x3,x4,rfl⟩;exact Zg5<|Zx8 rfl<|q ms hm
theorem Zz1 (mb:Mb mg) (F:Fun K "crossed_times" "crossed_times" Yas f fd):FnOk P w K mg base CX0 1 f fd ["crossings","ends"] (spD K fCt):=by
 refine F.ok Ybu (Zba λds Post h=>by obtain⟨_,_,_,rfl,_⟩:=h;rfl) λcdv A outer s H vs Q E hr h=>?_;have hu:=Zby hr;refine⟨_,(Zah<|Za1<|Zas (sumK K rfl) rfl (mb "sum"<|by decide) Zut<|Zaa (Zcu ["end"] (show CompSc (defScope Yas) ["crossings","ends"] _ ["crossings"] [0] from ⟨rfl,by decide +kernel,by decide +kernel,by decide +kernel,rfl,by decide +kernel⟩) rfl (seqK K<|pv 1) (λ_ _ _ _ _=>(Zap (i:=0) (show List.Nodup (["end","crossings"]:List Str) from by decide) rfl<|Or.inl rfl)) (λ_ _ _ _ _=>Zcf) λ_ _ _ _ _=>(Za0 (ixK K hu) (pv 1) (Zat Zfi (pv 0) Zag) λ_ _=>rfl)) Zae),Zct (λds Post hf=>?_) h⟩;obtain⟨ts,cs,r,rfl,hC,hl,hin,q⟩:=hf;refine⟨by simp,?_⟩;dsimp only[startD,Wbp,Wbl,Wbb,Wak];refine Za9<|Zbs<|Zac<|Zdh (by decide)<|Zd7<|Zab rfl ⟨_,rfl,?_,λ_=>true,λd=>match d with|.int e=>.int (cs.getD (e.toNat / 2) 0)|d=>d,λi d hd=>?_,?_⟩
 ·rw[Wab];exact small1000 (by omega)
 ·rw[Wae]at hd
  cases z:r[i]? with
  |none=>rw[z]at hd;cases hd
  |some x=>
   rw[z]at hd;have hd:D.int x=d:=by simpa using hd
   subst hd;obtain⟨e,he,rfl⟩:=hin x<|Wau z;obtain⟨c,c1,c2,_⟩:=hC.at (k:=e / 2) (by omega);have a1:atI (cs.map D.int) ((e:Int) / 2)=some (.int c):=by
    rw[show (e:Int) / 2=((e / 2:Nat):Int) by omega];exact Zb7 (by rw[Wae,c1];rfl)
   refine Zcg ⟨rfl,Yz2 rfl<|Yz2 rfl<|Zai<|jr_I ⟨by omega,by omega⟩<|Zav a1 ⟨?_,_,rfl⟩⟩;show D.int c=D.int (cs.getD ((e:Int).toNat / 2) 0);rw[Wam,c2]
 ·have e1:((r.map D.int).filter λ_=>true).map (λd=>match d with|.int e=>D.int (cs.getD (e.toNat / 2) 0)|d=>d)=(r.map λe=>cs.getD (e.toNat / 2) 0).map D.int:=by
   rw[Wbr.mpr (by simp),Wa6,Wa6];rfl
  rw[e1];exact Zaf<|Zzi q
theorem Zwj (mb:Mb mg) (F:Fun K "fits" "fits" Ybd f fd):FnOk P w K mg base CX0 1 f fd ["given","a","b","crossing"] (spD K fFits):=by
 refine F.ok Ybv (Zba λds Post h=>by obtain⟨_,_,_,_,_,rfl,_⟩:=h;rfl) λcdv A outer s H vs Q E hr h=>?_;have hu:=Zby hr;refine⟨_,(Zah<|Za1<|Zdy Zbt (Zdy Zhh (Za0 (ixK K hu) (pv 0) (pv 1) λ_ _=>rfl) (Za0 (ixK K hu) (pv 0) (pv 2) λ_ _=>rfl)<|nomark _) (Zdy Zbt (pv 3) Zag<|nomark _)<|nomark _),Zct (λds Post hf=>?_) h⟩;obtain⟨g,gs,a,b,c,rfl,hg,a0,a1,b0,b1,q⟩:=hf;refine⟨by simp,?_⟩;dsimp only[startD,Wbp,Wbl,Wbb,Wak];have ha:=Zcw (l:=gs) rfl a0 a1;have hb:=Zcw (l:=gs) rfl b0 b1;rcases hg with rfl|rfl
 ·exact Za9<|Zaj<|Zaj<|Yz2 rfl<|Zab rfl<|Zbu ha<|Yz2 rfl<|Zab rfl<|Zbu hb<|Znf<|Yz2 rfl<|Zai<|Zdt<|Zuu q
 ·exact Za9<|Zaj<|Zaj<|Yz2 rfl<|Zab rfl<|Zav ha<|Yz2 rfl<|Zab rfl<|Zav hb<|Znf<|Yz2 rfl<|Zai<|Zdt<|Zuu q
theorem Zwm (mb:Mb mg) (F:Fun K "ring_by" "ring_by" Yar f fd):FnOk P w K mg base CX0 1 f fd ["path","end","other"] (spD K fRing):=by
 refine F.ok Ybj (Zba λds Post h=>by obtain⟨_,_,_,rfl,_⟩:=h;rfl) λcdv A outer s H vs Q E hr h=>?_;have hu:=Zby hr;refine⟨_,(Zad (Zf6 PassesOwn.never (PW.pt<|pw_and (truK K (pv 0) λ_=>rfl)<|pw_and (truK K (pv 2) λ_=>rfl)<|pw_and1<|Zaz Zbt (Za0 (ixK K hu) (pv 0) Zag λ_ _=>rfl) (Za0 (ixK K hu) (pv 2) Zag λ_ _=>rfl)<|nomark _)<|Zad (Zaq (i:=0) Ybj.nd rfl (Or.inl rfl)<|Zdr (slK K) (pv 0) (Zd9 Zag) Zer)<|Zah<|Zaq (i:=2) Ybj.nd rfl (Or.inl rfl)<|Zdr (slK K) (pv 2) (Zd9 Zag) Zer)<|Zah<|Za1<|Zat (addK K) (Zat (addK K) (pv 0)<|Zcd<|Zaa (pv 1) Zae)<|Zbd (tupK K) rfl (mb "tuple"<|by decide) Zbx<|Zaa (Zcu ["step"] (show CompSc (defScope Yar) ["path","end","other"] _ [] [] from ⟨rfl,by decide +kernel,by decide +kernel,by decide +kernel,rfl,by decide +kernel⟩) rfl (seqK K<|slRK K<|pv 2) (λ_ _ _ _ _=>(Zap (i:=0) (show List.Nodup (["step"]:List Str) from by decide) rfl<|Or.inl rfl)) (λ_ _ _ _ _=>Zcf) λ_ _ _ _ _=>(Zat Zjm (pv 0) Zag)) Zae),Zct (λds Post hf=>?_) h⟩;obtain⟨p,r,e,rfl,hp,hr2,hin,q⟩:=hf;refine⟨by simp,?_⟩;dsimp only[startD,Wbp,Wbl,Wbb,Wak];have si:=Zsf p r;refine Zbi (λZ=>Z = [.val (encRow (strip p r).1),.val (.int e),.val (encRow (strip p r).2)]) ?_ ?_
 ·refine Zga (fun μ Z=>∃p' r':List Int,strip p' r'=strip p r /\ μ = p'.length /\ Z = [.val (encRow p'),.val (.int e),.val (encRow r')]) ⟨_,p,r,rfl,rfl,rfl⟩ ?_
  rintro μ Z1 ⟨p',r',es,rfl,rfl⟩;refine Zhv<|Zej<|Zab rfl ⟨!p'.isEmpty,by cases p' <;> rfl,?_⟩
  cases p' with
  |nil=>
   refine iteF<|iteF ?_;rw[<- es];cases r' <;> rfl
  |cons x p'=>
   refine iteT<|Zhv<|Zej<|Zab rfl ⟨!r'.isEmpty,by cases r' <;> rfl,?_⟩
   cases r' with
   |nil=>
    refine iteF<|iteF ?_;rw[<- es];rfl
   |cons y r'=>
    refine iteT<|Za3<|Zaj<|Yz2 rfl<|Zai<|Zav (d:=.int x) (at0c _ _)<|Yz2 rfl<|Zai<|Zav (d:=.int y) (at0c _ _)<|Zdt ⟨_,rfl,?_⟩;by_cases c:x=y
    ·rw[decide_eq_true c]
     have es2:strip p' r'=strip p r:=by rw[<- es];conv=>rhs;unfold strip;rw[if_pos c]
     refine iteT<|Zam<|Zax<|Zla<|Zab rfl<|Zet<|Zai ⟨_,rfl,Zeo ⟨_,rfl,?_⟩⟩;refine Zax<|Zla<|Zab rfl<|Zet<|Zai ⟨_,rfl,Zeo ⟨_,rfl,p'.length,Wc3 _,p',r',es2,rfl,?_⟩⟩;have c1:cutD ((x::p').map D.int) (some 1) none=p'.map D.int:=Zgb _ (j:=1) (by simp);have c2:cutD ((y::r').map D.int) (some 1) none=r'.map D.int:=Zgb _ (j:=1) (by simp);rw[c1,c2];rfl
    ·rw[decide_eq_false c]
     refine iteF ?_;rw[<- es];show _=[L2.Slot.val (encRow (strip (x::p') (y::r')).1),_,L2.Slot.val (encRow (strip (x::p') (y::r')).2)];unfold strip;rw[if_neg c]
 rintro Z1 rfl;refine Za9<|Zaj<|Yz2 rfl<|Zcb<|Yz1 rfl<|Zaf ⟨by show 1<=sizeLine;decide,Zjf ?_ ?_⟩
 ·rw[Wab];exact Wcj<|small1000 (by show (strip p r).1.length+1<=_;omega)
 refine Zbs<|Zac<|Zdh (by decide)<|Zd7<|Zpc<|Zab rfl ⟨_,rfl,_,rfl,?_,λ_=>true,λd=>match d with|.int e=>.int ((partner e.toNat:Nat):Int)|d=>d,λi d hd=>?_,?_⟩
 ·rw[Wb3,Wab];exact small1000 (by omega)
 ·rw[<- Weq,Wae]at hd
  cases z:(strip p r).2.reverse[i]? with
  |none=>rw[z]at hd;cases hd
  |some x=>
   rw[z]at hd;have hd:D.int x=d:=by simpa using hd
   subst hd;have hx:=hin x<|si.2.1 x<|List.mem_reverse.mp<|Wau z;obtain⟨X,rfl⟩:∃X:Nat,x=(X:Int):=⟨x.toNat,by omega⟩;refine Zcg ⟨rfl,Yz2 rfl<|Zai<|Ze7 ⟨?_,_,rfl⟩⟩;rw[Zgm];rfl
 have e1:(((strip p r).2.map D.int).reverse.filter λ_=>true).map (λd=>match d with|.int e=>D.int ((partner e.toNat:Nat):Int)|d=>d)=((strip p r).2.reverse.map λx=>((partner x.toNat:Nat):Int)).map D.int:=by
  rw[Wbr.mpr (by simp),<- Weq,Wa6,Wa6];rfl
 rw[e1];refine Zaf<|Zcx (Or.inl rfl)<|Zjf ?_ ?_
 ·rw[Wai,Wab,Wab,Wab,Wb3];exact Wcj<|small1000 (by show (strip p r).1.length+1+_<=_;omega)
 unfold ringI encRow at q;rw[Was,Was]at q;exact q
theorem Zv2 {j n:Nat}(h:j<n):ixN n (j:Int)=some j:=by
 unfold ixN;rw[if_pos (by omega),if_pos (by omega)];rfl
end
def fTov:DSp:=λds Post=>∃(n:Int) (ts:List (Int × Int)) (o:List (List Int)) (cs:List Int) (p:Nat),ds=[encWeb n ts,encOrd o,encRow cs,.int p]/\WebOk n ts/\OrdOk n ts o/\CrOk ts cs/\(p:Int)<n/\Post (.tup [encOrd (tovO o p),encRow (tovC ts cs p)])
theorem Zju {ts:List (Int × Int)}{i:Nat}{d:D}(h:(enD<|ts.map encTie)[i]?=some d):∃t,ts[i]?=some t/\d=.tup [.int (i:Int),encTie t]:=by
 obtain⟨d',hd',rfl⟩:=Zqb h;rw[Wae]at hd';cases z:ts[i]? with
 |none=>rw[z]at hd';cases hd'
 |some u=>rw[z]at hd';exact⟨u,rfl,by simpa using hd'.symm⟩
theorem Zlw {N:Nat}{cs:List Int}{d:List (Int × List Int)}{p:Int}(p0:0<=p) (p1:p<(N:Int)):((Wah N).map λp:Nat=>givI cs d (p:Int)).getD p.toNat 0=givI cs d p:=by
 rw[Wac,Wae,Wb4 (by omega)];show givI cs d ((p.toNat:Nat):Int)=_;rw[Wde p0]
section
variable {P:Program}{w:World}{K:W.Frag}{mg:Str->Option Value}{base:Heap}{f:Addr}{fd:FuncData}
theorem Zsl (mb:Mb mg) (C53:Callee P w K mg base 2 "paths_of" ["web"] (spO K fPaths)) (C40:Callee P w K mg base 1 "crossed_times" ["crossings","ends"] (spD K fCt)) (C43:Callee P w K mg base 1 "fits" ["given","a","b","crossing"] (spD K fFits)) (C55:Callee P w K mg base 1 "ring_by" ["path","end","other"] (spD K fRing)) (F:Fun K "sides" "sides" Yap f fd):FnOk P w K mg base CX0 3 f fd ["web","crossings"] (spD K fSides):=by
 refine F.ok Yak (Zba λds Post h=>by obtain⟨_,_,_,rfl,_⟩:=h;rfl) λcdv A outer s H vs Q E hr h=>?_;have hu:=Zby hr;refine⟨_,(Zad (Zaq (i:=2) Yak.nd rfl (Or.inr rfl)<|Za4 C53 (hr.mono<|by decide)<|Zaa (pv 0) Zae)<|Zad (Zeb (i:=3) ["place"] (show CompSc (defScope Yap) ["web","crossings","paths","given","tie","a","b"] _ ["crossings","paths"] [1,2] from ⟨rfl,by decide +kernel,by decide +kernel,by decide +kernel,rfl,by decide +kernel⟩) rfl Yak.nd rfl (Or.inl rfl) (Zbp rfl (mb "range"<|by decide)<|Zaa (Za0 (ixK K hu) (pv 0) Zag λ_ _=>rfl) Zae) (λ_ _ _ _ _=>(Zap (i:=0) (show List.Nodup (["place","crossings","paths"]:List Str) from by decide) rfl<|Or.inl rfl)) (λ_ _ _ _ _=>Zcf) λ_ _ _ _ _=>(Zat Zb2 (Za4 C40 (hr.mono<|by decide)<|Zaa (pv 1)<|Zaa (Za0 (ixK K hu) (pv 2) (pv 0) λ_ _=>rfl) Zae) Zag))<|Zad (Zdu PassesOwn.never rfl (Zfu K rfl (mb "enumerate"<|by decide)<|Zaa (Za0 (ixK K hu) (pv 0) Zag λ_ _=>rfl) Zae) (gtupK (n:=2) K rfl<|Za2 (Zap (i:=4) Yak.nd rfl<|Or.inl rfl)<|Za2 (gtupK (n:=2) K rfl<|Za2 (Zap (i:=5) Yak.nd rfl<|Or.inl rfl)<|Za2 (Zap (i:=6) Yak.nd rfl<|Or.inl rfl) Zco) Zco)<|Zah<|Zc0 (Zh6<|truK K (Za4 C43 (hr.mono<|by decide)<|Zaa (pv 3)<|Zaa (pv 5)<|Zaa (pv 6)<|Zaa (Za0 (ixK K hu) (pv 1) (pv 4) λ_ _=>rfl) Zae) λ_=>rfl) (Zah<|Za1<|Zcd<|Zaa Zm0<|Zaa (Za4 C55 (hr.mono<|by decide)<|Zaa (Za0 (ixK K hu) (pv 2) (pv 5) λ_ _=>rfl)<|Zaa (Zat Zdg Zag<|pv 4)<|Zaa (Za0 (ixK K hu) (pv 2) (pv 6) λ_ _=>rfl) Zae) Zae) Zbe)<|Zah<|Za1<|Zcd<|Zaa Zm0<|Zaa (Zbd (tupK K) rfl (mb "tuple"<|by decide) Zbx<|Zaa (pv 3) Zae) Zae),Zct (λds Post hf=>?_) h⟩;obtain⟨N,ts,cs,rfl,hW,hC,q⟩:=hf;refine⟨by simp,?_⟩;dsimp only[startD,Wbp,Wbl,Wbb,Wak];have hw:=hW.len;have hn:=hW.hi;have hn0:=hW.lo;refine Zam<|Zax<|Zqa<|Zsw<|Yz1 rfl<|Zaf ⟨N,ts,rfl,hW,λms hm=>⟨_,rfl,?_⟩⟩;have q:=q ms hm;obtain⟨I,hl⟩:=Zgu hW hm;generalize pathsD N ts ms=d at I hl q ⊢;have hl2:N<=d.length:=by omega
 refine Zam<|Zax<|Zdh (by decide)<|Zbn<|Zac<|Yz2 rfl<|Zai<|Zav (d:=.int (N:Int)) rfl<|Zaf ⟨_,rfl,by omega,by omega,?_,λ_=>true,λx=>match x with|.int p=>.int (givI cs d p)|x=>x,λi x hd=>?_,?_⟩
 ·rw[Zbc];exact small1000 (by omega)
 ·obtain⟨hi,rfl⟩:=Zch hd
  rw[Wc1];rw[Wam]at hi;obtain⟨v1,v2⟩:=Zfo hW I hl2 (p:=(i:Int)) (by omega) (by omega);have pl:=Zia hW I (p:=(i:Int));exact Zcg ⟨rfl,Zaj<|Zay<|Yz1 rfl<|Zac<|Yz2 rfl<|Zab rfl<|Zlt v1<|Zaf ⟨ts,cs,pathOf d i,rfl,hC,by omega,v2.in,Zai<|jr_I (by show (0:Int)<2;decide) ⟨rfl,_,rfl⟩⟩⟩
 have eg:((rngD 0 (N:Int).toNat).filter λ_=>true).map (λx=>match x with|.int p=>D.int (givI cs d p)|x=>x)=((Wah N).map λp:Nat=>givI cs d (p:Int)).map D.int:=by
  rw[Wbr.mpr (by simp),Wam];unfold rngD;rw[Wa6,Wa6];refine Wcl λi _=>?_;show D.int (givI cs d (0+(i:Int)))=_;rw[Wc1];rfl
 rw[eg];refine Zbi (λZ=>∃x4 x5 x6:L2.Slot,(∀j,j<ts.length->badB ts cs d j=false) /\ Z = [.val (encWeb N ts),.val (encRow cs),.val (dctD<|d.map encP),.val (.lst (((Wah N).map λp:Nat=>givI cs d (p:Int)).map D.int)),x4,x5,x6]) ?_ ?_
 ·refine Zd1 (Zpa<|Zac<|Yz2 rfl<|Zai<|Zav (d:=.tup<|ts.map encTie) rfl<|Zaf ⟨_,Or.inr rfl,λi Z=>∃x4 x5 x6:L2.Slot,(∀j,j<i->badB ts cs d j=false) /\ Z = [.val (encWeb N ts),.val (encRow cs),.val (dctD<|d.map encP),.val (.lst (((Wah N).map λp:Nat=>givI cs d (p:Int)).map D.int)),x4,x5,x6],⟨_,_,_,λj hj=>absurd hj<|Wcf _,rfl⟩,?_,?_⟩)
  ·rintro i x Z2 hd ⟨x4,x5,x6,hb,rfl⟩
   obtain⟨t,ht,rfl⟩:=Zju hd;have hi:=(Waf.mp ht).1;have tb:=hW.tie t<|Wau ht;obtain⟨c,c1,c2,c3⟩:=hC.at hi;have a1:atI (cs.map D.int) (i:Int)=some (.int c):=Zb7 (by rw[Wae,c1];rfl);have lg:((Wah N).map λp:Nat=>givI cs d (p:Int)).length=N:=by rw[Wab,Waz]
   refine Zfr rfl<|Zbf<|Zbk<|Zbf<|Zfr rfl<|Zbf<|Zbk<|Zbf<|Zbk<|Zd3<|Zd3 ?_;refine Zdf<|Zft<|Zej<|Zay<|Yz1 rfl<|Yz1 rfl<|Yz1 rfl<|Zac<|Yz2 rfl<|Zab rfl<|Zav a1<|Zaf ⟨_,_,t.1,t.2,c,rfl,Or.inl rfl,tb.1,by omega,tb.2.2.1,by omega,_,rfl,?_⟩;rw[Zlw tb.1 tb.2.1,Zlw tb.2.2.1 tb.2.2.2];have eb:badB ts cs d i = !fitB (givI cs d t.1) (givI cs d t.2) c:=by
    unfold badB;rw[Wac,ht,c2];rfl
   cases hf:fitB (givI cs d t.1) (givI cs d t.2) c with
   |true=>
    rw[hf]at eb;refine iteF<|Zbb ⟨_,_,_,λj hj=>?_,rfl⟩;rcases Wb8 (Wck hj) with z|z
    ·exact hb j z
    ·rw[z];exact eb
   |false=>
    rw[hf]at eb;obtain⟨v1,v2⟩:=Zfo hW I hl2 tb.1 tb.2.1;obtain⟨u1,u2⟩:=Zfo hW I hl2 tb.2.2.1 tb.2.2.2;have pl1:=Zia hW I (p:=t.1);have pl2:=Zia hW I (p:=t.2);have hfind:(Wah ts.length).find? (badB ts cs d)=some i:=by
     rw[List.find?_range_eq_some];exact⟨eb,Waq.mpr hi,λj hj=>by rw[hb j hj];rfl⟩
    refine iteT<|Za9<|Zcb<|Zac<|Zmi<|Zac<|Zay<|Zac<|Yz2 rfl<|Zab rfl<|Zlt v1 ?_;refine Zac<|Zaj<|Zai<|Zab rfl<|jr_I (Or.inl ⟨by omega,by omega⟩) ?_;refine Zac<|Yz2 rfl<|Zab rfl<|Zlt u1<|Zaf ⟨pathOf d t.1,pathOf d t.2,2*(i:Int),rfl,by omega,by omega,λx hx=>?_,Zaf ⟨Zfs,?_⟩⟩
    ·obtain⟨e,_,rfl⟩:=u2.in x hx;omega
    ·have eg2:ts.getD i (0,0)=t:=by rw[Wac,ht];rfl
     have es:sidesD N ts cs d=.tup [.str "one",encRow (ringI (pathOf d t.1) (2*(i:Int))<|pathOf d t.2)]:=by
      unfold sidesD;rw[hfind];show D.tup [_,encRow (ringI (pathOf d (ts.getD i (0,0)).1) _<|pathOf d (ts.getD i (0,0)).2)]=_;rw[eg2]
     rw[es]at q;exact q
  ·rintro Z2 ⟨x4,x5,x6,hb,rfl⟩
   rw[Zlb,Wab]at hb;exact⟨x4,x5,x6,hb,rfl⟩
 rintro Z1 ⟨x4,x5,x6,hb,rfl⟩;have hfind:(Wah ts.length).find? (badB ts cs d)=none:=by
  rw[Wd0];intro j hj;rw[hb j (Waq.mp hj)];exact Wal
 unfold sidesD at q;rw[hfind]at q;exact Za9<|Zcb<|Zac<|Zmi<|Zac<|Zbs<|Yz1 rfl<|Zaf<|Zcx (Or.inl rfl)<|Zaf ⟨Zfs,q⟩
theorem Zzm (mb:Mb mg) (C58:Callee P w K mg base 2 "turned_about" ["row"] (spD K fTurnA)) (F:Fun K "turned_over" "turned_over" Yat f fd):FnOk P w K mg base CX0 3 f fd ["web","order","crossings","place"] (spD K fTov):=by
 refine F.ok Ybk (Zba λds Post h=>by obtain⟨_,_,_,_,_,rfl,_⟩:=h;rfl) λcdv A outer s H vs Q E hr h=>?_;have hu:=Zby hr;refine⟨_,(Zad (Zaq (i:=4) Ybk.nd rfl (Or.inl rfl)<|Zbd (lstK K) rfl (mb "list"<|by decide) Zqs<|Zaa (pv 1) Zae)<|Zad (Ze4 (Za4 C58 (hr.mono<|by decide)<|Zaa (Za0 (ixK K hu) (pv 4) (pv 3) λ_ _=>rfl) Zae)<|Zj5 (pv 4) (pv 3)<|setU hu)<|Zad (Zeb (i:=5) ["a","b","crossing"] (show CompSc (defScope Yat) ["web","order","crossings","place","rows","changed"] _ ["place"] [3] from ⟨rfl,by decide +kernel,by decide +kernel,by decide +kernel,rfl,by decide +kernel⟩) rfl Ybk.nd rfl (Or.inl rfl) (Zy3 K rfl (mb "zip"<|by decide)<|Zaa (Za0 (ixK K hu) (pv 0) Zag λ_ _=>rfl)<|Zaa (pv 2) Zae) (λ_ _ _ _ _=>(gtupK (n:=2) K rfl<|Za2 (gtupK (n:=2) K rfl<|Za2 (Zap (i:=0) (show List.Nodup (["a","b","crossing","place"]:List Str) from by decide) rfl<|Or.inl rfl)<|Za2 (Zap (i:=1) (show List.Nodup (["a","b","crossing","place"]:List Str) from by decide) rfl<|Or.inl rfl) Zco)<|Za2 (Zap (i:=2) (show List.Nodup (["a","b","crossing","place"]:List Str) from by decide) rfl<|Or.inl rfl) Zco)) (λ_ _ _ _ _=>Zcf) λ_ _ _ _ _=>(Zi0 (Zaz Zhh (Zdy Zbt (pv 0) (pv 3)<|nomark _) (Zdy Zbt (pv 1) (pv 3)<|nomark _)<|nomark _) (Zat Zfq Zag<|pv 2)<|pv 2))<|Zah<|Za1<|Zcd<|Zaa (Zbd (tupK K) rfl (mb "tuple"<|by decide) Zbx<|Zaa (pv 4) Zae)<|Zaa (Zbd (tupK K) rfl (mb "tuple"<|by decide) Zbx<|Zaa (pv 5) Zae) Zae),Zct (λds Post hf=>?_) h⟩;obtain⟨n,ts,o,cs,p,rfl,hW,hO,hC,hp,q⟩:=hf;refine⟨by simp,?_⟩;dsimp only[startD,Wbp,Wbl,Wbb,Wak];have hw:=hW.len;have hn:=hW.hi;have ho:=hO.len;have hpl:p<o.length:=by omega
 have hr1:o[p]?=some (o.getD p []):=by rw[Wac,Waa hpl];rfl
 have hR:=hO.row p _ hr1;have hlr:(o.getD p []).length<=100:=by
  have:=hR.perm.length_eq;unfold endsBelow at this;rw[Wab]at this;have h2:=Wcp (λe=>decide (placeAt ts e=(p:Int)))<|Wah (2*ts.length);rw[Waz]at h2;omega
 have a1:atI (o.map encRow) (p:Int)=some (encRow<|o.getD p []):=Zb7 (by rw[Wae,hr1];rfl);refine Zam<|Zcp<|Zxg<|Yz1 rfl<|Zaf ⟨_,Or.inl rfl,?_⟩;refine Zam<|Zmg<|Zay<|Zac<|Zpi rfl rfl<|Zab rfl ⟨_,_,_,_,rfl,rfl,rfl,a1,Zaf ⟨ts,p,o.getD p [],rfl,hlr,hR,⟨_,_,rfl,rfl⟩,Zab rfl ⟨_,_,_,p,rfl,rfl,rfl,?_,?_⟩⟩⟩
 ·exact Zv2 (by rw[Wab];exact hpl)
 have eo:(o.map encRow).set p (encRow<|turnRow<|o.getD p [])=(tovO o p).map encRow:=by unfold tovO;rw[List.map_set]
 rw[eo];refine Zam<|Zax<|Zqw (by decide)<|Zxb<|Zac<|Yz2 rfl<|Zai<|Zav (d:=.tup<|ts.map encTie) rfl<|Yz1 rfl<|Zaf ⟨_,_,rfl,?_,?_,λ_=>true,λx=>match x with|.tup [.tup [.int a,.int b],.int c]=>.int (if (decide (a=(p:Int)) != decide (b=(p:Int)))=true then 1-c else c)|x=>x,λi x hd=>?_,?_⟩
 ·rw[Wab,Wab,hC.len]
 ·rw[Wab,List.length_zip,Wab,Wab];exact small1000 (by omega)
 ·rw[Wae]at hd
  cases z:((ts.map encTie).zip (cs.map D.int))[i]? with
  |none=>rw[z]at hd;cases hd
  |some y=>
   rw[z]at hd;have hd:D.tup [y.1,y.2]=x:=by simpa using hd
   subst hd;obtain⟨z1,z2⟩:=Wcb.mp z;rw[Wae]at z1 z2;cases y1:ts[i]? with
   |none=>rw[y1]at z1;cases z1
   |some t=>
    cases y2:cs[i]? with
    |none=>rw[y2]at z2;cases z2
    |some c=>
     rw[y1]at z1;rw[y2]at z2;have z1:encTie t=y.1:=by simpa using z1
     have z2:D.int c=y.2:=by simpa using z2
     rw[<- z1,<- z2];refine⟨.int t.1,.int t.2,.int c,rfl,Zcg ⟨rfl,Zit<|Za3<|Zaj<|Yz2 rfl<|Zab rfl<|Zdt<|Yz2 rfl<|Zab rfl<|Zdt<|Zyq ⟨_,rfl,?_⟩⟩⟩;have eb:(!decide (decide (t.1=(p:Int))=decide (t.2=(p:Int))))=(decide (t.1=(p:Int)) != decide (t.2=(p:Int))):=by
      cases decide (t.1=(p:Int)) <;> cases decide (t.2=(p:Int)) <;> rfl
     rw[eb];cases hb:decide (t.1=(p:Int)) != decide (t.2=(p:Int)) with
     |true=>
      refine iteT<|Zaj<|Zai<|Zab rfl<|Ze7 ⟨?_,_,_,_,rfl⟩;show D.int (1-c)=.int (if (decide (t.1=(p:Int)) != decide (t.2=(p:Int)))=true then 1-c else c);rw[hb];rfl
     |false=>
      refine iteF<|Zab rfl ⟨?_,_,_,_,rfl⟩;show D.int c=.int (if (decide (t.1=(p:Int)) != decide (t.2=(p:Int)))=true then 1-c else c);rw[hb];rfl
 have et:((((ts.map encTie).zip (cs.map D.int)).map λz=>D.tup [z.1,z.2]).filter λ_=>true).map (λx=>match x with|.tup [.tup [.int a,.int b],.int c]=>.int (if (decide (a=(p:Int)) != decide (b=(p:Int)))=true then 1-c else c)|x=>x)=(tovC ts cs p).map D.int:=by
  rw[Wbr.mpr (by simp),List.zip_map,Wa6,Wa6];unfold tovC;rw[Wa6];rfl
 rw[et];refine Za9<|Zcb<|Zac<|Zbs<|Zac<|Zeu rfl<|Zaf<|Zcx (Or.inl rfl) ?_;exact Zac<|Zbs<|Yz1 rfl<|Zaf<|Zcx (Or.inl rfl)<|Zaf ⟨Zfs,q⟩
end
def fCross:BSp:=λps ds Post=>Pen ps/\∃n ts,ds=[encWeb n ts]/\WebOk n ts/\∀cs ps',Pen ps' -> CrOk ts cs->Post (encRow cs) ps'
abbrev crS (n:Int) (ts:List (Int × Int)) (way:Int) (hs:List Int) (odd:Int) (ps:List D) (cs:List Int) (x y z:L2.Slot):Evt:=[.bor (.lst ps),.val (encWeb n ts),.val (.int way),.val (.lst<|hs.map .int),.val (.int odd),.own (.lst<|cs.map .int),x,y,z]
section
variable {P:Program}{w:World}{K:W.Frag}{mg:Str->Option Value}{base:Heap}{f:Addr}{fd:FuncData}
theorem Zse (mb:Mb mg) (C32:Callee P w K mg base 1 "_law_draw" ["_law_pen_here","_law_many"] (spB K fDraw)) (F:Fun K "_law_crossings" "_law_crossings" Yav f fd):FnOk P w K mg base CX0 2 f fd ["_law_pen_here","_law_web_here"] (spB K fCross):=by
 refine F.ok Yac (Zi6 λps ds Post h=>by obtain⟨_,_,_,rfl,_⟩:=h;rfl) λcdv A outer s H vs Q E hr h=>?_;have hu:=Zby hr;refine⟨_,(Zad (Zaq (i:=2) Yac.nd rfl (Or.inl rfl)<|Za4 C32 (hr.mono<|by decide)<|Zaa (pv 0)<|Zaa Zag Zae)<|Zad (Zeb (i:=3) ["_law_place"] (show CompSc (defScope Yav) ["_law_pen_here","_law_web_here","_law_way","_law_held","_law_odd","_law_found","_law_tie","_law_pair","_law_number"] _ ["_law_pen_here"] [0] from ⟨rfl,by decide +kernel,by decide +kernel,by decide +kernel,rfl,by decide +kernel⟩) rfl Yac.nd rfl (Or.inl rfl) (Zbp rfl (mb "range"<|by decide)<|Zaa (Za0 (ixK K hu) (pv 1) Zag λ_ _=>rfl) Zae) (λ_ _ _ _ _=>(Zap (i:=0) (show List.Nodup (["_law_place","_law_pen_here"]:List Str) from by decide) rfl<|Or.inl rfl)) (λ_ _ _ _ _=>Zcf) λ_ _ _ _ _=>(Za4 C32 (hr.mono<|by decide)<|Zaa (pv 1)<|Zaa Zag Zae))<|Zad (Zaq (i:=4) Yac.nd rfl (Or.inl rfl)<|Za4 C32 (hr.mono<|by decide)<|Zaa (pv 0)<|Zaa Zag Zae)<|Zad (Zaq (i:=5) Yac.nd rfl (Or.inl rfl)<|Zh0 Zae)<|Zad (Zdu PassesOwn.never rfl (Zfu K rfl (mb "enumerate"<|by decide)<|Zaa (Za0 (ixK K hu) (pv 1) Zag λ_ _=>rfl) Zae) (gtupK (n:=2) K rfl<|Za2 (Zap (i:=6) Yac.nd rfl<|Or.inl rfl)<|Za2 (Zap (i:=7) Yac.nd rfl<|Or.inl rfl) Zco)<|Zad (Zaq (i:=8) Yac.nd rfl (Or.inl rfl)<|Za4 C32 (hr.mono<|by decide)<|Zaa (pv 0)<|Zaa Zag Zae)<|Zad (Zc0 (Zaz Zsk (pv 2) Zag<|nomark _) (Zah<|Zaq (i:=8) Yac.nd rfl (Or.inl rfl)<|Zat Zb2 (Zat (addK K) (Zat (addK K) (Za0 (ixK K hu) (pv 3) (Za0 (ixK K hu) (pv 7) Zag λ_ _=>rfl) λ_ _=>rfl)<|Za0 (ixK K hu) (pv 3) (Za0 (ixK K hu) (pv 7) Zag λ_ _=>rfl) λ_ _=>rfl)<|Zbd Zpb rfl (mb "int"<|by decide) Zuq<|Zaa (Zuk (Zdy Zbt (pv 2) Zag<|nomark _)<|Zuj<|Zdy Zbt (pv 6) (pv 4)<|nomark _) Zae) Zag) Zbe)<|Zad (Zc0 (Zaz Zvn (pv 2) Zag<|nomark _) (Zah<|Zaq (i:=8) Yac.nd rfl (Or.inl rfl)<|Zat Zfq (pv 2) Zag) Zbe)<|Zah<|Zcz<|bmK K PySem.F.plainAttrs_list PySem.F.slot_list_append PySem.F.type_list_append Zcc (pv 5)<|Zaa (pv 8) Zae)<|Zah<|Za1<|Zbd (tupK K) rfl (mb "tuple"<|by decide) Zbx<|Zaa (pv 5) Zae),Zrw (λps ds Post hf=>?_) h⟩;obtain⟨hp,n,ts,rfl,hW,q⟩:=hf;refine⟨by simp,?_⟩;dsimp only[cxOf,startD,Wbp,Wbl,Wbb,Wak];have hw:=hW.len;have hn:=hW.hi;have hn0:=hW.lo;refine Zam<|Zax<|Zd4 rfl rfl<|Zac<|Zai<|Zaf ⟨_,_,rfl,rfl,hp,5,rfl,by omega,by omega,λway ps1 hp1 w0 w1=>?_⟩;refine Zbi (λZ=>∃(hs:List Int) (psx:List D),Pen psx/\(hs.length:Int)=n /\ Z = [.bor (.lst psx),.val (encWeb n ts),.val (.int way),.val (.lst<|hs.map .int),.any,.any,.any,.any,.any]) ?_ ?_
 ·refine Zax (Zli (by decide)<|Zbn<|Zac<|Yz2 rfl<|Zai<|Zav (d:=.int n) rfl<|Zaf ⟨_,rfl,by omega,by omega,?_,λi ys Z=>∃(hs:List Int) (psx:List D) (x:L2.Slot),Pen psx/\hs.length=i/\ys=hs.map .int /\ Z = [x,.bor (.lst psx)],?_,?_,?_⟩)
  ·rw[Zbc];exact small1000 (by omega)
  ·exact⟨[],ps1,.any,hp1,rfl,rfl,rfl⟩
  ·rintro i d ys Z2 hd ⟨hs,psx,x,hpx,hl,rfl,rfl⟩
   refine Zc3 (by decide)<|Zcg ?_;rw[if_pos rfl];refine Zd4 rfl rfl<|Zac<|Zai<|Zaf ⟨_,_,rfl,rfl,hpx,2,rfl,by omega,by omega,λr ps' hp' r0 r1=>?_⟩;exact⟨hs++[r],ps',.val d,hp',by rw[Wai,hl];rfl,by rw[Was];rfl,rfl⟩
  ·rintro ys Z2 ⟨hs,psx,x,hpx,hl,rfl,rfl⟩
   rw[Zbc]at hl;exact⟨hs,psx,hpx,by omega,rfl⟩
 rintro Z1 ⟨hs,ps2,hp2,hl,rfl⟩;refine Zam<|Zax<|Zd4 rfl rfl<|Zac<|Zai<|Zaf ⟨_,_,rfl,rfl,hp2,25,rfl,by omega,by omega,λodd ps3 hp3 _ _=>?_⟩;refine Zam<|Zcp<|Zhr<|Zaf ⟨by decide,?_⟩;refine Zbi (λZ=>∃(cs:List Int) (psx:List D) (x6 x7 x8:L2.Slot),Pen psx/\CrOk ts cs /\ Z = crS n ts way hs odd psx cs x6 x7 x8) ?_ ?_
 ·refine Zd1 (Zpa<|Zac<|Yz2 rfl<|Zai<|Zav (d:=.tup<|ts.map encTie) rfl<|Zaf ⟨_,Or.inr rfl,λi Z=>∃(cs:List Int) (psx:List D) (x6 x7 x8:L2.Slot),Pen psx/\cs.length=i/\(∀c∈cs,c=0\/c=1) /\ Z = crS n ts way hs odd psx cs x6 x7 x8,⟨[],ps3,_,_,_,hp3,rfl,λc hc=>(nomatch hc),rfl⟩,?_,?_⟩)
  ·rintro i x Z2 hd ⟨cs,psx,x6,x7,x8,hpx,hcl,hcb,rfl⟩
   obtain⟨t,ht,rfl⟩:=Zju hd;have hi:=(Waf.mp ht).1;have tb:=hW.tie t<|Wau ht;have a1:=Zcw (l:=hs) rfl tb.1 (by omega);have a2:=Zcw (l:=hs) rfl tb.2.2.1 (by omega);refine Zfr rfl<|Zbf<|Zbk<|Zbf<|Zbk<|Zd3 ?_;refine Zam<|Zax<|Zd4 rfl rfl<|Zac<|Zai<|Zaf ⟨_,_,rfl,rfl,hpx,2,rfl,by omega,by omega,λnum ps4 hp4 n0 n1=>?_⟩;refine Zbi (λZ=>∃num:Int,(num=0\/num=1) /\ Z = crS n ts way hs odd ps4 cs (.val (.int i)) (.val<|encTie t) (.val (.int num))) ?_ ?_
   ·refine Zdf (Za3<|Yz2 rfl<|Zai<|Zpt ⟨_,rfl,?_⟩)
    by_cases z:way<2
    ·rw[decide_eq_true z]
     refine iteT<|Zax<|Zaj<|Zaj<|Zaj<|Yz2 rfl<|Yz2 rfl<|Zai<|Zav (d:=.int t.1) rfl<|Zbu a1 ?_;refine Yz2 rfl<|Yz2 rfl<|Zai<|Zav (d:=.int t.2) rfl<|Zbu a2<|Zc1 ?_;have fin:∀k:Int,∃num:Int,(num=0\/num=1)/\num=k % 2:=λk=>⟨k % 2,by omega,rfl⟩;refine Zbs<|Zac<|Zlq<|Yz2 rfl<|Zai<|Zdt ⟨_,rfl,?_⟩;by_cases y:way=1
     ·rw[decide_eq_true y]
      refine iteT<|Yz2 rfl<|Zab rfl<|Zdt<|Zaf<|Zpo<|Zc1<|Zai<|jr_I (by show (0:Int)<2;decide) ?_;exact⟨_,by omega,rfl⟩
     ·rw[decide_eq_false y]
      refine iteF<|Zaf<|Zpo<|Zc1<|Zai<|jr_I (by show (0:Int)<2;decide) ?_;exact⟨_,by omega,rfl⟩
    ·rw[decide_eq_false z]
     exact iteF<|Zbb ⟨num,by omega,rfl⟩
   rintro Z1 ⟨num,hnum,rfl⟩;refine Zbi (λZ=>∃num:Int,(num=0\/num=1) /\ Z = crS n ts way hs odd ps4 cs (.val (.int i)) (.val<|encTie t) (.val (.int num))) ?_ ?_
   ·refine Zdf (Za3<|Yz2 rfl<|Zai<|Zpt ⟨_,rfl,?_⟩)
    by_cases z:2<way
    ·rw[show decide (way > 2)=true from decide_eq_true z]
     exact iteT<|Zax<|Yz2 rfl<|Zai<|Ze7 ⟨_,by omega,rfl⟩
    ·rw[show decide (way > 2)=false from decide_eq_false z]
     exact iteF<|Zbb ⟨num,hnum,rfl⟩
   rintro Z1 ⟨num,hnum,rfl⟩;refine Zhq rfl rfl<|Zab rfl ⟨_,_,rfl,rfl,?_,cs++[num],ps4,.val (.int (i:Int)),.val<|encTie t,.val (.int num),hp4,by rw[Wai,hcl];rfl,λc hc=>?_,?_⟩
   ·rw[Wab];exact small1000 (by omega)
   ·rcases Wbh.mp hc with y|y
    ·exact hcb c y
    ·rw[Wa4]at y;subst y;exact hnum
   ·unfold crS;rw[Was];rfl
  ·rintro Z2 ⟨cs,psx,x6,x7,x8,hpx,hcl,hcb,rfl⟩
   rw[Zlb,Wab]at hcl;exact⟨cs,psx,x6,x7,x8,hpx,⟨hcl,hcb⟩,rfl⟩
 rintro Z1 ⟨cs,psx,x6,x7,x8,hpx,hC,rfl⟩;exact Za9<|Zbs<|Zac<|Zeu rfl<|Zaf<|Zcx (Or.inl rfl) ⟨psx,rfl,q cs psx hpx hC⟩
end
def tA (ts:List (Int × Int)) (s:Int->Int) (o:List (List Int)) (cs:List Int):Nat->List (List Int) × List Int
 |0=>(o,cs)
 |k+1=>if s (k:Int)=1 then (tovO (tA ts s o cs k).1 k,tovC ts (tA ts s o cs k).2 (k:Int)) else tA ts s o cs k
def blS (s:Int->Int) (k:Nat) (q:Int):Int:=if 0<=q/\q<(k:Int)/\s q=1 then 1 else 0
section
variable {N:Nat}{ts:List (Int × Int)}{o:List (List Int)}{cs:List Int}{s:Int->Int}
theorem Zoe (hW:WebOk (N:Int) ts) (hO:OrdOk (N:Int) ts o) (hC:CrOk ts cs):∀k,OrdOk (N:Int) ts (tA ts s o cs k).1/\CrOk ts (tA ts s o cs k).2/\(allC ts (tA ts s o cs k).1 (tA ts s o cs k).2).length=(allC ts o cs).length
 |0=>⟨hO,hC,rfl⟩
 |k+1=>by
  obtain⟨a,b,c⟩:=Zoe hW hO hC k;have es:tA ts s o cs (k+1)=if s (k:Int)=1 then (tovO (tA ts s o cs k).1 k,tovC ts (tA ts s o cs k).2 (k:Int)) else tA ts s o cs k:=rfl
  rw[es];by_cases z:s (k:Int)=1
  ·rw[if_pos z]
   exact⟨Zq8 a,Zp1 b,(Zte hW a b).trans c⟩
  ·rw[if_neg z]
   exact⟨a,b,c⟩
theorem Zmr (s:Int->Int) (k:Nat) (q:Int):blS s (k+1) q=blS s k q+if s (k:Int)=1 then atB k q else 0:=by
 unfold blS atB;by_cases e:q=(k:Int)
 ·subst e
  rw[if_neg (show ¬ (0<=(k:Int)/\(k:Int)<(k:Int)/\s (k:Int)=1) from λz=>by omega)];by_cases z:s (k:Int)=1
  ·rw[if_pos ⟨by omega,by omega,z⟩,if_pos z,if_pos rfl];rfl
  ·rw[if_neg (λy=>z y.2.2),if_neg z];rfl
 ·rw[if_neg e]
  have:(if s (k:Int)=1 then (0:Int) else 0)=0:=by split <;> rfl
  rw[this,Wea];by_cases z:0<=q/\q<(k:Int)/\s q=1
  ·rw[if_pos z,if_pos ⟨z.1,by omega,z.2.2⟩]
  ·rw[if_neg z,if_neg (λy=>z ⟨y.1,by omega,y.2.2⟩)]
theorem Zyo (hW:WebOk (N:Int) ts) (hO:OrdOk (N:Int) ts o) (hC:CrOk ts cs):∀k,∀(i:Nat) (hi:i<ts.length),(tA ts s o cs k).2.getD i 0=(cs.getD i 0+blS s k ts[i].1+blS s k ts[i].2) % 2
 |0,i,hi=>by
  obtain⟨c,_,c2,c3⟩:=hC.at hi;have b0:∀q:Int,blS s 0 q=0:=λq=>by unfold blS;rw[if_neg (λz=>by omega)]
  show cs.getD i 0=_;rw[c2,b0,b0];omega
 |k+1,i,hi=>by
  have ih:=Zyo hW hO hC k i hi;obtain⟨_,b,_⟩:=Zoe (s:=s) hW hO hC k;rw[Zmr,Zmr];show (if _ then _ else _:List (List Int) × List Int).2.getD i 0=_;by_cases z:s (k:Int)=1
  ·rw[if_pos z,if_pos z,if_pos z]
   show (tovC ts (tA ts s o cs k).2 (k:Int)).getD i 0=_;rw[Zkw b hi,ih];omega
  ·rw[if_neg z,if_neg z,if_neg z,ih]
   omega
theorem Zpg (hW:WebOk (N:Int) ts) (hO:OrdOk (N:Int) ts o) (hC:CrOk ts cs) (hb:∀q,s q=0\/s q=1) (h:Two ts cs s):∀c∈(tA ts s o cs N).2,c=0:=by
 intro c hc;obtain⟨_,b,_⟩:=Zoe (s:=s) hW hO hC N;obtain⟨i,hi,rfl⟩:=Wdc hc;have hi2:i<ts.length:=by rw[<- b.len];exact hi
 have:=Zyo (s:=s) hW hO hC N i hi2;rw[Wac,Waa hi]at this;have this:(tA ts s o cs N).2[i]=_:=this;have tb:=hW.tie _<|Wa8 hi2;have bl:∀q:Int,0<=q->q<(N:Int)->blS s N q=s q:=λq q0 q1=>by
  unfold blS;rcases hb q with z|z
  ·rw[if_neg (λy=>by omega),z]
  ·rw[if_pos ⟨q0,q1,z⟩,z]
 rw[this,bl _ tb.1 tb.2.1,bl _ tb.2.2.1 tb.2.2.2];have:=h i _<|Waa hi2;omega
theorem Zj1 (hW:WebOk (N:Int) ts) (hO:OrdOk (N:Int) ts o) (hz:∀c∈cs,c=0) {ms:List Int}(hm:Firsts ms (marksL N ts)):lackI (N:Int) ts o cs ms=2*holesI (N:Int) ts o ms:=by
 obtain⟨w1,w2⟩:=Zl4 hW hO hm;unfold lackI;rw[Zpy hW hO hz,Wab];omega
theorem Zpq (hW:WebOk (N:Int) ts) (hO:OrdOk (N:Int) ts o) (hC:CrOk ts cs) (k:Nat) (ms:List Int):lackI (N:Int) ts (tA ts s o cs k).1 (tA ts s o cs k).2 ms=lackI (N:Int) ts o cs ms:=by
 unfold lackI;rw[(Zoe (s:=s) hW hO hC k).2.2]
theorem Zm4 (hW:WebOk (N:Int) ts) (hO:OrdOk (N:Int) ts o) (hC:CrOk ts cs) {ms:List Int}(hm:Firsts ms (marksL N ts)) {s:Int->Int}(h:Two ts cs s):lackI (N:Int) ts o cs ms % 2=0:=by
 have h2:Two ts cs λq=>s q % 2:=λi t ht=>by
  have:=h i t ht;show (s t.1 % 2+s t.2 % 2+_) % 2=0;omega
 have hz:=Zpg hW hO hC (s:=λq=>s q % 2) (λq=>by show s q % 2=0\/s q % 2=1;omega) h2;have ok:=Zoe (s:=λq=>s q % 2) hW hO hC N;rw[<- Zpq (s:=λq=>s q % 2) hW hO hC N,Zj1 hW ok.1 hz hm];omega
theorem Zn2 {l:List Int}(h:∀c∈l,c=0):l.sum=0:=by
 induction l with
 |nil=>rfl
 |cons x l ih=>rw[List.sum_cons,h x Wa7,ih λc hc=>h c (Waw _ hc)];rfl
end
def crOf (ts:List (Int × Int)) (s:Int->Int):List Int:=ts.map λt=>(s t.1+s t.2) % 2
theorem Zw4 (ts:List (Int × Int)) (s:Int->Int):CrOk ts (crOf ts s):=⟨Wab _,λc hc=>by obtain⟨t,_,rfl⟩:=Wa1.mp hc;omega⟩
theorem Zi3 (ts:List (Int × Int)) (s:Int->Int):Two ts (crOf ts s) s:=λi t ht=>by
 unfold crOf;rw[Wac,Wae,ht];show (s t.1+s t.2+(s t.1+s t.2) % 2) % 2=0;omega
abbrev k26S (ns:List Int) (N:Nat) (ts:List (Int × Int)) (ps:List D) (o:List (List Int)) (cs:List Int) (a:Int) (x y:L2.Slot):Evt:=[.val (.scr<|ns.map .int),.own (.lst ps),.val (encWeb N ts),.val (encOrd o),.val (encRow cs),.val (.int a),x,y]
section
variable {P:Program}{w:World}{K:W.Frag}{mg:Str->Option Value}{base:Heap}{f:Addr}{fd:FuncData}
theorem ok_law (mb:Mb mg) (C34:Callee P w K mg base 1 "_law_pen" ["_law_script"] (spN K fPen)) (C35:Callee P w K mg base 2 "_law_web" ["_law_pen_here","_law_places","_law_ties"] (spB K fWeb)) (C33:Callee P w K mg base 2 "_law_order" ["_law_pen_here","_law_web_here"] (spB K fOrder)) (C31:Callee P w K mg base 2 "_law_crossings" ["_law_pen_here","_law_web_here"] (spB K fCross))
  (C48:Callee P w K mg base 6 "lack" ["web","order","crossings"] (spD K fLk)) (C36:Callee P w K mg base 1 "_law_whole" ["_law_found"] (spD K fWhole)) (C57:Callee P w K mg base 3 "sides" ["web","crossings"] (spD K fSides)) (C32:Callee P w K mg base 1 "_law_draw" ["_law_pen_here","_law_many"] (spB K fDraw))
  (C59:Callee P w K mg base 3 "turned_over" ["web","order","crossings","place"] (spD K fTov)) (C47:Callee P w K mg base 6 "holes" ["web","order"] (spD K fHoles))
  (F:Fun K "law" "law" Yae f fd):FnOk P w K mg base CX0 7 f fd ["_law_script"] (spD K fLaw):=by
 refine F.ok Yab (Zba λds Post h=>by obtain⟨_,rfl,_⟩:=h;rfl) λcdv A outer s H vs Q E hr h=>?_;have hu:=Zby hr;refine⟨_,(Zad (Zaq (i:=1) Yab.nd rfl (Or.inr rfl)<|Za4 C34 (hr.mono<|by decide)<|Zaa (pv 0) Zae)<|Zad (Zaq (i:=2) Yab.nd rfl (Or.inl rfl)<|Za4 C35 (hr.mono<|by decide)<|Zaa (pv 1)<|Zaa Zag<|Zaa Zag Zae)<|Zad (Zaq (i:=3) Yab.nd rfl (Or.inl rfl)<|Za4 C33 (hr.mono<|by decide)<|Zaa (pv 1)<|Zaa (pv 2) Zae)<|Zad (Zaq (i:=4) Yab.nd rfl (Or.inl rfl)<|Za4 C31 (hr.mono<|by decide)<|Zaa (pv 1)<|Zaa (pv 2) Zae)<|Zad (Zaq (i:=5) Yab.nd rfl (Or.inl rfl)<|Za4 C48 (hr.mono<|by decide)<|Zaa (pv 2)<|Zaa (pv 3)<|Zaa (pv 4) Zae)<|Zad (Zc0 (PW.pt<|pw_or (Zh6<|truK K (Za4 C36 (hr.mono<|by decide)<|Zaa (pv 5) Zae) λ_=>rfl)<|pw_or (Zaz Zsk (pv 5) Zag<|nomark _)<|pw_or1<|PW.pt<|pw_and (Zaz Zbt (Za0 (ixK K hu) (Za4 C57 (hr.mono<|by decide)<|Zaa (pv 2)<|Zaa (pv 4) Zae) Zag λ_ _=>rfl) Zm0<|nomark _)<|pw_and1<|Zaz Zbt (Zat Zb2 (pv 5) Zag) Zag<|nomark _) (Zah<|Za1 Zxa) Zbe)<|Zad (Zaq (i:=6) Yab.nd rfl (Or.inr rfl)<|Zcu ["_law_place"] (show CompSc (defScope Yae) ["_law_script","_law_pen_here","_law_web_here","_law_order_here","_law_crossings_here","_law_found","_law_given","_law_place"] _ ["_law_pen_here"] [1] from ⟨rfl,by decide +kernel,by decide +kernel,by decide +kernel,rfl,by decide +kernel⟩) rfl (Zbp rfl (mb "range"<|by decide)<|Zaa (Za0 (ixK K hu) (pv 2) Zag λ_ _=>rfl) Zae) (λ_ _ _ _ _=>(Zap (i:=0) (show List.Nodup (["_law_place","_law_pen_here"]:List Str) from by decide) rfl<|Or.inl rfl)) (λ_ _ _ _ _=>Zcf) λ_ _ _ _ _=>(Za4 C32 (hr.mono<|by decide)<|Zaa (pv 1)<|Zaa Zag Zae))<|Zad (Zaq (i:=4) Yab.nd rfl (Or.inl rfl)<|Zbd (tupK K) rfl (mb "tuple"<|by decide) Zbx<|Zaa (Zcu ["_law_a","_law_b"] (show CompSc (defScope Yae) ["_law_script","_law_pen_here","_law_web_here","_law_order_here","_law_crossings_here","_law_found","_law_given","_law_place"] _ ["_law_given"] [6] from ⟨rfl,by decide +kernel,by decide +kernel,by decide +kernel,rfl,by decide +kernel⟩) rfl (seqK K<|Za0 (ixK K hu) (pv 2) Zag λ_ _=>rfl) (λ_ _ _ _ _=>(gtupK (n:=2) K rfl<|Za2 (Zap (i:=0) (show List.Nodup (["_law_a","_law_b","_law_given"]:List Str) from by decide) rfl<|Or.inl rfl)<|Za2 (Zap (i:=1) (show List.Nodup (["_law_a","_law_b","_law_given"]:List Str) from by decide) rfl<|Or.inl rfl) Zco)) (λ_ _ _ _ _=>Zcf) λ_ _ _ _ _=>(Zat Zb2 (Zat (addK K) (Za0 (ixK K hu) (pv 2) (pv 0) λ_ _=>rfl)<|Za0 (ixK K hu) (pv 2) (pv 1) λ_ _=>rfl) Zag)) Zae)<|Zad (Zaq (i:=5) Yab.nd rfl (Or.inl rfl)<|Za4 C48 (hr.mono<|by decide)<|Zaa (pv 2)<|Zaa (pv 3)<|Zaa (pv 4) Zae)<|Zad (Zc0 (PW.pt<|pw_or (Zaz Zhh (Za0 (ixK K hu) (Za4 C57 (hr.mono<|by decide)<|Zaa (pv 2)<|Zaa (pv 4) Zae) Zag λ_ _=>rfl) Zm0<|nomark _)<|pw_or1<|Zaz Zbt (Zat Zb2 (pv 5) Zag) Zag<|nomark _) (Zah<|Za1 Zxa) Zbe)<|Zad (Zdu PassesOwn.never rfl (Zbp rfl (mb "range"<|by decide)<|Zaa (Za0 (ixK K hu) (pv 2) Zag λ_ _=>rfl) Zae) (Zap (i:=7) Yab.nd rfl<|Or.inl rfl)<|Zah<|Zc0 (Zaz Zbt (Za0 (ixK K hu) (pv 6) (pv 7) λ_ _=>rfl) Zag<|nomark _) (Zah<|Ze4 (Za4 C59 (hr.mono<|by decide)<|Zaa (pv 2)<|Zaa (pv 3)<|Zaa (pv 4)<|Zaa (pv 7) Zae)<|gtupK (n:=2) K rfl<|Za2 (Zap (i:=3) Yab.nd rfl<|Or.inl rfl)<|Za2 (Zap (i:=4) Yab.nd rfl<|Or.inl rfl) Zco) Zbe)<|Zad (Zc0 (PW.pt<|pw_or (Zaz Zhh (Zas (sumTK K rfl) rfl (mb "sum"<|by decide) Zut<|Zaa (pv 4) Zae) Zag<|nomark _)<|pw_or1<|Zaz Zhh (Za4 C48 (hr.mono<|by decide)<|Zaa (pv 2)<|Zaa (pv 3)<|Zaa (pv 4) Zae) (pv 5)<|nomark _) (Zah<|Za1 Zxa) Zbe)<|Zah<|Za1<|Zdy Zbt (pv 5) (Zat Zdg Zag<|Za4 C47 (hr.mono<|by decide)<|Zaa (pv 2)<|Zaa (pv 3) Zae)<|nomark _),Zct (λds Post hf=>?_) h⟩;obtain⟨ns,rfl,hl,q⟩:=hf;refine⟨by simp,?_⟩;dsimp only[startD,Wbp,Wbl,Wbb,Wak];refine Zam<|Zcp<|Zg3<|Yz1 rfl<|Zaf ⟨ns,rfl,hl,λps hp=>?_⟩;refine Zam<|Zax<|Ziu rfl rfl<|Zac<|Zai<|Zac<|Zai<|Zaf (Zyn rfl rfl hp (by omega) (by omega) (by omega) (by omega) λn ts ps1 hp1 hW _ _=>?_)
 refine Zam<|Zax<|Ziu rfl rfl<|Yz1 rfl<|Zaf (Zs7 rfl rfl hp1 hW λo ps2 hp2 hO=>?_);refine Zam<|Zax<|Zd4 rfl rfl<|Yz1 rfl<|Zaf ⟨_,_,rfl,rfl,hp2,n,ts,rfl,hW,λcs ps3 hp3 hC=>?_⟩;have hn0:=hW.lo;have hn1:=hW.hi;have hw:=hW.len;obtain⟨N,rfl⟩:∃N:Nat,n=(N:Int):=⟨n.toNat,by omega⟩;obtain⟨ms,hm⟩:=Zdd<|marksL N ts;obtain⟨I,hlP⟩:=Zgu hW hm;have told:∀ms',Firsts ms' (marksL N ts)->pathsD N ts ms'=pathsD N ts ms:=λms' h=>by rw[h.uniq hm]
 generalize pathsD N ts ms=d at I hlP told;have hl2:N<=d.length:=by omega
 refine Zam<|Zax<|Zay<|Yz1 rfl<|Yz1 rfl<|Yz1 rfl<|Zaf ⟨(N:Int),ts,o,cs,rfl,hW,hO,hC,λms' hm'=>?_⟩;rw[Wam]at hm';rw[hm'.uniq hm];have lp:=Zsj hW hO hC hm;refine Zbi (λZ=>Z = k26S ns N ts ps3 o cs (lackI (N:Int) ts o cs ms) .any .any) ?_ ?_
 ·refine Zdf (Zoh<|Zft<|Zej<|Zay<|Yz1 rfl<|Zaf ⟨_,rfl,_,rfl,iteF ?_⟩)
  refine Zoh<|Za3<|Yz2 rfl<|Zai<|Zpt ⟨_,rfl,?_⟩;rw[decide_eq_false (by omega)];refine iteF<|Zhv<|Za3<|Zaj<|Zaj<|Zay<|Yz1 rfl<|Yz1 rfl<|Zaf ⟨N,ts,cs,rfl,hW,hC,λms2 hm2=>?_⟩;rw[told ms2 hm2];obtain⟨r,er⟩:=Zhp hW hC I hl2;rw[er];refine Zai<|Zav (d:=.str<|wordS ts cs) rfl<|Zmi<|Zwq ⟨_,rfl,?_⟩;by_cases hs:∃s,Two ts cs s
  ·have ew:wordS ts cs = "two":=by unfold wordS;rw[if_pos hs]
   rw[ew,decide_eq_true rfl];obtain⟨s0,hs0⟩:=hs;have ev:=Zm4 hW hO hC hm hs0;refine iteT<|Za3<|Zaj<|Yz2 rfl<|Zai<|jr_I (by show (0:Int)<2;decide)<|Zai<|Zdt ⟨_,rfl,?_⟩;rw[decide_eq_false (by omega)];exact iteF<|Zbb rfl
  ·have ew:wordS ts cs = "one":=by unfold wordS;rw[if_neg hs]
   rw[ew,decide_eq_false (by decide)];exact iteF<|iteF<|Zbb rfl
 rintro Z1 rfl;refine Zbi (λZ=>∃(gs:List Int) (psx:List D),gs.length=N/\(∀g∈gs,g=0\/g=1) /\ Z = k26S ns N ts psx o cs (lackI (N:Int) ts o cs ms) (.val (.lst<|gs.map .int)) .any) ?_ ?_
 ·refine Zax (Zli (by decide)<|Zbn<|Zac<|Yz2 rfl<|Zai<|Zav (d:=.int (N:Int)) rfl<|Zaf ⟨_,rfl,by omega,by omega,?_,λi ys Z=>∃(hs:List Int) (psx:List D) (x:L2.Slot),Pen psx/\hs.length=i/\(∀g∈hs,g=0\/g=1)/\ys=hs.map .int /\ Z = [x,.own (.lst psx)],?_,?_,?_⟩)
  ·rw[Zbc];exact small1000 (by omega)
  ·exact⟨[],ps3,.any,hp3,rfl,λg hg=>(nomatch hg),rfl,rfl⟩
  ·rintro i x ys Z2 hd ⟨hs,psx,x1,hpx,hl,hb,rfl,rfl⟩
   refine Zc3 (by decide)<|Zcg ?_;rw[if_pos rfl];refine Zd4 rfl rfl<|Zac<|Zai<|Zaf ⟨_,_,rfl,rfl,hpx,2,rfl,by omega,by omega,λr ps' hp' r0 r1=>?_⟩;refine⟨hs++[r],ps',.val x,hp',by rw[Wai,hl];rfl,λg hg=>?_,by rw[Was];rfl,rfl⟩;rcases Wbh.mp hg with z|z
   ·exact hb g z
   ·rw[Wa4]at z;subst z;omega
  ·rintro ys Z2 ⟨hs,psx,x,hpx,hl,hb,rfl,rfl⟩
   rw[Zbc,Wam]at hl;exact⟨hs,psx,hl,hb,rfl⟩
 rintro Z1 ⟨gs,psx,hgl,hgb,rfl⟩;obtain⟨s,hs⟩:∃s:Int->Int,s=λp=>gs.getD p.toNat 0:=⟨_,rfl⟩;have sb:∀q,s q=0\/s q=1:=λq=>by
  rw[hs];show gs.getD q.toNat 0=0\/gs.getD q.toNat 0=1;rw[Wac];cases z:gs[q.toNat]? with
  |none=>exact .inl rfl
  |some g=>exact hgb g (Wau z)
 have ga:∀{p:Int},0<=p->p<(N:Int)->atI (gs.map D.int) p=some (.int<|s p):=λ{p} p0 p1=>by
  rw[Zcw (l:=gs) rfl p0 (by omega),hs]
 have hC2:=Zw4 ts s;have ok:=Zoe (s:=s) hW hO hC2;refine Zam<|Zax<|Zbs<|Zac<|Ztp (by decide)<|Zd7<|Yz2 rfl<|Zai<|Zav (d:=.tup<|ts.map encTie) rfl ⟨_,rfl,?_,λ_=>true,λx=>match x with|.tup [.int a,.int b]=>.int ((s a+s b) % 2)|x=>x,λi x hd=>?_,?_⟩
 ·rw[Wab];exact small1000 (by omega)
 ·rw[Wae]at hd
  cases z:ts[i]? with
  |none=>rw[z]at hd;cases hd
  |some t=>
   rw[z]at hd;have hd:encTie t=x:=by simpa using hd
   subst hd;have tb:=hW.tie t<|Wau z;refine⟨.int t.1,.int t.2,rfl,Zcg ⟨rfl,Zaj<|Zaj<|Yz2 rfl<|Zab rfl<|Zbu (ga tb.1 tb.2.1)<|Yz2 rfl<|Zab rfl<|Zbu (ga tb.2.2.1 tb.2.2.2)<|Zc1<|Zai<|jr_I (by show (0:Int)<2;decide) ⟨rfl,_,_,rfl⟩⟩⟩
 have ec:((ts.map encTie).filter λ_=>true).map (λx=>match x with|.tup [.int a,.int b]=>D.int ((s a+s b) % 2)|x=>x)=(crOf ts s).map D.int:=by
  rw[Wbr.mpr (by simp)];unfold crOf;rw[Wa6,Wa6];rfl
 rw[ec];refine Zaf<|Zcx (Or.inl rfl) ?_;refine Zam<|Zax<|Zay<|Yz1 rfl<|Yz1 rfl<|Yz1 rfl<|Zaf ⟨(N:Int),ts,o,crOf ts s,rfl,hW,hO,hC2,λms' hm'=>?_⟩;rw[Wam]at hm';rw[hm'.uniq hm];have ev:=Zm4 hW hO hC2 hm<|Zi3 ts s;refine Zam<|Zdf<|Zoh<|Za3<|Zaj<|Zaj<|Zay<|Yz1 rfl<|Yz1 rfl<|Zaf ⟨N,ts,crOf ts s,rfl,hW,hC2,λms2 hm2=>?_⟩;rw[told ms2 hm2];obtain⟨r,er⟩:=Zhp hW hC2 I hl2;have ew:wordS ts (crOf ts s) = "two":=by unfold wordS;rw[if_pos ⟨s,Zi3 ts s⟩]
 rw[er,ew];refine Zai<|Zav (d:=.str "two") rfl<|Zmi<|Zyz ⟨_,rfl,iteF ?_⟩;refine Za3<|Zaj<|Yz2 rfl<|Zai<|jr_I (by show (0:Int)<2;decide)<|Zai<|Zdt ⟨_,rfl,?_⟩;rw[decide_eq_false (by omega)];refine iteF<|Zbb ?_;have la:=λk=>Zpq (s:=s) hW hO hC2 k ms;generalize hD0:lackI (N:Int) ts o (crOf ts s) ms=D0 at la;refine Zbi (λZ=>∃x7:L2.Slot,Z = k26S ns N ts psx (tA ts s o (crOf ts s) N).1 (tA ts s o (crOf ts s) N).2 D0 (.val (.lst<|gs.map .int)) x7) ?_ ?_
 ·refine Zd1 (Zbn<|Zac<|Yz2 rfl<|Zai<|Zav (d:=.int (N:Int)) rfl<|Zaf ⟨_,rfl,by omega,by omega,λk Z=>∃x7:L2.Slot,Z = k26S ns N ts psx (tA ts s o (crOf ts s) k).1 (tA ts s o (crOf ts s) k).2 D0 (.val (.lst<|gs.map .int)) x7,⟨_,rfl⟩,?_,?_⟩)
  ·rintro k x Z2 hd ⟨x7,rfl⟩
   obtain⟨hk,rfl⟩:=Zch hd;rw[Wam]at hk;rw[Wc1];have es:tA ts s o (crOf ts s) (k+1)=if s (k:Int)=1 then (tovO (tA ts s o (crOf ts s) k).1 k,tovC ts (tA ts s o (crOf ts s) k).2 (k:Int)) else tA ts s o (crOf ts s) k:=rfl
   refine Zbk<|Zdf<|Za3<|Zaj<|Yz2 rfl<|Zab rfl<|Zbu (ga (p:=(k:Int)) (by omega)<|by omega)<|Zai<|Zdt ⟨_,rfl,?_⟩;by_cases z:s (k:Int)=1
   ·rw[decide_eq_true z]
    rw[if_pos z]at es;refine iteT<|Zmz<|Zay<|Yz1 rfl<|Yz1 rfl<|Yz1 rfl<|Yz1 rfl<|Zaf ⟨(N:Int),ts,_,_,k,rfl,hW,(ok k).1,(ok k).2.1,by omega,Zfr rfl<|Zbf<|Zbk<|Zbf<|Zbk<|Zd3 ?_⟩;show ∃x7:L2.Slot,_=[_,_,_,L2.Slot.val (encOrd (tA ts s o (crOf ts s)<|k+1).1),L2.Slot.val (encRow (tA ts s o (crOf ts s)<|k+1).2),_,_,x7];rw[es];exact⟨_,rfl⟩
   ·rw[decide_eq_false z]
    rw[if_neg z]at es;refine iteF<|Zbb ?_;show ∃x7:L2.Slot,_=[_,_,_,L2.Slot.val (encOrd (tA ts s o (crOf ts s)<|k+1).1),L2.Slot.val (encRow (tA ts s o (crOf ts s)<|k+1).2),_,_,x7];rw[es];exact⟨_,rfl⟩
  ·rintro Z2 ⟨x7,rfl⟩
   rw[Zbc,Wam];exact⟨x7,rfl⟩
 rintro Z1 ⟨x7,rfl⟩;have hz:=Zpg hW hO hC2 sb<|Zi3 ts s;refine Zam<|Zdf<|Zoh<|Za3<|Zaj<|Zbs<|Yz1 rfl<|Zaf<|Zxh<|Zai<|Znf ⟨_,rfl,?_⟩;rw[Zn2 hz,decide_eq_true rfl];refine iteF<|Za3<|Zaj<|Zay<|Yz1 rfl<|Yz1 rfl<|Yz1 rfl<|Zaf ⟨(N:Int),ts,_,_,rfl,hW,(ok N).1,(ok N).2.1,λms' hm'=>?_⟩;rw[Wam]at hm';rw[hm'.uniq hm,la N];refine Zab rfl<|Znf ⟨_,rfl,?_⟩;rw[decide_eq_true rfl];refine iteF<|Zbb ?_;have lz:=Zj1 hW (ok N).1 hz hm;rw[la N]at lz;obtain⟨w1,w2⟩:=Zl4 hW (ok N).1 hm;have hml:=hm.len;rw[Za5]at hml;refine Za9<|Yz2 rfl<|Zaj<|Zai<|Zay<|Yz1 rfl<|Yz1 rfl<|Zaf ⟨(N:Int),ts,_,rfl,hW,(ok N).1,λms' hm'=>?_⟩;rw[Wam]at hm';rw[hm'.uniq hm];refine jr_I (Or.inl ⟨by omega,by omega⟩)<|Zdt ?_;rw[<- lz,decide_eq_true rfl];exact q
end
theorem lenS {us:List Value}{n:Nat}(h:us.length=n+1):∃a t,us=a::t/\t.length=n:=by
 cases us with
 |nil=>exact absurd h.symm (Nat.succ_ne_zero n)
 |cons a t=>exact⟨a,t,rfl,Nat.succ.inj h⟩
theorem bK1 {α:Type _}{g r:List Value -> α}(h:∀a0,g [a0]=r [a0]) (us:List Value) (l:us.length=1):g us=r us:=by
 obtain⟨a0,u0,rfl,h0⟩:=lenS l;obtain rfl:=Wb2 h0;exact h a0
theorem bK2 {α:Type _}{g r:List Value -> α}(h:∀a0 a1,g [a0,a1]=r [a0,a1]) (us:List Value) (l:us.length=2):g us=r us:=by
 obtain⟨a0,u0,rfl,h0⟩:=lenS l;obtain⟨a1,u1,rfl,h1⟩:=lenS h0;obtain rfl:=Wb2 h1;exact h a0 a1
theorem bK3 {α:Type _}{g r:List Value -> α}(h:∀a0 a1 a2,g [a0,a1,a2]=r [a0,a1,a2]) (us:List Value) (l:us.length=3):g us=r us:=by
 obtain⟨a0,u0,rfl,h0⟩:=lenS l;obtain⟨a1,u1,rfl,h1⟩:=lenS h0;obtain⟨a2,u2,rfl,h2⟩:=lenS h1;obtain rfl:=Wb2 h2;exact h a0 a1 a2
theorem bK4 {α:Type _}{g r:List Value -> α}(h:∀a0 a1 a2 a3,g [a0,a1,a2,a3]=r [a0,a1,a2,a3]) (us:List Value) (l:us.length=4):g us=r us:=by
 obtain⟨a0,u0,rfl,h0⟩:=lenS l;obtain⟨a1,u1,rfl,h1⟩:=lenS h0;obtain⟨a2,u2,rfl,h2⟩:=lenS h1;obtain⟨a3,u3,rfl,h3⟩:=lenS h2;obtain rfl:=Wb2 h3;exact h a0 a1 a2 a3
def FnE (K:W.Frag) (x:Str) (st:Stmt):Prop:=∃(f:Addr) (fd:FuncData),W.nsIn K mainGlobals x=some (some (.ref f))/\Fun K x x st f fd
theorem fnE {K:W.Frag}{x:Str}{st:Stmt}{f:Addr}{oc kV doc pm cdv ct:Value}{od an:Option Addr}{sl:Array (Option Value)}(a:W.nsIn K mainGlobals x=some (some (.ref f))) (l:K.lookup f=some ⟨oc,od,.func<|W.fnOf x x (defArgs st) (defBody st) (defScope st) .none kV doc pm an cdv ct,sl⟩) (c:W.codeIn K cdv x=true) (k:W.keepIn K (.ref f)=true):FnE K x st:=⟨f,_,a,Zxt l c k⟩
theorem Zu5 {P:Program}{w:World}{K:W.Frag}{mg:Str->Option Value}{base h:Heap}(X:K.In h) (G:h.Ns mainGlobals mg) {x:Str}{st:Stmt}{ps:List Str}{lv:Nat}{sp:Sp}(e:FnE K x st) (ok:∀{f:Addr}{fd:FuncData},Fun K x x st f fd->FnOk P w K mg base CX0 lv f fd ps sp) (hb:∀(kV doc pm:Value) (an:Option Addr) (cdv ct:Value) (us:List Value),us.length=ps.length->bindArgs (W.fnOf x x (defArgs st) (defBody st) (defScope st) .none kV doc pm an cdv ct) ⟨us,[]⟩=pure (ps.zip us)):Callee P w K mg base lv x ps sp:=by
 obtain⟨f,fd,a,F⟩:=e;exact⟨⟨f,fd,ok F,F.binds hb,F.kp,W.mg_of X G a⟩⟩
theorem all_mk {l:PySem.W.OpenLaw}{w:World}{K:W.Frag}{h:Heap}{mg:Str->Option Value}{fa:Addr}(X:K.In h) (G:h.Ns mainGlobals mg) (hfa:mg "law" = some (.ref fa))
  (e1:FnE K "_law_draw" Ybe)
  (e2:FnE K "_law_pen" Yau)
  (e3:FnE K "_law_web" Ybf)
  (e4:FnE K "_law_order" Yah)
  (e5:FnE K "place_of" Ya0)
  (e6:FnE K "follower" Ya1)
  (e7:FnE K "forerunner" Ya2)
  (e8:FnE K "hand_beyond" Yba)
  (e9:FnE K "crossed_onward" Ya8)
  (e10:FnE K "back_of" Ya9)
  (e11:FnE K "round_from" Ybb)
  (e12:FnE K "crossed_faces" Yao)
  (e13:FnE K "least_first" Yam)
  (e14:FnE K "onward" Ya4)
  (e15:FnE K "face_of" Ya5)
  (e16:FnE K "faces" Yan)
  (e17:FnE K "parts_of" Yag)
  (e18:FnE K "lacking" Ya7)
  (e19:FnE K "holes" Ya6)
  (e20:FnE K "lack" Ybc)
  (e21:FnE K "turned_about" Ya3)
  (e22:FnE K "paths_of" Yaq)
  (e23:FnE K "crossed_times" Yas)
  (e24:FnE K "fits" Ybd)
  (e25:FnE K "ring_by" Yar)
  (e26:FnE K "sides" Yap)
  (e27:FnE K "turned_over" Yat)
  (e28:FnE K "_law_crossings" Yav)
  (e29:FnE K "_law_whole" Ybg)
  (e30:FnE K "law" Yae)
  (z0:W.nsIn K mainGlobals "abs" = some none)
  (z1:W.nsIn K mainGlobals "bool" = some none)
  (z2:W.nsIn K mainGlobals "enumerate" = some none)
  (z3:W.nsIn K mainGlobals "int" = some none)
  (z4:W.nsIn K mainGlobals "isinstance" = some none)
  (z5:W.nsIn K mainGlobals "len" = some none)
  (z6:W.nsIn K mainGlobals "list" = some none)
  (z7:W.nsIn K mainGlobals "max" = some none)
  (z8:W.nsIn K mainGlobals "min" = some none)
  (z9:W.nsIn K mainGlobals "range" = some none)
  (z10:W.nsIn K mainGlobals "set" = some none)
  (z11:W.nsIn K mainGlobals "sorted" = some none)
  (z12:W.nsIn K mainGlobals "sum" = some none)
  (z13:W.nsIn K mainGlobals "tuple" = some none)
  (z14:W.nsIn K mainGlobals "zip" = some none) :
  ∃fd:FuncData,(∀(s:Shared) (v:Value),BindsTo s fd ⟨[v],[]⟩ [("_law_script",v)])/\∀base:Heap,K.In base->base.Ns mainGlobals mg->FnOk l.prog w K mg base CX0 7 fa fd ["_law_script"] (spD K fLaw):=by
 obtain⟨f,fd,a,F⟩:=e30;have e:=hfa.symm.trans<|W.mg_of X G a;cases e;have mb:Mb mg:=by
  intro x hx;simp only[Wan,Wbk,or_false]at hx;rcases hx with rfl|rfl|rfl|rfl|rfl|rfl|rfl|rfl|rfl|rfl|rfl|rfl|rfl|rfl|rfl
  ·exact W.mg_none_of X G z0
  ·exact W.mg_none_of X G z1
  ·exact W.mg_none_of X G z2
  ·exact W.mg_none_of X G z3
  ·exact W.mg_none_of X G z4
  ·exact W.mg_none_of X G z5
  ·exact W.mg_none_of X G z6
  ·exact W.mg_none_of X G z7
  ·exact W.mg_none_of X G z8
  ·exact W.mg_none_of X G z9
  ·exact W.mg_none_of X G z10
  ·exact W.mg_none_of X G z11
  ·exact W.mg_none_of X G z12
  ·exact W.mg_none_of X G z13
  ·exact W.mg_none_of X G z14
 obtain⟨oc,od,kV,doc,pm,an,cdv,ct,osl,rfl,lk,hcd⟩:=F.ex;refine⟨W.fnOf "law" "law" (defArgs Yae) (defBody Yae) (defScope Yae) .none kV doc pm an cdv ct,λs v=>.of_eq rfl,λbase _ _=>?_⟩;have M:=@Zu5 l.prog w K mg base h X G;have C1:=M e1 (Zv7 mb) λ_ _ _ _ _ _=>bK2 λ_ _=>rfl;have C2:=M e2 (Zx1 mb) λ_ _ _ _ _ _=>bK1 λ_=>rfl;have C3:=M e3 (Zx3 mb C1) λ_ _ _ _ _ _=>bK3 λ_ _ _=>rfl;have C4:=M e4 (Zr4 mb C1) λ_ _ _ _ _ _=>bK2 λ_ _=>rfl;have C5:=M e5 (Zt5 mb) λ_ _ _ _ _ _=>bK2 λ_ _=>rfl;have C6:=M e6 (Zkv mb C5) λ_ _ _ _ _ _=>bK3 λ_ _ _=>rfl;have C7:=M e7 (Zir mb C5) λ_ _ _ _ _ _=>bK3 λ_ _ _=>rfl;have C8:=M e8 (Zvv mb) λ_ _ _ _ _ _=>bK2 λ_ _=>rfl;have C9:=M e9 (Zv8 mb C8 C6 C7) λ_ _ _ _ _ _=>bK4 λ_ _ _ _=>rfl;have C10:=M e10 (Zwi mb C8) λ_ _ _ _ _ _=>bK3 λ_ _ _=>rfl;have C11:=M e11 (Zx6 mb C9) λ_ _ _ _ _ _=>bK4 λ_ _ _ _=>rfl;have C12:=M e12 (Zyp mb C11 C10) λ_ _ _ _ _ _=>bK3 λ_ _ _=>rfl;have C13:=M e13 (Zrk mb) λ_ _ _ _ _ _=>bK1 λ_=>rfl;have C14:=M e14 (Zrv mb C6) λ_ _ _ _ _ _=>bK3 λ_ _ _=>rfl;have C15:=M e15 (Znw mb C14 C13) λ_ _ _ _ _ _=>bK3 λ_ _ _=>rfl;have C16:=M e16 (Zt7 mb C15) λ_ _ _ _ _ _=>bK2 λ_ _=>rfl;have C17:=M e17 (Zk3 mb) λ_ _ _ _ _ _=>bK1 λ_=>rfl;have C18:=M e18 (Znk mb C17) λ_ _ _ _ _ _=>bK2 λ_ _=>rfl;have C19:=M e19 (Ztz mb C18 C16) λ_ _ _ _ _ _=>bK2 λ_ _=>rfl;have C20:=M e20 (Zu0 mb C18 C12) λ_ _ _ _ _ _=>bK3 λ_ _ _=>rfl;have C21:=M e13 (Zua mb) λ_ _ _ _ _ _=>bK1 λ_=>rfl;have C22:=M e21 (Zkh mb C21) λ_ _ _ _ _ _=>bK1 λ_=>rfl;have C23:=M e22 (Ztx mb C17 C5) λ_ _ _ _ _ _=>bK1 λ_=>rfl;have C24:=M e23 (Zz1 mb) λ_ _ _ _ _ _=>bK2 λ_ _=>rfl;have C25:=M e24 (Zwj mb) λ_ _ _ _ _ _=>bK4 λ_ _ _ _=>rfl;have C26:=M e25 (Zwm mb) λ_ _ _ _ _ _=>bK3 λ_ _ _=>rfl;have C27:=M e26 (Zsl mb C23 C24 C25 C26) λ_ _ _ _ _ _=>bK2 λ_ _=>rfl;have C28:=M e27 (Zzm mb C22) λ_ _ _ _ _ _=>bK4 λ_ _ _ _=>rfl;have C29:=M e28 (Zse mb C1) λ_ _ _ _ _ _=>bK2 λ_ _=>rfl;have C30:=M e29 (Zsv mb) λ_ _ _ _ _ _=>bK1 λ_=>rfl;exact ok_law mb C2 C3 C4 C29 C20 C30 C27 C1 C28 C19 F
end Lw
open PySem PySem.W PyProof.Rows
namespace PySem.W.Fast
theorem te13897512289780036193:True:=trivial
def tw8776692912551601188:PySem.Program:=PySem.Challenge.pw_holefloor_k26_whole_even_lack_of_two_sid
theorem te8776692912551601188:PySem.Challenge.pw_holefloor_k26_whole_even_lack_of_two_sid=tw8776692912551601188:=rfl
def tw7976751721584396069:Unit:=()
def tw13470394728989212956:Unit:=()
def tw6617064326292436812:Unit:=()
def tw10068135838749432799:Unit:=()
def tw6246226049751275147:Unit:=()
def tw6784543077730139245:Unit:=()
def tw17625418810687316856:Unit:=()
def tw6514824047937257781:Unit:=()
def tw11948402149253336883:Unit:=()
def tw854324176474118732:Unit:=()
def tw2429959273995781334:Unit:=()
def tw15666025928437696980:Unit:=()
def tw5241295278873392181:Unit:=()
end PySem.W.Fast
set_option maxRecDepth 100000 in
set_option maxHeartbeats 0 in
theorem PySem.Challenge.cw_holefloor_k26_whole_even_lack_of_two_sid_holds : PySem.Challenge.rw_holefloor_k26_whole_even_lack_of_two_sid.Holds := by
 w_on;o_law;k_head; (case hw=>w_witness2)
 k_fill
 refine L2.walk_law (k:=7) (x:="_law_script") (l:=PySem.Challenge.rw_holefloor_k26_whole_even_lack_of_two_sid) ⟨rfl,by decide,by decide,rfl⟩ rfl rfl (λw h Y=>PySem.W.kIn_of Y) ?F
 case F=>
  intro w mg fa h KX G hmg;refine' Lw.all_mk KX G hmg ?e1 ?e2 ?e3 ?e4 ?e5 ?e6 ?e7 ?e8 ?e9 ?e10 ?e11 ?e12 ?e13 ?e14 ?e15 ?e16 ?e17 ?e18 ?e19 ?e20 ?e21 ?e22 ?e23 ?e24 ?e25 ?e26 ?e27 ?e28 ?e29 ?e30 ?z0 ?z1 ?z2 ?z3 ?z4 ?z5 ?z6 ?z7 ?z8 ?z9 ?z10 ?z11 ?z12 ?z13 ?z14
  all_goals first|(refine' Lw.fnE ?a ?l ?c ?k; (case a=>k_is); (case l=>k_is); (case c=>k_is); (case k=>k_is))|k_is

