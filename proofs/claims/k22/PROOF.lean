import PyProof.Rows.All
import Wide.All
import OpenK.AllK
import Wide.FinOn
import Lean
import PyProof.EqAt
import PyProof.EqKinds
import PyProof.TupleCall
import KE.KSortTup
import PyProof.NeKinds
import PyProof.ExcBaseAll.ValueError
import PyProof.ExcArgsOwn
import PyProof.NsDelKeeps
import PyProof.RulesAs
import PyProof.FString
import PyProof.AttrMissSeq
import PyProof.WalksS
import KE.KDictList
import KE.KDictSum
import PyProof.MinMaxWalk
import KE.KMinKey
import PyProof.Rows.CallKwBuiltin
import PyProof.Rows.RuleDivmod
import PyProof.ListMulAny
import PyProof.FactsAll.tuple
import KE.KRevIter
import PyProof.EnumMake
import KE.KMulAny
import PyProof.FactsAll.range
import PySem.Challenge.RW_holefloor_k22_whole_none_crossed
open List renaming getElem?_eq_getElem→Waa, length_map→Wab, getElem?_map→Wad, getD_eq_getElem?_getD→Wae, getElem?_eq_some_iff→Waf, replicate→Wag, range→Wai, length_cons→Waj, size_toArray→Wak, mem_cons→Wal, length_append→Waq, mem_cons_of_mem→Was, mem_of_getElem?→Wat, getElem?_set_self→Wau, mem_range→Waw, map_append→Wax, mem_map→Way, length_replicate→Waz, getElem?_append_right→Wa0, getElem?_set_ne→Wa1, length_take→Wa2, map_map→Wa3, mem_cons_self→Wa4, getElem_mem→Wa5, mem_filter→Wa6, length_range→Wa7, getElem?_append_left→Wa8, mem_append_right→Wa9, length→Wba, append_nil→Wbb, mem_singleton→Wbc, mem_append→Wbd, map_cons→Wbe, filter_cons→Wbi, getElem?_zip_eq_some→Wbj, filter_eq_self→Wbk, map→Wbm, tail→Wbo, all_eq_true→Wbp, append_assoc→Wbq, nodup_cons→Wbr, pairwise_iff_getElem→Wbs, filter_filter→Wbu, mem_iff_getElem?→Wbv, map_congr_left→Wbw, take_length→Wby, length_drop→Wbz, take_add_one→Wb0, filter_append→Wb1, pairwise_lt_range→Wb2, length_nil→Wb3, lookup_cons→Wb4, eq_nil_of_length_eq_zero→Wb5, ext_getElem?→Wb6, not_mem_nil→Wb7, getElem?_eq_none→Wb8, getElem?_replicate→Wcb, filter_congr→Wce, length_pos_of_mem→Wcg, find?_cons_of_neg→Wch, zip_cons_cons→Wcj, mem_replicate→Wck, length_singleton→Wcl, getElem_range→Wcm, getElem?_toArray→Wcn, getElem?_drop→Wco, pairwise_map→Wcr, find?_cons→Wcs, take_of_length_le→Wcz, map_replicate→Wc0, take_append_drop→Wc2, length_filter_le→Wc3, nodup_append→Wc5, mem_iff_getElem→Wc7, getElem?_range→Wc9, set_eq_of_length_le→Wda, length_erase_of_mem→Wdb, length_set→Wdc, any_cons→Wdd, find?_cons_of_pos→Wdf, mapM_toArray→Wdg, getElem?_set→Wdh, take_zero→Wdi, nodup_nil→Wdj, nodup_range→Wdl, map_snd_zip→Wdm, getElem_inj→Wdn, mem_erase_of_ne→Wdo, getElem_toArray→Wdp, getElem?_of_mem→Wdq, replicate_succ→Wdr, length_pos_iff→Wds, getElem?_take→Wdx, getElem?_take_of_lt→Wdz, getElem?_cons_succ→Wd3, length_zip→Wd4, mem_append_left→Wd8, mem_map_of_mem→Wea, flatMap_append→Web, filterMap_cons→Wec, zip_nil_right→Wed, pairwise_cons→Wee, mem_filterMap→Wef, map_singleton→Weg, all_cons→Weh, zip_nil_left→Wem, all_map→Wen, perm_middle→Wep, isEmpty_nil→Weq, ext_getElem→Wer, all_toArray→Wes
open PySem.Heap renaming get?_push_of_some→Wac, get?_push_size→Wam, lt_size→War, get?_update_self→Wb9, get?_push_ne→Wcf, get?_update_other→Wci, size_push→Wcq, size_update→Wc8, get?_update_ne→Wdt
open Nat renaming le_refl→Wah, ne_of_lt→Wav, lt_of_lt_of_le→Wbf, zero_le→Wbl, lt_succ_of_lt→Wbn, le_trans→Wbx, lt_of_le_of_lt→Wca, le_of_lt→Wcd, lt_irrefl→Wcw, le_succ→Wcx, lt_or_eq_of_le→Wc1, le_of_lt_succ→Wc6, ne_of_gt→Wdk, not_lt_zero→Wdu, min_eq_left→Wdv, min_self→Wdy, mod_lt→Wd0, lt_trichotomy→Wd1, le_succ_of_le→Wd2, sub_zero→Wd6, lt_or_ge→Wd7, zero_add→Weo
open Bool renaming false_ne_true→Wan, false_eq_true→Wao, and_eq_true→Wbg, eq_false_iff→Wbt, false_and→Wcc, true_and→Wcu, not_true→Wcv, and_false→Wcy, eq_iff_iff→Wde, beq_eq_decide_eq→Wd5, not_false→Wd9, and_true→Wei, and_comm→Wej
open Int renaming toNat_natCast→Wap, emod_lt_of_pos→Wcp, zero_add→Wct, emod_nonneg→Wc4, le_refl→Wdw
open Option renaming some→Wbh, getD_some→Wek, getD_none→Wel
set_option Elab.async false
set_option linter.all false
set_option maxRecDepth 100000
namespace L2
open PySem PySem.Spec PyProof.Rows
abbrev Key:=Sum Int Str
def keyIs:Key->Value->Bool
 |.inl k,v=>Value.isInt k v
 |.inr x,v=>Value.isStrOf x v
def keyH (w:World):Key->Int
 |.inl k=>hashInt k
 |.inr x=>hashStr w x
theorem Zbb:∀{k:Key}{v:Value},keyIs k v=true->(∃i t,k=Sum.inl i/\v=Value.int i t)\/(∃x t,k=Sum.inr x/\v=Value.str x t)
 |.inl i,v,h=>by
  obtain⟨t,e⟩:=Value.isInt_shape (k:=i) (v:=v) h;exact .inl ⟨i,t,rfl,e⟩
 |.inr x,v,h=>by
  obtain⟨t,e⟩:=Value.isStrOf_shape (x:=x) (v:=v) h;exact .inr ⟨x,t,rfl,e⟩
theorem Zpv (i:Int) (t:Tok):keyIs (.inl i) (.int i t)=true:=by simp[keyIs,Value.isInt]
theorem Zpy (x:Str) (t:Tok):keyIs (.inr x) (.str x t)=true:=by simp[keyIs,Value.isStrOf]
theorem Zu7 (a b:Int):decide ((Sum.inl a:Key)=Sum.inl b)=(a == b):=by
 by_cases e:a=b
 ·subst e;simp
 ·have h:¬ (Sum.inl a:Key)=Sum.inl b:=λq=>e (Sum.inl.inj q)
  rw[decide_eq_false h];exact(beq_eq_false_iff_ne.mpr e).symm
theorem Zwd (a b:Str):decide ((Sum.inr a:Key)=Sum.inr b)=decide (a=b):=by
 by_cases e:a=b
 ·subst e;simp
 ·have h:¬ (Sum.inr a:Key)=Sum.inr b:=λq=>e (Sum.inr.inj q)
  rw[decide_eq_false h,decide_eq_false e]
theorem Zwj (a:Int) (b:Str):decide ((Sum.inl a:Key)=Sum.inr b)=false:=decide_eq_false (λq=>nomatch q)
theorem Zu6 (a:Str) (b:Int):decide ((Sum.inr a:Key)=Sum.inl b)=false:=decide_eq_false (λq=>nomatch q)
def mixKind (prog:Program) (w:World):PySem.KeyKind prog w Key where
 is:=keyIs
 hash:=keyH w
 inj:=λv a b ha hb=>by
  rcases Zbb ha with ⟨i,t,rfl,rfl⟩|⟨x,t,rfl,rfl⟩
  ·rcases Zbb hb with ⟨j,u,rfl,e⟩|⟨y,u,rfl,e⟩
   ·injection e with e1 _;rw[e1]
   ·exact nomatch e
  ·rcases Zbb hb with ⟨j,u,rfl,e⟩|⟨y,u,rfl,e⟩
   ·exact nomatch e
   ·injection e with e1 _;rw[e1]
 byValue:=λk v h=>by
  rcases Zbb h with ⟨i,t,rfl,rfl⟩|⟨x,t,rfl,rfl⟩ <;> rfl
 pyHash:=λhv h=>by
  rcases Zbb hv with ⟨i,t,rfl,rfl⟩|⟨x,t,rfl,rfl⟩
  ·exact wpAny_pyHash_int h
  ·exact wpAny_pyHash_str h
 eqBool:=λhu hv h=>by
  rcases Zbb hu with ⟨i,t,rfl,rfl⟩|⟨x,t,rfl,rfl⟩
  ·rcases Zbb hv with ⟨j,u,rfl,rfl⟩|⟨y,u,rfl,rfl⟩
   ·rw[Zu7]at h;exact wpAny_eqBool_int h
   ·rw[Zwj]at h;exact SeqAt.EqAt.int_str i t y u _ _ _ _ h
  ·rcases Zbb hv with ⟨j,u,rfl,rfl⟩|⟨y,u,rfl,rfl⟩
   ·rw[Zu6]at h;exact SeqAt.EqAt.str_int x t j u _ _ _ _ h
   ·rw[Zwd]at h;exact wpAny_eqBool_str h
 «strs»:=λk x t v h=>by
  rcases Zbb h with ⟨i,u,rfl,e⟩|⟨y,u,rfl,e⟩
  ·exact nomatch e
  ·injection e with e1 _
   subst e1;cases v <;> rfl
theorem Zjq (prog:Program) (w:World) (i:Int) (t:Tok):(mixKind prog w).is (.inl i) (.int i t)=true:=Zpv i t
theorem Zka (prog:Program) (w:World) (x:Str) (t:Tok):(mixKind prog w).is (.inr x) (.str x t)=true:=Zpy x t
end L2
namespace L2
open PySem PySem.Spec PyProof.Rows
inductive V where
 |non|bl (b:Bool)|int (i:Int)|str (x:Str)|byt (b:Array UInt8)|flt (b:UInt64)|ref (a:Addr)|ty (n:String)
 deriving DecidableEq
def RelV:V->Value->Prop
 |.non,u=>u=Value.none
 |.bl b,u=>u=Value.bool b
 |.int i,u=>∃t,u=Value.int i t
 |.str x,u=>∃t,u=Value.str x t
 |.byt b,u=>∃t,u=Value.bytes b t
 |.flt b,u=>∃t,u=Value.float b t
 |.ref a,u=>u=Value.ref a
 |.ty n,u=>u=Value.type n
abbrev Vals:List V->List Value->Prop:=Paired RelV
theorem Vals.length {xs:List V}{us:List Value}(r:Vals xs us):xs.length=us.length:=Paired.length r
theorem Vals.get:∀{xs:List V}{us:List Value}{i:Nat}{x:V},Vals xs us->xs[i]?=some x->∃u,us[i]?=some u/\RelV x u
 |_,_,_,_,.nil,e=>by simp at e
 |_,_,0,_,.cons r _,e=>by simp at e;subst e;exact⟨_,rfl,r⟩
 |_,_,i+1,x,.cons _ t,e=>by
  obtain⟨u,h1,h2⟩:=Vals.get (i:=i) (x:=x) t (by simpa using e);exact⟨u,by simpa using h1,h2⟩
theorem Vals.set {x:V}{u:Value}(r:RelV x u):∀{xs:List V}{us:List Value}(i:Nat),Vals xs us->Vals (xs.set i x) (us.set i u)
 |_,_,_,.nil=>.nil
 |_,_,0,.cons _ t=>.cons r t
 |_,_,i+1,.cons q t=>.cons q (Vals.set r i t)
theorem Vals.append:∀{xs ys:List V}{us ws:List Value},Vals xs us->Vals ys ws->Vals (xs++ys) (us++ws)
 |_,_,_,_,.nil,s=>s
 |_,_,_,_,.cons r t,s=>.cons r (Vals.append t s)
theorem Vals.take:∀{xs:List V}{us:List Value}(n:Nat),Vals xs us->Vals (xs.take n) (us.take n)
 |_,_,0,_=>.nil
 |_,_,_+1,.nil=>.nil
 |_,_,n+1,.cons r t=>.cons r (Vals.take n t)
theorem Vals.drop:∀{xs:List V}{us:List Value}(n:Nat),Vals xs us->Vals (xs.drop n) (us.drop n)
 |_,_,0,r=>r
 |_,_,_+1,.nil=>.nil
 |_,_,n+1,.cons _ t=>Vals.drop n t
def RelO:Option V->Option Value->Prop
 |some v,some u=>RelV v u
 |none,none=>True
 |_,_=>False
def KV {κ:Type}:List (κ × V)->List (κ × Value)->Prop:=Paired λ(p:κ × V) (q:κ × Value)=>p.1=q.1/\RelV p.2 q.2
def kV:Key->V
 |.inl i=>.int i
 |.inr x=>.str x
inductive HO where
 /-- a list -/
 |lst (xs:List V)
 /-- a tuple (never changes) -/
 |tup (xs:List V)
 /-- a dict whose keys are ints and texts;one whose keys are tuples of ints and texts (the empty one is both) -/
 |dK (kvs:List (Key × V))|dT (kvs:List (List Key × V))
 /-- a set of ints: its members,its size -/
 |set (S:Int->Bool) (n:Nat)
 /-- an instance of the class at C,its dict at dx,its attributes -/
 |ins (C dx:Addr) (fs:List (Str × V))
 /-- the dict of the instance at x -/
 |own (x:Addr)
 /-- the dict of an exception -/
 |xd (fs:List (Str × V))
 /-- a bound method,f of x -/
 |met (f x:Addr)
 /-- a range object lo,lo+1,.. below hi -/
 |rng (lo hi:Int)
 /-- a thing that is known to the object (the script;a dict while a loop walks it): read,never written while it is so -/
 |frz (o:Obj) (u:HO)
 /-- a code object's table -/
 |tbl (ps:Array Value)
 /-- any other thing,by what is true of its one object (a def of one's own: SetO a S n:=HO.ext λh=>..) -/
 |ext (φ:Heap->Prop)
abbrev Hp:=Addr->Option HO
def upd (H:Hp) (a:Addr) (o:HO):Hp:=λb=>if b=a then some o else H b
theorem Zas {H:Hp}{a:Addr}{o:HO}:upd H a o a=some o:=by unfold upd;rw[if_pos rfl]
theorem Zap {H:Hp}{a b:Addr}{o:HO}(h:b≠a):upd H a o b=H b:=by unfold upd;rw[if_neg h]
theorem Zuu {H:Hp}{a:Addr}{o u:HO}:upd (upd H a o) a u=upd H a u:=by
 funext b;unfold upd;split <;> rfl
theorem Zxg {H:Hp}{a b:Addr}{o u:HO}(h:H a=some o) (h':H b=some u) (d:o≠u):a≠b:=by
 intro e;subst e;rw[h]at h';exact d (Wbh.inj h')
theorem Zau {H:Hp}{a b:Addr}{o:HO}(h:H a=some o) (h':H b=none):a≠b:=by
 intro e;subst e;rw[h]at h';cases h'
def IsTupN (h:Heap) (a:Addr) (its:Array Value):Prop:=∃o,h.get? a=some o/\(o.cls=.type "tuple" /\ ∃n,o.data=.seq its n)/\o.dict=none
theorem IsTupN.tup {h:Heap}{a:Addr}{its:Array Value}(x:IsTupN h a its):IsTup h a its:=let ⟨o,e,c,_⟩:=x; ⟨o,e,c⟩
theorem IsTupN.new (h:Heap) (items:Array Value):IsTupN (h.push { cls:=.type "tuple",data:=.seq items }) h.objs.size items:=⟨_,Wam _ rfl,⟨rfl,_,rfl⟩,rfl⟩
section
variable (P:Program) (w:World)
def ObjOk (H:Hp) (h:Heap) (a:Addr):HO->Prop
 |.lst xs=>xs.length<=sizeLine/\∃(its:List Value) (n:Nat),Vals xs its/\h.get? a=some { cls:=.type "list",data:=.seq its.toArray n }
 |.tup xs=>xs.length<=sizeLine/\∃its:List Value,Vals xs its/\IsTupN h a its.toArray
 |.dK kvs=>kvs.length<=sizeLine/\(a == sysModules)=false/\∃vs,KV kvs vs/\h.DictOf (mixKind P w) a vs
 |.dT kvs=>kvs.length<=sizeLine/\(a == sysModules)=false/\∃xs:List (List Key × Addr × Value),
   Paired (λ(p:List Key × V) (q:List Key × Addr × Value)=>p.1=q.1/\H q.2.1=some (.tup (p.1.map kV))/\RelV p.2 q.2.2) kvs xs ∧
   ∃o es ep,h.get? a=some o/\o.ExactDict/\o.data=.dict es ep/\es.toList=xs.map (entryOfKey (tupleKind (mixKind P w)))/\(xs.map (·.1)).Nodup
 |.set S n=>h.SetOf (intKind P w) a S n
 |.ins C dx fs=>H dx=some (.own a)/\fs.length<=1000/\dx≠a/\h.get? a=some (PySem.W.instObj C dx) ∧
   ∃mA,h.Ns1 dx mA/\(∀f,RelO (fs.lookup f) (mA f))/\PySem.Within mA (fs.map (·.1))
 |.own _=>∃o,h.get? a=some o
 |.xd fs=>∃mA,h.Ns1 a mA/\∀f,RelO (fs.lookup f) (mA f)
 |.rng lo hi=>∃t u v,h.get? a=some { cls:=.type "range",data:=.fields #[.int lo t,.int hi u,.int 1 v] }
 |.frz o u=>h.get? a=some o/\ObjOk H h a u
 |.tbl ps=>h.get? a=some { cls:=.none,data:=.fields ps }
 |.met f x=>h.get? a=some (PySem.W.methodObj (.ref f) (.ref x))
 |.ext φ=>φ h/\(∃o,h.get? a=some o)/\∀h1 h2:Heap,φ h1->(∀o,h1.get? a=some o->h2.get? a=some o) -> φ h2
def HOk (H:Hp) (h:Heap):Prop:=∀a o,H a=some o->ObjOk P w H h a o
end
section
variable {P:Program}{w:World}{H H':Hp}{h h':Heap}{a:Addr}{o:HO}
theorem ObjOk.lt (x:ObjOk P w H h a o):a<h.objs.size:=by
 cases o with
 |lst xs=>obtain⟨_,_,_,_,e⟩:=x;exact War e
 |tup xs=>obtain⟨_,_,_,p⟩:=x;exact p.tup.lt
 |dK kvs=>obtain⟨_,_,_,_,o,_,_,e,_⟩:=x;exact War e
 |dT kvs=>obtain⟨_,_,_,_,o,_,_,e,_⟩:=x;exact War e
 |set S n=>obtain⟨o,_,_,_,e,_⟩:=x;exact War e
 |ins C dx fs=>obtain⟨_,_,_,e,_⟩:=x;exact War e
 |own y=>obtain⟨_,e⟩:=x;exact War e
 |xd fs=>obtain⟨_,⟨_,_,_,e,_⟩,_⟩:=x;exact War e
 |rng lo hi=>obtain⟨_,_,_,e⟩:=x;exact War e
 |frz ob u=>obtain⟨e,_⟩:=x;exact War e
 |tbl ps=>exact War (show h.get? a=some _ from x)
 |met f y=>exact War (show h.get? a=some _ from x)
 |ext φ=>obtain⟨_,⟨_,e⟩,_⟩:=x;exact War e
theorem Paired.mapP {α β:Type}{F G:α -> β -> Prop}:∀{l₁:List α}{l₂:List β},Paired F l₁ l₂ -> (∀a b,F a b->G a b)->Paired G l₁ l₂
 |_,_,.nil,_=>.nil
 |_,_,.cons r t,f=>.cons (f _ _ r) (Paired.mapP t f)
theorem ObjOk.stay (x:ObjOk P w H h a o) (k:∀b u,(b=a\/H b=some (.own a))->h.get? b=some u->h'.get? b=some u)
  (ho:∀b,H b=some (.own a)->H' b=some (.own a)) (ht:∀b xs,H b=some (.tup xs)->H' b=some (.tup xs)):ObjOk P w H' h' a o:=by
 induction o with
 |lst xs=>obtain⟨z,its,n,r,e⟩:=x;exact⟨z,its,n,r,k _ _ (.inl rfl) e⟩
 |tup xs=>obtain⟨z,its,r,ob,e,c⟩:=x;exact⟨z,its,r,ob,k _ _ (.inl rfl) e,c⟩
 |dK kvs=>obtain⟨z,y,vs,r,ob,es,ep,e,c⟩:=x;exact⟨z,y,vs,r,ob,es,ep,k _ _ (.inl rfl) e,c⟩
 |dT kvs=>
  obtain⟨z,y,xs,r,ob,es,ep,e,c⟩:=x;exact⟨z,y,xs,Paired.mapP r λp q z=>⟨z.1,ht _ _ z.2.1,z.2.2⟩,ob,es,ep,k _ _ (.inl rfl) e,c⟩
 |set S n=>obtain⟨ob,es,ep,t,e,c⟩:=x;exact⟨ob,es,ep,t,k _ _ (.inl rfl) e,c⟩
 |ins C dx fs=>
  obtain⟨d,z,ne,e,mA,⟨od,es,ep,e2,c⟩,r⟩:=x;exact⟨ho _ d,z,ne,k _ _ (.inl rfl) e,mA,⟨od,es,ep,k _ _ (.inr d) e2,c⟩,r⟩
 |own y=>obtain⟨ob,e⟩:=x;exact⟨ob,k _ _ (.inl rfl) e⟩
 |xd fs=>obtain⟨mA,⟨od,es,ep,e,c⟩,r⟩:=x;exact⟨mA,⟨od,es,ep,k _ _ (.inl rfl) e,c⟩,r⟩
 |rng lo hi=>obtain⟨t,u,v,e⟩:=x;exact⟨t,u,v,k _ _ (.inl rfl) e⟩
 |frz ob u ih=>obtain⟨e,q⟩:=x;exact⟨k _ _ (.inl rfl) e,ih q⟩
 |tbl ps=>
  have e:h.get? a=some { cls:=.none,data:=.fields ps }:=x;show h'.get? a=some { cls:=.none,data:=.fields ps };exact k a _ (.inl rfl) e
 |met f y=>
  have e:h.get? a=some (PySem.W.methodObj (.ref f) (.ref y)):=x;show h'.get? a=some (PySem.W.methodObj (.ref f) (.ref y));exact k a _ (.inl rfl) e
 |ext φ=>obtain⟨p,⟨o,e⟩,st⟩:=x;exact⟨st _ _ p λo q=>k _ _ (.inl rfl) q,⟨o,k _ _ (.inl rfl) e⟩,st⟩
theorem HOk.lt (x:HOk P w H h) (e:H a=some o):a<h.objs.size:=(x a o e).lt
theorem HOk.fresh (x:HOk P w H h) (e:h.objs.size<=a):H a=none:=by
 cases q:H a with
 |none=>rfl
 |some u=>exact absurd (Wbf (x.lt q) e) (Wcw _)
theorem HOk.kept (x:HOk P w H h) (k:∀b u,h.get? b=some u->h'.get? b=some u):HOk P w H h':=λa o e=>
 (x a o e).stay (λb u _ q=>k b u q) (λ_ q=>q) λ_ _ q=>q
theorem HOk.laid (x:HOk P w H h) (k:∀b u,h.get? b=some u->h'.get? b=some u) (hp:h.objs.size<=a) (new:ObjOk P w (upd H a o) h' a o):HOk P w (upd H a o) h':=λb u e=>by
 have hn:=x.fresh hp;by_cases hb:b=a
 ·subst hb;rw[Zas]at e;cases e;exact new
 ·rw[Zap hb]at e
  exact(x b u e).stay (λc v _ q=>k c v q) (λc q=>by rw[Zap (Zau q hn)];exact q) λc xs q=>by rw[Zap (Zau q hn)];exact q
end
def Rd (H:Hp) (a:Addr) (u:HO):Prop:=H a=some u\/∃o,H a=some (.frz o u)
theorem Rd.ok {P:Program}{w:World}{H:Hp}{h:Heap}{a:Addr}{u:HO}(r:Rd H a u) (x:HOk P w H h):ObjOk P w H h a u:=by
 rcases r with r|⟨o,r⟩
 ·exact x a u r
 ·obtain⟨_,q⟩:=x a _ r
  exact q
def Mut:Option HO->Prop
 |some (.lst _)=>True
 |some (.dK _)=>True
 |some (.dT _)=>True
 |some (.set _ _)=>True
 |some (.ins _ _ _)=>True
 |some (.ext _)=>True
 |_=>False
section
variable {P:Program}{w:World}{H:Hp}{h h':Heap}{x e:Addr}{o':HO}
theorem HOk.write (ok:HOk P w H h) (mu:Mut (H x)) (he:e=x\/H e=some (.own x)) (k:∀b u,b≠e->h.get? b=some u->h'.get? b=some u) (heo:∃u,h'.get? e=some u)
  (new:ObjOk P w (upd H x o') h' x o'):HOk P w (upd H x o') h':=λb u q=>by
 have nown:∀c y,H c=some (.own y)->c≠x:=λc y r z=>by subst z;rw[r]at mu;exact mu
 have ntup:∀c xs,H c=some (.tup xs)->c≠x:=λc xs r z=>by subst z;rw[r]at mu;exact mu
 by_cases hb:b=x
 ·subst hb;rw[Zas]at q;cases q;exact new
 ·rw[Zap hb]at q
  by_cases hbe:b=e
  ·have q':H b=some (.own x):=by
    rcases he with z|z
    ·exact absurd (hbe.trans z) hb
    ·rw[hbe];exact z
   rw[q]at q';cases q';obtain⟨v,hv⟩:=heo;exact⟨v,by rw[hbe];exact hv⟩
  ·refine(ok b u q).stay (λc v hc r=>k c v ?_ r) (λc r=>by rw[Zap (nown c b r)];exact r) λc xs r=>by rw[Zap (ntup c xs r)];exact r
   rcases hc with rfl|hc
   ·exact hbe
   ·rintro rfl
    rcases he with z|z
    ·exact nown c b hc z
    ·rw[hc]at z;cases z;exact hb rfl
end
structure Un (fs ex:List Addr) (H H':Hp) (h h':Heap):Prop where
 keep:∀b o,h.get? b=some o->H b=none->b ∉ fs->b ∉ ex->h'.get? b=some o
 slot:∀b o,h.get? b=some o->H b=none->b∈fs->b ∉ ex->∃sl,h'.get? b=some { o with slots:=sl }
 free:∀b o,h.get? b=some o->H b=none->b ∉ ex->H' b=none
 there:∀b o,h.get? b=some o->b ∉ ex->∃o',h'.get? b=some o'
 tups:∀b xs,H b=some (.tup xs)->H' b=some (.tup xs)
 frzs:∀b o u,H b=some (.frz o u)->H' b=some (.frz o u)
 tbls:∀b ps,H b=some (.tbl ps)->∃more,H' b=some (.tbl (ps++more))
section
variable {fs fs' ex ex':List Addr}{H H1 H2:Hp}{h h1 h2 h':Heap}{a x e:Addr}{o:HO}
theorem Un.any (u:Un fs ex H H1 h h1) {b:Addr}{ob:Obj}(q:h.get? b=some ob) (n:H b=none) (hx:b ∉ ex):∃sl,h1.get? b=some { ob with slots:=sl }:=by
 by_cases hb:b∈fs
 ·exact u.slot b ob q n hb hx
 ·exact⟨ob.slots,u.keep b ob q n hb hx⟩
theorem Un.kept (k:∀b u,h.get? b=some u->h'.get? b=some u):Un fs ex H H h h':=
 ⟨λb ob q _ _ _=>k b ob q,λb ob q _ _ _=>⟨ob.slots,k b ob q⟩,λ_ _ _ n _=>n,λb ob q _=>⟨ob,k b ob q⟩,λ_ _ q=>q,λ_ _ _ q=>q,λ_ ps q=>⟨#[],by rw[q];simp⟩⟩
theorem Un.refl:Un fs ex H H h h:=Un.kept λ_ _ q=>q
theorem Un.laid (k:∀b u,h.get? b=some u->h'.get? b=some u) (hp:h.objs.size<=a) (hn:H a=none):Un fs ex H (upd H a o) h h' where
 keep:=λb u q _ _ _=>k b u q
 slot:=λb u q _ _ _=>⟨u.slots,k b u q⟩
 free:=λb u q n _=>by rw[Zap (Wav (Wbf (War q) hp))];exact n
 there:=λb u q _=>⟨u,k b u q⟩
 tups:=λb xs q=>by rw[Zap (Zau q hn)];exact q
 frzs:=λb u xs q=>by rw[Zap (Zau q hn)];exact q
 tbls:=λb ps q=>⟨#[],by rw[Zap (Zau q hn),q];simp⟩
theorem Un.write (mu:Mut (H x)) (he:e=x\/H e=some (.own x)) (k:∀b u,b≠e->h.get? b=some u->h'.get? b=some u) (heo:∃u,h'.get? e=some u):Un fs ex H (upd H x o) h h':=by
 have hx:∀b,H b=none->b≠x:=λb n z=>by subst z;rw[n]at mu;exact mu
 have hb:∀b,H b=none->b≠e:=λb n z=>by
  subst z;rcases he with r|r
  ·exact hx b n r
  ·rw[n]at r;cases r
 have hm:∀b u,H b=some u->¬ Mut (some u)->b≠x:=λb u q nm z=>by subst z;rw[q]at mu;exact nm mu
 refine⟨λb u q n _ _=>k b u (hb b n) q,λb u q n _ _=>⟨u.slots,k b u (hb b n) q⟩,λb u q n _=>by rw[Zap (hx b n)];exact n,λb u q _=>?_,
  λb xs q=>by rw[Zap (hm b _ q λz=>z)];exact q,λb u xs q=>by rw[Zap (hm b _ q λz=>z)];exact q,λb ps q=>⟨#[],by rw[Zap (hm b _ q λz=>z),q];simp⟩⟩
 by_cases hbe:b=e
 ·subst hbe;exact heo
 ·exact⟨u,k b u hbe q⟩
end
def trk (h:Heap) (H:Hp):List Addr:=(Wai h.objs.size).filter λa=>(H a).isSome
def hidT (h:Heap) (H:Hp):Heap:=PySem.W.hideAll h (trk h H)
theorem Znl (h:Heap) (H:Hp):(hidT h H).objs.size=h.objs.size:=PySem.W.hideAll_size _ _
theorem Zqt {h:Heap}{H:Hp}{b:Addr}{o:Obj}(e:h.get? b=some o) (n:H b=none):(hidT h H).get? b=some o:=
 PySem.W.hideAll_get _ e λhm=>by
  have q:(H b).isSome=true:=(Wa6.mp hm).2;rw[n]at q;simp at q
theorem Ztn {h:Heap}{H:Hp}{b:Addr}{o:Obj}(e:(hidT h H).get? b=some o):h.get? b=some o/\H b=none:=by
 have e':h.get? b=some o:=PySem.W.of_hideAll (trk h H) e;refine⟨e',?_⟩;cases q:H b with
 |none=>rfl
 |some x=>
  have hm:b∈trk h H:=Wa6.mpr ⟨Waw.mpr (War e'),by simp[q]⟩;have z:(hidT h H).get? b=none:=PySem.W.hideAll_none (trk h H) hm;rw[z]at e;cases e
def allNews (g h:Heap) (L:Addr):List (Addr × Obj):=(Wai h.objs.size).filterMap λa=>if a=L\/(g.get? a).isSome=true then none else (h.get? a).map λo=>(a,o)
def rest (g h:Heap) (L d:Addr):List (Addr × Obj):=(allNews g h L).filter λp=>decide (p.1≠d)
end L2
namespace L2
open PySem PySem.Spec PyProof.Rows
structure Mod (K:W.Frag) (mg:Str->Option Value) (base:Heap):Prop where
 kin:K.In base
 glob:base.Ns mainGlobals mg
 blt:∃mb,base.Ns builtinsNs mb/\∀x:Str,x ≠ "__name__" -> mb x=bootBuiltins x
 nolimit:base.NoLimit
structure Cx where
 prog:Program
 w:World
 K:W.Frag
 mg:Str->Option Value
 base:Heap
 A:Around
 N:List Str
 s₀:Shared
 H₀:Hp
 env:Env
 outer:List Env
 stack:List Env
 ex:List Addr
 fn:Str->Bool
 calm:Bool
 pn:List (Addr × Obj)
 xe:Value->Shared->Prop
def frs (l:List Env):List Addr:=l.filterMap (·.frame)
abbrev Cx.fs (X:Cx):List Addr:=frs X.outer
def Vis (sc:Scope) (x:Str):Prop:=sc.names.lookup x=some .local\/sc.names.lookup x=some .cell\/sc.names.lookup x=some .free
def Loc (sc:Scope) (x:Str):Prop:=sc.names.lookup x=some .local\/sc.names.lookup x=some .cell
def Look (env:Env) (h:Heap) (m:Str->Option Value) (x:Str) (u:Value):Prop:=
 (env.kindOf x=some .local/\m x=some u)\/((env.kindOf x=some .cell\/env.kindOf x=some .free)/\∃c,env.cells.lookup x=some c/\h.IsCell c (some u))
structure Cx.Ok (X:Cx):Prop where
 mod:Mod X.K X.mg X.base
 kind:X.env.scope.kind=.function
 glob:X.env.globals=mainGlobals
 blt:X.env.builtins=builtinsNs
 above:X.s₀.heap.objs.size<=X.env.locals
 inj:∀x y c,X.env.cells.lookup x=some c->X.env.cells.lookup y=some c->x=y
 has:∀x,(X.env.kindOf x=some .cell\/X.env.kindOf x=some .free)->∃c,X.env.cells.lookup x=some c
 cab:∀x c,X.fn x=true->X.env.cells.lookup x=some c->X.s₀.heap.objs.size<=c
 hd:X.calm=true->X.A.handled=none
 frames:X.A.frames=some X.stack
 stk:X.stack=X.outer\/(X.stack=X.env::X.outer/\X.env.frame=some X.env.locals)
 exf:∀b∈X.ex,b≠X.env.locals/\∀x c,X.env.cells.lookup x=some c->c≠b
 bs:∀b o,X.base.get? b=some o->X.s₀.heap.get? b=some o/\X.H₀ b=none
 bsz:X.base.objs.size<=X.s₀.heap.objs.size
 noex:∀b o,X.base.get? b=some o->b ∉ X.ex
 exfs:∀b∈X.ex,b ∉ X.fs
 funs:X.s₀.heap.FunFrames X.base X.outer
 frf:∀b∈X.fs,X.H₀ b=none
structure Inv (X:Cx) (pins:List (Addr × Obj)) (σ:List (Option V)) (H:Hp) (s:Shared):Prop where
 ok:X.Ok
 os:s.os=X.s₀.os
 bare:AllBare s.gens
 base:Un X.fs X.ex X.H₀ H X.s₀.heap s.heap
 loc:∃m,s.heap.Ns X.env.locals m/\∀(i:Nat) (x:Str) (v:V),X.N[i]?=some x -> σ[i]?=some (some v)->Vis X.env.scope x->∃u,RelV v u/\Look X.env s.heap m x u
 cell:∀x c,X.env.cells.lookup x=some c->∃v,s.heap.IsCell c v
 free:H X.env.locals=none
 freeC:∀x c,X.env.cells.lookup x=some c->H c=none
 pin:∀p∈X.pn++pins,s.heap.get? p.1=some p.2/\H p.1=none/\p.1≠X.env.locals/\p.1 ∉ X.fs/\∀v,p.2.data≠.cell v
 hok:HOk X.prog X.w H s.heap
 len:σ.length=X.N.length
section
variable {X:Cx}{pins:List (Addr × Obj)}{σ:List (Option V)}{H H':Hp}{s:Shared}{h':Heap}
theorem Cx.Ok.nofr (ok:X.Ok) {b:Addr}{o:Obj}(e:X.base.get? b=some o):b ∉ X.fs:=λhb=>by
 have:=(ok.funs.mem hb).1;rw[e]at this;cases this
theorem Inv.bs (I:Inv X pins σ H s):∀b o,X.base.get? b=some o->s.heap.get? b=some o/\H b=none:=λb o e=>
 ⟨I.base.keep b o (I.ok.bs b o e).1 (I.ok.bs b o e).2 (I.ok.nofr e) (I.ok.noex b o e),I.base.free b o (I.ok.bs b o e).1 (I.ok.bs b o e).2 (I.ok.noex b o e)⟩
theorem Inv.bk (I:Inv X pins σ H s):∀b o,X.base.get? b=some o->s.heap.get? b=some o:=λb o e=>(I.bs b o e).1
theorem Inv.mod (I:Inv X pins σ H s):Mod X.K X.mg X.base:=I.ok.mod
theorem Inv.kIn (I:Inv X pins σ H s):X.K.In s.heap:=I.ok.mod.kin.keeps I.bk
theorem Inv.lt (I:Inv X pins σ H s):X.env.locals<s.heap.objs.size:=let ⟨_,hn,_⟩:=I.loc;hn.lt
theorem Inv.sz (I:Inv X pins σ H s):X.s₀.heap.objs.size<=s.heap.objs.size:=Wbx I.ok.above (Wcd I.lt)
theorem Inv.nofs (I:Inv X pins σ H s) {a:Addr}(h:s.heap.objs.size<=a):a ∉ X.fs:=λhb=>by
 obtain⟨_,o,ho,_⟩:=I.ok.funs.mem hb;exact absurd (Wbf (War ho) (Wbx I.sz h)) (Wcw _)
theorem Inv.cne (I:Inv X pins σ H s):∀x c,X.env.cells.lookup x=some c->c≠X.env.locals:=λx c e z=>by
 obtain⟨v,o,ho,hd⟩:=I.cell x c e;obtain⟨m,⟨o',es,ep,ho',hd',_⟩,_⟩:=I.loc;rw[z,ho']at ho;cases ho;rw[hd']at hd;cases hd
theorem Inv.funs (I:Inv X pins σ H s):s.heap.FunFrames X.base X.outer:=by
 have all:∀(l:List Env),(∀b∈frs l,b∈X.fs)->X.s₀.heap.FunFrames X.base l->s.heap.FunFrames X.base l:=by
  intro l
  induction l with
  |nil=>intro _ _;trivial
  |cons env r ih=>
   intro hs hl;obtain⟨hk,⟨L,o,hf,hn,ho,hd⟩,hr⟩:=hl;have hL:L∈X.fs:=hs L (by unfold frs;rw[Wec,hf];exact Wa4);obtain⟨sl,e⟩:=I.base.slot L o ho (I.ok.frf L hL) hL λz=>I.ok.exfs L z hL;exact⟨hk,⟨L,_,hf,hn,e,hd⟩,ih (λb hb=>hs b (by unfold frs;rw[Wec,hf];exact Was _ hb)) hr⟩
 exact all X.outer (λ_ hb=>hb) I.ok.funs
theorem Inv.stack (I:Inv X pins σ H s):s.heap.FunFrames X.base X.stack:=by
 rcases I.ok.stk with e|⟨e,hf⟩
 ·rw[e];exact I.funs
 ·rw[e]
  obtain⟨m,hn,_⟩:=I.loc;refine .cons (by rw[I.ok.kind];decide) hf hn ?_ I.funs;exact Heap.get?_none_of_le (Wbx I.ok.bsz I.ok.above)
theorem Inv.stkSub (I:Inv X pins σ H s):∀b∈frs X.stack,b∈X.env.locals::X.fs:=λb hb=>by
 rcases I.ok.stk with e|⟨e,hf⟩
 ·rw[e]at hb;exact Was _ hb
 ·rw[e]at hb
  unfold frs at hb;rw[Wec,hf]at hb;exact hb
theorem Inv.stkFree (I:Inv X pins σ H s):∀b∈frs X.stack,H b=none:=λb hb=>by
 rcases Wal.mp (I.stkSub b hb) with e|hb
 ·rw[e];exact I.free
 ·obtain⟨_,o,ho,_⟩:=I.ok.funs.mem hb
  exact I.base.free b o ho (I.ok.frf b hb) λz=>I.ok.exfs b z hb
theorem Inv.step {g':Array GenState}{t':Nat}{d':Drawn}{ch:List Addr}(I:Inv X pins σ H s)
  (hch:∀b∈ch,(b∈X.ex\/X.s₀.heap.objs.size<=b)/\b≠X.env.locals/\(∀x c,X.env.cells.lookup x=some c->c≠b)/\∀p∈X.pn++pins,p.1≠b)
  (keep:∀b o,b≠X.env.locals->b ∉ X.fs->b ∉ ch->s.heap.get? b=some o->H b=none->h'.get? b=some o)
  (slot:∀b o,b≠X.env.locals->b∈X.fs->b ∉ ch->s.heap.get? b=some o->H b=none->∃sl,h'.get? b=some { o with slots:=sl }) (free:∀b o,b ∉ ch->s.heap.get? b=some o->H b=none->H' b=none)
  (there:∀b o,b ∉ ch->s.heap.get? b=some o->∃o',h'.get? b=some o')
  (tups:∀b xs,H b=some (.tup xs)->H' b=some (.tup xs)) (frzs:∀b o u,H b=some (.frz o u)->H' b=some (.frz o u)) (tbls:∀b ps,H b=some (.tbl ps)->∃more,H' b=some (.tbl (ps++more)))
  (ns:∀m,s.heap.Ns X.env.locals m->h'.Ns X.env.locals m) (hok:HOk X.prog X.w H' h') (hg:AllBare g') :
  Inv X pins σ H' { s with heap:=h',gens:=g',drawn:=d',toks:=t' }:=by
 have neL:∀b o,X.s₀.heap.get? b=some o->b≠X.env.locals:=λb o e=>Wav (Wbf (War e) I.ok.above);have neC:∀b o,X.s₀.heap.get? b=some o->b ∉ X.ex->b ∉ ch:=λb o e hx hb=>by
  rcases(hch b hb).1 with z|z
  ·exact hx z
  ·exact absurd (Wbf (War e) z) (Wcw _)
 have cellK:∀x c,X.env.cells.lookup x=some c->∀v,s.heap.IsCell c v->h'.IsCell c v:=λx c e v hq_=>by
  obtain⟨o,ho,hd⟩:=hq_;have nch:c ∉ ch:=λz=>(hch c z).2.2.1 x c e rfl;by_cases hc:c∈X.fs
  ·obtain⟨sl,q⟩:=slot c o (I.cne x c e) hc nch ho (I.freeC x c e)
   exact⟨_,q,hd⟩
  ·exact⟨o,keep c o (I.cne x c e) hc nch ho (I.freeC x c e),hd⟩
 refine⟨I.ok,I.os,hg,⟨λb o e n hb hx=>?_,λb o e n hb hx=>?_,λb o e n hx=>?_,λb o e hx=>?_,λb xs e=>tups b xs (I.base.tups b xs e),λb o xs e=>frzs b o xs (I.base.frzs b o xs e),λb ps e=>?_⟩,?_,λx c e=>?_,?_,λx c e=>?_,λp hp=>?_,hok,I.len⟩
 ·exact keep b o (neL b o e) hb (neC b o e hx) (I.base.keep b o e n hb hx) (I.base.free b o e n hx)
 ·obtain⟨sl,e1⟩:=I.base.slot b o e n hb hx
  obtain⟨sl',e2⟩:=slot b _ (neL b o e) hb (neC b o e hx) e1 (I.base.free b o e n hx);exact⟨sl',e2⟩
 ·obtain⟨o',e1⟩:=I.base.there b o e hx
  exact free b o' (neC b o e hx) e1 (I.base.free b o e n hx)
 ·obtain⟨o',e1⟩:=I.base.there b o e hx
  exact there b o' (neC b o e hx) e1
 ·obtain⟨m1,e1⟩:=I.base.tbls b ps e
  obtain⟨m2,e2⟩:=tbls b _ e1;exact⟨m1++m2,by rw[e2,Array.append_assoc]⟩
 ·obtain⟨m,hn,hl⟩:=I.loc
  refine⟨m,ns m hn,λi x v e1 e2 e3=>?_⟩;obtain⟨u,r,l⟩:=hl i x v e1 e2 e3;refine⟨u,r,?_⟩;rcases l with l|⟨k,c,e,z⟩
  ·exact .inl l
  ·exact .inr ⟨k,c,e,cellK x c e _ z⟩
 ·obtain⟨v,z⟩:=I.cell x c e
  exact⟨v,cellK x c e v z⟩
 ·obtain⟨m,⟨o,_,_,ho,_⟩,_⟩:=I.loc
  exact free _ o (λz=>(hch _ z).2.1 rfl) ho I.free
 ·obtain⟨v,o,ho,hd⟩:=I.cell x c e
  exact free c o (λz=>(hch c z).2.2.1 x c e rfl) ho (I.freeC x c e)
 ·obtain⟨e,n,ne,nf,d⟩:=I.pin p hp
  have nch:p.1 ∉ ch:=λz=>(hch p.1 z).2.2.2 p hp rfl;exact⟨keep p.1 p.2 ne nf nch e n,free p.1 p.2 nch e n,ne,nf,d⟩
theorem Inv.un {t':Nat}(I:Inv X pins σ H s) (u:Un X.fs [] H H' s.heap h') (hok:HOk X.prog X.w H' h'):Inv X pins σ H' { s with heap:=h',toks:=t' }:=by
 obtain⟨m,⟨o,es,ep,ho,r⟩,_⟩:=id I.loc;obtain⟨sl,hL⟩:=u.any ho I.free (by simp);exact I.step (g':=s.gens) (d':=s.drawn) (ch:=[]) (λ_ z=>nomatch z) (λb o _ hb _ e n=>u.keep b o e n hb (by simp)) (λb o _ hb _ e n=>u.slot b o e n hb (by simp)) (λb o _ e n=>u.free b o e n (by simp)) (λb o _ e=>u.there b o e (by simp)) u.tups u.frzs u.tbls (λm' hm=>by
  obtain⟨o',es',ep',ho',r'⟩:=hm;rw[ho]at ho';cases ho';exact⟨_,es',ep',hL,r'⟩) hok I.bare
theorem Inv.call {g':Array GenState}{t':Nat}{d':Drawn}{ch:List Addr}(I:Inv X pins σ H s) (u:Un (frs X.stack) ch H H' s.heap h') (hok:HOk X.prog X.w H' h') (hg:AllBare g')
  (hch:∀b∈ch,(b∈X.ex\/X.s₀.heap.objs.size<=b)/\b≠X.env.locals/\(∀x c,X.env.cells.lookup x=some c->c≠b)/\∀p∈X.pn++pins,p.1≠b) :
  Inv X pins σ H' { s with heap:=h',gens:=g',drawn:=d',toks:=t' }:=by
 obtain⟨m,⟨o,es,ep,ho,r⟩,_⟩:=id I.loc;obtain⟨sl,hL⟩:=u.any ho I.free λz=>(hch _ z).2.1 rfl;exact I.step (ch:=ch) hch (λb o hL hb hc e n=>u.keep b o e n (λz=>(Wal.mp (I.stkSub b z)).elim hL hb) hc) (λb o _ _ hc e n=>u.any e n hc) (λb o hc e n=>u.free b o e n hc) (λb o hc e=>u.there b o e hc) u.tups u.frzs u.tbls (λm' hm=>by
  obtain⟨o',es',ep',ho',r'⟩:=hm;rw[ho]at ho';cases ho';exact⟨_,es',ep',hL,r'⟩) hok hg
theorem Inv.turned {t':Nat}{it:Addr}(I:Inv X pins σ H s) (k:∀b o,b≠it->s.heap.get? b=some o->h'.get? b=some o) (hn:H it=none) (hL:it≠X.env.locals)
  (h1:it∈X.ex\/X.s₀.heap.objs.size<=it) (h2:∀x c,X.env.cells.lookup x=some c->c≠it) (h3:∀p∈X.pn++pins,p.1≠it):Inv X pins σ H { s with heap:=h',toks:=t' }:=by
 have nit:∀b u,H b=some u->b≠it:=λb u e z=>by rw[z,hn]at e;cases e
 refine I.step (g':=s.gens) (d':=s.drawn) (ch:=[it]) (λb hb=>?_) (λb o _ _ hc e _=>k b o (λz=>hc (by simp[z])) e) (λb o _ _ hc e _=>⟨o.slots,k b o (λz=>hc (by simp[z])) e⟩) (λ_ _ _ _ n=>n)
  (λb o hc e=>⟨o,k b o (λz=>hc (by simp[z])) e⟩) (λ_ _ e=>e) (λ_ _ _ e=>e) (λb ps e=>⟨#[],by rw[e];simp⟩) (λm hm=>?_) (λb u e=>?_) I.bare
 ·have e:b=it:=by simpa using hb
  subst e;exact⟨h1,hL,h2,h3⟩
 ·obtain⟨o,es,ep,ho,r⟩:=hm
  exact⟨o,es,ep,k _ o (Ne.symm hL) ho,r⟩
 ·refine(I.hok b u e).stay (λc v hc q=>k c v ?_ q) (λ_ q=>q) λ_ _ q=>q
  rcases hc with z|z
  ·rw[z];exact nit b u e
  ·exact nit c _ z
theorem Inv.tok (I:Inv X pins σ H s) (t:Nat):Inv X pins σ H { s with toks:=t }:=I.un (h':=s.heap) (t':=t) Un.refl I.hok
theorem Inv.kept {t':Nat}(I:Inv X pins σ H s) (k:∀b u,s.heap.get? b=some u->h'.get? b=some u):Inv X pins σ H { s with heap:=h',toks:=t' }:=I.un (Un.kept k) (I.hok.kept k)
theorem Inv.laid {a:Addr}{o:HO}{t':Nat}(I:Inv X pins σ H s) (k:∀b u,s.heap.get? b=some u->h'.get? b=some u) (hp:s.heap.objs.size<=a) (new:ObjOk X.prog X.w (upd H a o) h' a o) :
  Inv X pins σ (upd H a o) { s with heap:=h',toks:=t' }:=I.un (Un.laid k hp (I.hok.fresh hp)) (I.hok.laid k hp new)
theorem Inv.write {x e:Addr}{o:HO}{t':Nat}(I:Inv X pins σ H s) (mu:Mut (H x)) (he:e=x\/H e=some (.own x)) (k:∀b u,b≠e->s.heap.get? b=some u->h'.get? b=some u) (heo:∃u,h'.get? e=some u)
  (new:ObjOk X.prog X.w (upd H x o) h' x o):Inv X pins σ (upd H x o) { s with heap:=h',toks:=t' }:=I.un (Un.write mu he k heo) (I.hok.write mu he k heo new)
theorem Inv.pins_of {pins':List (Addr × Obj)}(I:Inv X pins σ H s) (h:∀p∈pins',s.heap.get? p.1=some p.2/\H p.1=none/\p.1≠X.env.locals/\p.1 ∉ X.fs/\∀v,p.2.data≠.cell v):Inv X pins' σ H s:=
 ⟨I.ok,I.os,I.bare,I.base,I.loc,I.cell,I.free,I.freeC,λp hp=>(Wbd.mp hp).elim (λz=>I.pin p (Wd8 _ z)) (h p),I.hok,I.len⟩
theorem Zky {N:List Str}(hN:N.Nodup) {i j:Nat}{x:Str}(a:N[i]?=some x) (b:N[j]?=some x):i=j:=by
 obtain⟨h1,e1⟩:=Waf.mp a;obtain⟨h2,e2⟩:=Waf.mp b;exact(Wdn hN).mp (e1.trans e2.symm)
theorem Ziy {M:Model}{A:Around}{E:Value->Shared->Prop}{i:Nat}{x:Str}{v:V}{u:Value}{Q:Unit->Shared->Prop}(I:Inv X pins σ H s) (hN:X.N.Nodup) (hi:X.N[i]?=some x) (hx:Loc X.env.scope x) (r:RelV v u)
  (h:∀s',Inv X pins (σ.set i (some v)) H s' -> (∃a,Heap.SameBut a s.heap s'.heap/\(a=X.env.locals\/X.env.cells.lookup x=some a))->Q () s') (hf:X.fn x=true\/X.env.scope.names.lookup x=some .local:=by first|exact .inl rfl|exact .inr rfl|assumption):wpAny M A (storeName X.env x u) Q E s:=by
 obtain⟨m,hn,hl⟩:=id I.loc;have hcls:(X.env.scope.kind == .class || (X.env.scope.kind == .module && X.env.locals != X.env.globals))=false:=by rw[I.ok.kind];rfl
 have hiσ:i < σ.length:=by rw[I.len];exact(Waf.mp hi).1
 have cne:=I.cne;have tracked:∀{a:Addr}{h':Heap},(∃o,s.heap.get? a=some o/\H a=none)->Heap.SameBut a s.heap h' -> HOk X.prog X.w H h':=λ{a h'} ha hs b ob e=>by
  obtain⟨_,_,hfree⟩:=ha;refine(I.hok b ob e).stay (λc w' hc q=>(hs.2 c ?_).trans q) (λ_ q=>q) λ_ _ q=>q;rintro rfl;rcases hc with rfl|hc
  ·rw[hfree]at e;cases e
  ·rw[hfree]at hc;cases hc
 rcases hx with hk|hk
 ·refine wpAny_storeName_local hk hn (λh' hn' hs=>?_) hcls
  obtain⟨oL,_,_,hoL,_⟩:=id hn;refine h _ ⟨I.ok,I.os,I.bare,⟨λb o e n hb hx=>?_,λb o e n hb hx=>?_,I.base.free,λb o e hx=>?_,I.base.tups,I.base.frzs,I.base.tbls⟩,⟨_,hn',λj y v' e1 e2 e3=>?_⟩,λy c e=>?_,I.free,I.freeC,λp hp=>?_,tracked ⟨oL,hoL,I.free⟩ hs,by simpa using I.len⟩ ⟨_,hs,.inl rfl⟩
  ·exact(hs.2 b (Wav (Wbf (War e) I.ok.above))).trans (I.base.keep b o e n hb hx)
  ·obtain⟨sl,e1⟩:=I.base.slot b o e n hb hx
   exact⟨sl,(hs.2 b (Wav (Wbf (War e) I.ok.above))).trans e1⟩
  ·obtain⟨o',e1⟩:=I.base.there b o e hx
   exact⟨o',(hs.2 b (Wav (Wbf (War e) I.ok.above))).trans e1⟩
  ·by_cases hj:j=i
   ·subst hj
    rw[hi]at e1;cases e1;rw[Wau hiσ]at e2;cases e2;exact⟨u,r,.inl ⟨hk,by simp⟩⟩
   ·rw[Wa1 (Ne.symm hj)]at e2
    obtain⟨u',r',q⟩:=hl j y v' e1 e2 e3;refine⟨u',r',?_⟩;rcases q with ⟨k,e⟩|⟨k,c,e,z⟩
    ·refine .inl ⟨k,?_⟩
     have:y≠x:=λe=>hj (Zky hN e1 (e ▸ hi));simp[this,e]
    ·exact .inr ⟨k,c,e,z.sameBut hs (cne y c e)⟩
  ·obtain⟨w',z⟩:=I.cell y c e
   exact⟨w',z.sameBut hs (cne y c e)⟩
  ·obtain⟨e,n,ne,nf,d⟩:=I.pin p hp
   exact⟨(hs.2 p.1 ne).trans e,n,ne,nf,d⟩
 ·have hfn:X.fn x=true:=by
   rcases hf with z|z
   ·exact z
   ·rw[z]at hk;cases hk
  obtain⟨c,hc⟩:=I.ok.has x (.inl hk);obtain⟨w',z⟩:=I.cell x c hc;refine wpAny_storeName_cell I.ok.kind hk hc z (λh' hc' hs=>?_);obtain⟨oc,hoc,hocd⟩:=id z;refine h { s with heap:=h' } ⟨I.ok,I.os,I.bare,⟨λb o e n hb hx=>?_,λb o e n hb hx=>?_,I.base.free,λb o e hx=>?_,I.base.tups,I.base.frzs,I.base.tbls⟩,⟨m,hn.sameBut hs (Ne.symm (cne x c hc)),λj y v' e1 e2 e3=>?_⟩,λy c' e=>?_,I.free,I.freeC,λp hp=>?_,tracked ⟨oc,hoc,I.freeC x c hc⟩ hs,by simpa using I.len⟩ ⟨c,hs,.inr hc⟩
  ·exact(hs.2 b (Wav (Wbf (War e) (I.ok.cab x c hfn hc)))).trans (I.base.keep b o e n hb hx)
  ·obtain⟨sl,e1⟩:=I.base.slot b o e n hb hx
   exact⟨sl,(hs.2 b (Wav (Wbf (War e) (I.ok.cab x c hfn hc)))).trans e1⟩
  ·obtain⟨o',e1⟩:=I.base.there b o e hx
   exact⟨o',(hs.2 b (Wav (Wbf (War e) (I.ok.cab x c hfn hc)))).trans e1⟩
  ·by_cases hj:j=i
   ·subst hj
    rw[hi]at e1;cases e1;rw[Wau hiσ]at e2;cases e2;exact⟨u,r,.inr ⟨.inl hk,c,hc,hc'⟩⟩
   ·rw[Wa1 (Ne.symm hj)]at e2
    obtain⟨u',r',q⟩:=hl j y v' e1 e2 e3;refine⟨u',r',?_⟩;rcases q with q|⟨k,c',e,z'⟩
    ·exact .inl q
    ·refine .inr ⟨k,c',e,z'.sameBut hs ?_⟩
     rintro rfl;exact hj (Zky hN e1 (I.ok.inj _ _ _ e hc ▸ hi))
  ·by_cases hcc:c'=c
   ·subst hcc;exact⟨_,hc'⟩
   ·obtain⟨w2,z2⟩:=I.cell y c' e
    exact⟨w2,z2.sameBut hs hcc⟩
  ·obtain⟨e,n,ne,nf,d⟩:=I.pin p hp
   refine⟨(hs.2 p.1 ?_).trans e,n,ne,nf,d⟩;intro q;rw[q,hoc]at e;have q':oc=p.2:=Wbh.inj e;exact d w' (by rw[<- q'];exact hocd)
theorem Zfr {M:Model}{A:Around}{E:Value->Shared->Prop}{i:Nat}{x:Str}{v:V}{u:Value}{Q:Unit->Shared->Prop}(I:Inv X pins σ H s) (hN:X.N.Nodup) (hi:X.N[i]?=some x) (hx:Loc X.env.scope x) (r:RelV v u)
  (h:∀s',Inv X pins (σ.set i (some v)) H s' -> Q () s') (hf:X.fn x=true\/X.env.scope.names.lookup x=some .local:=by first|exact .inl rfl|exact .inr rfl|assumption):wpAny M A (storeName X.env x u) Q E s:=
 Ziy I hN hi hx r (λs' I' _=>h s' I') hf
theorem Inv.call' {s':Shared}{ch:List Addr}(I:Inv X pins σ H s) (ho:s'.os=s.os) (u:Un (frs X.stack) ch H H' s.heap s'.heap) (hok:HOk X.prog X.w H' s'.heap) (hg:AllBare s'.gens)
  (hch:∀b∈ch,(b∈X.ex\/X.s₀.heap.objs.size<=b)/\b≠X.env.locals/\(∀x c,X.env.cells.lookup x=some c->c≠b)/\∀p∈X.pn++pins,p.1≠b):Inv X pins σ H' s':=by
 obtain⟨h',g',d',t',o'⟩:=s';have e:o'=s.os:=ho;subst e;exact I.call (g':=g') (t':=t') (d':=d') u hok hg hch
end
abbrev XK:=Value->Option Addr->Hp->Prop
abbrev St:=List (Option V)
abbrev VK:=V->Hp->Prop
abbrev TE:=St->Hp->VK->Prop
abbrev TT:=St->Hp->(Bool->Hp->Prop)->Prop
abbrev TA:=St->Hp->(List V->Hp->Prop)->Prop
structure Ends where
 nx:St->Hp->Prop
 rt:VK
 bk:St->Hp->Prop:=λ_ _=>False
 ct:St->Hp->Prop:=λ_ _=>False
abbrev TS:=Ends->St->Hp->Prop
def EP (X:Cx) (pins:List (Addr × Obj)) (σ:St) (Q:VK) (u:Value) (s':Shared):Prop:=∃v H',Inv X pins σ H' s' /\ RelV v u/\Q v H'
def TP (X:Cx) (pins:List (Addr × Obj)) (σ:St) (Q:Bool->Hp->Prop) (b:Bool) (s':Shared):Prop:=∃H',Inv X pins σ H' s' /\ Q b H'
def AP (X:Cx) (pins:List (Addr × Obj)) (σ:St) (Q:List V->Hp->Prop) (us:List Value) (s':Shared):Prop:=∃vs H',Inv X pins σ H' s' /\ Vals vs us/\Q vs H'
def SP (X:Cx) (pins:List (Addr × Obj)) (D:Ends) (f:Flow) (s':Shared):Prop:=
 match f with
 |.next=>∃σ' H',Inv X pins σ' H' s' /\ D.nx σ' H'
 |.brk=>∃σ' H',Inv X pins σ' H' s' /\ D.bk σ' H'
 |.cont=>∃σ' H',Inv X pins σ' H' s' /\ D.ct σ' H'
 |.ret u=>∃v σ' H',Inv X pins σ' H' s' /\ RelV v u/\D.rt v H'
def PE (X:Cx) (e:Expr) (t:TE):Prop:=
 ∀(pins:List (Addr × Obj)) (s:Shared) (σ:St) (H:Hp) (Q:VK),Inv X pins σ H s->t σ H Q->wpAny (model X.prog X.w) X.A (eval e X.env) (EP X pins σ Q) X.xe s
def PT (X:Cx) (e:Expr) (t:TT):Prop:=
 ∀(pins:List (Addr × Obj)) (s:Shared) (σ:St) (H:Hp) (Q:Bool->Hp->Prop),Inv X pins σ H s->t σ H Q->wpAny (model X.prog X.w) X.A (isTrue e X.env (eval e X.env)) (TP X pins σ Q) X.xe s
def PW (X:Cx) (e:Expr) (t:TT):Prop:=
 ∀(whole:Sem Value) (pins:List (Addr × Obj)) (s:Shared) (σ:St) (H:Hp) (Q:Bool->Hp->Prop),Inv X pins σ H s->t σ H Q->wpAny (model X.prog X.w) X.A (isTrue e X.env whole) (TP X pins σ Q) X.xe s
theorem PW.pt {X:Cx}{e:Expr}{t:TT}(h:PW X e t):PT X e t:=h _
def PA (X:Cx) (es:List Expr) (t:TA):Prop:=
 ∀(pos:Pos) (pins:List (Addr × Obj)) (s:Shared) (σ:St) (H:Hp) (Q:List V->Hp->Prop),Inv X pins σ H s->t σ H Q->wpAny (model X.prog X.w) X.A (spliced (backTo pos (starEach es X.env))) (AP X pins σ Q) X.xe s
def PS (X:Cx) (st:Stmt) (t:TS):Prop:=
 ∀(pins:List (Addr × Obj)) (s:Shared) (σ:St) (H:Hp) (D:Ends),Inv X pins σ H s->t D σ H->wpAny (model X.prog X.w) X.A (exec st X.env) (SP X pins D) X.xe s
def PSs (X:Cx) (st:List Stmt) (t:TS):Prop:=
 ∀(pins:List (Addr × Obj)) (s:Shared) (σ:St) (H:Hp) (D:Ends),Inv X pins σ H s->t D σ H->wpAny (model X.prog X.w) X.A (execs st X.env) (SP X pins D) X.xe s
theorem thn {α:Type}{t:Sem α}{Q Q':α -> Shared->Prop}{M:Model}{A:Around}{E:Value->Shared->Prop}{s:Shared}(h:wpAny M A t Q E s) (hQ:∀a s,Q a s->Q' a s):wpAny M A t Q' E s:=wpAny_mono h hQ λ_ _ x=>x
end L2
namespace L2
open PySem PySem.Spec PyProof.Rows
section
variable {X:Cx}
def tVar (i:Nat):TE:=λσ H Q=>∃v,σ[i]?=some (some v)/\Q v H
def tC (v:V):TE:=λ_ H Q=>Q v H
theorem Zwq {i:Nat}{x:Str}{pos:Pos}(hN:X.N[i]?=some x) (hv:Vis X.env.scope x) (hd:(x == ("__debug__":Str))=false:=by decide) (hcd:(x == ("__classdict__":Str))=false:=by decide):PE X (.Name x pos) (tVar i):=by
 intro pins s σ H Q I h;obtain⟨v,e,h⟩:=h;obtain⟨m,hn,hl⟩:=I.loc;obtain⟨u,r,l⟩:=hl i x v hN e hv;have fin:EP X pins σ Q u s:=⟨v,H,I,r,h⟩;rcases l with ⟨hk,hm⟩|⟨hk,c,hc,hcell⟩
 ·exact wpAny_Name (wpAny_loadName_local I.ok.kind hk hn hm fin) hd
 ·rcases hk with hk|hk
  ·exact wpAny_Name (wpAny_loadName_cell I.ok.kind hk hc hcell fin) hd
  ·exact wpAny_Name (wpAny_loadName_free I.ok.kind hk hc hcell fin hcd) hd
theorem Zag {i j pos}:PE X (.Constant (.int i) j pos) (tC (.int i)):=λ_ _ _ H _ I h=>wpAny_Constant_int ⟨.int i,H,I.tok _,⟨_,rfl⟩,h⟩
theorem Znn {b j pos}:PE X (.Constant (.bool b) j pos) (tC (.bl b)):=λ_ _ _ H _ I h=>Constant_bool ⟨.bl b,H,I,rfl,h⟩
def Gl (X:Cx) (x:Str):Prop:=X.env.kindOf x=some .globalImplicit
theorem Ztz {E:Value->Shared->Prop}{pins:List (Addr × Obj)}{s:Shared}{σ:St}{H:Hp}{x:Str}{u:Value}{pos:Pos}{Q:Value->Shared->Prop}(I:Inv X pins σ H s) (hg:Gl X x) (hm:X.mg x=some u) (h:Q u s)
  (hd:(x == ("__debug__":Str))=false:=by decide):wpAny (model X.prog X.w) X.A (eval (.Name x pos) X.env) Q E s:=
 Calls.Name_function_global I.ok.kind hg (Calls.loadGlobal_global (by rw[I.ok.glob];exact I.mod.glob.keeps I.bk) hm h) hd
theorem Zd7 {E:Value->Shared->Prop}{pins:List (Addr × Obj)}{s:Shared}{σ:St}{H:Hp}{x:Str}{u:Value}{pos:Pos}{Q:Value->Shared->Prop}(I:Inv X pins σ H s) (hg:Gl X x) (hm:X.mg x=none) (hv:bootBuiltins x=some u) (h:Q u s)
  (hn:x ≠ "__name__":=by decide) (hd:(x == ("__debug__":Str))=false:=by decide):wpAny (model X.prog X.w) X.A (eval (.Name x pos) X.env) Q E s:=by
 obtain⟨mb,h1,h2⟩:=I.mod.blt;exact Calls.Name_function_global I.ok.kind hg (Calls.loadGlobal_builtin (by rw[I.ok.glob];exact I.mod.glob.keeps I.bk) hm (by rw[I.ok.blt];exact h1.keeps I.bk) ((h2 x hn).trans hv) h) hd
theorem Ze0 {x:Str}{v:V}{u:Value}{pos:Pos}(hg:Gl X x) (hm:X.mg x=none) (hv:bootBuiltins x=some u) (r:RelV v u) (hn:x ≠ "__name__":=by decide) (hd:(x == ("__debug__":Str))=false:=by decide):PE X (.Name x pos) (tC v):=
 λ_ _ _ H _ I h=>Zd7 I hg hm hv ⟨v,H,I,r,h⟩ hn hd
variable {a b:Expr}{ta tb:TE}{pos:Pos}
variable {tA tB':TT}{rest:List Expr}
def tAnd (t u:TT):TT:=λσ H Q=>t σ H λc H1=>if c=true then u σ H1 Q else Q false H1
def tOr (t u:TT):TT:=λσ H Q=>t σ H λc H1=>if c=true then Q true H1 else u σ H1 Q
def tNot (t:TT):TT:=λσ H Q=>t σ H λc H1=>Q (!c) H1
theorem pw_and1 (ha:PT X a tA):PW X (.BoolOp .And [a] pos) tA:=by
 intro wh pins s σ H Q I h;refine isTrue_and (thn (ha pins s σ H Q I h) λc s1 e=>?_);cases c with
 |true=>exact isTrue_and_nil e
 |false=>exact e
theorem pw_or1 (ha:PT X a tA):PW X (.BoolOp .Or [a] pos) tA:=by
 intro wh pins s σ H Q I h;refine isTrue_or (thn (ha pins s σ H Q I h) λc s1 e=>?_);cases c with
 |false=>exact isTrue_or_nil e
 |true=>exact e
theorem pw_and (ha:PT X a tA) (hb:PW X (.BoolOp .And (b::rest) pos) tB'):PW X (.BoolOp .And (a::b::rest) pos) (tAnd tA tB'):=by
 intro wh pins s σ H Q I h;refine isTrue_and (thn (ha pins s σ H _ I h) λc s1 ⟨H1,I1,q1⟩=>?_);cases c with
 |true=>exact hb wh pins s1 σ H1 Q I1 q1
 |false=>exact⟨H1,I1,q1⟩
theorem pw_or (ha:PT X a tA) (hb:PW X (.BoolOp .Or (b::rest) pos) tB'):PW X (.BoolOp .Or (a::b::rest) pos) (tOr tA tB'):=by
 intro wh pins s σ H Q I h;refine isTrue_or (thn (ha pins s σ H _ I h) λc s1 ⟨H1,I1,q1⟩=>?_);cases c with
 |true=>exact⟨H1,I1,q1⟩
 |false=>exact hb wh pins s1 σ H1 Q I1 q1
theorem Zeo (ha:PT X a tA):PT X (.UnaryOp .Not a pos) (tNot tA):=by
 intro pins s σ H Q I h;exact isTrue_not (ha pins s σ H (λc H1=>Q (!c) H1) I h)
def tAndV (ta tb:TE):TE:=λσ H Q=>ta σ H λx H1=>∃c,x=.bl c/\if c=true then tb σ H1 Q else Q (.bl false) H1
def tOrV (ta tb:TE):TE:=λσ H Q=>ta σ H λx H1=>∃c,x=.bl c/\if c=true then Q (.bl true) H1 else tb σ H1 Q
def tNotV (ta:TE):TE:=λσ H Q=>ta σ H λx H1=>∃c,x=.bl c/\Q (.bl (!c)) H1
theorem Zkt {op} {t:TE}(h:PE X a t):PE X (.BoolOp op [a] pos) t:=λpins s σ H Q I hw=>BoolOp_one (h pins s σ H Q I hw)
theorem Zk9 (ha:PE X a ta) (hb:PE X (.BoolOp .And (b::rest) pos) tb):PE X (.BoolOp .And (a::b::rest) pos) (tAndV ta tb):=by
 intro pins s σ H Q I h;refine BoolOp_and (thn (ha pins s σ H _ I h) λv s1 ⟨x,H1,I1,r1,q1⟩=>?_);obtain⟨c,rfl,q1⟩:=q1;cases r1;refine wpAny_truthy_bool ?_;cases c with
 |true=>exact hb pins s1 σ H1 Q I1 q1
 |false=>exact⟨.bl false,H1,I1,rfl,q1⟩
theorem Zu2 (ha:PE X a ta):PE X (.UnaryOp .Not a pos) (tNotV ta):=by
 intro pins s σ H Q I h;refine UnaryOp_ (thn (ha pins s σ H _ I h) λv s1 ⟨x,H1,I1,r1,q1⟩=>?_);obtain⟨c,rfl,q1⟩:=q1;cases r1;exact not_of (wpAny_truthy_bool ⟨.bl (!c),H1,I1,rfl,q1⟩)
def tIf (t:TT) (ta tb:TE):TE:=λσ H Q=>t σ H λc H1=>if c=true then ta σ H1 Q else tb σ H1 Q
theorem Zk0 {c:Expr}(hc:PT X c tA) (ha:PE X a ta) (hb:PE X b tb):PE X (.IfExp c a b pos) (tIf tA ta tb):=by
 intro pins s σ H Q I h;refine wpAny_IfExp (thn (hc pins s σ H _ I h) λd s1 ⟨H1,I1,q1⟩=>?_);cases d with
 |true=>exact ha pins s1 σ H1 Q I1 q1
 |false=>exact hb pins s1 σ H1 Q I1 q1
end
end L2
namespace L2
open PySem PySem.Spec PyProof.Rows
def SqL (K:W.Frag) (H:Hp) (a:Addr) (xs:List V):Prop:=
 Rd H a (.lst xs) ∨
  ∃(o:Obj) (its:Array Value) (n:Nat),K.lookup a=some o/\o.cls=.type "list" /\ o.dict=none/\o.data=.seq its n/\its.size<=sizeLine/\Vals xs its.toList
def SqT (K:W.Frag) (H:Hp) (a:Addr) (xs:List V):Prop:=
 Rd H a (.tup xs) ∨
  ∃(o:Obj) (its:Array Value) (n:Nat),K.lookup a=some o/\o.cls=.type "tuple" /\ o.data=.seq its n/\its.size<=sizeLine/\Vals xs its.toList
def absV:Value->Option V
 |.none=>some .non
 |.bool b=>some (.bl b)
 |.int i _=>some (.int i)
 |.str x _=>some (.str x)
 |.bytes b _=>some (.byt b)
 |.float b _=>some (.flt b)
 |.ref a=>some (.ref a)
 |.type n=>some (.ty n)
 |_=>none
theorem RelV.abs {x:V}{u:Value}(r:RelV x u):absV u=some x:=by
 cases x with
 |non=>cases r;rfl
 |bl _=>cases r;rfl
 |int _=>obtain⟨t,rfl⟩:=r;rfl
 |str _=>obtain⟨t,rfl⟩:=r;rfl
 |byt _=>obtain⟨t,rfl⟩:=r;rfl
 |flt _=>obtain⟨t,rfl⟩:=r;rfl
 |ref _=>cases r;rfl
 |ty _=>cases r;rfl
theorem RelV.inj {x y:V}{u:Value}(r:RelV x u) (q:RelV y u):x=y:=Wbh.inj (r.abs.symm.trans q.abs)
theorem Vals.inj:∀{xs ys:List V}{us:List Value},Vals xs us->Vals ys us->xs=ys
 |_,_,_,.nil,.nil=>rfl
 |_,_,_,.cons r t,.cons r' t'=>by rw[r.inj r',Vals.inj t t']
section
variable {X:Cx}{pins:List (Addr × Obj)}{σ:St}{H:Hp}{s:Shared}{a:Addr}{xs ys:List V}
theorem SqL.of {K:W.Frag}(h:H a=some (.lst xs)):SqL K H a xs:=.inl (.inl h)
theorem SqT.of {K:W.Frag}(h:H a=some (.tup xs)):SqT K H a xs:=.inl (.inl h)
theorem Inv.list (I:Inv X pins σ H s) (h:SqL X.K H a xs):∃its:List Value,Vals xs its/\PlainL s.heap a its.toArray/\xs.length<=sizeLine:=by
 rcases h with h|⟨o,its,n,hk,hc,hd,hs,hz,r⟩
 ·obtain⟨z,its,n,r,e⟩:=h.ok I.hok
  exact⟨its,r,⟨_,n,e,rfl,rfl,rfl⟩,z⟩
 ·refine⟨its.toList,r,⟨o,n,I.kIn a o hk,hc,hd,by simpa using hs⟩,?_⟩
  have e:=r.length;simp only[Array.length_toList]at e;omega
theorem Inv.tuple (I:Inv X pins σ H s) (h:SqT X.K H a xs):∃its:List Value,Vals xs its/\IsTup s.heap a its.toArray/\xs.length<=sizeLine:=by
 rcases h with h|⟨o,its,n,hk,hc,hs,hz,r⟩
 ·obtain⟨z,its,r,p⟩:=h.ok I.hok
  exact⟨its,r,p.tup,z⟩
 ·refine⟨its.toList,r,⟨o,I.kIn a o hk,hc,n,by simpa using hs⟩,?_⟩
  have e:=r.length;simp only[Array.length_toList]at e;omega
theorem Inv.list_inj (I:Inv X pins σ H s) (h:SqL X.K H a xs) (h':SqL X.K H a ys):xs=ys:=by
 obtain⟨its,r,⟨o,n,e,_,_,d⟩,_⟩:=I.list h;obtain⟨its',r',⟨o',n',e',_,_,d'⟩,_⟩:=I.list h';rw[e]at e';cases e';rw[d]at d';injection d' with d1 _
 have:its=its':=by simpa using congrArg Array.toList d1
 subst this;exact r.inj r'
theorem Inv.tuple_inj (I:Inv X pins σ H s) (h:SqT X.K H a xs) (h':SqT X.K H a ys):xs=ys:=by
 obtain⟨its,r,⟨o,e,_,n,d⟩,_⟩:=I.tuple h;obtain⟨its',r',⟨o',e',_,n',d'⟩,_⟩:=I.tuple h';rw[e]at e';cases e';rw[d]at d';injection d' with d1 _
 have:its=its':=by simpa using congrArg Array.toList d1
 subst this;exact r.inj r'
end
abbrev Cx.wish (X:Cx) (E:Value->Shared->Prop):Cx:={ X with xe:=E }
abbrev Cx.nox (X:Cx):Cx:=X.wish λ_ _=>False
theorem Cx.Ok.wish {X:Cx}(ok:X.Ok) (E:Value->Shared->Prop):(X.wish E).Ok:=
 ⟨ok.mod,ok.kind,ok.glob,ok.blt,ok.above,ok.inj,ok.has,ok.cab,ok.hd,ok.frames,ok.stk,ok.exf,ok.bs,ok.bsz,ok.noex,ok.exfs,ok.funs,ok.frf⟩
theorem Cx.Ok.unwish {X:Cx}{E:Value->Shared->Prop}(ok:(X.wish E).Ok):X.Ok:=
 ⟨ok.mod,ok.kind,ok.glob,ok.blt,ok.above,ok.inj,ok.has,ok.cab,ok.hd,ok.frames,ok.stk,ok.exf,ok.bs,ok.bsz,ok.noex,ok.exfs,ok.funs,ok.frf⟩
section
variable {X:Cx}{pins:List (Addr × Obj)}{σ:St}{H:Hp}{s:Shared}{E:Value->Shared->Prop}
theorem Inv.wish (I:Inv X pins σ H s) (E:Value->Shared->Prop):Inv (X.wish E) pins σ H s:=⟨I.ok.wish E,I.os,I.bare,I.base,I.loc,I.cell,I.free,I.freeC,I.pin,I.hok,I.len⟩
theorem Inv.unwish (I:Inv (X.wish E) pins σ H s):Inv X pins σ H s:=⟨I.ok.unwish,I.os,I.bare,I.base,I.loc,I.cell,I.free,I.freeC,I.pin,I.hok,I.len⟩
theorem SP.unwish {D:Ends}{f:Flow}{s':Shared}(h:SP (X.wish E) pins D f s'):SP X pins D f s':=by
 cases f with
 |next=>obtain⟨σ',H',I,q⟩:=h;exact⟨σ',H',I.unwish,q⟩
 |brk=>obtain⟨σ',H',I,q⟩:=h;exact⟨σ',H',I.unwish,q⟩
 |cont=>obtain⟨σ',H',I,q⟩:=h;exact⟨σ',H',I.unwish,q⟩
 |ret u=>obtain⟨v,σ',H',I,r,q⟩:=h;exact⟨v,σ',H',I.unwish,r,q⟩
theorem PSs.nox {st:List Stmt}{t:TS}(h:PSs X.nox st t):PSs X st t:=λpins s σ H D I hw=>
 wpAny_mono (h pins s σ H D (I.wish _) hw) (λ_ _ q=>q.unwish) λ_ _ z=>False.elim z
end
section
variable {X:Cx}{st:Stmt}{rest:List Stmt}{t u:TS}{e:Expr}{te:TE}{pos:Pos}
def tNext:TS:=λD σ H=>D.nx σ H
def tSeq (t u:TS):TS:=λD σ H=>t { D with nx:=u D } σ H
theorem Za7:PSs X [] tNext:=λ_ _ σ H _ I h=>wpAny_execs_nil ⟨σ,H,I,h⟩
theorem Zae (h1:PS X st t) (h2:PSs X rest u):PSs X (st::rest) (tSeq t u):=by
 intro pins s σ H D I h;refine wpAny_execs_cons (thn (h1 pins s σ H { D with nx:=u D } I h) λf s1 q=>?_);cases f with
 |next=>
  obtain⟨σ',H',I',q⟩:=q;exact h2 pins s1 σ' H' D I' q
 |ret v=>exact q
 |brk=>exact q
 |cont=>exact q
theorem Zah (h1:PS X st t):PSs X [st] t:=by
 intro pins s σ H D I h;refine wpAny_execs_cons (thn (h1 pins s σ H D I h) λf s1 q=>?_);cases f with
 |next=>exact wpAny_execs_nil q
 |ret v=>exact q
 |brk=>exact q
 |cont=>exact q
theorem Inv.quiet {pins:List (Addr × Obj)}{σ:St}{H:Hp}{s:Shared}(I:Inv X pins σ H s):interactive X.env=false:=by simp[interactive,I.ok.kind]
def tDrop (te:TE):TS:=λD σ H=>te σ H λ_ H1=>D.nx σ H1
theorem Zb7 (he:PE X e te) (hs:swapsWith e none pos.line X.env=pure false:=by rfl):PS X (.Expr e pos) (tDrop te):=by
 intro pins s σ H D I h;exact wpAny_Expr_any (thn (he pins s σ H _ I h) λv s1 ⟨x,H1,I1,r1,q1⟩=>⟨σ,H1,I1,q1⟩) I.quiet hs
def tRet (te:TE):TS:=λD σ H=>te σ H D.rt
theorem Zax (he:PE X e te):PS X (.Return (some e) pos) (tRet te):=by
 intro pins s σ H D I h;exact wpAny_Return_some (thn (he pins s σ H _ I h) λv s1 ⟨x,H1,I1,r1,q1⟩=>⟨x,σ,H1,I1,r1,q1⟩)
def tIfS (c:TT) (t u:TS):TS:=λD σ H=>c σ H λb H1=>if b=true then t D σ H1 else u D σ H1
theorem Zc1 {c:Expr}{a b:List Stmt}{tc:TT}(hc:PT X c tc) (ha:PSs X a t) (hb:PSs X b u):PS X (.If c a b pos) (tIfS tc t u):=by
 intro pins s σ H D I h;refine wpAny_If (thn (hc pins s σ H _ I h) λd s1 ⟨H1,I1,q1⟩=>?_);cases d with
 |true=>exact ha pins s1 σ H1 D I1 q1
 |false=>exact hb pins s1 σ H1 D I1 q1
end
abbrev TG:=V->St->Hp->(St->Hp->Prop)->Prop
abbrev TGs:=List V->St->Hp->(St->Hp->Prop)->Prop
def PG (X:Cx) (target:Expr) (t:TG):Prop:=
 ∀(pins:List (Addr × Obj)) (s:Shared) (σ:St) (H:Hp) (v:V) (u:Value) (Q:St->Hp->Prop),Inv X pins σ H s->RelV v u->t v σ H Q →
  wpAny (model X.prog X.w) X.A (assign target X.env u) (λ_ s'=>∃σ' H',Inv X pins σ' H' s' /\ Q σ' H') X.xe s
def PGs (X:Cx) (ts:List Expr) (t:TGs):Prop:=
 ∀(pins:List (Addr × Obj)) (s:Shared) (σ:St) (H:Hp) (vs:List V) (us:List Value) (Q:St->Hp->Prop),Inv X pins σ H s->Vals vs us->t vs σ H Q →
  wpAny (model X.prog X.w) X.A (assignInOrder ((assignEach ts X.env).map (·.2)) us) (λ_ s'=>∃σ' H',Inv X pins σ' H' s' /\ Q σ' H') X.xe s
abbrev TSet:=V->V->V->Hp->(Hp->Prop)->Prop
def PSet (X:Cx) (t:TSet):Prop:=
 ∀(pins:List (Addr × Obj)) (s:Shared) (σ:St) (H:Hp) (o i v:V) (ov iv u:Value) (Q:Hp->Prop),Inv X pins σ H s->RelV o ov->RelV i iv->RelV v u->t o i v H Q →
  wpAny (model X.prog X.w) X.A (setItem ov iv u) (λ_ s'=>∃H',Inv X pins σ H' s' /\ Q H') X.xe s
section
variable {X:Cx}{pos:Pos}
def gName (i:Nat):TG:=λv σ H Q=>Q (σ.set i (some v)) H
theorem Zal {i:Nat}{x:Str}(hN:X.N.Nodup) (hi:X.N[i]?=some x) (hx:Loc X.env.scope x) (hf:X.fn x=true\/X.env.scope.names.lookup x=some .local:=by first|exact .inl rfl|exact .inr rfl|assumption):PG X (.Name x pos) (gName i):=by
 intro pins s σ H v u Q I r h;exact wpAny_assign_Name (Zfr I hN hi hx r (λs' I'=>⟨_,H,I',h⟩) hf)
def gNil:TGs:=λvs σ H Q=>vs=[]/\Q σ H
def gCons (t:TG) (u:TGs):TGs:=λvs σ H Q=>∃v r,vs=v::r/\t v σ H λσ' H'=>u r σ' H' Q
theorem Zdm:PGs X [] gNil:=by
 intro pins s σ H vs us Q I r h;obtain⟨e,h⟩:=h;subst e;cases r;exact assignInOrder_nil ⟨σ,H,I,h⟩
theorem Za9 {e:Expr}{es:List Expr}{t:TG}{u:TGs}(h1:PG X e t) (h2:PGs X es u)
  (hs:(assignEach (e::es) X.env).map (·.2)=assign e X.env::(assignEach es X.env).map (·.2):=by rfl):PGs X (e::es) (gCons t u):=by
 intro pins s σ H vs us Q I r h;obtain⟨v,vr,e1,h⟩:=h;subst e1;cases r with
 |cons r rr=>
  rw[hs];refine assignInOrder_cons (thn (h1 pins s σ H _ _ _ I r h) λ_ s1 ⟨σ1,H1,I1,q1⟩=>?_);exact h2 pins s1 σ1 H1 _ _ Q I1 rr q1
def gTup (K:W.Frag) (n:Nat) (t:TGs):TG:=λv σ H Q=>∃a xs,v=.ref a/\SqT K H a xs/\xs.length=n/\t xs σ H Q
theorem Zw2 {es:List Expr}{k:Nat}{t:TGs}{n:Nat}(hc:X.calm=true) (h:PGs X es t)
  (hn:(assignEach es X.env).length=n:=by rfl) (hst:(assignEach es X.env).findIdx? (·.1)=none:=by rfl):PG X (.Tuple es k pos) (gTup X.K n t):=by
 intro pins s σ H v u Q I r hw;obtain⟨a,xs,e1,hq,hl,hw⟩:=hw;subst e1;cases r;obtain⟨its,rv,ht,hz⟩:=I.tuple hq;refine assign_Tuple_tuple (I.ok.hd hc) ht (by simp[hn,<- hl,rv.length]) hst λh' hx=>?_;have I1:Inv X pins σ H { s with heap:=h' }:=I.kept (t':=s.toks) λb o e=>hx b o (Wav (War e)) e;exact h pins _ σ H xs _ Q I1 (by simpa using rv) hw
def gSub (to ti:TE) (t:TSet):TG:=λv σ H Q=>to σ H λo H1=>ti σ H1 λi H2=>t o i v H2 λH3=>Q σ H3
theorem Zg8 {o i:Expr}{to ti:TE}{t:TSet}(ho:PE X o to) (hi:PE X i ti) (hs:PSet X t)
  (ha:∀v,assign (.Subscript o i pos) X.env v=(do
   let ov ← holding [v] (eval o X.env)
   let iv ← holding [v,ov] (eval i X.env)
   standAt pos
   holding [v,ov,iv] (setItem ov iv v)
   release [v,ov,iv] []):=by intro _;rfl):PG X (.Subscript o i pos) (gSub to ti t):=by
 intro pins s σ H v u Q I r h;rw[ha];refine wpAny_bind (wpAny_holding (thn (ho pins s σ H _ I h) λov s1 ⟨x,H1,I1,r1,q1⟩=>?_));refine wpAny_bind (wpAny_holding (thn (hi pins s1 σ H1 _ I1 q1) λiv s2 ⟨y,H2,I2,r2,q2⟩=>?_));refine wpAny_bind (wpAny_standAt (wpAny_bind (wpAny_holding (thn (hs pins s2 σ H2 x y v ov iv u _ I2 r1 r2 r q2) λ_ s3 ⟨H3,I3,q3⟩=>?_))));exact wpAny_release ⟨σ,H3,I3,q3⟩
def tAsg (te:TE) (g:TG):TS:=λD σ H=>te σ H λx H1=>g x σ H1 D.nx
theorem Zet {tg e:Expr}{te:TE}{g:TG}(he:PE X e te) (hg:PG X tg g) (hs:swapsWithSole [tg] e pos.line X.env=pure false:=by rfl) (hw:swappedStores [tg] e X.env=pure none:=by rfl)
  (h1:(assignEach [tg] X.env).map (·.2)=[assign tg X.env]:=by rfl):PS X (.Assign [tg] e pos) (tAsg te g):=by
 intro pins s σ H D I h;refine wpAny_Assign_stores (thn (he pins s σ H _ I h) λv s1 ⟨x,H1,I1,r1,q1⟩=>?_) hs hw;rw[h1];exact thn (hg pins s1 σ H1 x v _ I1 r1 q1) λ_ s2 q=>q
theorem Zan {i:Nat}{x:Str}{e:Expr}{te:TE}{pos':Pos}(hN:X.N.Nodup) (hi:X.N[i]?=some x) (hx:Loc X.env.scope x) (he:PE X e te) (hs:swapsWith e (some (.Name x pos')) pos.line X.env=pure false:=by rfl) (hf:X.fn x=true\/X.env.scope.names.lookup x=some .local:=by first|exact .inl rfl|exact .inr rfl|assumption) :
  PS X (.Assign [.Name x pos'] e pos) (tAsg te (gName i)):=by
 intro pins s σ H D I h;refine wpAny_Assign_Name (thn (he pins s σ H _ I h) λv s1 ⟨y,H1,I1,r1,q1⟩=>?_) hs;exact Zfr I1 hN hi hx r1 (λs2 I2=>⟨_,H1,I2,q1⟩) hf
def tPar (i j:Nat) (ta:TA):TS:=λD σ H=>ta σ H λvs H1=>∃v w,vs=[v,w]/\D.nx ((σ.set i (some v)).set j (some w)) H1
theorem Zm0 {i j:Nat}{x y:Str}{a b:Expr}{ta:TA}{px py pt:Pos}{kt k2 pt2} (hc:X.calm=true) (hN:X.N.Nodup) (hi:X.N[i]?=some x) (hj:X.N[j]?=some y) (hij:i≠j)
  (hx:X.env.scope.names.lookup x=some .local) (hy:X.env.scope.names.lookup y=some .local) (ha:PA X [a,b] ta)
  (hw:swappedStores [.Tuple [.Name x px,.Name y py] kt pt] (.Tuple [a,b] k2 pt2) X.env=pure (some [x,y]))
  (hs:swapsWithSole [.Tuple [.Name x px,.Name y py] kt pt] (.Tuple [a,b] k2 pt2) pos.line X.env=pure false:=by rfl) :
  PS X (.Assign [.Tuple [.Name x px,.Name y py] kt pt] (.Tuple [a,b] k2 pt2) pos) (tPar i j ta):=by
 intro pins s σ H D I h;rw[exec_Assign_arm];refine wpAny_bind (wpAny_standAt ?_);rw[hs];refine wpAny_bind (wpAny_pure ?_);rw[if_neg (by decide)];refine wpAny_bind (Tuple_ (thn (ha _ pins s σ H _ I h) λus s1 ⟨vs,H1,I1,r1,q1⟩=>?_));obtain⟨v,w,e1,q1⟩:=q1;subst e1;obtain⟨u1,u2,rfl,rv,rw'⟩:∃u1 u2,us=[u1,u2]/\RelV v u1/\RelV w u2:=by
  cases r1 with
  |cons p q=>
   cases q with
   |cons p' q'=>
    cases q';exact⟨_,_,rfl,p,p'⟩
 refine wpAny_newObj_type ?_ (by show 2<=sizeLine;decide);have I2:Inv X pins σ H1 { s1 with heap:=s1.heap.push { cls:=.type "tuple",data:=.seq [u1,u2].toArray } }:=I1.kept (t':=s1.toks) λb o e=>Wac _ e;rw[hw];refine wpAny_bind (wpAny_pure ?_);show wpAny (model X.prog X.w) X.A (do rule "assign.swapped-stores";let items ← unpackItems (.ref s1.heap.objs.size) 2 none;assignInOrder [λv=>bindName X.env y v,λv=>bindName X.env x v] items.reverse;pure Flow.next) _ _ _;refine wpAny_bind (wpAny_rule (wpAny_bind (unpackItems_tuple (items:=#[u1,u2]) (I.ok.hd hc) (IsTup.new s1.heap _) λh' hx'=>?_)));have I3:=I2.kept (h':=h') (t':=s1.toks) λb o e=>hx' b o (Wav (War e)) e;show wpAny _ _ (assignInOrder [λv=>bindName X.env y v,λv=>bindName X.env x v] [u2,u1] >>= λ_=>pure Flow.next) _ _ _;refine wpAny_bind (assignInOrder_cons (wpAny_bindName (Zfr I3 hN hj (.inl hy) rw' (λs2 I4=>?_) (.inr hy))));refine assignInOrder_cons (wpAny_bindName (Zfr I4 hN hi (.inl hx) rv (λs3 I5=>assignInOrder_nil (wpAny_pure ?_)) (.inr hx)));rw[List.set_comm _ _ (Ne.symm hij)]at I5;exact⟨_,H1,I5,q1⟩
def tWhile (c:TT) (tb:TS):TS:=λD σ H=>∃W:Nat->St->Hp->Prop,(∃m,W m σ H)/\∀m σ H,W m σ H →
 c σ H λb H1=>if b=true then ∃N:St->Hp->Prop,(∀σ' H',N σ' H' -> ∃m',m'<m/\W m' σ' H')/\tb { D with nx:=N,ct:=N,bk:=D.nx } σ H1 else D.nx σ H1
theorem Zig {c:Expr}{body:List Stmt}{tc:TT}{tb:TS}(hp:PassesOwn (model X.prog X.w) X.A X.env X.xe) (hc:PT X c tc) (hb:PSs X body tb):PS X (.While c body [] pos) (tWhile tc tb):=by
 intro pins s σ H D I h;obtain⟨W,⟨m0,w0⟩,turn⟩:=h;refine wpAny_While (codeAny_whileLoop (λn s'=>∃σ' H',Inv X pins σ' H' s' /\ W n σ' H') ?_ m0 ⟨σ,H,I,w0⟩);rintro n s1 ⟨σ1,H1,I1,w1⟩;refine wpAny_passesOwn hp (thn (hc pins s1 σ1 H1 _ I1 (turn n σ1 H1 w1)) λb s2 ⟨H2,I2,q2⟩=>?_);cases b with
 |true=>
  obtain⟨N,hN,q2⟩:=q2;rw[if_pos rfl];refine wpAny_passesOwn hp (thn (hb pins s2 σ1 H2 _ I2 q2) λf s3 q3=>?_);cases f with
  |next=>
   obtain⟨σ3,H3,I3,n3⟩:=q3;obtain⟨m',hm,w3⟩:=hN σ3 H3 n3;exact⟨m',hm,σ3,H3,I3,w3⟩
  |cont=>
   obtain⟨σ3,H3,I3,n3⟩:=q3;obtain⟨m',hm,w3⟩:=hN σ3 H3 n3;exact⟨m',hm,σ3,H3,I3,w3⟩
  |brk=>exact q3
  |ret v=>exact q3
 |false=>
  rw[if_neg Wan];exact wpAny_execs_nil ⟨σ1,H2,I2,q2⟩
end
structure It where
 go:Nat->Hp->Prop
 yld:Nat->Hp->V->Hp->Prop
 stop:Nat->Hp->Prop
def FpOk (X:Cx) (pins:List (Addr × Obj)) (H:Hp) (b:Addr):Prop:=
 H b=none/\b≠X.env.locals/\b ∉ X.fs/\(b∈X.ex\/X.s₀.heap.objs.size<=b)/\(∀x c,X.env.cells.lookup x=some c->c≠b)/\∀p∈X.pn++pins,p.1≠b
theorem Inv.fpOk {X:Cx}{pins:List (Addr × Obj)}{σ:St}{H H':Hp}{s:Shared}{b:Addr}(I:Inv X pins σ H s) (hb:s.heap.objs.size<=b) (hn:H' b=none):FpOk X pins H' b:=by
 refine⟨hn,Wdk (Wbf I.lt hb),I.nofs hb,.inr (Wbx I.sz hb),λx c e z=>?_,λp hp z=>?_⟩
 ·obtain⟨v,q⟩:=I.cell x c e
  exact absurd (Wbf q.lt (by rw[z];exact hb)) (Wcw _)
 ·exact absurd (Wbf (War (I.pin p hp).1) (by rw[z];exact hb)) (Wcw _)
structure TurnG (Cm:Cx->Prop) (P:Program) (w:World) (K:W.Frag) (tg:Expr) (J:It) (fp:List Addr) (it:Addr) (tn:Nat->Heap->Prop):Prop where
 mem:it∈fp
 obj:∀i h,tn i h->∀b∈fp,∃o,h.get? b=some o/\∀v,o.data≠.cell v
 keep:∀i h h',tn i h->(∀b∈fp,∀o,h.get? b=some o->h'.get? b=some o)->tn i h'
 item:∀(X:Cx),X.prog=P->X.w=w->X.K=K->Cm X->∀(i:Nat) (pins:List (Addr × Obj)) (s:Shared) (σ:St) (H:Hp) (E:Value->Shared->Prop),Inv X pins σ H s->(∀b∈fp,FpOk X pins H b)->tn i s.heap->J.go i H →
  wpAny (model P w) X.A (pyNext (.ref it)) (λr s1=>∃u,r=some u ∧
   wpAny (model P w) X.A (letOwnedTupleGo tg (.ref it) u) (λ_ s2=>∃x H',Inv X pins σ H' s2/\RelV x u/\J.yld i H x H' /\ tn (i+1) s2.heap/\∀b∈fp,H' b=none) E s1) E s
 done:∀(X:Cx),X.prog=P->X.w=w->X.K=K->Cm X->∀(i:Nat) (pins:List (Addr × Obj)) (s:Shared) (σ:St) (H:Hp) (E:Value->Shared->Prop),Inv X pins σ H s->(∀b∈fp,FpOk X pins H b)->tn i s.heap->J.stop i H →
  wpAny (model P w) X.A (pyNext (.ref it)) (λr s1=>r=none/\Inv X pins σ H s1) E s
 self:∀(A:Around) (i:Nat) (s:Shared) (Q:Value->Shared->Prop) (E:Value->Shared->Prop),tn i s.heap->Q (.ref it) s->wpAny (model P w) A (pyIter (.ref it)) Q E s
abbrev Turn:=TurnG λX=>X.calm=true
abbrev TI:=St->Hp->(It->Hp->Prop)->Prop
def PIEG (Cm:Cx->Prop) (X:Cx) (pins:List (Addr × Obj)) (σ:St) (tg:Expr) (R:It->Hp->Prop) (itv:Value) (s2:Shared):Prop:=
 ∃(it:Addr) (fp:List Addr) (tn:Nat->Heap->Prop) (J:It) (H':Hp),itv=.ref it/\Inv X pins σ H' s2/\TurnG Cm X.prog X.w X.K tg J fp it tn/\tn 0 s2.heap/\(∀b∈fp,FpOk X pins H' b)/\R J H'
def PIG (Cm:Cx->Prop) (X:Cx) (tg iter:Expr) (wi:TI):Prop:=
 ∀(pins:List (Addr × Obj)) (s:Shared) (σ:St) (H:Hp) (R:It->Hp->Prop),Inv X pins σ H s->wi σ H R →
  wpAny (model X.prog X.w) X.A (eval iter X.env) (λv s1=>wpAny (model X.prog X.w) X.A (pyIter v) (PIEG Cm X pins σ tg R) X.xe s1) X.xe s
abbrev PIE:=PIEG λX=>X.calm=true
abbrev PI:=PIG λX=>X.calm=true
theorem Ztd {M:Model}{A:Around}{E:Value->Shared->Prop}{s:Shared}{tg:Expr}{it:Addr}{u:Value}{o:Obj}{n:String}{vs:Array Value}{Q:Unit->Shared->Prop}(ho:s.heap.get? it=some o) (hc:o.cls=.type n) (hd:o.data=.fields vs)
  (hn:["enumerate","zip","dict_itemiterator","dict_reverseitemiterator","odict_iterator","itertools.zip_longest","itertools.pairwise"].contains n=false) (hQ:Q () s):wpAny M A (letOwnedTupleGo tg (.ref it) u) Q E s:=by
 unfold letOwnedTupleGo;cases tg <;> first
  |exact wpAny_pure hQ
  | (cases u <;> first
      |exact wpAny_pure hQ
      | (refine wpAny_bind (wpAny_load ho ?_)
         rw[hc,hd];show wpAny M A (if (["enumerate","zip","dict_itemiterator","dict_reverseitemiterator","odict_iterator","itertools.zip_longest","itertools.pairwise"].contains n && vs[0]? == some (rawInt _))=true then _ else _) Q E s;rw[if_neg (by intro h;rw[hn,Wcc]at h;cases h)];exact wpAny_pure hQ))
def Itl (K:W.Frag) (a:Addr):It:=
 ⟨λi H=>∃xs x,SqL K H a xs/\xs[i]?=some x,λi H x H'=>H'=H/\∀xs,SqL K H a xs->xs[i]?=some x,λi H=>∃xs,SqL K H a xs/\xs.length<=i⟩
def Itt (K:W.Frag) (a:Addr):It:=
 ⟨λi H=>∃xs x,SqT K H a xs/\xs[i]?=some x,λi H x H'=>H'=H/\∀xs,SqT K H a xs->xs[i]?=some x,λi H=>∃xs,SqT K H a xs/\xs.length<=i⟩
def Itr (lo:Int) (n:Nat):It:=⟨λi _=>i<n,λi H x H'=>H'=H/\x=.int (lo+i),λi _=>n<=i⟩
theorem Zoo {P:Program}{w:World}{K:W.Frag}{tg:Expr}(a it:Addr):Turn P w K tg (Itl K a) [it] it (λi h=>h.IsListIter it a i) where
 mem:=by simp
 obj:=λi h st b hb=>by
  have e:b=it:=by simpa using hb
  subst e;obtain⟨o,e,c,d⟩:=st;exact⟨o,e,λv z=>by rw[d]at z;cases z⟩
 keep:=λi h h' st k=>st.at λo e=>k it (by simp) o e
 item:=by
  intro X hP hw hK hc i pins s σ H E I hf st hg;subst hP hw hK;obtain⟨xs,x,hq,hx⟩:=hg;obtain⟨its,rv,p,hz⟩:=I.list hq;obtain⟨u,hu,ru⟩:=rv.get hx;obtain⟨f0,f1,f2,f3,f4,f5⟩:=hf it (by simp);refine wpAny_pyNext_list_item st p.isList (x:=u) (by simpa using hu) λh' st' sb=>?_;have I1:Inv X pins σ H { s with heap:=h' }:=I.turned (t':=s.toks) (λb o hb e=>(sb.2 b hb).trans e) f0 f1 f3 f4 f5;obtain⟨o,e,c,d⟩:=id st';exact⟨u,rfl,Ztd (s:={ s with heap:=h' }) e c d (by decide) ⟨x,H,I1,ru,⟨rfl,λys hy=>by rw[I.list_inj hy hq];exact hx⟩,st',λb hb=>(hf b hb).1⟩⟩
 done:=by
  intro X hP hw hK hc i pins s σ H E I hf st hg;subst hP hw hK;obtain⟨xs,hq,hx⟩:=hg;obtain⟨its,rv,p,hz⟩:=I.list hq;obtain⟨f0,f1,f2,f3,f4,f5⟩:=hf it (by simp);have hl:=rv.length;exact wpAny_pyNext_list_end (I.ok.hd hc) st p.isList (by simp;omega) λh' eb=>⟨rfl,I.turned (t':=s.toks) (λb o hb e=>eb b o hb e) f0 f1 f3 f4 f5⟩
 self:=λ_ _ _ _ _ st h=>wpAny_pyIter_listiter st h
theorem Zml {P:Program}{w:World}{K:W.Frag}{tg:Expr}(a it:Addr):Turn P w K tg (Itt K a) [it] it (λi h=>h.IsTupleIter it a i) where
 mem:=by simp
 obj:=λi h st b hb=>by
  have e:b=it:=by simpa using hb
  subst e;obtain⟨o,e,c,d⟩:=st;exact⟨o,e,λv z=>by rw[d]at z;cases z⟩
 keep:=λi h h' st k=>st.at λo e=>k it (by simp) o e
 item:=by
  intro X hP hw hK hc i pins s σ H E I hf st hg;subst hP hw hK;obtain⟨xs,x,hq,hx⟩:=hg;obtain⟨its,rv,p,hz⟩:=I.tuple hq;obtain⟨u,hu,ru⟩:=rv.get hx;obtain⟨f0,f1,f2,f3,f4,f5⟩:=hf it (by simp);refine wpAny_pyNext_tuple_item st (show s.heap.IsTuple a its.toArray from p) (x:=u) (by simpa using hu) λh' st' sb=>?_;have I1:Inv X pins σ H { s with heap:=h' }:=I.turned (t':=s.toks) (λb o hb e=>(sb.2 b hb).trans e) f0 f1 f3 f4 f5;obtain⟨o,e,c,d⟩:=id st';exact⟨u,rfl,Ztd (s:={ s with heap:=h' }) e c d (by decide) ⟨x,H,I1,ru,⟨rfl,λys hy=>by rw[I.tuple_inj hy hq];exact hx⟩,st',λb hb=>(hf b hb).1⟩⟩
 done:=by
  intro X hP hw hK hc i pins s σ H E I hf st hg;subst hP hw hK;obtain⟨xs,hq,hx⟩:=hg;obtain⟨its,rv,p,hz⟩:=I.tuple hq;obtain⟨f0,f1,f2,f3,f4,f5⟩:=hf it (by simp);have hl:=rv.length;exact wpAny_pyNext_tuple_end (I.ok.hd hc) st (show s.heap.IsTuple a its.toArray from p) (by simp;omega) λh' eb=>⟨rfl,I.turned (t':=s.toks) (λb o hb e=>eb b o hb e) f0 f1 f3 f4 f5⟩
 self:=λ_ _ _ _ _ st h=>wpAny_pyIter_tupleiter st h
theorem Zlw {P:Program}{w:World}{K:W.Frag}{tg:Expr}(it:Addr) (lo:Int) (n:Nat):Turn P w K tg (Itr lo n) [it] it (λi h=>IsRangeIter h it (lo+(i:Nat)*1) ((n:Int)-(i:Nat)) 1) where
 mem:=by simp
 obj:=λi h st b hb=>by
  have e:b=it:=by simpa using hb
  subst e;exact⟨_,st,λv z=>by
   have z':Data.fields _=Data.cell v:=z;cases z'⟩
 keep:=λi h h' st k=>k it (by simp) _ st
 item:=by
  intro X hP hw hK hc i pins s σ H E I hf st hg;subst hP hw hK;obtain⟨f0,f1,f2,f3,f4,f5⟩:=hf it (by simp);have W:=Walks.range (prog:=X.prog) (w:=X.w) (I.ok.hd hc) it lo 1 n;refine W.item i s _ _ hg st λv h' tk hv st' kk=>?_;obtain⟨t,rfl⟩:=hv;have I1:Inv X pins σ H { s with heap:=h',toks:=tk }:=I.turned (λb o hb e=>kk b o (by simpa using hb) e) f0 f1 f3 f4 f5;refine⟨_,rfl,Ztd (s:={ s with heap:=h',toks:=tk }) (n:="range_iterator") st' rfl rfl (by decide) ⟨.int (lo+i),H,I1,⟨t,?_⟩,⟨rfl,rfl⟩,st',λb hb=>(hf b hb).1⟩⟩;rw[Int.mul_one]
 done:=by
  intro X hP hw hK hc i pins s σ H E I hf st hg;subst hP hw hK;obtain⟨f0,f1,f2,f3,f4,f5⟩:=hf it (by simp);exact wpAny_pyNext_range_end (I.ok.hd hc) st (by have:n<=i:=hg;omega) λh' eb=>⟨rfl,I.turned (t':=s.toks) (λb o hb e=>eb b o hb e) f0 f1 f3 f4 f5⟩
 self:=λ_ _ _ _ _ st h=>wpAny_pyIter_rangeiter st h
end L2
namespace L2
open PySem PySem.Spec PyProof.Rows
section
variable {X:Cx}{tg:Expr}
def iList (K:W.Frag) (tl:TE):TI:=λσ H R=>tl σ H λx H1=>∃a,x=.ref a/\(∃xs,SqL K H1 a xs)/\R (Itl K a) H1
def iTup (K:W.Frag) (tl:TE):TI:=λσ H R=>tl σ H λx H1=>∃a,x=.ref a/\(∃xs,SqT K H1 a xs)/\R (Itt K a) H1
theorem Zur {l:Expr}{tl:TE}(hl:PE X l tl):PI X tg l (iList X.K tl):=by
 intro pins s σ H R I h;refine thn (hl pins s σ H _ I h) λv s1 ⟨x,H1,I1,r1,q1⟩=>?_;obtain⟨a,e,⟨xs,hq⟩,q⟩:=q1;subst e;cases r1;obtain⟨its,rv,p,hz⟩:=I1.list hq;refine wpAny_pyIter_list p.isList ?_;refine⟨s1.heap.objs.size,[s1.heap.objs.size],_,_,H1,rfl,I1.kept (t':=s1.toks) λb o e=>Wac _ e,Zoo a _,⟨_,Wam _ rfl,rfl,rfl⟩,λb hb=>?_,q⟩;have e:b=s1.heap.objs.size:=by simpa using hb
 subst e;exact I1.fpOk (Wah _) (I1.hok.fresh (Wah _))
theorem Zwa {l:Expr}{tl:TE}(hl:PE X l tl):PI X tg l (iTup X.K tl):=by
 intro pins s σ H R I h;refine thn (hl pins s σ H _ I h) λv s1 ⟨x,H1,I1,r1,q1⟩=>?_;obtain⟨a,e,⟨xs,hq⟩,q⟩:=q1;subst e;cases r1;obtain⟨its,rv,p,hz⟩:=I1.tuple hq;refine wpAny_pyIter_tuple (show s1.heap.IsTuple a its.toArray from p) ?_;refine⟨s1.heap.objs.size,[s1.heap.objs.size],_,_,H1,rfl,I1.kept (t':=s1.toks) λb o e=>Wac _ e,Zml a _,⟨_,Wam _ rfl,rfl,rfl⟩,λb hb=>?_,q⟩;have e:b=s1.heap.objs.size:=by simpa using hb
 subst e;exact I1.fpOk (Wah _) (I1.hok.fresh (Wah _))
theorem range_it {pins:List (Addr × Obj)}{σ:St}{H:Hp}{s:Shared}{R:It->Hp->Prop}{E:Value->Shared->Prop}{lo hi:Int}{t u v:Tok}{tk:Nat}(I:Inv X pins σ H s) (h1:-(2 ^ 62)<=lo) (h2:lo<2 ^ 62) (h3:-(2 ^ 62)<=hi) (h4:hi<2 ^ 62)
  (q:R (Itr lo (hi-lo).toNat) H):wpAny (model X.prog X.w) X.A (pyIter (.ref s.heap.objs.size)) (PIE X pins σ tg R) E { s with heap:=s.heap.push { cls:=.type "range",data:=.fields #[.int lo t,.int hi u,.int 1 v] },toks:=tk }:=by
 refine wpAny_pyIter_range (IsRange.new ..) (small_one h1 h2 h3 h4) ?_;have I1:Inv X pins σ H { s with heap:=s.heap.push { cls:=.type "range",data:=.fields #[.int lo t,.int hi u,.int 1 v] },toks:=tk }:=I.kept λb o e=>Wac _ e;refine⟨(s.heap.push { cls:=.type "range",data:=.fields #[.int lo t,.int hi u,.int 1 v] }).objs.size,[(s.heap.push { cls:=.type "range",data:=.fields #[.int lo t,.int hi u,.int 1 v] }).objs.size],_,_,H,rfl,
  I1.kept (t':=tk) λb o e=>Wac _ e,Zlw _ lo (hi-lo).toNat,?_,λb hb=>?_,q⟩
 ·have e1:lo+((0:Nat):Int)*1=lo:=by simp
  have e2:(((hi-lo).toNat:Nat):Int)-((0:Nat):Int)=Builtin.Range.rangeSize lo hi 1:=by rw[rangeSize_one];split <;> omega
  show IsRangeIter _ _ (lo+((0:Nat):Int)*1) ((((hi-lo).toNat:Nat):Int)-((0:Nat):Int)) 1;rw[e1,e2];exact Wam _ rfl
 ·have e:b=(s.heap.push { cls:=.type "range",data:=.fields #[.int lo t,.int hi u,.int 1 v] }).objs.size:=by simpa using hb
  subst e;exact I1.fpOk (Wah _) (I1.hok.fresh (Wah _))
def iRng1 (ta:TA):TI:=λσ H R=>ta σ H λvs H1=>∃j:Int,vs=[.int j] /\ -(2 ^ 62)<=j/\j<2 ^ 62/\R (Itr 0 j.toNat) H1
theorem Zbn {a:Expr}{ta:TA}{p pos:Pos}(hg:Gl X "range") (hm:X.mg "range" = none) (ha:PA X [a] ta) (hs:starEach [a] X.env=[(false,eval a X.env)]:=by rfl):PI X tg (.Call (.Name "range" p) [a] [] pos) (iRng1 ta):=by
 intro pins s σ H R I h;refine Call_ (Zd7 I hg hm boot_range (PyProof.Rows.callWith_type1 (thn (ha pos pins s σ H _ I h) λus s1 ⟨vs,H1,I1,r1,q1⟩=>?_) hs rfl));obtain⟨j,e,q1,q2,q⟩:=q1;subst e;cases r1 with
 |cons r rr=>
  cases rr;obtain⟨t,rfl⟩:=r;exact call_range_1 (range_it I1 (by omega) (by omega) q1 q2 (by simpa using q))
def tFor (wi:TI) (g:TG) (tb:TS):TS:=λD σ H=>wi σ H λJ H1=>∃W:Nat->Nat->St->Hp->Prop,(∃m,W 0 m σ H1)/\∀i m σ H,W i m σ H →
 (J.stop i H/\D.nx σ H)\/(J.go i H/\∃N:St->Hp->Prop,(∀σ' H',N σ' H' -> ∃m',m'<m/\W (i+1) m' σ' H')/\∀x H',J.yld i H x H' -> g x σ H' λσ2 H2=>tb { D with nx:=N,ct:=N,bk:=D.nx } σ2 H2)
def pinsAt (fp:List Addr) (h:Heap):List (Addr × Obj):=fp.filterMap λb=>(h.get? b).map λo=>(b,o)
theorem Zci {fp:List Addr}{h:Heap}{b:Addr}{o:Obj}(hb:b∈fp) (e:h.get? b=some o):(b,o)∈pinsAt fp h:=Wef.mpr ⟨b,hb,by rw[e];rfl⟩
theorem Zox {fp:List Addr}{h:Heap}{p:Addr × Obj}(hp:p∈pinsAt fp h):p.1∈fp/\h.get? p.1=some p.2:=by
 obtain⟨b,hb,e⟩:=Wef.mp hp;cases q:h.get? b with
 |none=>rw[q]at e;cases e
 |some o=>
  rw[q]at e;have e':(b,o)=p:=Wbh.inj e;subst e';exact⟨hb,q⟩
theorem Inv.pinned {pins:List (Addr × Obj)}{σ:St}{H:Hp}{s:Shared}{fp:List Addr}(I:Inv X pins σ H s) (hf:∀b∈fp,FpOk X pins H b) (ho:∀b∈fp,∃o,s.heap.get? b=some o/\∀v,o.data≠.cell v):Inv X (pins++pinsAt fp s.heap) σ H s:=
 I.pins_of λp hp=>(Wbd.mp hp).elim (λz=>I.pin p (Wa9 _ z)) λz=>by
  obtain⟨hb,e⟩:=Zox z;obtain⟨f0,f1,f2,_⟩:=hf p.1 hb;obtain⟨o,e',d⟩:=ho p.1 hb;rw[e]at e';cases e';exact⟨e,f0,f1,f2,d⟩
theorem Inv.unpinned {pins pl:List (Addr × Obj)}{σ:St}{H:Hp}{s:Shared}(I:Inv X (pins++pl) σ H s):Inv X pins σ H s:=I.pins_of λp hp=>I.pin p (Wa9 _ (Wd8 _ hp))
theorem Zcv {iter:Expr}{body:List Stmt}{wi:TI}{g:TG}{tb:TS}{pos:Pos}(hp:PassesOwn (model X.prog X.w) X.A X.env X.xe) (hc:X.calm=true) (hi:PI X tg iter wi) (hg:PG X tg g) (hb:PSs X body tb)
  (hs:∀x,foldedSetIterable iter X.env x=pure x:=by intro _;rfl):PS X (.For tg iter body [] pos) (tFor wi g tb):=by
 intro pins s σ H D I h;refine wpAny_For (thn (hi pins s σ H _ I h) λv s1 h1=>thn h1 λitv s2 h2=>?_) hs;obtain⟨it,fp,tn,J,H2,e,I2,T,st2,f2,W,⟨m0,w0⟩,turn⟩:=h2;subst e
 -- what stays true of the iterator's objects through the loop
 have stat:∀{H':Hp},(∀b∈fp,H' b=none)->∀b∈fp,FpOk X pins H' b:=λhn b hb=>⟨hn b hb,(f2 b hb).2⟩;refine codeAny_forLoop_any (λn s'=>∃i σ' H',Inv X pins σ' H' s' /\ tn i s'.heap/\(∀b∈fp,H' b=none)/\W i n σ' H') ?_ m0 ⟨0,σ,H2,I2,st2,λb hb=>(f2 b hb).1,w0⟩;rintro n s3 ⟨i,σ3,H3,I3,st3,fr3,w3⟩;rcases turn i n σ3 H3 w3 with ⟨stop,qn⟩|⟨go,N,hN,step⟩
 ·refine wpAny_passesOwn hp (thn (T.done X rfl rfl rfl hc i pins s3 σ3 H3 X.xe I3 (stat fr3) st3 stop) λr s4 ⟨hr,I4⟩=>?_)
  subst hr;exact wpAny_execs_nil ⟨σ3,H3,I4,qn⟩
 ·refine wpAny_passesOwn hp (thn (T.item X rfl rfl rfl hc i pins s3 σ3 H3 X.xe I3 (stat fr3) st3 go) λr s4 ⟨u,hr,h4⟩=>?_)
  subst hr;refine wpAny_passesOwn hp (thn h4 λ_ s5 ⟨x,H5,I5,r5,y5,st5,fr5⟩=>?_);have I5':=I5.pinned (stat fr5) (T.obj _ _ st5);refine wpAny_passesOwn hp (thn (hg _ s5 σ3 H5 x u _ I5' r5 (step x H5 y5)) λ_ s6 ⟨σ6,H6,I6,q6⟩=>?_);refine wpAny_passesOwn hp (thn (hb _ s6 σ6 H6 _ I6 q6) λf s7 q7=>?_);have again:∀{σ7:St}{H7:Hp},Inv X (pins++pinsAt fp s5.heap) σ7 H7 s7->N σ7 H7->∃m,m<n/\∃i σ' H',Inv X pins σ' H' s7/\tn i s7.heap/\(∀b∈fp,H' b=none)/\W i m σ' H':=λ{σ7 H7} I7 n7=>by
   obtain⟨m',hm,w7⟩:=hN σ7 H7 n7;refine⟨m',hm,i+1,σ7,H7,I7.unpinned,T.keep _ _ _ st5 λb hb o e=>(I7.pin (b,o) (Wa9 _ (Wa9 _ (Zci hb e)))).1,λb hb=>?_,w7⟩;obtain⟨o,e,d⟩:=T.obj _ _ st5 b hb;exact(I7.pin (b,o) (Wa9 _ (Wa9 _ (Zci hb e)))).2.1
  cases f with
  |next=>obtain⟨σ7,H7,I7,n7⟩:=q7;exact again I7 n7
  |cont=>obtain⟨σ7,H7,I7,n7⟩:=q7;exact again I7 n7
  |brk=>obtain⟨σ7,H7,I7,q7⟩:=q7;exact⟨σ7,H7,I7.unpinned,q7⟩
  |ret v=>obtain⟨x7,σ7,H7,I7,r7,q7⟩:=q7;exact⟨x7,σ7,H7,I7.unpinned,r7,q7⟩
end
end L2
namespace L2
open PySem PySem.Spec PyProof.Rows
abbrev R2:=V->V->Hp->VK->Prop
def OpR (X:Cx) (f:Value->Value->Sem Value) (r:R2):Prop:=
 ∀(pins:List (Addr × Obj)) (s:Shared) (σ:St) (H:Hp) (x y:V) (v u:Value) (Q:VK),Inv X pins σ H s->RelV x v->RelV y u->r x y H Q →
  wpAny (model X.prog X.w) X.A (f v u) (EP X pins σ Q) X.xe s
def CallR (X:Cx) (f:Value) (r:List V->Hp->VK->Prop):Prop:=
 ∀(pins:List (Addr × Obj)) (s:Shared) (σ:St) (H:Hp) (xs:List V) (us:List Value) (Q:VK),Inv X pins σ H s->Vals xs us->r xs H Q →
  wpAny (model X.prog X.w) X.A (call f us) (EP X pins σ Q) X.xe s
def TruR (X:Cx) (r:V->Hp->(Bool->Hp->Prop)->Prop):Prop:=
 ∀(pins:List (Addr × Obj)) (s:Shared) (σ:St) (H:Hp) (x:V) (v:Value) (Q:Bool->Hp->Prop),Inv X pins σ H s->RelV x v->r x H Q →
  wpAny (model X.prog X.w) X.A (truthy v) (TP X pins σ Q) X.xe s
def tOp (r:R2) (ta tb:TE):TE:=λσ H Q=>ta σ H λx H1=>tb σ H1 λy H2=>r x y H2 Q
def tUn (r:V->Hp->VK->Prop) (ta:TE):TE:=λσ H Q=>ta σ H λx H1=>r x H1 Q
def rI (C:Int->Int->Prop) (g:Int->Int->V):R2:=λx y H Q=>∃i j,x=.int i/\y=.int j/\C i j/\Q (g i j) H
def rI0 (g:Int->Int->V):R2:=λx y H Q=>∃i j,x=.int i/\y=.int j/\Q (g i j) H
section
variable {X:Cx}{a b c:Expr}{ta tb tc:TE}{pos:Pos}
theorem binT (ha:PE X a ta) (hb:PE X b tb) {pins:List (Addr × Obj)}{s:Shared}{σ:St}{H:Hp}{R:V->V->Hp->Prop}(I:Inv X pins σ H s)
  (h:ta σ H λx H1=>tb σ H1 λy H2=>R x y H2) {Q:Value->Shared->Prop}{f:Value->Value->Sem Value}
  (hf:∀v u s2 x y H2,Inv X pins σ H2 s2->RelV x v->RelV y u->R x y H2->wpAny (model X.prog X.w) X.A (f v u) Q X.xe s2) :
  wpAny (model X.prog X.w) X.A (eval a X.env) (λv s₁=>wpAny (model X.prog X.w) X.A (eval b X.env) (λu s₂=>wpAny (model X.prog X.w) X.A (f v u) Q X.xe s₂) X.xe s₁) X.xe s:=by
 refine thn (ha pins s σ H _ I h) λv s1 ⟨x,H1,I1,r1,q1⟩=>?_;refine thn (hb pins s1 σ H1 _ I1 q1) λu s2 ⟨y,H2,I2,r2,q2⟩=>?_;exact hf v u s2 x y H2 I2 r1 r2 q2
theorem Zaq {op:Operator}{r:R2}(ho:OpR X (binaryOp op) r) (ha:PE X a ta) (hb:PE X b tb):PE X (.BinOp a op b pos) (tOp r ta tb):=by
 intro pins s σ H Q I h;exact wpAny_BinOp (binT ha hb I h λv u s2 x y H2 I2 rx ry q=>ho pins s2 σ H2 x y v u Q I2 rx ry q)
theorem opI {f:Value->Value->Sem Value}{C:Int->Int->Prop}{g:Int->Int->Int}
  (rule:∀(i j:Int) (t u:Tok) (s:Shared) (Q:Value->Shared->Prop) (E:Value->Shared->Prop),C i j->Q (.int (g i j) s.toks) { s with toks:=s.toks+1 } -> wpAny (model X.prog X.w) X.A (f (.int i t) (.int j u)) Q E s) :
  OpR X f (rI C λi j=>.int (g i j)):=by
 intro pins s σ H x y v u Q I rx ry h;obtain⟨i,j,rfl,rfl,hc,q⟩:=h;obtain⟨t,rfl⟩:=rx;obtain⟨t',rfl⟩:=ry;exact rule i j t t' s _ _ hc ⟨.int (g i j),H,I.tok _,⟨_,rfl⟩,q⟩
theorem opI0 {f:Value->Value->Sem Value}{g:Int->Int->Int}
  (rule:∀(i j:Int) (t u:Tok) (s:Shared) (Q:Value->Shared->Prop) (E:Value->Shared->Prop),Q (.int (g i j) s.toks) { s with toks:=s.toks+1 } -> wpAny (model X.prog X.w) X.A (f (.int i t) (.int j u)) Q E s) :
  OpR X f (rI0 λi j=>.int (g i j)):=by
 intro pins s σ H x y v u Q I rx ry h;obtain⟨i,j,rfl,rfl,q⟩:=h;obtain⟨t,rfl⟩:=rx;obtain⟨t',rfl⟩:=ry;exact rule i j t t' s _ _ ⟨.int (g i j),H,I.tok _,⟨_,rfl⟩,q⟩
theorem opB0 {f:Value->Value->Sem Value}{g:Int->Int->Bool}
  (rule:∀(i j:Int) (t u:Tok) (s:Shared) (Q:Value->Shared->Prop) (E:Value->Shared->Prop),Q (.bool (g i j)) s->wpAny (model X.prog X.w) X.A (f (.int i t) (.int j u)) Q E s) :
  OpR X f (rI0 λi j=>.bl (g i j)):=by
 intro pins s σ H x y v u Q I rx ry h;obtain⟨i,j,rfl,rfl,q⟩:=h;obtain⟨t,rfl⟩:=rx;obtain⟨t',rfl⟩:=ry;exact rule i j t t' s _ _ ⟨.bl (g i j),H,I,rfl,q⟩
def CDiv (i j:Int):Prop:=0<j/\j<1073741824
def CPow (i j:Int):Prop:=0<=j/\j<=1000000/\i.natAbs<2 ^ 64
def CMul (i j:Int):Prop:=(-(2 ^ 64)<i/\i<2 ^ 64)\/(-(2 ^ 64)<j/\j<2 ^ 64)
theorem CMul.ok {i j:Int}(h:CMul i j):IntMulOk i j:=by
 rcases h with ⟨h1,h2⟩|⟨h1,h2⟩
 ·exact .of_left (intBits_le_64 h1 h2)
 ·exact .of_right (intBits_le_64 h1 h2)
theorem Zws:OpR X (binaryOp .Add) (rI0 λi j=>.int (i+j)):=opI0 λ_ _ _ _ _ _ _ q=>add_int q
theorem Zeg:OpR X (binaryOp .Sub) (rI0 λi j=>.int (i-j)):=opI0 λ_ _ _ _ _ _ _ q=>sub_int q
theorem Zcx:OpR X (binaryOp .Mult) (rI CMul λi j=>.int (i*j)):=opI λ_ _ _ _ _ _ _ hc q=>mul_int q hc.ok
theorem Zfb:OpR X (binaryOp .FloorDiv) (rI CDiv λi j=>.int (i / j)):=opI λi j _ _ _ _ _ hc q=>by
 have h1:(0:Int)<j:=hc.1;have h2:j<1073741824:=hc.2;exact floordiv_int (by omega) (by rw[Int.fdiv_eq_ediv_of_nonneg i (by omega)];exact q) (.inl (PyProof.noPylong_small (by omega)))
theorem Zcc:OpR X (binaryOp .Mod) (rI (λ_ j=>0<j) λi j=>.int (i % j)):=opI λi j _ _ _ _ _ hc q=>by
 have h1:(0:Int)<j:=hc;exact mod_int' (by omega) (by rw[Int.fmod_eq_emod_of_nonneg i (by omega)];exact q)
theorem Zuy:OpR X (binaryOp .Pow) (rI CPow λi j=>.int (i ^ j.toNat)):=opI λ_ _ _ _ _ _ _ hc q=>pow_int_small hc.1 hc.2.1 hc.2.2 q
theorem Zpm:OpR X (binaryOp .BitXor) (rI0 λi j=>.int (Builtin.bitXor i j)):=opI0 λ_ _ _ _ _ _ _ q=>xor_int q
end
def scal:V->V->Bool
 |.non,.non=>true|.non,.int _=>true|.int _,.non=>true|.non,.bl _=>true|.bl _,.non=>true|.non,.str _=>true|.str _,.non=>true
 |.int _,.int _=>true|.bl _,.bl _=>true|.str _,.str _=>true|.byt _,.byt _=>true
 |.int _,.str _=>true|.str _,.int _=>true|.bl _,.str _=>true|.str _,.bl _=>true
 |_,_=>false
def rEq:R2:=λx y H Q=>scal x y=true/\Q (.bl (decide (x=y))) H
def rNe:R2:=λx y H Q=>scal x y=true/\Q (.bl (!decide (x=y))) H
theorem Zih {i j:Int}:decide (V.int i=V.int j)=(i == j):=by
 rw[Wde];simp
theorem Zr6 {i j:Bool}:decide (V.bl i=V.bl j)=(i == j):=by
 rw[Wde];simp
theorem Zov {i j:Str}:decide (V.str i=V.str j)=(i == j):=by
 rw[Wde];simp
theorem Zns {i j:Array UInt8}:decide (V.byt i=V.byt j)=(i.toList == j.toList):=by
 rw[Wde];cases i;cases j;simp
section
variable {X:Cx}{a b c:Expr}{ta tb tc:TE}{pos:Pos}
theorem Za5 {pins:List (Addr × Obj)}{σ:St}{H:Hp}{s:Shared}{Q:VK}{k k':Bool}(I:Inv X pins σ H s) (q:Q (.bl k) H) (e:k=k'):EP X pins σ Q (.bool k') s:=by
 subst e;exact⟨.bl k,H,I,rfl,q⟩
theorem Zxm:OpR X (compareOp .Eq) rEq:=by
 intro pins s σ H x y v u Q I rx ry h;obtain⟨hs,q⟩:=h;cases x with
 |non=>
  cases rx;cases y with
  |non=>cases ry;exact PySem.EqNone.eq_none_none (Za5 I q (by simp))
  |bl j=>cases ry;exact PySem.EqNone.eq_none_bool (Za5 I q (by simp))
  |int j=>obtain⟨t',rfl⟩:=ry;exact PySem.EqNone.eq_none_int (Za5 I q (by simp))
  |str j=>obtain⟨t',rfl⟩:=ry;exact PySem.EqNone.eq_none_str (Za5 I q (by simp))
  |_=>exact absurd (show false=true from hs) Wan
 |bl i=>
  cases rx;cases y with
  |non=>cases ry;exact PySem.EqNone.eq_bool_none (Za5 I q (by simp))
  |bl j=>cases ry;exact eq_bool (Za5 I q Zr6)
  |str j=>obtain⟨t',rfl⟩:=ry;exact PySem.EqMixed.eq_bool_str (Za5 I q (by simp))
  |_=>exact absurd (show false=true from hs) Wan
 |int i=>
  obtain⟨t,rfl⟩:=rx;cases y with
  |non=>cases ry;exact PySem.EqNone.eq_int_none (Za5 I q (by simp))
  |int j=>obtain⟨t',rfl⟩:=ry;exact eq_int (Za5 I q Zih)
  |str j=>obtain⟨t',rfl⟩:=ry;exact PySem.EqMixed.eq_int_str (Za5 I q (by simp))
  |_=>exact absurd (show false=true from hs) Wan
 |str i=>
  obtain⟨t,rfl⟩:=rx;cases y with
  |non=>cases ry;exact PySem.EqNone.eq_str_none (Za5 I q (by simp))
  |bl j=>cases ry;exact PySem.EqMixed.eq_str_bool (Za5 I q (by simp))
  |int j=>obtain⟨t',rfl⟩:=ry;exact PySem.EqMixed.eq_str_int (Za5 I q (by simp))
  |str j=>obtain⟨t',rfl⟩:=ry;exact eq_str (Za5 I q Zov)
  |_=>exact absurd (show false=true from hs) Wan
 |byt i=>
  obtain⟨t,rfl⟩:=rx;cases y with
  |byt j=>obtain⟨t',rfl⟩:=ry;exact PySem.W.eq_bytes (Za5 I q Zns)
  |_=>exact absurd (show false=true from hs) Wan
 |_=>cases y <;> exact absurd (show false=true from hs) Wan
theorem Zxa:OpR X (compareOp .NotEq) rNe:=by
 intro pins s σ H x y v u Q I rx ry h;obtain⟨hs,q⟩:=h;cases x with
 |non=>
  cases rx;cases y with
  |non=>cases ry;exact PySem.EqNone.ne_none_none (Za5 I q (by simp))
  |bl j=>cases ry;exact PySem.EqNone.ne_none_bool (Za5 I q (by simp))
  |int j=>obtain⟨t',rfl⟩:=ry;exact PySem.EqNone.ne_none_int (Za5 I q (by simp))
  |str j=>obtain⟨t',rfl⟩:=ry;exact PySem.EqNone.ne_none_str (Za5 I q (by simp))
  |_=>exact absurd (show false=true from hs) Wan
 |bl i=>
  cases rx;cases y with
  |non=>cases ry;exact PySem.EqNone.ne_bool_none (Za5 I q (by simp))
  |bl j=>cases ry;exact ne_bool (Za5 I q (congrArg not Zr6))
  |str j=>obtain⟨t',rfl⟩:=ry;exact PySem.EqMixed.ne_bool_str (Za5 I q (by simp))
  |_=>exact absurd (show false=true from hs) Wan
 |int i=>
  obtain⟨t,rfl⟩:=rx;cases y with
  |non=>cases ry;exact PySem.EqNone.ne_int_none (Za5 I q (by simp))
  |int j=>obtain⟨t',rfl⟩:=ry;exact ne_int (Za5 I q (congrArg not Zih))
  |str j=>obtain⟨t',rfl⟩:=ry;exact PySem.EqMixed.ne_int_str (Za5 I q (by simp))
  |_=>exact absurd (show false=true from hs) Wan
 |str i=>
  obtain⟨t,rfl⟩:=rx;cases y with
  |non=>cases ry;exact PySem.EqNone.ne_str_none (Za5 I q (by simp))
  |bl j=>cases ry;exact PySem.EqMixed.ne_str_bool (Za5 I q (by simp))
  |int j=>obtain⟨t',rfl⟩:=ry;exact PySem.EqMixed.ne_str_int (Za5 I q (by simp))
  |str j=>obtain⟨t',rfl⟩:=ry;exact ne_str (Za5 I q (congrArg not Zov))
  |_=>exact absurd (show false=true from hs) Wan
 |byt i=>
  obtain⟨t,rfl⟩:=rx;cases y with
  |byt j=>obtain⟨t',rfl⟩:=ry;exact PySem.W.ne_bytes (Za5 I q (congrArg not Zns))
  |_=>exact absurd (show false=true from hs) Wan
 |_=>cases y <;> exact absurd (show false=true from hs) Wan
theorem Zua:OpR X (compareOp .Lt) (rI0 λi j=>.bl (decide (i<j))):=opB0 λ_ _ _ _ _ _ _ q=>lt_int q
theorem Zsm:OpR X (compareOp .Gt) (rI0 λi j=>.bl (decide (j<i))):=opB0 λ_ _ _ _ _ _ _ q=>gt_int q
theorem Zxe:OpR X (compareOp .GtE) (rI0 λi j=>.bl (decide (j<=i))):=opB0 λ_ _ _ _ _ _ _ q=>ge_int q
theorem OpR.or {f:Value->Value->Sem Value}{r r':R2}(h:OpR X f r) (h':OpR X f r'):OpR X f (λx y H Q=>r x y H Q\/r' x y H Q):=by
 intro pins s σ H x y v u Q I rx ry q;rcases q with q|q
 ·exact h pins s σ H x y v u Q I rx ry q
 ·exact h' pins s σ H x y v u Q I rx ry q
theorem nomark (b:Expr) {op:CmpOp}(h:op≠.In:=by decide) (h2:op≠.NotIn:=by decide):behindInMarks op b=false:=by
 have e1:(op == CmpOp.In)=false:=by cases op <;> first|rfl|exact absurd rfl h
 have e2:(op == CmpOp.NotIn)=false:=by cases op <;> first|rfl|exact absurd rfl h2
 cases b <;> simp[behindInMarks,e1,e2]
theorem Zoc {op:CmpOp}{r:R2}(ho:OpR X (compareOp op) r) (ha:PE X a ta) (hb:PE X b tb) (hm:behindInMarks op b=false):PE X (.Compare a [op] [b] pos) (tOp r ta tb):=by
 intro pins s σ H Q I h;exact wpAny_Compare1 (binT ha hb I h λv u s2 x y H2 I2 rx ry q=>ho pins s2 σ H2 x y v u Q I2 rx ry q) hm
def tTest (t:TE):TT:=λσ H Q=>t σ H λx H'=>∃k,x=.bl k/\Q k H'
theorem Za2 {op:CmpOp}{r:R2}(ho:OpR X (compareOp op) r) (ha:PE X a ta) (hb:PE X b tb) (hm:behindInMarks op b=false):PT X (.Compare a [op] [b] pos) (tTest (tOp r ta tb)):=by
 intro pins s σ H Q I h;refine wpAny_isTrue_Compare1 (thn (ha pins s σ H _ I h) λv s1 ⟨x,H1,I1,r1,q1⟩=>thn (hb pins s1 σ H1 _ I1 q1) λu s2 ⟨y,H2,I2,r2,q2⟩=>
  thn (ho pins s2 σ H2 x y v u _ I2 r1 r2 q2) λc s3 ⟨z,H3,I3,r3,k,e,q3⟩=>?_) hm
 subst e;cases r3;exact wpAny_truthy_bool ⟨H3,I3,q3⟩
def TruV (K:W.Frag) (x:V) (H:Hp) (k:Bool):Prop:=
 match x with
 |.non=>k=false
 |.bl b=>k=b
 |.int i=>k=(i != 0)
 |.str y=>y.length<=sizeLine/\k=((y.length:Int) != 0)
 |.byt y=>y.size<=sizeLine/\k=((y.size:Int) != 0)
 |.ref p=>(∃xs,SqL K H p xs/\k = !xs.isEmpty)\/(∃xs,SqT K H p xs/\k = !xs.isEmpty)\/∃kvs,H p=some (.dK kvs)/\k = !kvs.isEmpty
 |_=>False
theorem Zme {κ:Type}{kvs:List (κ × V)}{vs:List (κ × Value)}(r:KV kvs vs):(!vs.isEmpty) = !kvs.isEmpty:=by
 cases r <;> rfl
theorem Zg6 {xs:List V}{its:List Value}(r:Vals xs its):(!its.toArray.isEmpty) = !xs.isEmpty:=by
 cases r <;> simp
theorem line63:(sizeLine:Nat)<2 ^ 63:=by rw[sizeLine_eq];decide
theorem Zvp:TruR X (λx H Q=>∃k,TruV X.K x H k/\Q k H):=by
 intro pins s σ H x v Q I rx h;obtain⟨k,e,q⟩:=h;have hl:=line63;have hs:sizeLine=16777216:=sizeLine_eq;cases x with
 |non=>
  cases rx;have e':k=false:=e;subst e';exact truthy_none ⟨H,I,q⟩
 |bl b=>
  cases rx;have e':k=b:=e;subst e';exact wpAny_truthy_bool ⟨H,I,q⟩
 |int i=>
  obtain⟨t,rfl⟩:=rx;have e':k=(i != 0):=e;subst e';exact PySem.P.truthy_int ⟨H,I,q⟩
 |str y=>
  obtain⟨t,rfl⟩:=rx;obtain⟨hy,e'⟩:y.length<=sizeLine/\k=((y.length:Int) != 0):=e;subst e';exact PySem.P.truthy_str (by omega) ⟨H,I.tok _,q⟩
 |byt y=>
  obtain⟨t,rfl⟩:=rx;obtain⟨hy,e'⟩:y.size<=sizeLine/\k=((y.size:Int) != 0):=e;subst e';exact PySem.W.truthy_bytes (by omega) ⟨H,I.tok _,q⟩
 |ref p=>
  cases rx;have e':(∃xs,SqL X.K H p xs/\k = !xs.isEmpty)\/(∃xs,SqT X.K H p xs/\k = !xs.isEmpty)\/∃kvs,H p=some (.dK kvs)/\k = !kvs.isEmpty:=e;rcases e' with ⟨xs,hx,e'⟩|⟨xs,hx,e'⟩|⟨kvs,hx,e'⟩
  ·subst e'
   obtain⟨its,r,pl,hz⟩:=I.list hx;have hlen:=r.length;exact wpAny_truthy_list pl.isList (by simp only[Wak];omega) ⟨H,I.tok _,by rw[Zg6 r];exact q⟩
  ·subst e'
   obtain⟨its,r,pl,hz⟩:=I.tuple hx;have hlen:=r.length;exact truthy_tuple pl (by simp only[Wak];omega) ⟨H,I.tok _,by rw[Zg6 r];exact q⟩
  ·subst e'
   obtain⟨hz,hS,vs,r,m⟩:kvs.length<=sizeLine/\(p == sysModules)=false/\∃vs,KV kvs vs/\s.heap.DictOf (mixKind X.prog X.w) p vs:=I.hok p _ hx;have hlen:kvs.length=vs.length:=Paired.length r;exact wpAny_truthy_dict hS m (by omega) ⟨H,I.tok _,by rw[Zme r];exact q⟩
 |_=>exact(show False from e).elim
theorem Zqy (ha:PE X a ta) (he:∀whole,isTrue a X.env whole=(do let v ← whole;standAt a.pos;holding [v] (truthy v))) :
  PT X a (λσ H Q=>ta σ H λx H'=>∃k,TruV X.K x H' k/\Q k H'):=by
 intro pins s σ H Q I h;exact isTrue_plain (thn (ha pins s σ H _ I h) λv s1 ⟨x,H1,I1,r1,q1⟩=>Zvp pins s1 σ H1 x v Q I1 r1 q1) (he _)
theorem vals1 {x:V}{us:List Value}(r:Vals [x] us):∃u,us=[u]/\RelV x u:=by
 cases r with
 |cons r1 r2=>cases r2;exact⟨_,rfl,r1⟩
theorem vals2 {x y:V}{us:List Value}(r:Vals [x,y] us):∃u w',us=[u,w']/\RelV x u/\RelV y w':=by
 cases r with
 |cons r1 r2=>
  cases r2 with
  |cons r3 r4=>cases r4;exact⟨_,_,rfl,r1,r3⟩
theorem Zhr:CallR X (.builtin "abs") (λxs H Q=>∃i,xs=[.int i]/\Q (.int (if i<0 then -i else i)) H):=by
 intro pins s σ H xs us Q I r h;obtain⟨i,rfl,q⟩:=h;obtain⟨u,rfl,t,rfl⟩:=vals1 r;exact call_abs_int λu tk=>⟨.int (if i<0 then -i else i),H,I.tok _,⟨_,rfl⟩,q⟩
theorem Zf3 (hc:X.calm=true):CallR X (.builtin "max") (λxs H Q=>∃i j,xs=[.int i,.int j]/\Q (.int (if j > i then j else i)) H):=by
 intro pins s σ H xs us Q I r h;obtain⟨i,j,rfl,q⟩:=h;obtain⟨u,w',rfl,⟨t,rfl⟩,⟨t',rfl⟩⟩:=vals2 r;refine max_two_ints (I.ok.hd hc) λh' tk k=>⟨_,H,I.kept k,?_,q⟩;by_cases hj:j > i
 ·rw[if_pos hj,if_pos hj];exact⟨_,rfl⟩
 ·rw[if_neg hj,if_neg hj];exact⟨_,rfl⟩
theorem Zee (hc:X.calm=true):CallR X (.builtin "min") (λxs H Q=>∃i j,xs=[.int i,.int j]/\Q (.int (if j<i then j else i)) H):=by
 intro pins s σ H xs us Q I r h;obtain⟨i,j,rfl,q⟩:=h;obtain⟨u,w',rfl,⟨t,rfl⟩,⟨t',rfl⟩⟩:=vals2 r;refine min_two_ints (I.ok.hd hc) λh' tk k=>⟨_,H,I.kept k,?_,q⟩;by_cases hj:j<i
 ·rw[if_pos hj,if_pos hj];exact⟨_,rfl⟩
 ·rw[if_neg hj,if_neg hj];exact⟨_,rfl⟩
end
end L2
namespace L2
open PySem PySem.Spec PyProof.Rows
structure ObjM (h:Heap) (x dx C:Addr) (mA:Str->Option Value):Prop where
 obj:h.get? x=some (PySem.W.instObj C dx)
 ns:h.Ns1 dx mA
 ne:dx≠x
theorem Zos {h:Heap}{dx:Addr}{mA:Str->Option Value}(n:h.Ns1 dx mA):∃od,h.get? dx=some od/\∀name,PySem.W.lookIn name od=some (mA name):=by
 obtain⟨o,es,ep,ho,hd,hk,_,hm⟩:=n;refine⟨o,ho,λname=>?_⟩;have e:=hm name;unfold nsFind findBy at e;rw[<- Array.find?_toList]at e;unfold PySem.W.lookIn;rw[hd];dsimp only;split
 ·rename_i y q
  rw[q]at e;exact congrArg some e
 ·rename_i q
  rw[q]at e;have a:es.toList.any (·.refKey)=false:=by
   rw[List.any_eq_false];intro y hy;obtain⟨z,t,hkey⟩:=hk y (Array.mem_toList_iff.mp hy);simp[DictEntry.refKey,hkey]
  have a':¬ es.toList.any (·.refKey)=true:=by rw[a];exact Wan
  rw[if_neg a'];exact congrArg some e
theorem ObjM.look {h:Heap}{x dx C:Addr}{mA:Str->Option Value}(I:ObjM h x dx C mA):∃od,PySem.W.InstAt h x (PySem.W.instObj C dx) C (some od)/\∀name,PySem.W.lookIn name od=some (mA name):=
 let ⟨od,ho,hl⟩:=Zos I.ns
 ⟨od,⟨I.obj,rfl,rfl,ho⟩,hl⟩
theorem RelO.some_of {v:V}{o:Option Value}(r:RelO (some v) o):∃u,o=some u/\RelV v u:=by
 cases o with
 |none=>exact(show False from r).elim
 |some u=>exact⟨u,rfl,r⟩
section
variable {P:Program}{w:World}{H H':Hp}{h h':Heap}{a C dx:Addr}{fs fs':List (Str × V)}
theorem Zul (hok:HOk P w H h) (e:H a=some (.ins C dx fs)):∃mA,ObjM h a dx C mA/\(∀f,RelO (fs.lookup f) (mA f))/\PySem.Within mA (fs.map (·.1))/\fs.length<=1000/\H dx=some (.own a):=by
 obtain⟨d,z,ne,ob,mA,n,r,q⟩:=(show ObjOk P w H h a (.ins C dx fs) from hok a _ e);exact⟨mA,⟨ob,n,ne⟩,r,q,z,d⟩
end
structure Cls (K:W.Frag) (C:Addr):Prop where
 pg:PySem.W.plainGet K C Str.empty=true
 hd:PySem.W.hasDictIn K C=true
 po:PySem.W.plainOver K C=true
 sa:PySem.W.findIn K (.ref C) "__setattr__" = some (some (.builtin "object.__setattr__"))
theorem Cls.get {K:W.Frag}{C:Addr}(c:Cls K C) (f:Str):PySem.W.plainGet K C f=true:=c.pg
section
variable {X:Cx}{pins:List (Addr × Obj)}{σ:St}{H:Hp}{s:Shared}{a C dx:Addr}{fs:List (Str × V)}{f:Str}{v:V}{A:Around}{E:Value->Shared->Prop}
end
section
variable {X:Cx}{pins:List (Addr × Obj)}{σ:St}{H:Hp}{s:Shared}{A:Around}{E:Value->Shared->Prop}{Q:Value->Shared->Prop}{c:Value}{b:Bool}
inductive TyOf (K:W.Frag) (H:Hp):V->Value->Prop where
 |non:TyOf K H .non (.type "NoneType")
 |bl (x:Bool):TyOf K H (.bl x) (.type "bool")
 |int (i:Int):TyOf K H (.int i) (.type "int")
 |str (x:Str):TyOf K H (.str x) (.type "str")
 |flt (x:UInt64):TyOf K H (.flt x) (.type "float")
 |lst {a:Addr}{xs:List V}(e:H a=some (.lst xs)):TyOf K H (.ref a) (.type "list")
 |frz {a:Addr}{o:Obj}{xs:List V}(e:H a=some (.frz o (.lst xs))):TyOf K H (.ref a) (.type "list")
 |tup {a:Addr}{xs:List V}(e:H a=some (.tup xs)):TyOf K H (.ref a) (.type "tuple")
 |dK {a:Addr}{kvs:List (Key × V)}(e:H a=some (.dK kvs)):TyOf K H (.ref a) (.type "dict")
 |dT {a:Addr}{kvs:List (List Key × V)}(e:H a=some (.dT kvs)):TyOf K H (.ref a) (.type "dict")
 |ins {a C dx:Addr}{fs:List (Str × V)}(e:H a=some (.ins C dx fs)) (cl:Cls K C) (ha:PySem.W.findIn K (.ref C) "__class__" = some (some (.builtin "object.__class__")))
   (hn:PySem.W.specialIn K (.builtin "object.__class__") "__get__" = some (some (.builtin "getset_descriptor.__get__"))) (htk:PySem.W.takesIn K (.builtin "object.__class__")=some true)
   (hm:PySem.W.mroIn K C (.type "object")=some true):TyOf K H (.ref a) (.ref C)
theorem Zo7 {x:V}{u t:Value}(I:Inv X pins σ H s) (rx:RelV x u) (ty:TyOf X.K H x t) (e:PySem.W.kitOne X.K t c=some b) (h:∀tk,Q (.bool b) { s with toks:=tk }) :
  wpAny (model X.prog X.w) A (call (.builtin "isinstance") [u,c]) Q E s:=by
 cases ty with
 |non=>cases (show u=Value.none from rx);exact PySem.W.kia_one PySem.W.kitx_none I.kIn True.intro e (λz=>nomatch z) h
 |bl y=>cases (show u=Value.bool y from rx);exact PySem.W.kia_one PySem.W.kitx_bool I.kIn True.intro e (λz=>nomatch z) h
 |int i=>obtain⟨t,q⟩:=(show ∃t,u=Value.int i t from rx);cases q;exact PySem.W.kia_one PySem.W.kitx_int I.kIn True.intro e (λz=>nomatch z) h
 |str y=>obtain⟨t,q⟩:=(show ∃t,u=Value.str y t from rx);cases q;exact PySem.W.kia_one PySem.W.kitx_str I.kIn True.intro e (λz=>nomatch z) h
 |flt y=>obtain⟨t,q⟩:=(show ∃t,u=Value.float y t from rx);cases q;exact PySem.W.kia_one PySem.W.kitx_float I.kIn True.intro e (λz=>nomatch z) h
 |@lst a xs ea=>
  cases (show u=Value.ref a from rx);obtain⟨_,_,n,_,h1⟩:=(show ObjOk X.prog X.w H s.heap a (.lst xs) from I.hok a _ ea);exact PySem.W.kia_one PySem.W.kitx_list I.kIn ⟨_,h1,rfl⟩ e (λz=>nomatch z) h
 |@frz a ob xs ea=>
  cases (show u=Value.ref a from rx);obtain⟨_,_,_,n,_,h1⟩:=(show ObjOk X.prog X.w H s.heap a (.frz ob (.lst xs)) from I.hok a _ ea);exact PySem.W.kia_one PySem.W.kitx_list I.kIn ⟨_,h1,rfl⟩ e (λz=>nomatch z) h
 |@tup a xs ea=>
  cases (show u=Value.ref a from rx);obtain⟨_,_,_,p⟩:=(show ObjOk X.prog X.w H s.heap a (.tup xs) from I.hok a _ ea);obtain⟨o,h1,⟨h2,_⟩,_⟩:=p;exact PySem.W.kia_one PySem.W.kitx_tuple I.kIn ⟨o,h1,h2⟩ e (λz=>nomatch z) h
 |@dK a kvs ea=>
  cases (show u=Value.ref a from rx);obtain⟨_,_,vs,_,p⟩:=(show ObjOk X.prog X.w H s.heap a (.dK kvs) from I.hok a _ ea);obtain⟨o,es,ep,h1,h2,_⟩:=p;exact PySem.W.kia_one PySem.W.kitx_dict I.kIn ⟨o,h1,h2.1⟩ e (λz=>nomatch z) h
 |@dT a kvs ea=>
  cases (show u=Value.ref a from rx);obtain⟨_,_,xs,_,o,es,ep,h1,h2,_⟩:=(show ObjOk X.prog X.w H s.heap a (.dT kvs) from I.hok a _ ea);exact PySem.W.kia_one PySem.W.kitx_dict I.kIn ⟨o,h1,h2.1⟩ e (λz=>nomatch z) h
 |@ins a C dx fs ea cl ha hn htk hm=>
  cases (show u=Value.ref a from rx);obtain⟨mA,O,_⟩:=Zul I.hok ea;obtain⟨od,J,_⟩:=O.look;exact PySem.W.kia_one (PySem.W.kitx_own (cl.get _) cl.hd ha hn htk hm) I.kIn J e (λz=>nomatch z) h
end
end L2
namespace L2
open PySem PySem.Spec PyProof.Rows
structure Room (k:Nat) (A:Around):Prop where
 hd:A.handled=none
 dp:A.depth+3*k+5<recursionLimit
 un:A.units+16*k+200<cLine
 gd:A.guards=some []
theorem Room.mono {j k:Nat}{A:Around}(r:Room k A) (h:j<=k):Room j A:=⟨r.hd,by have:=r.dp;omega,by have:=r.un;omega,r.gd⟩
theorem Room.deeper {k:Nat}{A:Around}(r:Room (k+1) A) (env:Env):Room k (A.deeper env):=
 ⟨r.hd,by have:=r.dp;show A.depth+1+3*k+5<_;omega,by have:=r.un;show A.units+3+16*k+200<_;omega,r.gd⟩
theorem Room.depth {k:Nat}{A:Around}(r:Room k A):A.depth<recursionLimit:=by have:=r.dp;omega
theorem Room.units {k:Nat}{A:Around}(r:Room k A):A.units+64<cLine:=by have:=r.un;omega
def tNil:TA:=λ_ H Q=>Q [] H
def tCons (ta:TE) (tr:TA):TA:=λσ H Q=>ta σ H λx H1=>tr σ H1 λxs H2=>Q (x::xs) H2
section
variable {X:Cx}{e:Expr}{es:List Expr}{te:TE}{t:TA}{pos:Pos}
theorem Zad:PA X [] tNil:=λ_ _ _ _ H Q I h=>Calls.spliced_nil ⟨[],H,I,.nil,h⟩
theorem Zaa (ha:PE X e te) (hr:PA X es t) (hs:starEach (e::es) X.env=(false,eval e X.env)::starEach es X.env:=by rfl):PA X (e::es) (tCons te t):=by
 intro pos pins s σ H Q I h;rw[hs];show wpAny _ _ (spliced ((false,eval e X.env)::backTo pos (starEach es X.env))) _ _ s;refine Calls.spliced_cons (thn (ha pins s σ H _ I h) λu s1 ⟨x,H1,I1,r1,q1⟩=>?_);exact thn (hr pos pins s1 σ H1 _ I1 q1) λus s2 ⟨xs,H2,I2,r2,q2⟩=>⟨x::xs,H2,I2,.cons r1 r2,q2⟩
def tTup (t:TA):TE:=λσ H Q=>t σ H λxs H1=>xs.length<=sizeLine/\∀p,H1 p=none->Q (.ref p) (upd H1 p (.tup xs))
def tLst (t:TA):TE:=λσ H Q=>t σ H λxs H1=>xs.length<=sizeLine/\∀p,H1 p=none->Q (.ref p) (upd H1 p (.lst xs))
theorem Zct {x1} (h:PA X es t):PE X (.Tuple es x1 pos) (tTup t):=by
 intro pins s σ H Q I hq;refine wpAny_Tuple_spliced (thn (h pos pins s σ H _ I hq) λus s1 ⟨xs,H1,I1,r,z,q⟩=>⟨by rw[<- r.length];exact z,?_⟩);have hf:H1 s1.heap.objs.size=none:=I1.hok.fresh (Wah _);refine⟨.ref s1.heap.objs.size,upd H1 s1.heap.objs.size (.tup xs),I1.laid (t':=s1.toks) (λb u e=>Wac _ e) (Wah _) ?_,rfl,q _ hf⟩;exact⟨z,us,r,⟨_,Wam _ rfl,⟨rfl,_,rfl⟩,rfl⟩⟩
theorem Zff (h:PA X es t):PE X (.List es pos) (tLst t):=by
 intro pins s σ H Q I hq;refine wpAny_List_spliced (thn (h pos pins s σ H _ I hq) λus s1 ⟨xs,H1,I1,r,z,q⟩=>⟨by rw[<- r.length];exact z,?_⟩);have hf:H1 s1.heap.objs.size=none:=I1.hok.fresh (Wah _);refine⟨.ref s1.heap.objs.size,upd H1 s1.heap.objs.size (.lst xs),I1.laid (t':=s1.toks) (λb u e=>Wac _ e) (Wah _) ?_,rfl,q _ hf⟩;exact⟨z,us,0,r,Wam _ rfl⟩
end
abbrev Sp:=List V->Hp->VK->XK->Prop
abbrev CXT:=List Env->Hp->Shared->XK->Value->Shared->Prop
structure Env0 (P:Program) (w:World) (K:W.Frag) (mg:Str->Option Value) (base:Heap) (A:Around) (outer:List Env) (s:Shared) (H:Hp):Prop where
 frames:A.frames=some outer
 mod:Mod K mg base
 bs:∀b o,base.get? b=some o->s.heap.get? b=some o/\H b=none
 bsz:base.objs.size<=s.heap.objs.size
 funs:s.heap.FunFrames base outer
 frf:∀b∈frs outer,H b=none
 hok:HOk P w H s.heap
 bare:AllBare s.gens
def CE (outer:List Env) (P:Program) (w:World) (H:Hp) (s:Shared) (Q:VK) (u:Value) (s':Shared):Prop:=
 ∃v H',s'.os=s.os/\AllBare s'.gens/\Un (frs outer) [] H H' s.heap s'.heap/\HOk P w H' s'.heap/\RelV v u/\Q v H'
def CR (CX:CXT) (outer:List Env) (P:Program) (w:World) (H:Hp) (s:Shared) (Q:VK) (E:XK) (r:Result) (s':Shared):Prop:=
 match r with
 |.ok (.ret u)=>CE outer P w H s Q u s'
 |.ok _=>False
 |.error e=>CX outer H s E e s'
structure FnOk (P:Program) (w:World) (K:W.Frag) (mg:Str->Option Value) (base:Heap) (CX:CXT) (k:Nat) (f:Addr) (fd:FuncData) (ps:List Str) (sp:Sp):Prop where
 len:∀vs H Q E,sp vs H Q E->vs.length=ps.length
 run:∀(A:Around) (outer:List Env) (s:Shared) (H:Hp) (args:Args) (us:List Value) (vs:List V) (Q:VK) (E:XK),Room k A->Env0 P w K mg base A outer s H->BindsTo s fd args (ps.zip us)->Vals vs us->sp vs H Q E →
  codeAny (model P w) A (.call (.ref f) args) (CR CX outer P w H s Q E) s
theorem FnOk.imp {P:Program}{w:World}{K:W.Frag}{mg:Str->Option Value}{base:Heap}{CX:CXT}{k:Nat}{f:Addr}{fd:FuncData}{ps:List Str}{sp sp':Sp}(F:FnOk P w K mg base CX k f fd ps sp)
  (h:∀vs H Q E,sp' vs H Q E->sp vs H Q E):FnOk P w K mg base CX k f fd ps sp':=
 ⟨λvs H Q E q=>F.len vs H Q E (h _ _ _ _ q),λA outer s H args us vs Q E hr he hb hv hs=>F.run A outer s H args us vs Q E hr he hb hv (h _ _ _ _ hs)⟩
section
variable {X:Cx}{pins:List (Addr × Obj)}{σ:St}{H:Hp}{s s':Shared}
theorem Inv.env0 (I:Inv X pins σ H s):Env0 X.prog X.w X.K X.mg X.base X.A X.stack s H:=
 ⟨I.ok.frames,I.ok.mod,I.bs,Wbx I.ok.bsz I.sz,I.stack,I.stkFree,I.hok,I.bare⟩
theorem Inv.after {Q:VK}{u:Value}(I:Inv X pins σ H s) (h:CE X.stack X.prog X.w H s Q u s'):EP X pins σ Q u s':=by
 obtain⟨v,H',os,bare,un,hok,r,q⟩:=h;obtain⟨hh,g,d,t,os'⟩:=s';obtain rfl:os'=s.os:=os;exact⟨v,H',I.call (h':=hh) (g':=g) (d':=d) (t':=t) (ch:=[]) un hok bare (λb z=>absurd z (by simp)),r,q⟩
end
def tCall (sp:Sp) (dvs:List V) (E:XK) (t:TA):TE:=λσ H Q=>t σ H λvs H1=>sp (vs++dvs) H1 Q E
def Binds (K:W.Frag) (fd:FuncData) (ps:List Str) (ds:List Value):Prop:=
 ∀(s:Shared) (us:List Value),K.In s.heap->(us++ds).length=ps.length->BindsTo s fd ⟨us,[]⟩ (ps.zip (us++ds))
theorem Binds.all {K:W.Frag}{fd:FuncData}{ps:List Str}(h:∀us:List Value,us.length=ps.length->bindArgs fd ⟨us,[]⟩=pure (ps.zip us)):Binds K fd ps []:=λs us _ hl=>by
 rw[Wbb]at hl ⊢;exact .of_eq (h us hl)
def Passes (CX:CXT) (X:Cx) (E:XK):Prop:=∀(pins:List (Addr × Obj)) (σ:St) (H:Hp) (s:Shared) (e:Value) (s':Shared),Inv X pins σ H s->CX X.stack H s E e s' -> X.xe e s'
section
variable {X:Cx}{CX:CXT}{k:Nat}{f C:Addr}{fd:FuncData}{ps:List Str}{sp:Sp}{dvs:List V}{ds:List Value}{E:XK}{x m:Str}{p pos apos:Pos}{e o:Expr}{es:List Expr}{ta:TE}{t:TA}
theorem Zvt {pins:List (Addr × Obj)}{σ:St}{H:Hp}{s:Shared}{Q:VK}{us:List Value}{vs:List V}(F:FnOk X.prog X.w X.K X.mg X.base CX k f fd ps sp) (hr:Room k X.A) (hb:Binds X.K fd ps ds) (hd:Vals dvs ds) (hx:Passes CX X E)
  (I:Inv X pins σ H s) (r:Vals vs us) (h:sp (vs++dvs) H Q E):wpAny (model X.prog X.w) X.A (call (.ref f) us) (EP X pins σ Q) X.xe s:=by
 have r2:Vals (vs++dvs) (us++ds):=r.append hd;have hl:(us++ds).length=ps.length:=by rw[<- r2.length];exact F.len _ _ _ _ h
 refine wpAny_call (codeAny_mono (F.run X.A X.stack s H ⟨us,[]⟩ (us++ds) (vs++dvs) Q E hr I.env0 (hb s us I.kIn hl) r2 h) λr s' hq=>?_);cases r with
 |error e=>exact hx pins σ H s e s' I hq
 |ok fl=>
  cases fl with
  |ret u=>exact I.after hq
  |next=>exact False.elim hq
  |brk=>exact False.elim hq
  |cont=>exact False.elim hq
theorem Zs9 (F:FnOk X.prog X.w X.K X.mg X.base CX k f fd ps sp) (hr:Room k X.A) (hg:Gl X x) (hm:X.mg x=some (.ref f)) (hk:W.keepIn X.K (.ref f)=true) (hb:Binds X.K fd ps ds) (hd:Vals dvs ds) (hx:Passes CX X E)
  (ha:PA X (e::es) t) (hdb:(x == ("__debug__":Str))=false:=by decide) (he:starEach (e::es) X.env=(false,eval e X.env)::starEach es X.env:=by rfl) (hpl:(backTo pos (starEach es X.env)).any (·.1)=false:=by rfl) :
  PE X (.Call (.Name x p) (e::es) [] pos) (tCall sp dvs E t):=by
 intro pins s σ H Q I h;refine wpAny_Call_Name_kw (Ztz I hg hm ?_ hdb);refine PySem.W.callWith_K (h₀:=X.base) I.ok.mod.kin hk (thn (ha pos pins s σ H _ I h) λus s1 ⟨vs,H1,I1,r,q⟩=>⟨I1.kIn,?_⟩) he hpl;exact Zvt F hr hb hd hx I1 r q
end
section
variable {X:Cx}{CX:CXT}{k:Nat}{f C:Addr}{fd:FuncData}{ps ks:List Str}{sp:Sp}{E:XK}{x m:Str}{p pos apos kpos:Pos}{e o:Expr}{es:List Expr}{kws:List Keyword}{te ta:TE}{t tk:TA}{nm:Option Str}
variable {g:List Value->List Value->List Value}{gV:List V->List V->List V}
end
structure FnScope (N P:List Str) (sc:Scope):Prop where
 kind:sc.kind=.function
 co:sc.isCoroutine=false
 gen:sc.isGenerator=false
 nd:N.Nodup
 pre:N.take P.length=P
 par:∀x∈P,sc.names.lookup x=some .local\/sc.names.lookup x=some .cell
 nofree:∀y∈sc.names,y.2≠.free
theorem Ziz {kindOf:Str->Option NameKind}{x:Str}:∀{binds:List (Str × Value)}{m:Str->Option Value},(∀v,(x,v) ∉ binds)->bindL kindOf binds m x=m x
 |[],_,_=>rfl
 | (n,v)::r,m,h=>by
  unfold bindL;rw[Ziz λw hw=>h w (Was _ hw)];split
  ·have:x≠n:=by rintro rfl;exact h v Wa4
   simp[this]
  ·rfl
theorem Ziq {kindOf:Str->Option NameKind}{x:Str}:∀{binds:List (Str × Value)}{m:Str->Option Value},(∀v,(x,v) ∉ binds)->bindC kindOf binds m x=m x
 |[],_,_=>rfl
 | (n,v)::r,m,h=>by
  unfold bindC;rw[Ziq λw hw=>h w (Was _ hw)];split
  ·rfl
  ·have:x≠n:=by rintro rfl;exact h v Wa4
   simp[this]
theorem Zji {kindOf:Str->Option NameKind}{x:Str}{v:Value}:∀{P:List Str}{vs:List Value}{i:Nat}{m:Str->Option Value},P.Nodup->P[i]?=some x->vs[i]?=some v->kindOf x=some .local →
  bindL kindOf (P.zip vs) m x=some v
 |[],_,_,_,_,h,_,_=>by simp at h
 |_::_,[],_,_,_,_,h,_=>by simp at h
 |p::P,w::vs,0,m,nd,h1,h2,hk=>by
  simp at h1 h2;subst h1;subst h2;show bindL kindOf ((p,w)::P.zip vs) m p=_;unfold bindL;rw[Ziz λv hv=>(Wbr.mp nd).1 (List.of_mem_zip hv).1,if_pos hk];simp
 |p::P,w::vs,i+1,m,nd,h1,h2,hk=>by
  show bindL kindOf ((p,w)::P.zip vs) m x=_;unfold bindL;exact Zji (i:=i) (Wbr.mp nd).2 (by simpa using h1) (by simpa using h2) hk
theorem Zja {kindOf:Str->Option NameKind}{x:Str}{v:Value}:∀{P:List Str}{vs:List Value}{i:Nat}{m:Str->Option Value},P.Nodup->P[i]?=some x->vs[i]?=some v->kindOf x≠some .local →
  bindC kindOf (P.zip vs) m x=some v
 |[],_,_,_,_,h,_,_=>by simp at h
 |_::_,[],_,_,_,_,h,_=>by simp at h
 |p::P,w::vs,0,m,nd,h1,h2,hk=>by
  simp at h1 h2;subst h1;subst h2;show bindC kindOf ((p,w)::P.zip vs) m p=_;unfold bindC;rw[Ziq λv hv=>(Wbr.mp nd).1 (List.of_mem_zip hv).1,if_neg hk];simp
 |p::P,w::vs,i+1,m,nd,h1,h2,hk=>by
  show bindC kindOf ((p,w)::P.zip vs) m x=_;unfold bindC;exact Zja (i:=i) (Wbr.mp nd).2 (by simpa using h1) (by simpa using h2) hk
def start (N:List Str) (vs:List V):St:=vs.map some++Wag (N.length-vs.length) none
def cxOf (CX:CXT) (P:Program) (w:World) (K:W.Frag) (mg:Str->Option Value) (base:Heap) (N:List Str) (qual:Str) (scope:Scope) (f:Addr) (cd:Value) (A:Around) (outer:List Env) (s:Shared) (H:Hp) (E:XK):Cx where
 prog:=P
 w:=w
 K:=K
 mg:=mg
 base:=base
 A:=A.deeper (envOfC qual scope s.heap.objs.size f cd)
 N:=N
 s₀:=s
 H₀:=H
 env:=envOfC qual scope s.heap.objs.size f cd
 outer:=outer
 stack:=envOfC qual scope s.heap.objs.size f cd::outer
 ex:=[]
 calm:=true
 fn:=λ_=>true
 pn:=[]
 xe:=λe s'=>wpAny (model P w) (A.deeper (envOfC qual scope s.heap.objs.size f cd)) (leaving (envOfC qual scope s.heap.objs.size f cd) e) (λ_ s''=>CX outer H s E e s'') (λe' s''=>CX outer H s E e' s'') s'
theorem Zli {sc:Scope}{n:Nat}{x:Str}(h:sc.names.lookup x=some .cell):∃c,(cellsFrom n sc.names []).lookup x=some c:=by
 have q:=PySem.W.cellsFrom_some sc.names n [] (.inl h);exact Option.isSome_iff_exists.mp q
theorem Zpq {CX:CXT}{P:Program}{w:World}{K:W.Frag}{mg:Str->Option Value}{base:Heap}{N ps:List Str}{qual:Str}{scope:Scope}{f:Addr}{cd:Value}{A:Around}{outer:List Env}{s s1:Shared}{H:Hp}{E:XK}{us:List Value}{vs:List V}
  (S:FnScope N ps scope) (hd:A.handled=none) (e0:Env0 P w K mg base A outer s H) (hl:vs.length=ps.length) (r:Vals vs us)
  (x:InCallC s s.heap.objs.size (bindL (envOfC qual scope s.heap.objs.size f cd).kindOf (ps.zip us) λ_=>none) (cellsFrom (s.heap.objs.size+1) scope.names []) (bindC (envOfC qual scope s.heap.objs.size f cd).kindOf (ps.zip us) λ_=>none) s1) :
  Inv (cxOf CX P w K mg base N qual scope f cd A outer s H E) [] (start N vs) H s1:=by
 have hpl:ps.length<=N.length:=by have:=congrArg Wba S.pre;rw[Wa2]at this;omega
 obtain⟨h1,tk,rfl,hk⟩:=x.done;have noA:∀b:Addr,b ∉ (cxOf CX P w K mg base N qual scope f cd A outer s H E).ex:=λb z=>absurd (show b∈([]:List Addr) from z) (by simp);refine⟨⟨e0.mod,S.kind,rfl,rfl,Wah _,λy z c h1 h2=>?_,λy hy=>?_,λy c _ h=>?_,λ_=>hd,Around.frames_deeper e0.frames,.inr ⟨rfl,rfl⟩,λb z=>absurd z (noA b),e0.bs,e0.bsz,λb _ _=>noA b,λb z=>absurd z (noA b),e0.funs,e0.frf⟩,
  rfl,e0.bare,Un.kept hk,⟨_,x.toInCall.ns,λi y v h1 h2 h3=>?_⟩,λy c h=>⟨_,x.cell y c h⟩,e0.hok.fresh (Wah _),λy c h=>?_,λp hp=>absurd (show p∈([]:List (Addr × Obj)) from hp) (by simp),e0.hok.kept hk,?_⟩
 ·exact name_of_addr x.apart (PySem.mem_of_lookup h1) (PySem.mem_of_lookup h2)
 ·have hy:scope.names.lookup y=some .cell\/scope.names.lookup y=some .free:=hy
  rcases hy with hy|hy
  ·exact Zli hy
  ·exact absurd rfl (S.nofree _ (PySem.mem_of_lookup hy))
 ·exact Wcd (x.above y c (PySem.mem_of_lookup h))
 ·have hi:i<vs.length:=by
   unfold start at h2;by_cases hi:i<vs.length
   ·exact hi
   ·rw[Wa0 (by simpa using hi)]at h2
    rw[Wcb]at h2;split at h2 <;> cases h2
  have ha:vs[i]?=some v:=by
   unfold start at h2;rw[Wa8 (by simpa using hi),Wad]at h2;cases e:vs[i]? with
   |none=>rw[e]at h2;cases h2
   |some a=>rw[e]at h2;cases h2;rfl
  obtain⟨u,hu,rv⟩:=r.get ha;have hp:ps[i]?=some y:=by
   rw[<- S.pre,Wdz (by omega)];exact h1
  have ndP:ps.Nodup:=by rw[<- S.pre];exact S.nd.sublist (List.take_sublist _ _)
  refine⟨u,rv,?_⟩;rcases S.par y (Wat hp) with k|k
  ·exact .inl ⟨k,Zji ndP hp hu k⟩
  ·obtain⟨c,e⟩:=Zli (n:=s.heap.objs.size+1) k
   refine .inr ⟨.inl k,c,e,?_⟩;have q:=x.cell y c e;rw[Zja ndP hp hu (by show scope.names.lookup y≠_;rw[k];decide)]at q;exact q
 ·exact e0.hok.fresh (Wcd (x.above y c (PySem.mem_of_lookup h)))
 ·unfold start
  show _=N.length;rw[Waq,Wab,Waz];omega
theorem Zxn {CX:CXT}{P:Program}{w:World}{K:W.Frag}{mg:Str->Option Value}{base:Heap}{k:Nat}{f:Addr}{name qual:Str}{params:Arguments}{body:List Stmt}{scope:Scope}{dV kV doc pm cdv ct oc:Value}{an od:Option Addr}
  {osl:Array (Option Value)}{N ps:List Str}{sp:Sp}(lk:K.lookup f=some ⟨oc,od,.func (W.fnOf name qual params body scope dV kV doc pm an cdv ct),osl⟩) (hcd:W.codeIn K cdv qual=true) (S:FnScope N ps scope)
  (len:∀vs H Q E,sp vs H Q E->vs.length=ps.length)
  (hbody:∀(A:Around) (outer:List Env) (s:Shared) (H:Hp) (vs:List V) (Q:VK) (E:XK),Room k (A.deeper (envOfC qual scope s.heap.objs.size f cdv))->sp vs H Q E →
   ∃t,PSs (cxOf CX P w K mg base N qual scope f cdv A outer s H E) body t/\t { nx:=λ_ H'=>Q .non H',rt:=Q } (start N vs) H) :
  FnOk P w K mg base CX (k+1) f (W.fnOf name qual params body scope dV kV doc pm an cdv ct) ps sp:=by
 refine⟨len,λA outer s H args us vs Q E hr e0 hb r hsp=>?_⟩;have hl:=len _ _ _ _ hsp;have KX:K.In s.heap:=e0.mod.kin.keeps λb o e=>(e0.bs b o e).1;have lim:s.heap.NoLimit:=e0.mod.nolimit.keeps λb o e=>(e0.bs b o e).1;have hkind:∀y∈ps.zip us,scope.names.lookup y.1=some .local\/(scope.names.lookup y.1=some .cell/\((cellsFrom (s.heap.objs.size+1) scope.names []).lookup y.1).isSome=true):=λ⟨n,v⟩ hy=>by
  rcases S.par n (List.of_mem_zip hy).1 with q|q
  ·exact .inl q
  ·exact .inr ⟨q,PySem.W.cellsFrom_some _ _ _ (.inl q)⟩
 refine codeAny_call_function hr.depth (KX _ _ lk) rfl S.co S.gen rfl (PySem.W.codeRec_of KX hcd) (hb _ _ _ _ ?_);refine wpAny_newFunctionEnv_cells S.kind hkind λenv he s1 x=>?_;subst he;refine⟨lim.keeps x.toInCall.keep,codeAny_func ?_⟩;obtain⟨t,ht,hq⟩:=hbody A outer s H vs Q E (hr.deeper _) hsp;have I:Inv (cxOf CX P w K mg base N qual scope f cdv A outer s H E) [] (start N vs) H s1:=Zpq S hr.hd e0 hl r x;refine wpAny_mono (ht [] s1 (start N vs) H _ I hq) (λfl s' hs=>?_) λe s' hs=>hs;have fin:∀{σ':St}{H':Hp}{v:V}{u:Value},Inv (cxOf CX P w K mg base N qual scope f cdv A outer s H E) [] σ' H' s' -> RelV v u->Q v H' -> CE outer P w H s Q u s':=
  λ{σ' H' v u} J rv q=>⟨v,H',J.os,J.bare,J.base,J.hok,rv,q⟩
 cases fl with
 |ret u=>
  obtain⟨v,σ',H',J,rv,q⟩:=hs;exact fin J rv q
 |next=>
  obtain⟨σ',H',J,q⟩:=hs;exact fin (v:=V.non) (u:=Value.none) J rfl q
 |brk=>
  obtain⟨_,_,_,q⟩:=hs;exact False.elim q
 |cont=>
  obtain⟨_,_,_,q⟩:=hs;exact False.elim q
end L2
namespace L2
open PySem PySem.Spec PyProof.Rows
section
variable {X:Cx}{x:Str}{p pos:Pos}{e:Expr}{es:List Expr}{t:TA}{id T:String}{r:List V->Hp->VK->Prop}
def tCB (r:List V->Hp->VK->Prop) (t:TA):TE:=λσ H Q=>t σ H λvs H1=>r vs H1 Q
theorem Zai (hc:CallR X (.builtin id) r) (hg:Gl X x) (hm:X.mg x=none) (hv:bootBuiltins x=some (.builtin id)) (ha:PA X (e::es) t) (hn:x ≠ "__name__":=by decide) (hdb:(x == ("__debug__":Str))=false:=by decide)
  (he:starEach (e::es) X.env=(false,eval e X.env)::starEach es X.env:=by rfl) (hpl:(backTo pos (starEach es X.env)).any (·.1)=false:=by rfl):PE X (.Call (.Name x p) (e::es) [] pos) (tCB r t):=by
 intro pins s σ H Q I h;refine wpAny_Call_Name_kw (Zd7 I hg hm hv ?_ hn hdb);exact PyProof.Rows.callWith_builtin1 (thn (ha pos pins s σ H _ I h) λus s1 ⟨vs,H1,I1,r1,q1⟩=>hc pins s1 σ H1 vs us Q I1 r1 q1) he hpl
theorem Zbr (hc:CallR X (.type T) r) (hg:Gl X x) (hm:X.mg x=none) (hv:bootBuiltins x=some (.type T)) (ha:PA X (e::es) t) (hn:x ≠ "__name__":=by decide) (hdb:(x == ("__debug__":Str))=false:=by decide)
  (he:starEach (e::es) X.env=(false,eval e X.env)::starEach es X.env:=by rfl) (hpl:(backTo pos (starEach es X.env)).any (·.1)=false:=by rfl):PE X (.Call (.Name x p) (e::es) [] pos) (tCB r t):=by
 intro pins s σ H Q I h;refine wpAny_Call_Name_kw (Zd7 I hg hm hv ?_ hn hdb);exact PyProof.Rows.callWith_type1 (thn (ha pos pins s σ H _ I h) λus s1 ⟨vs,H1,I1,r1,q1⟩=>hc pins s1 σ H1 vs us Q I1 r1 q1) he hpl
theorem Zg9 (hc:CallR X (.type T) r) (hg:Gl X x) (hm:X.mg x=none) (hv:bootBuiltins x=some (.type T)) (hn:x ≠ "__name__":=by decide) (hdb:(x == ("__debug__":Str))=false:=by decide) :
  PE X (.Call (.Name x p) [] [] pos) (tCB r tNil):=by
 intro pins s σ H Q I h;refine wpAny_Call_Name_kw (Zd7 I hg hm hv ?_ hn hdb);exact PyProof.Rows.callWith_type0 (hc pins s σ H [] [] Q I .nil h)
end
end L2
namespace HT
open PySem PyProof.Rows
def lexLt:List Int->List Int->Bool
 |[],[]=>false
 |[],_::_=>true
 |_::_,[]=>false
 |x::xs,y::ys=>if x=y then lexLt xs ys else decide (x<y)
theorem Zl7 (x y:Int) (xs ys:List Int):lexLt (x::xs) (y::ys)=if x=y then lexLt xs ys else decide (x<y):=rfl
theorem Zhq:lexLt [] []=false:=rfl
theorem Zgs (y:Int) (ys:List Int):lexLt [] (y::ys)=true:=rfl
theorem Zgt (x:Int) (xs:List Int):lexLt (x::xs) []=false:=rfl
theorem Zrt (A:Around) (s:Shared) (a:Int) (t:Tok) (c:Int) (u:Tok):∃e,SeqAt.EqAt A s (.int a t) (.int c u) e/\(e=true↔a=c):=
 ⟨(a == c),SeqAt.EqAt.int_int a t c u,by simp⟩
theorem Zqj (A:Around) (s:Shared) (a:Int) (t:Tok) (c:Int) (u:Tok) (prog:Program) (w:World) (E:Value->Shared->Prop) (Q:Value->Shared->Prop) (h:Q (.bool (decide (a<c))) s) :
  wpAny (model prog w) A (richCompare .Lt (.int a t) (.int c u)) Q E s:=
 (PyProof.Rows.lt_int h:wpAny (model prog w) A (compareOp .Lt (.int a t) (.int c u)) Q E s)
section
open PySem.SeqAt
open PySem.AutoSeq1 (wpAny_loadPart')
open PySem.MeetsSeq PySem.MeetsSeq2 PySem.MeetsSeq3
theorem tuple_lt_ints (l b:Addr) (items items2:Array Value) (n n2:Nat) (dd dd2:Option Addr) (sl sl2:Array (Option Value)) (ns ms:List Int) (hi:IntsAre items.toList ns) (hj:IntsAre items2.toList ms) :
  Meets (Builtin.«tuple.__lt__» ⟨[.ref l,.ref b],[]⟩)
   (λ_ R s=>s.heap.get? l=some { cls:=.type "tuple",dict:=dd,data:=.seq items n,slots:=sl } /\ s.heap.get? b=some { cls:=.type "tuple",dict:=dd2,data:=.seq items2 n2,slots:=sl2 } ∧
    R (.ok (.ret (.bool (lexLt ns ms)))) s):=
 .of_wp λprog w A R s h=>by
  obtain⟨hp,g,d,tk,os⟩:=s;obtain⟨hl,hb,h⟩:=h;have f2:=AutoSeq1.sub_tuple_tuple;have z1:items.size=ns.length:=by rw[<- hi.length];simp
  have z2:items2.size=ms.length:=by rw[<- hj.length];simp
  wp_walk using wpAny_loadPart' hl,wpAny_loadPart' hb,wpAny_forIn_list _ (λrest b s'=>b.1=none/\s'=⟨hp,g,d,tk,os⟩ /\ ∃(vs ws:List Value) (ns' ms':List Int),rest=vs.zip ws ∧
   IntsAre vs ns' /\ IntsAre ws ms' /\ ns'.length+items2.size=ms'.length+items.size/\R (.ok (.ret (.bool (lexLt ns' ms')))) ⟨hp,g,d,tk,os⟩) _
  case turn=>
   rintro⟨y,x⟩ rest b s' ⟨hb',rfl,vs,ws,ns',ms',hz,hvi,hwi,hlen,hR⟩;cases hvi with
   |nil=>rw[Wem]at hz;cases hz
   |cons a t hvi'=>
    cases hwi with
    |nil=>rw[Wed]at hz;cases hz
    |cons c u hwi'=>
     rw[Wcj]at hz;injection hz with hyx hrest
     injection hyx with hy hx
     subst hy hx;rw[Zl7]at hR;simp only[Waj]at hlen;obtain⟨e,he,hiff⟩:=Zrt A.in1 ⟨hp,g,d,tk,os⟩ a t c u;refine wpAny_bind (he prog w _ _ ?_);cases e with
     |true=>
      rw[if_pos (hiff.mp rfl)]at hR
      wp_walk
      exact⟨rfl,rfl,_,_,_,_,hrest,hvi',hwi',by omega,hR⟩
     |false=>
      rw[if_neg (λq=>absurd (hiff.mpr q) Wan)]at hR;have hri:=Zqj A.in1 ⟨hp,g,d,tk,os⟩ a t c u prog w
      wp_walk using hri
      exact⟨_,rfl,by simpa using hR⟩
  case fin=>
   rintro⟨b1,b2⟩ s' ⟨hb',rfl,vs,ws,ns',ms',hz,hvi,hwi,hlen,hR⟩;simp only at hb';subst hb';have hv:lexLt ns' ms'=decide (items.size<items2.size):=by
    cases hvi with
    |nil=>
     cases hwi with
     |nil=>
      simp only[Wb3]at hlen;rw[Zhq];exact(decide_eq_false (by omega)).symm
     |cons c u hw=>
      simp only[Wb3,Waj]at hlen;rw[Zgs];exact(decide_eq_true (by omega)).symm
    |cons a t hv=>
     cases hwi with
     |nil=>
      simp only[Wb3,Waj]at hlen;rw[Zgt];exact(decide_eq_false (by omega)).symm
     |cons c u hw=>
      rw[Wcj]at hz;cases hz
   rw[hv]at hR
   wp_walk
   exact⟨_,rfl,by simpa [Builtin.Tuple.tupleCompareSizes] using hR⟩
  case h=>
   exact⟨rfl,rfl,items.toList,items2.toList,ns,ms,rfl,hi,hj,by omega,h⟩
end
section
variable {prog:Program}{w:World}{A:Around}{E:Value->Shared->Prop}{s:Shared}
theorem cat_tup {t b:Addr}{vs ws:List Value}{Q:Value->Shared->Prop}(ht:IsTup s.heap t vs.toArray) (hb:IsTup s.heap b ws.toArray) (hv:vs≠[])
  (h1:ws=[]->Q (.ref t) s) (h2:ws≠[]->Q (.ref s.heap.objs.size) { s with heap:=s.heap.push { cls:=.type "tuple",data:=.seq (vs++ws).toArray } })
  (hsz:vs.length+ws.length<=sizeLine):wpAny (model prog w) A (binaryOp .Add (.ref t) (.ref b)) Q E s:=by
 obtain⟨⟨cls,dd,data,sl⟩,ho,hc,n,hd⟩:=id ht;obtain⟨⟨cls2,dd2,data2,sl2⟩,ho2,hc2,n2,hd2⟩:=id hb;simp only at hc hd hc2 hd2;subst hc hd hc2 hd2;have e:vs.toArray++ws.toArray=(vs++ws).toArray:=by simp
 by_cases hw:ws=[]
 ·exact concat_meets ⟨_,ho,rfl⟩ ⟨_,ho2,rfl⟩ noFill_tuple_add seq_tuple_add PySem.F.slot_tuple_add PySem.F.entry_tuple_add (PySem.F.args_tuple_add_2 _ _)
   (tuple_addW1 t b vs.toArray ws.toArray n n2 dd dd2 sl sl2 (by simpa using hv) (by simp[hw])) ⟨ho,ho2,h1 hw⟩
 ·refine concat_meets ⟨_,ho,rfl⟩ ⟨_,ho2,rfl⟩ noFill_tuple_add seq_tuple_add PySem.F.slot_tuple_add PySem.F.entry_tuple_add (PySem.F.args_tuple_add_2 _ _)
   (tuple_addW2 t b vs.toArray ws.toArray n n2 dd dd2 sl sl2 (by simpa using hv) (by simpa using hw) (by rw[Wak,Wak];exact hsz)) ⟨ho,ho2,?_⟩
  rw[e];exact h2 hw
def sIx (n d:Nat):Option Int->Nat
 |none=>d
 |some v=>if v<0 then (v+(n:Int)).toNat else min v.toNat n
theorem sIx_none (n d:Nat):sIx n d none=d:=rfl
theorem sIx_nat (n d k:Nat):sIx n d (some (k:Int))=min k n:=by
 show (if (k:Int)<0 then ((k:Int)+(n:Int)).toNat else min (k:Int).toNat n)=min k n;rw[if_neg (by omega),Wap]
theorem Zwr (n d:Nat) (hd:d<=n) (o:Option Int):sIx n d o<=n:=by
 cases o with
 |none=>exact hd
 |some v=>
  show (if v<0 then (v+(n:Int)).toNat else min v.toNat n)<=n;by_cases hv:v<0
  ·rw[if_pos hv];omega
  ·rw[if_neg hv];exact Nat.min_le_right _ _
theorem Zn6 (v:Int) (n d:Nat):(if v<0 then max (v+(n:Int)) 0 else min v (n:Int))=((sIx n d (some v):Nat):Int):=by
 show (if v<0 then max (v+(n:Int)) 0 else min v (n:Int))=(((if v<0 then (v+(n:Int)).toNat else min v.toNat n):Nat):Int);by_cases hv:v<0
 ·simp only[if_pos hv];omega
 ·simp only[if_neg hv];omega
theorem Zmu (lo hi:Option Int) (n:Nat):Builtin.Slice.sliceAdjust lo hi 1 (n:Int)=(((sIx n 0 lo:Nat):Int),((sIx n n hi:Nat):Int)):=by
 have h1:¬ ((1:Int)<0):=by omega
 unfold Builtin.Slice.sliceAdjust;simp only[h1,if_false];refine Prod.ext ?_ ?_
 ·cases lo with
  |none=>rfl
  |some v=>exact Zn6 v n 0
 ·cases hi with
  |none=>rfl
  |some v=>exact Zn6 v n n
theorem Zlz (i j:Nat):Builtin.Slice.slicePlaces (i:Int) (j:Int) 1=j-i:=by
 unfold Builtin.Slice.slicePlaces;have h1:(1:Int) > 0:=by omega
 simp only[h1,if_true,Int.ediv_one];split <;> omega
theorem Zhc {v:Value}{o:Option Int}{Q:Option Int->Shared->Prop}(p:IsPart v o) (h:Q o s):wpAny (model prog w) A (Builtin.Slice.slicePartIndex v) Q E s:=by
 cases p with
 |none=>exact slicePart_none h
 |int i t=>exact slicePart_int h
theorem Zdj {sl:Addr}{vl vu:Value}{lo hi:Option Int}{n:Nat}{Q:Int × Int × Nat->Shared->Prop}(hs:s.heap.IsSliceOf sl vl vu .none) (pl:IsPart vl lo) (pu:IsPart vu hi)
  (h:Q (((sIx n 0 lo:Nat):Int),1,sIx n n hi-sIx n 0 lo) s):wpAny (model prog w) A (Builtin.Slice.sliceApplied (.ref sl) (pure (n:Int))) Q E s:=by
 obtain⟨os,hos,hcs,hds⟩:=id hs;unfold Builtin.Slice.sliceApplied Builtin.Slice.sliceFields;refine wpAny_bind (wpAny_bind (wpAny_field hos hds (x:=vl) rfl (wpAny_bind (wpAny_field hos hds (x:=vu) rfl (wpAny_bind (wpAny_field hos hds (x:=.none) rfl (wpAny_pure ?_)))))));refine wpAny_bind (slicePart_none ?_);show wpAny _ _ (if ((1:Int) == 0)=true then _ else _) _ _ s;rw[if_neg (by decide)];refine wpAny_bind (Zhc pl (wpAny_bind (Zhc pu (wpAny_bind (wpAny_pure ?_)))));show wpAny _ _ (match Builtin.Slice.sliceAdjust lo hi 1 (n:Int) with|(lo,hi)=>pure (lo,(1:Int),Builtin.Slice.slicePlaces lo hi 1)) _ _ s;rw[Zmu lo hi n];show wpAny _ _ (pure (((sIx n 0 lo:Nat):Int),(1:Int),Builtin.Slice.slicePlaces ((sIx n 0 lo:Nat):Int) ((sIx n n hi:Nat):Int) 1)) _ _ s;rw[Zlz];exact wpAny_pure h
theorem Zrk (xs:Array Value) (i k:Nat):((Wai k).filterMap λ(m:Nat)=>xs[((i:Int)+(m:Int)*1).toNat]?).toArray=((xs.toList.drop i).take k).toArray:=by
 have e:(λ(m:Nat)=>xs[((i:Int)+(m:Int)*1).toNat]?)=λm=>xs[i+m]?:=by
  funext m
  have:((i:Int)+(m:Int)*1).toNat=i+m:=by omega
  rw[this]
 rw[e];have:=pick_run xs i k;rw[List.filterMap_map]at this;have e2:((λx=>xs[x]?)∘λx=>i+x)=λm=>xs[i+m]?:=rfl;rw[e2]at this;rw[this]
theorem getItem_tuple_cut {t sl:Addr}{items:Array Value}{vl vu:Value}{lo hi:Option Int}{Q:Value->Shared->Prop}(ht:IsTup s.heap t items) (hs:s.heap.IsSliceOf sl vl vu .none) (pl:IsPart vl lo) (pu:IsPart vu hi)
  (hw:¬ (sIx items.size 0 lo=0/\sIx items.size items.size hi=items.size))
  (h:Q (.ref s.heap.objs.size) { s with heap:=s.heap.push { cls:=.type "tuple",data:=.seq ((items.toList.drop (sIx items.size 0 lo)).take (sIx items.size items.size hi-sIx items.size 0 lo)).toArray } })
  (hsz:items.size<=sizeLine):wpAny (model prog w) A (getItem (.ref t) (.ref sl)) Q E s:=by
 have htake:sizeOk (.seq ((items.toList.drop (sIx items.size 0 lo)).take (sIx items.size items.size hi-sIx items.size 0 lo)).toArray):=by
  show ((items.toList.drop (sIx items.size 0 lo)).take (sIx items.size items.size hi-sIx items.size 0 lo)).toArray.size<=sizeLine;rw[Wak,Wa2,Wbz,Array.length_toList];omega
 have hj:sIx items.size items.size hi<=items.size:=Zwr _ _ (Wah _) hi;obtain⟨os,hos,hcs,hds⟩:=id hs;have hTs:s.TypeIs (.ref sl) "slice":=⟨os,hos,hcs⟩;unfold getItem
 try with_reducible refine wpAny_holding ?_
 first|refine wpAny_bind (wpAny_pure ?_)|skip
 refine wpAny_bind (wpAny_sequenceKey ht.typeIs (by decide) ?_);refine wpAny_bind (wpAny_callSpecial?_slot (name:=Str.ofString "__getitem__") ht.typeIs PyProof.Rows.slot_tuple_getitem
  (wpAny_call_entry PyProof.Rows.slot_tuple_getitem ht.typeIs entry_tuple_getitem ?_ (args_tuple_getitem _ _)))
 show wpAny _ _ (Builtin.Tuple.tupleItemsOf (.ref t) >>= _) _ _ s;refine wpAny_bind (tupleItemsOf_ ht ?_);refine wpAny_bind (wpAny_typeOf hTs ?_);rw[if_pos (by decide)];refine wpAny_bind (Zdj hs pl pu ?_);have hno:¬ ((((sIx items.size 0 lo:Nat):Int) == 0 && (1:Int) == 1 && (sIx items.size items.size hi-sIx items.size 0 lo) == items.size)=true):=by
  intro q;rw[Wbg,Wbg]at q;have q1:((sIx items.size 0 lo:Nat):Int)=0:=eq_of_beq q.1.1;have q2:sIx items.size items.size hi-sIx items.size 0 lo=items.size:=eq_of_beq q.2;exact hw ⟨by omega,by omega⟩
 show wpAny _ _ (if (((sIx items.size 0 lo:Nat):Int) == 0 && (1:Int) == 1 && (sIx items.size items.size hi-sIx items.size 0 lo) == items.size)=true then _ else _) _ _ s;rw[if_neg hno,Zrk]
 first
  |exact wpAny_bind (m:=Builtin.Tuple.tupleExact _) (wpAny_newObj_type (wpAny_pure ⟨_,rfl,wpAny_pure h⟩) htake)
  |exact wpAny_bind (m:=Builtin.Tuple.tupleExact _) (wpAny_newObj_type (wpAny_bind (wpAny_pure (wpAny_pure ⟨_,rfl,wpAny_pure h⟩))) htake)
  |exact wpAny_bind (wpAny_bind (m:=Builtin.Tuple.tupleExact _) (wpAny_newObj_type (wpAny_pure (wpAny_pure ⟨_,rfl,wpAny_pure h⟩)) htake))
  |exact wpAny_bind (wpAny_bind (m:=Builtin.Tuple.tupleExact _) (wpAny_newObj_type (wpAny_pure ⟨_,rfl,wpAny_pure h⟩) htake))
end
end HT
namespace L2
open PySem PySem.Spec PyProof.Rows
abbrev TO:=St->Hp->(Option Int->Hp->Prop)->Prop
def PO (X:Cx) (e:Option Expr) (t:TO):Prop:=
 ∀(pins:List (Addr × Obj)) (s:Shared) (σ:St) (H:Hp) (Q:Option Int->Hp->Prop),Inv X pins σ H s->t σ H Q →
  wpAny (model X.prog X.w) X.A (evalPart e X.env) (λu s'=>∃o H',Inv X pins σ H' s' /\ IsPart u o/\Q o H') X.xe s
def tNoPart:TO:=λ_ H Q=>Q none H
def tPart (t:TE):TO:=λσ H Q=>t σ H λx H1=>∃i,x=.int i/\Q (some i) H1
theorem Zdu {ns:List Int}:∀{us:List Value},Vals (ns.map V.int) us->IntsAre us ns:=by
 induction ns with
 |nil=>intro us r;rw[List.map_nil]at r;cases r;exact .nil
 |cons n ns ih=>
  intro us r;rw[Wbe]at r;cases r with
  |cons r1 r2=>
   obtain⟨t,e⟩:=r1;subst e;exact .cons n t (ih r2)
section
variable {X:Cx}{e:Expr}{te:TE}{lo hi:Option Expr}{tl th:TO}{pos p2:Pos}
theorem Zjy:PO X none tNoPart:=by
 intro pins s σ H Q I h;rw[evalPart_none];exact wpAny_pure ⟨none,H,I,.none,h⟩
theorem Zjs (h:PE X e te):PO X (some e) (tPart te):=by
 intro pins s σ H Q I hw;rw[evalPart_some];refine thn (h pins s σ H _ I hw) λu s1 ⟨x,H1,I1,r1,q1⟩=>?_;obtain⟨i,rfl,q⟩:=q1;obtain⟨t,rfl⟩:=r1;exact⟨some i,H1,I1,.int i t,q⟩
def SlR (X:Cx) (r:V->Option Int->Option Int->Hp->VK->Prop):Prop:=
 ∀(pins:List (Addr × Obj)) (s:Shared) (σ:St) (H:Hp) (x:V) (v vl vu:Value) (lo hi:Option Int) (sl:Addr) (Q:VK),Inv X pins σ H s->RelV x v->s.heap.IsSliceOf sl vl vu .none->IsPart vl lo->IsPart vu hi->r x lo hi H Q →
  ∃T id,typeLookup (.type T) "__getitem__" = pure (some (.builtin id))/\s.TypeIs v T/\wpAny (model X.prog X.w) X.A (getItem v (.ref sl)) (EP X pins σ Q) X.xe s
theorem SlR.or {r r':V->Option Int->Option Int->Hp->VK->Prop}(h:SlR X r) (h':SlR X r'):SlR X (λx lo hi H Q=>r x lo hi H Q\/r' x lo hi H Q):=by
 intro pins s σ H x v vl vu lo hi sl Q I rx hs pl pu q;rcases q with q|q
 ·exact h pins s σ H x v vl vu lo hi sl Q I rx hs pl pu q
 ·exact h' pins s σ H x v vl vu lo hi sl Q I rx hs pl pu q
def tSl (r:V->Option Int->Option Int->Hp->VK->Prop) (te:TE) (tl th:TO):TE:=λσ H Q=>te σ H λx H1=>tl σ H1 λl H2=>th σ H2 λu H3=>r x l u H3 Q
theorem Zid {r:V->Option Int->Option Int->Hp->VK->Prop}(hr:SlR X r) (he:PE X e te) (hl:PO X lo tl) (hu:PO X hi th):PE X (.Subscript e (.Slice lo hi none p2) pos) (tSl r te tl th):=by
 intro pins s σ H Q I h;refine Subscript_ (thn (he pins s σ H _ I h) λv s1 ⟨x,H1,I1,r1,q1⟩=>?_);refine wpAny_Slice (thn (hl pins s1 σ H1 _ I1 q1) λvl s2 ⟨l,H2,I2,pl,q2⟩=>thn (hu pins s2 σ H2 _ I2 q2) λvu s3 ⟨u,H3,I3,pu,q3⟩=>?_);rw[evalPart_none];refine wpAny_pure ?_;have I4:Inv X pins σ H3 { s3 with heap:=s3.heap.push { cls:=.type "slice",data:=.fields #[vl,vu,.none] } }:=I3.kept (t':=s3.toks) λb ob q=>Wac _ q;obtain⟨T,id,hT,ht,hg⟩:=hr pins { s3 with heap:=s3.heap.push { cls:=.type "slice",data:=.fields #[vl,vu,.none] } } σ H3 x v vl vu l u s3.heap.objs.size Q I4 r1 (Heap.IsSliceOf.new ..) pl pu q3;show wpAny (model X.prog X.w) X.A (subscriptTail e (.Slice lo hi none p2) v (.ref s3.heap.objs.size)) (EP X pins σ Q) X.xe { s3 with heap:=s3.heap.push { cls:=.type "slice",data:=.fields #[vl,vu,.none] } };exact tail_any (ops:=[.ref s3.heap.objs.size,v]) ht hT hg (by with_unfolding_all rfl)
def cutV (xs:List V) (lo hi:Option Int):List V:=(xs.drop (HT.sIx xs.length 0 lo)).take (HT.sIx xs.length xs.length hi-HT.sIx xs.length 0 lo)
theorem Zf5 (xs:List V) (lo hi:Option Int):(cutV xs lo hi).length<=xs.length:=by
 unfold cutV;rw[Wa2,Wbz];omega
def rSlT (K:W.Frag):V->Option Int->Option Int->Hp->VK->Prop:=λx lo hi H Q=>∃a xs,x=.ref a/\SqT K H a xs ∧
 ¬ (HT.sIx xs.length 0 lo=0/\HT.sIx xs.length xs.length hi=xs.length)/\∀p,H p=none->Q (.ref p) (upd H p (.tup (cutV xs lo hi)))
theorem Zv7:SlR X (rSlT X.K):=by
 intro pins s σ H x v vl vu lo hi sl Q I rx hs pl pu h;obtain⟨a,xs,rfl,hx,hw,q⟩:=h;cases rx;obtain⟨its,r,ht,hz⟩:=I.tuple hx;have hlen:its.toArray.size=xs.length:=by rw[Wak];exact r.length.symm
 refine⟨"tuple",_,PyProof.Rows.slot_tuple_getitem.lookup,ht.typeIs,?_⟩;refine HT.getItem_tuple_cut ht hs pl pu (by rw[hlen];exact hw) ?_ (by rw[hlen];exact hz);rw[hlen];refine⟨.ref s.heap.objs.size,_,I.laid (t':=s.toks) (o:=.tup (cutV xs lo hi)) (λb ob q=>Wac _ q) (Wah _) ?_,rfl,q _ (I.hok.fresh (Wah _))⟩;exact⟨Wbx (Zf5 xs lo hi) hz,_,(r.drop (HT.sIx xs.length 0 lo)).take (HT.sIx xs.length xs.length hi-HT.sIx xs.length 0 lo),IsTupN.new _ _⟩
def rCatT (K:W.Frag):R2:=λx y H Q=>∃a b xs ys,x=.ref a/\y=.ref b/\SqT K H a xs/\SqT K H b ys/\xs≠[]/\xs.length+ys.length<=sizeLine ∧
 (ys=[]->Q (.ref a) H)/\(ys≠[]->∀p,H p=none->Q (.ref p) (upd H p (.tup (xs++ys))))
theorem Vals.nil_iff {xs:List V}{us:List Value}(r:Vals xs us):us=[]↔xs=[]:=by
 cases r with
 |nil=>simp
 |cons _ _=>simp
theorem Zsv:OpR X (binaryOp .Add) (rCatT X.K):=by
 intro pins s σ H x y v u Q I rx ry h;obtain⟨a,b,xs,ys,rfl,rfl,ha,hb,hx,hz,q1,q2⟩:=h;cases rx;cases ry;obtain⟨its,r1,p1,_⟩:=I.tuple ha;obtain⟨its2,r2,p2,_⟩:=I.tuple hb;refine HT.cat_tup p1 p2 (λz=>hx (r1.nil_iff.mp z)) (λz=>⟨.ref a,H,I,rfl,q1 (r2.nil_iff.mp z)⟩) (λz=>?_) (by rw[<- r1.length,<- r2.length];exact hz);refine⟨.ref s.heap.objs.size,_,I.laid (t':=s.toks) (o:=.tup (xs++ys)) (λb ob q=>Wac _ q) (Wah _) ?_,rfl,q2 (λw=>z (r2.nil_iff.mpr w)) _ (I.hok.fresh (Wah _))⟩;exact⟨by rw[Waq];exact hz,_,r1.append r2,IsTupN.new _ _⟩
end
end L2
namespace L2
open PySem PySem.Spec PyProof.Rows
def ixN (n:Nat) (i:Int):Option Nat:=if 0<=i then (if i<n then some i.toNat else none) else if -(n:Int)<=i then some (i+n).toNat else none
def atI {α:Type}(xs:List α) (i:Int):Option α:=(ixN xs.length i).bind λj=>xs[j]?
theorem Zpl {n:Nat}{i:Int}{j:Nat}(h:ixN n i=some j):seqIndex? i n=some j/\j<n /\ -(n:Int)<=i/\i<n:=by
 unfold ixN at h;by_cases h0:0<=i
 ·rw[if_pos h0]at h
  by_cases h1:i<n
  ·rw[if_pos h1]at h
   have e:i.toNat=j:=Wbh.inj h;exact⟨by rw[seqIndex_of h0 h1,e],by omega,by omega,h1⟩
  ·rw[if_neg h1]at h;cases h
 ·rw[if_neg h0]at h
  by_cases h1:-(n:Int)<=i
  ·rw[if_pos h1]at h
   have e:(i+n).toNat=j:=Wbh.inj h;exact⟨by rw[seqIndex_neg (by omega) h1,e],by omega,h1,by omega⟩
  ·rw[if_neg h1]at h;cases h
theorem Zj1 {α:Type}{xs:List α}{i:Int}{v:α}(h:atI xs i=some v):∃j,seqIndex? i xs.length=some j/\xs[j]?=some v/\j<xs.length /\ -(xs.length:Int)<=i/\i<xs.length:=by
 unfold atI at h;cases e:ixN xs.length i with
 |none=>rw[e]at h;cases h
 |some j=>
  rw[e]at h;obtain⟨h1,h2,h3,h4⟩:=Zpl e;exact⟨j,h1,h,h2,h3,h4⟩
theorem Zb0 {α:Type}{xs:List α}{j:Nat}{v:α}(h:xs[j]?=some v):atI xs (j:Int)=some v:=by
 have hj:j<xs.length:=(Waf.mp h).1;have e:ixN xs.length (j:Int)=some j:=by
  unfold ixN;rw[if_pos (by omega),if_pos (by omega)];simp
 unfold atI;rw[e];exact h
theorem Zq6 {α:Type}(xs:List α) (v:α):atI (xs++[v]) (-1)=some v:=by
 have hl:(xs++[v]).length=xs.length+1:=by simp
 have e:ixN (xs++[v]).length (-1)=some xs.length:=by
  unfold ixN;rw[hl,if_neg (by decide),if_pos (by omega)];congr 1;omega
 unfold atI;rw[e];show (xs++[v])[xs.length]?=some v;simp
def PlainIx (b:Expr):Prop:=∀o i,subscripted b false o i=operate [o,i] (getItem o i)
def IxR (X:Cx) (r:R2):Prop:=
 ∀(value slice:Expr) (pins:List (Addr × Obj)) (s:Shared) (σ:St) (H:Hp) (x y:V) (v u:Value) (Q:VK),Inv X pins σ H s->RelV x v->RelV y u->r x y H Q →
  subscripted slice false v u=operate [v,u] (getItem v u)->wpAny (model X.prog X.w) X.A (subscriptTail value slice v u) (EP X pins σ Q) X.xe s
def MtR (X:Cx) (id:String) (r:V->List V->Hp->VK->Prop):Prop:=
 ∀(pins:List (Addr × Obj)) (s:Shared) (σ:St) (H:Hp) (x:V) (xs:List V) (v:Value) (us:List Value) (Q:VK),Inv X pins σ H s->RelV x v->Vals xs us->r x xs H Q →
  wpAny (model X.prog X.w) X.A (call (.builtin id) (v::us)) (EP X pins σ Q) X.xe s
section
variable {X:Cx}{a b:Expr}{ta tb:TE}{pos:Pos}
theorem IxR.or {r r':R2}(h:IxR X r) (h':IxR X r'):IxR X (λx y H Q=>r x y H Q\/r' x y H Q):=by
 intro value slice pins s σ H x y v u Q I rx ry q hs;rcases q with q|q
 ·exact h value slice pins s σ H x y v u Q I rx ry q hs
 ·exact h' value slice pins s σ H x y v u Q I rx ry q hs
theorem Za1 {r:R2}(hr:IxR X r) (ha:PE X a ta) (hb:PE X b tb) (hs:PlainIx b):PE X (.Subscript a b pos) (tOp r ta tb):=by
 intro pins s σ H Q I h;exact Subscript_ (binT ha hb I h λv u s2 x y H2 I2 rx ry q=>hr a b pins s2 σ H2 x y v u Q I2 rx ry q (hs _ _))
def rIxL (K:W.Frag):R2:=λx y H Q=>∃p xs i v,x=.ref p/\y=.int i/\SqL K H p xs/\atI xs i=some v/\Q v H
def rIxT (K:W.Frag):R2:=λx y H Q=>∃p xs i v,x=.ref p/\y=.int i/\SqT K H p xs/\atI xs i=some v/\Q v H
def rIxS:R2:=λx y H Q=>∃z i c,x=.str z/\y=.int i/\z.length<=sizeLine/\atI z.cps.toList i=some c/\Q (.str ⟨#[c]⟩) H
theorem Ztj:IxR X (rIxL X.K):=by
 intro value slice pins s σ H x y v u Q I rx ry h hs;obtain⟨p,xs,i,z,rfl,rfl,hq,he,q⟩:=h;cases rx;obtain⟨t,rfl⟩:=ry;obtain⟨its,r,pl,hz⟩:=I.list hq;obtain⟨j,h1,h2,h3,h4,h5⟩:=Zj1 he;obtain⟨w,ew,rw'⟩:=r.get h2;have hl:=r.length;have hn:=line63;have fin:EP X pins σ Q w s:=⟨z,H,I,rw',q⟩;by_cases h0:0<=i
 ·have hj:i.toNat=j:=by
   rw[seqIndex_of h0 h5]at h1;exact Wbh.inj h1
  exact item_listR pl.isList h0 (by omega) (by rw[hj];simpa using ew) fin hs
 ·have hj:(i+(its.toArray.size:Int)).toNat=j:=by
   rw[seqIndex_neg (by omega) h4]at h1;rw[Wak,<- hl];exact Wbh.inj h1
  exact subscriptTail_builtinR (x:=w) pl.isList.typeIs slot_list_getitem.lookup
   (wpAny_getItem_list_neg (Q:=λr s'=>r=w/\EP X pins σ Q r s') pl.isList (by omega) (by rw[Wak] <;> omega) (by omega) (by rw[hj];simpa using ew) ⟨rfl,fin⟩) hs
theorem Zwh:IxR X (rIxT X.K):=by
 intro value slice pins s σ H x y v u Q I rx ry h hs;obtain⟨p,xs,i,z,rfl,rfl,hq,he,q⟩:=h;cases rx;obtain⟨t,rfl⟩:=ry;obtain⟨its,r,pl,hz⟩:=I.tuple hq;obtain⟨j,h1,h2,h3,h4,h5⟩:=Zj1 he;obtain⟨w,ew,rw'⟩:=r.get h2;have hl:=r.length;have hn:=line63;have fin:EP X pins σ Q w s:=⟨z,H,I,rw',q⟩;exact subscriptTail_builtinR (x:=w) pl.typeIs slot_tuple_getitem.lookup
  (getItem_tuple (j:=j) (Q:=λr s'=>r=w/\EP X pins σ Q r s') pl (by omega) (by omega) (by rw[Wak,<- hl];exact h1) (by simpa using ew) ⟨rfl,fin⟩) hs
theorem Zwx:IxR X rIxS:=by
 intro value slice pins s σ H x y v u Q I rx ry h hs;obtain⟨z,i,c,rfl,rfl,hz,he,q⟩:=h;obtain⟨t,rfl⟩:=rx;obtain⟨t',rfl⟩:=ry;obtain⟨j,h1,h2,h3,h4,h5⟩:=Zj1 he;have hl:z.cps.toList.length=z.length:=by simp[Str.length]
 rw[hl]at h1 h4 h5;have hn:=line63;exact tail_any (typeIs_str s z t) slot_str_getitem.lookup (getItem_str (c:=c) (by
  have e1:decide (i < -(2 ^ 63:Int))=false:=decide_eq_false (by omega);have e2:decide (i ≥ 2 ^ 63)=false:=decide_eq_false (by omega);rw[e1,e2,Bool.or_false]) (by rw[h1];simpa using h2) ⟨.str ⟨#[c]⟩,H,I.tok _,⟨_,rfl⟩,q⟩) hs
def rIx (K:W.Frag):R2:=λx y H Q=>rIxL K x y H Q\/rIxT K x y H Q\/rIxS x y H Q
theorem Zwb:IxR X (rIx X.K):=Ztj.or (Zwh.or Zwx)
theorem Zmc (its:List Value) (n j:Nat) (u:Value):Obj.mapSeq (·.setIfInBounds j u) { cls:=.type "list",data:=.seq its.toArray n } = { cls:=.type "list",data:=.seq (its.set j u).toArray n }:=by
 simp[Obj.mapSeq]
theorem Inv.lst {pins:List (Addr × Obj)}{σ:St}{H:Hp}{s:Shared}{p:Addr}{xs:List V}(I:Inv X pins σ H s) (h:H p=some (.lst xs)) :
  ∃(its:List Value) (n:Nat),Vals xs its/\s.heap.get? p=some { cls:=.type "list",data:=.seq its.toArray n } /\ xs.length<=sizeLine:=by
 obtain⟨z,its,n,r,e⟩:=I.hok p _ h;exact⟨its,n,r,e,z⟩
theorem Inv.lstUpd {pins:List (Addr × Obj)}{σ:St}{H:Hp}{s:Shared}{p:Addr}{xs ys:List V}{its its':List Value}{n n':Nat}{f:Obj->Obj}(I:Inv X pins σ H s) (h:H p=some (.lst xs))
  (ho:s.heap.get? p=some { cls:=.type "list",data:=.seq its.toArray n }) (hf:f { cls:=.type "list",data:=.seq its.toArray n } = { cls:=.type "list",data:=.seq its'.toArray n' }) (r:Vals ys its') (hz:ys.length<=sizeLine) (t:Nat) :
  Inv X pins σ (upd H p (.lst ys)) { s with heap:=s.heap.update p f,toks:=t }:=by
 have e:(s.heap.update p f).get? p=some { cls:=.type "list",data:=.seq its'.toArray n' }:=by
  rw[Wb9 f ho (by rw[hf] <;> rfl),hf]
 refine I.write (x:=p) (e:=p) (by rw[h];trivial) (.inl rfl) (λb u hb q=>(Wci _ _ (Ne.symm hb)).trans q) ⟨_,e⟩ ?_;exact⟨hz,its',n',r,e⟩
def rSetL:V->V->V->Hp->(Hp->Prop)->Prop:=λo i v H Q=>∃p xs k j,o=.ref p/\i=.int k/\H p=some (.lst xs)/\ixN xs.length k=some j/\Q (upd H p (.lst (xs.set j v)))
theorem Zrw:PSet X rSetL:=by
 intro pins s σ H o i v ov iv u Q I ro ri rv h;obtain⟨p,xs,k,j,rfl,rfl,hp,hj,q⟩:=h;cases ro;obtain⟨t,rfl⟩:=ri;obtain⟨its,n,r,ho,hz⟩:=I.lst hp;obtain⟨h1,h2,h3,h4⟩:=Zpl hj;have hl:=r.length;have hn:=line63;have I':Inv X pins σ (upd H p (.lst (xs.set j v))) { s with heap:=s.heap.update p (Obj.mapSeq (·.setIfInBounds j u)) }:=
  I.lstUpd hp ho (Zmc its n j u) (r.set rv j) (by rw[Wdc];exact hz) s.toks
 by_cases h0:0<=k
 ·have hk:k.toNat=j:=by
   rw[seqIndex_of h0 h4]at h1;exact Wbh.inj h1
  exact PySem.W.ki_setAt ho h0 (by omega) (by rw[Wak,<- hl];exact h4) (by rw[hk];exact⟨_,I',q⟩)
 ·have hk:(k+(its.toArray.size:Int)).toNat=j:=by
   rw[seqIndex_neg (by omega) h3]at h1;rw[Wak,<- hl];exact Wbh.inj h1
  exact PySem.W.ki_setBack ho (by omega) (by rw[Wak,<- hl];exact h3) (by omega) (by rw[hk];exact⟨_,I',q⟩)
theorem Zi7 (lo hi:Option Int) (n:Nat):(sliceBounds lo hi none n).1=((HT.sIx n 0 lo:Nat):Int)/\(sliceBounds lo hi none n).2.1=((HT.sIx n n hi:Nat):Int)/\(sliceBounds lo hi none n).2.2=1:=by
 refine⟨?_,?_,rfl⟩
 ·cases lo with
  |none=>simp[sliceBounds,HT.sIx]
  |some i=>
   simp only[sliceBounds,HT.sIx,Wel,show (1:Int) > 0 by decide,if_true];by_cases h:i<0
   ·simp only[h,if_true] <;> omega
   ·simp only[h,if_false] <;> omega
 ·cases hi with
  |none=>simp[sliceBounds,HT.sIx]
  |some i=>
   simp only[sliceBounds,HT.sIx,Wel,show (1:Int) > 0 by decide,if_true];by_cases h:i<0
   ·simp only[h,if_true] <;> omega
   ·simp only[h,if_false] <;> omega
theorem Zhj (its:List Value) (lo hi:Option Int):slicePick its.toArray lo hi none=((its.drop (HT.sIx its.length 0 lo)).take (HT.sIx its.length its.length hi-HT.sIx its.length 0 lo)).toArray:=by
 obtain⟨h1,h2,h3⟩:=Zi7 lo hi its.toArray.size;unfold slicePick;rw[h1,h2,h3];simp only[sliceRange_one,pick_run,Wak] <;> rfl
def rSlL (K:W.Frag):V->Option Int->Option Int->Hp->VK->Prop:=λx lo hi H Q=>∃a xs,x=.ref a/\SqL K H a xs/\∀p,H p=none->Q (.ref p) (upd H p (.lst (cutV xs lo hi)))
theorem Zt0:SlR X (rSlL X.K):=by
 intro pins s σ H x v vl vu lo hi sl Q I rx hs pl pu h;obtain⟨a,xs,rfl,hx,q⟩:=h;cases rx;obtain⟨its,r,ht,hz⟩:=I.list hx;have hlen:=r.length;refine⟨"list",_,slot_list_getitem.lookup,ht.isList.typeIs,?_⟩;refine wpAny_getItem_list_slice ht.isList hs pl pu .none (by simp) ?_ (by rw[Wak] <;> omega)
 rw[Zhj,<- hlen];refine⟨.ref s.heap.objs.size,_,I.laid (t':=s.toks) (o:=.lst (cutV xs lo hi)) (λb ob q=>Wac _ q) (Wah _) ?_,rfl,q _ (I.hok.fresh (Wah _))⟩;exact⟨Wbx (Zf5 xs lo hi) hz,_,0,(r.drop (HT.sIx xs.length 0 lo)).take (HT.sIx xs.length xs.length hi-HT.sIx xs.length 0 lo),Wam _ rfl⟩
def flatV:V->Bool
 |.non=>true
 |.bl _=>true
 |.int _=>true
 |.str _=>true
 |_=>false
def eqV:V->V->Bool
 |.non,.non=>true
 |.bl a,.bl b=>a == b
 |.bl a,.int b=>(if a then 1 else 0) == b
 |.int a,.bl b=>a == (if b then 1 else 0)
 |.int a,.int b=>a == b
 |.str a,.str b=>a == b
 |_,_=>false
theorem Zsg {A:Around}{s:Shared}{y x:V}{u v:Value}(ry:RelV y u) (rx:RelV x v) (fy:flatV y=true) (fx:flatV x=true):SeqAt.EqAt A s u v (eqV y x):=by
 cases y with
 |non=>
  cases ry;cases x with
  |non=>cases rx;exact SeqAt.EqAt.same _
  |bl b=>cases rx;exact SeqAt.EqAt.none_bool b
  |int b=>obtain⟨t,rfl⟩:=rx;exact SeqAt.EqAt.none_int b t
  |str b=>obtain⟨t,rfl⟩:=rx;exact SeqAt.EqAt.none_str b t
  |_=>exact absurd (show false=true from fx) Wan
 |bl a=>
  cases ry;cases x with
  |non=>cases rx;exact SeqAt.EqAt.bool_none a
  |bl b=>cases rx;exact SeqAt.EqAt.bool_bool a b
  |int b=>obtain⟨t,rfl⟩:=rx;exact SeqAt.EqAt.bool_int a b t
  |str b=>obtain⟨t,rfl⟩:=rx;exact SeqAt.EqAt.bool_str a b t
  |_=>exact absurd (show false=true from fx) Wan
 |int a=>
  obtain⟨t',rfl⟩:=ry;cases x with
  |non=>cases rx;exact SeqAt.EqAt.int_none a t'
  |bl b=>cases rx;exact SeqAt.EqAt.int_bool a t' b
  |int b=>obtain⟨t,rfl⟩:=rx;exact SeqAt.EqAt.int_int a t' b t
  |str b=>obtain⟨t,rfl⟩:=rx;exact SeqAt.EqAt.int_str a t' b t
  |_=>exact absurd (show false=true from fx) Wan
 |str a=>
  obtain⟨t',rfl⟩:=ry;cases x with
  |non=>cases rx;exact SeqAt.EqAt.str_none a t'
  |bl b=>cases rx;exact SeqAt.EqAt.str_bool a t' b
  |int b=>obtain⟨t,rfl⟩:=rx;exact SeqAt.EqAt.str_int a t' b t
  |str b=>obtain⟨t,rfl⟩:=rx;exact SeqAt.EqAt.str_str a t' b t
  |_=>exact absurd (show false=true from fx) Wan
 |_=>exact absurd (show false=true from fy) Wan
def eqU (x:V) (u:Value):Bool:=match u with
 |.none=>eqV .non x
 |.bool b=>eqV (.bl b) x
 |.int i _=>eqV (.int i) x
 |.str z _=>eqV (.str z) x
 |_=>false
theorem Zkm {x y:V}{u:Value}(r:RelV y u) (f:flatV y=true):eqU x u=eqV y x:=by
 cases y with
 |non=>cases r;rfl
 |bl b=>cases r;rfl
 |int i=>obtain⟨t,rfl⟩:=r;rfl
 |str z=>obtain⟨t,rfl⟩:=r;rfl
 |_=>exact absurd (show false=true from f) Wan
theorem Zjv {x:V}:∀{xs:List V}{us:List Value},Vals xs us->xs.all flatV=true->us.any (eqU x)=xs.any λy=>eqV y x
 |_,_,.nil,_=>rfl
 |y::xs,u::us,.cons r t,f=>by
  rw[Weh,Wbg]at f;rw[Wdd,Wdd,Zkm r f.1,Zjv t f.2]
theorem Zh1 {A:Around}{s:Shared}{x:V}{v:Value}(rx:RelV x v) (fx:flatV x=true):∀{xs:List V}{us:List Value},Vals xs us->xs.all flatV=true->∀u∈us,SeqAt.EqAt A s u v (eqU x u)
 |_,_,.nil,_=>λu hu=>by cases hu
 |y::xs,u::us,.cons r t,f=>λu' hu=>by
  rw[Weh,Wbg]at f;rcases Wal.mp hu with rfl|hu
  ·rw[Zkm r f.1];exact Zsg r rx f.1 fx
  ·exact Zh1 rx fx t f.2 u' hu
def inV (x:V) (xs:List V):Bool:=xs.any λy=>eqV y x
def rIn (K:W.Frag) (neg:Bool):R2:=λx y H Q=>∃p xs,y=.ref p/\(SqL K H p xs\/SqT K H p xs)/\flatV x=true/\xs.all flatV=true/\Q (.bl (if neg then !inV x xs else inV x xs)) H
theorem Zis:OpR X (compareOp .NotIn) (rIn X.K true):=by
 intro pins s σ H x y v u Q I rx ry h;obtain⟨p,xs,rfl,hq,fx,fs,q⟩:=h;cases ry;rcases hq with hq|hq
 ·obtain⟨its,r,pl,hz⟩:=I.list hq
  refine SeqAt.notIn_listAt (eqU x) pl.isList (λw hw=>Zh1 rx fx r fs w (by simpa using hw)) ⟨.bl _,H,I,rfl,?_⟩;rw[show its.toArray.any (eqU x)=its.any (eqU x) by simp,Zjv r fs];exact q
 ·obtain⟨its,r,pl,hz⟩:=I.tuple hq
  refine SeqAt.notIn_tupleAt (eqU x) pl (λw hw=>Zh1 rx fx r fs w (by simpa using hw)) ⟨.bl _,H,I,rfl,?_⟩;rw[show its.toArray.any (eqU x)=its.any (eqU x) by simp,Zjv r fs];exact q
theorem Zjb:CallR X (.builtin "len") (λxs H Q=>∃p ys,xs=[.ref p]/\(SqL X.K H p ys\/SqT X.K H p ys)/\Q (.int ys.length) H):=by
 intro pins s σ H xs us Q I r h;obtain⟨p,ys,rfl,hq,q⟩:=h;obtain⟨u,rfl,rx⟩:=vals1 r;cases rx;have hn:=line63;rcases hq with hq|hq
 ·obtain⟨its,r',pl,hz⟩:=I.list hq
  have hlen:=r'.length;exact Calls.call_len_list pl.isList (by simp only[Wak] <;> omega) ⟨.int ys.length,H,I.tok _,⟨s.toks+1,by rw[Wak,hlen]⟩,q⟩
 ·obtain⟨its,r',pl,hz⟩:=I.tuple hq
  have hlen:=r'.length;exact len_tuple pl (by simp only[Wak] <;> omega) ⟨.int ys.length,H,I.tok _,⟨s.toks+1,by rw[Wak,hlen]⟩,q⟩
theorem CallR.or {f:Value}{r r':List V->Hp->VK->Prop}(h:CallR X f r) (h':CallR X f r'):CallR X f (λxs H Q=>r xs H Q\/r' xs H Q):=by
 intro pins s σ H xs us Q I rs q;rcases q with q|q
 ·exact h pins s σ H xs us Q I rs q
 ·exact h' pins s σ H xs us Q I rs q
theorem Zhp:CallR X (.type "tuple") (λxs H Q=>∃p ys,xs=[.ref p]/\((SqL X.K H p ys/\∀l,H l=none->Q (.ref l) (upd H l (.tup ys)))\/(SqT X.K H p ys/\Q (.ref p) H))):=by
 intro pins s σ H xs us Q I r h;obtain⟨p,ys,rfl,h⟩:=h;obtain⟨u,rfl,rx⟩:=vals1 r;cases rx;rcases h with ⟨hq,q⟩|⟨hq,q⟩
 ·obtain⟨its,r',pl,hz⟩:=I.list hq
  have hlen:=r'.length;refine call_tuple_list pl.isList (λh' kp=>?_) (by simp only[Wak] <;> omega)
  have I1:Inv X pins σ H { s with heap:=h' }:=I.kept (t':=s.toks) kp;have I2:Inv X pins σ (upd H h'.objs.size (.tup ys)) { s with heap:=h'.push { cls:=.type "tuple",data:=.seq its.toArray } }:=
   I1.laid (t':=s.toks) (λb o e=>Wac _ e) (Wah _) (show ObjOk X.prog X.w _ _ _ (.tup ys) from ⟨hz,its,r',IsTupN.new _ _⟩)
  exact⟨.ref h'.objs.size,_,I2,rfl,q _ (I1.hok.fresh (Wah _))⟩
 ·obtain⟨its,r',pl,hz⟩:=I.tuple hq
  exact call_tuple_same pl ⟨.ref p,H,I,rfl,q⟩
def tyV (K:W.Frag) (T:String) (x:V) (H:Hp):Prop:=match x with
 |.str _=>T = "str"
 |.int _=>T = "int"
 |.ref p=>(T = "list" /\ ∃xs,SqL K H p xs)\/(T = "tuple" /\ ((∃o,K.lookup p=some o/\o.cls=.type "tuple" /\ o.dict=none)\/∃xs,H p=some (.tup xs))) ∨
   (T = "dict" /\ ((∃kvs,H p=some (.dK kvs))\/∃kvs,H p=some (.dT kvs)))\/(T = "set" /\ ∃S n,H p=some (.set S n))
 |_=>False
theorem Zvl {pins:List (Addr × Obj)}{σ:St}{H:Hp}{s:Shared}{T:String}{x:V}{v:Value}(I:Inv X pins σ H s) (r:RelV x v) (ty:tyV X.K T x H) :
  s.TypeIs v T/\∀a,v=.ref a->∃ob,s.heap.get? a=some ob/\ob.dict=none:=by
 cases x with
 |str z=>
  obtain⟨t,rfl⟩:=r;cases (show T = "str" from ty);exact⟨typeIs_str s z t,λ_ e=>nomatch e⟩
 |int i=>
  obtain⟨t,rfl⟩:=r;cases (show T = "int" from ty);exact⟨typeIs_int s i t,λ_ e=>nomatch e⟩
 |ref p=>
  cases r;rcases ty with ⟨rfl,xs,hq⟩|⟨rfl,(⟨o,hk,hc,hd⟩|⟨xs,hk⟩)⟩|⟨rfl,hk⟩|⟨rfl,S,n,hk⟩
  ·obtain⟨its,_,pl,_⟩:=I.list hq
   refine⟨pl.isList.typeIs,λa e=>?_⟩;cases e;obtain⟨o,n,e,c,hd,_⟩:=pl;exact⟨o,e,hd⟩
  ·refine⟨⟨o,I.kIn p o hk,hc⟩,λa e=>?_⟩
   cases e;exact⟨o,I.kIn _ o hk,hd⟩
  ·obtain⟨_,_,_,o,e,⟨hc,_⟩,hd⟩:=I.hok p _ hk
   refine⟨⟨o,e,hc⟩,λa e2=>?_⟩;cases e2;exact⟨o,e,hd⟩
  ·have z:∃o,s.heap.get? p=some o/\o.ExactDict:=by
    rcases hk with ⟨kvs,hk⟩|⟨kvs,hk⟩
    ·obtain⟨_,_,_,_,o,_,_,e,ex,_⟩:=I.hok p _ hk
     exact⟨o,e,ex⟩
    ·obtain⟨_,_,_,_,o,_,_,e,ex,_⟩:=I.hok p _ hk
     exact⟨o,e,ex⟩
   obtain⟨o,e,ex⟩:=z;refine⟨⟨o,e,ex.1⟩,λa e2=>?_⟩;cases e2;exact⟨o,e,ex.2.1⟩
  ·obtain⟨o,_,_,_,e,ex,_⟩:=I.hok p _ hk
   refine⟨⟨o,e,ex.1⟩,λa e2=>?_⟩;cases e2;exact⟨o,e,ex.2.1⟩
 |_=>exact False.elim ty
def tBM (K:W.Frag) (T:String) (r:V->List V->Hp->VK->Prop) (to:TE) (t:TA):TE:=λσ H Q=>to σ H λx H1=>tyV K T x H1/\t σ H1 λxs H2=>r x xs H2 Q
variable {o e:Expr}{es:List Expr}{to:TE}{t:TA}{name:Str}{apos cpos:Pos}{T id:String}{r:V->List V->Hp->VK->Prop}
theorem Zxp (pa:PlainAttrs T) (slot:Slot T name id) (hty:typeOf (.builtin id)=pure (.type "method_descriptor")) (hm:MtR X id r) (ho:PE X o to) (ha:PA X (e::es) t)
  (hbase:attributeBase o name X.env (eval o X.env)=eval o X.env:=by rfl)
  (hfew:((backTo cpos (starEach (e::es) X.env)).all (λx=>!x.1) && (backToKw cpos (keywordEach [] X.env)).all (λx=>x.1.isSome)
   && decide ((e::es).length+([]:List Keyword).length+(if ([]:List Keyword).isEmpty then 0 else 1)<30))=true:=by rfl)
  (hline:(apos.endLine == cpos.line)=true:=by rfl) (hs:starEach (e::es) X.env=(false,eval e X.env)::starEach es X.env:=by rfl) (hplain:(backTo cpos (starEach es X.env)).any (·.1)=false:=by rfl) :
  PE X (.Call (.Attribute o name apos) (e::es) [] cpos) (tBM X.K T r to t):=by
 intro pins s σ H Q I h;refine wpAny_Call_method_late hbase hfew hline rfl (thn (ho pins s σ H _ I h) λv s1 ⟨x,H1,I1,r1,ty,q1⟩=>?_);obtain⟨h1,h2⟩:=Zvl I1 r1 ty;refine⟨T,id,pa,slot,hty,h1,h2,?_⟩;have hA:=ha cpos pins s1 σ H1 _ I1 q1;rw[hs]at hA ⊢;refine Calls.callWith_builtin (by show (false || (backTo cpos (starEach es X.env)).any (·.1))=false;rw[hplain] <;> rfl) (Calls.evalArgs_plain ?_)
 exact thn hA λus s2 ⟨vs,H2,I2,r2,q2⟩=>hm pins s2 σ H2 x vs v us Q I2 r1 r2 q2
end
end L2
namespace L2
open PySem PySem.Spec PyProof.Rows
def MtM (X:Cx) (id:String) (r:V->List V->Hp->VK->Prop):Prop:=
 ∀(pins:List (Addr × Obj)) (s:Shared) (σ:St) (H:Hp) (x:V) (xs:List V) (v:Value) (us:List Value) (Q:VK),Inv X pins σ H s->RelV x v->Vals xs us->r x xs H Q →
  wpAny (model X.prog X.w) X.A (call (.builtin id) (v::us)) (EP X pins σ Q) X.xe s
theorem Vals.one:∀{x:V}{us:List Value},Vals [x] us->∃u,us=[u]/\RelV x u:=by
 intro x us h;cases h with|cons r t=>cases t;exact⟨_,rfl,r⟩
theorem Vals.two:∀{x y:V}{us:List Value},Vals [x,y] us->∃u v,us=[u,v]/\RelV x u/\RelV y v:=by
 intro x y us h;cases h with|cons r t=>cases t with|cons q t=>cases t;exact⟨_,_,rfl,r,q⟩
section
variable {X:Cx}{pins:List (Addr × Obj)}{σ:St}{H:Hp}{s:Shared}{l b:Addr}{xs ys zs:List V}
theorem Inv.lset {its its':List Value}{n:Nat}{f:Array Value->Array Value}{t':Nat}(I:Inv X pins σ H s) (hH:H l=some (.lst xs))
  (e:s.heap.get? l=some { cls:=.type "list",data:=.seq its.toArray n }) (hf:f its.toArray=its'.toArray) (hv:Vals ys its') (hz:ys.length<=sizeLine) :
  Inv X pins σ (upd H l (.lst ys)) { s with heap:=s.heap.update l (Obj.mapSeq f),toks:=t' }:=by
 have q:=PySem.IsL.update e f;rw[hf]at q;refine I.write (x:=l) (e:=l) (by rw[hH];exact trivial) (.inl rfl) (λb' u hb hu=>(Wci s.heap (Obj.mapSeq f) (Ne.symm hb)).trans hu) ⟨_,q⟩ ?_;exact⟨hz,its',_,hv,q⟩
theorem Inv.lnew {its:List Value}{t':Nat}(I:Inv X pins σ H s) (hv:Vals ys its) (hz:ys.length<=sizeLine) :
  Inv X pins σ (upd H s.heap.objs.size (.lst ys)) { s with heap:=s.heap.push { cls:=.type "list",data:=.seq its.toArray },toks:=t' }:=
 I.laid (λ_ _ q=>Wac _ q) (Wah _) ⟨hz,its,0,hv,Wam _ rfl⟩
theorem Inv.fresh (I:Inv X pins σ H s):H s.heap.objs.size=none:=I.hok.fresh (Wah _)
theorem Inv.lstM (I:Inv X pins σ H s) (hH:H l=some (.lst xs)):xs.length<=sizeLine/\∃(its:List Value) (n:Nat),Vals xs its/\xs.length=its.length/\s.heap.get? l=some { cls:=.type "list",data:=.seq its.toArray n }:=by
 obtain⟨z,its,n,r,e⟩:=I.hok l _ hH;exact⟨z,its,n,r,r.length,e⟩
end
section
variable {X:Cx}
def rAppend:V->List V->Hp->VK->Prop:=λx vs H Q=>∃l xs y,x=.ref l/\vs=[y]/\H l=some (.lst xs)/\xs.length<sizeLine/\Q .non (upd H l (.lst (xs++[y])))
theorem Zb1:MtM X "list.append" rAppend:=by
 intro pins s σ H x vs v us Q I rx rv h;obtain⟨l,xs,y,rfl,rfl,hH,hz,q⟩:=h;cases rx;obtain⟨u,rfl,ru⟩:=rv.one;obtain⟨z,its,n,r,hl,e⟩:=I.lstM hH;refine call_meets F.slot_list_append ⟨_,e,rfl⟩ F.entry_list_append (F.args_list_append_2 _ _) (PySem.list_append l its.toArray n u (by rw[Wak];omega)) ⟨e,?_⟩;refine⟨.non,_,I.lset (its':=its++[u]) hH e (by simp) (r.append (.cons ru .nil)) ?_,rfl,q⟩;rw[Waq,Wcl];omega
def rCat:R2:=λx y H Q=>∃l b xs zs,x=.ref l/\y=.ref b/\H l=some (.lst xs)/\H b=some (.lst zs)/\xs.length+zs.length<=sizeLine/\∀p,H p=none->Q (.ref p) (upd H p (.lst (xs++zs)))
theorem Zw9:OpR X (binaryOp .Add) rCat:=by
 intro pins s σ H x y v u Q I rx ry h;obtain⟨l,b,xs,zs,rfl,rfl,hH,hB,hz,q⟩:=h;cases rx;cases ry;obtain⟨z,its,n,r,hl,e⟩:=I.lstM hH;obtain⟨z2,its2,n2,r2,hl2,e2⟩:=I.lstM hB;refine PySem.P.add_list e e2 ?_ (by rw[Wak,Wak];omega);have ea:its.toArray++its2.toArray=(its++its2).toArray:=by simp
 rw[ea];exact⟨.ref _,_,I.lnew (t':=s.toks) (r.append r2) (by rw[Waq];omega),rfl,q _ I.fresh⟩
end
end L2
namespace Att
open PySem PySem.W PySem.Calls PyProof.Rows
theorem Zfx {P:Params}{h:Heap}:∀(ns:List Int) (vs:List Value),WellAll P h vs (ns.map WData.int)->IntsAre vs ns:=by
 intro ns
 induction ns with
 |nil=>
  intro vs w;rw[List.map_nil]at w;cases w;exact .nil
 |cons n ns ih=>
  intro vs w;rw[Wbe]at w;cases w with
  |cons a b=>
   cases a;exact .cons _ _ (ih _ b)
theorem Zoa {l:OpenLaw}{n:Nat}(hn:l.most=some n) {P:Params}{h:Heap}{args:List WData}{vals:List Value}
  (hpre:l.row.toRowW.claim.pre args=true) (hwl:WellAll P h vals args) :
  ∃a vs ns,vals=[Value.ref a]/\args=[WData.list (ns.map WData.int)]/\h.get? a=some { cls:=.type "list",data:=.seq vs.toArray } /\ IntsAre vs ns/\ns.length<=n:=by
 have hsh:WShape.hasAll [] args [.list .int]=true:=(pre_splitW hpre).1;have hc:l.pre.holds [] { args:=args } = true:=(pre_splitW hpre).2;obtain⟨d,r,rfl,h1,h2⟩:=hasAllW_cons hsh;obtain rfl:=hasAllW_nil h2;obtain⟨xs,rfl,h3⟩:=hasW_list h1;obtain⟨ns,rfl⟩:=items_int h3;have hlen:ns.length<=n:=by
  unfold OpenLaw.pre at hc;have h4:(WTm.not (.lt (.lit (.int (n:Int))) (.len (.arg 0)))).holds [] { args:=[.list (ns.map .int)] } = true:=by
   have h4:=(holds_andW hc).1;rw[hn]at h4;exact h4
  have h5:=condW_of h4 (w_not (w_lt w_lit (w_len_list (w_arg rfl))));rw[Wab]at h5;refine Nat.le_of_not_lt λq=>?_;have q':(n:Int)<((ns.length:Nat):Int):=by omega
  first
   | (rw[decide_eq_true q']at h5;exact absurd h5 (by decide))
   | (simp at h5;omega)
 cases hwl with
 |cons w1 w2=>
  cases w2;cases w1 with
  |list ho hall=>exact⟨_,_,ns,rfl,rfl,ho,Zfx ns _ hall,hlen⟩
theorem Zmx (l:OpenLaw) (args:List WData):l.row.toRowW.claim.post args (.bool true) args=true:=
 postW_of (r:=l.row.toRowW) (X:=(true == true))
  (show WShape.has [] (.bool true) .bool=true by first|rfl|decide|simp[WShape.has,WShape.arms,WShape.armsAll])
  (show (WTm.eq .res (.lit (.bool true))).value [] { args:=args,res:=some (.bool true),after:=args } = some (.bool (true == true)) from w_eq_bool (w_res rfl) w_lit) rfl
theorem attach_call {l:OpenLaw}{n:Nat}{q:Program}{loose:List Str}{XP:(Str->Option Value)->Heap->Prop}{YP:World->Heap->Prop}{d:DefRec}
  (hn:l.most=some n) (hdf:d.params.defaults=[])
  (call:∀(w:World) (s₀ s₁:Shared) (mg mb:Str->Option Value) (fa:Addr) (o:Obj) (pm cd doc:Value) (a:Addr) (vs:List Value) (ns:List Int),
   Ground q loose [] XP w s₀ mg mb s₁.heap->YP w s₁.heap →
   s₁.heap.get? fa=some o->o.data=.func (docDef d.name d.params d.body d.scope pm cd doc)->s₁.heap.CodeRec cd d.name->mg d.name=some (.ref fa) →
   s₁.heap.get? a=some { cls:=.type "list",data:=.seq vs.toArray } -> IntsAre vs ns->ns.length<=n->s₁.gens = #[] →
   codeAny (model l.prog w) callerA (.call (.ref fa) ⟨[.ref a],[]⟩) (λr s'=>r=.ok (.ret (.bool true))/\OldK s₁.heap s'.heap/\s'.os=s₁.os/\AllBare s'.gens) s₁) :
  WalkO q loose XP YP l.row.toRowW d [] (λf vs=>PySem.call f vs):=by
 intro w s₀ s₁ mg mb G Y fa o pm cd doc dV kV ho hd hcd hD hmg hg args vals as hpre hlay hrd hwl hlo;obtain rfl:dV=.none:=Dflts.none hD hdf;obtain rfl:kV=.none:=Dflts.noKw hD;obtain⟨a,vs,ns,rfl,rfl,hobj,hints,hlen⟩:=Zoa hn hpre hwl;refine enter_call (codeAny_mono (call w s₀ s₁ mg mb fa o pm cd doc a vs ns G Y ho (fd_plain hd) hcd hmg hobj hints hlen hg) λr s' hq=>?_);obtain⟨rfl,h2,h3,h4⟩:=hq;exact⟨.inl ⟨.bool true,.bool true,[],rfl,λ_=>rfl,.bool true,Zmx l _,λ_=>⟨List.Pairwise.nil,λ_ hm=>(nomatch hm)⟩⟩,h2,h3,h4⟩
end Att
namespace L2
open PySem PySem.Spec PyProof.Rows
theorem Zen:∀{vs:List Value}{ns:List Int},IntsAre vs ns->Vals (ns.map V.int) vs
 |_,_,.nil=>.nil
 |_,_,.cons n t h=>.cons ⟨t,rfl⟩ (Zen h)
def Only (H:Hp):Prop:=∀b,H b=none\/∃o xs,H b=some (.frz o (.lst xs))
theorem Zp6 {P:Program}{w:World}{K:W.Frag}{mg mb:Str->Option Value}{CX:CXT}{k:Nat}{fa a:Addr}{fd:FuncData}{x:Str}{sp:Sp}{s₁:Shared}{vs:List Value}{ns:List Int}
  (KX:K.In s₁.heap) (hns:s₁.heap.Ns mainGlobals mg) (hb:s₁.heap.Ns builtinsNs mb) (hbb:∀x:Str,x ≠ "__name__" -> mb x=bootBuiltins x) (hlim:s₁.heap.NoLimit) (hg:s₁.gens = #[])
  (ha:s₁.heap.get? a=some { cls:=.type "list",data:=.seq vs.toArray }) (hi:IntsAre vs ns) (hl:ns.length<=sizeLine) (hr:Room k callerA)
  (F:∀base:Heap,K.In base->base.Ns mainGlobals mg->FnOk P w K mg base CX k fa fd [x] sp) (hbind:∀(s:Shared) (u:Value),BindsTo s fd ⟨[u],[]⟩ [(x,u)])
  (hsp:∀H:Hp,Only H->SqL K H a (ns.map V.int)->sp [.ref a] H (λv _=>v=.bl true) λ_ _ _=>False)
  (hCX:∀H e s',CX [] H s₁ (λ_ _ _=>False) e s' -> False) :
  codeAny (model P w) callerA (.call (.ref fa) ⟨[.ref a],[]⟩) (λr s'=>r=.ok (.ret (.bool true))/\OldK s₁.heap s'.heap/\s'.os=s₁.os/\AllBare s'.gens) s₁:=by
 have rv:=Zen hi;have lenV:=hi.length
 -- from an abstract heap in which nothing but the script may be tracked
 have core:∀H:Hp,Only H->SqL K H a (ns.map V.int)->HOk P w H s₁.heap->(∀b,H b≠none->b=a)->(H a≠none->K.lookup a=none) →
   codeAny (model P w) callerA (.call (.ref fa) ⟨[.ref a],[]⟩) (λr s'=>r=.ok (.ret (.bool true))/\OldK s₁.heap s'.heap/\s'.os=s₁.os/\AllBare s'.gens) s₁:=by
  intro H hO hS hok hA hK;have base_of:∀{b:Addr}{o:Obj},s₁.heap.get? b=some o->H b=none->(hidT s₁.heap H).get? b=some o:=λe n=>Zqt e n;have noA:∀{b:Addr}{o:Obj}{es:Array DictEntry}{ep:Nat},s₁.heap.get? b=some o->o.data=.dict es ep->H b=none:=λ{b o es ep} e d=>by
   cases q:H b with
   |none=>rfl
   |some u=>
    have e':b=a:=hA b (by rw[q];simp);subst e';rw[ha]at e;cases e;have d':Data.seq vs.toArray _=Data.dict es ep:=d;cases d'
  have nsK:∀{b:Addr}{m:Str->Option Value},s₁.heap.Ns b m->(hidT s₁.heap H).Ns b m:=λ{b m} ⟨o,es,ep,e,d,r⟩=>⟨o,es,ep,base_of e (noA e d),d,r⟩;have hKb:K.In (hidT s₁.heap H):=λb o e=>base_of (KX b o e) (by
   cases q:H b with
   |none=>rfl
   |some u=>
    have e':b=a:=hA b (by rw[q];simp);subst e';rw[hK (by rw[q];simp)]at e;cases e)
  have hM:Mod K mg (hidT s₁.heap H):=⟨hKb,nsK hns,⟨mb,nsK hb,hbb⟩,let ⟨mc,h1,h2⟩:=hlim; ⟨mc,nsK h1,h2⟩⟩;have e0:Env0 P w K mg (hidT s₁.heap H) callerA [] s₁ H:=⟨rfl,hM,λb o e=>Ztn e,Nat.le_of_eq (Znl _ _),trivial,λb hb=>absurd (show b∈([]:List Addr) from hb) (by simp),hok,.of_eq hg⟩;refine codeAny_mono ((F _ hKb (nsK hns)).run callerA [] s₁ H ⟨[.ref a],[]⟩ [.ref a] [.ref a] _ _ hr e0 (hbind s₁ (.ref a)) (.cons rfl .nil) (hsp H hO hS)) λr s' h=>?_;cases r with
  |error e=>exact(hCX H e s' h).elim
  |ok fl=>
   cases fl with
   |next=>exact False.elim h
   |brk=>exact False.elim h
   |cont=>exact False.elim h
   |ret u=>
    obtain⟨v,H',os,bare,un,hok',r',q⟩:=h;have q':v=.bl true:=q;subst q';obtain rfl:u=Value.bool true:=r';refine⟨rfl,OldK.of_keep λb o e=>?_,os,bare⟩;cases q:H b with
    |none=>exact un.keep b o e q (by intro z;exact absurd (show b∈([]:List Addr) from z) (by simp)) (by simp)
    |some u=>
     rcases hO b with z|⟨ob,xs,z⟩
     ·rw[q]at z;cases z
     ·have z2:=un.frzs b ob _ z
      obtain⟨e1,_⟩:=hok b _ z;obtain⟨e2,_⟩:=hok' b _ z2;rw[e]at e1;cases e1;exact e2
 cases hk:K.lookup a with
 |some o=>
  -- the script is one of the module's own objects
  have e:=KX a o hk;rw[ha]at e;cases e;refine core (λ_=>none) (λ_=>.inl rfl) (.inr ⟨_,vs.toArray,_,hk,rfl,rfl,rfl,by rw[Wak,lenV];exact hl,by simpa using rv⟩) (λb u z=>by have z':(none:Option HO)=some u:=z;cases z') (λb z=>absurd rfl z) λz=>absurd rfl z
 |none=>
  refine core (λb=>if b=a then some (.frz { cls:=.type "list",data:=.seq vs.toArray } (.lst (ns.map V.int))) else none) (λb=>?_) (.inl (.inr ⟨{ cls:=.type "list",data:=.seq vs.toArray },if_pos rfl⟩)) (λb u z=>?_) (λb z=>?_) λ_=>hk
  ·by_cases hb:b=a
   ·exact .inr ⟨_,_,if_pos hb⟩
   ·exact .inl (if_neg hb)
  ·by_cases hb:b=a
   ·have z':=(if_pos hb).symm.trans z
    cases z';subst hb;exact⟨ha,by rw[Wab];exact hl,vs,_,rv,ha⟩
   ·have z':=(if_neg hb).symm.trans z
    cases z'
  ·by_cases hb:b=a
   ·exact hb
   ·exact absurd (if_neg hb) z
end L2
namespace L2
open PySem PySem.Spec PyProof.Rows
theorem walk_of {l:PySem.W.OpenLaw}{n k:Nat}{q:Program}{loose:List Str}{XP:(Str->Option Value)->Heap->Prop}{YP:World->Heap->Prop}{d:DefRec}{K:Params->W.Frag}{CX:World->CXT}{sp:World->Sp}{x:Str}
  (hn:l.most=some n) (hn2:n<=sizeLine) (hdf:d.params.defaults=[]) (hr:Room k callerA)
  (hY:∀(w:World) (h:Heap),YP w h->(K w.params).In h)
  (F:∀(w:World) (mg:Str->Option Value) (fa:Addr) (h:Heap),(K w.params).In h->h.Ns mainGlobals mg->mg d.name=some (.ref fa) →
   ∃fd:FuncData,(∀(s:Shared) (u:Value),BindsTo s fd ⟨[u],[]⟩ [(x,u)]) ∧
    ∀base:Heap,(K w.params).In base->base.Ns mainGlobals mg->FnOk l.prog w (K w.params) mg base (CX w) k fa fd [x] (sp w))
  (hsp:∀(w:World) (H:Hp) (a:Addr) (ns:List Int),ns.length<=n->Only H->SqL (K w.params) H a (ns.map V.int)->sp w [.ref a] H (λv _=>v=.bl true) λ_ _ _=>False)
  (hCX:∀(w:World) (H:Hp) (s:Shared) (e:Value) (s':Shared),CX w [] H s (λ_ _ _=>False) e s' -> False) :
  PySem.W.WalkO q loose XP YP l.row.toRowW d [] (λf vs=>PySem.call f vs):=by
 refine Att.attach_call hn hdf λw s₀ s₁ mg mb fa o pm cd doc a vs ns G Y ho hd hcd hmg hobj hints hlen hg=>?_;have KX:=hY w _ Y;obtain⟨fd,hb,hF⟩:=F w mg fa _ KX G.T.g hmg;exact Zp6 KX G.T.g G.T.b G.T.builtins G.T.nolimit hg hobj hints (Wbx hlen hn2) hr hF hb (λH hO hS=>hsp w H a ns hlen hO hS) λH e s'=>hCX w H s₁ e s'
end L2
namespace L2
open PySem PySem.Spec PyProof.Rows
def defArgs (s:Stmt):Arguments:=match s with
 |.FunctionDef _ a _ _ _ _ _ _ _ _=>a
 |_=>{ posonlyargs:=[],args:=[],vararg:=none,kwonlyargs:=[],kw_defaults:=[],kwarg:=none,defaults:=[] }
def defBody (s:Stmt):List Stmt:=match s with
 |.FunctionDef _ _ b _ _ _ _ _ _ _=>b
 |_=>[]
def defScope (s:Stmt):Scope:=match s with
 |.FunctionDef _ _ _ _ _ _ sc _ _ _=>sc
 |_=>{ kind:=.function,names:=[],isGenerator:=false,isCoroutine:=false }
abbrev CX0:CXT:=λ_ _ _ _ _ _=>False
abbrev E0:XK:=λ_ _ _=>False
theorem pass0 {X:Cx}:Passes CX0 X E0:=λ_ _ _ _ _ _ _ h=>h.elim
structure Fun (K:W.Frag) (x qual:Str) (st:Stmt) (f:Addr) (fd:FuncData):Prop where
 ex:∃(oc:Value) (od:Option Addr) (kV doc pm:Value) (an:Option Addr) (cdv ct:Value) (osl:Array (Option Value)),
  fd=W.fnOf x qual (defArgs st) (defBody st) (defScope st) .none kV doc pm an cdv ct/\K.lookup f=some ⟨oc,od,.func fd,osl⟩ /\ W.codeIn K cdv qual=true
 kp:W.keepIn K (.ref f)=true
section
variable {P:Program}{w:World}{K:W.Frag}{mg:Str->Option Value}{base:Heap}
theorem Fun.ok {x qual:Str}{st:Stmt}{f:Addr}{fd:FuncData}{N ps:List Str}{k:Nat}{sp:Sp}(F:Fun K x qual st f fd) (S:FnScope N ps (defScope st)) (len:∀vs H Q E,sp vs H Q E->vs.length=ps.length)
  (hbody:∀(cdv:Value) (A:Around) (outer:List Env) (s:Shared) (H:Hp) (vs:List V) (Q:VK) (E:XK),Room k (A.deeper (envOfC qual (defScope st) s.heap.objs.size f cdv))->sp vs H Q E →
   ∃t,PSs (cxOf CX0 P w K mg base N qual (defScope st) f cdv A outer s H E).nox (defBody st) t/\t { nx:=λ_ H'=>Q .non H',rt:=Q } (start N vs) H):FnOk P w K mg base CX0 (k+1) f fd ps sp:=by
 obtain⟨oc,od,kV,doc,pm,an,cdv,ct,osl,rfl,lk,hcd⟩:=F.ex;refine Zxn lk hcd S len λA outer s H vs Q E hr hsp=>?_;obtain⟨t,h,q⟩:=hbody cdv A outer s H vs Q E hr hsp;exact⟨t,h.nox,q⟩
theorem Fun.binds {x qual:Str}{st:Stmt}{f:Addr}{fd:FuncData}{ps:List Str}(F:Fun K x qual st f fd)
  (h:∀(kV doc pm:Value) (an:Option Addr) (cdv ct:Value) (us:List Value),us.length=ps.length->bindArgs (W.fnOf x qual (defArgs st) (defBody st) (defScope st) .none kV doc pm an cdv ct) ⟨us,[]⟩=pure (ps.zip us)):Binds K fd ps []:=by
 obtain⟨oc,od,kV,doc,pm,an,cdv,ct,osl,rfl,lk,hcd⟩:=F.ex;exact .all (h kV doc pm an cdv ct)
theorem Zvc {x qual:Str}{st:Stmt}{f:Addr}{oc:Value}{od an:Option Addr}{osl:Array (Option Value)}{kV doc pm cdv ct:Value}(l:K.lookup f=some ⟨oc,od,.func (W.fnOf x qual (defArgs st) (defBody st) (defScope st) .none kV doc pm an cdv ct),osl⟩)
  (c:W.codeIn K cdv qual=true) (k:W.keepIn K (.ref f)=true):Fun K x qual st f (W.fnOf x qual (defArgs st) (defBody st) (defScope st) .none kV doc pm an cdv ct):=⟨⟨oc,od,kV,doc,pm,an,cdv,ct,osl,rfl,l,c⟩,k⟩
end
theorem Zby {A:Around}{k:Nat}(hr:Room k A):A.units+1<cLine:=Wca (Nat.add_le_add_left (by decide:1<=64) _) hr.units
theorem small1000 {n:Nat}(h:n<=1000):n<sizeLine:=Wca h (by decide)
section
variable {X:Cx}
theorem pv (i:Nat) {x:Str}{pos:Pos}(hN:X.N[i]?=some x:=by rfl) (hv:Vis X.env.scope x:=by first|exact Or.inl rfl|exact Or.inr (Or.inl rfl)|exact Or.inr (Or.inr rfl)) (hd:(x == ("__debug__":Str))=false:=by decide)
  (hcd:(x == ("__classdict__":Str))=false:=by decide):PE X (.Name x pos) (tVar i):=Zwq hN hv hd hcd
end
theorem iteF {A B:Prop}(h:B):if false=true then A else B:=by
 rw[if_neg Wan];exact h
theorem iteT {A B:Prop}(h:A):if true=true then A else B:=by
 rw[if_pos rfl];exact h
theorem ite2 {c A B:Prop}[Decidable c] (h1:c->A) (h2:¬ c->B):if c then A else B:=by
 by_cases h:c
 ·rw[if_pos h]
  exact h1 h
 ·rw[if_neg h]
  exact h2 h
def Same (H H':Hp):Prop:=∀b o,H b=some o->H' b=some o
theorem Same.refl (H:Hp):Same H H:=λ_ _ h=>h
theorem Same.trans {H H1 H2:Hp}(a:Same H H1) (b:Same H1 H2):Same H H2:=λc o h=>b c o (a c o h)
theorem Same.seq {K:W.Frag}{H H':Hp}{a:Addr}{xs:List V}(e:Same H H') (h:SqL K H a xs):SqL K H' a xs:=by
 rcases h with (h|⟨o,h⟩)|h
 ·exact .inl (.inl (e _ _ h))
 ·exact .inl (.inr ⟨o,e _ _ h⟩)
 ·exact .inr h
end L2
namespace L2
open PySem PySem.Spec PyProof.Rows
section
variable {κ:Type}[DecidableEq κ]
def valV (kvs:List (κ × V)) (k:κ):Option V:=(kvs.find? λkv=>decide (kv.1=k)).map (·.2)
def putK (kvs:List (κ × V)) (k:κ) (v:V):List (κ × V):=
 if (kvs.any λkv=>decide (kv.1=k))=true then kvs.map (λkv=>if kv.1=k then (kv.1,v) else kv) else kvs++[(k,v)]
theorem Zfp {p:κ × V}{r:List (κ × V)}{k:κ}(e:p.1=k):valV (p::r) k=some p.2:=by simp[valV,Wcs,e]
theorem Zfm {p:κ × V}{r:List (κ × V)}{k:κ}(e:¬ p.1=k):valV (p::r) k=valV r k:=by simp[valV,Wcs,e]
theorem Zk5 (k:κ):∀kvs:List (κ × V),(kvs.any λkv=>decide (kv.1=k))=(valV kvs k).isSome
 |[]=>rfl
 |p::r=>by
  rw[Wdd];by_cases e:p.1=k
  ·simp only[Zfp e,decide_eq_true e,Bool.true_or,Option.isSome_some]
  ·rw[Zfm e,decide_eq_false e,Bool.false_or];exact Zk5 k r
theorem Zgp (kvs:List (κ × V)) (k:κ) (v:V):(putK kvs k v).length<=kvs.length+1:=by
 unfold putK;split
 ·rw[Wab];omega
 ·rw[Waq,Waj,Wb3];omega
theorem RelO.isSome_eq {o:Option V}{u:Option Value}(r:RelO o u):o.isSome=u.isSome:=by
 cases o with
 |none=>cases u with
  |none=>rfl
  |some _=>exact(show False from r).elim
 |some _=>cases u with
  |none=>exact(show False from r).elim
  |some _=>rfl
theorem KV.val {kvs:List (κ × V)}{vs:List (κ × Value)}(r:KV kvs vs) (k:κ):RelO (valV kvs k) (valueAt vs k):=by
 unfold KV at r
 induction r with
 |nil=>exact True.intro
 |@cons p q ps qs h t ih=>
  obtain⟨h1,h2⟩:=h;by_cases e:p.1=k
  ·have e':q.1=k:=h1.symm.trans e
   have b:valueAt (q::qs) k=some q.2:=by simp[valueAt,Wcs,e']
   rw[Zfp e,b];exact h2
  ·have e':¬ q.1=k:=λz=>e (h1.trans z)
   have b:valueAt (q::qs) k=valueAt qs k:=by simp[valueAt,Wcs,e']
   rw[Zfm e,b];exact ih
theorem KV.any {kvs:List (κ × V)}{vs:List (κ × Value)}(r:KV kvs vs) (k:κ):(kvs.any λkv=>decide (kv.1=k))=vs.any λkv=>decide (kv.1=k):=by
 unfold KV at r
 induction r with
 |nil=>rfl
 |cons h t ih=>rw[Wdd,Wdd,ih,h.1]
theorem KV.repl {kvs:List (κ × V)}{vs:List (κ × Value)}(r:KV kvs vs) (k:κ) {y:V}{u:Value}(ry:RelV y u) :
  KV (kvs.map λkv=>if kv.1=k then (kv.1,y) else kv) (vs.map λkv=>if kv.1=k then (kv.1,u) else kv):=by
 unfold KV at r ⊢
 induction r with
 |nil=>exact .nil
 |@cons p q ps qs h t ih=>
  rw[Wbe,Wbe];refine .cons ?_ ih;obtain⟨h1,h2⟩:=h;by_cases e:p.1=k
  ·rw[if_pos e,if_pos (h1.symm.trans e)];exact⟨h1,ry⟩
  ·rw[if_neg e,if_neg (λz=>e (h1.trans z))];exact⟨h1,h2⟩
theorem KV.put {kvs:List (κ × V)}{vs:List (κ × Value)}(r:KV kvs vs) (k:κ) {y:V}{u:Value}(ry:RelV y u):KV (putK kvs k y) (stored vs k u):=by
 unfold putK stored;rw[r.any k];by_cases e:(vs.any λkv=>decide (kv.1=k))=true
 ·rw[if_pos e,if_pos e];exact r.repl k ry
 ·rw[if_neg e,if_neg e];exact Paired.snoc r ⟨rfl,ry⟩
theorem KV.length {kvs:List (κ × V)}{vs:List (κ × Value)}(r:KV kvs vs):kvs.length=vs.length:=Paired.length r
end
theorem Zp0 {P:Program}{w:World}{k:Key}{u:Value}(r:RelV (kV k) u):(mixKind P w).is k u=true:=by
 cases k with
 |inl i=>obtain⟨t,e⟩:=(show ∃t,u=Value.int i t from r);subst e;exact Zjq P w i t
 |inr x=>obtain⟨t,e⟩:=(show ∃t,u=Value.str x t from r);subst e;exact Zka P w x t
theorem Zit {P:Program}{w:World}:∀{ks:List Key}{us:List Value},Vals (ks.map kV) us->ItemsAre (mixKind P w) ks us
 |[],_,r=>by rw[List.map_nil]at r;cases r;exact .nil
 |k::ks,_,r=>by
  rw[Wbe]at r;cases r with
  |cons h t=>exact .cons (Zp0 h) (Zit t)
abbrev KT (H:Hp):List (List Key × V)->List (List Key × Addr × Value)->Prop:=Paired λp q=>p.1=q.1/\H q.2.1=some (.tup (p.1.map kV))/\RelV p.2 q.2.2
theorem KT.val {H:Hp}{kvs:List (List Key × V)}{xs:List (List Key × Addr × Value)}(r:KT H kvs xs) (k:List Key):RelO (valV kvs k) ((atKey xs k).map (·.2)):=by
 induction r with
 |nil=>exact True.intro
 |@cons p q ps qs h t ih=>
  obtain⟨h1,_,h2⟩:=h;by_cases e:p.1=k
  ·have e':q.1=k:=h1.symm.trans e
   have b:atKey (q::qs) k=some q.2:=by simp[atKey,Wcs,e']
   rw[Zfp e,b];exact h2
  ·have e':¬ q.1=k:=λz=>e (h1.trans z)
   have b:atKey (q::qs) k=atKey qs k:=by simp[atKey,Wcs,e']
   rw[Zfm e,b];exact ih
theorem KT.repl {H:Hp}{kvs:List (List Key × V)}{xs:List (List Key × Addr × Value)}(r:KT H kvs xs) (k:List Key) {y:V}{u:Value}(ry:RelV y u) :
  KT H (kvs.map λkv=>if kv.1=k then (kv.1,y) else kv) (xs.map (putAt k u)):=by
 induction r with
 |nil=>exact .nil
 |@cons p q ps qs h t ih=>
  rw[Wbe,Wbe];refine .cons ?_ ih;obtain⟨h1,h2,h3⟩:=h;unfold putAt;by_cases e:p.1=k
  ·rw[if_pos e,if_pos (h1.symm.trans e)];exact⟨h1,h2,ry⟩
  ·rw[if_neg e,if_neg (λz=>e (h1.trans z))];exact⟨h1,h2,h3⟩
theorem KT.put {H:Hp}{kvs:List (List Key × V)}{xs:List (List Key × Addr × Value)}(r:KT H kvs xs) (k:List Key) {b:Addr}{y:V}{u:Value}(hb:H b=some (.tup (k.map kV))) (ry:RelV y u) :
  KT H (putK kvs k y) (storedH xs k b u):=by
 have e:(kvs.any λkv=>decide (kv.1=k))=(atKey xs k).isSome:=by
  rw[Zk5,(r.val k).isSome_eq,Option.isSome_map]
 unfold putK storedH;rw[e];by_cases q:(atKey xs k).isSome=true
 ·rw[if_pos q,if_pos q];exact r.repl k ry
 ·rw[if_neg q,if_neg q];exact Paired.snoc r ⟨rfl,hb,ry⟩
theorem KT.keeps {H H':Hp}{kvs:List (List Key × V)}{xs:List (List Key × Addr × Value)}(r:KT H kvs xs) (ht:∀b ys,H b=some (.tup ys)->H' b=some (.tup ys)):KT H' kvs xs:=
 Paired.mapP r λ_ _ z=>⟨z.1,ht _ _ z.2.1,z.2.2⟩
section
variable {P:Program}{w:World}{H:Hp}{h:Heap}{a:Addr}
theorem Zv3 {u:HO}(ok:HOk P w H h) (e:Rd H a u):ObjOk P w H h a u:=e.ok ok
theorem Zn0 {kvs:List (Key × V)}(ok:HOk P w H h) (e:Rd H a (.dK kvs)):kvs.length<=sizeLine/\(a == sysModules)=false/\∃vs,KV kvs vs/\h.DictOf (mixKind P w) a vs:=
 show ObjOk P w H h a (.dK kvs) from Zv3 ok e
theorem Zxh {kvs:List (Key × V)}(ok:HOk P w H h) (e:H a=some (.dK kvs)):kvs.length<=sizeLine/\(a == sysModules)=false/\∃vs,KV kvs vs/\h.DictOf (mixKind P w) a vs:=Zn0 ok (.inl e)
theorem Zld {ks:List Key}(ok:HOk P w H h) (e:H a=some (.tup (ks.map kV))):(tupleKind (mixKind P w)).is h ks a:=by
 obtain⟨_,its,r,o,h1,⟨h2,n,h3⟩,_⟩:=(show ObjOk P w H h a (.tup (ks.map kV)) from ok a _ e);exact⟨o,its.toArray,n,h1,h2,h3,by simpa using Zit r⟩
theorem Zq5 {kvs:List (List Key × V)}(ok:HOk P w H h) (e:Rd H a (.dT kvs)):kvs.length<=sizeLine/\(a == sysModules)=false ∧
  ∃xs,KT H kvs xs/\h.DictOfH (tupleKind (mixKind P w)) a xs:=by
 obtain⟨z,y,xs,r,o,es,ep,h1,h2,h3,h4,h5⟩:=(show ObjOk P w H h a (.dT kvs) from Zv3 ok e);refine⟨z,y,xs,r,o,es,ep,h1,h2,h3,h4,λx hx=>?_,h5⟩;have all:∀{l:List (List Key × V)}{m:List (List Key × Addr × Value)},KT H l m->∀x∈m,(tupleKind (mixKind P w)).is h x.1 x.2.1:=by
  intro l m q
  induction q with
  |nil=>intro x hx;exact nomatch hx
  |@cons p q ps qs hq t ih=>
   intro x hx;rcases Wal.mp hx with e|hx
   ·subst e
    exact Zld ok (by rw[<- hq.1];exact hq.2.1)
   ·exact ih x hx
 exact all r x hx
theorem Zxd {kvs:List (List Key × V)}(ok:HOk P w H h) (e:H a=some (.dT kvs)):kvs.length<=sizeLine/\(a == sysModules)=false ∧
  ∃xs,KT H kvs xs/\h.DictOfH (tupleKind (mixKind P w)) a xs:=Zq5 ok (.inl e)
end
def DGet (H:Hp) (a:Addr) (y:V) (r:Option V):Prop:=
 (∃kvs k,Rd H a (.dK kvs)/\y=kV k/\r=valV kvs k)\/∃kvs k b,Rd H a (.dT kvs)/\y=.ref b/\H b=some (.tup (k.map kV))/\r=valV kvs k
def DPut (H:Hp) (a:Addr) (y v:V) (H':Hp):Prop:=
 (∃kvs k,H a=some (.dK kvs)/\y=kV k/\kvs.length<sizeLine/\H'=upd H a (.dK (putK kvs k v))) ∨
 ∃kvs k b,H a=some (.dT kvs)/\y=.ref b/\H b=some (.tup (k.map kV))/\kvs.length<sizeLine/\H'=upd H a (.dT (putK kvs k v))
theorem DGet.k {H:Hp}{a:Addr}{kvs:List (Key × V)}{k:Key}(e:H a=some (.dK kvs)):DGet H a (kV k) (valV kvs k):=.inl ⟨kvs,k,.inl e,rfl,rfl⟩
theorem DPut.k {H:Hp}{a:Addr}{kvs:List (Key × V)}{k:Key}{v:V}(e:H a=some (.dK kvs)) (hl:kvs.length<sizeLine):DPut H a (kV k) v (upd H a (.dK (putK kvs k v))):=.inl ⟨kvs,k,e,rfl,hl,rfl⟩
section
variable {X:Cx}{pins:List (Addr × Obj)}{σ:St}{H:Hp}{s:Shared}{a:Addr}{y v:V}{u r:Value}{o:Option V}{A:Around}{E:Value->Shared->Prop}
theorem Inv.big (I:Inv X pins σ H s):sysModules<s.heap.objs.size:=by
 have h:mainGlobals<s.heap.objs.size:=(I.mod.glob.keeps I.bk).lt;exact Nat.lt_trans (by decide) h
theorem Zno {Q:Value->Shared->Prop}(hu:A.units+1<cLine) (I:Inv X pins σ H s) (g:DGet H a y (some v)) (ry:RelV y u) (h:∀w' s',Inv X pins σ H s' -> RelV v w' -> Q w' s') :
  wpAny (model X.prog X.w) A (getItem (.ref a) u) Q E s:=by
 rcases g with ⟨kvs,k,e,ey,l⟩|⟨kvs,k,b,e,ey,eb,l⟩
 ·subst ey
  obtain⟨z,hd,vs,rel,dd⟩:=Zn0 I.hok e;obtain⟨w',hw,rw'⟩:=RelO.some_of (v:=v) (o:=valueAt vs k) (by rw[l];exact rel.val k);exact wpAny_getItem_of (Zp0 ry) dd.mapOf hw (h w' _ (I.tok _) rw')
 ·subst ey
  cases (show u=Value.ref b from ry);obtain⟨z,hd,xs,rel,dd⟩:=Zq5 I.hok e;obtain⟨w',hw,rw'⟩:=RelO.some_of (v:=v) (o:=(atKey xs k).map (·.2)) (by rw[l];exact rel.val k);obtain⟨p,hp,hp2⟩:=Option.map_eq_some_iff.mp hw;refine wpAny_getItem_heap (tupleKind_room_in1 hu) (Zld I.hok eb) dd hp ?_;rw[hp2];exact h w' _ (I.tok _) rw'
theorem Zue {Q:Value->Shared->Prop}(hu:A.units+1<cLine) (I:Inv X pins σ H s) (g:DGet H a y o) (ry:RelV y u) (h:∀s',Inv X pins σ H s' -> Q (.bool (!o.isSome)) s') :
  wpAny (model X.prog X.w) A (compareOp .NotIn u (.ref a)) Q E s:=by
 rcases g with ⟨kvs,k,e,ey,l⟩|⟨kvs,k,b,e,ey,eb,l⟩
 ·subst ey
  obtain⟨z,hd,vs,rel,dd⟩:=Zn0 I.hok e;refine wpAny_notIn_of (Zp0 ry) hd dd.mapOf ?_;rw[<- (rel.val k).isSome_eq,<- l];exact h _ (I.tok _)
 ·subst ey
  cases (show u=Value.ref b from ry);obtain⟨z,hd,xs,rel,dd⟩:=Zq5 I.hok e;refine wpAny_notIn_heap (tupleKind_room_in1 hu) (Zld I.hok eb) hd dd ?_;have q:=(rel.val k).isSome_eq;rw[Option.isSome_map]at q;rw[<- q,<- l];exact h _ (I.tok _)
theorem Zif {h':Heap}{t':Nat}{ob:HO}(I:Inv X pins σ H s) (mu:Mut (H a)) (hs:Heap.SameBut a s.heap h') (he:∃q,h'.get? a=some q) (new:ObjOk X.prog X.w (upd H a ob) h' a ob) :
  Inv X pins σ (upd H a ob) { s with heap:=h',toks:=t' }:=
 I.write (x:=a) (e:=a) mu (.inl rfl) (λb q hb z=>(hs.2 b hb).trans z) he new
theorem Zwo {P:Program}{w:World}{H':Hp}{h':Heap}{kvs:List (Key × V)}{vs:List (Key × Value)}(z:kvs.length<=sizeLine) (hd:(a == sysModules)=false) (rel:KV kvs vs) (dd:h'.DictOf (mixKind P w) a vs) :
  ObjOk P w H' h' a (.dK kvs):=⟨z,hd,vs,rel,dd⟩
theorem Zm6 {H':Hp}{Q:Unit->Shared->Prop}(hu:A.units+1<cLine) (I:Inv X pins σ H s) (g:DPut H a y v H') (ry:RelV y u) (rv:RelV v r) (h:∀s',Inv X pins σ H' s' -> Q () s') :
  wpAny (model X.prog X.w) A (setItem (.ref a) u r) Q E s:=by
 rcases g with ⟨kvs,k,e,ey,l,eH⟩|⟨kvs,k,b,e,ey,eb,l,eH⟩
 ·subst ey eH
  obtain⟨z,hd,vs,rel,dd⟩:=Zxh I.hok e;have hz:vs.length<=sizeLine:=by rw[<- rel.length];exact z
  have hl:(putK kvs k v).length<=sizeLine:=by have:=Zgp kvs k v;omega
  refine wpAny_setItem_pairs (hsz:=hz) (Zp0 ry) dd λh' dd' hs=>h _ ?_;have he:∃q,h'.get? a=some q:=let ⟨q,_,_,hq,_⟩:=dd'; ⟨q,hq⟩
  exact Zif I (by rw[e];exact True.intro) hs he (Zwo hl hd (rel.put k rv) dd')
 ·subst ey eH
  cases (show u=Value.ref b from ry);obtain⟨z,hd,xs,rel,dd⟩:=Zxd I.hok e;have hz:xs.length<=sizeLine:=by rw[<- Paired.length rel];exact z
  have hl:(putK kvs k v).length<=sizeLine:=by have:=Zgp kvs k v;omega
  refine wpAny_setItem_heap (hsz:=hz) (tupleKind_room_in1 hu) (Zld I.hok eb) dd λh' dd' hs=>h _ ?_;obtain⟨q,es,ep,hq,h2,h3,h4,_,h5⟩:=dd';refine Zif I (by rw[e];exact True.intro) hs ⟨q,hq⟩ ⟨hl,hd,_,(rel.put k eb rv).keeps λc ys ec=>?_,q,es,ep,hq,h2,h3,h4,h5⟩;rw[Zap (Zxg ec e (λz=>nomatch z))];exact ec
end
section
variable {X:Cx}{pins:List (Addr × Obj)}{σ:St}{H:Hp}{s:Shared}{a:Addr}{kvs:List (Key × V)}{k:Key}{u:Value}{A:Around}{E:Value->Shared->Prop}
theorem Zxf {Q:Value->Shared->Prop}(I:Inv X pins σ H s) (e:Rd H a (.dK kvs)) (h:∀t s',Inv X pins σ H s' -> Q (.int kvs.length t) s'):wpAny (model X.prog X.w) A (call (.builtin "len") [.ref a]) Q E s:=by
 obtain⟨z,hd,vs,rel,dd⟩:=Zn0 I.hok e;refine call_len_dict hd dd (by rw[<- rel.length];rw[sizeLine_eq]at z;omega) ?_;rw[<- rel.length];exact h _ _ (I.tok _)
end
theorem Zkf {X:Cx}{pins:List (Addr × Obj)}{σ:St}{H:Hp}{s:Shared}{a:Addr}{y:V}{o:Option V}(I:Inv X pins σ H s) (g:DGet H a y o):s.TypeIs (.ref a) "dict":=by
 rcases g with ⟨kvs,k,e,_,_⟩|⟨kvs,k,b,e,_,_,_⟩
 ·obtain⟨_,_,vs,_,dd⟩:=Zn0 I.hok e
  exact dd.typeIs
 ·obtain⟨_,_,xs,_,dd⟩:=Zq5 I.hok e
  exact dd.typeIs
theorem Zqr {P:Program}{w:World}{H:Hp}(h:Heap) (hb:sysModules<h.objs.size):ObjOk P w H (h.push { cls:=.type "dict",data:=.dict #[] }) h.objs.size (.dK []):=
 ⟨Wbl _,beq_eq_false_iff_ne.mpr (Ne.symm (Wav hb)),[],.nil,Heap.DictOf.new h⟩
def tDNewK:TE:=λ_ H Q=>∀p,H p=none->Q (.ref p) (upd H p (.dK []))
section
variable {X:Cx}{pos:Pos}
theorem Zlq:PE X (.Dict [] [] pos) tDNewK:=λpins s σ H Q I h=>
 wpAny_Dict_empty ⟨.ref s.heap.objs.size,_,I.laid (a:=s.heap.objs.size) (o:=.dK []) (t':=s.toks) (λ_ _ q=>Wac _ q) (Wah _) (Zqr s.heap I.big),rfl,h _ (I.hok.fresh (Wah _))⟩
end
section
variable {X:Cx}{o e f:Expr}{apos cpos:Pos}{td ty tx:TE}
end
section
variable {X:Cx}{pins:List (Addr × Obj)}{σ:St}{H:Hp}{s:Shared}{a:Addr}{y:V}{u:Value}{A:Around}{E:Value->Shared->Prop}
end
end L2
namespace L2
open PySem PySem.Spec PyProof.Rows
section
variable {X:Cx}
theorem Zpt:CallR X (.builtin "len") (λxs H Q=>∃a kvs,xs=[V.ref a]/\H a=some (.dK kvs)/\Q (.int kvs.length) H):=by
 intro pins s σ H xs us Q I r h;obtain⟨a,kvs,rfl,ha,q⟩:=h;obtain⟨u,rfl,ru⟩:=vals1 r;cases ru;exact Zxf I (.inl ha) λt s' I'=>⟨.int kvs.length,H,I',⟨t,rfl⟩,q⟩
end
def clOf (env:Env):List (Str × NameKind)->List (Str × Addr)->List (Str × Addr)
 |[],cs=>cs
 | (n,k)::r,cs=>if k == .free then (match env.cells.lookup n with
     |some a=>clOf env r ((n,a)::cs)
     |none=>clOf env r cs) else clOf env r cs
theorem Zft {env:Env}:∀(names:List (Str × NameKind)) (cs:List (Str × Addr)),(∀n,(n,NameKind.free)∈names->∃a,env.cells.lookup n=some a) →
  (forIn names cs λ(x:Str × NameKind) (cs:List (Str × Addr))=>if (x.2 == .free)=true then (do let a ← cellOf env x.1;pure (ForInStep.yield ((x.1,a)::cs))) else pure (ForInStep.yield cs):Sem (List (Str × Addr)))=pure (clOf env names cs)
 |[],cs,_=>rfl
 | (n,k)::r,cs,h=>by
  rw[List.forIn_cons];have hr:∀m,(m,NameKind.free)∈r->∃a,env.cells.lookup m=some a:=λm hm=>h m (Was _ hm);cases hk:k == NameKind.free with
  |false=>
   have e:clOf env ((n,k)::r) cs=clOf env r cs:=by simp[clOf,hk]
   rw[e,<- Zft r cs hr];simp only[hk,Wao,if_false];rfl
  |true=>
   have hk':k=.free:=by simpa using hk
   subst hk';obtain⟨a,ha⟩:=h n Wa4;have e:clOf env ((n,.free)::r) cs=clOf env r ((n,a)::cs):=by simp[clOf,ha]
   have ec:cellOf env n=pure a:=by simp[cellOf,ha]
   rw[e,<- Zft r ((n,a)::cs) hr];simp only[hk,if_true,ec];rfl
theorem Zcr {env:Env}{scope:Scope}(h:∀n,(n,NameKind.free)∈scope.names->∃a,env.cells.lookup n=some a):closureFor scope env=pure (clOf env scope.names []):=by
 rw[<- Zft scope.names [] h];simp only[closureFor];exact Eq.trans (bind_pure _) rfl
theorem Zbf {env:Env}:∀(names:List (Str × NameKind)) (cs:List (Str × Addr)) {x:Str}{c:Addr},(∀y d,cs.lookup y=some d->env.cells.lookup y=some d)->(clOf env names cs).lookup x=some c->env.cells.lookup x=some c
 |[],cs,x,c,h,e=>h x c e
 | (n,k)::r,cs,x,c,h,e=>by
  unfold clOf at e;split at e
  ·split at e
   ·rename_i a ha
    refine Zbf r ((n,a)::cs) (λy d q=>?_) e;rw[Wb4]at q;split at q
    ·rename_i hy
     have hy':y=n:=by simpa using hy
     cases q;rw[hy'];exact ha
    ·exact h y d q
   ·exact Zbf r cs h e
  ·exact Zbf r cs h e
theorem Zeh {env:Env}:∀(names:List (Str × NameKind)) (cs:List (Str × Addr)) {x:Str},(∃c,cs.lookup x=some c)->∃c,(clOf env names cs).lookup x=some c
 |[],cs,x,h=>h
 | (n,k)::r,cs,x,h=>by
  have h2:∀a,∃c,((n,a)::cs).lookup x=some c:=λa=>by
   rw[Wb4];split
   ·exact⟨_,rfl⟩
   ·exact h
  unfold clOf;split
  ·split
   ·exact Zeh r _ (h2 _)
   ·exact Zeh r cs h
  ·exact Zeh r cs h
theorem Zdd {env:Env}:∀(names:List (Str × NameKind)) (cs:List (Str × Addr)) {x:Str},(x,NameKind.free)∈names->(∃a,env.cells.lookup x=some a)->∃c,(clOf env names cs).lookup x=some c
 |[],_,_,h,_=>by simp at h
 | (n,k)::r,cs,x,h,⟨a,ha⟩=>by
  rcases Wal.mp h with e|hm
  ·have e1:n=x:=(congrArg Prod.fst e).symm
   have e2:k=.free:=(congrArg Prod.snd e).symm;subst e1;subst e2;have e:clOf env ((n,.free)::r) cs=clOf env r ((n,a)::cs):=by simp[clOf,ha]
   rw[e];exact Zeh r _ ⟨a,by simp⟩
  ·unfold clOf
   split
   ·split
    ·exact Zdd r _ hm ⟨a,ha⟩
    ·exact Zdd r _ hm ⟨a,ha⟩
   ·exact Zdd r _ hm ⟨a,ha⟩
def relab (osc scope:Scope):Scope:=
 { scope with names:=scope.names.map λ(n,k)=>if (k == .free && osc.kind == .function && osc.names.lookup n == some .cell) then (n,.cell) else (n,k) }
theorem Zi1 {osc scope:Scope}{x:Str}{k:NameKind}(hk:k=.cell\/k=.free) (hc:∀y∈scope.names,y.2≠.cell) (h:(relab osc scope).names.lookup x=some k):(x,NameKind.free)∈scope.names:=by
 have hm:=PySem.mem_of_lookup h;obtain⟨⟨n,j⟩,hy,e⟩:=Way.mp hm;dsimp only at e;split at e
 ·rename_i hj
  have e1:n=x:=congrArg Prod.fst e;have hj':j=.free:=by
   simp only[Wbg,beq_iff_eq]at hj;exact hj.1.1
  rw[<- e1,<- hj'];exact hy
 ·have e1:n=x:=congrArg Prod.fst e
  have e2:j=k:=congrArg Prod.snd e;rcases hk with z|z
  ·exact absurd (show ((n,j):Str × NameKind).2=.cell from e2.trans z) (hc _ hy)
  ·rw[<- e1,<- z,<- e2];exact hy
theorem Zfa {osc:Scope}{x:Str}:∀{names:List (Str × NameKind)},names.lookup x=some .free →
  (names.map λ(n,k)=>if (k == NameKind.free && osc.kind == .function && osc.names.lookup n == some .cell) then (n,NameKind.cell) else (n,k)).lookup x=some .cell ∨
  (names.map λ(n,k)=>if (k == NameKind.free && osc.kind == .function && osc.names.lookup n == some .cell) then (n,NameKind.cell) else (n,k)).lookup x=some .free
 |[],h=>by simp at h
 | (n,k)::r,h=>by
  have ih:=@Zfa osc x r;rw[Wbe];cases hx:x == n with
  |true=>
   simp only[Wb4,hx]at h;cases h;dsimp only;split
   ·left;simp[Wb4,hx]
   ·right;simp[Wb4,hx]
  |false=>
   simp only[Wb4,hx]at h;dsimp only;split
   ·simpa only[Wb4,hx] using ih h
   ·simpa only[Wb4,hx] using ih h
structure CompSc (osc:Scope) (oN:List Str) (scope:Scope) (fvs:List Str) (sel:List Nat):Prop where
 kind:scope.kind=.function
 nocell:∀y∈scope.names,y.2≠.cell
 names:∀y∈scope.names,y.2=.local->scope.names.lookup y.1=some .local
 free:∀y∈scope.names,y.2=.free->osc.names.lookup y.1=some .cell\/osc.names.lookup y.1=some .free
 len:fvs.length=sel.length
 fv:∀p∈fvs.zip sel,oN[p.2]?=some p.1/\scope.names.lookup p.1=some .free
def compCx (X:Cx) (scope:Scope) (N:List Str) (C:Addr) (s:Shared) (H:Hp) (ex:List Addr) (pn:List (Addr × Obj)):Cx where
 prog:=X.prog
 w:=X.w
 K:=X.K
 mg:=X.mg
 base:=X.base
 A:=X.A
 N:=N
 s₀:=s
 H₀:=H
 env:=compEnvC scope (clOf X.env scope.names []) C X.env
 outer:=X.stack
 stack:=X.stack
 ex:=ex
 fn:=λ_=>false
 calm:=X.calm
 pn:=pn
 xe:=λ_ _=>False
def compSt (n:Nat) (sel:List Nat) (σ:St):St:=Wag n none++sel.map λi=>(σ[i]?).getD none
section
variable {X:Cx}{pins:List (Addr × Obj)}{σ:St}{H:Hp}{s:Shared}{fp:List Addr}{scope:Scope}{tgs fvs:List Str}{sel:List Nat}
theorem Ze7 (S:CompSc X.env.scope X.N scope fvs sel) (ok:X.Ok):∀n,(n,NameKind.free)∈scope.names->∃a,X.env.cells.lookup n=some a:=λn hn=>
 ok.has n (S.free _ hn rfl)
theorem Ztf (S:CompSc X.env.scope X.N scope fvs sel) (N:List Str) (I:Inv X pins σ H s) (hf:∀b∈fp,FpOk X pins H b) (hlt:∀b∈fp,b<s.heap.objs.size):(compCx X scope N s.heap.objs.size s H fp (X.pn++pins)).Ok where
 mod:=I.ok.mod
 kind:=S.kind
 glob:=I.ok.glob
 blt:=I.ok.blt
 above:=Wah _
 inj:=λx y c h1 h2=>I.ok.inj x y c (Zbf _ _ (λ_ _ z=>by simp at z) h1) (Zbf _ _ (λ_ _ z=>by simp at z) h2)
 has:=λx hx=>by
  have hm:(x,NameKind.free)∈scope.names:=by
   rcases hx with z|z
   ·exact Zi1 (osc:=X.env.scope) (.inl rfl) S.nocell z
   ·exact Zi1 (osc:=X.env.scope) (.inr rfl) S.nocell z
  exact Zdd scope.names [] hm (Ze7 S I.ok x hm)
 cab:=λx c h _=>by cases h
 hd:=I.ok.hd
 frames:=I.ok.frames
 stk:=.inl rfl
 exf:=λb hb=>⟨Wav (hlt b hb),λx c e=>(hf b hb).2.2.2.2.1 x c (Zbf _ _ (λ_ _ z=>by simp at z) e)⟩
 bs:=I.bs
 bsz:=Wbx I.ok.bsz I.sz
 noex:=λb o e hb=>by
  rcases(hf b hb).2.2.2.1 with z|z
  ·exact I.ok.noex b o e z
  ·exact absurd (Wbf (War e) (Wbx I.ok.bsz z)) (Wcw _)
 exfs:=λb hb z=>by
  rcases Wal.mp (I.stkSub b z) with e|z
  ·exact(hf b hb).2.1 e
  ·exact(hf b hb).2.2.1 z
 funs:=I.stack
 frf:=I.stkFree
theorem Zq9 (S:CompSc X.env.scope X.N scope fvs sel) (I:Inv X pins σ H s) (hf:∀b∈fp,FpOk X pins H b) (hlt:∀b∈fp,b<s.heap.objs.size) {h':Heap}{tk:Nat}{m:Str->Option Value}
  (hns:h'.Ns s.heap.objs.size m) (old:∀b o,s.heap.get? b=some o->h'.get? b=some o) :
  Inv (compCx X scope (tgs++fvs) s.heap.objs.size s H fp (X.pn++pins)) [] (compSt tgs.length sel σ) H { s with heap:=h',toks:=tk } where
 ok:=Ztf S _ I hf hlt
 os:=rfl
 bare:=I.bare
 base:=Un.kept old
 loc:=by
  refine⟨m,hns,λi x v h1 h2 h3=>?_⟩;have h1:(tgs++fvs)[i]?=some x:=h1;unfold compSt at h2;by_cases hi:i<tgs.length
  ·rw[Wa8 (by simpa using hi),Wcb,if_pos hi]at h2
   cases h2
  ·have hi':tgs.length<=i:=Nat.le_of_not_lt hi
   rw[Wa0 (by simpa using hi'),Wad,Waz]at h2;rw[Wa0 hi']at h1;cases hj:sel[i-tgs.length]? with
   |none=>rw[hj]at h2;cases h2
   |some j=>
    rw[hj]at h2;have h2:(σ[j]?).getD none=some v:=by simpa using h2
    have hz:(x,j)∈fvs.zip sel:=by
     refine Wat (i:=i-tgs.length) ?_;rw[Wbj];exact⟨h1,hj⟩
    obtain⟨hN,hfr⟩:=S.fv _ hz;have hσ:σ[j]?=some (some v):=by
     cases q:σ[j]? with
     |none=>rw[q]at h2;cases h2
     |some o=>rw[q]at h2;exact congrArg some h2
    have hko:X.env.scope.names.lookup x=some .cell\/X.env.scope.names.lookup x=some .free:=S.free (x,.free) (PySem.mem_of_lookup hfr) rfl;obtain⟨m0,hn0,hl0⟩:=I.loc;obtain⟨u,r,l⟩:=hl0 j x v hN hσ (.inr hko);refine⟨u,r,.inr ⟨Zfa hfr,?_⟩⟩;rcases l with ⟨hk,_⟩|⟨_,c,hc,hcell⟩
    ·have hk:X.env.scope.names.lookup x=some .local:=hk
     rcases hko with z|z <;> (rw[hk]at z;cases z)
    ·obtain⟨c',hc'⟩:=Zdd scope.names [] (PySem.mem_of_lookup hfr) ⟨c,hc⟩
     have e:=Zbf scope.names [] (λ_ _ z=>by simp at z) hc';rw[hc]at e;cases e;obtain⟨o,ho,hd⟩:=hcell;exact⟨c,hc',o,old _ _ ho,hd⟩
 cell:=λx c e=>by
  obtain⟨v,o,ho,hd⟩:=I.cell x c (Zbf _ _ (λ_ _ z=>by simp at z) e);exact⟨v,o,old _ _ ho,hd⟩
 free:=I.hok.fresh (Wah _)
 freeC:=λx c e=>I.freeC x c (Zbf _ _ (λ_ _ z=>by simp at z) e)
 pin:=λp hp=>by
  have hp:p∈(X.pn++pins)++[]:=hp;rw[Wbb]at hp;obtain⟨e,n,ne,nf,d⟩:=I.pin p hp;refine⟨old _ _ e,n,Wav (War e),λz=>?_,d⟩;rcases Wal.mp (I.stkSub p.1 z) with q|q
  ·exact ne q
  ·exact nf q
 hok:=I.hok.kept old
 len:=by
  unfold compSt;show _=(tgs++fvs).length;rw[Waq,Waq,Waz,Wab,S.len]
theorem Zne {N:List Str}{σ':St}{H':Hp}{s':Shared}{h':Heap}(I:Inv X pins σ H s) (hf:∀b∈fp,FpOk X pins H b)
  (J:Inv (compCx X scope N s.heap.objs.size s H fp (X.pn++pins)) [] σ' H' s') (sb:Heap.SameBut s.heap.objs.size s'.heap h'):Inv X pins σ H' { s' with heap:=h' }:=by
 have B:Un (frs X.stack) fp H H' s.heap s'.heap:=J.base;have ne:∀b o,s.heap.get? b=some o->b≠s.heap.objs.size:=λb o e=>Wav (War e);have fr:H' s.heap.objs.size=none:=J.free;refine I.call' (s':={ s' with heap:=h' }) (ch:=fp) J.os ⟨λb o e n h1 h2=>?_,λb o e n h1 h2=>?_,B.free,λb o e h2=>?_,B.tups,B.frzs,B.tbls⟩ (λb ob e=>?_) J.bare λb hb=>?_
 ·exact(sb.2 b (ne b o e)).trans (B.keep b o e n h1 h2)
 ·obtain⟨sl,q⟩:=B.slot b o e n h1 h2
  exact⟨sl,(sb.2 b (ne b o e)).trans q⟩
 ·obtain⟨o',q⟩:=B.there b o e h2
  exact⟨o',(sb.2 b (ne b o e)).trans q⟩
 ·refine(J.hok b ob e).stay (λc w' hc q=>(sb.2 c ?_).trans q) (λ_ q=>q) λ_ _ q=>q
  intro z;rcases hc with hc|hc
  ·rw[<- hc,z,fr]at e;cases e
  ·rw[z,fr]at hc;cases hc
 ·exact⟨(hf b hb).2.2.2.1,(hf b hb).2.1,(hf b hb).2.2.2.2.1,(hf b hb).2.2.2.2.2⟩
end
def PTs (X:Cx) (ifs:List Expr) (t:TT):Prop:=
 ∀(pins:List (Addr × Obj)) (s:Shared) (σ:St) (H:Hp) (Q:Bool->Hp->Prop),Inv X pins σ H s->t σ H Q →
  wpAny (model X.prog X.w) X.A (forIn ifs true λc r=>if r=true then do let ok ← isTrue c X.env (eval c X.env);pure (ForInStep.yield ok) else pure (ForInStep.yield r)) (TP X pins σ Q) X.xe s
def tTrue:TT:=λ_ H Q=>Q true H
theorem Zb3 {X:Cx}:PTs X [] tTrue:=λpins s σ H Q I h=>wpAny_tests_nil ⟨H,I,h⟩
theorem Zf8 {X:Cx}{c:Expr}{t:TT}(h:PT X c t):PTs X [c] t:=λpins s σ H Q I hq=>wpAny_tests_one (h pins s σ H Q I hq)
def tComp (n:Nat) (sel:List Nat) (wi:TI) (g:TG) (tc:TT) (te:TE):TE:=λσ H Q=>wi σ H λJ H1=>∀acc,H1 acc=none->∃W:Nat->Nat->St->Hp->Prop,
 (∃m,W 0 m (compSt n sel σ) (upd H1 acc (.lst [])))/\∀i m σ' H',W i m σ' H' →
  (J.stop i H' /\ Q (.ref acc) H')\/(J.go i H' /\ ∃N:St->Hp->Prop,(∀σ2 H2,N σ2 H2->∃m',m'<m/\W (i+1) m' σ2 H2) ∧
   ∀x H2,J.yld i H' x H2->g x σ' H2 λσ2 H3=>tc σ2 H3 λb H4=>if b=true then te σ2 H4 λy H5=>∃ys,H5 acc=some (.lst ys)/\ys.length<sizeLine/\N σ2 (upd H5 acc (.lst (ys++[y]))) else N σ2 H4)
section
variable {X:Cx}
theorem Zi2 {elt tg iter:Expr}{ifs:List Expr}{scope:Scope}{pos:Pos}{tgs fvs:List Str}{sel:List Nat}{g:TG}{tc:TT}{te:TE}(S:CompSc X.env.scope X.N scope fvs sel) {Cm:Cx->Prop}(hc:∀C s H ex pn,Cm (compCx X scope (tgs++fvs) C s H ex pn))
  (hg:∀C s H ex pn,PG (compCx X scope (tgs++fvs) C s H ex pn) tg g) (ht:∀C s H ex pn,PTs (compCx X scope (tgs++fvs) C s H ex pn) ifs tc) (he:∀C s H ex pn,PE (compCx X scope (tgs++fvs) C s H ex pn) elt te)
  {pins:List (Addr × Obj)}{σ:St}{s:Shared}{itv:Value}{Q:VK}{E:Value->Shared->Prop}{RR:Value->Addr->Result->Shared->Prop}
  (h2:PIEG Cm X pins σ tg (λJ H1=>∀acc,H1 acc=none->∃W:Nat->Nat->St->Hp->Prop,
   (∃m,W 0 m (compSt tgs.length sel σ) (upd H1 acc (.lst [])))/\∀i m σ' H',W i m σ' H' →
   (J.stop i H' /\ Q (.ref acc) H')\/(J.go i H' /\ ∃N:St->Hp->Prop,(∀σ2 H2,N σ2 H2->∃m',m'<m/\W (i+1) m' σ2 H2) ∧
   ∀x H2,J.yld i H' x H2->g x σ' H2 λσ2 H3=>tc σ2 H3 λb H4=>if b=true then te σ2 H4 λy H5=>∃ys,H5 acc=some (.lst ys)/\ys.length<sizeLine/\N σ2 (upd H5 acc (.lst (ys++[y]))) else N σ2 H4)) itv s)
  (fin:∀(s':Shared) (C acc:Addr) (H':Hp) (m:Str->Option Value),s'.heap.Ns C m->FpOk X pins H' C->(∀h',Heap.SameBut C s'.heap h' -> Inv X pins σ H' { s' with heap:=h' })->Q (.ref acc) H' -> RR (.ref acc) C (.ok .next) s') :
  wpAny (model X.prog X.w) X.A (newList []) (λacc s3=>wpAny (model X.prog X.w) X.A (newFunctionEnv scope X.env.globals (clOf X.env scope.names []) [] X.env.qual none .none (some X.env)) (λcenv s4=>
   codeAny (model X.prog X.w) X.A (.compStart (.ListComp elt [⟨tg,iter,ifs,0⟩] scope pos) 0 itv acc { cenv with scope:=relabel scope X.env }) (RR acc cenv.locals) s4) E s3) E s:=by
 obtain⟨it,fp,tn,J,H1,e,I,T,st,f2,h2⟩:=h2;subst e;have hlt:∀b∈fp,b<s.heap.objs.size:=λb hb=>let ⟨o,ho,_⟩:=T.obj 0 _ st b hb; War ho
 refine wpAny_newObj_type (wpAny_newFunctionEnv S.nocell (by intro y hy;simp at hy) (λh1 hns hsb=>?_) S.kind);dsimp only at hns hsb ⊢;have I3:Inv X pins σ (upd H1 s.heap.objs.size (.lst [])) { s with heap:=s.heap.push { cls:=.type "list",data:=.seq ([]:List Value).toArray },toks:=s.toks }:=I.lnew (its:=[]) .nil (by decide);have hacc:H1 s.heap.objs.size=none:=I.hok.fresh (Wah _);obtain⟨W,⟨m0,w0⟩,turn⟩:=h2 s.heap.objs.size hacc;generalize hs3:({ s with heap:=s.heap.push { cls:=.type "list",data:=.seq ([]:List Value).toArray },toks:=s.toks }:Shared)=s3 at I3;have hh3:s3.heap=s.heap.push { cls:=.type "list",data:=.seq ([]:List Value).toArray }:=by rw[<- hs3]
 have old3:∀b o,s.heap.get? b=some o->s3.heap.get? b=some o:=λb o q=>by rw[hh3];exact Wac _ q
 have hf3:∀b∈fp,FpOk X pins (upd H1 s.heap.objs.size (.lst [])) b:=λb hb=>⟨by rw[Zap (Wav (hlt b hb))];exact(f2 b hb).1,(f2 b hb).2⟩;have hlt3:∀b∈fp,b<s3.heap.objs.size:=λb hb=>by rw[hh3,Wcq];exact Wbn (hlt b hb)
 have tn3:tn 0 s3.heap:=T.keep 0 _ _ st λb hb o q=>old3 b o q;have old4:∀b o,s3.heap.get? b=some o->h1.get? b=some o:=λb o q=>by
  have hb:b≠s3.heap.objs.size:=Wav (War q);rw[hh3]at hb q;exact(hsb.2 b hb).trans (Wac _ q)
 have tn4:tn 0 h1:=T.keep 0 _ _ tn3 λb hb o q=>old4 b o q;have hC:(s.heap.push { cls:=.type "list",data:=.seq ([]:List Value).toArray }).objs.size=s3.heap.objs.size:=by rw[hh3]
 rw[hC]at hns;have J0:=Zq9 (tgs:=tgs) (tk:=s.toks+([]:List (Str × Value)).length) S I3 hf3 hlt3 hns old4;have es:({ s3 with heap:=h1,toks:=s.toks+([]:List (Str × Value)).length }:Shared) = { s with heap:=h1,toks:=s.toks+([]:List (Str × Value)).length }:=by rw[<- hs3]
 rw[es]at J0;generalize hY:compCx X scope (tgs++fvs) s3.heap.objs.size s3 (upd H1 s.heap.objs.size (.lst [])) fp (X.pn++pins)=Y at J0;have hYp:Y.prog=X.prog:=by rw[<- hY];rfl
 have hYw:Y.w=X.w:=by rw[<- hY];rfl
 have hYK:Y.K=X.K:=by rw[<- hY];rfl
 have hYA:Y.A=X.A:=by rw[<- hY];rfl
 have hYc:Cm Y:=by rw[<- hY];exact hc _ _ _ _ _
 have hYx:Y.xe=λ_ _=>False:=by rw[<- hY];rfl
 have hYe:Y.env=compEnvC scope (clOf X.env scope.names []) s3.heap.objs.size X.env:=by rw[<- hY];rfl
 have stat:∀{H':Hp},(∀b∈fp,H' b=none)->∀b∈fp,FpOk Y [] H' b:=λhn b hb=>by
  rw[<- hY];refine⟨hn b hb,Wav (hlt3 b hb),λz=>?_,.inl hb,λx c e=>?_,λp hp z=>?_⟩
  ·rcases Wal.mp (I3.stkSub b z) with q|q
   ·exact(hf3 b hb).2.1 q
   ·exact(hf3 b hb).2.2.1 q
  ·exact(hf3 b hb).2.2.2.2.1 x c (Zbf _ _ (λ_ _ z=>by simp at z) e)
  ·have hp:p∈(X.pn++pins)++[]:=hp
   rw[Wbb]at hp;exact(hf3 b hb).2.2.2.2.2 p hp z
 have loop:codeAny (model X.prog X.w) X.A (.compLoop (.ListComp elt [⟨tg,iter,ifs,0⟩] scope pos) 0 (.ref it) (.ref s.heap.objs.size) Y.env) (RR (.ref s.heap.objs.size) s3.heap.objs.size)
   { s with heap:=h1,toks:=s.toks+([]:List (Str × Value)).length }:=by
  refine codeAny_loop rfl (λn s'=>∃i σ' H',Inv Y [] σ' H' s' /\ tn i s'.heap/\(∀b∈fp,H' b=none)/\W i n σ' H') ?_ m0 ⟨0,_,_,J0,tn4,λb hb=>(hf3 b hb).1,w0⟩;rintro n s5 ⟨i,σ5,H5,I5,st5,fr5,w5⟩;show wpAny _ X.A ((compTurn (.ListComp elt [⟨tg,iter,ifs,0⟩] scope pos) 0 (.ref it) (.ref s.heap.objs.size) Y.env).onRaise (λx=>do noteFrame x Y.env;theTreesLotGoes x)) _ _ s5;refine wpAny_noted (wpAny_mono (E:=λ_ _=>False) ?_ (λ_ _ q=>q) λ_ _ z=>z.elim);rw[compTurn_list];refine wpAny_bind (wpAny_standAt (wpAny_bind ?_));rcases turn i n σ5 H5 w5 with ⟨stop,qn⟩|⟨go,N,hN,step⟩
  ·have D:=T.done Y hYp hYw hYK hYc i [] s5 σ5 H5 (λ_ _=>False) I5 (stat fr5) st5 stop
   rw[hYA]at D;refine thn D λr s6 ⟨hr,I6⟩=>?_;subst hr;refine wpAny_pure ?_;obtain⟨m6,hn6,_⟩:=I6.loc;rw[hYe]at hn6;refine fin s6 _ _ H5 m6 hn6 (I3.fpOk (Wah _) (by have z:=I6.free;rw[hYe]at z;exact z)) (λh' sb=>?_) qn;have I6':Inv (compCx X scope (tgs++fvs) s3.heap.objs.size s3 (upd H1 s.heap.objs.size (.lst [])) fp (X.pn++pins)) [] σ5 H5 s6:=by rw[hY];exact I6
   exact Zne I3 hf3 I6' sb
  ·have D:=T.item Y hYp hYw hYK hYc i [] s5 σ5 H5 (λ_ _=>False) I5 (stat fr5) st5 go
   rw[hYA]at D;refine thn D λr s6 ⟨u,hr,h6⟩=>?_;subst hr;refine wpAny_bind (thn h6 λ_ s7 ⟨x,H7,I7,r7,y7,st7,fr7⟩=>?_);have I7':=I7.pinned (stat fr7) (T.obj _ _ st7);have G:=hg s3.heap.objs.size s3 (upd H1 s.heap.objs.size (.lst [])) fp (X.pn++pins);have TT:=ht s3.heap.objs.size s3 (upd H1 s.heap.objs.size (.lst [])) fp (X.pn++pins);have EE:=he s3.heap.objs.size s3 (upd H1 s.heap.objs.size (.lst [])) fp (X.pn++pins);rw[hY]at G TT EE;have G1:=G _ s7 σ5 H7 x u _ I7' r7 (step x H7 y7);rw[hYp,hYw,hYA,hYx]at G1;refine wpAny_bind (thn G1 λ_ s8 ⟨σ8,H8,I8,q8⟩=>?_);have T1:=TT _ s8 σ8 H8 _ I8 q8;rw[hYp,hYw,hYA,hYx]at T1;refine wpAny_bind (thn T1 λok s9 ⟨H9,I9,q9⟩=>?_);have again:∀{s':Shared}{σ':St}{H':Hp},Inv Y ([]++pinsAt fp s7.heap) σ' H' s' -> N σ' H' -> ∃m,m<n/\∃i σ' H',Inv Y [] σ' H' s' /\ tn i s'.heap/\(∀b∈fp,H' b=none)/\W i m σ' H':=λ{s' σ' H'} K7 n7=>by
    obtain⟨m',hm,w7⟩:=hN σ' H' n7;refine⟨m',hm,i+1,σ',H',K7.unpinned,T.keep _ _ _ st7 λb hb o e=>(K7.pin (b,o) (Wa9 _ (Wa9 _ (Zci hb e)))).1,λb hb=>?_,w7⟩;obtain⟨o,e,d⟩:=T.obj _ _ st7 b hb;exact(K7.pin (b,o) (Wa9 _ (Wa9 _ (Zci hb e)))).2.1
   cases ok with
   |false=>
    have q9:N σ8 H9:=q9;exact wpAny_pure ⟨by rw[hYe],again I9 q9⟩
   |true=>
    have q9:te σ8 H9 λy H5=>∃ys,H5 s.heap.objs.size=some (.lst ys)/\ys.length<sizeLine/\N σ8 (upd H5 s.heap.objs.size (.lst (ys++[y]))):=q9;have E1:=EE _ s9 σ8 H9 _ I9 q9;rw[hYp,hYw,hYA,hYx]at E1;refine wpAny_bind (wpAny_bind (thn E1 λv sa ⟨y,Ha,Ia,ra,ys,ea,za,na⟩=>?_));have M:=Zb1 (X:=Y) _ sa σ8 Ha (.ref s.heap.objs.size) [y] (.ref s.heap.objs.size) [v] (λ_ H=>N σ8 H) Ia rfl (.cons ra .nil) ⟨_,ys,y,rfl,rfl,ea,za,na⟩;rw[hYp,hYw,hYA,hYx]at M;refine wpAny_bind (thn M λ_ sb ⟨_,Hb,Ib,_,nb⟩=>wpAny_pure (wpAny_pure ⟨by rw[hYe],again Ib nb⟩))
 have hcs:(relabel scope X.env)=(relabel scope X.env):=rfl;have loop':=loop;rw[hYe]at loop';show codeAny (model X.prog X.w) X.A (.compStart (.ListComp elt [⟨tg,iter,ifs,0⟩] scope pos) 0 (.ref it) (.ref s.heap.objs.size) (compEnvC scope (clOf X.env scope.names []) (s.heap.push { cls:=.type "list",data:=.seq ([]:List Value).toArray }).objs.size X.env)) (RR (.ref s.heap.objs.size) (s.heap.push { cls:=.type "list",data:=.seq ([]:List Value).toArray }).objs.size) _;rw[hC];exact codeAny_compStart_list loop' (T.self _ 0 _ _ _ tn4 loop')
theorem Zb8 {elt tg iter:Expr}{ifs:List Expr}{scope:Scope}{pos:Pos}{fvs:List Str}{sel:List Nat}{wi:TI}{g:TG}{tc:TT}{te:TE}(tgs:List Str) (S:CompSc X.env.scope X.N scope fvs sel) (hc:X.calm=true)
  (hi:PI X tg iter wi) (hg:∀C s H ex pn,PG (compCx X scope (tgs++fvs) C s H ex pn) tg g) (ht:∀C s H ex pn,PTs (compCx X scope (tgs++fvs) C s H ex pn) ifs tc) (he:∀C s H ex pn,PE (compCx X scope (tgs++fvs) C s H ex pn) elt te)
  (hs:∀x,foldedSetIterable iter X.env x=pure x:=by intro _;rfl) :
  PE X (.ListComp elt [⟨tg,iter,ifs,0⟩] scope pos) (tComp tgs.length sel wi g tc te):=by
 intro pins s σ H Q I h;rw[eval_ListComp];refine wpAny_comprehension_free (use:=none) rfl hs (Zcr (Ze7 S I.ok)) S.kind S.names (thn (hi pins s σ H _ I h) λv s1 h1=>thn h1 λitv s2 h2=>?_);refine Zi2 (Cm:=λX=>X.calm=true) S (λ_ _ _ _ _=>hc) hg ht he (RR:=λacc C=>compPost (model X.prog X.w) X.A X.xe none (EP X pins σ Q) acc C) (Q:=Q) h2 ?_;intro s' C acc H' m hn _ hI q;exact⟨m,hn,λh' sb=>⟨.ref acc,H',hI h' sb,rfl,q⟩⟩
theorem Zdb {elt tg iter:Expr}{ifs:List Expr}{scope:Scope}{pos spos py:Pos}{fvs:List Str}{sel:List Nat}{wi:TI}{g:TG}{tc:TT}{te:TE}{i:Nat}{y:Str}(tgs:List Str) (S:CompSc X.env.scope X.N scope fvs sel) (hc:X.calm=true)
  (hN:X.N.Nodup) (hiy:X.N[i]?=some y) (hx:Loc X.env.scope y)
  (hi:PI X tg iter wi) (hg:∀C s H ex pn,PG (compCx X scope (tgs++fvs) C s H ex pn) tg g) (ht:∀C s H ex pn,PTs (compCx X scope (tgs++fvs) C s H ex pn) ifs tc) (he:∀C s H ex pn,PE (compCx X scope (tgs++fvs) C s H ex pn) elt te)
  (hs:∀x,foldedSetIterable iter X.env x=pure x:=by intro _;rfl) (hsw:swapsWith (.ListComp elt [⟨tg,iter,ifs,0⟩] scope pos) (some (.Name y py)) spos.line X.env=pure true:=by rfl)
  (hf:X.fn y=true\/X.env.scope.names.lookup y=some .local:=by first|exact .inl rfl|exact .inr rfl|assumption) :
  PS X (.Assign [.Name y py] (.ListComp elt [⟨tg,iter,ifs,0⟩] scope pos) spos) (tAsg (tComp tgs.length sel wi g tc te) (gName i)):=by
 intro pins s σ H D I h;rw[exec_Assign_Name_used _ _ _ _ hsw];refine wpAny_bind (wpAny_standAt (wpAny_bind ?_));show wpAny _ X.A (do let _ ← comprehension (.ListComp elt [⟨tg,iter,ifs,0⟩] scope pos) scope X.env _ (newList []) false (eval iter X.env) (some (assign (.Name y py) X.env))) _ _ s;refine wpAny_bind (wpAny_mono (wpAny_comprehension_free (use:=some (assign (.Name y py) X.env)) (Q:=λ_ s'=>SP X pins D .next s') rfl hs (Zcr (Ze7 S I.ok)) S.kind S.names
  (thn (hi pins s σ H _ I h) λv s1 h1=>thn h1 λitv s2 h2=>?_)) (λ_ s' hq=>wpAny_pure (wpAny_pure hq)) λ_ _ e=>e)
 refine Zi2 (Cm:=λX=>X.calm=true) S (λ_ _ _ _ _=>hc) hg ht he (RR:=λacc C=>compPost (model X.prog X.w) X.A X.xe (some (assign (.Name y py) X.env)) (λ_ s'=>SP X pins D .next s') acc C) (Q:=λv H'=>D.nx (σ.set i (some v)) H') h2 ?_;intro s' C acc H' m hn fp hI q;have I0:Inv X pins σ H' s':=hI s'.heap (.refl ..);show wpAny _ X.A (assign (.Name y py) X.env (.ref acc)) _ _ _;refine wpAny_assign_Name (Ziy (v:=.ref acc) I0 hN hiy hx rfl (λs2 I2 hsb=>?_) hf);obtain⟨a,sb,ha⟩:=hsb;have hCa:C≠a:=by
  rcases ha with z|z
  ·rw[z];exact fp.2.1
  ·exact Ne.symm (fp.2.2.2.2.1 y a z)
 refine⟨m,hn.sameBut sb hCa,λh' sb'=>?_⟩;obtain⟨f0,f1,f2,f3,f4,f5⟩:=fp;exact⟨_,H',I2.turned (t':=s2.toks) (it:=C) (λb o hb e=>(sb'.2 b hb).trans e) f0 f1 f3 f4 f5,q⟩
end
def InsC (a C:Addr) (h:Heap):Prop:=∃ox vs,h.get? a=some ox/\ox.cls=.ref C/\ox.data=.fields vs/\vs[2]?=some .none
inductive D where
 |non|bl (b:Bool)|int (i:Int)|str (x:Str)|ty (n:String)|tup (ds:List D)|lst (ds:List D)|scr (ds:List D)|adr (a:Addr)|dct (ks:List Key) (ds:List D)|exc (a C:Addr)
mutual
inductive Rep (K:W.Frag) (G:Hp):V->D->Prop
 |non:Rep K G .non .non
 |bl (b:Bool):Rep K G (.bl b) (.bl b)
 |int (i:Int):Rep K G (.int i) (.int i)
 |str (x:Str):Rep K G (.str x) (.str x)
 |ty (n:String):Rep K G (.ty n) (.ty n)
 |tup {a:Addr}{vs:List V}{ds:List D}:G a=some (.tup vs)->Reps K G vs ds->Rep K G (.ref a) (.tup ds)
 |lst {a:Addr}{vs:List V}{ds:List D}:G a=some (.lst vs)->Reps K G vs ds->Rep K G (.ref a) (.lst ds)
 |scr {a:Addr}{vs:List V}{ds:List D}:SqL K G a vs->Reps K G vs ds->Rep K G (.ref a) (.scr ds)
 |adr (a:Addr):Rep K G (.ref a) (.adr a)
 |dct {a:Addr}{ks:List Key}{vs:List V}{ds:List D}:G a=some (.dK (ks.zip vs))->ks.length=vs.length->Reps K G vs ds->Rep K G (.ref a) (.dct ks ds)
 |exc {a C:Addr}:G a=some (.ext (InsC a C))->Rep K G (.ref a) (.exc a C)
inductive Reps (K:W.Frag) (G:Hp):List V->List D->Prop
 |nil:Reps K G [] []
 |cons {v:V}{d:D}{vs:List V}{ds:List D}:Rep K G v d->Reps K G vs ds->Reps K G (v::vs) (d::ds)
end
def RepI (K:W.Frag) (G:Hp) (v:V):D->Prop
 |.non=>v=.non
 |.bl b=>v=.bl b
 |.int i=>v=.int i
 |.str x=>v=.str x
 |.ty n=>v=.ty n
 |.tup ds=>∃a vs,v=.ref a/\G a=some (.tup vs)/\Reps K G vs ds
 |.lst ds=>∃a vs,v=.ref a/\G a=some (.lst vs)/\Reps K G vs ds
 |.scr ds=>∃a vs,v=.ref a/\SqL K G a vs/\Reps K G vs ds
 |.adr a=>v=.ref a
 |.dct ks ds=>∃a vs,v=.ref a/\G a=some (.dK (ks.zip vs))/\ks.length=vs.length/\Reps K G vs ds
 |.exc a C=>v=.ref a/\G a=some (.ext (InsC a C))
theorem Rep.inv {K:W.Frag}{G:Hp}{v:V}{d:D}(r:Rep K G v d):RepI K G v d:=by
 cases r with
 |tup h r=>exact⟨_,_,rfl,h,r⟩
 |lst h r=>exact⟨_,_,rfl,h,r⟩
 |scr h r=>exact⟨_,_,rfl,h,r⟩
 |dct h l r=>exact⟨_,_,rfl,h,l,r⟩
 |exc h=>exact⟨rfl,h⟩
 |_=>rfl
def RepsI (K:W.Frag) (G:Hp) (vs:List V):List D->Prop
 |[]=>vs=[]
 |d::ds=>∃v ws,vs=v::ws/\Rep K G v d/\Reps K G ws ds
theorem Reps.inv {K:W.Frag}{G:Hp}{vs:List V}{ds:List D}(r:Reps K G vs ds):RepsI K G vs ds:=by
 cases r with
 |nil=>rfl
 |cons a b=>exact⟨_,_,rfl,a,b⟩
section
variable {K:W.Frag}{G G' H H':Hp}
mutual
theorem Rep.mono (s:Same G G'):∀{v:V}{d:D},Rep K G v d->Rep K G' v d
 |_,_,.non=>.non
 |_,_,.bl b=>.bl b
 |_,_,.int i=>.int i
 |_,_,.str x=>.str x
 |_,_,.ty n=>.ty n
 |_,_,.tup h r=>.tup (s _ _ h) (Reps.mono s r)
 |_,_,.lst h r=>.lst (s _ _ h) (Reps.mono s r)
 |_,_,.scr h r=>.scr (s.seq h) (Reps.mono s r)
 |_,_,.adr a=>.adr a
 |_,_,.dct h l r=>.dct (s _ _ h) l (Reps.mono s r)
 |_,_,.exc h=>.exc (s _ _ h)
theorem Reps.mono (s:Same G G'):∀{vs:List V}{ds:List D},Reps K G vs ds->Reps K G' vs ds
 |_,_,.nil=>.nil
 |_,_,.cons h r=>.cons (Rep.mono s h) (Reps.mono s r)
end
theorem Reps.length:∀{vs:List V}{ds:List D},Reps K G vs ds->vs.length=ds.length
 |_,_,.nil=>rfl
 |_,_,.cons _ r=>by rw[Waj,Waj,r.length]
theorem Reps.get:∀{vs:List V}{ds:List D}{i:Nat}{d:D},Reps K G vs ds->ds[i]?=some d->∃v,vs[i]?=some v/\Rep K G v d
 |_,_,_,_,.nil,e=>by simp at e
 |_,_,0,_,.cons r _,e=>by simp at e;subst e;exact⟨_,rfl,r⟩
 |_,_,i+1,d,.cons _ t,e=>by
  obtain⟨u,h1,h2⟩:=Reps.get (i:=i) (d:=d) t (by simpa using e);exact⟨u,by simpa using h1,h2⟩
theorem Reps.append:∀{vs ws:List V}{ds es:List D},Reps K G vs ds->Reps K G ws es->Reps K G (vs++ws) (ds++es)
 |_,_,_,_,.nil,s=>s
 |_,_,_,_,.cons r t,s=>.cons r (Reps.append t s)
theorem Reps.take:∀{vs:List V}{ds:List D}(n:Nat),Reps K G vs ds->Reps K G (vs.take n) (ds.take n)
 |_,_,0,_=>.nil
 |_,_,_+1,.nil=>.nil
 |_,_,n+1,.cons r t=>.cons r (Reps.take n t)
theorem Reps.drop:∀{vs:List V}{ds:List D}(n:Nat),Reps K G vs ds->Reps K G (vs.drop n) (ds.drop n)
 |_,_,0,r=>r
 |_,_,_+1,.nil=>.nil
 |_,_,n+1,.cons _ t=>Reps.drop n t
theorem Reps.reverse {vs:List V}{ds:List D}(h:Reps K G vs ds):Reps K G vs.reverse ds.reverse:=by
 induction vs generalizing ds with
 |nil=>cases h;exact .nil
 |cons v vs ih=>
  cases h with
  |cons r t=>rw[List.reverse_cons,List.reverse_cons];exact(ih t).append (.cons r .nil)
theorem Reps.set:∀{vs:List V}{ds:List D}{v:V}{d:D}(i:Nat),Reps K G vs ds->Rep K G v d->Reps K G (vs.set i v) (ds.set i d)
 |_,_,_,_,_,.nil,_=>.nil
 |_,_,_,_,0,.cons _ t,q=>.cons q t
 |_,_,_,_,i+1,.cons r t,q=>.cons r (Reps.set i t q)
theorem Reps.ints {vs:List V}:∀{ns:List Int},Reps K G vs (ns.map D.int)->vs=ns.map V.int:=by
 induction vs with
 |nil=>intro ns h;cases ns with
  |nil=>rfl
  |cons n ns=>cases h
 |cons v vs ih=>intro ns h;cases ns with
  |nil=>cases h
  |cons n ns=>
   cases h with
   |cons r t=>cases r.inv;rw[ih t];rfl
theorem Reps.ofInts:∀(ns:List Int),Reps K G (ns.map V.int) (ns.map D.int)
 |[]=>.nil
 |n::ns=>.cons (.int n) (Reps.ofInts ns)
theorem Zhk {vs:List V}{ds:List D}{i:Int}{d:D}(r:Reps K G vs ds) (h:atI ds i=some d):∃v,atI vs i=some v/\Rep K G v d:=by
 unfold atI at h ⊢;rw[<- r.length]at h;cases e:ixN vs.length i with
 |none=>rw[e]at h;cases h
 |some j=>rw[e]at h;exact r.get h
end
inductive OD where
 |lst (ds:List D)|dct (kvs:List (Key × D))|set (S:Int->Bool) (n:Nat)|dtt (kvs:List (List Key × D))|ext (R:Hp->(Heap->Prop)->Prop)
def OwnRep (K:W.Frag) (G:Hp):HO->OD->Prop
 |.lst vs,.lst ds=>Reps K G vs ds
 |.dK kvs,.dct kds=>Paired (λ(p:Key × V) (q:Key × D)=>p.1=q.1/\Rep K G p.2 q.2) kvs kds
 |.set S n,.set S' n'=>S=S' /\ n=n'
 |.dT kvs,.dtt kds=>Paired (λ(p:List Key × V) (q:List Key × D)=>p.1=q.1/\Rep K G p.2 q.2) kvs kds
 |.ext φ,.ext R=>∃G0,Same G0 G/\R G0 φ
 |_,_=>False
theorem OwnRep.mono {K:W.Frag}{G G':Hp}(s:Same G G') {o:HO}{od:OD}(h:OwnRep K G o od):OwnRep K G' o od:=by
 cases o <;> cases od <;> first
  |exact h.elim
  |exact Reps.mono s h
  |exact Paired.mapP h λ_ _ z=>⟨z.1,z.2.mono s⟩
  |exact(let ⟨g0,s0,r⟩:=h; ⟨g0,s0.trans s,r⟩)
  |exact h
inductive Slot where
 |any|val (d:D)|own (o:OD)|bor (o:OD)|ownA (a:Addr) (o:OD)
abbrev Evt:=List Slot
def Slot.od:Slot->Option OD
 |.own o=>some o
 |.bor o=>some o
 |.ownA _ o=>some o
 |_=>none
structure Gm where
 B:Addr->Prop
 F:Hp
 Hz:Hp
 Xo:Hp
def SlotAt (g:Gm) (x:Slot) (a:Addr):Prop:=match x with
 |.own _=>g.Hz a=none
 |.bor _=>g.B a
 |.ownA b _=>b=a/\g.Hz a=none
 |_=>True
structure Ok (K:W.Frag) (g:Gm) (G H:Hp) (σ:St) (Δ:Evt):Prop where
 same:∀b o,¬ g.B b->g.Hz b=some o->H b=some o
 lent:∀b,g.B b->H b≠none
 sub:Same g.F G
 frz:∀b o,G b=some o->H b=some o/\(g.Hz b=none\/g.F b=some o)
 ext:∀b o,g.Xo b=some o->H b=some o/\G b=none/\∀(i:Nat) x od,Δ[i]?=some x->x.od=some od -> σ[i]?≠some (some (.ref b))
 len:Δ.length = σ.length
 val:∀(i:Nat) d,Δ[i]?=some (.val d)->∃v,σ[i]?=some (some v)/\Rep K G v d
 own:∀(i:Nat) x od,Δ[i]?=some x->x.od=some od->∃a o,σ[i]?=some (some (.ref a))/\H a=some o/\OwnRep K G o od/\G a=none/\SlotAt g x a
 dis:∀(i j:Nat) x y od od' a,Δ[i]?=some x->x.od=some od -> Δ[j]?=some y->y.od=some od' -> σ[i]?=some (some (.ref a)) -> σ[j]?=some (some (.ref a))->i=j
section
variable {K:W.Frag}{g:Gm}{G H G' H':Hp}{σ:St}{Δ:Evt}
theorem Ok.live (k:Ok K g G H σ Δ):Same G H:=λb o e=>(k.frz b o e).1
theorem Ok.there (k:Ok K g G H σ Δ) {b:Addr}(h:H b=none):g.Hz b=none:=by
 cases e:g.Hz b with
 |none=>rfl
 |some o=>
  by_cases hb:g.B b
  ·exact absurd h (k.lent b hb)
  ·have:=k.same b o hb e
   rw[h]at this;cases this
theorem Ok.grow (k:Ok K g G H σ Δ) (sg:Same G G') (sh:Same H H') (hg:∀b o,G' b=some o->H' b=some o/\(G b=some o\/H b=none)):Ok K g G' H' σ Δ where
 same:=λb o hb e=>sh b o (k.same b o hb e)
 lent:=λb hb z=>by
  cases e:H b with
  |none=>exact k.lent b hb e
  |some o=>rw[sh b o e]at z;cases z
 sub:=k.sub.trans sg
 frz:=λb o e=>by
  obtain⟨h1,h2⟩:=hg b o e;refine⟨h1,?_⟩;rcases h2 with z|z
  ·exact(k.frz b o z).2
  ·exact .inl (k.there z)
 ext:=λb o e=>by
  obtain⟨h1,h2,h3⟩:=k.ext b o e;refine⟨sh b o h1,?_,h3⟩;cases q:G' b with
  |none=>rfl
  |some o'=>
   rcases(hg b o' q).2 with z|z
   ·rw[h2]at z;cases z
   ·rw[h1]at z;cases z
 len:=k.len
 val:=λi d e=>by
  obtain⟨v,h1,h2⟩:=k.val i d e;exact⟨v,h1,h2.mono sg⟩
 own:=λi x od e1 e2=>by
  obtain⟨a,o,h1,h2,h3,h4,h5⟩:=k.own i x od e1 e2;refine⟨a,o,h1,sh a o h2,h3.mono sg,?_,h5⟩;cases q:G' a with
  |none=>rfl
  |some o'=>
   rcases(hg a o' q).2 with z|z
   ·rw[h4]at z;cases z
   ·rw[h2]at z;cases z
 dis:=k.dis
theorem Ok.laid (k:Ok K g G H σ Δ) {p:Addr}(hp:H p=none) (o:HO):Ok K g (upd G p o) (upd H p o) σ Δ /\ Same G (upd G p o):=by
 have hG:G p=none:=by
  cases e:G p with
  |none=>rfl
  |some u=>rw[k.live p u e]at hp;cases hp
 have sg:Same G (upd G p o):=λb u e=>by rw[Zap (Zau e hG)];exact e
 refine⟨k.grow sg (λb u e=>by rw[Zap (Zau e hp)];exact e) λb u e=>?_,sg⟩;by_cases hb:b=p
 ·subst hb;rw[Zas]at e ⊢;exact⟨e,.inr hp⟩
 ·rw[Zap hb]at e ⊢;exact⟨k.live b u e,.inl e⟩
theorem Ok.lt (k:Ok K g G H σ Δ) {i:Nat}{x:Slot}(h:Δ[i]?=some x):i < σ.length:=by
 rw[<- k.len];exact(Waf.mp h).1
def Pend (K:W.Frag) (g:Gm) (G H:Hp) (σ:St) (Δ:Evt) (a:Addr) (od:OD):Prop:=
 ∃o,H a=some o/\OwnRep K G o od/\G a=none/\g.Hz a=none/\g.Xo a=none/\∀(i:Nat) x od',Δ[i]?=some x->x.od=some od' -> σ[i]?≠some (some (.ref a))
theorem Ok.setVal (k:Ok K g G H σ Δ) {v:V}{d:D}{i:Nat}(hi:i < Δ.length) (r:Rep K G v d):Ok K g G H (σ.set i (some v)) (Δ.set i (.val d)):=by
 have hs:i < σ.length:=by rw[<- k.len];exact hi
 have old:∀(j:Nat) x od,(Δ.set i (.val d))[j]?=some x->x.od=some od->j≠i /\ Δ[j]?=some x/\(σ.set i (some v))[j]? = σ[j]?:=λj x od e1 e2=>by
  by_cases hj:j=i
  ·subst hj
   rw[Wau hi]at e1;cases e1;cases e2
  ·rw[Wa1 (Ne.symm hj)]at e1
   exact⟨hj,e1,Wa1 (Ne.symm hj)⟩
 refine⟨k.same,k.lent,k.sub,k.frz,λb o e=>?_,by simp[k.len],λj e h=>?_,λj x od e1 e2=>?_,λj l x y od od' a e1 e2 e3 e4 e5 e6=>?_⟩
 ·obtain⟨h1,h2,h3⟩:=k.ext b o e
  refine⟨h1,h2,λj x od e1 e2=>?_⟩;obtain⟨_,q1,q2⟩:=old j x od e1 e2;rw[q2];exact h3 j x od q1 e2
 ·by_cases hj:j=i
  ·subst hj
   rw[Wau hi]at h;cases h;exact⟨v,Wau hs,r⟩
  ·rw[Wa1 (Ne.symm hj)]at h ⊢
   exact k.val j e h
 ·obtain⟨_,q1,q2⟩:=old j x od e1 e2
  rw[q2];exact k.own j x od q1 e2
 ·obtain⟨_,q1,q2⟩:=old j x od e1 e2
  obtain⟨_,q3,q4⟩:=old l y od' e3 e4;rw[q2]at e5;rw[q4]at e6;exact k.dis j l x y od od' a q1 e2 q3 e4 e5 e6
theorem Ok.setOwn (k:Ok K g G H σ Δ) {a:Addr}{od:OD}{i:Nat}(hi:i < Δ.length) (p:Pend K g G H σ Δ a od):Ok K g G H (σ.set i (some (.ref a))) (Δ.set i (.own od)):=by
 obtain⟨o,p1,p2,p3,p4,p5,p6⟩:=p;have hs:i < σ.length:=by rw[<- k.len];exact hi
 have old:∀(j:Nat) x,j≠i->(Δ.set i (.own od))[j]?=some x -> Δ[j]?=some x/\(σ.set i (some (.ref a)))[j]? = σ[j]?:=λj x hj e1=>by
  rw[Wa1 (Ne.symm hj)]at e1;exact⟨e1,Wa1 (Ne.symm hj)⟩
 refine⟨k.same,k.lent,k.sub,k.frz,λb ob e=>?_,by simp[k.len],λj e h=>?_,λj x od' e1 e2=>?_,λj l x y od1 od2 c e1 e2 e3 e4 e5 e6=>?_⟩
 ·obtain⟨h1,h2,h3⟩:=k.ext b ob e
  refine⟨h1,h2,λj x od' e1 e2=>?_⟩;by_cases hj:j=i
  ·subst hj
   rw[Wau hs];intro z;cases z;rw[p5]at e;cases e
  ·obtain⟨q1,q2⟩:=old j x hj e1
   rw[q2];exact h3 j x od' q1 e2
 ·by_cases hj:j=i
  ·subst hj
   rw[Wau hi]at h;cases h
  ·rw[Wa1 (Ne.symm hj)]at h ⊢
   exact k.val j e h
 ·by_cases hj:j=i
  ·subst hj
   rw[Wau hi]at e1;cases e1;cases e2;exact⟨a,o,Wau hs,p1,p2,p3,p4⟩
  ·obtain⟨q1,q2⟩:=old j x hj e1
   rw[q2];exact k.own j x od' q1 e2
 ·by_cases hj:j=i
  ·by_cases hl:l=i
   ·rw[hj,hl]
   ·obtain⟨q3,q4⟩:=old l y hl e3
    rw[q4]at e6;rw[hj,Wau hs]at e5;cases e5;exact absurd e6 (p6 l y od2 q3 e4)
  ·obtain⟨q1,q2⟩:=old j x hj e1
   rw[q2]at e5;by_cases hl:l=i
   ·rw[hl,Wau hs]at e6
    cases e6;exact absurd e5 (p6 j x od1 q1 e2)
   ·obtain⟨q3,q4⟩:=old l y hl e3
    rw[q4]at e6;exact k.dis j l x y od1 od2 c q1 e2 q3 e4 e5 e6
def Slot.put:Slot->OD->Slot
 |.own _,o=>.own o
 |.bor _,o=>.bor o
 |.ownA a _,o=>.ownA a o
 |x,_=>x
theorem SlotAt.put {g:Gm}{x:Slot}{a:Addr}{o:OD}(h:SlotAt g x a):SlotAt g (x.put o) a:=by cases x <;> exact h
theorem SlotAt.free {g:Gm}{x:Slot}{a:Addr}{od:OD}(h:SlotAt g x a) (ho:x.od=some od):g.Hz a=none\/g.B a:=by
 cases x with
 |any=>cases ho
 |val d=>cases ho
 |own o=>exact .inl h
 |bor o=>exact .inr h
 |ownA b o=>exact .inl h.2
theorem Slot.put_od {x:Slot}{od o:OD}(h:x.od=some od):(x.put o).od=some o:=by cases x <;> cases h <;> rfl
theorem Ok.write (k:Ok K g G H σ Δ) {a:Addr}{od od':OD}{x:Slot}{i:Nat}{o':HO}(hx:Δ[i]?=some x) (hod:x.od=some od) (ha:σ[i]?=some (some (.ref a))) (r:OwnRep K G o' od'):Ok K g G (upd H a o') σ (Δ.set i (x.put od')):=by
 obtain⟨a',o,q1,q2,q3,q4,q5⟩:=k.own i x od hx hod;rw[ha]at q1;cases q1;have hi:i < Δ.length:=(Waf.mp hx).1;have other:∀(j:Nat) y od2,(Δ.set i (x.put od'))[j]?=some y->y.od=some od2->j≠i -> Δ[j]?=some y:=λj y od2 e1 e2 hj=>by
  rw[Wa1 (Ne.symm hj)]at e1;exact e1
 have anyOd:∀(j:Nat) y od2,(Δ.set i (x.put od'))[j]?=some y->y.od=some od2->∃y' od3,Δ[j]?=some y' /\ y'.od=some od3:=λj y od2 e1 e2=>by
  by_cases hj:j=i
  ·subst hj;exact⟨x,od,hx,hod⟩
  ·exact⟨y,od2,other j y od2 e1 e2 hj,e2⟩
 refine⟨λb u hb e=>?_,λb hb=>?_,k.sub,λb u e=>?_,λb u e=>?_,by simp[k.len],λj e h=>?_,λj y od2 e1 e2=>?_,λj l y z od1 od2 c e1 e2 e3 e4 e5 e6=>?_⟩
 ·have hba:b≠a:=by
   intro z;subst z;rcases q5.free hod with z|z
   ·rw[z]at e;cases e
   ·exact hb z
  rw[Zap hba];exact k.same b u hb e
 ·by_cases hba:b=a
  ·subst hba;rw[Zas];intro z;cases z
  ·rw[Zap hba];exact k.lent b hb
 ·have hba:b≠a:=by intro z;subst z;rw[q4]at e;cases e
  rw[Zap hba];exact k.frz b u e
 ·obtain⟨h1,h2,h3⟩:=k.ext b u e
  have hba:b≠a:=by intro z;subst z;exact h3 i x od hx hod ha
  rw[Zap hba];refine⟨h1,h2,λj y od2 e1 e2=>?_⟩;obtain⟨y',od3,z1,z2⟩:=anyOd j y od2 e1 e2;exact h3 j y' od3 z1 z2
 ·by_cases hj:j=i
  ·subst hj
   rw[Wau hi]at h;cases x <;> cases hod <;> cases h
  ·rw[Wa1 (Ne.symm hj)]at h
   exact k.val j e h
 ·by_cases hj:j=i
  ·subst hj
   rw[Wau hi]at e1;cases e1;rw[Slot.put_od hod]at e2;cases e2;exact⟨a,o',ha,Zas,r,q4,q5.put⟩
  ·have e1':=other j y od2 e1 e2 hj
   obtain⟨c,oc,w1,w2,w3,w4,w5⟩:=k.own j y od2 e1' e2;have hca:c≠a:=by
    intro z;subst z;exact hj (k.dis j i y x od2 od c e1' e2 hx hod w1 ha)
   exact⟨c,oc,w1,by rw[Zap hca];exact w2,w3,w4,w5⟩
 ·obtain⟨y',od3,z1,z2⟩:=anyOd j y od1 e1 e2
  obtain⟨y'',od4,z3,z4⟩:=anyOd l z od2 e3 e4;exact k.dis j l y' y'' od3 od4 c z1 z2 z3 z4 e5 e6
theorem Ok.freeze (k:Ok K g G H σ Δ) {a:Addr}{ds:List D}{vs:List V}(p:Pend K g G H σ Δ a (.lst ds)) (hv:H a=some (.lst vs)):Ok K g (upd G a (.lst vs)) H σ Δ /\ Same G (upd G a (.lst vs))/\Rep K (upd G a (.lst vs)) (.ref a) (.lst ds):=by
 obtain⟨o,p1,p2,p3,p4,p5,p6⟩:=p;rw[hv]at p1;cases p1;have p2:Reps K G vs ds:=p2;have sg:Same G (upd G a (.lst vs)):=λb u e=>by rw[Zap (Zau e p3)];exact e
 refine⟨⟨k.same,k.lent,k.sub.trans sg,λb u e=>?_,λb u e=>?_,k.len,λj d h=>?_,λj x od e1 e2=>?_,k.dis⟩,sg,.lst Zas (p2.mono sg)⟩
 ·by_cases hb:b=a
  ·subst hb;rw[Zas]at e;cases e;exact⟨hv,.inl p4⟩
  ·rw[Zap hb]at e;exact k.frz b u e
 ·obtain⟨h1,h2,h3⟩:=k.ext b u e
  have hb:b≠a:=by intro z;subst z;rw[p5]at e;cases e
  exact⟨h1,by rw[Zap hb];exact h2,h3⟩
 ·obtain⟨v,h1,h2⟩:=k.val j d h
  exact⟨v,h1,h2.mono sg⟩
 ·obtain⟨c,o,w1,w2,w3,w4,w5⟩:=k.own j x od e1 e2
  have hc:c≠a:=by intro z;subst z;exact p6 j x od e1 e2 w1
  exact⟨c,o,w1,w2,w3.mono sg,by rw[Zap hc];exact w4,w5⟩
theorem Ok.drop (k:Ok K g G H σ Δ) (i:Nat):Ok K g G H σ (Δ.set i .any):=by
 have old:∀(j:Nat) x,(Δ.set i .any)[j]?=some x->x=.any\/(Δ[j]?=some x/\j≠i):=λj x e1=>by
  by_cases hj:j=i
  ·subst hj
   rw[Wdh]at e1;simp at e1;exact .inl e1.2.symm
  ·rw[Wa1 (Ne.symm hj)]at e1
   exact .inr ⟨e1,hj⟩
 have oldO:∀(j:Nat) x od,(Δ.set i .any)[j]?=some x->x.od=some od -> Δ[j]?=some x:=λj x od e1 e2=>by
  rcases old j x e1 with z|z
  ·subst z;cases e2
  ·exact z.1
 refine⟨k.same,k.lent,k.sub,k.frz,λb o e=>?_,by simp[k.len],λj e h=>?_,λj x od e1 e2=>k.own j x od (oldO j x od e1 e2) e2,λj l x y od od' a e1 e2 e3 e4=>k.dis j l x y od od' a (oldO j x od e1 e2) e2 (oldO l y od' e3 e4) e4⟩
 ·obtain⟨h1,h2,h3⟩:=k.ext b o e
  exact⟨h1,h2,λj x od e1 e2=>h3 j x od (oldO j x od e1 e2) e2⟩
 ·rcases old j _ h with z|z
  ·cases z
  ·exact k.val j e z.1
theorem Ok.take (k:Ok K g G H σ Δ) {i:Nat}{od:OD}(h:Δ[i]?=some (.own od)):∃a,σ[i]?=some (some (.ref a))/\Pend K g G H σ (Δ.set i .any) a od:=by
 obtain⟨a,o,h1,h2,h3,h4,h5⟩:=k.own i _ od h rfl;have h5:g.Hz a=none:=h5;refine⟨a,h1,o,h2,h3,h4,h5,?_,λj x od' e1 e2 e3=>?_⟩
 ·cases q:g.Xo a with
  |none=>rfl
  |some u=>exact absurd h1 ((k.ext a u q).2.2 i _ od h rfl)
 ·by_cases hj:j=i
  ·subst hj
   rw[Wdh]at e1;simp at e1;obtain⟨_,e1⟩:=e1;subst e1;cases e2
  ·rw[Wa1 (Ne.symm hj)]at e1
   exact hj (k.dis j i x _ od' od a e1 e2 h rfl e3 h1)
end
def Cont (K:W.Frag) (g:Gm) (G:Hp) (σ:St) (P:D->Evt->Prop) (Q:VK):Prop:=
 ∀v d G' H' Δ',Ok K g G' H' σ Δ' -> Same G G' -> Rep K G' v d->P d Δ' -> Q v H'
def JE (K:W.Frag) (t:TE) (Δ:Evt) (P:D->Evt->Prop):Prop:=
 ∀g G H σ Q,Ok K g G H σ Δ -> Cont K g G σ P Q->t σ H Q
def JT (K:W.Frag) (t:TT) (Δ:Evt) (P:Bool->Evt->Prop):Prop:=
 ∀g G H σ Q,Ok K g G H σ Δ -> (∀b G' H' Δ',Ok K g G' H' σ Δ' -> Same G G' -> P b Δ' -> Q b H')->t σ H Q
def JA (K:W.Frag) (t:TA) (Δ:Evt) (P:List D->Evt->Prop):Prop:=
 ∀g G H σ Q,Ok K g G H σ Δ -> (∀vs ds G' H' Δ',Ok K g G' H' σ Δ' -> Same G G' -> Reps K G' vs ds->P ds Δ' -> Q vs H')->t σ H Q
def JO (K:W.Frag) (t:TE) (Δ:Evt) (P:OD->Evt->Prop):Prop:=
 ∀g G H σ Q,Ok K g G H σ Δ -> (∀a od G' H' Δ',Ok K g G' H' σ Δ' -> Same G G' -> Pend K g G' H' σ Δ' a od->P od Δ' -> Q (.ref a) H')->t σ H Q
def JR2 (K:W.Frag) (r:R2) (d e:D) (Δ:Evt) (P:D->Evt->Prop):Prop:=
 ∀g G H σ Q x y,Ok K g G H σ Δ -> Rep K G x d->Rep K G y e->Cont K g G σ P Q->r x y H Q
def JR1 (K:W.Frag) (r:V->Hp->VK->Prop) (d:D) (Δ:Evt) (P:D->Evt->Prop):Prop:=
 ∀g G H σ Q x,Ok K g G H σ Δ -> Rep K G x d->Cont K g G σ P Q->r x H Q
def JC (K:W.Frag) (r:List V->Hp->VK->Prop) (ds:List D) (Δ:Evt) (P:D->Evt->Prop):Prop:=
 ∀g G H σ Q vs,Ok K g G H σ Δ -> Reps K G vs ds->Cont K g G σ P Q->r vs H Q
structure Pst where
 nx:Evt->Prop
 rt:D->Evt->Prop
 bk:Evt->Prop:=λ_=>False
 ct:Evt->Prop:=λ_=>False
 ro:OD->Evt->Prop:=λ_ _=>False
structure SCont (K:W.Frag) (g:Gm) (P:Pst) (E:Ends):Prop where
 nx:∀σ G H Δ,Ok K g G H σ Δ -> P.nx Δ -> E.nx σ H
 rt:∀v d σ G H Δ,Ok K g G H σ Δ -> Rep K G v d->P.rt d Δ -> E.rt v H
 bk:∀σ G H Δ,Ok K g G H σ Δ -> P.bk Δ -> E.bk σ H
 ct:∀σ G H Δ,Ok K g G H σ Δ -> P.ct Δ -> E.ct σ H
 ro:∀a od σ G H Δ,Ok K g G H σ Δ -> Pend K g G H σ Δ a od->P.ro od Δ -> E.rt (.ref a) H
def JS (K:W.Frag) (t:TS) (Δ:Evt) (P:Pst):Prop:=
 ∀g G H σ E,Ok K g G H σ Δ -> SCont K g P E->t E σ H
def JG (K:W.Frag) (t:TG) (d:D) (Δ:Evt) (P:Evt->Prop):Prop:=
 ∀g G H σ v (R:St->Hp->Prop),Ok K g G H σ Δ -> Rep K G v d->(∀σ' G' H' Δ',Ok K g G' H' σ' Δ' -> Same G G' -> P Δ' -> R σ' H')->t v σ H R
def JGs (K:W.Frag) (t:TGs) (ds:List D) (Δ:Evt) (P:Evt->Prop):Prop:=
 ∀g G H σ vs (R:St->Hp->Prop),Ok K g G H σ Δ -> Reps K G vs ds->(∀σ' G' H' Δ',Ok K g G' H' σ' Δ' -> Same G G' -> P Δ' -> R σ' H')->t vs σ H R
section
variable {K:W.Frag}{Δ:Evt}
theorem Cont.up {g:Gm}{G G1:Hp}{σ:St}{P:D->Evt->Prop}{Q:VK}(c:Cont K g G σ P Q) (s:Same G G1):Cont K g G1 σ P Q:=
 λv d G' H' Δ' k s' r p=>c v d G' H' Δ' k (s.trans s') r p
theorem JE.mono {t:TE}{P P':D->Evt->Prop}(h:JE K t Δ P) (hp:∀d Δ,P d Δ -> P' d Δ):JE K t Δ P':=
 λg G H σ Q k c=>h g G H σ Q k λv d G' H' Δ' k' s r p=>c v d G' H' Δ' k' s r (hp d Δ' p)
theorem JS.mono {t:TS}{P P':Pst}(h:JS K t Δ P) (hn:∀Δ,P.nx Δ -> P'.nx Δ) (hr:∀d Δ,P.rt d Δ -> P'.rt d Δ) (hb:∀Δ,P.bk Δ -> P'.bk Δ) (hc:∀Δ,P.ct Δ -> P'.ct Δ) (ho:∀od Δ,P.ro od Δ -> P'.ro od Δ):JS K t Δ P':=
 λg G H σ E k c=>h g G H σ E k ⟨λσ' G' H' Δ' k' p=>c.nx σ' G' H' Δ' k' (hn _ p),λv d σ' G' H' Δ' k' r p=>c.rt v d σ' G' H' Δ' k' r (hr _ _ p),λσ' G' H' Δ' k' p=>c.bk σ' G' H' Δ' k' (hb _ p),λσ' G' H' Δ' k' p=>c.ct σ' G' H' Δ' k' (hc _ p),λa od σ' G' H' Δ' k' r p=>c.ro a od σ' G' H' Δ' k' r (ho _ _ p)⟩
theorem Zac {i:Nat}{d:D}{P:D->Evt->Prop}(h:Δ[i]?=some (.val d)) (p:P d Δ):JE K (tVar i) Δ P:=λg G H σ Q k c=>by
 obtain⟨v,h1,h2⟩:=k.val i d h;exact⟨v,h1,c v d G H Δ k (Same.refl _) h2 p⟩
theorem Zc9 {i:Nat}{ds:List D}{P:D->Evt->Prop}(h:Δ[i]?=some (.own (.lst ds))) (p:P (.lst ds) (Δ.set i (.val (.lst ds)))):JE K (tVar i) Δ P:=λg G H σ Q k c=>by
 obtain⟨a,h1,pd⟩:=k.take h;obtain⟨o,q1,q2,_⟩:=id pd;cases o with
 |lst vs=>
  obtain⟨k2,sg,r⟩:=(k.drop i).freeze pd q1;have k3:=k2.setVal (i:=i) (by simpa using (Waf.mp h).1) r;have e1:σ.set i (some (.ref a)) = σ:=by
   apply Wb6;intro j;by_cases hj:j=i
   ·subst hj;rw[Wau (k.lt h),h1]
   ·rw[Wa1 (Ne.symm hj)]
  rw[e1,List.set_set]at k3;exact⟨.ref a,h1,c _ _ _ H _ k3 sg r p⟩
 |_=>exact absurd q2 (λz=>z)
theorem Zak {i:Int}{P:D->Evt->Prop}(p:P (.int i) Δ):JE K (tC (.int i)) Δ P:=λg G H σ Q k c=>c _ _ G H Δ k (Same.refl _) (.int i) p
theorem Zva {b:Bool}{P:D->Evt->Prop}(p:P (.bl b) Δ):JE K (tC (.bl b)) Δ P:=λg G H σ Q k c=>c _ _ G H Δ k (Same.refl _) (.bl b) p
theorem Zv5 {P:D->Evt->Prop}(p:P .non Δ):JE K (tC .non) Δ P:=λg G H σ Q k c=>c _ _ G H Δ k (Same.refl _) .non p
theorem Zf0 {x:String}{P:D->Evt->Prop}(p:P (.ty x) Δ):JE K (tC (.ty x)) Δ P:=λg G H σ Q k c=>c _ _ G H Δ k (Same.refl _) (.ty x) p
theorem Zam {r:R2}{ta tb:TE}{P:D->Evt->Prop}(h:JE K ta Δ λd Δ1=>JE K tb Δ1 λe Δ2=>JR2 K r d e Δ2 P):JE K (tOp r ta tb) Δ P:=λg G H σ Q k c=>
 h g G H σ _ k λx d G1 H1 Δ1 k1 s1 r1 p1=>p1 g G1 H1 σ _ k1 λy e G2 H2 Δ2 k2 s2 r2 p2=>p2 g G2 H2 σ Q x y k2 (r1.mono s2) r2 (c.up (s1.trans s2))
theorem Zxc {r:V->Hp->VK->Prop}{ta:TE}{P:D->Evt->Prop}(h:JE K ta Δ λd Δ1=>JR1 K r d Δ1 P):JE K (tUn r ta) Δ P:=λg G H σ Q k c=>
 h g G H σ _ k λx d G1 H1 Δ1 k1 s1 r1 p1=>p1 g G1 H1 σ Q x k1 r1 (c.up s1)
theorem Zaf {P:List D->Evt->Prop}(p:P [] Δ):JA K tNil Δ P:=λg G H σ Q k c=>c [] [] G H Δ k (Same.refl _) .nil p
theorem Zab {ta:TE}{tr:TA}{P:List D->Evt->Prop}(h:JE K ta Δ λd Δ1=>JA K tr Δ1 λds Δ2=>P (d::ds) Δ2):JA K (tCons ta tr) Δ P:=λg G H σ Q k c=>
 h g G H σ _ k λx d G1 H1 Δ1 k1 s1 r1 p1=>p1 g G1 H1 σ _ k1 λvs ds G2 H2 Δ2 k2 s2 r2 p2=>c _ _ G2 H2 Δ2 k2 (s1.trans s2) (.cons (r1.mono s2) r2) p2
theorem Za3 {r:List V->Hp->VK->Prop}{ta:TA}{P:D->Evt->Prop}(h:JA K ta Δ λds Δ1=>JC K r ds Δ1 P):JE K (tCB r ta) Δ P:=λg G H σ Q k c=>
 h g G H σ _ k λvs ds G1 H1 Δ1 k1 s1 r1 p1=>p1 g G1 H1 σ Q vs k1 r1 (c.up s1)
theorem Zcm {ta:TA}{P:D->Evt->Prop}(h:JA K ta Δ λds Δ1=>ds.length<=sizeLine/\P (.tup ds) Δ1):JE K (tTup ta) Δ P:=λg G H σ Q k c=>
 h g G H σ _ k λvs ds G1 H1 Δ1 k1 s1 r1 ⟨z,p1⟩=>⟨by rw[r1.length];exact z,λp hp=>by
  obtain⟨k2,sg⟩:=k1.laid hp (.tup vs);exact c _ _ _ _ Δ1 k2 (s1.trans sg) (.tup Zas (r1.mono sg)) p1⟩
theorem Zvy {ta:TA}{P:D->Evt->Prop}(h:JA K ta Δ λds Δ1=>ds.length<=sizeLine/\P (.lst ds) Δ1):JE K (tLst ta) Δ P:=λg G H σ Q k c=>
 h g G H σ _ k λvs ds G1 H1 Δ1 k1 s1 r1 ⟨z,p1⟩=>⟨by rw[r1.length];exact z,λp hp=>by
  obtain⟨k2,sg⟩:=k1.laid hp (.lst vs);exact c _ _ _ _ Δ1 k2 (s1.trans sg) (.lst Zas (r1.mono sg)) p1⟩
theorem Ok.fresh {g:Gm}{G H:Hp}{σ:St}(k:Ok K g G H σ Δ) {p:Addr}{o:HO}{od:OD}(hp:H p=none) (r:OwnRep K G o od):Ok K g G (upd H p o) σ Δ /\ Pend K g G (upd H p o) σ Δ p od:=by
 have hG:G p=none:=by
  cases e:G p with
  |none=>rfl
  |some u=>rw[k.live p u e]at hp;cases hp
 refine⟨k.grow (Same.refl _) (λb u e=>by rw[Zap (Zau e hp)];exact e) λb u e=>⟨?_,.inl e⟩,o,Zas,r,hG,k.there hp,?_,λj x od' e1 e2 e3=>?_⟩
 ·have hb:b≠p:=by intro z;subst z;rw[hG]at e;cases e
  rw[Zap hb];exact k.live b u e
 ·cases q:g.Xo p with
  |none=>rfl
  |some u=>have z:=(k.ext p u q).1;rw[hp]at z;cases z
 ·obtain⟨a,oo,w1,w2,_⟩:=k.own j x od' e1 e2
  rw[e3]at w1;cases w1;rw[hp]at w2;cases w2
theorem Zgq {ta:TA}{P:OD->Evt->Prop}(h:JA K ta Δ λds Δ1=>ds.length<=sizeLine/\P (.lst ds) Δ1):JO K (tLst ta) Δ P:=λg G H σ Q k c=>
 h g G H σ _ k λvs ds G1 H1 Δ1 k1 s1 r1 ⟨z,p1⟩=>⟨by rw[r1.length];exact z,λp hp=>by
  obtain⟨k2,pd⟩:=k1.fresh (od:=.lst ds) hp (show OwnRep K G1 (.lst vs) (.lst ds) from r1);exact c p _ G1 _ Δ1 k2 s1 pd p1⟩
theorem Zbj {t:TE}{P:D->Evt->Prop}(h:JO K t Δ λod Δ1=>∃ds,od=.lst ds/\P (.lst ds) Δ1):JE K t Δ P:=λg G H σ Q k c=>
 h g G H σ Q k λa od G1 H1 Δ1 k1 s1 pd hq_=>by
  obtain⟨ds,e,p1⟩:=hq_;subst e;obtain⟨o,q1,q2,_⟩:=id pd;cases o with
  |lst vs=>
   obtain⟨k2,sg,r⟩:=k1.freeze pd q1;exact c _ _ _ H1 Δ1 k2 (s1.trans sg) r p1
  |_=>exact absurd q2 (λz=>z)
theorem Zlb {c:TT}{ta tb:TE}{P:D->Evt->Prop}(h:JT K c Δ λb Δ1=>if b=true then JE K ta Δ1 P else JE K tb Δ1 P):JE K (tIf c ta tb) Δ P:=λg G H σ Q k q=>
 h g G H σ _ k λb G1 H1 Δ1 k1 s1 p1=>by
  cases b with
  |true=>exact(show JE K ta Δ1 P from p1) g G1 H1 σ Q k1 (q.up s1)
  |false=>exact(show JE K tb Δ1 P from p1) g G1 H1 σ Q k1 (q.up s1)
theorem Zbd {t:TE}{P:Bool->Evt->Prop}(h:JE K t Δ λd Δ1=>∃b,d=.bl b/\P b Δ1):JT K (tTest t) Δ P:=λg G H σ Q k c=>
 h g G H σ _ k λv d G1 H1 Δ1 k1 s1 r1 hq_=>by obtain⟨b,e,p1⟩:=hq_;subst e;cases r1.inv;exact⟨b,rfl,c b G1 H1 Δ1 k1 s1 p1⟩
theorem Zhg {a b:TT}{P:Bool->Evt->Prop}(h:JT K a Δ λx Δ1=>if x=true then JT K b Δ1 P else P false Δ1):JT K (tAnd a b) Δ P:=λg G H σ Q k c=>
 h g G H σ _ k λx G1 H1 Δ1 k1 s1 p1=>by
  cases x with
  |true=>exact(show JT K b Δ1 P from p1) g G1 H1 σ _ k1 λy G2 H2 Δ2 k2 s2 p2=>c y G2 H2 Δ2 k2 (s1.trans s2) p2
  |false=>exact c false G1 H1 Δ1 k1 s1 p1
theorem Zqp {a b:TT}{P:Bool->Evt->Prop}(h:JT K a Δ λx Δ1=>if x=true then P true Δ1 else JT K b Δ1 P):JT K (tOr a b) Δ P:=λg G H σ Q k c=>
 h g G H σ _ k λx G1 H1 Δ1 k1 s1 p1=>by
  cases x with
  |true=>exact c true G1 H1 Δ1 k1 s1 p1
  |false=>exact(show JT K b Δ1 P from p1) g G1 H1 σ _ k1 λy G2 H2 Δ2 k2 s2 p2=>c y G2 H2 Δ2 k2 (s1.trans s2) p2
theorem Zd6 {a:TT}{P:Bool->Evt->Prop}(h:JT K a Δ λx Δ1=>P (!x) Δ1):JT K (tNot a) Δ P:=λg G H σ Q k c=>
 h g G H σ _ k λx G1 H1 Δ1 k1 s1 p1=>c (!x) G1 H1 Δ1 k1 s1 p1
theorem Zbu {P:Bool->Evt->Prop}(p:P true Δ):JT K tTrue Δ P:=λg G H σ Q k c=>c true G H Δ k (Same.refl _) p
theorem Zst {P:Pst}(p:P.nx Δ):JS K tNext Δ P:=λg G H σ E k c=>c.nx σ G H Δ k p
theorem Zsc {t u:TS}{P:Pst}(h:JS K t Δ { P with nx:=λΔ1=>JS K u Δ1 P }):JS K (tSeq t u) Δ P:=λg G H σ E k c=>
 h g G H σ _ k ⟨λσ1 G1 H1 Δ1 k1 p1=>p1 g G1 H1 σ1 E k1 c,c.rt,c.bk,c.ct,c.ro⟩
theorem Zww {te:TE}{P:Pst}(h:JE K te Δ P.rt):JS K (tRet te) Δ P:=λg G H σ E k c=>
 h g G H σ _ k λv d G1 H1 Δ1 k1 s1 r1 p1=>c.rt v d σ G1 H1 Δ1 k1 r1 p1
theorem Zte {te:TE}{P:Pst}(h:JO K te Δ P.ro):JS K (tRet te) Δ P:=λg G H σ E k c=>
 h g G H σ _ k λa od G1 H1 Δ1 k1 s1 pd p1=>c.ro a od σ G1 H1 Δ1 k1 pd p1
theorem Zty {te:TE}{P:Pst}(h:JE K te Δ λ_ Δ1=>P.nx Δ1):JS K (tDrop te) Δ P:=λg G H σ E k c=>
 h g G H σ _ k λv d G1 H1 Δ1 k1 s1 r1 p1=>c.nx σ G1 H1 Δ1 k1 p1
theorem Zxk {c:TT}{t u:TS}{P:Pst}(h:JT K c Δ λb Δ1=>if b=true then JS K t Δ1 P else JS K u Δ1 P):JS K (tIfS c t u) Δ P:=λg G H σ E k q=>
 h g G H σ _ k λb G1 H1 Δ1 k1 s1 p1=>by
  cases b with
  |true=>exact(show JS K t Δ1 P from p1) g G1 H1 σ E k1 q
  |false=>exact(show JS K u Δ1 P from p1) g G1 H1 σ E k1 q
theorem Zwg {te:TE}{t:TG}{P:Pst}(h:JE K te Δ λd Δ1=>JG K t d Δ1 P.nx):JS K (tAsg te t) Δ P:=λg G H σ E k c=>
 h g G H σ _ k λv d G1 H1 Δ1 k1 s1 r1 p1=>p1 g G1 H1 σ v _ k1 r1 λσ2 G2 H2 Δ2 k2 s2 p2=>c.nx σ2 G2 H2 Δ2 k2 p2
theorem Zgj {P:Evt->Prop}(p:P Δ):JGs K gNil [] Δ P:=λg G H σ vs R k r c=>by cases r;exact⟨rfl,c σ G H Δ k (Same.refl _) p⟩
theorem Zb9 {t:TG}{u:TGs}{d:D}{ds:List D}{P:Evt->Prop}(h:JG K t d Δ λΔ1=>JGs K u ds Δ1 P):JGs K (gCons t u) (d::ds) Δ P:=λg G H σ vs R k r c=>by
 obtain⟨_,_,rfl,r1,rr⟩:=r.inv
 next=>exact⟨_,_,rfl,h g G H σ _ _ k r1 λσ1 G1 H1 Δ1 k1 s1 p1=>p1 g G1 H1 σ1 _ R k1 (rr.mono s1) λσ2 G2 H2 Δ2 k2 s2 p2=>c σ2 G2 H2 Δ2 k2 (s1.trans s2) p2⟩
theorem Ziw {n:Nat}{t:TGs}{ds:List D}{P:Evt->Prop}(hl:ds.length=n) (h:JGs K t ds Δ P):JG K (gTup K n t) (.tup ds) Δ P:=λg G H σ v R k r c=>by
 obtain⟨_,_,rfl,ha,rs⟩:=r.inv
 next=>exact⟨_,_,rfl,SqT.of (k.live _ _ ha),by rw[rs.length];exact hl,h g G H σ _ R k rs c⟩
def ItOk (K:W.Frag) (G:Hp) (J:It) (ds:List D):Prop:=
 ∀G1 H1,Same G G1->Same G1 H1->J.stop ds.length H1/\∀(i:Nat) d,ds[i]?=some d->J.go i H1/\∀x H2,J.yld i H1 x H2->∃G2,Same G1 G2/\Same H1 H2/\(∀b o,G2 b=some o->H2 b=some o/\(G1 b=some o\/H1 b=none))/\Rep K G2 x d
def JI (K:W.Frag) (wi:TI) (Δ:Evt) (P:List D->Evt->Prop):Prop:=
 ∀g G H σ (R:It->Hp->Prop),Ok K g G H σ Δ -> (∀J ds G' H' Δ',Ok K g G' H' σ Δ' -> Same G G' -> ItOk K G' J ds->P ds Δ' -> R J H')->wi σ H R
theorem Zve {tl:TE}{P:List D->Evt->Prop}(h:JE K tl Δ λd Δ1=>∃ds,d=.tup ds/\P ds Δ1):JI K (iTup K tl) Δ P:=λg G H σ R k c=>
 h g G H σ _ k λv d G1 H1 Δ1 k1 s1 r1 hq_=>by
  obtain⟨ds,e,p1⟩:=hq_;subst e;obtain⟨a,vs,rfl,ha,rs⟩:=r1.inv
  next=>
   refine⟨a,rfl,⟨vs,SqT.of (k1.live _ _ ha)⟩,c _ ds G1 H1 Δ1 k1 s1 (λG2 H2 sg sh=>⟨⟨vs,SqT.of (sh _ _ (sg _ _ ha)),by rw[rs.length];exact Wah _⟩,λi d e=>?_⟩) p1⟩;obtain⟨v,hv,rv⟩:=rs.get e;refine⟨⟨vs,v,SqT.of (sh _ _ (sg _ _ ha)),hv⟩,λx H3 ⟨e3,y3⟩=>⟨G2,Same.refl _,by rw[e3];exact Same.refl _,λb o q=>⟨by rw[e3];exact sh b o q,.inl q⟩,?_⟩⟩;have:=y3 vs (SqT.of (sh _ _ (sg _ _ ha)));rw[hv]at this;cases this;exact rv.mono sg
theorem Zt3 {tl:TE}{P:List D->Evt->Prop}(h:JE K tl Δ λd Δ1=>∃ds,(d=.lst ds\/d=.scr ds)/\P ds Δ1):JI K (iList K tl) Δ P:=λg G H σ R k c=>
 h g G H σ _ k λv d G1 H1 Δ1 k1 s1 r1 hq_=>by
  obtain⟨ds,e,p1⟩:=hq_;obtain⟨a,vs,ea,hs,rs⟩:∃a vs,v=.ref a/\SqL K G1 a vs/\Reps K G1 vs ds:=by
   rcases e with e|e
   ·subst e;cases r1 with|lst ha rs=>exact⟨_,_,rfl,SqL.of ha,rs⟩
   ·subst e;cases r1 with|scr ha rs=>exact⟨_,_,rfl,ha,rs⟩
  subst ea;refine⟨a,rfl,⟨vs,k1.live.seq hs⟩,c _ ds G1 H1 Δ1 k1 s1 (λG2 H2 sg sh=>⟨⟨vs,sh.seq (sg.seq hs),by rw[rs.length];exact Wah _⟩,λi d e=>?_⟩) p1⟩;obtain⟨v,hv,rv⟩:=rs.get e;refine⟨⟨vs,v,sh.seq (sg.seq hs),hv⟩,λx H3 ⟨e3,y3⟩=>⟨G2,Same.refl _,by rw[e3];exact Same.refl _,λb o q=>⟨by rw[e3];exact sh b o q,.inl q⟩,?_⟩⟩;have:=y3 vs (sh.seq (sg.seq hs));rw[hv]at this;cases this;exact rv.mono sg
def rngD (lo:Int) (n:Nat):List D:=(Wai n).map λi:Nat=>D.int (lo+(i:Int))
theorem Zbc (lo:Int) (n:Nat):(rngD lo n).length=n:=by simp[rngD]
theorem Zb4 {lo:Int}{n i:Nat}{d:D}(h:(rngD lo n)[i]?=some d):i<n/\d=.int (lo+(i:Int)):=by
 unfold rngD at h;rw[Wad]at h;cases e:(Wai n)[i]? with
 |none=>rw[e]at h;cases h
 |some j=>
  rw[e]at h;obtain⟨h1,h2⟩:=Waf.mp e;rw[Wcm]at h2;subst h2;exact⟨by simpa using h1,(Wbh.inj h).symm⟩
theorem Zp8 {G:Hp}(lo:Int) (n:Nat):ItOk K G (Itr lo n) (rngD lo n):=λG1 H1 sg sh=>by
 refine⟨by show n<=(rngD lo n).length;rw[Zbc];exact Wah _,λi d e=>?_⟩;obtain⟨h1,h2⟩:=Zb4 e;subst h2;refine⟨h1,λx H2 ⟨e2,y2⟩=>⟨G1,Same.refl _,by rw[e2];exact Same.refl _,λb o q=>⟨by rw[e2];exact sh b o q,.inl q⟩,?_⟩⟩;subst y2;exact .int _
theorem Zbm {ta:TA}{P:List D->Evt->Prop}(h:JA K ta Δ λds Δ1=>∃n:Int,ds=[.int n] /\ -(2 ^ 62)<=n/\n<2 ^ 62/\P (rngD 0 n.toNat) Δ1):JI K (iRng1 ta) Δ P:=λg G H σ R k c=>
 h g G H σ _ k λvs ds G1 H1 Δ1 k1 s1 r1 hq_=>by
  obtain⟨n,e,h1,h2,p1⟩:=hq_;subst e;obtain⟨_,_,rfl,ra,rr⟩:=r1.inv
  next=>
   cases rr.inv;cases ra.inv;exact⟨n,rfl,h1,h2,c _ _ G1 H1 Δ1 k1 s1 (Zp8 0 _) p1⟩
theorem Zu1 {wi:TI}{t:TG}{tb:TS}{P:Pst}(h:JI K wi Δ λds Δ1=>∃I:Nat->Evt->Prop,I 0 Δ1/\(∀i d Δ2,ds[i]?=some d->I i Δ2->JG K t d Δ2 λΔ3=>JS K tb Δ3 ⟨I (i+1),P.rt,P.nx,I (i+1),P.ro⟩)/\∀Δ2,I ds.length Δ2->P.nx Δ2) :
  JS K (tFor wi t tb) Δ P:=λg G H σ E k c=>
 h g G H σ _ k λJ ds G1 H1 Δ1 k1 s1 it hq_=>by
  obtain⟨I,h0,ht,he⟩:=hq_;refine⟨λi m σ H=>m=ds.length-i/\i<=ds.length/\∃G Δ,Ok K g G H σ Δ /\ Same G1 G/\I i Δ,⟨ds.length,by simp,Wbl _,G1,Δ1,k1,Same.refl _,h0⟩,?_⟩;rintro i m σ2 H2 ⟨rfl,hi,G2,Δ2,k2,s2,h2⟩;obtain⟨stop,go⟩:=it G2 H2 s2 k2.live;by_cases hlt:i<ds.length
  ·obtain⟨g1,g2⟩:=go i _ (Waa hlt)
   refine .inr ⟨g1,λσ' H'=>i+1<=ds.length/\∃G Δ,Ok K g G H' σ' Δ /\ Same G1 G/\I (i+1) Δ,λσ' H' p'=>⟨ds.length-(i+1),by omega,rfl,p'.1,p'.2⟩,λx H3 y=>?_⟩;obtain⟨G3,a1,a2,a3,a4⟩:=g2 x H3 y;have k3:=k2.grow a1 a2 a3;refine ht i _ Δ2 (Waa hlt) h2 { g with F:=G3,Xo:=g.Xo } G3 H3 σ2 x _ ?_ a4 λσ4 G4 H4 Δ4 k4 s4 p4=>?_
   ·exact⟨k3.same,k3.lent,Same.refl _,λb o q=>⟨(k3.frz b o q).1,.inr q⟩,k3.ext,k3.len,k3.val,k3.own,k3.dis⟩
   ·have cv:∀{G5 H5:Hp}{σ5:St}{Δ5:Evt},Ok K { g with F:=G3,Xo:=g.Xo } G5 H5 σ5 Δ5->Ok K g G5 H5 σ5 Δ5/\Same G1 G5:=λ{G5 H5 σ5 Δ5} k5=>
     ⟨⟨k5.same,k5.lent,k3.sub.trans k5.sub,λb o q=>by
      obtain⟨q1,q2⟩:=k5.frz b o q;refine⟨q1,?_⟩;rcases q2 with z|z
      ·exact .inl z
      ·exact(k3.frz b o z).2,k5.ext,k5.len,k5.val,k5.own,k5.dis⟩,s2.trans (a1.trans k5.sub)⟩
    refine p4 _ G4 H4 σ4 _ k4 ⟨λσ5 G5 H5 Δ5 k5 p5=>?_,λv d σ5 G5 H5 Δ5 k5 r5 p5=>?_,λσ5 G5 H5 Δ5 k5 p5=>?_,λσ5 G5 H5 Δ5 k5 p5=>?_,λa od σ5 G5 H5 Δ5 k5 pd5 p5=>?_⟩
    ·exact⟨hlt,G5,Δ5,(cv k5).1,(cv k5).2,p5⟩
    ·exact c.rt v d σ5 G5 H5 Δ5 (cv k5).1 r5 p5
    ·exact c.nx σ5 G5 H5 Δ5 (cv k5).1 p5
    ·exact⟨hlt,G5,Δ5,(cv k5).1,(cv k5).2,p5⟩
    ·exact c.ro a od σ5 G5 H5 Δ5 (cv k5).1 pd5 p5
  ·have e:i=ds.length:=by omega
   subst e;exact .inl ⟨stop,c.nx σ2 G2 H2 Δ2 k2 (he Δ2 h2)⟩
theorem Zp7 {c:TT}{tb:TS}{P:Pst}(I:Nat->Evt->Prop) (h0:∃m,I m Δ) (ht:∀m Δ1,I m Δ1->JT K c Δ1 λb Δ2=>if b=true then JS K tb Δ2 ⟨λΔ3=>∃m',m'<m/\I m' Δ3,P.rt,P.nx,λΔ3=>∃m',m'<m/\I m' Δ3,P.ro⟩ else P.nx Δ2) :
  JS K (tWhile c tb) Δ P:=λg G H σ E k q=>by
 obtain⟨m,h0⟩:=h0;refine⟨λm σ H=>∃G Δ,Ok K g G H σ Δ /\ I m Δ,⟨m,G,Δ,k,h0⟩,?_⟩;rintro m σ1 H1 ⟨G1,Δ1,k1,h1⟩;refine ht m Δ1 h1 g G1 H1 σ1 _ k1 λb G2 H2 Δ2 k2 s2 p2=>?_;cases b with
 |true=>
  refine⟨λσ' H'=>∃m',m'<m/\∃G Δ,Ok K g G H' σ' Δ /\ I m' Δ,λσ' H' ⟨m',hm,z⟩=>⟨m',hm,z⟩,?_⟩;refine(show JS K tb Δ2 _ from p2) g G2 H2 σ1 _ k2 ⟨λσ5 G5 H5 Δ5 k5 ⟨m',hm,p5⟩=>⟨m',hm,G5,Δ5,k5,p5⟩,q.rt,q.nx,λσ5 G5 H5 Δ5 k5 ⟨m',hm,p5⟩=>⟨m',hm,G5,Δ5,k5,p5⟩,q.ro⟩
 |false=>exact q.nx σ1 G2 H2 Δ2 k2 p2
end
section
variable {K:W.Frag}{Δ:Evt}{P:D->Evt->Prop}
theorem jr_I {C:Int->Int->Prop}{f:Int->Int->Int}{i j:Int}(hc:C i j) (p:P (.int (f i j)) Δ):JR2 K (rI C λi j=>.int (f i j)) (.int i) (.int j) Δ P:=λg G H σ Q x y k rx ry c=>by
 cases rx.inv;cases ry.inv;exact⟨i,j,rfl,rfl,hc,c _ _ G H Δ k (Same.refl _) (.int _) p⟩
theorem Zfj {f:Int->Int->Int}{i j:Int}(p:P (.int (f i j)) Δ):JR2 K (rI0 λi j=>.int (f i j)) (.int i) (.int j) Δ P:=λg G H σ Q x y k rx ry c=>by
 cases rx.inv;cases ry.inv;exact⟨i,j,rfl,rfl,c _ _ G H Δ k (Same.refl _) (.int _) p⟩
theorem Zq8 {f:Int->Int->Bool}{i j:Int}(p:P (.bl (f i j)) Δ):JR2 K (rI0 λi j=>.bl (f i j)) (.int i) (.int j) Δ P:=λg G H σ Q x y k rx ry c=>by
 cases rx.inv;cases ry.inv;exact⟨i,j,rfl,rfl,c _ _ G H Δ k (Same.refl _) (.bl _) p⟩
theorem Zef {i j:Int}(p:P (.bl (decide (i=j))) Δ):JR2 K rEq (.int i) (.int j) Δ P:=λg G H σ Q x y k rx ry c=>by
 cases rx.inv;cases ry.inv;refine⟨rfl,?_⟩;have e:decide (V.int i=V.int j)=decide (i=j):=by rw[Zih];exact(Wd5 i j)
 rw[e];exact c _ _ G H Δ k (Same.refl _) (.bl _) p
theorem Zw5 {i j:Int}(p:P (.bl (!decide (i=j))) Δ):JR2 K rNe (.int i) (.int j) Δ P:=λg G H σ Q x y k rx ry c=>by
 cases rx.inv;cases ry.inv;refine⟨rfl,?_⟩;have e:decide (V.int i=V.int j)=decide (i=j):=by rw[Zih];exact(Wd5 i j)
 rw[e];exact c _ _ G H Δ k (Same.refl _) (.bl _) p
theorem Zv0 {ds:List D}{i:Int}{d:D}(h:atI ds i=some d) (p:P d Δ):JR2 K (rIxT K) (.tup ds) (.int i) Δ P:=λg G H σ Q x y k rx ry c=>by
 obtain⟨_,_,rfl,ha,rs⟩:=rx.inv
 next=>
  cases ry.inv;obtain⟨v,h1,h2⟩:=Zhk rs h;exact⟨_,_,i,v,rfl,rfl,SqT.of (k.live _ _ ha),h1,c v d G H Δ k (Same.refl _) h2 p⟩
theorem Zwv {ds:List D}{i:Int}{d:D}(h:atI ds i=some d) (p:P d Δ):JR2 K (rIxL K) (.lst ds) (.int i) Δ P:=λg G H σ Q x y k rx ry c=>by
 obtain⟨_,_,rfl,ha,rs⟩:=rx.inv
 next=>
  cases ry.inv;obtain⟨v,h1,h2⟩:=Zhk rs h;exact⟨_,_,i,v,rfl,rfl,SqL.of (k.live _ _ ha),h1,c v d G H Δ k (Same.refl _) h2 p⟩
theorem Zpc {n:Nat}{te:TE}{Pp:Pst}{x:Slot}{od:OD}(hx:Δ[n]?=some x) (ho:x.od=some od) (hod:∃ds,od=.lst ds)
  (h:JE K te Δ λd Δ1=>∃y ds,Δ1[n]?=some y/\y.od=some (.lst ds)/\ds.length<sizeLine/\Pp.nx (Δ1.set n (y.put (.lst (ds++[d]))))) :
  JS K (tDrop (tBM K "list" rAppend (tVar n) (tCons te tNil))) Δ Pp:=λg G H σ E k c=>by
 obtain⟨a,o,h1,h2,h3,h4,h5⟩:=k.own n x _ hx ho;obtain⟨ds0,hod⟩:=hod;subst hod;cases o with
 |lst vs0=>
  refine⟨.ref a,h1,.inl ⟨rfl,_,SqL.of h2⟩,h g G H σ _ k λv d G1 H1 Δ1 k1 s1 r1 ⟨y,ds,q1,q2,q3,p⟩=>?_⟩;obtain⟨a',o',w1,w2,w3,w4,w5⟩:=k1.own n y _ q1 q2;rw[h1]at w1;cases w1;cases o' with
  |lst vs=>
   have w3:Reps K G1 vs ds:=w3;exact⟨a,vs,v,rfl,rfl,w2,by rw[w3.length];exact q3,c.nx σ G1 _ _ (k1.write q1 q2 h1 (show OwnRep K G1 (.lst (vs++[v])) (.lst (ds++[d])) from w3.append (.cons r1 .nil))) p⟩
  |_=>exact absurd w3 (λz=>z)
 |_=>exact absurd h3 (λz=>z)
theorem Zvm {ds es:List D}(he:ds=[.lst es]\/ds=[.tup es]) (p:P (.int es.length) Δ) :
  JC K (λxs H Q=>∃p ys,xs=[.ref p]/\(SqL K H p ys\/SqT K H p ys)/\Q (.int ys.length) H) ds Δ P:=λg G H σ Q vs k rs c=>by
 rcases he with he|he <;> subst he
 ·obtain⟨_,_,rfl,r,t⟩:=rs.inv
  next=>
   cases t.inv;obtain⟨_,_,rfl,ha,rs⟩:=r.inv
   next=>
    refine⟨_,_,rfl,.inl (SqL.of (k.live _ _ ha)),?_⟩;rw[rs.length];exact c _ _ G H Δ k (Same.refl _) (.int _) p
 ·obtain⟨_,_,rfl,r,t⟩:=rs.inv
  next=>
   cases t.inv;obtain⟨_,_,rfl,ha,rs⟩:=r.inv
   next=>
    refine⟨_,_,rfl,.inr (SqT.of (k.live _ _ ha)),?_⟩;rw[rs.length];exact c _ _ G H Δ k (Same.refl _) (.int _) p
theorem Zuj {n:Nat}{x:Slot}{ds:List D}(hx:Δ[n]?=some x) (ho:x.od=some (.lst ds)) (p:P (.int ds.length) Δ) :
  JE K (tCB (λxs H Q=>∃p ys,xs=[.ref p]/\(SqL K H p ys\/SqT K H p ys)/\Q (.int ys.length) H) (tCons (tVar n) tNil)) Δ P:=λg G H σ Q k c=>by
 obtain⟨a,o,h1,h2,h3,h4,h5⟩:=k.own n x _ hx ho;cases o with
 |lst vs=>
  have h3:Reps K G vs ds:=h3;refine⟨.ref a,h1,a,vs,rfl,.inl (SqL.of h2),?_⟩;rw[h3.length];exact c _ _ G H Δ k (Same.refl _) (.int _) p
 |_=>exact absurd h3 (λz=>z)
theorem Zwt {i:Int}(p:P (.int (if i<0 then -i else i)) Δ):JC K (λxs H Q=>∃i,xs=[.int i]/\Q (.int (if i<0 then -i else i)) H) [.int i] Δ P:=λg G H σ Q vs k rs c=>by
 obtain⟨_,_,rfl,r,t⟩:=rs.inv
 next=>cases t.inv;cases r.inv;exact⟨i,rfl,c _ _ G H Δ k (Same.refl _) (.int _) p⟩
theorem Zfg {f:Int->Int->Int}{i j:Int}(p:P (.int (f i j)) Δ):JC K (λxs H Q=>∃i j,xs=[.int i,.int j]/\Q (.int (f i j)) H) [.int i,.int j] Δ P:=λg G H σ Q vs k rs c=>by
 obtain⟨_,_,rfl,r,t⟩:=rs.inv
 next=>
  obtain⟨_,_,rfl,r',t⟩:=t.inv
  next=>cases t.inv;cases r.inv;cases r'.inv;exact⟨i,j,rfl,c _ _ G H Δ k (Same.refl _) (.int _) p⟩
theorem Zqa {ds es:List D}(he:ds=[.lst es]\/ds=[.tup es]) (p:P (.tup es) Δ) :
  JC K (λxs H Q=>∃p ys,xs=[.ref p]/\((SqL K H p ys/\∀l,H l=none->Q (.ref l) (upd H l (.tup ys)))\/(SqT K H p ys/\Q (.ref p) H))) ds Δ P:=λg G H σ Q vs k rs c=>by
 rcases he with he|he <;> subst he
 ·obtain⟨_,_,rfl,r,t⟩:=rs.inv
  next=>
   cases t.inv;obtain⟨_,_,rfl,ha,rs⟩:=r.inv
   next=>
    refine⟨_,_,rfl,.inl ⟨SqL.of (k.live _ _ ha),λl hl=>?_⟩⟩;obtain⟨k2,sg⟩:=k.laid hl (.tup _);exact c _ _ _ _ Δ k2 sg (.tup Zas (rs.mono sg)) p
 ·obtain⟨_,_,rfl,r,t⟩:=rs.inv
  next=>
   cases t.inv;obtain⟨_,_,rfl,ha,rs⟩:=r.inv
   next=>exact⟨_,_,rfl,.inr ⟨SqT.of (k.live _ _ ha),c _ _ G H Δ k (Same.refl _) (.tup ha rs) p⟩⟩
def glue (F H H':Hp):Hp:=λb=>match H b with
 |none=>H' b
 |some _=>F b
theorem Zfn {F H H':Hp}{b:Addr}(h:H b=none):glue F H H' b=H' b:=by unfold glue;rw[h]
theorem Zd2 {F H H':Hp}{b:Addr}{o:HO}(h:H b=some o):glue F H H' b=F b:=by unfold glue;rw[h]
theorem Zie {G H H':Hp}(l:Same G H):Same G (glue G H H'):=λb o e=>by rw[Zd2 (l b o e)];exact e
theorem Zjm {G H H':Hp}(l:Same G H) (sh:∀b o,G b=some o->H b=some o->H' b=some o):∀b o,glue G H H' b=some o->H' b=some o/\(G b=some o\/H b=none):=λb o e=>by
 cases q:H b with
 |none=>rw[Zfn q]at e;exact⟨e,.inr rfl⟩
 |some u=>rw[Zd2 q]at e;exact⟨sh b o e (l b o e),.inl e⟩
abbrev DSp:=List D->(D->Prop)->Prop
def spD (K:W.Frag) (f:DSp):Sp:=λvs H Q _=>∃F ds Post,Same F H/\Reps K F vs ds/\f ds Post/\∀r H' d,Same H H' -> Rep K (glue F H H') r d->Post d->Q r H'
theorem Zar {f:DSp}{ta:TA}{E:XK}(h:JA K ta Δ λds Δ1=>f ds λd=>P d Δ1):JE K (tCall (spD K f) [] E ta) Δ P:=λg G H σ Q k c=>
 h g G H σ _ k λvs ds G1 H1 Δ1 k1 s1 r1 p1=>by
  show spD K f (vs++[]) H1 Q E;rw[Wbb];refine⟨G1,ds,_,k1.live,r1,p1,λr H' d sh rr pd=>?_⟩;have sg:=Zie (H':=H') k1.live;exact c r d _ H' Δ1 (k1.grow sg sh (Zjm k1.live λb o _ e=>sh b o e)) (s1.trans sg) rr pd
abbrev BSp:=List D->List D->(D->List D->Prop)->Prop
def spB (K:W.Frag) (f:BSp):Sp:=λvs H Q _=>∃F a us ws ps ds Post,vs=.ref a::ws/\Same F H/\F a=none/\H a=some (.lst us)/\Reps K F us ps/\Reps K F ws ds/\f ps ds Post ∧
 ∀r H' us' ps' d,(∀b o,b≠a->H b=some o->H' b=some o)->H' a=some (.lst us')->Reps K (glue F H H') us' ps' -> Rep K (glue F H H') r d->Post d ps' -> Q r H'
theorem Ok.lend {g:Gm}{G H H':Hp}{σ:St}(k:Ok K g G H σ Δ) {i:Nat}{x:Slot}{ps ps':List D}{us':List V}{a:Addr}(hx:Δ[i]?=some x) (ho:x.od=some (.lst ps)) (ha:σ[i]?=some (some (.ref a)))
  (sh:∀b o,b≠a->H b=some o->H' b=some o) (hn:H' a=some (.lst us')) (r:Reps K (glue G H H') us' ps'):Ok K g (glue G H H') H' σ (Δ.set i (x.put (.lst ps')))/\Same G (glue G H H'):=by
 obtain⟨a',o,h1,h2,h3,h4,h5⟩:=k.own i x _ hx ho;rw[ha]at h1;cases h1;have sg:=Zie (H':=H') k.live;have k2:Ok K g (glue G H H') (upd H' a o) σ Δ:=by
  refine k.grow sg (λb u e=>?_) λb u e=>?_
  ·by_cases hb:b=a
   ·subst hb;rw[Zas,<- h2];exact e
   ·rw[Zap hb];exact sh b u hb e
  ·have hb:b≠a:=by intro z;subst z;rw[Zd2 h2,h4]at e;cases e
   rw[Zap hb];exact Zjm k.live (λc w e1 e2=>sh c w (λz=>by subst z;rw[h4]at e1;cases e1) e2) b u e
 have k3:=k2.write hx ho ha (show OwnRep K (glue G H H') (.lst us') (.lst ps') from r);rw[Zuu]at k3;have e:upd H' a (.lst us')=H':=by
  funext b
  by_cases hb:b=a
  ·subst hb;rw[Zas,hn]
  ·rw[Zap hb]
 rw[e]at k3;exact⟨k3,sg⟩
theorem Zcj {f:BSp}{ta:TA}{E:XK}{i:Nat}{x:Slot}{od:OD}(hx:Δ[i]?=some x) (ho:x.od=some od) (h:JA K ta Δ λds Δ1=>∃y ps,Δ1[i]?=some y/\y.od=some (.lst ps)/\f ps ds λd ps'=>P d (Δ1.set i (y.put (.lst ps')))) :
  JE K (tCall (spB K f) [] E (tCons (tVar i) ta)) Δ P:=λg G H σ Q k c=>by
 obtain⟨a,o,h1,h2,h3,h4,h5⟩:=k.own i x _ hx ho;refine⟨.ref a,h1,h g G H σ _ k λvs ds G1 H1 Δ1 k1 s1 r1 ⟨y,ps,q1,q2,p1⟩=>?_⟩;show spB K f ((.ref a::vs)++[]) H1 Q E;rw[Wbb];obtain⟨a',o',w1,w2,w3,w4,w5⟩:=k1.own i y _ q1 q2;rw[h1]at w1;cases w1;cases o' with
 |lst us=>
  refine⟨G1,a,us,vs,ps,ds,_,rfl,k1.live,w4,w2,w3,r1,p1,λr H' us' ps' d sh hn rr rd pd=>?_⟩;obtain⟨k2,sg⟩:=k1.lend q1 q2 h1 sh hn rr;exact c r d _ H' _ k2 (s1.trans sg) rd pd
 |_=>exact absurd w3 (λz=>z)
abbrev NSp:=List D->(List D->Prop)->Prop
def spN (K:W.Frag) (f:NSp):Sp:=λvs H Q _=>∃F ds Post,Same F H/\Reps K F vs ds/\f ds Post ∧
 ∀a H' us ps,Same H H' -> H a=none->H' a=some (.lst us)->Reps K (λb=>if b=a then none else glue F H H' b) us ps->Post ps->Q (.ref a) H'
theorem Zcz {f:NSp}{ta:TA}{E:XK}{Po:OD->Evt->Prop}(h:JA K ta Δ λds Δ1=>f ds λps=>Po (.lst ps) Δ1):JO K (tCall (spN K f) [] E ta) Δ Po:=λg G H σ Q k c=>
 h g G H σ _ k λvs ds G1 H1 Δ1 k1 s1 r1 p1=>by
  show spN K f (vs++[]) H1 Q E;rw[Wbb];refine⟨G1,ds,_,k1.live,r1,p1,λa H' us ps sh ha hn rr pd=>?_⟩;have sg:Same G1 (λb=>if b=a then none else glue G1 H1 H' b):=λb o e=>by
   have hb:b≠a:=by intro z;subst z;rw[k1.live _ _ e]at ha;cases ha
   try dsimp only
   rw[if_neg hb];exact Zie k1.live b o e
  have k2:Ok K g (λb=>if b=a then none else glue G1 H1 H' b) H' σ Δ1:=k1.grow sg sh λb o e=>by
   try dsimp only at e
   by_cases hb:b=a
   ·rw[if_pos hb]at e;cases e
   ·rw[if_neg hb]at e;exact Zjm k1.live (λb o _ e=>sh b o e) b o e
  refine c a _ _ H' Δ1 k2 (s1.trans sg) ⟨.lst us,hn,(show OwnRep K _ (.lst us) (.lst ps) from rr),by simp,k1.there ha,?_,λj x od' e1 e2 e3=>?_⟩ pd
  ·cases q:g.Xo a with
   |none=>rfl
   |some u=>have z:=(k1.ext a u q).1;rw[ha]at z;cases z
  ·obtain⟨b,oo,w1,w2,_⟩:=k1.own j x od' e1 e2
   rw[e3]at w1;cases w1;rw[ha]at w2;cases w2
end
def startD (N:List Str) (ds:List D):Evt:=ds.map .val++Wag (N.length-ds.length) .any
section
variable {K:W.Frag}
theorem Zhl {g:Gm}{G H:Hp}{N:List Str}{vs:List V}{ds:List D}(rs:Reps K G vs ds) (hl:ds.length<=N.length) (same:∀b o,¬ g.B b->g.Hz b=some o->H b=some o) (lent:∀b,g.B b->H b≠none) (sub:Same g.F G)
  (frz:∀b o,G b=some o->H b=some o/\(g.Hz b=none\/g.F b=some o)) (ext:∀b,g.Xo b=none):Ok K g G H (start N vs) (startD N ds):=by
 have noOd:∀(i:Nat) x od,(startD N ds)[i]?=some x->x.od=some od->False:=λi x od e1 e2=>by
  have hm:=Wat e1;rcases Wbd.mp hm with z|z
  ·obtain⟨d,_,rfl⟩:=Way.mp z;cases e2
  ·rw[Wck]at z;rw[z.2]at e2;cases e2
 refine⟨same,lent,sub,frz,λb o e=>(by rw[ext b]at e;cases e),?_,λi d e=>?_,λi x od e1 e2=>(noOd i x od e1 e2).elim,λi j x y od od' a e1 e2=>(noOd i x od e1 e2).elim⟩
 ·unfold start startD
  rw[Waq,Waq,Wab,Wab,Waz,Waz,rs.length]
 ·unfold startD at e
  unfold start;by_cases hi:i<ds.length
  ·rw[Wa8 (by simpa using hi),Wad]at e
   cases q:ds[i]? with
   |none=>rw[q]at e;cases e
   |some d'=>
    rw[q]at e;have e:Slot.val d'=Slot.val d:=by simpa using e
    cases e;obtain⟨v,h1,h2⟩:=rs.get q;refine⟨v,?_,h2⟩;rw[Wa8 (by rw[Wab,rs.length];exact hi),Wad,h1];rfl
  ·rw[Wa0 (by simpa using hi),Wcb]at e
   split at e <;> cases e
theorem Zdl {f:DSp}{t:TS}{N:List Str}{vs:List V}{H:Hp}{Q:VK}{E:XK}(ht:∀ds Post,f ds Post->ds.length<=N.length/\JS K t (startD N ds) ⟨λ_=>Post .non,λd _=>Post d,λ_=>False,λ_=>False,λ_ _=>False⟩) (h:spD K f vs H Q E) :
  t { nx:=λ_ H'=>Q .non H',rt:=Q } (start N vs) H:=by
 obtain⟨F,ds,Post,l,rs,hf,q⟩:=h;obtain⟨hl,hj⟩:=ht ds Post hf;have fin:∀{v:V}{d:D}{σ:St}{G H':Hp}{Δ:Evt},Ok K ⟨λ_=>False,F,H,λ_=>none⟩ G H' σ Δ -> Rep K G v d->Post d->Q v H':=λ{v d σ G H' Δ} k r p=>by
  refine q v H' d (λb o e=>k.same b o (λz=>z) e) (r.mono λb o e=>?_) p;obtain⟨e1,e2⟩:=k.frz b o e;rcases e2 with z|z
  ·rw[Zfn z];exact e1
  ·rw[Zd2 (l b o z)];exact z
 refine hj ⟨λ_=>False,F,H,λ_=>none⟩ F H (start N vs) _ (Zhl rs hl (λ_ _ _ e=>e) (λ_ z=>z.elim) (Same.refl _) (λb o e=>⟨l b o e,.inr e⟩) λ_=>rfl) ⟨λσ G H' Δ k p=>fin k .non p,λv d σ G H' Δ k r p=>fin k r p,λ_ _ _ _ _ z=>z.elim,λ_ _ _ _ _ z=>z.elim,λ_ _ _ _ _ _ _ _ z=>z.elim⟩
theorem Zmn {f:NSp}{t:TS}{N:List Str}{vs:List V}{H:Hp}{Q:VK}{E:XK}(ht:∀ds Post,f ds Post->ds.length<=N.length/\JS K t (startD N ds) ⟨λ_=>False,λ_ _=>False,λ_=>False,λ_=>False,λod _=>∃ps,od=.lst ps/\Post ps⟩) (h:spN K f vs H Q E) :
  t { nx:=λ_ H'=>Q .non H',rt:=Q } (start N vs) H:=by
 obtain⟨F,ds,Post,l,rs,hf,q⟩:=h;obtain⟨hl,hj⟩:=ht ds Post hf;refine hj ⟨λ_=>False,F,H,λ_=>none⟩ F H (start N vs) _ (Zhl rs hl (λ_ _ _ e=>e) (λ_ z=>z.elim) (Same.refl _) (λb o e=>⟨l b o e,.inr e⟩) λ_=>rfl) ⟨λ_ _ _ _ _ z=>z.elim,λ_ _ _ _ _ _ _ _ z=>z.elim,λ_ _ _ _ _ z=>z.elim,λ_ _ _ _ _ z=>z.elim,λa od σ G H' Δ k pd ⟨ps,e,p⟩=>?_⟩;subst e;obtain⟨o,h1,h2,h3,h4,h5,h6⟩:=pd;cases o with
 |lst us=>
  refine q a H' us ps (λb o e=>k.same b o (λz=>z) e) h4 h1 (Reps.mono (λb o e=>?_) (show Reps K G us ps from h2)) p;have hb:b≠a:=by intro z;subst z;rw[h3]at e;cases e
  try dsimp only
  rw[if_neg hb];obtain⟨e1,e2⟩:=k.frz b o e;rcases e2 with z|z
  ·rw[Zfn z];exact e1
  ·rw[Zd2 (l b o z)];exact z
 |_=>exact absurd h2 (λz=>z)
theorem Zmv {f:BSp}{t:TS}{N:List Str}{vs:List V}{H:Hp}{Q:VK}{E:XK}(ht:∀ps ds Post,f ps ds Post->ds.length+1<=N.length/\JS K t (.bor (.lst ps)::startD N.tail ds) ⟨λΔ=>∃ps',Δ[0]?=some (.bor (.lst ps'))/\Post .non ps',λd Δ=>∃ps',Δ[0]?=some (.bor (.lst ps'))/\Post d ps',λ_=>False,λ_=>False,λ_ _=>False⟩) (h:spB K f vs H Q E) :
  t { nx:=λ_ H'=>Q .non H',rt:=Q } (start N vs) H:=by
 obtain⟨F,a,us,ws,ps,ds,Post,rfl,l,fa,ha,ru,rs,hf,q⟩:=h;obtain⟨hl,hj⟩:=ht ps ds Post hf;have fin:∀{v:V}{d:D}{σ:St}{G H':Hp}{Δ:Evt}{ps':List D},Ok K ⟨λb=>b=a,F,H,λ_=>none⟩ G H' σ Δ -> Δ[0]?=some (.bor (.lst ps'))->Rep K G v d->Post d ps' -> Q v H':=λ{v d σ G H' Δ ps'} k e0 r p=>by
  obtain⟨a',o,h1,h2,h3,h4,h5⟩:=k.own 0 _ _ e0 rfl;have ea:a'=a:=h5;subst ea;cases o with
  |lst us'=>
   have up:Same G (glue F H H'):=λb o e=>by
    obtain⟨e1,e2⟩:=k.frz b o e;rcases e2 with z|z
    ·rw[Zfn z];exact e1
    ·rw[Zd2 (l b o z)];exact z
   exact q v H' us' ps' d (λb o hb e=>k.same b o hb e) h2 (Reps.mono up (show Reps K G us' ps' from h3)) (r.mono up) p
  |_=>exact absurd h3 (λz=>z)
 cases N with
 |nil=>simp at hl
 |cons n0 N=>
  have hl':ds.length<=N.length:=by simpa using hl
  have k0:=Zhl (K:=K) (H:=H) (g:=⟨λb=>b=a,F,H,λ_=>none⟩) (N:=N) rs hl' (λ_ _ _ e=>e) (λb z=>by subst z;rw[ha];intro w;cases w) (Same.refl _) (λb o e=>⟨l b o e,.inr e⟩) λ_=>rfl;have e1:start (n0::N) (.ref a::ws)=some (.ref a)::start N ws:=by
   unfold start;rw[Wbe,Waj,Waj,Nat.add_sub_add_right];rfl
  rw[e1];have noOd:∀(i:Nat) x od,(startD N ds)[i]?=some x->x.od=some od->False:=λi x od e1 e2=>by
   have hm:=Wat e1;rcases Wbd.mp hm with z|z
   ·obtain⟨d,_,rfl⟩:=Way.mp z;cases e2
   ·rw[Wck]at z;rw[z.2]at e2;cases e2
  have k1:Ok K ⟨λb=>b=a,F,H,λ_=>none⟩ F H (some (.ref a)::start N ws) (.bor (.lst ps)::startD N ds):=by
   refine⟨k0.same,k0.lent,k0.sub,k0.frz,λb o e=>(by cases e),(by rw[Waj,Waj,k0.len]),λi d e=>?_,λi x od e1 e2=>?_,λi j x y od od' c e1 e2 e3 e4 _ _=>?_⟩
   ·cases i with
    |zero=>cases e
    |succ i=>exact k0.val i d e
   ·cases i with
    |zero=>cases e1;cases e2;exact⟨a,.lst us,rfl,ha,ru,fa,rfl⟩
    |succ i=>exact(noOd i x od e1 e2).elim
   ·cases i with
    |zero=>cases j with
     |zero=>rfl
     |succ j=>exact(noOd j y od' e3 e4).elim
    |succ i=>exact(noOd i x od e1 e2).elim
  exact hj _ F H _ _ k1 ⟨λσ G H' Δ k ⟨ps',e,p⟩=>fin k e .non p,λv d σ G H' Δ k r ⟨ps',e,p⟩=>fin k e r p,λ_ _ _ _ _ z=>z.elim,λ_ _ _ _ _ z=>z.elim,λ_ _ _ _ _ _ _ _ z=>z.elim⟩
theorem Zbi {f:DSp}{n:Nat}(h:∀ds Post,f ds Post->ds.length=n):∀vs H Q E,spD K f vs H Q E->vs.length=n:=λvs H Q E hq_=>by obtain⟨F,ds,Post,l,rs,hf,q⟩:=hq_;rw[rs.length];exact h ds Post hf
theorem Zfc {f:NSp}{n:Nat}(h:∀ds Post,f ds Post->ds.length=n):∀vs H Q E,spN K f vs H Q E->vs.length=n:=λvs H Q E hq_=>by obtain⟨F,ds,Post,l,rs,hf,q⟩:=hq_;rw[rs.length];exact h ds Post hf
theorem Ze9 {f:BSp}{n:Nat}(h:∀ps ds Post,f ps ds Post->ds.length+1=n):∀vs H Q E,spB K f vs H Q E->vs.length=n:=λvs H Q E hq_=>by obtain⟨F,a,us,ws,ps,ds,Post,e,l,fa,ha,ru,rs,hf,q⟩:=hq_;rw[e,Waj,rs.length];exact h ps ds Post hf
end
def JGn (K:W.Frag) (n:Nat) (t:TG) (d:D) (Δ:Evt) (P:Evt->Prop):Prop:=
 ∀g G H σ v (R:St->Hp->Prop),Ok K g G H σ Δ -> Rep K G v d->(∀σ' G' H' Δ',Ok K g G' H' σ' Δ' -> Same G G' -> (∀j,n<=j -> σ'[j]? = σ[j]?)->P Δ' -> R σ' H')->t v σ H R
def JGsn (K:W.Frag) (n:Nat) (t:TGs) (ds:List D) (Δ:Evt) (P:Evt->Prop):Prop:=
 ∀g G H σ vs (R:St->Hp->Prop),Ok K g G H σ Δ -> Reps K G vs ds->(∀σ' G' H' Δ',Ok K g G' H' σ' Δ' -> Same G G' -> (∀j,n<=j -> σ'[j]? = σ[j]?)->P Δ' -> R σ' H')->t vs σ H R
section
variable {K:W.Frag}{Δ:Evt}
theorem Zq2 {n:Nat}{P:Evt->Prop}(p:P Δ):JGsn K n gNil [] Δ P:=λg G H σ vs R k r c=>by cases r;exact⟨rfl,c σ G H Δ k (Same.refl _) (λ_ _=>rfl) p⟩
theorem Zi6 {n:Nat}{t:TG}{u:TGs}{d:D}{ds:List D}{P:Evt->Prop}(h:JGn K n t d Δ λΔ1=>JGsn K n u ds Δ1 P):JGsn K n (gCons t u) (d::ds) Δ P:=λg G H σ vs R k r c=>by
 obtain⟨_,_,rfl,r1,rr⟩:=r.inv
 next=>exact⟨_,_,rfl,h g G H σ _ _ k r1 λσ1 G1 H1 Δ1 k1 s1 e1 p1=>p1 g G1 H1 σ1 _ R k1 (rr.mono s1) λσ2 G2 H2 Δ2 k2 s2 e2 p2=>c σ2 G2 H2 Δ2 k2 (s1.trans s2) (λj hj=>(e2 j hj).trans (e1 j hj)) p2⟩
theorem Zs0 {n m:Nat}{t:TGs}{ds:List D}{P:Evt->Prop}(hl:ds.length=m) (h:JGsn K n t ds Δ P):JGn K n (gTup K m t) (.tup ds) Δ P:=λg G H σ v R k r c=>by
 obtain⟨_,_,rfl,ha,rs⟩:=r.inv
 next=>exact⟨_,_,rfl,SqT.of (k.live _ _ ha),by rw[rs.length];exact hl,h g G H σ _ R k rs c⟩
end
def compD (n:Nat) (sel:List Nat) (Δ:Evt):Evt:=Wag n .any++sel.map λi=>(Δ[i]?).getD .any
def backAt (n:Nat) (sel:List Nat) (Δi:Evt) (i:Nat) (x:Slot):Slot:=match x with
 |.val d=>.val d
 |.any=>.any
 |x=>match sel.idxOf? i with
  |none=>x
  |some j=>match Δi[n+j]? with
   |some (.own o)=>.own o
   |some (.bor o)=>.bor o
   |some (.ownA a o)=>.ownA a o
   |_=>.any
def backD (n:Nat) (sel:List Nat) (Δi:Evt):Nat->Evt->Evt
 |_,[]=>[]
 |i,x::r=>backAt n sel Δi i x::backD n sel Δi (i+1) r
theorem Zc7 (n:Nat) (sel:List Nat) (Δi:Evt):∀(Δ:Evt) (k i:Nat),(backD n sel Δi k Δ)[i]?=(Δ[i]?).map (backAt n sel Δi (k+i))
 |[],k,i=>by simp[backD]
 |x::r,k,0=>by simp[backD]
 |x::r,k,i+1=>by
  have:=Zc7 n sel Δi r (k+1) i;simp only[backD,Wd3];rw[this,show k+1+i=k+(i+1) by omega]
theorem Zi3 (n:Nat) (sel:List Nat) (Δi:Evt):∀(Δ:Evt) (k:Nat),(backD n sel Δi k Δ).length = Δ.length
 |[],k=>rfl
 |x::r,k=>by simp[backD,Zi3 n sel Δi r (k+1)]
theorem Zeu {sel:List Nat}{i j:Nat}(h:sel.idxOf? i=some j):sel[j]?=some i:=by
 have h2:=List.idxOf?_eq_some_iff.mp h;obtain⟨hj,e,_⟩:=h2;rw[Waa hj,e]
theorem Zn8 {n:Nat}{sel:List Nat}{Δi:Evt}{i:Nat}{x y:Slot}{od:OD}(h:backAt n sel Δi i x=y) (ho:y.od=some od) :
  (x=y/\sel.idxOf? i=none)\/∃j,sel[j]?=some i /\ Δi[n+j]?=some y/\∃od',x.od=some od':=by
 unfold backAt at h;cases x with
 |any=>subst h;cases ho
 |val d=>subst h;cases ho
 |own o=>
  dsimp only at h;cases q:sel.idxOf? i with
  |none=>rw[q]at h;exact .inl ⟨h,rfl⟩
  |some j=>
   rw[q]at h;dsimp only at h;refine .inr ⟨j,Zeu q,?_,o,rfl⟩;cases e:Δi[n+j]? with
   |none=>rw[e]at h;subst h;cases ho
   |some z=>rw[e]at h;cases z <;> (subst h;first|rfl|cases ho)
 |ownA a o=>
  dsimp only at h;cases q:sel.idxOf? i with
  |none=>rw[q]at h;exact .inl ⟨h,rfl⟩
  |some j=>
   rw[q]at h;dsimp only at h;refine .inr ⟨j,Zeu q,?_,o,rfl⟩;cases e:Δi[n+j]? with
   |none=>rw[e]at h;subst h;cases ho
   |some z=>rw[e]at h;cases z <;> (subst h;first|rfl|cases ho)
 |bor o=>
  dsimp only at h;cases q:sel.idxOf? i with
  |none=>rw[q]at h;exact .inl ⟨h,rfl⟩
  |some j=>
   rw[q]at h;dsimp only at h;refine .inr ⟨j,Zeu q,?_,o,rfl⟩;cases e:Δi[n+j]? with
   |none=>rw[e]at h;subst h;cases ho
   |some z=>rw[e]at h;cases z <;> (subst h;first|rfl|cases ho)
section
variable {K:W.Frag}{Δ:Evt}
open Classical in
noncomputable def aside (g:Gm) (sel:List Nat) (σ:St) (Δ:Evt) (H:Hp) (acc:Addr) (ys:List V):Hp:=λb=>
 if b=acc then some (.lst ys) else if ∃(i:Nat) (x:Slot) (od:OD),Δ[i]?=some x/\x.od=some od/\i ∉ sel /\ σ[i]?=some (some (.ref b)) then H b else g.Xo b
theorem Zdz {n:Nat}{sel:List Nat}{σ:St}{j i:Nat}(h:sel[j]?=some i):(compSt n sel σ)[n+j]?=some ((σ[i]?).getD none):=by
 unfold compSt;rw[Wa0 (by rw[Waz];omega),Waz,Nat.add_sub_cancel_left,Wad,h];rfl
theorem Zco {n:Nat}{sel:List Nat}{Δ:Evt}{k:Nat}{x:Slot}(h:(compD n sel Δ)[k]?=some x):x=.any\/∃j i,k=n+j/\sel[j]?=some i /\ Δ[i]?=some x:=by
 unfold compD at h;by_cases hk:k<n
 ·rw[Wa8 (by simpa using hk),Wcb,if_pos hk]at h
  exact .inl (Wbh.inj h).symm
 ·rw[Wa0 (by simpa using hk),Waz,Wad]at h
  cases e:sel[k-n]? with
  |none=>rw[e]at h;cases h
  |some i=>
   rw[e]at h;have h:(Δ[i]?).getD .any=x:=by simpa using h
   cases q:Δ[i]? with
   |none=>rw[q]at h;exact .inl h.symm
   |some y=>rw[q]at h;cases h;exact .inr ⟨k-n,i,by omega,e,q⟩
theorem Zhb {g:Gm}{G1 H1:Hp}{σ:St}{Δ1:Evt}{n:Nat}{sel:List Nat}{acc:Addr}{X0:Hp}(hsel:sel.Nodup) (k1:Ok K g G1 H1 σ Δ1) (hacc:H1 acc=none)
  (hX:∀b o,X0 b=some o->(b=acc/\o=.lst [])\/(b≠acc/\(((∃(i:Nat) (x:Slot) (od:OD),Δ1[i]?=some x/\x.od=some od/\i ∉ sel /\ σ[i]?=some (some (.ref b)))/\H1 b=some o)\/g.Xo b=some o))):Ok K ⟨g.B,G1,g.Hz,X0⟩ G1 (upd H1 acc (.lst [])) (compSt n sel σ) (compD n sel Δ1):=by
 have hsl:∀{j j' i:Nat},sel[j]?=some i->sel[j']?=some i->j=j':=λ{j j' i} a b=>by
  obtain⟨h1,e1⟩:=Waf.mp a;obtain⟨h2,e2⟩:=Waf.mp b;exact(Wdn hsel).mp (e1.trans e2.symm)
 have hGa:G1 acc=none:=by
  cases e:G1 acc with
  |none=>rfl
  |some u=>rw[k1.live _ _ e]at hacc;cases hacc
 have cs:∀{j i:Nat}{a:Addr},sel[j]?=some i->(compSt n sel σ)[n+j]?=some (some (.ref a)) -> σ[i]?=some (some (.ref a)):=λ{j i a} ej e3=>by
  rw[Zdz ej]at e3;cases q:σ[i]? with
  |none=>rw[q]at e3;cases e3
  |some w=>rw[q]at e3;cases e3;rfl
 have oldH:∀b o,H1 b=some o->(upd H1 acc (.lst [])) b=some o:=λb o e=>by rw[Zap (Zau e hacc)];exact e
 refine⟨λb o hb e=>oldH b o (k1.same b o hb e),λb hb z=>?_,Same.refl _,λb o e=>⟨oldH b o (k1.live b o e),.inr e⟩,λb o e=>?_,?_,λi d e=>?_,λi x od e1 e2=>?_,λi j x y od od' a e1 e2 e3 e4 e5 e6=>?_⟩
 ·cases q:H1 b with
  |none=>exact k1.lent b hb q
  |some u=>rw[oldH b u q]at z;cases z
 ·rcases hX b o e with ⟨rfl,rfl⟩|⟨hb,⟨⟨i0,x0,od0,f1,f2,f3,f4⟩,e⟩|e⟩
  ·refine⟨Zas,hGa,λi x od e1 e2 e3=>?_⟩
   rcases Zco e1 with z|⟨j,i',ei,ej,z⟩
   ·subst z;cases e2
   ·subst ei
    obtain⟨a,o,w1,w2,_⟩:=k1.own i' x od z e2;rw[cs ej e3]at w1;cases w1;rw[hacc]at w2;cases w2
  ·obtain⟨a,oo,w1,w2,w3,w4,w5⟩:=k1.own i0 x0 od0 f1 f2
   rw[f4]at w1;cases w1;refine⟨oldH b o e,w4,λi x od e1 e2 e3=>?_⟩;rcases Zco e1 with z|⟨j,i',ei,ej,z⟩
   ·subst z;cases e2
   ·subst ei
    have:=k1.dis i0 i' x0 x od0 od b f1 f2 z e2 f4 (cs ej e3);subst this;exact f3 (Wat ej)
  ·obtain⟨w1,w2,w3⟩:=k1.ext b o e
   refine⟨oldH b o w1,w2,λi x od e1 e2 e3=>?_⟩;rcases Zco e1 with z|⟨j,i',ei,ej,z⟩
   ·subst z;cases e2
   ·subst ei;exact w3 i' x od z e2 (cs ej e3)
 ·unfold compD compSt
  simp
 ·rcases Zco e with z|⟨j,i',ei,ej,z⟩
  ·cases z
  ·subst ei
   obtain⟨v,w1,w2⟩:=k1.val i' d z;exact⟨v,by rw[Zdz ej,w1];rfl,w2⟩
 ·rcases Zco e1 with z|⟨j,i',ei,ej,z⟩
  ·subst z;cases e2
  ·subst ei
   obtain⟨a,o,w1,w2,w3,w4,w5⟩:=k1.own i' x od z e2;exact⟨a,o,by rw[Zdz ej,w1];rfl,oldH a o w2,w3,w4,w5⟩
 ·rcases Zco e1 with z|⟨j1,i1,ei,ej,z⟩
  ·subst z;cases e2
  ·rcases Zco e3 with z'|⟨j2,i2,ei',ej',z'⟩
   ·subst z';cases e4
   ·subst ei;subst ei'
    have:=k1.dis i1 i2 x y od od' a z e2 z' e4 (cs ej e5) (cs ej' e6);subst this;rw[hsl ej ej']
theorem Zh8 {σ σ2:St}{Δ1 Δ2:Evt}{n:Nat}{sel:List Nat}(hσ:∀j,n<=j -> σ2[j]?=(compSt n sel σ)[j]?) (i:Nat) (y:Slot) (od:OD) (e1:(backD n sel Δ2 0 Δ1)[i]?=some y) (e2:y.od=some od) :
  ∃x od',Δ1[i]?=some x/\x.od=some od' /\ ((x=y/\i ∉ sel)\/∃j,sel[j]?=some i /\ Δ2[n+j]?=some y /\ σ2[n+j]?=some ((σ[i]?).getD none)):=by
 rw[Zc7]at e1;cases q:Δ1[i]? with
 |none=>rw[q]at e1;cases e1
 |some x=>
  rw[q]at e1;have e1:backAt n sel Δ2 i x=y:=by simpa using e1
  rcases Zn8 e1 e2 with ⟨z1,z2⟩|⟨j,z1,z2,od',z3⟩
  ·refine⟨x,od,rfl,by rw[z1];exact e2,.inl ⟨z1,λhm=>?_⟩⟩
   rw[List.idxOf?_eq_none_iff]at z2;exact z2 hm
  ·exact⟨x,od',rfl,z3,.inr ⟨j,z1,z2,by rw[hσ (n+j) (by omega)];exact Zdz z1⟩⟩
theorem Zgd {g:Gm}{G1 H1 G2 H2 Xv:Hp}{σ σ2:St}{Δ1 Δ2:Evt}{n:Nat}{sel:List Nat}{acc:Addr}(k1:Ok K g G1 H1 σ Δ1) (hacc:H1 acc=none) (k2:Ok K ⟨g.B,G1,g.Hz,Xv⟩ G2 H2 σ2 Δ2) (hσ:∀j,n<=j -> σ2[j]?=(compSt n sel σ)[j]?)
  (hX:∀b o,b≠acc->(∃(i:Nat) (x:Slot) (od:OD),Δ1[i]?=some x/\x.od=some od/\i ∉ sel /\ σ[i]?=some (some (.ref b)))->H1 b=some o->Xv b=some o) (hY:∀b o,b≠acc->¬ (∃(i:Nat) (x:Slot) (od:OD),Δ1[i]?=some x/\x.od=some od/\i ∉ sel /\ σ[i]?=some (some (.ref b)))->g.Xo b=some o->Xv b=some o):Ok K g G2 H2 σ (backD n sel Δ2 0 Δ1):=by
 have s2:Same G1 G2:=k2.sub;have src:=Zh8 (Δ1:=Δ1) (Δ2:=Δ2) hσ;refine⟨k2.same,k2.lent,k1.sub.trans s2,λb o e=>?_,λb o e=>?_,by rw[Zi3,k1.len],λi d e=>?_,λi y od e1 e2=>?_,λi j x y od od' a e1 e2 e3 e4 e5 e6=>?_⟩
 ·obtain⟨q1,q2⟩:=k2.frz b o e
  refine⟨q1,?_⟩;rcases q2 with z|z
  ·exact .inl z
  ·exact(k1.frz b o z).2
 ·obtain⟨w1,w2,w3⟩:=k1.ext b o e
  have hne:b≠acc:=by intro z;subst z;rw[hacc]at w1;cases w1
  obtain⟨u1,u2,u3⟩:=k2.ext b o (hY b o hne (λ⟨i,x,od,f1,f2,f3,f4⟩=>w3 i x od f1 f2 f4) e);refine⟨u1,u2,λi y od e1 e2 e3=>?_⟩;obtain⟨x,od',f1,f2,_⟩:=src i y od e1 e2;exact w3 i x od' f1 f2 e3
 ·rw[Zc7]at e
  cases q:Δ1[i]? with
  |none=>rw[q]at e;cases e
  |some x=>
   rw[q]at e;have e:backAt n sel Δ2 (0+i) x=.val d:=by simpa using e
   have ex:x=.val d:=by
    unfold backAt at e;cases x with
    |any=>cases e
    |val d'=>exact e
    |own o=>dsimp only at e;split at e <;> first|cases e|(split at e <;> cases e)
    |bor o=>dsimp only at e;split at e <;> first|cases e|(split at e <;> cases e)
    |ownA a o=>dsimp only at e;split at e <;> first|cases e|(split at e <;> cases e)
   subst ex;obtain⟨v,w1,w2⟩:=k1.val i d q;exact⟨v,w1,w2.mono s2⟩
 ·obtain⟨x,od',f1,f2,f3⟩:=src i y od e1 e2
  rcases f3 with ⟨f3,f4⟩|⟨j,f3,f4,f5⟩
  ·subst f3
   obtain⟨a,o,w1,w2,w3,w4,w5⟩:=k1.own i x od f1 e2;have hne:a≠acc:=by intro z;subst z;rw[hacc]at w2;cases w2
   obtain⟨u1,u2,u3⟩:=k2.ext a o (hX a o hne ⟨i,x,od,f1,e2,f4,w1⟩ w2);exact⟨a,o,w1,u1,w3.mono s2,u2,w5⟩
  ·obtain⟨a,o,w1,w2,w3,w4,w5⟩:=k2.own (n+j) y od f4 e2
   obtain⟨a0,o0,v1,_⟩:=k1.own i x od' f1 f2;rw[f5,v1]at w1;have ea:a0=a:=by cases w1;rfl
   subst ea;exact⟨a0,o,v1,w2,w3,w4,w5⟩
 ·obtain⟨x',od1,f1,f2,_⟩:=src i x od e1 e2
  obtain⟨y',od2,f3,f4,_⟩:=src j y od' e3 e4;exact k1.dis i j x' y' od1 od2 a f1 f2 f3 f4 e5 e6
theorem Ok.base {g:Gm}{G1 F X G5 H5:Hp}{σ5:St}{Δ5:Evt}(sF:Same G1 F) (hF:∀b o,F b=some o->(g.Hz b=none\/G1 b=some o)) (k5:Ok K ⟨g.B,F,g.Hz,X⟩ G5 H5 σ5 Δ5):Ok K ⟨g.B,G1,g.Hz,X⟩ G5 H5 σ5 Δ5:=
 ⟨k5.same,k5.lent,sF.trans k5.sub,λb o q=>by
  obtain⟨q1,q2⟩:=k5.frz b o q;refine⟨q1,?_⟩;rcases q2 with z|z
  ·exact .inl z
  ·exact hF b o z,k5.ext,k5.len,k5.val,k5.own,k5.dis⟩
theorem Zo3 {n:Nat}{sel:List Nat}{wi:TI}{t:TG}{tc:TT}{te:TE}{P:OD->Evt->Prop}(hsel:sel.Nodup)
  (h:JI K wi Δ λds Δ1=>ds.length<sizeLine/\∃I:Nat->List D->Evt->Prop,I 0 [] (compD n sel Δ1) ∧
   (∀i d ys Δ2,ds[i]?=some d->I i ys Δ2->JGn K n t d Δ2 λΔ3=>JT K tc Δ3 λb Δ4=>if b=true then JE K te Δ4 λe Δ5=>I (i+1) (ys++[e]) Δ5 else I (i+1) ys Δ4) ∧
   ∀ys Δ2,I ds.length ys Δ2->P (.lst ys) (backD n sel Δ2 0 Δ1)):JO K (tComp n sel wi t tc te) Δ P:=λg G H σ Q k c=>
 h g G H σ _ k λJ ds G1 H1 Δ1 k1 s1 it ⟨hz,I,h0,ht,he⟩ acc hacc=>by
  have nacc:∀(i:Nat) x od,Δ1[i]?=some x->x.od=some od -> σ[i]?≠some (some (.ref acc)):=λi x od e1 e2 e3=>by
   obtain⟨a,o,w1,w2,_⟩:=k1.own i x od e1 e2;rw[e3]at w1;cases w1;rw[hacc]at w2;cases w2
  -- the word at each turn
  let Wd:Nat->St->Hp->Prop:=λi σ' H'=>i<=ds.length/\(∀j,n<=j -> σ'[j]?=(compSt n sel σ)[j]?)/\∃G ys vs Δi,ys.length<=i/\Reps K G vs ys/\Ok K ⟨g.B,G1,g.Hz,aside g sel σ Δ1 H1 acc vs⟩ G H' σ' Δi/\I i ys Δi
  refine⟨λi m σ' H'=>m=ds.length-i/\Wd i σ' H',⟨ds.length,by simp,Wbl _,λ_ _=>rfl,G1,[],[],compD n sel Δ1,Wah _,.nil,?_,h0⟩,?_⟩
  ·refine Zhb hsel k1 hacc λb o e=>?_
   have e:aside g sel σ Δ1 H1 acc [] b=some o:=e;unfold aside at e;by_cases hb:b=acc
   ·rw[if_pos hb]at e;cases e;exact .inl ⟨hb,rfl⟩
   ·rw[if_neg hb]at e
    split at e
    case isTrue hx=>exact .inr ⟨hb,.inl ⟨hx,e⟩⟩
    case isFalse hx=>exact .inr ⟨hb,.inr e⟩
  ·rintro i m σ2 H2 ⟨rfl,hi,hσ,G2,ys,vs,Δ2,hy,ry,k2,h2⟩
   have s2:Same G1 G2:=k2.sub;obtain⟨stop,go⟩:=it G2 H2 s2 k2.live;have hacc2:∀{G' H':Hp}{σ':St}{Δ':Evt}{vs:List V}{F:Hp},Ok K ⟨g.B,F,g.Hz,aside g sel σ Δ1 H1 acc vs⟩ G' H' σ' Δ' -> H' acc=some (.lst vs)/\G' acc=none/\∀(i:Nat) x od,Δ'[i]?=some x->x.od=some od -> σ'[i]?≠some (some (.ref acc)):=λ{G' H' σ' Δ' vs F} kk=>
    kk.ext acc (.lst vs) (by show aside g sel σ Δ1 H1 acc vs acc=_;unfold aside;rw[if_pos rfl])
   by_cases hlt:i<ds.length
   ·obtain⟨g1,g2⟩:=go i _ (Waa hlt)
    refine .inr ⟨g1,λσ' H'=>Wd (i+1) σ' H',λσ' H' p'=>⟨ds.length-(i+1),by omega,rfl,p'⟩,λx H3 y=>?_⟩;obtain⟨G3,a1,a2,a3,a4⟩:=g2 x H3 y;have k3:=k2.grow a1 a2 a3;have hG3:∀b o,G3 b=some o->(g.Hz b=none\/G1 b=some o):=λb o q=>(k3.frz b o q).2;have k3':Ok K ⟨g.B,G3,g.Hz,aside g sel σ Δ1 H1 acc vs⟩ G3 H3 σ2 Δ2:=⟨k3.same,k3.lent,Same.refl _,λb o q=>⟨(k3.frz b o q).1,.inr q⟩,k3.ext,k3.len,k3.val,k3.own,k3.dis⟩;have ry3:Reps K G3 vs ys:=ry.mono a1;have s13:Same G1 G3:=s2.trans a1;refine ht i _ ys Δ2 (Waa hlt) h2 ⟨g.B,G3,g.Hz,aside g sel σ Δ1 H1 acc vs⟩ G3 H3 σ2 x _ k3' a4 λσ4 G4 H4 Δ4 k4 s4 e4 p4=>?_;have hσ4:∀j,n<=j -> σ4[j]?=(compSt n sel σ)[j]?:=λj hj=>(e4 j hj).trans (hσ j hj);refine p4 _ G4 H4 σ4 _ k4 λb G5 H5 Δ5 k5 s5 p5=>?_;cases b with
    |false=>exact⟨hlt,hσ4,G5,ys,vs,Δ5,by omega,ry3.mono (s4.trans s5),k5.base s13 hG3,p5⟩
    |true=>
     refine(show JE K te Δ5 _ from p5) _ G5 H5 σ4 _ k5 λv d G6 H6 Δ6 k6 s6 r6 p6=>?_;have ry6:Reps K G6 vs ys:=ry3.mono (s4.trans (s5.trans s6));obtain⟨b1,b2,b3⟩:=hacc2 k6;refine⟨vs,b1,by rw[ry6.length];omega,hlt,hσ4,G6,ys++[d],vs++[v],Δ6,by rw[Waq,Wcl];omega,ry6.append (.cons r6 .nil),?_,p6⟩;have k7:=k6.base s13 hG3;have oldH:∀b o,b≠acc->H6 b=some o->(upd H6 acc (.lst (vs++[v]))) b=some o:=λb o hb e=>by rw[Zap hb];exact e
     have aNe:∀b o,b≠acc->aside g sel σ Δ1 H1 acc (vs++[v]) b=some o->aside g sel σ Δ1 H1 acc vs b=some o:=λb o hb e=>by
      unfold aside at e ⊢;rw[if_neg hb]at e ⊢;exact e
     refine⟨λb o hb e=>?_,λb hb=>?_,k7.sub,λb o e=>?_,λb o e=>?_,k7.len,k7.val,λi x od e1 e2=>?_,k7.dis⟩
     ·have hne:b≠acc:=by
       intro z;subst z;have e:g.Hz b=some o:=e;rw[k1.there hacc]at e;cases e
      exact oldH b o hne (k7.same b o hb e)
     ·by_cases hne:b=acc
      ·subst hne;rw[Zas];intro z;cases z
      ·rw[Zap hne];exact k7.lent b hb
     ·have hne:b≠acc:=by intro z;subst z;rw[b2]at e;cases e
      exact⟨oldH b o hne (k7.frz b o e).1,(k7.frz b o e).2⟩
     ·by_cases hne:b=acc
      ·subst hne
       have e:aside g sel σ Δ1 H1 b (vs++[v]) b=some o:=e;unfold aside at e;rw[if_pos rfl]at e;cases e;exact⟨Zas,b2,b3⟩
      ·obtain⟨w1,w2,w3⟩:=k7.ext b o (aNe b o hne e)
       exact⟨oldH b o hne w1,w2,w3⟩
     ·obtain⟨a,o,w1,w2,w3,w4,w5⟩:=k7.own i x od e1 e2
      have hne:a≠acc:=by intro z;subst z;exact b3 i x od e1 e2 w1
      exact⟨a,o,w1,oldH a o hne w2,w3,w4,w5⟩
   ·have e:i=ds.length:=by omega
    subst e;refine .inl ⟨stop,?_⟩;obtain⟨b1,b2,b3⟩:=hacc2 k2;have src:=Zh8 (Δ1:=Δ1) (Δ2:=Δ2) hσ;have k9:Ok K g G2 H2 σ (backD n sel Δ2 0 Δ1):=Zgd k1 hacc k2 hσ (λb o hb hx e=>by show aside g sel σ Δ1 H1 acc vs b=_;unfold aside;rw[if_neg hb,if_pos hx];exact e) (λb o hb hx e=>by show aside g sel σ Δ1 H1 acc vs b=_;unfold aside;rw[if_neg hb,if_neg hx];exact e);refine c acc _ G2 H2 _ k9 (s1.trans s2) ⟨.lst vs,b1,(show OwnRep K G2 (.lst vs) (.lst ys) from ry),b2,k1.there hacc,?_,λi y od e1 e2 e3=>?_⟩ (he ys Δ2 h2)
    ·cases q:g.Xo acc with
     |none=>rfl
     |some u=>have z:=(k1.ext acc u q).1;rw[hacc]at z;cases z
    ·obtain⟨x',od1,f1,f2,_⟩:=src i y od e1 e2
     exact nacc i x' od1 f1 f2 e3
theorem Zm9 {n:Nat}{sel:List Nat}{wi:TI}{t:TG}{tc:TT}{te:TE}{P:D->Evt->Prop}(hsel:sel.Nodup)
  (h:JI K wi Δ λds Δ1=>ds.length<sizeLine/\∃I:Nat->List D->Evt->Prop,I 0 [] (compD n sel Δ1) ∧
   (∀i d ys Δ2,ds[i]?=some d->I i ys Δ2->JGn K n t d Δ2 λΔ3=>JT K tc Δ3 λb Δ4=>if b=true then JE K te Δ4 λe Δ5=>I (i+1) (ys++[e]) Δ5 else I (i+1) ys Δ4) ∧
   ∀ys Δ2,I ds.length ys Δ2->P (.lst ys) (backD n sel Δ2 0 Δ1)):JE K (tComp n sel wi t tc te) Δ P:=
 Zbj (Zo3 hsel λg G H σ R k c=>h g G H σ R k λJ ds G' H' Δ' k' s' it ⟨z,I,h0,ht,he⟩=>c J ds G' H' Δ' k' s' it ⟨z,I,h0,ht,λys Δ2 q=>⟨ys,rfl,he ys Δ2 q⟩⟩)
theorem Zle {n:Nat}{sel:List Nat}{wi:TI}{t:TG}{tc:TT}{te:TE}{P:D->Evt->Prop}(hsel:sel.Nodup)
  (h:JI K wi Δ λds Δ1=>ds.length<sizeLine/\∃(fix:Evt) (p:D->Bool) (f:D->D),compD n sel Δ1=Wag n .any++fix ∧
   (∀(i:Nat) d (ts:Evt),ds[i]?=some d->ts.length=n->JGn K n t d (ts++fix) λΔ3=>JT K tc Δ3 λb Δ4=>b=p d/\if b=true then JE K te Δ4 λe Δ5=>e=f d/\∃ts',ts'.length=n /\ Δ5=ts'++fix else ∃ts',ts'.length=n /\ Δ4=ts'++fix) ∧
   P (.lst ((ds.filter p).map f)) (backD n sel (Wag n .any++fix) 0 Δ1)):JE K (tComp n sel wi t tc te) Δ P:=by
 refine Zm9 hsel λg G H σ R k c=>h g G H σ R k λJ ds G' H' Δ' k' s' it ⟨z,fix,p,f,e0,ht,he⟩=>c J ds G' H' Δ' k' s' it ⟨z,λi ys Δ=>ys=((ds.take i).filter p).map f/\∃ts:Evt,ts.length=n /\ Δ = ts++fix,?_,?_,?_⟩
 ·exact⟨by simp,_,by simp,e0⟩
 ·rintro i d ys Δ2 hd ⟨rfl,ts,hts,rfl⟩
  have tk:ds.take (i+1)=ds.take i++[d]:=by
   rw[Wb0,hd];rfl
  intro g G H σ v R k r c;refine ht i d ts hd hts g G H σ v R k r λσ' G' H' Δ' k' s' e' q=>c σ' G' H' Δ' k' s' e' λg G H σ Q k c=>q g G H σ Q k λb G' H' Δ' k' s' ⟨eb,q⟩=>c b G' H' Δ' k' s' ?_;cases b with
  |true=>
   rw[if_pos rfl]at q ⊢;refine q.mono λe Δ5 ⟨e1,ts',h1,h2⟩=>⟨?_,ts',h1,h2⟩;rw[tk,Wb1,Wax,Wbi,<- eb,e1];rfl
  |false=>
   rw[if_neg Wan]at q ⊢;obtain⟨ts',h1,h2⟩:=q;refine⟨?_,ts',h1,h2⟩;rw[tk,Wb1,Wax,Wbi,<- eb];simp
 ·rintro ys Δ2 ⟨rfl,ts,hts,rfl⟩
  rw[Wby];have e:backD n sel (ts++fix) 0 Δ'=backD n sel (Wag n .any++fix) 0 Δ':=by
   apply Wb6;intro i;rw[Zc7,Zc7];congr 1
   funext x
   unfold backAt;have e2:∀j,(ts++fix)[n+j]?=(Wag n Slot.any++fix)[n+j]?:=λj=>by
    rw[Wa0 (by omega),Wa0 (by simp),hts,Waz]
   simp only[e2]
  rw[e];exact he
end
end L2
set_option Elab.async false
set_option linter.all false
set_option maxRecDepth 100000
namespace HT
open PySem PyProof.Rows
section
variable {prog:Program}{w:World}{A:Around}{E:Value->Shared->Prop}{s:Shared}
theorem getItem_tuple_whole {t sl:Addr}{items:Array Value}{vl vu:Value}{lo hi:Option Int}{Q:Value->Shared->Prop}(ht:IsTup s.heap t items) (hs:s.heap.IsSliceOf sl vl vu .none) (pl:IsPart vl lo) (pu:IsPart vu hi)
  (hw:sIx items.size 0 lo=0/\sIx items.size items.size hi=items.size) (h:Q (.ref t) s):wpAny (model prog w) A (getItem (.ref t) (.ref sl)) Q E s:=by
 obtain⟨os,hos,hcs,hds⟩:=id hs;have hTs:s.TypeIs (.ref sl) "slice":=⟨os,hos,hcs⟩;unfold getItem
 try with_reducible refine wpAny_holding ?_
 first|refine wpAny_bind (wpAny_pure ?_)|skip
 refine wpAny_bind (wpAny_sequenceKey ht.typeIs (by decide) ?_);refine wpAny_bind (wpAny_callSpecial?_slot (name:=Str.ofString "__getitem__") ht.typeIs PyProof.Rows.slot_tuple_getitem
  (wpAny_call_entry PyProof.Rows.slot_tuple_getitem ht.typeIs entry_tuple_getitem ?_ (args_tuple_getitem _ _)))
 show wpAny _ _ (Builtin.Tuple.tupleItemsOf (.ref t) >>= _) _ _ s;refine wpAny_bind (tupleItemsOf_ ht ?_);refine wpAny_bind (wpAny_typeOf hTs ?_);rw[if_pos (by decide)];refine wpAny_bind (Zdj hs pl pu ?_);have hyes:(((sIx items.size 0 lo:Nat):Int) == 0 && (1:Int) == 1 && (sIx items.size items.size hi-sIx items.size 0 lo) == items.size)=true:=by
  rw[hw.1,hw.2];simp
 show wpAny _ _ (if (((sIx items.size 0 lo:Nat):Int) == 0 && (1:Int) == 1 && (sIx items.size items.size hi-sIx items.size 0 lo) == items.size)=true then _ else _) _ _ s;rw[if_pos hyes]
 first
  |exact wpAny_pure ⟨_,rfl,wpAny_pure h⟩
  |exact wpAny_pure ⟨_,rfl,h⟩
  |exact wpAny_bind (wpAny_pure (wpAny_pure ⟨_,rfl,wpAny_pure h⟩))
  | (refine wpAny_bind (wpAny_bind (wpAny_typeOf ht.typeIs (wpAny_pure ?_)))
     rw[if_pos (by decide)];exact wpAny_bind (wpAny_rule (wpAny_pure ⟨_,rfl,wpAny_pure h⟩)))
theorem tuple_index {t:Addr}{items:Array Value}{x:Value}{e:Value->Bool}{j:Nat}{Q:Value->Shared->Prop}(ht:IsTup s.heap t items) (he:∀y∈items,PySem.SeqAt.EqAt A.in1 s y x (e y)) (hj:j<items.size)
  (hit:e items[j]=true) (hno:∀m (hm:m<items.size),m<j->e items[m]=false) (h:Q (.int j s.toks) { s with toks:=s.toks+1 }) :
  wpAny (model prog w) A (call (.builtin "tuple.index") [.ref t,x]) Q E s:=by
 refine wpAny_call_entry PySem.F.slot_tuple_index ht.typeIs PySem.F.entry_tuple_index ?_ (PySem.F.args_tuple_index_2 _ _);show wpAny _ _ (Builtin.Tuple.tupleItemsOf (.ref t) >>= _) _ _ s;refine wpAny_bind (tupleItemsOf_ ht ?_);refine wpAny_bind (wpAny_pure (wpAny_bind (wpAny_pure (wpAny_bind ?_))));rw[Wdy];simp only[Std.Legacy.Range.forIn_eq_forIn_range',Std.Legacy.Range.size,Wd6,Nat.add_sub_cancel,Nat.div_one];refine wpAny_mono (Q:=λb s'=>s' = { s with toks:=s.toks+1 } /\ b.1=some (Fin.done (.ret (.int j s.toks)))) ?_ (λb s' hb=>?_) λ_ _ z=>z;refine wpAny_forIn_list _ (λl b s'=>s'=s/\∃i,l=List.range' i (items.size-i)/\i<=j) _ ?_ ?_ _ _ ⟨rfl,0,rfl,Wbl _⟩
 ·rintro i rest b s' ⟨rfl,k,hl,hk⟩
  have hk2:items.size-k=(items.size-k-1)+1:=by omega
  rw[hk2,List.range'_succ]at hl;injection hl with hl1 hl2
  subst hl1;have hi:i<items.size:=by omega
  rw[Array.getElem?_eq_getElem hi];refine wpAny_bind (he _ (Array.getElem_mem hi) prog w _ _ ?_);by_cases hij:i=j
  ·subst hij
   rw[hit,if_pos rfl];exact wpAny_bind (wpAny_bind (wpAny_mkInt (wpAny_pure (wpAny_pure ⟨rfl,rfl⟩))))
  ·rw[hno i hi (by omega),if_neg Wan]
   exact wpAny_pure ⟨rfl,i+1,by rw[hl2,show items.size-i-1=items.size-(i+1) by omega],by omega⟩
 ·rintro b s' ⟨rfl,k,hl,hk⟩
  have:=congrArg Wba hl;simp at this;omega
 ·obtain⟨rfl,e1⟩:=hb
  obtain⟨b1,b2⟩:=b;dsimp only at e1;subst e1;exact wpAny_pure ⟨_,rfl,h⟩
end
end HT
namespace L2
open PySem PySem.Spec PyProof.Rows
section
variable {X:Cx}
def rSlT' (K:W.Frag):V->Option Int->Option Int->Hp->VK->Prop:=λx lo hi H Q=>∃a xs,x=.ref a/\SqT K H a xs ∧
 ((HT.sIx xs.length 0 lo=0/\HT.sIx xs.length xs.length hi=xs.length)->Q (.ref a) H) ∧
 (¬ (HT.sIx xs.length 0 lo=0/\HT.sIx xs.length xs.length hi=xs.length)->∀p,H p=none->Q (.ref p) (upd H p (.tup (cutV xs lo hi))))
theorem Ztw:SlR X (rSlT' X.K):=by
 intro pins s σ H x v vl vu lo hi sl Q I rx hs pl pu h;obtain⟨a,xs,rfl,hx,q1,q2⟩:=h;by_cases hw:HT.sIx xs.length 0 lo=0/\HT.sIx xs.length xs.length hi=xs.length
 ·cases rx
  obtain⟨its,r,ht,hz⟩:=I.tuple hx;have hlen:its.toArray.size=xs.length:=by rw[Wak];exact r.length.symm
  exact⟨"tuple",_,PyProof.Rows.slot_tuple_getitem.lookup,ht.typeIs,HT.getItem_tuple_whole ht hs pl pu (by rw[hlen];exact hw) ⟨.ref a,H,I,rfl,q1 hw⟩⟩
 ·exact Zv7 pins s σ H (.ref a) v vl vu lo hi sl Q I rx hs pl pu ⟨a,xs,rfl,hx,hw,q2 hw⟩
def rSlU (K:W.Frag):V->Option Int->Option Int->Hp->VK->Prop:=λx lo hi H Q=>rSlL K x lo hi H Q\/rSlT' K x lo hi H Q
theorem slU:SlR X (rSlU X.K):=Zt0.or Ztw
def tSlR (K:W.Frag) (te:TE):TE:=λσ H Q=>te σ H λx H1=>∃a xs,x=.ref a/\SqT K H1 a xs/\∀p,H1 p=none->Q (.ref p) (upd H1 p (.tup xs.reverse))
def rCatT' (K:W.Frag):R2:=λx y H Q=>∃a b xs ys,x=.ref a/\y=.ref b/\SqT K H a xs/\SqT K H b ys/\xs.length+ys.length<=sizeLine ∧
 (xs=[]->Q (.ref b) H)/\(xs≠[]->ys=[]->Q (.ref a) H)/\(xs≠[]->ys≠[]->∀p,H p=none->Q (.ref p) (upd H p (.tup (xs++ys))))
theorem Zqi:OpR X (binaryOp .Add) (rCatT' X.K):=by
 intro pins s σ H x y v u Q I rx ry h;obtain⟨a,b,xs,ys,rfl,rfl,ha,hb,hz,q0,q1,q2⟩:=h;by_cases hx:xs=[]
 ·cases rx
  cases ry;obtain⟨its,r1,p1,_⟩:=I.tuple ha;obtain⟨its2,r2,p2,_⟩:=I.tuple hb;obtain⟨⟨cls,dd,data,sl⟩,ho,hc,n,hd⟩:=id p1;obtain⟨⟨cls2,dd2,data2,sl2⟩,ho2,hc2,n2,hd2⟩:=id p2;simp only at hc hd hc2 hd2;subst hc hd hc2 hd2;exact concat_meets ⟨_,ho,rfl⟩ ⟨_,ho2,rfl⟩ noFill_tuple_add seq_tuple_add PySem.F.slot_tuple_add PySem.F.entry_tuple_add (PySem.F.args_tuple_add_2 _ _)
   (tuple_addW0 a b its.toArray its2.toArray n n2 dd dd2 sl sl2 (by simp[r1.nil_iff.mpr hx])) ⟨ho,ho2,⟨.ref b,H,I,rfl,q0 hx⟩⟩
 ·exact Zsv pins s σ H (.ref a) (.ref b) v u Q I rx ry ⟨a,b,xs,ys,rfl,rfl,ha,hb,hx,hz,q1 hx,q2 hx⟩
def rAddU (K:W.Frag):R2:=λx y H Q=>rI0 (λi j=>.int (i+j)) x y H Q\/(rCatT' K x y H Q\/rCat x y H Q)
theorem Zub:OpR X (binaryOp .Add) (rAddU X.K):=Zws.or (Zqi.or Zw9)
theorem Zcg:OpR X (compareOp .Eq) rEq:=Zxm
theorem Zu3:OpR X (compareOp .NotEq) rNe:=Zxa
def rIxD:R2:=λx y H Q=>∃a v,x=.ref a/\DGet H a y (some v)/\Q v H
theorem Ztc (hu:X.A.units+1<cLine):IxR X rIxD:=by
 intro value slice pins s σ H x y v u Q I rx ry h hs;obtain⟨a,w',rfl,g,q⟩:=h;cases rx;exact tail_any (Zkf I g) PySem.F.slot_dict_getitem.lookup (Zno hu I g ry λw2 s3 I3 rw'=>⟨w',H,I3,rw',q⟩) hs
def rIxU (K:W.Frag):R2:=λx y H Q=>rIx K x y H Q\/rIxD x y H Q
theorem ixU (hu:X.A.units+1<cLine):IxR X (rIxU X.K):=Zwb.or (Ztc hu)
def rSetD:V->V->V->Hp->(Hp->Prop)->Prop:=λo i v H Q=>∃a H',o=.ref a/\DPut H a i v H' /\ Q H'
theorem Zrj (hu:X.A.units+1<cLine):PSet X rSetD:=by
 intro pins s σ H o i v ov iv u Q I ro ri rv h;obtain⟨a,H',rfl,g,q⟩:=h;cases ro;exact Zm6 hu I g ri rv λs' I'=>⟨H',I',q⟩
theorem PSet.or {t t':TSet}(h:PSet X t) (h':PSet X t'):PSet X (λo i v H Q=>t o i v H Q\/t' o i v H Q):=by
 intro pins s σ H o i v ov iv u Q I ro ri rv q;rcases q with q|q
 ·exact h pins s σ H o i v ov iv u Q I ro ri rv q
 ·exact h' pins s σ H o i v ov iv u Q I ro ri rv q
def rSetU:V->V->V->Hp->(Hp->Prop)->Prop:=λo i v H Q=>rSetL o i v H Q\/rSetD o i v H Q
theorem setU (hu:X.A.units+1<cLine):PSet X rSetU:=Zrw.or (Zrj hu)
def rLenU (K:W.Frag):List V->Hp->VK->Prop:=λxs H Q=>(∃p ys,xs=[.ref p]/\(SqL K H p ys\/SqT K H p ys)/\Q (.int ys.length) H)\/∃a kvs,xs=[V.ref a]/\H a=some (.dK kvs)/\Q (.int kvs.length) H
theorem Zph:CallR X (.builtin "len") (rLenU X.K):=Zjb.or Zpt
def rIsi (K:W.Frag):List V->Hp->VK->Prop:=λxs H Q=>∃x n t b,xs=[x,.ty n]/\TyOf K H x t/\PySem.W.kitOne K t (.type n)=some b/\Q (.bl b) H
theorem Zjp:CallR X (.builtin "isinstance") (rIsi X.K):=by
 intro pins s σ H xs us Q I r h;obtain⟨x,n,t,b,rfl,ty,e,q⟩:=h;obtain⟨u,u',rfl,rx,rn⟩:=vals2 r;cases (show u'=Value.type n from rn);exact Zo7 I rx ty e λtk=>⟨.bl b,H,I.tok _,rfl,q⟩
def insI (n:Nat) (i:Int):Nat:=if i<0 then (i+(n:Int)).toNat else min i.toNat n
def rInsert:V->List V->Hp->VK->Prop:=λx vs H Q=>∃l xs i y,x=.ref l/\vs=[.int i,y]/\H l=some (.lst xs)/\xs.length<sizeLine /\ -(2 ^ 62)<=i/\i<2 ^ 62/\Q .non (upd H l (.lst (xs.take (insI xs.length i)++y::xs.drop (insI xs.length i))))
theorem Zi8:MtM X "list.insert" rInsert:=by
 intro pins s σ H x vs v us Q I rx rv h;obtain⟨l,xs,i,y,rfl,rfl,hH,hz,h1,h2,q⟩:=h;cases rx;obtain⟨ui,uy,rfl,⟨t,rfl⟩,ry⟩:=rv.two;obtain⟨z,its,n,r,hl,e⟩:=I.lstM hH;refine call_meets F.slot_list_insert ⟨_,e,rfl⟩ F.entry_list_insert (F.args_list_insert_3 _ _ _) (PySem.AutoSeq1.list_insert_list_int_val_1 l its.toArray n i t uy (by
  have hf:Builtin.List.listFitsIndex i=true:=by
   unfold Builtin.List.listFitsIndex;rw[decide_eq_true (by omega),decide_eq_true (by omega)];rfl
  rw[hf];decide) (by rw[Wak];omega)) ⟨e,?_⟩
 refine⟨.non,_,I.lset (its':=its.take (insI xs.length i)++uy::its.drop (insI xs.length i)) hH e ?_ ((r.take _).append (.cons ry (r.drop _))) ?_,rfl,q⟩
 ·have e1:(if i<0 then (i+(its.toArray.size:Int)).toNat else min i.toNat its.toArray.size)=insI xs.length i:=by
   unfold insI;rw[Wak,hl]
  dsimp only;rw[e1];apply Array.ext';simp;rw[Wcz (by rw[Wbz];exact Wah _)]
 ·rw[Waq,Waj,Wa2,Wbz]
  omega
def rIndexT (K:W.Frag):V->List V->Hp->VK->Prop:=λx vs H Q=>∃a xs y j,x=.ref a/\vs=[y]/\SqT K H a xs/\flatV y=true/\xs.all flatV=true/\j<xs.length ∧
 (∃z,xs[j]?=some z/\eqV z y=true)/\(∀m z,m<j->xs[m]?=some z->eqV z y=false)/\Q (.int j) H
theorem Zgv:MtM X "tuple.index" (rIndexT X.K):=by
 intro pins s σ H x vs v us Q I rx rv h;obtain⟨a,xs,y,j,rfl,rfl,hx,fy,fx,hj,⟨z,hz1,hz2⟩,hno,q⟩:=h;cases rx;obtain⟨u,rfl,ru⟩:=rv.one;obtain⟨its,r,ht,hz⟩:=I.tuple hx;have hl:its.length=xs.length:=r.length.symm;have key:∀w∈its.toArray,SeqAt.EqAt X.A.in1 s w u (eqU y w):=λw hw=>by
  have hw:w∈its:=by simpa using hw
  obtain⟨k,hk,e⟩:=Wc7.mp hw;have hk':k<xs.length:=by omega
  obtain⟨w',hw',rw'⟩:=r.get (Waa hk');have ew:w'=w:=by
   rw[Waa hk]at hw';exact(Wbh.inj hw').symm.trans e
  subst ew;have fk:flatV xs[k]=true:=Wbp.mp fx _ (Wa5 hk');rw[Zkm rw' fk];exact Zsg rw' ru fk fy
 have at_:∀(k:Nat) (hk:k<its.toArray.size) (z:V),xs[k]?=some z->eqU y its.toArray[k]=eqV z y:=λk hk z e=>by
  obtain⟨w',hw',rw'⟩:=r.get e;have hk2:k<its.length:=by simpa using hk
  rw[Waa hk2]at hw';have ew:its.toArray[k]=w':=by simpa using Wbh.inj hw'
  rw[ew];exact Zkm rw' (Wbp.mp fx _ (Wat e))
 have hj':j<its.toArray.size:=by simpa [hl] using hj
 refine HT.tuple_index ht key hj' (by rw[at_ j hj' z hz1];exact hz2) (λm hm hmj=>?_) ⟨.int j,H,I.tok _,⟨_,rfl⟩,q⟩;have hm2:m<xs.length:=by simpa [hl] using hm
 rw[at_ m hm _ (Waa hm2)];exact hno m _ hmj (Waa hm2)
end
end L2
namespace L2
open PySem PySem.Spec PyProof.Rows
section
variable {X:Cx}
theorem PI.or {tg iter:Expr}{w w':TI}(h:PI X tg iter w) (h':PI X tg iter w'):PI X tg iter (λσ H R=>w σ H R\/w' σ H R):=by
 intro pins s σ H R I q;rcases q with q|q
 ·exact h pins s σ H R I q
 ·exact h' pins s σ H R I q
def iSeq (K:W.Frag) (tl:TE):TI:=λσ H R=>iList K tl σ H R\/iTup K tl σ H R
theorem Zwe {tg l:Expr}{tl:TE}(hl:PE X l tl):PI X tg l (iSeq X.K tl):=(Zur hl).or (Zwa hl)
def tTru (K:W.Frag) (ta:TE):TT:=λσ H Q=>ta σ H λx H'=>∃k,TruV K x H' k/\Q k H'
theorem Zuz {a:Expr}{ta:TE}(ha:PE X a ta) (he:∀whole,isTrue a X.env whole=(do let v ← whole;standAt a.pos;holding [v] (truthy v))):PT X a (tTru X.K ta):=Zqy ha he
end
section
variable {K:W.Frag}{Δ:Evt}{P:D->Evt->Prop}
theorem Zcf {i j:Int}(p:P (.int (i+j)) Δ):JR2 K (rAddU K) (.int i) (.int j) Δ P:=λg G H σ Q x y k rx ry c=>by
 cases rx.inv;cases ry.inv;exact .inl ⟨i,j,rfl,rfl,c _ _ G H Δ k (Same.refl _) (.int _) p⟩
theorem Znh {ds es:List D}(hz:ds.length+es.length<=sizeLine) (p:P (.lst (ds++es)) Δ):JR2 K (rAddU K) (.lst ds) (.lst es) Δ P:=λg G H σ Q x y k rx ry c=>by
 obtain⟨_,_,rfl,ha,ra⟩:=rx.inv
 next=>
  obtain⟨_,_,rfl,hb,rb⟩:=ry.inv
  next=>
   refine .inr (.inr ⟨_,_,_,_,rfl,rfl,k.live _ _ ha,k.live _ _ hb,by rw[ra.length,rb.length];exact hz,λq hq=>?_⟩);obtain⟨k2,sg⟩:=k.laid hq (.lst _);exact c _ _ _ _ Δ k2 sg (.lst Zas ((ra.append rb).mono sg)) p
theorem Zaz {ds:List D}{i:Int}{d:D}(h:atI ds i=some d) (p:P d Δ):JR2 K (rIxU K) (.tup ds) (.int i) Δ P:=λg G H σ Q x y k rx ry c=>
 .inl (.inr (.inl (Zv0 h p g G H σ Q x y k rx ry c)))
theorem Zcs {ds:List D}{i:Int}{d:D}(h:atI ds i=some d) (p:P d Δ):JR2 K (rIxU K) (.lst ds) (.int i) Δ P:=λg G H σ Q x y k rx ry c=>
 .inl (.inl (Zwv h p g G H σ Q x y k rx ry c))
theorem Ze6 {n:Nat}{tb:TE}{x:Slot}{ds:List D}(hx:Δ[n]?=some x) (ho:x.od=some (.lst ds)) (h:JE K tb Δ λe Δ1=>∃y es i d,Δ1[n]?=some y/\y.od=some (.lst es)/\e=.int i/\atI es i=some d/\P d Δ1):JE K (tOp (rIxU K) (tVar n) tb) Δ P:=λg G H σ Q k c=>by
 obtain⟨a,o,h1,h2,h3,h4,h5⟩:=k.own n x _ hx ho;refine⟨.ref a,h1,h g G H σ _ k λv e G1 H1 Δ1 k1 s1 r1 ⟨y,es,i,d,q1,q2,q3,q4,p⟩=>?_⟩;subst q3;cases r1.inv;obtain⟨a',o',w1,w2,w3,w4,w5⟩:=k1.own n y _ q1 q2;rw[h1]at w1;cases w1;cases o' with
 |lst vs=>
  obtain⟨u,z1,z2⟩:=Zhk (show Reps K G1 vs es from w3) q4;exact .inl (.inl ⟨a,vs,i,u,rfl,rfl,SqL.of w2,z1,c u d G1 H1 Δ1 k1 s1 z2 p⟩)
 |_=>exact absurd w3 (λz=>z)
theorem Zpj {n:Nat}{ti te:TE}{Pp:Pst}(h:JE K te Δ λd Δ1=>(∃x od,Δ1[n]?=some x/\x.od=some od)/\JE K ti Δ1 λe Δ2=>∃x ds i j,Δ2[n]?=some x/\x.od=some (.lst ds)/\e=.int i/\ixN ds.length i=some j/\Pp.nx (Δ2.set n (x.put (.lst (ds.set j d))))) :
  JS K (tAsg te (gSub (tVar n) ti rSetU)) Δ Pp:=λg G H σ E k c=>
 h g G H σ _ k λv d G1 H1 Δ1 k1 s1 r1 hq_=>by
  obtain⟨⟨x,od,hx,ho⟩,p1⟩:=hq_;obtain⟨a,o,h1,h2,h3,h4,h5⟩:=k1.own n x _ hx ho;refine⟨.ref a,h1,p1 g G1 H1 σ _ k1 λu e G2 H2 Δ2 k2 s2 r2 ⟨y,ds,i,j,q1,q2,q3,q4,p⟩=>?_⟩;subst q3;cases r2.inv;obtain⟨a',o',w1,w2,w3,w4,w5⟩:=k2.own n y _ q1 q2;rw[h1]at w1;cases w1;cases o' with
  |lst vs=>
   have w3:Reps K G2 vs ds:=w3;exact .inl ⟨a,vs,i,j,rfl,rfl,w2,by rw[w3.length];exact q4,c.nx σ G2 _ _ (k2.write q1 q2 h1 (show OwnRep K G2 (.lst (vs.set j v)) (.lst (ds.set j d)) from w3.set j (r1.mono s2))) p⟩
  |_=>exact absurd w3 (λz=>z)
def valD (kvs:List (Key × D)) (k:Key):Option D:=(kvs.find? λkv=>decide (kv.1=k)).map (·.2)
def putD (kvs:List (Key × D)) (k:Key) (v:D):List (Key × D):=if (kvs.any λkv=>decide (kv.1=k))=true then kvs.map (λkv=>if kv.1=k then (kv.1,v) else kv) else kvs++[(k,v)]
theorem Zoh {G:Hp}{k:Key}{d:D}:∀{kvs:List (Key × V)}{kds:List (Key × D)},Paired (λ(p:Key × V) (q:Key × D)=>p.1=q.1/\Rep K G p.2 q.2) kvs kds->valD kds k=some d->∃v,valV kvs k=some v/\Rep K G v d
 |_,_,.nil,h=>by cases h
 | (k1,v1)::kvs,(k2,d2)::kds,.cons ⟨e,r⟩ t,h=>by
  have e:k1=k2:=e;subst e;by_cases hk:k1=k
  ·subst hk
   have h:some d2=some d:=by simpa [valD,Wcs] using h
   cases h;exact⟨v1,Zfp rfl,r⟩
  ·have h:valD kds k=some d:=by simpa [valD,Wcs,hk] using h
   obtain⟨v,h1,h2⟩:=Zoh t h;exact⟨v,by rw[Zfm hk];exact h1,h2⟩
theorem Zoq {G:Hp}{k:Key}:∀{kvs:List (Key × V)}{kds:List (Key × D)},Paired (λ(p:Key × V) (q:Key × D)=>p.1=q.1/\Rep K G p.2 q.2) kvs kds->(kvs.any λkv=>decide (kv.1=k))=(kds.any λkv=>decide (kv.1=k))
 |_,_,.nil=>rfl
 |_::_,_::_,.cons ⟨e,_⟩ t=>by rw[Wdd,Wdd,Zoq t,e]
theorem Zod {G:Hp}{k:Key}{v:V}{d:D}(rv:Rep K G v d):∀{kvs:List (Key × V)}{kds:List (Key × D)},Paired (λ(p:Key × V) (q:Key × D)=>p.1=q.1/\Rep K G p.2 q.2) kvs kds →
  Paired (λ(p:Key × V) (q:Key × D)=>p.1=q.1/\Rep K G p.2 q.2) (kvs.map λkv=>if kv.1=k then (kv.1,v) else kv) (kds.map λkv=>if kv.1=k then (kv.1,d) else kv)
 |_,_,.nil=>.nil
 | (k1,v1)::kvs,(k2,d2)::kds,.cons ⟨e,r⟩ t=>by
  have e:k1=k2:=e;subst e;rw[Wbe,Wbe];refine .cons ?_ (Zod rv t);by_cases hk:k1=k
  ·rw[if_pos hk,if_pos hk];exact⟨rfl,rv⟩
  ·rw[if_neg hk,if_neg hk];exact⟨rfl,r⟩
theorem Zsl {G:Hp}{k:Key}{v:V}{d:D}{kvs:List (Key × V)}{kds:List (Key × D)}(rv:Rep K G v d) (h:Paired (λ(p:Key × V) (q:Key × D)=>p.1=q.1/\Rep K G p.2 q.2) kvs kds) :
  Paired (λ(p:Key × V) (q:Key × D)=>p.1=q.1/\Rep K G p.2 q.2) (putK kvs k v) (putD kds k d):=by
 unfold putK putD;rw[Zoq h];split
 ·exact Zod rv h
 ·exact Paired.snoc h ⟨rfl,rv⟩
theorem Zo1 {Po:OD->Evt->Prop}(p:Po (.dct []) Δ):JO K tDNewK Δ Po:=λg G H σ Q k c q hq=>by
 obtain⟨k2,pd⟩:=k.fresh (od:=.dct []) hq (show OwnRep K G (.dK []) (.dct []) from .nil);exact c q _ G _ Δ k2 (Same.refl _) pd p
theorem Zuc {n:Nat}{tb:TE}{x:Slot}{od:OD}(hx:Δ[n]?=some x) (ho:x.od=some od) (h:JE K tb Δ λe Δ1=>∃y kvs i d,Δ1[n]?=some y/\y.od=some (.dct kvs)/\e=.int i/\valD kvs (.inl i)=some d/\P d Δ1):JE K (tOp (rIxU K) (tVar n) tb) Δ P:=λg G H σ Q k c=>by
 obtain⟨a,o,h1,h2,h3,h4,h5⟩:=k.own n x _ hx ho;refine⟨.ref a,h1,h g G H σ _ k λv e G1 H1 Δ1 k1 s1 r1 ⟨y,kvs,i,d,q1,q2,q3,q4,p⟩=>?_⟩;subst q3;cases r1.inv;obtain⟨a',o',w1,w2,w3,w4,w5⟩:=k1.own n y _ q1 q2;rw[h1]at w1;cases w1;cases o' with
 |dK vs=>
  obtain⟨u,z1,z2⟩:=Zoh w3 q4;exact .inr ⟨a,u,rfl,(by have:=DGet.k (k:=Sum.inl i) w2;rw[z1]at this;exact this),c u d G1 H1 Δ1 k1 s1 z2 p⟩
 |_=>exact absurd w3 (λz=>z)
theorem Zs8 {n:Nat}{ti te:TE}{Pp:Pst}(h:JE K te Δ λd Δ1=>(∃x od,Δ1[n]?=some x/\x.od=some od)/\JE K ti Δ1 λe Δ2=>∃x kvs i,Δ2[n]?=some x/\x.od=some (.dct kvs)/\e=.int i/\kvs.length<sizeLine/\Pp.nx (Δ2.set n (x.put (.dct (putD kvs (.inl i) d))))) :
  JS K (tAsg te (gSub (tVar n) ti rSetU)) Δ Pp:=λg G H σ E k c=>
 h g G H σ _ k λv d G1 H1 Δ1 k1 s1 r1 hq_=>by
  obtain⟨⟨x,od,hx,ho⟩,p1⟩:=hq_;obtain⟨a,o,h1,h2,h3,h4,h5⟩:=k1.own n x _ hx ho;refine⟨.ref a,h1,p1 g G1 H1 σ _ k1 λu e G2 H2 Δ2 k2 s2 r2 ⟨y,kvs,i,q1,q2,q3,q4,p⟩=>?_⟩;subst q3;cases r2.inv;obtain⟨a',o',w1,w2,w3,w4,w5⟩:=k2.own n y _ q1 q2;rw[h1]at w1;cases w1;cases o' with
  |dK vs=>
   have w3':Paired (λ(p:Key × V) (q:Key × D)=>p.1=q.1/\Rep K G2 p.2 q.2) vs kvs:=w3;exact .inr ⟨a,_,rfl,DPut.k (k:=Sum.inl i) w2 (by rw[Paired.length w3'];exact q4),c.nx σ G2 _ _ (k2.write q1 q2 h1 (show OwnRep K G2 (.dK (putK vs (.inl i) v)) (.dct (putD kvs (.inl i) d)) from Zsl (r1.mono s2) w3')) p⟩
  |_=>exact absurd w3 (λz=>z)
theorem Zba {ds es:List D}(he:ds=[.lst es]\/ds=[.tup es]) (p:P (.int es.length) Δ):JC K (rLenU K) ds Δ P:=λg G H σ Q vs k rs c=>.inl (Zvm he p g G H σ Q vs k rs c)
theorem Zhs {n:Nat}{x:Slot}{ds:List D}(hx:Δ[n]?=some x) (ho:x.od=some (.lst ds)) (p:P (.int ds.length) Δ):JE K (tCB (rLenU K) (tCons (tVar n) tNil)) Δ P:=λg G H σ Q k c=>by
 obtain⟨v,h1,h2⟩:=Zuj hx ho p g G H σ Q k c;exact⟨v,h1,.inl h2⟩
def cutD (ds:List D) (lo hi:Option Int):List D:=(ds.drop (HT.sIx ds.length 0 lo)).take (HT.sIx ds.length ds.length hi-HT.sIx ds.length 0 lo)
theorem Zpw {α:Type}(xs:List α) (lo hi:Option Int) (h:HT.sIx xs.length 0 lo=0/\HT.sIx xs.length xs.length hi=xs.length):(xs.drop (HT.sIx xs.length 0 lo)).take (HT.sIx xs.length xs.length hi-HT.sIx xs.length 0 lo)=xs:=by
 rw[h.1,h.2];simp
def JO2 (t:TO) (Δ:Evt) (K:W.Frag) (P:Option Int->Evt->Prop):Prop:=
 ∀g G H σ (Q:Option Int->Hp->Prop),Ok K g G H σ Δ -> (∀o G' H' Δ',Ok K g G' H' σ Δ' -> Same G G' -> P o Δ' -> Q o H')->t σ H Q
theorem Zj2 {P:Option Int->Evt->Prop}(p:P none Δ):JO2 tNoPart Δ K P:=λg G H σ Q k c=>c none G H Δ k (Same.refl _) p
theorem Zj5 {te:TE}{P:Option Int->Evt->Prop}(h:JE K te Δ λd Δ1=>∃i,d=.int i/\P (some i) Δ1):JO2 (tPart te) Δ K P:=λg G H σ Q k c=>
 h g G H σ _ k λv d G1 H1 Δ1 k1 s1 r1 hq_=>by obtain⟨i,e,p⟩:=hq_;subst e;cases r1.inv;exact⟨i,rfl,c (some i) G1 H1 Δ1 k1 s1 p⟩
def slD (d:D) (lo hi:Option Int):Option D:=match d with
 |.lst ds=>some (.lst (cutD ds lo hi))
 |.scr ds=>some (.lst (cutD ds lo hi))
 |.tup ds=>some (.tup (cutD ds lo hi))
 |_=>none
theorem Ztr {te:TE}{tl th:TO}(h:JE K te Δ λd Δ1=>JO2 tl Δ1 K λlo Δ2=>JO2 th Δ2 K λhi Δ3=>∃e,slD d lo hi=some e/\P e Δ3):JE K (tSl (rSlU K) te tl th) Δ P:=λg G H σ Q k c=>
 h g G H σ _ k λv d G1 H1 Δ1 k1 s1 r1 p1=>p1 g G1 H1 σ _ k1 λlo G2 H2 Δ2 k2 s2 p2=>p2 g G2 H2 σ _ k2 λhi G3 H3 Δ3 k3 s3 hq_=>by
  obtain⟨e,he,p⟩:=hq_;have r3:=r1.mono (s2.trans s3);have cc:=c.up (s1.trans (s2.trans s3));cases r3 with
  |lst ha rs=>
   cases he;refine .inl ⟨_,_,rfl,SqL.of (k3.live _ _ ha),λq hq=>?_⟩;obtain⟨k4,sg⟩:=k3.laid hq (.lst _);refine cc _ _ _ _ Δ3 k4 sg (.lst Zas (Reps.mono sg ?_)) p;unfold cutV cutD;rw[rs.length];exact(rs.drop _).take _
  |scr ha rs=>
   cases he;refine .inl ⟨_,_,rfl,k3.live.seq ha,λq hq=>?_⟩;obtain⟨k4,sg⟩:=k3.laid hq (.lst _);refine cc _ _ _ _ Δ3 k4 sg (.lst Zas (Reps.mono sg ?_)) p;unfold cutV cutD;rw[rs.length];exact(rs.drop _).take _
  |tup ha rs=>
   cases he;refine .inr ⟨_,_,rfl,SqT.of (k3.live _ _ ha),λhw=>?_,λhw q hq=>?_⟩
   ·rw[rs.length]at hw
    refine cc _ _ _ _ Δ3 k3 (Same.refl _) (.tup ha ?_) p;unfold cutD;rw[Zpw _ _ _ hw];exact rs
   ·obtain⟨k4,sg⟩:=k3.laid hq (.tup _)
    refine cc _ _ _ _ Δ3 k4 sg (.tup Zas (Reps.mono sg ?_)) p;unfold cutV cutD;rw[rs.length];exact(rs.drop _).take _
  |_=>cases he
theorem Zw3 {te:TE}(h:JE K te Δ λd Δ1=>∃ds,d=.tup ds/\P (.tup ds.reverse) Δ1):JE K (tSlR K te) Δ P:=λg G H σ Q k c=>
 h g G H σ _ k λv d G1 H1 Δ1 k1 s1 r1 hq_=>by
  obtain⟨ds,e,p⟩:=hq_;subst e;obtain⟨_,_,rfl,ha,rs⟩:=r1.inv
  next=>
   refine⟨_,_,rfl,SqT.of (k1.live _ _ ha),λq hq=>?_⟩;obtain⟨k4,sg⟩:=k1.laid hq (.tup _);exact c _ _ _ _ Δ1 k4 (s1.trans sg) (.tup Zas (rs.reverse.mono sg)) p
theorem Zfe {tl:TE}{P:List D->Evt->Prop}(h:JE K tl Δ λd Δ1=>∃ds,(d=.lst ds\/d=.scr ds)/\P ds Δ1):JI K (iSeq K tl) Δ P:=λg G H σ R k c=>.inl (Zt3 h g G H σ R k c)
theorem Zb6 {tl:TE}{P:List D->Evt->Prop}(h:JE K tl Δ λd Δ1=>∃ds,d=.tup ds/\P ds Δ1):JI K (iSeq K tl) Δ P:=λg G H σ R k c=>.inr (Zve h g G H σ R k c)
def truD:D->Option Bool
 |.non=>some false
 |.bl b=>some b
 |.int i=>some (i != 0)
 |.lst ds=>some !ds.isEmpty
 |.tup ds=>some !ds.isEmpty
 |_=>none
theorem Reps.isEmpty {G:Hp}{vs:List V}{ds:List D}(r:Reps K G vs ds):vs.isEmpty=ds.isEmpty:=by cases r <;> rfl
theorem Zcd {t:TE}{Pb:Bool->Evt->Prop}(h:JE K t Δ λd Δ1=>∃b,truD d=some b/\Pb b Δ1):JT K (tTru K t) Δ Pb:=λg G H σ Q k c=>
 h g G H σ _ k λv d G1 H1 Δ1 k1 s1 r1 hq_=>by
  obtain⟨b,e,p1⟩:=hq_;refine⟨b,?_,c b G1 H1 Δ1 k1 s1 p1⟩;cases r1 with
  |non=>cases e;rfl
  |bl b=>cases e;rfl
  |int i=>cases e;rfl
  |str x=>cases e
  |ty n=>cases e
  |scr ha rs=>cases e
  |adr a=>cases e
  |dct ha hl rs=>cases e
  |exc ha=>cases e
  |lst ha rs=>cases e;exact .inl ⟨_,SqL.of (k1.live _ _ ha),by rw[rs.isEmpty]⟩
  |tup ha rs=>cases e;exact .inr (.inl ⟨_,SqT.of (k1.live _ _ ha),by rw[rs.isEmpty]⟩)
def tyD:D->Option String
 |.non=>some "NoneType"
 |.bl _=>some "bool"
 |.int _=>some "int"
 |.str _=>some "str"
 |.lst _=>some "list"
 |.tup _=>some "tuple"
 |.dct _ _=>some "dict"
 |_=>none
theorem Zwk {d:D}{n T:String}{b:Bool}(ht:tyD d=some T) (e:∀K,PySem.W.kitOne K (.type T) (.type n)=some b) (p:P (.bl b) Δ):JC K (rIsi K) [d,.ty n] Δ P:=λg G H σ Q vs k rs c=>by
 obtain⟨_,_,rfl,r,t⟩:=rs.inv
 next=>
  obtain⟨_,_,rfl,r',t⟩:=t.inv
  next=>
   cases t.inv;cases r'.inv;refine⟨_,n,.type T,b,rfl,?_,e K,c _ _ G H Δ k (Same.refl _) (.bl b) p⟩;cases r with
   |non=>cases ht;exact .non
   |bl b=>cases ht;exact .bl b
   |int i=>cases ht;exact .int i
   |str x=>cases ht;exact .str x
   |ty n=>cases ht
   |scr ha rs=>cases ht
   |adr a=>cases ht
   |dct ha hl rs=>cases ht;exact .dK (k.live _ _ ha)
   |exc ha=>cases ht
   |lst ha rs=>cases ht;exact .lst (k.live _ _ ha)
   |tup ha rs=>cases ht;exact .tup (k.live _ _ ha)
theorem Zds {ta tb:TE}(h:JE K ta Δ λd Δ1=>∃b,d=.bl b/\if b=true then JE K tb Δ1 P else P (.bl false) Δ1):JE K (tAndV ta tb) Δ P:=λg G H σ Q k c=>
 h g G H σ _ k λv d G1 H1 Δ1 k1 s1 r1 hq_=>by
  obtain⟨b,e,p1⟩:=hq_;subst e;cases r1.inv;refine⟨b,rfl,?_⟩;cases b with
  |true=>exact(show JE K tb Δ1 P from p1) g G1 H1 σ Q k1 (c.up s1)
  |false=>exact c _ _ G1 H1 Δ1 k1 s1 (.bl false) p1
theorem Zw8 {ta tb:TE}(h:JE K ta Δ λd Δ1=>∃b,d=.bl b/\if b=true then P (.bl true) Δ1 else JE K tb Δ1 P):JE K (tOrV ta tb) Δ P:=λg G H σ Q k c=>
 h g G H σ _ k λv d G1 H1 Δ1 k1 s1 r1 hq_=>by
  obtain⟨b,e,p1⟩:=hq_;subst e;cases r1.inv;refine⟨b,rfl,?_⟩;cases b with
  |false=>exact(show JE K tb Δ1 P from p1) g G1 H1 σ Q k1 (c.up s1)
  |true=>exact c _ _ G1 H1 Δ1 k1 s1 (.bl true) p1
theorem Znv {ta:TE}(h:JE K ta Δ λd Δ1=>∃b,d=.bl b/\P (.bl !b) Δ1):JE K (tNotV ta) Δ P:=λg G H σ Q k c=>
 h g G H σ _ k λv d G1 H1 Δ1 k1 s1 r1 hq_=>by
  obtain⟨b,e,p1⟩:=hq_;subst e;cases r1.inv;exact⟨b,rfl,c _ _ G1 H1 Δ1 k1 s1 (.bl !b) p1⟩
theorem Zia {to te:TE}(h:JE K to Δ λd Δ1=>∃ns:List Int,d=.tup (ns.map D.int)/\JE K te Δ1 λe Δ2=>∃i j,e=.int i/\ns[j]?=some i/\(∀m,m<j->ns[m]?≠some i)/\P (.int (j:Nat)) Δ2) :
  JE K (tBM K "tuple" (rIndexT K) to (tCons te tNil)) Δ P:=λg G H σ Q k c=>
 h g G H σ _ k λv d G1 H1 Δ1 k1 s1 r1 hq_=>by
  obtain⟨ns,e,p1⟩:=hq_;subst e;obtain⟨a,vs,rfl,ha,rs⟩:=r1.inv
  next=>
   refine⟨.inr (.inl ⟨rfl,.inr ⟨_,k1.live _ _ ha⟩⟩),p1 g G1 H1 σ _ k1 λu e G2 H2 Δ2 k2 s2 r2 ⟨i,j,q1,q2,q3,p⟩=>?_⟩;subst q1;cases r2.inv;have ev:vs=ns.map V.int:=rs.ints;subst ev;have hj:j<ns.length:=(Waf.mp q2).1;refine⟨a,_,.int i,j,rfl,rfl,SqT.of (k2.live _ _ (s2 _ _ ha)),rfl,?_,by simpa using hj,⟨.int i,by rw[Wad,q2];rfl,by simp[eqV]⟩,λm z hm hz=>?_,c _ _ G2 H2 Δ2 k2 (s1.trans s2) (.int _) p⟩
   ·rw[Wen];exact Wbp.mpr λ_ _=>rfl
   ·rw[Wad]at hz
    cases e:ns[m]? with
    |none=>rw[e]at hz;cases hz
    |some w=>
     rw[e]at hz;have hz:V.int w=z:=by simpa using hz
     subst hz;have hne:w≠i:=λq=>q3 m hm (by rw[e,q]);show (w == i)=false;exact beq_eq_false_iff_ne.mpr hne
end
section
variable {K:W.Frag}{g:Gm}{G H:Hp}{σ:St}{Δ:Evt}
theorem Ok.setVal' (k:Ok K g G H σ Δ) {v:V}{d:D}(i:Nat) (r:Rep K G v d):Ok K g G H (σ.set i (some v)) (Δ.set i (.val d)):=by
 by_cases hi:i < Δ.length
 ·exact k.setVal hi r
 ·have hl:=k.len
  rw[Wda (l:=σ) (by omega),Wda (l:=Δ) (by omega)];exact k
theorem Ok.setOwn' (k:Ok K g G H σ Δ) {a:Addr}{od:OD}(i:Nat) (p:Pend K g G H σ Δ a od):Ok K g G H (σ.set i (some (.ref a))) (Δ.set i (.own od)):=by
 by_cases hi:i < Δ.length
 ·exact k.setOwn hi p
 ·have hl:=k.len
  rw[Wda (l:=σ) (by omega),Wda (l:=Δ) (by omega)];exact k
theorem Zv1 {te:TE}{i:Nat}{P:Pst}(h:JE K te Δ λd Δ1=>P.nx (Δ1.set i (.val d))):JS K (tAsg te (gName i)) Δ P:=λg G H σ E k c=>
 h g G H σ _ k λv d G1 H1 Δ1 k1 s1 r1 p1=>c.nx _ G1 H1 _ (k1.setVal' i r1) p1
theorem Zsw {te:TE}{i:Nat}{P:Pst}(h:JO K te Δ λod Δ1=>P.nx (Δ1.set i (.own od))):JS K (tAsg te (gName i)) Δ P:=λg G H σ E k c=>
 h g G H σ _ k λa od G1 H1 Δ1 k1 s1 pd p1=>c.nx _ G1 H1 _ (k1.setOwn' i pd) p1
theorem Zsy {i j:Nat}{ta:TA}{P:Pst}(h:JA K ta Δ λds Δ1=>∃d e,ds=[d,e]/\P.nx ((Δ1.set i (.val d)).set j (.val e))):JS K (tPar i j ta) Δ P:=λg G H σ E k c=>
 h g G H σ _ k λvs ds G1 H1 Δ1 k1 s1 r1 hq_=>by
  obtain⟨d,e,hd,p1⟩:=hq_;subst hd;obtain⟨_,_,rfl,ra,rr⟩:=r1.inv
  next=>
   obtain⟨_,_,rfl,rb,rr⟩:=rr.inv
   next=>
    cases rr.inv;exact⟨_,_,rfl,c.nx _ G1 H1 _ ((k1.setVal' i ra).setVal' j rb) p1⟩
theorem Zbo {i:Nat}{d:D}{P:Evt->Prop}(p:P (Δ.set i (.val d))):JG K (gName i) d Δ P:=λg G H σ v R k r c=>c _ G H _ (k.setVal' i r) (Same.refl _) p
theorem Ze2 {n i:Nat}{d:D}{P:Evt->Prop}(hn:i<n) (p:P (Δ.set i (.val d))):JGn K n (gName i) d Δ P:=λg G H σ v R k r c=>
 c _ G H _ (k.setVal' i r) (Same.refl _) (λj hj=>Wa1 (by omega)) p
theorem Zvh {n:Nat}{te:TE}{Pp:Pst}{x:Slot}{ds0:List D}(hx:Δ[n]?=some x) (ho:x.od=some (.lst ds0))
  (h:JE K te Δ λd Δ1=>∃y ds,Δ1[n]?=some y/\y.od=some (.lst ds)/\ds.length<sizeLine/\Pp.nx (Δ1.set n (y.put (.lst (ds++[d]))))) :
  JS K (tDrop (tBM K "list" rAppend (tVar n) (tCons te tNil))) Δ Pp:=Zpc hx ho ⟨_,rfl⟩ h
end
section
variable {K:W.Frag}{Δ:Evt}{nx bk ct:Evt->Prop}{rt:D->Evt->Prop}{ro:OD->Evt->Prop}
theorem Za4 (p:nx Δ):JS K tNext Δ ⟨nx,rt,bk,ct,ro⟩:=Zst p
theorem Zaj {t u:TS}(h:JS K t Δ ⟨λΔ1=>JS K u Δ1 ⟨nx,rt,bk,ct,ro⟩,rt,bk,ct,ro⟩):JS K (tSeq t u) Δ ⟨nx,rt,bk,ct,ro⟩:=Zsc h
theorem Zbk {t u:TS}(I:Evt->Prop) (h1:JS K t Δ ⟨I,rt,bk,ct,ro⟩) (h2:∀Δ1,I Δ1->JS K u Δ1 ⟨nx,rt,bk,ct,ro⟩):JS K (tSeq t u) Δ ⟨nx,rt,bk,ct,ro⟩:=
 Zsc (h1.mono h2 (λ_ _ z=>z) (λ_ z=>z) (λ_ z=>z) λ_ _ z=>z)
theorem Za8 {te:TE}(h:JE K te Δ rt):JS K (tRet te) Δ ⟨nx,rt,bk,ct,ro⟩:=Zww h
theorem Ze4 {te:TE}(h:JO K te Δ ro):JS K (tRet te) Δ ⟨nx,rt,bk,ct,ro⟩:=Zte h
theorem Ztq {te:TE}(h:JE K te Δ λ_ Δ1=>nx Δ1):JS K (tDrop te) Δ ⟨nx,rt,bk,ct,ro⟩:=Zty h
theorem Zcq {c:TT}{t u:TS}(h:JT K c Δ λb Δ1=>if b=true then JS K t Δ1 ⟨nx,rt,bk,ct,ro⟩ else JS K u Δ1 ⟨nx,rt,bk,ct,ro⟩):JS K (tIfS c t u) Δ ⟨nx,rt,bk,ct,ro⟩:=Zxk h
theorem Zav {te:TE}{i:Nat}(h:JE K te Δ λd Δ1=>nx (Δ1.set i (.val d))):JS K (tAsg te (gName i)) Δ ⟨nx,rt,bk,ct,ro⟩:=Zv1 h
theorem Zb5 {te:TE}{i:Nat}(h:JO K te Δ λod Δ1=>nx (Δ1.set i (.own od))):JS K (tAsg te (gName i)) Δ ⟨nx,rt,bk,ct,ro⟩:=Zsw h
theorem Zik {i j:Nat}{ta:TA}(h:JA K ta Δ λds Δ1=>∃d e,ds=[d,e]/\nx ((Δ1.set i (.val d)).set j (.val e))):JS K (tPar i j ta) Δ ⟨nx,rt,bk,ct,ro⟩:=Zsy h
theorem Zoz {te:TE}{t:TG}(h:JE K te Δ λd Δ1=>JG K t d Δ1 nx):JS K (tAsg te t) Δ ⟨nx,rt,bk,ct,ro⟩:=Zwg h
theorem Zgl {n:Nat}{te:TE}{x:Slot}{ds0:List D}(hx:Δ[n]?=some x) (ho:x.od=some (.lst ds0))
  (h:JE K te Δ λd Δ1=>∃y ds,Δ1[n]?=some y/\y.od=some (.lst ds)/\ds.length<sizeLine/\nx (Δ1.set n (y.put (.lst (ds++[d]))))) :
  JS K (tDrop (tBM K "list" rAppend (tVar n) (tCons te tNil))) Δ ⟨nx,rt,bk,ct,ro⟩:=Zvh hx ho h
theorem Zkj {n:Nat}{ti te:TE}(h:JE K te Δ λd Δ1=>(∃x ds,Δ1[n]?=some x/\x.od=some (.lst ds))/\JE K ti Δ1 λe Δ2=>∃x ds i j,Δ2[n]?=some x/\x.od=some (.lst ds)/\e=.int i/\ixN ds.length i=some j/\nx (Δ2.set n (x.put (.lst (ds.set j d))))) :
  JS K (tAsg te (gSub (tVar n) ti rSetU)) Δ ⟨nx,rt,bk,ct,ro⟩:=Zpj (h.mono λd Δ1 ⟨⟨x,ds,h1,h2⟩,h3⟩=>⟨⟨x,_,h1,h2⟩,h3⟩)
theorem Zn9 {n:Nat}{ti te:TE}(h:JE K te Δ λd Δ1=>(∃x kvs,Δ1[n]?=some x/\x.od=some (.dct kvs))/\JE K ti Δ1 λe Δ2=>∃x kvs i,Δ2[n]?=some x/\x.od=some (.dct kvs)/\e=.int i/\kvs.length<sizeLine/\nx (Δ2.set n (x.put (.dct (putD kvs (.inl i) d))))) :
  JS K (tAsg te (gSub (tVar n) ti rSetU)) Δ ⟨nx,rt,bk,ct,ro⟩:=Zs8 (h.mono λd Δ1 ⟨⟨x,ds,h1,h2⟩,h3⟩=>⟨⟨x,_,h1,h2⟩,h3⟩)
theorem Zcy {wi:TI}{t:TG}{tb:TS}(h:JI K wi Δ λds Δ1=>∃I:Nat->Evt->Prop,I 0 Δ1/\(∀i d Δ2,ds[i]?=some d->I i Δ2->JG K t d Δ2 λΔ3=>JS K tb Δ3 ⟨I (i+1),rt,nx,I (i+1),ro⟩)/\∀Δ2,I ds.length Δ2->nx Δ2) :
  JS K (tFor wi t tb) Δ ⟨nx,rt,bk,ct,ro⟩:=Zu1 h
theorem Zh4 {c:TT}{tb:TS}(I:Nat->Evt->Prop) (h0:∃m,I m Δ) (ht:∀m Δ1,I m Δ1->JT K c Δ1 λb Δ2=>if b=true then JS K tb Δ2 ⟨λΔ3=>∃m',m'<m/\I m' Δ3,rt,nx,λΔ3=>∃m',m'<m/\I m' Δ3,ro⟩ else nx Δ2) :
  JS K (tWhile c tb) Δ ⟨nx,rt,bk,ct,ro⟩:=Zp7 I h0 ht
end
theorem Zpb {α β:Type}{f:α -> β}{xs:List α}{i:Int}(h0:0<=i) (h1:i<(xs.length:Int)):∃c,xs[i.toNat]?=some c/\atI (xs.map f) i=some (f c):=by
 have hk:i.toNat<xs.length:=by omega
 have e:i=((i.toNat:Nat):Int):=by omega
 have q:xs[i.toNat]?=some xs[i.toNat]:=Waa hk;generalize xs[i.toNat]=c at q;refine⟨c,q,?_⟩;have z:atI (xs.map f) ((i.toNat:Nat):Int)=some (f c):=Zb0 (by rw[Wad,q];rfl);rw[<- e]at z;exact z
theorem Zop:bootBuiltins "abs" = some (.builtin "abs"):=by decide +kernel
theorem Zbl:bootBuiltins "len" = some (.builtin "len"):=by decide +kernel
theorem Zjg:bootBuiltins "min" = some (.builtin "min"):=by decide +kernel
theorem Zm4:bootBuiltins "max" = some (.builtin "max"):=by decide +kernel
theorem Zbp:bootBuiltins "isinstance" = some (.builtin "isinstance"):=by decide +kernel
theorem Zv4:bootBuiltins "all" = some (.builtin "all"):=by decide +kernel
theorem Zey:bootBuiltins "sorted" = some (.builtin "sorted"):=by decide +kernel
theorem Zbs:bootBuiltins "tuple" = some (.type "tuple"):=by decide +kernel
theorem Zj4:bootBuiltins "list" = some (.type "list"):=by decide +kernel
theorem Zof:bootBuiltins "set" = some (.type "set"):=by decide +kernel
theorem Zwc:bootBuiltins "int" = some (.type "int"):=by decide +kernel
theorem Ztm:bootBuiltins "bool" = some (.type "bool"):=by decide +kernel
theorem Zwn:bootBuiltins "zip" = some (.type "zip"):=by decide +kernel
structure Callee (P:Program) (w:World) (K:W.Frag) (mg:Str->Option Value) (base:Heap) (k:Nat) (x:Str) (ps:List Str) (sp:Sp):Prop where
 ex:∃(f:Addr) (fd:FuncData),FnOk P w K mg base CX0 k f fd ps sp/\Binds K fd ps []/\W.keepIn K (.ref f)=true/\mg x=some (.ref f)
section
variable {X:Cx}{k:Nat}{x:Str}{ps:List Str}{sp:Sp}{e:Expr}{es:List Expr}{t:TA}{p pos:Pos}
theorem Zay (C:Callee X.prog X.w X.K X.mg X.base k x ps sp) (hr:Room k X.A) (ha:PA X (e::es) t) (hg:Gl X x:=by rfl) (hdb:(x == ("__debug__":Str))=false:=by decide)
  (he:starEach (e::es) X.env=(false,eval e X.env)::starEach es X.env:=by rfl) (hpl:(backTo pos (starEach es X.env)).any (·.1)=false:=by rfl):PE X (.Call (.Name x p) (e::es) [] pos) (tCall sp [] E0 t):=by
 obtain⟨f,fd,F,b,kp,m⟩:=C.ex;exact Zs9 F hr hg m kp b .nil pass0 ha hdb he hpl
end
def fixD (sel:List Nat) (Δ:Evt):Evt:=sel.map λi=>(Δ[i]?).getD .any
theorem Zd0 {n:Nat}{sel:List Nat}{ts Δ:Evt}(ht:ts.length=n):backD n sel (ts++fixD sel Δ) 0 Δ = Δ:=by
 apply Wb6;intro i;rw[Zc7];cases q:Δ[i]? with
 |none=>rfl
 |some x=>
  show some (backAt n sel (ts++fixD sel Δ) (0+i) x)=some x;congr 1;rw[Weo];have key:∀j,sel.idxOf? i=some j->(ts++fixD sel Δ)[n+j]?=some x:=λj hj=>by
   rw[Wa0 (by omega),ht,Nat.add_sub_cancel_left];unfold fixD;rw[Wad,Zeu hj];show some ((Δ[i]?).getD .any)=_;rw[q];rfl
  unfold backAt;cases x with
  |any=>rfl
  |val d=>rfl
  |own o=>
   dsimp only;cases e:sel.idxOf? i with
   |none=>rfl
   |some j=>dsimp only;rw[key j e]
  |bor o=>
   dsimp only;cases e:sel.idxOf? i with
   |none=>rfl
   |some j=>dsimp only;rw[key j e]
  |ownA a o=>
   dsimp only;cases e:sel.idxOf? i with
   |none=>rfl
   |some j=>dsimp only;rw[key j e]
section
variable {K:W.Frag}{Δ:Evt}{P:D->Evt->Prop}
theorem Zch {sel:List Nat}{wi:TI}{tc:TT}{te:TE}(hsel:sel.Nodup)
  (h:JI K wi Δ λds Δ1=>ds.length<sizeLine/\∃(p:D->Bool) (f:D->D),
   (∀(i:Nat) d,ds[i]?=some d->JT K tc (.val d::fixD sel Δ1) λb Δ4=>b=p d/\if b=true then JE K te Δ4 λe Δ5=>e=f d/\∃x,Δ5=x::fixD sel Δ1 else ∃x,Δ4=x::fixD sel Δ1) ∧
   P (.lst ((ds.filter p).map f)) Δ1):JE K (tComp 1 sel wi (gName 0) tc te) Δ P:=by
 refine Zle hsel λg G H σ R k c=>h g G H σ R k λJ ds G' H' Δ' k' s' it ⟨z,p,f,ht,he⟩=>c J ds G' H' Δ' k' s' it ⟨z,fixD sel Δ',p,f,rfl,λi d ts hd hts=>?_,?_⟩
 ·refine Ze2 (by decide) ?_
  obtain⟨x,rfl⟩:∃x,ts=[x]:=by
   match ts,hts with
   |[x],_=>exact⟨x,rfl⟩
  intro g G H σ Q k c;refine ht i d hd g G H σ Q k λb G1 H1 Δ1 k1 s1 ⟨e1,q⟩=>c b G1 H1 Δ1 k1 s1 ⟨e1,?_⟩;cases b with
  |true=>
   rw[if_pos rfl]at q ⊢;exact q.mono λe Δ5 ⟨e2,x,e3⟩=>⟨e2,[x],rfl,e3⟩
  |false=>
   rw[if_neg Wan]at q ⊢;obtain⟨x,e3⟩:=q;exact⟨[x],rfl,e3⟩
 ·rw[Zd0 (by simp)];exact he
theorem Zej {sel:List Nat}{wi:TI}{tc:TT}{te:TE}{Po:OD->Evt->Prop}(hsel:sel.Nodup)
  (h:JI K wi Δ λds Δ1=>ds.length<sizeLine/\∃(p:D->Bool) (f:D->D),
   (∀(i:Nat) d,ds[i]?=some d->JT K tc (.val d::fixD sel Δ1) λb Δ4=>b=p d/\if b=true then JE K te Δ4 λe Δ5=>e=f d/\∃x,Δ5=x::fixD sel Δ1 else ∃x,Δ4=x::fixD sel Δ1) ∧
   Po (.lst ((ds.filter p).map f)) Δ1):JO K (tComp 1 sel wi (gName 0) tc te) Δ Po:=by
 refine Zo3 hsel λg G H σ R k c=>h g G H σ R k λJ ds G' H' Δ' k' s' it ⟨z,p,f,ht,he⟩=>c J ds G' H' Δ' k' s' it ⟨z,λi ys Δ=>ys=((ds.take i).filter p).map f/\∃x,Δ = x::fixD sel Δ',⟨by simp,.any,rfl⟩,?_,?_⟩
 ·rintro i d ys Δ2 hd ⟨rfl,x,rfl⟩
  have tk:ds.take (i+1)=ds.take i++[d]:=by
   rw[Wb0,hd];rfl
  refine Ze2 (by decide) ?_;intro g G H σ Q k c;refine ht i d hd g G H σ Q k λb G1 H1 Δ1 k1 s1 ⟨e1,q⟩=>c b G1 H1 Δ1 k1 s1 ?_;cases b with
  |true=>
   rw[if_pos rfl]at q ⊢;refine q.mono λe Δ5 ⟨e2,x,e3⟩=>⟨?_,x,e3⟩;rw[tk,Wb1,Wax,Wbi,<- e1,e2];rfl
  |false=>
   rw[if_neg Wan]at q ⊢;obtain⟨x,e3⟩:=q;refine⟨?_,x,e3⟩;rw[tk,Wb1,Wax,Wbi,<- e1];simp
 ·rintro ys Δ2 ⟨rfl,x,rfl⟩
  rw[Wby,show (x::fixD sel Δ')=[x]++fixD sel Δ' from rfl,Zd0 (by simp)];exact he
theorem Zfl {sel:List Nat}{wi:TI}{tc:TT}{te:TE}(hsel:sel.Nodup)
  (h:JI K wi Δ λds Δ1=>ds.length<sizeLine/\∃(p:D->Bool) (f:D->D),
   (∀(i:Nat) d,ds[i]?=some d->∃a b,d=.tup [a,b]/\JT K tc (.val a::.val b::fixD sel Δ1) λt Δ4=>t=p d/\if t=true then JE K te Δ4 λe Δ5=>e=f d/\∃x y,Δ5=x::y::fixD sel Δ1 else ∃x y,Δ4=x::y::fixD sel Δ1) ∧
   P (.lst ((ds.filter p).map f)) Δ1):JE K (tComp 2 sel wi (gTup K 2 (gCons (gName 0) (gCons (gName 1) gNil))) tc te) Δ P:=by
 refine Zle hsel λg G H σ R k c=>h g G H σ R k λJ ds G' H' Δ' k' s' it ⟨z,p,f,ht,he⟩=>c J ds G' H' Δ' k' s' it ⟨z,fixD sel Δ',p,f,rfl,λi d ts hd hts=>?_,?_⟩
 ·obtain⟨a,b,rfl,hj⟩:=ht i d hd
  refine Zs0 rfl (Zi6 (Ze2 (by decide) (Zi6 (Ze2 (by decide) (Zq2 ?_)))));obtain⟨x,y,rfl⟩:∃x y,ts=[x,y]:=by
   match ts,hts with
   |[x,y],_=>exact⟨x,y,rfl⟩
  intro g G H σ Q k c;refine hj g G H σ Q k λb G1 H1 Δ1 k1 s1 ⟨e1,q⟩=>c b G1 H1 Δ1 k1 s1 ⟨e1,?_⟩;cases b with
  |true=>
   rw[if_pos rfl]at q ⊢;exact q.mono λe Δ5 ⟨e2,x,y,e3⟩=>⟨e2,[x,y],rfl,e3⟩
  |false=>
   rw[if_neg Wan]at q ⊢;obtain⟨x,y,e3⟩:=q;exact⟨[x,y],rfl,e3⟩
 ·rw[Zd0 (by simp)];exact he
end
def tGhost (base:Nat) (t:TS):TS:=λE σ H=>t { E with nx:=λσ' H'=>∃σ2:St,σ2.length = σ'.length/\(∀i,i<base -> σ2[i]? = σ'[i]?)/\E.nx σ2 H' } σ H
theorem Zqq {X:Cx}{st:Stmt}{t:TS}(base:Nat) (hv:∀x∈X.N.drop base,X.env.scope.names.lookup x=none) (h:PS X st t):PS X st (tGhost base t):=by
 intro pins s σ H E I hw;refine thn (h pins s σ H _ I hw) λf s1 q=>?_;cases f with
 |next=>
  obtain⟨σ',H',I',σ2,hl,hs,q⟩:=q;refine⟨σ2,H',⟨I'.ok,I'.os,I'.bare,I'.base,?_,I'.cell,I'.free,I'.freeC,I'.pin,I'.hok,hl.trans I'.len⟩,q⟩;obtain⟨m,hn,hl'⟩:=I'.loc;refine⟨m,hn,λi x v e1 e2 e3=>?_⟩;by_cases hi:i<base
  ·rw[hs i hi]at e2;exact hl' i x v e1 e2 e3
  ·have hm:x∈X.N.drop base:=by
    refine Wat (i:=i-base) ?_;rw[Wco,show base+(i-base)=i by omega];exact e1
   have z:=hv x hm;rcases e3 with w|w|w <;> (rw[z]at w;cases w)
 |ret v=>exact q
 |brk=>exact q
 |cont=>exact q
def Nest (K:W.Frag) (g:Gm) (G H:Hp) (σ:St) (Δ:Evt) (cs:List (Addr × HO)) (ods:List OD):Prop:=
 (cs.map (·.1)).Nodup/\Paired (λ(c:Addr × HO) (od:OD)=>OwnRep K G c.2 od) cs ods/\∀c∈cs,H c.1=some c.2/\G c.1=none/\g.Hz c.1=none/\g.Xo c.1=none/\∀(i:Nat) x od',Δ[i]?=some x->x.od=some od' -> σ[i]?≠some (some (.ref c.1))
def JN (K:W.Frag) (t:TE) (Δ:Evt) (P:List OD->Evt->Prop):Prop:=
 ∀g G H σ Q,Ok K g G H σ Δ -> (∀acc cs ods G' H' Δ',Ok K g G' H' σ Δ' -> Same G G' -> Rep K G' (.ref acc) (.lst (cs.map λ(c:Addr × HO)=>D.adr c.1))->g.Hz acc=none->Nest K g G' H' σ Δ' cs ods->P ods Δ' -> Q (.ref acc) H')->t σ H Q
section
variable {K:W.Frag}{Δ:Evt}
def cellAt (cs:List (Addr × HO)) (b:Addr):Option HO:=(cs.find? λc=>decide (c.1=b)).map (·.2)
theorem Zd9 {cs:List (Addr × HO)}{b:Addr}:cellAt cs b=none ↔ ∀c∈cs,c.1≠b:=by
 unfold cellAt;rw[Option.map_eq_none_iff,List.find?_eq_none];constructor
 ·intro h c hc e;exact h c hc (decide_eq_true e)
 ·intro h c hc e;exact h c hc (of_decide_eq_true e)
theorem Zhh {cs:List (Addr × HO)}(nd:(cs.map (·.1)).Nodup) {c:Addr × HO}(hc:c∈cs):cellAt cs c.1=some c.2:=by
 induction cs with
 |nil=>cases hc
 |cons d r ih=>
  rw[Wbe,Wbr]at nd;unfold cellAt;rcases Wal.mp hc with e|hc
  ·subst e;simp
  ·have hne:d.1≠c.1:=λe=>nd.1 (by rw[e];exact Way.mpr ⟨c,hc,rfl⟩)
   rw[Wch (by simpa using hne)];exact ih nd.2 hc
open Classical in
noncomputable def asideN (g:Gm) (sel:List Nat) (σ:St) (Δ:Evt) (H:Hp) (acc:Addr) (cs:List (Addr × HO)):Hp:=λb=>
 if b=acc then some (.lst (cs.map λc=>V.ref c.1)) else match cellAt cs b with
  |some o=>some o
  |none=>if ∃(i:Nat) (x:Slot) (od:OD),Δ[i]?=some x/\x.od=some od/\i ∉ sel /\ σ[i]?=some (some (.ref b)) then H b else g.Xo b
theorem Zc4 {g:Gm}{sel:List Nat}{σ:St}{Δ:Evt}{H:Hp}{acc:Addr}{cs:List (Addr × HO)}:asideN g sel σ Δ H acc cs acc=some (.lst (cs.map λc=>V.ref c.1)):=by unfold asideN;rw[if_pos rfl]
theorem Zck {g:Gm}{sel:List Nat}{σ:St}{Δ:Evt}{H:Hp}{acc b:Addr}{o:HO}{cs:List (Addr × HO)}(hb:b≠acc) (e:cellAt cs b=some o):asideN g sel σ Δ H acc cs b=some o:=by unfold asideN;rw[if_neg hb,e]
theorem Zc3 {g:Gm}{sel:List Nat}{σ:St}{Δ:Evt}{H:Hp}{acc b:Addr}{cs:List (Addr × HO)}(hb:b≠acc) (e:cellAt cs b=none) (hx:∃(i:Nat) (x:Slot) (od:OD),Δ[i]?=some x/\x.od=some od/\i ∉ sel /\ σ[i]?=some (some (.ref b))):asideN g sel σ Δ H acc cs b=H b:=by
 unfold asideN;rw[if_neg hb,e];exact if_pos hx
theorem Zcp {g:Gm}{sel:List Nat}{σ:St}{Δ:Evt}{H:Hp}{acc b:Addr}{cs:List (Addr × HO)}(hb:b≠acc) (e:cellAt cs b=none) (hx:¬ ∃(i:Nat) (x:Slot) (od:OD),Δ[i]?=some x/\x.od=some od/\i ∉ sel /\ σ[i]?=some (some (.ref b))):asideN g sel σ Δ H acc cs b=g.Xo b:=by
 unfold asideN;rw[if_neg hb,e];exact if_neg hx
theorem Zt5 {n:Nat}{sel:List Nat}{wi:TI}{t:TG}{tc:TT}{te:TE}{P:List OD->Evt->Prop}(hsel:sel.Nodup)
  (h:JI K wi Δ λds Δ1=>ds.length<sizeLine/\∃I:Nat->List OD->Evt->Prop,I 0 [] (compD n sel Δ1) ∧
   (∀i d ys Δ2,ds[i]?=some d->I i ys Δ2->JGn K n t d Δ2 λΔ3=>JT K tc Δ3 λb Δ4=>if b=true then JO K te Δ4 λe Δ5=>I (i+1) (ys++[e]) Δ5 else I (i+1) ys Δ4) ∧
   ∀ys Δ2,I ds.length ys Δ2->P ys (backD n sel Δ2 0 Δ1)):JN K (tComp n sel wi t tc te) Δ P:=λg G H σ Q k c=>
 h g G H σ _ k λJ ds G1 H1 Δ1 k1 s1 it ⟨hz,I,h0,ht,he⟩ acc hacc=>by
  have nacc:∀(i:Nat) x od,Δ1[i]?=some x->x.od=some od -> σ[i]?≠some (some (.ref acc)):=λi x od e1 e2 e3=>by
   obtain⟨a,o,w1,w2,_⟩:=k1.own i x od e1 e2;rw[e3]at w1;cases w1;rw[hacc]at w2;cases w2
  let Wd:Nat->St->Hp->Prop:=λi σ' H'=>i<=ds.length/\(∀j,n<=j -> σ'[j]?=(compSt n sel σ)[j]?)/\∃G ys cs Δi,cs.length<=i/\(cs.map (·.1)).Nodup/\(∀c∈cs,c.1≠acc/\g.Hz c.1=none/\g.Xo c.1=none/\∀(i:Nat) x od,Δ1[i]?=some x->x.od=some od->i ∉ sel -> σ[i]?≠some (some (.ref c.1)))/\Paired (λ(c:Addr × HO) (od:OD)=>OwnRep K G c.2 od) cs ys ∧
   Ok K ⟨g.B,G1,g.Hz,asideN g sel σ Δ1 H1 acc cs⟩ G H' σ' Δi/\I i ys Δi
  refine⟨λi m σ' H'=>m=ds.length-i/\Wd i σ' H',⟨ds.length,by simp,Wbl _,λ_ _=>rfl,G1,[],[],compD n sel Δ1,Wah _,Wdj,λc hc=>(nomatch hc),.nil,?_,h0⟩,?_⟩
  ·refine Zhb hsel k1 hacc λb o e=>?_
   have e:asideN g sel σ Δ1 H1 acc [] b=some o:=e;by_cases hb:b=acc
   ·subst hb;rw[Zc4]at e;cases e;exact .inl ⟨rfl,rfl⟩
   ·by_cases hx:∃(i:Nat) (x:Slot) (od:OD),Δ1[i]?=some x/\x.od=some od/\i ∉ sel /\ σ[i]?=some (some (.ref b))
    ·rw[Zc3 hb rfl hx]at e;exact .inr ⟨hb,.inl ⟨hx,e⟩⟩
    ·rw[Zcp hb rfl hx]at e;exact .inr ⟨hb,.inr e⟩
  ·rintro i m σ2 H2 ⟨rfl,hi,hσ,G2,ys,cs,Δ2,hy,nd,hcs,ry,k2,h2⟩
   have s2:Same G1 G2:=k2.sub;obtain⟨stop,go⟩:=it G2 H2 s2 k2.live;by_cases hlt:i<ds.length
   ·obtain⟨g1,g2⟩:=go i _ (Waa hlt)
    refine .inr ⟨g1,λσ' H'=>Wd (i+1) σ' H',λσ' H' p'=>⟨ds.length-(i+1),by omega,rfl,p'⟩,λx H3 y=>?_⟩;obtain⟨G3,a1,a2,a3,a4⟩:=g2 x H3 y;have k3:=k2.grow a1 a2 a3;have hG3:∀b o,G3 b=some o->(g.Hz b=none\/G1 b=some o):=λb o q=>(k3.frz b o q).2;have k3':Ok K ⟨g.B,G3,g.Hz,asideN g sel σ Δ1 H1 acc cs⟩ G3 H3 σ2 Δ2:=⟨k3.same,k3.lent,Same.refl _,λb o q=>⟨(k3.frz b o q).1,.inr q⟩,k3.ext,k3.len,k3.val,k3.own,k3.dis⟩;have ry3:Paired (λ(c:Addr × HO) (od:OD)=>OwnRep K G3 c.2 od) cs ys:=Paired.mapP ry λ_ _ z=>z.mono a1;have s13:Same G1 G3:=s2.trans a1;refine ht i _ ys Δ2 (Waa hlt) h2 ⟨g.B,G3,g.Hz,asideN g sel σ Δ1 H1 acc cs⟩ G3 H3 σ2 x _ k3' a4 λσ4 G4 H4 Δ4 k4 s4 e4 p4=>?_;have hσ4:∀j,n<=j -> σ4[j]?=(compSt n sel σ)[j]?:=λj hj=>(e4 j hj).trans (hσ j hj);refine p4 _ G4 H4 σ4 _ k4 λb G5 H5 Δ5 k5 s5 p5=>?_;cases b with
    |false=>exact⟨hlt,hσ4,G5,ys,cs,Δ5,by omega,nd,hcs,Paired.mapP ry3 λ_ _ z=>z.mono (s4.trans s5),k5.base s13 hG3,p5⟩
    |true=>
     refine(show JO K te Δ5 _ from p5) _ G5 H5 σ4 _ k5 λa od G6 H6 Δ6 k6 s6 pd p6=>?_;have ry6:Paired (λ(c:Addr × HO) (od:OD)=>OwnRep K G6 c.2 od) cs ys:=Paired.mapP ry3 λ_ _ z=>z.mono (s4.trans (s5.trans s6));obtain⟨b1,b2,b3⟩:=k6.ext acc _ Zc4;obtain⟨oa,d1,d2,d3,d4,d5,d6⟩:=pd;have d5:asideN g sel σ Δ1 H1 acc cs a=none:=d5;have hane:a≠acc:=by intro z;subst z;rw[Zc4]at d5;cases d5
     have hac:cellAt cs a=none:=by
      cases q:cellAt cs a with
      |none=>rfl
      |some o=>rw[Zck hane q]at d5;cases d5
     have hax:∀(i:Nat) x od,Δ1[i]?=some x->x.od=some od->i ∉ sel -> σ[i]?≠some (some (.ref a)):=λi x od e1 e2 e3 e4=>by
      rw[Zc3 hane hac ⟨i,x,od,e1,e2,e3,e4⟩]at d5;obtain⟨a',o',w1,w2,_⟩:=k1.own i x od e1 e2;rw[e4]at w1;cases w1;rw[d5]at w2;cases w2
     have hagx:g.Xo a=none:=by
      rw[Zcp hane hac (λ⟨i,x,od,e1,e2,e3,e4⟩=>hax i x od e1 e2 e3 e4)]at d5;exact d5
     have hnm:=Zd9.mp hac;refine⟨cs.map λc=>V.ref c.1,b1,by rw[Wab];omega,hlt,hσ4,G6,ys++[od],cs++[(a,oa)],Δ6,by rw[Waq,Wcl];omega,?_,λc hc=>?_,Paired.snoc ry6 d2,?_,p6⟩
     ·rw[Wax]
      refine Wc5.mpr ⟨nd,by simp,λx hx y hy=>?_⟩;rw[Weg,Wbc]at hy;subst hy;obtain⟨c,hc,rfl⟩:=Way.mp hx;exact hnm c hc
     ·rcases Wbd.mp hc with hc|hc
      ·exact hcs c hc
      ·rw[Wbc.mp hc];exact⟨hane,d4,hagx,hax⟩
     ·have k7:=k6.base s13 hG3
      have nd':((cs++[(a,oa)]).map (·.1)).Nodup:=by
       rw[Wax];refine Wc5.mpr ⟨nd,by simp,λx hx y hy=>?_⟩;rw[Weg,Wbc]at hy;subst hy;obtain⟨c,hc,rfl⟩:=Way.mp hx;exact hnm c hc
      have er:(cs++[(a,oa)]).map (λc=>V.ref c.1)=(cs.map λc=>V.ref c.1)++[V.ref a]:=by simp
      have oldH:∀b o,b≠acc->H6 b=some o->(upd H6 acc (.lst ((cs.map λc=>V.ref c.1)++[V.ref a]))) b=some o:=λb o hb e=>by rw[Zap hb];exact e
      refine⟨λb o hb e=>?_,λb hb=>?_,k7.sub,λb o e=>?_,λb o e=>?_,k7.len,k7.val,λi x od e1 e2=>?_,k7.dis⟩
      ·have hne:b≠acc:=by
        intro z;subst z;have e:g.Hz b=some o:=e;rw[k1.there hacc]at e;cases e
       exact oldH b o hne (k7.same b o hb e)
      ·by_cases hne:b=acc
       ·subst hne;rw[Zas];intro z;cases z
       ·rw[Zap hne];exact k7.lent b hb
      ·have hne:b≠acc:=by intro z;subst z;rw[b2]at e;cases e
       exact⟨oldH b o hne (k7.frz b o e).1,(k7.frz b o e).2⟩
      ·have e:asideN g sel σ Δ1 H1 acc (cs++[(a,oa)]) b=some o:=e
       by_cases hne:b=acc
       ·subst hne
        rw[Zc4,er]at e;cases e;exact⟨Zas,b2,b3⟩
       ·by_cases hba:b=a
        ·subst hba
         rw[Zck hne (Zhh nd' (c:=(b,oa)) (Wa9 _ (Wbc.mpr rfl)))]at e;cases e;exact⟨oldH b _ hne d1,d3,d6⟩
        ·have ec:cellAt (cs++[(a,oa)]) b=cellAt cs b:=by
          unfold cellAt;rw[List.find?_append];cases (cs.find? λc=>decide (c.1=b)) with
          |some c=>rfl
          |none=>
           rw[Wch (by simpa using Ne.symm hba)];rfl
         have e':asideN g sel σ Δ1 H1 acc cs b=some o:=by
          cases q:cellAt cs b with
          |some o'=>rw[Zck hne (ec.trans q)]at e;rw[Zck hne q];exact e
          |none=>
           by_cases hx:∃(i:Nat) (x:Slot) (od:OD),Δ1[i]?=some x/\x.od=some od/\i ∉ sel /\ σ[i]?=some (some (.ref b))
           ·rw[Zc3 hne (ec.trans q) hx]at e;rw[Zc3 hne q hx];exact e
           ·rw[Zcp hne (ec.trans q) hx]at e;rw[Zcp hne q hx];exact e
         obtain⟨w1,w2,w3⟩:=k7.ext b o e';exact⟨oldH b o hne w1,w2,w3⟩
      ·obtain⟨a',o,w1,w2,w3,w4,w5⟩:=k7.own i x od e1 e2
       have hne:a'≠acc:=by intro z;subst z;exact b3 i x od e1 e2 w1
       exact⟨a',o,w1,oldH a' o hne w2,w3,w4,w5⟩
   ·have e:i=ds.length:=by omega
    subst e;refine .inl ⟨stop,?_⟩;obtain⟨b1,b2,b3⟩:=k2.ext acc _ Zc4;have src:=Zh8 (Δ1:=Δ1) (Δ2:=Δ2) hσ;have k9:Ok K g G2 H2 σ (backD n sel Δ2 0 Δ1):=Zgd k1 hacc k2 hσ (λb o hb hx e=>by
      show asideN g sel σ Δ1 H1 acc cs b=_;rw[Zc3 hb (Zd9.mpr λc hc z=>?_) hx]
      ·exact e
      ·obtain⟨i0,x0,od0,f1,f2,f3,f4⟩:=hx
       exact(hcs c hc).2.2.2 i0 x0 od0 f1 f2 f3 (by rw[z];exact f4)) (λb o hb hx e=>by
      show asideN g sel σ Δ1 H1 acc cs b=_;rw[Zcp hb (Zd9.mpr λc hc z=>?_) hx]
      ·exact e
      ·have:=(hcs c hc).2.2.1;rw[z,e]at this;cases this)
    -- the outer list is frozen
    have nslot:∀(i:Nat) y od,(backD n sel Δ2 0 Δ1)[i]?=some y->y.od=some od -> σ[i]?≠some (some (.ref acc)):=λi y od e1 e2=>by
     obtain⟨x',od1,f1,f2,_⟩:=src i y od e1 e2;exact nacc i x' od1 f1 f2
    have refs:∀{G:Hp}(l:List (Addr × HO)),Reps K G (l.map λc=>V.ref c.1) (l.map λc=>D.adr c.1):=λ{G} l=>by
     induction l with
     |nil=>exact .nil
     |cons c r ih=>exact .cons (.adr _) ih
    have gX:g.Xo acc=none:=by
     cases q:g.Xo acc with
     |none=>rfl
     |some u=>have z:=(k1.ext acc u q).1;rw[hacc]at z;cases z
    obtain⟨kf,sf,rf⟩:=k9.freeze (a:=acc) (ds:=cs.map λ(c:Addr × HO)=>D.adr c.1) (vs:=cs.map λ(c:Addr × HO)=>V.ref c.1) ⟨_,b1,(show Reps K G2 (cs.map λ(c:Addr × HO)=>V.ref c.1) (cs.map λ(c:Addr × HO)=>D.adr c.1) from refs cs),b2,k1.there hacc,gX,nslot⟩ b1;refine c acc cs ys _ H2 _ kf (s1.trans (s2.trans sf)) rf (k1.there hacc) ⟨nd,Paired.mapP ry λ_ _ z=>z.mono sf,λcc hc=>?_⟩ (he ys Δ2 h2);obtain⟨f1,f2,f3,f4⟩:=hcs cc hc;obtain⟨u1,u2,u3⟩:=k2.ext cc.1 cc.2 (Zck f1 (Zhh nd hc));refine⟨u1,by rw[Zap f1];exact u2,f2,f3,λi y od e1 e2 e3=>?_⟩;obtain⟨x,od',w1,w2,w3⟩:=src i y od e1 e2;rcases w3 with ⟨w3,w4⟩|⟨j,w3,w4,w5⟩
    ·exact f4 i x od' w1 w2 w4 e3
    ·exact u3 (n+j) y od w4 e2 (by rw[w5,e3];rfl)
def putN:Nat->List (Addr × OD)->Evt->Evt
 |_,[],Δ=>Δ
 |b,c::r,Δ=>putN (b+1) r (Δ.set b (.ownA c.1 c.2))
def putS:Nat->List Addr->St->St
 |_,[],σ=>σ
 |b,a::r,σ=>putS (b+1) r (σ.set b (some (.ref a)))
theorem Zlm:∀(as:List Addr) (b:Nat) (σ:St),(putS b as σ).length = σ.length
 |[],_,_=>rfl
 |a::r,b,σ=>by rw[putS,Zlm r (b+1),Wdc]
theorem Zg4:∀(as:List Addr) (b:Nat) (σ:St) (i:Nat),i<b->(putS b as σ)[i]? = σ[i]?
 |[],_,_,_,_=>rfl
 |a::r,b,σ,i,h=>by rw[putS,Zg4 r (b+1) _ i (by omega),Wa1 (by omega)]
theorem Ok.setOwnA {g:Gm}{G H:Hp}{σ:St}(k:Ok K g G H σ Δ) {a:Addr}{od:OD}{i:Nat}(hi:i < Δ.length) (p:Pend K g G H σ Δ a od):Ok K g G H (σ.set i (some (.ref a))) (Δ.set i (.ownA a od)):=by
 have k1:=k.setOwn hi p;obtain⟨o,p1,p2,p3,p4,p5,p6⟩:=p;have hs:i < σ.length:=by rw[<- k.len];exact hi
 have old:∀(j:Nat) x,j≠i->(Δ.set i (.ownA a od))[j]?=some x->(Δ.set i (.own od))[j]?=some x:=λj x hj e=>by
  rw[Wa1 (Ne.symm hj)]at e ⊢;exact e
 have cv:∀(j:Nat) x od',(Δ.set i (.ownA a od))[j]?=some x->x.od=some od' -> ∃y,(Δ.set i (.own od))[j]?=some y/\y.od=some od':=λj x od' e1 e2=>by
  by_cases hj:j=i
  ·subst hj
   rw[Wau hi]at e1;cases e1;cases e2;exact⟨.own od,Wau hi,rfl⟩
  ·exact⟨x,old j x hj e1,e2⟩
 refine⟨k1.same,k1.lent,k1.sub,k1.frz,λb u e=>?_,by simp[k.len],λj d e=>?_,λj x od' e1 e2=>?_,λj l x y od1 od2 c e1 e2 e3 e4 e5 e6=>?_⟩
 ·obtain⟨h1,h2,h3⟩:=k1.ext b u e
  refine⟨h1,h2,λj x od' e1 e2=>?_⟩;obtain⟨y,f1,f2⟩:=cv j x od' e1 e2;exact h3 j y od' f1 f2
 ·by_cases hj:j=i
  ·subst hj
   rw[Wau hi]at e;cases e
  ·exact k1.val j d (old j _ hj e)
 ·by_cases hj:j=i
  ·subst hj
   rw[Wau hi]at e1;cases e1;cases e2;exact⟨a,o,Wau hs,p1,p2,p3,rfl,p4⟩
  ·exact k1.own j x od' (old j x hj e1) e2
 ·obtain⟨x',f1,f2⟩:=cv j x od1 e1 e2
  obtain⟨y',f3,f4⟩:=cv l y od2 e3 e4;exact k1.dis j l x' y' od1 od2 c f1 f2 f3 f4 e5 e6
theorem Ok.putN {g:Gm}{G H:Hp}:∀(cs:List (Addr × HO)) (ods:List OD) (b:Nat) (σ:St) (Δ:Evt),Ok K g G H σ Δ -> b+ods.length <= Δ.length->Nest K g G H σ Δ cs ods →
  Ok K g G H (putS b (cs.map (·.1)) σ) (L2.putN b ((cs.map (·.1)).zip ods) Δ)
 |[],[],_,_,_,k,_,_=>k
 |[],_::_,_,_,_,_,_,n=>by cases n.2.1
 |_::_,[],_,_,_,_,_,n=>by cases n.2.1
 |c::cs,od::ods,b,σ,Δ,k,hl,⟨nd,pr,al⟩=>by
  cases pr with
  |cons r t=>
   obtain⟨h1,h2,h3,h4,h5⟩:=al c Wa4;rw[Wbe,Wbr]at nd;have hb:b < Δ.length:=by rw[Waj]at hl;omega
   have k1:=k.setOwnA hb ⟨c.2,h1,r,h2,h3,h4,h5⟩;refine Ok.putN cs ods (b+1) _ _ k1 (by rw[Wdc];rw[Waj]at hl;omega) ⟨nd.2,t,λd hd=>?_⟩;obtain⟨f1,f2,f3,f4,f5⟩:=al d (Was _ hd);have hne:d.1≠c.1:=λe=>nd.1 (by rw[<- e];exact Way.mpr ⟨d,hd,rfl⟩);refine⟨f1,f2,f3,f4,λj x od' e1 e2=>?_⟩;by_cases hj:j=b
   ·subst hj
    rw[Wau (by rw[<- k.len];exact hb)];intro z;have:c.1=d.1:=by
     have z1:=Wbh.inj (Wbh.inj z);injection z1
    exact hne this.symm
   ·rw[Wa1 (Ne.symm hj)]at e1 ⊢
    exact f5 j x od' e1 e2
theorem Zpx:∀(l:List (Addr × OD)) (R T:Evt) (m:Nat),l.length<=m->L2.putN R.length l (R++Wag m Slot.any++T)=R++l.map (λc=>Slot.ownA c.1 c.2)++Wag (m-l.length) Slot.any++T
 |[],R,T,m,_=>by simp[L2.putN]
 |c::r,R,T,m,h=>by
  obtain⟨m',rfl⟩:∃m',m=m'+1:=⟨m-1,by rw[Waj]at h;omega⟩;have e:(R++Wag (m'+1) Slot.any++T).set R.length (.ownA c.1 c.2)=(R++[.ownA c.1 c.2])++Wag m' Slot.any++T:=by
   rw[Wdr];simp[List.set_append_right]
  rw[L2.putN,e];have:=Zpx r (R++[.ownA c.1 c.2]) T m' (by rw[Waj]at h;omega);rw[Waq,Wcl]at this;rw[this];simp
theorem Ztx {te:TE}{i base:Nat}{nx bk ct:Evt->Prop}{rt:D->Evt->Prop}{ro:OD->Evt->Prop}
  (h:JN K te Δ λods Δ1=>i<base/\base+ods.length <= Δ1.length/\∀as:List Addr,as.length=ods.length->as.Nodup->nx (L2.putN base (as.zip ods) (Δ1.set i (.val (.lst (as.map D.adr)))))) :
  JS K (tGhost base (tAsg te (gName i))) Δ ⟨nx,rt,bk,ct,ro⟩:=λg G H σ E k c=>
 h g G H σ _ k λacc cs ods G1 H1 Δ1 k1 s1 rr _ nn hq_=>by
  obtain⟨hi,hb,p⟩:=hq_;have hl:cs.length=ods.length:=Paired.length nn.2.1;have e0:(cs.map λc=>D.adr c.1)=(cs.map (·.1)).map D.adr:=by rw[Wa3];rfl
  have k2:=k1.setVal' i rr;have n2:Nest K g G1 H1 (σ.set i (some (.ref acc))) (Δ1.set i (.val (.lst (cs.map λc=>D.adr c.1)))) cs ods:=by
   obtain⟨nd,pr,al⟩:=nn;refine⟨nd,pr,λd hd=>?_⟩;obtain⟨f1,f2,f3,f4,f5⟩:=al d hd;refine⟨f1,f2,f3,f4,λj x od' e1 e2=>?_⟩;by_cases hj:j=i
   ·subst hj
    by_cases hlt:j < Δ1.length
    ·rw[Wau hlt]at e1;cases e1;cases e2
    ·rw[Wb8 (by rw[Wdc];omega)]at e1;cases e1
   ·rw[Wa1 (Ne.symm hj)]at e1 ⊢
    exact f5 j x od' e1 e2
  have k3:=Ok.putN cs ods base _ _ k2 (by rw[Wdc];exact hb) n2;refine⟨putS base (cs.map (·.1)) (σ.set i (some (.ref acc))),Zlm _ _ _,λj hj=>Zg4 _ _ _ j hj,?_⟩;rw[e0]at k3;exact c.nx _ G1 H1 _ k3 (p (cs.map (·.1)) (by rw[Wab,hl]) nn.1)
theorem Znw {n j:Nat}{a:Addr}{ds:List D}{P:D->Evt->Prop}(hx:Δ[n]?=some (.val (.adr a))) (hj:Δ[j]?=some (.ownA a (.lst ds))) (p:P (.int ds.length) Δ):JE K (tCB (rLenU K) (tCons (tVar n) tNil)) Δ P:=λg G H σ Q k c=>by
 obtain⟨v,h1,h2⟩:=k.val n _ hx;cases h2;obtain⟨a',o,w1,w2,w3,w4,w5⟩:=k.own j _ _ hj rfl;obtain⟨rfl,_⟩:=w5;cases o with
 |lst vs=>
  have w3:Reps K G vs ds:=w3;refine⟨_,h1,.inl ⟨_,vs,rfl,.inl (SqL.of w2),?_⟩⟩;rw[w3.length];exact c _ _ G H Δ k (Same.refl _) (.int _) p
 |_=>exact absurd w3 (λz=>z)
theorem Ztt {n:Nat}{t1 t2:TE}{a:Addr}{j0:Nat}{ds0:List D}{nx bk ct:Evt->Prop}{rt:D->Evt->Prop}{ro:OD->Evt->Prop}(hx:Δ[n]?=some (.val (.adr a))) (hj0:Δ[j0]?=some (.ownA a (.lst ds0)))
  (h:JE K t1 Δ λe1 Δ1=>JE K t2 Δ1 λe2 Δ2=>∃j i ds,e1=.int i /\ Δ2[j]?=some (.ownA a (.lst ds))/\ds.length<sizeLine /\ -(2 ^ 62)<=i/\i<2 ^ 62/\nx (Δ2.set j (.ownA a (.lst (ds.take (insI ds.length i)++e2::ds.drop (insI ds.length i)))))) :
  JS K (tDrop (tBM K "list" rInsert (tVar n) (tCons t1 (tCons t2 tNil)))) Δ ⟨nx,rt,bk,ct,ro⟩:=λg G H σ E k c=>by
 obtain⟨v,h1,h2⟩:=k.val n _ hx;cases h2;obtain⟨a',o,w1,w2,w3,w4,w5⟩:=k.own j0 _ _ hj0 rfl;obtain⟨rfl,_⟩:=w5;cases o with
 |lst vs0=>
  refine⟨_,h1,.inl ⟨rfl,_,SqL.of w2⟩,h g G H σ _ k λv1 e1 G1 H1 Δ1 k1 s1 r1 p1=>p1 g G1 H1 σ _ k1 λv2 e2 G2 H2 Δ2 k2 s2 r2 ⟨j,i,ds,q1,q2,q3,q4,q5,p⟩=>?_⟩;subst q1;cases r1.inv;obtain⟨a2,o2,u1,u2,u3,u4,u5⟩:=k2.own j _ _ q2 rfl;obtain⟨rfl,_⟩:=u5;cases o2 with
  |lst vs=>
   have u3:Reps K G2 vs ds:=u3;refine⟨_,vs,i,v2,rfl,rfl,u2,by rw[u3.length];exact q3,q4,q5,?_⟩;have k3:=k2.write q2 rfl u1 (show OwnRep K G2 (.lst (vs.take (insI vs.length i)++v2::vs.drop (insI vs.length i))) (.lst (ds.take (insI ds.length i)++e2::ds.drop (insI ds.length i))) from by
    rw[u3.length];exact(u3.take _).append (.cons r2 (u3.drop _)))
   exact c.nx σ G2 _ _ k3 p
  |_=>exact absurd u3 (λz=>z)
 |_=>exact absurd w3 (λz=>z)
theorem JS.conv {t:TS}{Δ':Evt}{P:Pst}(hc:∀g G H σ,Ok K g G H σ Δ -> ∃G',Same G G' /\ Ok K g G' H σ Δ') (h:JS K t Δ' P):JS K t Δ P:=λg G H σ E k c=>by
 obtain⟨G',s,k'⟩:=hc g G H σ k;exact h g G' H σ E k' c
theorem Ok.freezeA {g:Gm}{G H:Hp}{σ:St}(k:Ok K g G H σ Δ) {i:Nat}{a:Addr}{ds:List D}(h:Δ[i]?=some (.ownA a (.lst ds))):∃G',Same G G' /\ Ok K g G' H σ (Δ.set i .any)/\Rep K G' (.ref a) (.lst ds):=by
 obtain⟨a',o,w1,w2,w3,w4,w5⟩:=k.own i _ _ h rfl;obtain⟨rfl,w6⟩:=w5;cases o with
 |lst vs=>
  have pd:Pend K g G H σ (Δ.set i .any) a (.lst ds):=by
   refine⟨.lst vs,w2,w3,w4,w6,?_,λj x od' e1 e2 e3=>?_⟩
   ·cases q:g.Xo a with
    |none=>rfl
    |some u=>exact absurd w1 ((k.ext a u q).2.2 i _ _ h rfl)
   ·by_cases hj:j=i
    ·subst hj
     rw[Wdh]at e1;simp at e1;obtain⟨_,e1⟩:=e1;subst e1;cases e2
    ·rw[Wa1 (Ne.symm hj)]at e1
     exact hj (k.dis j i x _ od' _ a e1 e2 h rfl e3 w1)
  obtain⟨k2,sg,r⟩:=(k.drop i).freeze pd w2;exact⟨_,sg,k2,r⟩
 |_=>exact absurd w3 (λz=>z)
theorem Ok.freezeN {g:Gm}{H:Hp}{σ:St}:∀(cs:List (Addr × List D)) (R T:Evt) (G:Hp),Ok K g G H σ (R++cs.map (λc=>Slot.ownA c.1 (.lst c.2))++T) →
  ∃G',Same G G' /\ Ok K g G' H σ (R++Wag cs.length .any++T)/\∀c∈cs,Rep K G' (.ref c.1) (.lst c.2)
 |[],R,T,G,k=>⟨G,Same.refl _,by simpa using k,λc hc=>nomatch hc⟩
 |c::r,R,T,G,k=>by
  have hi:(R++(c::r).map (λc=>Slot.ownA c.1 (.lst c.2))++T)[R.length]?=some (.ownA c.1 (.lst c.2)):=by simp
  obtain⟨G1,s1,k1,r1⟩:=k.freezeA hi;have e:(R++(c::r).map (λc=>Slot.ownA c.1 (.lst c.2))++T).set R.length .any=(R++[.any])++r.map (λc=>Slot.ownA c.1 (.lst c.2))++T:=by
   simp[List.set_append_right]
  rw[e]at k1;obtain⟨G2,s2,k2,r2⟩:=Ok.freezeN r (R++[.any]) T G1 k1;refine⟨G2,s1.trans s2,?_,λd hd=>?_⟩
  ·have e2:(R++[Slot.any])++Wag r.length Slot.any++T=R++Wag (c::r).length Slot.any++T:=by
    rw[Waj,Wdr];simp
   rw[e2]at k2;exact k2
  ·rcases Wal.mp hd with e|hd
   ·subst e;exact r1.mono s2
   ·exact r2 d hd
theorem Ok.thaw {g:Gm}{G H:Hp}{σ:St}{cs:List (Addr × List D)}{R T:Evt}{i:Nat}(k:Ok K g G H σ (R++cs.map (λc=>Slot.ownA c.1 (.lst c.2))++T)) (hi:R[i]?=some (.val (.lst (cs.map λc=>D.adr c.1)))) :
  ∃G',Same G G' /\ Ok K g G' H σ (R.set i (.val (.lst (cs.map λc=>D.lst c.2)))++Wag cs.length .any++T):=by
 have hlt:i<R.length:=(Waf.mp hi).1;obtain⟨v,h1,h2⟩:=k.val i _ (by rw[Wbq,Wa8 hlt];exact hi);obtain⟨G1,s1,k1,r1⟩:=Ok.freezeN cs R T G k;refine⟨G1,s1,?_⟩;have rr:Rep K G1 v (.lst (cs.map λc=>D.lst c.2)):=by
  cases h2 with
  |lst ha rs=>
   refine .lst (s1 _ _ ha) ?_;have key:∀(l:List (Addr × List D)) (vs:List V),(∀c∈l,Rep K G1 (.ref c.1) (.lst c.2))->Reps K G vs (l.map λc=>D.adr c.1)->Reps K G1 vs (l.map λc=>D.lst c.2):=by
    intro l
    induction l with
    |nil=>intro vs _ h;cases h;exact .nil
    |cons c r ih=>
     intro vs hc h;cases h with
     |cons h1 h2=>
      cases h1;exact .cons (hc c Wa4) (ih _ (λd hd=>hc d (Was _ hd)) h2)
   exact key cs _ r1 rs
 have k2:=k1.setVal' i rr;have e1:σ.set i (some v) = σ:=by
  apply Wb6;intro j;by_cases hj:j=i
  ·subst hj;rw[Wau (by obtain⟨z,_⟩:=Waf.mp h1;exact z),h1]
  ·rw[Wa1 (Ne.symm hj)]
 rw[e1]at k2;have e2:(R++Wag cs.length Slot.any++T).set i (.val (.lst (cs.map λc=>D.lst c.2)))=R.set i (.val (.lst (cs.map λc=>D.lst c.2)))++Wag cs.length Slot.any++T:=by
  rw[Wbq,Wbq,List.set_append_left _ _ hlt]
 rw[e2]at k2;exact k2
end
section
variable {X:Cx}(K:W.Frag)
theorem ixK (hu:X.A.units+1<cLine) (hK:X.K=K:=by rfl):IxR X (rIxU K):=hK ▸ ixU hu
theorem slK (hK:X.K=K:=by rfl):SlR X (rSlU K):=hK ▸ slU
theorem addK (hK:X.K=K:=by rfl):OpR X (binaryOp .Add) (rAddU K):=hK ▸ Zub
theorem lenK (hK:X.K=K:=by rfl):CallR X (.builtin "len") (rLenU K):=hK ▸ Zph
def rTup (K:W.Frag):List V->Hp->VK->Prop:=λxs H Q=>∃p ys,xs=[.ref p]/\((SqL K H p ys/\∀l,H l=none->Q (.ref l) (upd H l (.tup ys)))\/(SqT K H p ys/\Q (.ref p) H))
theorem tupK (hK:X.K=K:=by rfl):CallR X (.type "tuple") (rTup K):=hK ▸ Zhp
def rLst (K:W.Frag):List V->Hp->VK->Prop:=λxs H Q=>∃p ys,xs=[.ref p]/\(SqL K H p ys\/SqT K H p ys)/\∀l,H l=none->Q (.ref l) (upd H l (.lst ys))
theorem idxK (hK:X.K=K:=by rfl):MtM X "tuple.index" (rIndexT K):=hK ▸ Zgv
theorem seqK {tg l:Expr}{tl:TE}(hl:PE X l tl) (hK:X.K=K:=by rfl):PI X tg l (iSeq K tl):=hK ▸ Zwe hl
theorem truK {a:Expr}{ta:TE}(ha:PE X a ta) (he:∀whole,isTrue a X.env whole=(do let v ← whole;standAt a.pos;holding [v] (truthy v))) (hK:X.K=K:=by rfl):PT X a (tTru K ta):=hK ▸ Zuz ha he
theorem gtupK {es:List Expr}{k:Nat}{t:TGs}{n:Nat}{pos:Pos}(hc:X.calm=true) (h:PGs X es t)
  (hn:(assignEach es X.env).length=n:=by rfl) (hst:(assignEach es X.env).findIdx? (·.1)=none:=by rfl) (hK:X.K=K:=by rfl):PG X (.Tuple es k pos) (gTup K n t):=hK ▸ Zw2 hc h hn hst
variable {o e:Expr}{es:List Expr}{to:TE}{t:TA}{name:Str}{apos cpos:Pos}{T id:String}{r:V->List V->Hp->VK->Prop}
theorem bmK (pa:PlainAttrs T) (slot:PySem.Slot T name id) (hty:typeOf (.builtin id)=pure (.type "method_descriptor")) (hm:MtR X id r) (ho:PE X o to) (ha:PA X (e::es) t)
  (hbase:attributeBase o name X.env (eval o X.env)=eval o X.env:=by rfl)
  (hfew:((backTo cpos (starEach (e::es) X.env)).all (λx=>!x.1) && (backToKw cpos (keywordEach [] X.env)).all (λx=>x.1.isSome)
   && decide ((e::es).length+([]:List Keyword).length+(if ([]:List Keyword).isEmpty then 0 else 1)<30))=true:=by rfl)
  (hline:(apos.endLine == cpos.line)=true:=by rfl) (hs:starEach (e::es) X.env=(false,eval e X.env)::starEach es X.env:=by rfl) (hplain:(backTo cpos (starEach es X.env)).any (·.1)=false:=by rfl) (hK:X.K=K:=by rfl) :
  PE X (.Call (.Attribute o name apos) (e::es) [] cpos) (tBM K T r to t):=hK ▸ Zxp pa slot hty hm ho ha hbase hfew hline hs hplain
end
section
variable {K:W.Frag}{Δ:Evt}{P:D->Evt->Prop}
theorem Zdk {ds es:List D}(he:ds=[.lst es]\/ds=[.tup es]) (p:P (.tup es) Δ):JC K (rTup K) ds Δ P:=Zqa he p
theorem Zr9 {ds es:List D}(he:ds=[.lst es]\/ds=[.tup es]) (p:P (.lst es) Δ):JC K (rLst K) ds Δ P:=λg G H σ Q vs k rs c=>by
 rcases he with he|he <;> subst he
 ·obtain⟨_,_,rfl,r,t⟩:=rs.inv
  next=>
   cases t.inv;obtain⟨_,_,rfl,ha,rs⟩:=r.inv
   next=>
    refine⟨_,_,rfl,.inl (SqL.of (k.live _ _ ha)),λl hl=>?_⟩;obtain⟨k2,sg⟩:=k.laid hl (.lst _);exact c _ _ _ _ Δ k2 sg (.lst Zas (rs.mono sg)) p
 ·obtain⟨_,_,rfl,r,t⟩:=rs.inv
  next=>
   cases t.inv;obtain⟨_,_,rfl,ha,rs⟩:=r.inv
   next=>
    refine⟨_,_,rfl,.inr (SqT.of (k.live _ _ ha)),λl hl=>?_⟩;obtain⟨k2,sg⟩:=k.laid hl (.lst _);exact c _ _ _ _ Δ k2 sg (.lst Zas (rs.mono sg)) p
theorem Zrh {sel:List Nat}{wi:TI}{tc:TT}{te:TE}{Po:List OD->Evt->Prop}(hsel:sel.Nodup)
  (h:JI K wi Δ λds Δ1=>ds.length<sizeLine/\∃(p:D->Bool) (f:D->OD),
   (∀(i:Nat) d,ds[i]?=some d->JT K tc (.val d::fixD sel Δ1) λb Δ4=>b=p d/\if b=true then JO K te Δ4 λe Δ5=>e=f d/\∃x,Δ5=x::fixD sel Δ1 else ∃x,Δ4=x::fixD sel Δ1) ∧
   Po ((ds.filter p).map f) Δ1):JN K (tComp 1 sel wi (gName 0) tc te) Δ Po:=by
 refine Zt5 hsel λg G H σ R k c=>h g G H σ R k λJ ds G' H' Δ' k' s' it ⟨z,p,f,ht,he⟩=>c J ds G' H' Δ' k' s' it ⟨z,λi ys Δ=>ys=((ds.take i).filter p).map f/\∃x,Δ = x::fixD sel Δ',⟨by simp,.any,rfl⟩,?_,?_⟩
 ·rintro i d ys Δ2 hd ⟨rfl,x,rfl⟩
  have tk:ds.take (i+1)=ds.take i++[d]:=by
   rw[Wb0,hd];rfl
  refine Ze2 (by decide) ?_;intro g G H σ Q k c;refine ht i d hd g G H σ Q k λb G1 H1 Δ1 k1 s1 ⟨e1,q⟩=>c b G1 H1 Δ1 k1 s1 ?_;cases b with
  |true=>
   rw[if_pos rfl]at q ⊢;intro g G H σ Q k c;refine q g G H σ Q k λa od G2 H2 Δ2 k2 s2 pd ⟨e2,x,e3⟩=>c a od G2 H2 Δ2 k2 s2 pd ⟨?_,x,e3⟩;rw[tk,Wb1,Wax,Wbi,<- e1,e2];rfl
  |false=>
   rw[if_neg Wan]at q ⊢;obtain⟨x,e3⟩:=q;refine⟨?_,x,e3⟩;rw[tk,Wb1,Wax,Wbi,<- e1];simp
 ·rintro ys Δ2 ⟨rfl,x,rfl⟩
  rw[Wby,show (x::fixD sel Δ')=[x]++fixD sel Δ' from rfl,Zd0 (by simp)];exact he
end
def fLaw:DSp:=λds Post=>∃ns:List Int,ds=[.scr (ns.map .int)]/\ns.length<=63/\Post (.bl true)
def spLaw (K:W.Frag):Sp:=λvs H Q _=>∃(a:Addr) (ns:List Int),vs=[.ref a]/\SqL K H a (ns.map V.int)/\ns.length<=63/\∀H',Q (.bl true) H'
theorem Zp1 {K:W.Frag}{vs:List V}{H:Hp}{Q:VK}{E:XK}(h:spLaw K vs H Q E):spD K fLaw vs H Q E:=by
 obtain⟨a,ns,rfl,hs,hl,q⟩:=h;refine⟨H,[.scr (ns.map .int)],λd=>d=.bl true,Same.refl _,.cons (.scr hs (Reps.ofInts ns)) .nil,⟨ns,rfl,hl,rfl⟩,λr H' d sh rr e=>?_⟩;subst e;cases rr.inv;exact q H'
theorem walk_law {l:PySem.W.OpenLaw}{q:Program}{loose:List Str}{XP:(Str->Option Value)->Heap->Prop}{YP:World->Heap->Prop}{d:DefRec}{K:Params->W.Frag}{k:Nat}{x:Str}(hk:Room k callerA) (hn:l.most=some 63) (hdf:d.params.defaults=[])
  (hY:∀(w:World) (h:Heap),YP w h->(K w.params).In h)
  (F:∀(w:World) (mg:Str->Option Value) (fa:Addr) (h:Heap),(K w.params).In h->h.Ns mainGlobals mg->mg d.name=some (.ref fa) →
   ∃fd:FuncData,(∀(s:Shared) (u:Value),BindsTo s fd ⟨[u],[]⟩ [(x,u)])/\∀base:Heap,(K w.params).In base->base.Ns mainGlobals mg->FnOk l.prog w (K w.params) mg base CX0 k fa fd [x] (spD (K w.params) fLaw)) :
  PySem.W.WalkO q loose XP YP l.row.toRowW d [] (λf vs=>PySem.call f vs):=
 L2.walk_of (n:=63) (k:=k) (x:=x) (CX:=λ_=>CX0) (sp:=λw=>spLaw (K w.params)) hn (by decide) hdf hk hY
  (λw mg fa h h1 h2 h3=>by
   obtain⟨fd,b,f⟩:=F w mg fa h h1 h2 h3;exact⟨fd,b,λbase kb nb=>(f base kb nb).imp λvs H Q E z=>Zp1 z⟩)
  (λ_ _ a ns hl _ hS=>⟨a,ns,rfl,hS,hl,λ_=>rfl⟩) λ_ _ _ _ _ z=>z
def SqB (b:Bool) (K:W.Frag) (H:Hp) (a:Addr) (xs:List V):Prop:=match b with|true=>SqT K H a xs|false=>SqL K H a xs
def ItB (b:Bool) (h:Heap) (j a:Addr) (i:Nat):Prop:=match b with|true=>h.IsTupleIter j a i|false=>h.IsListIter j a i
def HsB (b:Bool) (h:Heap) (a:Addr) (ws:Array Value):Prop:=match b with|true=>h.IsTuple a ws|false=>h.IsList a ws
theorem ItB.at {b:Bool}{h h':Heap}{j a:Addr}{i:Nat}(x:ItB b h j a i) (e:∀o,h.get? j=some o->h'.get? j=some o):ItB b h' j a i:=by
 cases b
 ·exact Heap.IsListIter.at (show h.IsListIter j a i from x) e
 ·exact Heap.IsTupleIter.at (show h.IsTupleIter j a i from x) e
theorem ItB.off {b:Bool}{h h':Heap}{j a c:Addr}{i:Nat}(x:ItB b h j a i) (e:Heap.ExtBut c h h') (n:j≠c):ItB b h' j a i:=x.at λo q=>e j o n q
theorem ItB.obj {b:Bool}{h:Heap}{j a:Addr}{i:Nat}(x:ItB b h j a i):∃o,h.get? j=some o/\o.data=.fields #[.ref a,.int i 0]:=by
 cases b <;> (obtain⟨o,e,_,d⟩:=x;exact⟨o,e,d⟩)
theorem HsB.off {b:Bool}{h h':Heap}{a c:Addr}{ws:Array Value}(x:HsB b h a ws) (e:Heap.ExtBut c h h') (n:a≠c):HsB b h' a ws:=by
 cases b <;> (obtain⟨o,q,r⟩:=x;exact⟨o,e a o n q,r⟩)
theorem HsB.lt {b:Bool}{h:Heap}{a:Addr}{ws:Array Value}(x:HsB b h a ws):a<h.objs.size:=by
 cases b <;> (obtain⟨o,q,r⟩:=x;exact War q)
theorem Inv.seqB {X:Cx}{pins:List (Addr × Obj)}{σ:St}{H:Hp}{s:Shared}{b:Bool}{a:Addr}{xs:List V}(I:Inv X pins σ H s) (h:SqB b X.K H a xs):∃its:List Value,Vals xs its/\HsB b s.heap a its.toArray:=by
 cases b
 ·obtain⟨its,r,p,_⟩:=I.list h
  exact⟨its,r,p.isList⟩
 ·obtain⟨its,r,p,_⟩:=I.tuple h
  exact⟨its,r,p⟩
theorem Inv.seqB_inj {X:Cx}{pins:List (Addr × Obj)}{σ:St}{H:Hp}{s:Shared}{b:Bool}{a:Addr}{xs ys:List V}(I:Inv X pins σ H s) (h:SqB b X.K H a xs) (h':SqB b X.K H a ys):xs=ys:=by
 cases b
 ·exact I.list_inj h h'
 ·exact I.tuple_inj h h'
section
variable {prog:Program}{w:World}{A:Around}{E:Value->Shared->Prop}{s:Shared}
theorem Zj3 {b:Bool}{j a:Addr}{i:Nat}{ws:Array Value}{x:Value}{Q:Value->Shared->Prop}(g:ItB b s.heap j a i) (l:HsB b s.heap a ws) (e:ws[i]?=some x)
  (q:∀h',ItB b h' j a (i+1)->Heap.SameBut j s.heap h' -> Q x { s with heap:=h' }):wpAny (model prog w) A (Builtin.SmallTypes.nextOf (.ref j)) Q E s:=by
 cases b
 ·exact wpAny_nextOf_list_item g l e q
 ·obtain⟨o,g1,g2,g3⟩:=id g
  obtain⟨u,l1,_,n,l2⟩:=l;have ty:s.TypeIs (.ref j) "tuple_iterator":=⟨o,g1,g2⟩;unfold Builtin.SmallTypes.nextOf;refine wpAny_bind (wpAny_callSpecial?_slot (name:=Str.ofString "__next__") ty F.slot_tuple_iterator_next (wpAny_call_entry F.slot_tuple_iterator_next ty F.entry_tuple_iterator_next ?_ (F.args_tuple_iterator_next_1 _)));refine(show wpAny _ _ (field (.ref j) 0 >>= _) _ _ s from wpAny_bind (wpAny_field g1 g3 (x:=.ref a) rfl ?_));refine(show wpAny _ _ (if (Value.ref a == Value.none)=true then _ else _) _ _ s from ?_);rw[if_neg (by exact Wan)];refine(show wpAny _ _ (field (.ref j) 1 >>= _) _ _ s from wpAny_bind (wpAny_field g1 g3 (x:=.int i 0) rfl ?_));refine(show wpAny _ _ (seqItems? (.ref a) >>= _) _ _ s from wpAny_bind (wpAny_seqItems l1 l2 ?_));simp only[Wap,e];refine wpAny_bind (wpAny_setField g1 g3 (by simp) (wpAny_pure ⟨x,rfl,wpAny_pure (q _ ⟨_,Wb9 _ g1 (Obj.isFreed_of_fields (Obj.data_mapFields g3 _)),(Obj.cls_mapFields ..).trans g2,?_⟩ (Heap.SameBut.update ..))⟩));rw[Obj.data_mapFields g3];simp[rawInt]
theorem Zsf {b:Bool}{j a:Addr}{i:Nat}{ws:Array Value}{Q:Value->Shared->Prop}(hh:A.handled=none) (g:ItB b s.heap j a i) (l:HsB b s.heap a ws) (e:ws[i]?=none)
  (q:∀h' x,Heap.ExtBut j s.heap h' -> (∃o,h'.get? x=some o/\o.cls=.type "StopIteration")->E (.ref x) { s with heap:=h' }):wpAny (model prog w) A (Builtin.SmallTypes.nextOf (.ref j)) Q E s:=by
 cases b
 ·exact wpAny_nextOf_list_end hh g l e q
 ·obtain⟨o,g1,g2,g3⟩:=id g
  obtain⟨u,l1,_,n,l2⟩:=l;have ty:s.TypeIs (.ref j) "tuple_iterator":=⟨o,g1,g2⟩;unfold Builtin.SmallTypes.nextOf;refine wpAny_bind (wpAny_callSpecial?_slot (name:=Str.ofString "__next__") ty F.slot_tuple_iterator_next (wpAny_call_entry F.slot_tuple_iterator_next ty F.entry_tuple_iterator_next ?_ (F.args_tuple_iterator_next_1 _)));refine(show wpAny _ _ (field (.ref j) 0 >>= _) _ _ s from wpAny_bind (wpAny_field g1 g3 (x:=.ref a) rfl ?_));refine(show wpAny _ _ (if (Value.ref a == Value.none)=true then _ else _) _ _ s from ?_);rw[if_neg (by exact Wan)];refine(show wpAny _ _ (field (.ref j) 1 >>= _) _ _ s from wpAny_bind (wpAny_field g1 g3 (x:=.int i 0) rfl ?_));refine(show wpAny _ _ (seqItems? (.ref a) >>= _) _ _ s from wpAny_bind (wpAny_seqItems l1 l2 ?_));simp only[Wap,e];refine wpAny_bind (wpAny_rule (wpAny_bind (wpAny_setField g1 g3 (by simp) (show wpAny _ _ (newExc (.type "StopIteration") [] >>= _) _ _ _ from wpAny_bind ?_))));simp only[newExc,newTuple];refine wpAny_bind (wpAny_newObj_type (wpAny_bind (m:=firstArgMember _ _) (wpAny_of_eq (a:=Value.none) (by first|rfl|(simp only[firstArgMember];rfl)) (wpAny_newObj_type ?_ (by size_fits)))) (by size_fits));simp only[raiseNew];refine wpAny_bind (wpAny_handled ?_)
  first|rw[show A.in1.handled=none from hh]|rw[hh]
  exact wpAny_bind (wpAny_pure (wpAny_throw (q _ _ (((Heap.SameBut.update ..).extBut.push _).push _) ⟨_,Wam _ rfl,rfl⟩)))
theorem Zuf {b c:Bool}{z U O j1 j2 a1 a2:Addr}{k1 k2:Nat}{vs us:Array Value}{x y p r:Value}{Q:Option Value->Shared->Prop}(D:ZipApart z U O j1 j2 a1 a2)
  (gz:IsZip s.heap z U O .none) (gU:IsPair s.heap U (.ref j1) (.ref j2)) (gO:IsPair s.heap O p r) (g1:ItB b s.heap j1 a1 k1) (g2:ItB c s.heap j2 a2 k2) (l1:HsB b s.heap a1 vs) (l2:HsB c s.heap a2 us) (ex:vs[k1]?=some x) (ey:us[k2]?=some y)
  (q:∀h',IsZip h' z U O (rawInt s.heap.objs.size)->IsPair h' O x y->ItB b h' j1 a1 (k1+1)->ItB c h' j2 a2 (k2+1)->IsPair h' s.heap.objs.size x y->h'.objs.size=s.heap.objs.size+1 →
   (∀d o,d≠z->d≠O->d≠j1->d≠j2->s.heap.get? d=some o->h'.get? d=some o)->Q (some (.ref s.heap.objs.size)) { s with heap:=h' }):wpAny (model prog w) A (pyNext (.ref z)) Q E s:=by
 have ty:s.TypeIs (.ref z) "zip":=⟨_,gz,rfl⟩;unfold pyNext;refine wpAny_bind (wpAny_attempt (wpAny_callSpecial?_slot (name:=Str.ofString "__next__") ty F.slot_zip_next (wpAny_call_entry F.slot_zip_next ty F.entry_zip_next ?_ (F.args_zip_next_1 _))));refine(show wpAny _ _ (field (.ref z) 2 >>= _) _ _ _ from wpAny_bind (wpAny_field gz rfl (x:=.bool false) rfl ?_));refine(show wpAny _ _ (field (.ref z) 3 >>= _) _ _ _ from wpAny_bind (wpAny_field gz rfl (x:=.ref U) rfl (wpAny_bind (wpAny_seqItems gU rfl ?_))));refine(show wpAny _ _ (Builtin.SmallTypes.ownedTupleIsFree (.ref z) >>= _) _ _ _ from wpAny_bind ?_);unfold Builtin.SmallTypes.ownedTupleIsFree;refine wpAny_bind (wpAny_field gz rfl (x:=.none) rfl (wpAny_pure ?_));simp only[if_true];refine wpAny_bind (wpAny_rule (wpAny_bind (wpAny_field gz rfl (x:=.ref O) rfl (wpAny_bind (wpAny_setField_rec gz (by simp) λh₁ z₁ s₁=>wpAny_bind ?_)))))
 replace z₁:IsZip h₁ z U O .ellipsis:=z₁
 simp only[List.zipIdx_cons,List.zipIdx_nil,List.forIn_cons,List.forIn_nil];refine wpAny_bind (wpAny_bind (wpAny_onRaise (show wpAny _ _ (Builtin.SmallTypes.nextOf (.ref j1) >>= _) _ _ _ from wpAny_bind (Zj3 (g1.off s₁.extBut D.i1z) (l1.off s₁.extBut D.l1z) ex λh₂ g₂ s₂=>wpAny_pure ?_))));have o₂:IsPair h₂ O p r:=s₂.extBut _ _ D.TOi1 (s₁.extBut _ _ D.TOz gO);refine wpAny_bind (wpAny_seqItems o₂ rfl (wpAny_bind (wpAny_updateSeq_pair o₂ λh₃ o₃ s₃=>wpAny_bind (wpAny_letGo (wpAny_pure ?_)))))
 replace o₃:IsPair h₃ O x r:=o₃
 refine wpAny_bind (wpAny_bind (wpAny_onRaise (show wpAny _ _ (Builtin.SmallTypes.nextOf (.ref j2) >>= _) _ _ _ from wpAny_bind (Zj3 (((g2.off s₁.extBut D.i2z).off s₂.extBut D.i12.symm).off s₃.extBut D.TOi2.symm) (((l2.off s₁.extBut D.l2z).off s₂.extBut D.l2i1).off s₃.extBut D.l2TO) ey λh₄ g₄ s₄=>wpAny_pure ?_))));have o₄:IsPair h₄ O x r:=s₄.extBut _ _ D.TOi2 o₃;refine wpAny_bind (wpAny_seqItems o₄ rfl (wpAny_bind (wpAny_updateSeq_pair o₄ λh₅ o₅ s₅=>wpAny_bind (wpAny_letGo (wpAny_pure (wpAny_pure ?_))))))
 replace o₅:IsPair h₅ O x y:=o₅
 refine wpAny_bind (wpAny_seqItems o₅ rfl (wpAny_bind (wpAny_newTuple ?_)));have n5:h₅.objs.size=s.heap.objs.size:=by rw[s₅.1,s₄.1,s₃.1,s₂.1,s₁.1]
 have z₅:IsZip h₅ z U O .ellipsis:=s₅.extBut _ _ D.TOz.symm (s₄.extBut _ _ D.i2z.symm (s₃.extBut _ _ D.TOz.symm (s₂.extBut _ _ D.i1z.symm z₁)));have old:∀d o,d≠z->d≠O->d≠j1->d≠j2->s.heap.get? d=some o->h₅.get? d=some o:=λd o c1 c2 c3 c4 e=>s₅.extBut _ _ c2 (s₄.extBut _ _ c4 (s₃.extBut _ _ c2 (s₂.extBut _ _ c3 (s₁.extBut _ _ c1 e))));have t1:ItB b h₅ j1 a1 (k1+1):=((g₂.off s₃.extBut D.TOi1.symm).off s₄.extBut D.i12).off s₅.extBut D.TOi1.symm;have t2:ItB c h₅ j2 a2 (k2+1):=g₄.off s₅.extBut D.TOi2.symm;have zl:z<h₅.objs.size:=War z₅;refine(show wpAny _ _ (Builtin.SmallTypes.ownedTupleHandOut (.ref z) (.ref h₅.objs.size) >>= _) _ _ _ from wpAny_bind ?_);unfold Builtin.SmallTypes.ownedTupleHandOut;have z₆:IsZip (h₅.push { cls:=.type "tuple",data:=.seq #[x,y] }) z U O .ellipsis:=Wac _ z₅;refine wpAny_bind (wpAny_setField_rec z₆ (by simp) λh₇ z₇ s₇=>?_)
 replace z₇:IsZip h₇ z U O (rawInt h₅.objs.size):=z₇
 refine wpAny_setField_rec z₇ (by simp) λh₈ z₈ s₈=>?_
 replace z₈:IsZip h₈ z U O (rawInt h₅.objs.size):=z₈
 have up:∀d o,d≠z->h₅.get? d=some o->h₈.get? d=some o:=λd o c1 e=>s₈.extBut _ _ c1 (s₇.extBut _ _ c1 (Wac _ e));have new8:IsPair h₈ h₅.objs.size x y:=s₈.extBut _ _ (Wdk zl) (s₇.extBut _ _ (Wdk zl) (Wam _ rfl));have n8:h₈.objs.size=h₅.objs.size+1:=by rw[s₈.1,s₇.1,Wcq]
 rw[n5]at z₈ new8 n8;refine wpAny_pure ⟨_,rfl,wpAny_pure ?_⟩;refine(show Q (some (.ref h₅.objs.size)) _ from ?_);rw[n5];exact q h₈ z₈ (up _ _ D.TOz o₅) (t1.at λo e=>up _ o D.i1z e) (t2.at λo e=>up _ o D.i2z e) new8 n8 λd o c1 c2 c3 c4 e=>up d o c1 (old d o c1 c2 c3 c4 e)
theorem Zw7 {b c:Bool}{z U O j1 j2 a1 a2:Addr}{k1 k2:Nat}{vs us:Array Value}{p r:Value}{Q:Option Value->Shared->Prop}(hh:A.handled=none) (D:ZipApart z U O j1 j2 a1 a2)
  (gz:IsZip s.heap z U O .none) (gU:IsPair s.heap U (.ref j1) (.ref j2)) (gO:IsPair s.heap O p r) (g1:ItB b s.heap j1 a1 k1) (g2:ItB c s.heap j2 a2 k2) (l1:HsB b s.heap a1 vs) (l2:HsB c s.heap a2 us) (e:vs[k1]?=none\/us[k2]?=none)
  (q:∀h',(∀d o,d≠z->d≠O->d≠j1->d≠j2->s.heap.get? d=some o->h'.get? d=some o)->Q none { s with heap:=h' }):wpAny (model prog w) A (pyNext (.ref z)) Q E s:=by
 have ty:s.TypeIs (.ref z) "zip":=⟨_,gz,rfl⟩;have fin:∀{h':Heap}{x:Addr},(∀d o,d≠z->d≠O->d≠j1->d≠j2->s.heap.get? d=some o->h'.get? d=some o)->(∃o,h'.get? x=some o/\o.cls=.type "StopIteration")->wpAny (model prog w) A (do if (← isInstance (.ref x) (.type "StopIteration")) then pure none else throw (.ref x)) Q E { s with heap:=h' }:=λ{h' x} hk ⟨o,ho,hc⟩=>by
  refine wpAny_bind (wpAny_isInstance (T:="StopIteration") (b:=true) ⟨o,ho,hc⟩ isSubtype_stop ?_);exact wpAny_pure (q _ hk)
 unfold pyNext;refine wpAny_bind (wpAny_attempt (wpAny_callSpecial?_slot (name:=Str.ofString "__next__") ty F.slot_zip_next (wpAny_call_entry F.slot_zip_next ty F.entry_zip_next ?_ (F.args_zip_next_1 _))));refine(show wpAny _ _ (field (.ref z) 2 >>= _) _ _ _ from wpAny_bind (wpAny_field gz rfl (x:=.bool false) rfl ?_));refine(show wpAny _ _ (field (.ref z) 3 >>= _) _ _ _ from wpAny_bind (wpAny_field gz rfl (x:=.ref U) rfl (wpAny_bind (wpAny_seqItems gU rfl ?_))));refine(show wpAny _ _ (Builtin.SmallTypes.ownedTupleIsFree (.ref z) >>= _) _ _ _ from wpAny_bind ?_);unfold Builtin.SmallTypes.ownedTupleIsFree;refine wpAny_bind (wpAny_field gz rfl (x:=.none) rfl (wpAny_pure ?_));simp only[if_true];refine wpAny_bind (wpAny_rule (wpAny_bind (wpAny_field gz rfl (x:=.ref O) rfl (wpAny_bind (wpAny_setField_rec gz (by simp) λh₁ z₁ s₁=>wpAny_bind ?_)))))
 replace z₁:IsZip h₁ z U O .ellipsis:=z₁
 simp only[List.zipIdx_cons,List.zipIdx_nil,List.forIn_cons,List.forIn_nil];refine wpAny_bind (wpAny_bind (wpAny_onRaise (show wpAny _ _ (Builtin.SmallTypes.nextOf (.ref j1) >>= _) _ _ _ from ?_)));cases ex:vs[k1]? with
 |none=>
  refine wpAny_bind (Zsf hh (g1.off s₁.extBut D.i1z) (l1.off s₁.extBut D.l1z) ex λh₂ y s₂ ⟨u,u1,u2⟩=>?_);have z₂:IsZip h₂ z U O .ellipsis:=s₂ _ _ D.i1z.symm z₁;have yz:y≠z:=λx=>by subst x;rw[z₂]at u1;cases u1;simp at u2
  exact wpAny_setField_rec z₂ (by simp) λh₃ _ s₃=>fin (λd o c1 _ c3 _ x=>s₃.extBut _ _ c1 (s₂ _ _ c3 (s₁.extBut _ _ c1 x))) ⟨u,s₃.extBut _ _ yz u1,u2⟩
 |some x=>
  have ey:us[k2]?=none:=by rcases e with h|h;rw[ex]at h;cases h;exact h
  refine wpAny_bind (Zj3 (g1.off s₁.extBut D.i1z) (l1.off s₁.extBut D.l1z) ex λh₂ g₂ s₂=>wpAny_pure ?_);have o₂:IsPair h₂ O p r:=s₂.extBut _ _ D.TOi1 (s₁.extBut _ _ D.TOz gO);refine wpAny_bind (wpAny_seqItems o₂ rfl (wpAny_bind (wpAny_updateSeq_pair o₂ λh₃ o₃ s₃=>wpAny_bind (wpAny_letGo (wpAny_pure ?_)))));refine wpAny_bind (wpAny_bind (wpAny_onRaise (show wpAny _ _ (Builtin.SmallTypes.nextOf (.ref j2) >>= _) _ _ _ from ?_)));refine wpAny_bind (Zsf hh (((g2.off s₁.extBut D.i2z).off s₂.extBut D.i12.symm).off s₃.extBut D.TOi2.symm) (((l2.off s₁.extBut D.l2z).off s₂.extBut D.l2i1).off s₃.extBut D.l2TO) ey λh₄ y s₄ ⟨u,u1,u2⟩=>?_);have z₄:IsZip h₄ z U O .ellipsis:=s₄ _ _ D.i2z.symm (s₃.extBut _ _ D.TOz.symm (s₂.extBut _ _ D.i1z.symm z₁));have yz:y≠z:=λx=>by subst x;rw[z₄]at u1;cases u1;simp at u2
  exact wpAny_setField_rec z₄ (by simp) λh₅ _ s₅=>fin (λd o c1 c2 c3 c4 x=>s₅.extBut _ _ c1 (s₄ _ _ c4 (s₃.extBut _ _ c2 (s₂.extBut _ _ c3 (s₁.extBut _ _ c1 x))))) ⟨u,s₅.extBut _ _ yz u1,u2⟩
end
section
abbrev zt1 (h:Heap) (a:Addr):Heap:=h.push ⟨.type "tuple_iterator",none,.fields #[.ref a,.int 0 0],#[]⟩
abbrev zt2 (h:Heap) (a c:Addr):Heap:=(zt1 h a).push ⟨.type "tuple_iterator",none,.fields #[.ref c,.int 0 0],#[]⟩
abbrev zt3 (h:Heap) (a c:Addr):Heap:=(zt2 h a c).push ⟨.type "tuple",none,.seq #[.ref h.objs.size,.ref (zt1 h a).objs.size],#[]⟩
abbrev zt4 (h:Heap) (a c:Addr):Heap:=(zt3 h a c).push ⟨.type "tuple",none,.seq #[.none,.none],#[]⟩
abbrev zt5 (h:Heap) (a c:Addr):Heap:=(zt4 h a c).push ⟨.type "zip",none,.fields #[.none,.bool false,.bool false,.ref (zt2 h a c).objs.size,.ref (zt3 h a c).objs.size],#[]⟩
theorem Zqo (a c:Addr) (vs us:Array Value) :
  Meets (Builtin.«zip.__new__» ⟨[.type "zip",.ref a,.ref c],[]⟩) (λ_ R s=>s.heap.IsTuple a vs/\s.heap.IsTuple c us/\R (.ok (.ret (.ref (zt4 s.heap a c).objs.size))) { s with heap:=zt5 s.heap a c }):=.of_wp λprog w A R s h=>by
 obtain⟨hp,g,d,tk,os⟩:=s;obtain⟨u1,u2,h⟩:=h;have sub0:=sub_zip;have v1:Heap.IsTuple (Shared.heap ⟨hp,g,d,tk,os⟩) a vs:=u1;have v2:Heap.IsTuple (Shared.heap ⟨hp.push { cls:=.type "tuple_iterator",data:=.fields #[.ref a,.int 0 0] },g,d,tk,os⟩) c us:=Heap.IsTuple.push u2 _
 wp_walk using wpAny_pyIter_tuple v1,wpAny_pyIter_tuple v2
 exact⟨_,rfl,h⟩
variable {prog:Program}{w:World}{A:Around}{E:Value->Shared->Prop}{s:Shared}
theorem Zt7 {b:Bool}{a c:Addr}{vs us:Array Value}{Q:Value->Shared->Prop}(l1:HsB b s.heap a vs) (l2:HsB b s.heap c us)
  (q:∀h',IsZip h' (s.heap.objs.size+4) (s.heap.objs.size+2) (s.heap.objs.size+3) .none->IsPair h' (s.heap.objs.size+2) (.ref s.heap.objs.size) (.ref (s.heap.objs.size+1))->IsPair h' (s.heap.objs.size+3) .none .none →
   ItB b h' s.heap.objs.size a 0->ItB b h' (s.heap.objs.size+1) c 0->(∀d o,s.heap.get? d=some o->h'.get? d=some o)->Q (.ref (s.heap.objs.size+4)) { s with heap:=h' }):wpAny (model prog w) A (call (.type "zip") [.ref a,.ref c]) Q E s:=by
 cases b
 ·exact call_zip_2 l1 l2 λh' b1 b2 b3 b4 b5 b6 hk=>q h' b1 b2 b3 b4 b5 hk
 ·refine callType_new F.called_zip (by decide) (F.typeCall_zip_2 _ _) (F.newCall_zip_2 _ _) (λobj=>F.args_object_init_3 obj _ _) F.entry_zip_new (Zqo a c vs us) ⟨l1,l2,?_⟩
  have z1:(zt1 s.heap a).objs.size=s.heap.objs.size+1:=Wcq ..;have z2:(zt2 s.heap a c).objs.size=s.heap.objs.size+2:=by rw[Wcq,z1]
  have z3:(zt3 s.heap a c).objs.size=s.heap.objs.size+3:=by rw[Wcq,z2]
  have z4:(zt4 s.heap a c).objs.size=s.heap.objs.size+4:=by rw[Wcq,z3]
  have p5:(zt5 s.heap a c).get? (zt4 s.heap a c).objs.size=some _:=Wam _ rfl;have p4:(zt5 s.heap a c).get? (zt3 s.heap a c).objs.size=some _:=Wac _ (Wam _ rfl);have p3:(zt5 s.heap a c).get? (zt2 s.heap a c).objs.size=some _:=Wac _ (Wac _ (Wam _ rfl));have p2:(zt5 s.heap a c).get? (zt1 s.heap a).objs.size=some _:=Wac _ (Wac _ (Wac _ (Wam _ rfl)));have p1:(zt5 s.heap a c).get? s.heap.objs.size=some _:=Wac _ (Wac _ (Wac _ (Wac _ (Wam _ rfl))));show _/\_;rw[z2,z3,z4]at p5;rw[z1,z2]at p3;rw[z3]at p4;rw[z1]at p2;rw[z4];exact⟨⟨_,p5,rfl⟩,q _ p5 p3 p4 ⟨_,p1,rfl,rfl⟩ ⟨_,p2,rfl,rfl⟩ λd o e=>Wac _ (Wac _ (Wac _ (Wac _ (Wac _ e))))⟩
end
def Izb (b:Bool) (K:W.Frag) (l1 l2:Addr):It:=
 ⟨λi H=>∃xs ys x y,SqB b K H l1 xs/\SqB b K H l2 ys/\xs[i]?=some x/\ys[i]?=some y,
  λi H v H'=>∃p x y,H p=none/\v=.ref p/\H'=upd H p (.tup [x,y])/\∀xs ys,SqB b K H l1 xs->SqB b K H l2 ys->xs[i]?=some x/\ys[i]?=some y,
  λi H=>∃xs ys,SqB b K H l1 xs/\SqB b K H l2 ys/\(xs.length<=i\/ys.length<=i)⟩
theorem Zt1 {b:Bool}{P:Program}{w:World}{K:W.Frag}{es:List Expr}{kk:Nat}{tp:Pos}(l1 l2 z TI TO i1 i2:Addr) (D:ZipApart z TI TO i1 i2 l1 l2):Turn P w K (.Tuple es kk tp) (Izb b K l1 l2) [z,TI,TO,i1,i2] z
  (λi h=>IsZip h z TI TO .none/\IsPair h TI (.ref i1) (.ref i2)/\(∃a b,IsPair h TO a b)/\ItB b h i1 l1 i/\ItB b h i2 l2 i) where
 mem:=by simp
 obj:=λi h st b2 hb=>by
  obtain⟨hz,hTI,⟨a,b',hTO⟩,h1,h2⟩:=st;obtain⟨o1,e1,d1⟩:=h1.obj;obtain⟨o2,e2,d2⟩:=h2.obj;simp only[Wal,Wb7,or_false]at hb;rcases hb with rfl|rfl|rfl|rfl|rfl
  ·exact⟨_,hz,λv q=>by cases q⟩
  ·exact⟨_,hTI,λv q=>by cases q⟩
  ·exact⟨_,hTO,λv q=>by cases q⟩
  ·exact⟨o1,e1,λv q=>by rw[d1]at q;cases q⟩
  ·exact⟨o2,e2,λv q=>by rw[d2]at q;cases q⟩
 keep:=λi h h' st k=>by
  obtain⟨hz,hTI,⟨a,b',hTO⟩,h1,h2⟩:=st;exact⟨k z (by simp) _ hz,k TI (by simp) _ hTI,⟨a,b',k TO (by simp) _ hTO⟩,h1.at λo e=>k i1 (by simp) o e,h2.at λo e=>k i2 (by simp) o e⟩
 item:=by
  intro X hP hw hK hc i pins s σ H E I hf st hg;subst hP hw hK;obtain⟨hz,hTI,⟨a,b',hTO⟩,h1,h2⟩:=st;obtain⟨xs,ys,x,y,hq1,hq2,hx,hy⟩:=hg;obtain⟨its1,r1,p1⟩:=I.seqB hq1;obtain⟨its2,r2,p2⟩:=I.seqB hq2;obtain⟨u1,hu1,ru1⟩:=r1.get hx;obtain⟨u2,hu2,ru2⟩:=r2.get hy;refine Zuf D hz hTI hTO h1 h2 p1 p2 (x:=u1) (y:=u2) (by simpa using hu1) (by simpa using hu2) λh' b1 b2 b3 b4 b5 b6 hk=>?_;refine⟨_,rfl,wpAny_letOwnedTupleGo_zip (s:={ s with heap:=h' }) b1 λh'' hz'' hs''=>?_⟩;have lt:∀{c o},s.heap.get? c=some o->c≠s.heap.objs.size:=λe=>Wav (War e);have hTz:s.heap.objs.size≠z:=Ne.symm (lt hz);have hTfree:H s.heap.objs.size=none:=I.hok.fresh (Wah _);have kept:∀c o,c ∉ [z,TI,TO,i1,i2]->s.heap.get? c=some o->h''.get? c=some o:=λc o hc e=>by
   simp only[Wal,Wb7,or_false,not_or]at hc;exact hs''.extBut _ _ hc.1 (hk c o hc.1 hc.2.2.1 hc.2.2.2.1 hc.2.2.2.2 e)
  have hT:h''.get? s.heap.objs.size=some { cls:=.type "tuple",data:=.seq #[u1,u2] }:=hs''.extBut _ _ hTz b5;have ntr:∀c o,H c=some o->c ∉ [z,TI,TO,i1,i2]:=λc o e hc=>by rw[(hf c hc).1]at e;cases e
  have hok:HOk X.prog X.w (upd H s.heap.objs.size (.tup [x,y])) h'':=λc o e=>by
   by_cases hcT:c=s.heap.objs.size
   ·subst hcT
    rw[Zas]at e;cases e;exact⟨by show 2<=sizeLine;decide,[u1,u2],.cons ru1 (.cons ru2 .nil),_,hT,⟨rfl,_,rfl⟩,rfl⟩
   ·rw[Zap hcT]at e
    refine(I.hok c o e).stay (λd v hd q=>kept d v ?_ q) (λd q=>by rw[Zap (Zau q hTfree)];exact q) λd zs q=>by rw[Zap (Zau q hTfree)];exact q
    rcases hd with hd|hd
    ·rw[hd];exact ntr c o e
    ·exact ntr d _ hd
  have I2:Inv X pins σ (upd H s.heap.objs.size (.tup [x,y])) { s with heap:=h'' }:=by
   refine I.call (g':=s.gens) (t':=s.toks) (d':=s.drawn) (ch:=[z,TI,TO,i1,i2]) ⟨λc o e n hc hx=>kept c o hx e,λc o e n hc hx=>⟨o.slots,kept c o hx e⟩,λc o e n hx=>by rw[Zap (lt e)];exact n,λc o e hx=>⟨o,kept c o hx e⟩,
    λc zs q=>by rw[Zap (Zau q hTfree)];exact q,λc o zs q=>by rw[Zap (Zau q hTfree)];exact q,λc zs q=>⟨#[],by rw[Zap (Zau q hTfree),q];simp⟩⟩ hok I.bare λc hcc=>?_
   obtain⟨f0,f1,f2,f3,f4,f5⟩:=hf c hcc;exact⟨f3,f1,f4,f5⟩
  refine⟨.ref s.heap.objs.size,_,I2,rfl,⟨s.heap.objs.size,x,y,hTfree,rfl,rfl,λxs' ys' q1 q2=>?_⟩,⟨hz'',hs''.extBut _ _ D.TIz (hk _ _ D.TIz D.TITO D.TIi1 D.TIi2 hTI),⟨_,_,hs''.extBut _ _ D.TOz b2⟩,b3.off hs''.extBut D.i1z,b4.off hs''.extBut D.i2z⟩,λc hcc=>?_⟩
  ·rw[I.seqB_inj q1 hq1,I.seqB_inj q2 hq2];exact⟨hx,hy⟩
  ·have hcl:c≠s.heap.objs.size:=by
    simp only[Wal,Wb7,or_false]at hcc;obtain⟨_,e1,_⟩:=h1.obj;obtain⟨_,e2,_⟩:=h2.obj;rcases hcc with rfl|rfl|rfl|rfl|rfl
    ·exact lt hz
    ·exact lt hTI
    ·exact lt hTO
    ·exact lt e1
    ·exact lt e2
   rw[Zap hcl];exact(hf c hcc).1
 done:=by
  intro X hP hw hK hc i pins s σ H E I hf st hg;subst hP hw hK;obtain⟨hz,hTI,⟨a,b',hTO⟩,h1,h2⟩:=st;obtain⟨xs,ys,hq1,hq2,hend⟩:=hg;obtain⟨its1,r1,p1⟩:=I.seqB hq1;obtain⟨its2,r2,p2⟩:=I.seqB hq2;have l1':=r1.length;have l2':=r2.length;refine Zw7 (I.ok.hd hc) D hz hTI hTO h1 h2 p1 p2 ?_ λh' hk=>⟨rfl,?_⟩
  ·rcases hend with q|q
   ·left;simp;omega
   ·right;simp;omega
  ·have kept:∀c o,c ∉ [z,TI,TO,i1,i2]->s.heap.get? c=some o->h'.get? c=some o:=λc o hc e=>by
    simp only[Wal,Wb7,or_false,not_or]at hc;exact hk c o hc.1 hc.2.2.1 hc.2.2.2.1 hc.2.2.2.2 e
   have ntr:∀c o,H c=some o->c ∉ [z,TI,TO,i1,i2]:=λc o e hc=>by rw[(hf c hc).1]at e;cases e
   refine I.call (g':=s.gens) (t':=s.toks) (d':=s.drawn) (ch:=[z,TI,TO,i1,i2]) ⟨λc o e n hc hx=>kept c o hx e,λc o e n hc hx=>⟨o.slots,kept c o hx e⟩,λc o e n hx=>n,λc o e hx=>⟨o,kept c o hx e⟩,
    λc zs q=>q,λc o zs q=>q,λc zs q=>⟨#[],by rw[q];simp⟩⟩ (λc o e=>?_) I.bare λc hcc=>?_
   ·refine(I.hok c o e).stay (λd v hd q=>kept d v ?_ q) (λd q=>q) λd zs q=>q
    rcases hd with hd|hd
    ·rw[hd];exact ntr c o e
    ·exact ntr d _ hd
   ·obtain⟨f0,f1,f2,f3,f4,f5⟩:=hf c hcc
    exact⟨f3,f1,f4,f5⟩
 self:=λ_ _ _ _ _ st h=>wpAny_pyIter_zip st.1 h
section
variable {X:Cx}
def iZip (K:W.Frag) (ta:TA):TI:=λσ H R=>ta σ H λvs H1=>∃b l1 l2,vs=[.ref l1,.ref l2]/\(∃xs,SqB b K H1 l1 xs)/\(∃ys,SqB b K H1 l2 ys)/\R (Izb b K l1 l2) H1
theorem Zvv (K:W.Frag) {es:List Expr}{kk:Nat}{tp:Pos}{a b:Expr}{ta:TA}{p pos:Pos}(hg:Gl X "zip") (hm:X.mg "zip" = none) (ha:PA X [a,b] ta) (hs:starEach [a,b] X.env=[(false,eval a X.env),(false,eval b X.env)]:=by rfl) (hs2:starEach [b] X.env=[(false,eval b X.env)]:=by rfl) (hK:X.K=K:=by rfl) :
  PI X (.Tuple es kk tp) (.Call (.Name "zip" p) [a,b] [] pos) (iZip K ta):=by
 subst hK;intro pins s σ H R I h;refine Call_ (Zd7 I hg hm (Zwn) (PyProof.Rows.callWith_type1 (thn (ha pos pins s σ H _ I h) λus s1 ⟨vs,H1,I1,r1,q1⟩=>?_) (by rw[hs,hs2]) (by rw[hs2];rfl)));obtain⟨b,l1,l2,e,⟨xs,hx⟩,⟨ys,hy⟩,q⟩:=q1;subst e;obtain⟨u1,u2,rfl,q1,q2⟩:=r1.two;cases (show u1=Value.ref l1 from q1);cases (show u2=Value.ref l2 from q2);obtain⟨its1,w1,p1⟩:=I1.seqB hx;obtain⟨its2,w2,p2⟩:=I1.seqB hy;have lt1:l1<s1.heap.objs.size:=p1.lt;have lt2:l2<s1.heap.objs.size:=p2.lt;refine Zt7 p1 p2 λh' b1 b2 b3 b4 b5 hk=>?_;refine wpAny_pyIter_zip b1 ?_;have I2:Inv X pins σ H1 { s1 with heap:=h' }:=I1.kept (t':=s1.toks) hk;refine⟨s1.heap.objs.size+4,[s1.heap.objs.size+4,s1.heap.objs.size+2,s1.heap.objs.size+3,s1.heap.objs.size,s1.heap.objs.size+1],_,_,H1,rfl,I2,Zt1 l1 l2 _ _ _ _ _ (zipApart_new lt1 lt2),⟨b1,b2,⟨_,_,b3⟩,b4,b5⟩,λb hb=>?_,q⟩;have hge:s1.heap.objs.size<=b:=by
  simp only[Wal,Wb7,or_false]at hb;rcases hb with rfl|rfl|rfl|rfl|rfl <;> omega
 exact I1.fpOk hge (I1.hok.fresh hge)
def rAll (K:W.Frag):List V->Hp->VK->Prop:=λxs H Q=>∃(p:Addr) (bs:List Bool),xs=[.ref p]/\SqL K H p (bs.map V.bl)/\Q (.bl (bs.all id)) H
theorem allK (K:W.Frag) (hc:X.calm=true) (hK:X.K=K:=by rfl):CallR X (.builtin "all") (rAll K):=by
 subst hK;intro pins s σ H xs us Q I r h;obtain⟨p,bs,rfl,hx,q⟩:=h;obtain⟨u,rfl,ru⟩:=vals1 r;cases (show u=Value.ref p from ru);obtain⟨its,w1,p1,_⟩:=I.list hx;have hlt:p<s.heap.objs.size:=by obtain⟨o,e,_⟩:=p1.isList;exact War e
 have hval:∀(bs:List Bool) (its:List Value),Vals (bs.map V.bl) its->its=bs.map Value.bool:=by
  intro bs
  induction bs with
  |nil=>intro its h;cases h;rfl
  |cons b r ih=>intro its h;cases h with|cons h1 h2=>cases (show _=Value.bool b from h1);rw[ih _ h2];rfl
 have e:=hval bs its w1;subst e;refine call_all_walk (wpAny_pyIter_list p1.isList ?_);refine⟨s.heap.objs.size,_,_,_,_,_,λi=>bs.getD i false,rfl,Walks.list (prog:=X.prog) (w:=X.w) (A:=X.A.in1) (show X.A.in1.handled=none from I.ok.hd hc) s.heap.objs.size p (Wav hlt) (bs.map Value.bool).toArray,⟨⟨_,Wam _ rfl,rfl,rfl⟩,p1.isList.push _⟩,?_,λh' tk hk=>?_⟩
 ·intro i v s0 Q0 E0 hv hq
  have hv:(bs.map Value.bool).toArray[i]?=some v:=hv;have hv:(bs.map Value.bool)[i]?=some v:=by simpa using hv
  rw[Wad]at hv;cases z:bs[i]? with
  |none=>rw[z]at hv;cases hv
  |some b=>
   rw[z]at hv;have hv:Value.bool b=v:=by simpa using hv
   subst hv;have e0:bs.getD i false=b:=by rw[Wae,z];rfl
   have hq:Q0 (bs.getD i false) s0:=hq;rw[e0]at hq;exact wpAny_truthy_bool hq
 ·have e:(Wai (bs.map Value.bool).toArray.size).all (λi=>bs.getD i false)=bs.all id:=by
   rw[Wak,Wab];rw[Wde,Wbp,Wbp];constructor
   ·intro hh b hb
    obtain⟨i,hi,rfl⟩:=Wc7.mp hb;have:=hh i (Waw.mpr hi);rw[Wae,Waa hi]at this;exact this
   ·intro hh i hi
    rw[Waw]at hi;rw[Wae,Waa hi];exact hh _ (Wa5 hi)
  rw[e];have I0:Inv X pins σ H { s with heap:=s.heap.push { cls:=.type "list_iterator",data:=.fields #[.ref p,.int 0 0] },toks:=s.toks }:=I.kept λb o e=>Wac _ e;refine⟨.bl (bs.all id),H,I0.turned (it:=s.heap.objs.size) (λb o hb e=>hk b o (by simpa using hb) e) (I.hok.fresh (Wah _)) (Wdk I.lt) (.inr I.sz) ?_ ?_,rfl,q⟩
  ·have:=I.fpOk (b:=s.heap.objs.size) (H':=H) (Wah _) (I.hok.fresh (Wah _))
   exact this.2.2.2.2.1
  ·have:=I.fpOk (b:=s.heap.objs.size) (H':=H) (Wah _) (I.hok.fresh (Wah _))
   exact this.2.2.2.2.2
def rIsiU (K:W.Frag):List V->Hp->VK->Prop:=λxs H Q=>rIsi K xs H Q\/∃(x:V) (p:Addr) (ns:List String) (T:String) (b:Bool),xs=[x,.ref p]/\H p=some (.tup (ns.map V.ty))/\TyOf K H x (.type T)/\PySem.W.kitAny K (.type T) (ns.map Value.type)=some b/\Q (.bl b) H
theorem Zmd {pins:List (Addr × Obj)}{σ:St}{H:Hp}{s:Shared}{x:V}{u t:Value}(I:Inv X pins σ H s) (rx:RelV x u) (ty:TyOf X.K H x t) (nt:∃T,t=.type T):∃Hh:Heap->Prop,PySem.W.KitX X.K u t Hh/\Hh s.heap/\u≠.builtin "__main__.__loader__#opaque":=by
 cases ty with
 |non=>cases (show u=Value.none from rx);exact⟨_,PySem.W.kitx_none,True.intro,λz=>nomatch z⟩
 |bl y=>cases (show u=Value.bool y from rx);exact⟨_,PySem.W.kitx_bool,True.intro,λz=>nomatch z⟩
 |int i=>obtain⟨t,q⟩:=(show ∃t,u=Value.int i t from rx);cases q;exact⟨_,PySem.W.kitx_int,True.intro,λz=>nomatch z⟩
 |str y=>obtain⟨t,q⟩:=(show ∃t,u=Value.str y t from rx);cases q;exact⟨_,PySem.W.kitx_str,True.intro,λz=>nomatch z⟩
 |flt y=>obtain⟨t,q⟩:=(show ∃t,u=Value.float y t from rx);cases q;exact⟨_,PySem.W.kitx_float,True.intro,λz=>nomatch z⟩
 |@lst a xs ea=>
  cases (show u=Value.ref a from rx);obtain⟨_,_,n,_,h1⟩:=(show ObjOk X.prog X.w H s.heap a (.lst xs) from I.hok a _ ea);exact⟨_,PySem.W.kitx_list,⟨_,h1,rfl⟩,λz=>nomatch z⟩
 |@frz a ob xs ea=>
  cases (show u=Value.ref a from rx);obtain⟨_,_,_,n,_,h1⟩:=(show ObjOk X.prog X.w H s.heap a (.frz ob (.lst xs)) from I.hok a _ ea);exact⟨_,PySem.W.kitx_list,⟨_,h1,rfl⟩,λz=>nomatch z⟩
 |@tup a xs ea=>
  cases (show u=Value.ref a from rx);obtain⟨_,_,_,p⟩:=(show ObjOk X.prog X.w H s.heap a (.tup xs) from I.hok a _ ea);obtain⟨o,h1,⟨h2,_⟩,_⟩:=p;exact⟨_,PySem.W.kitx_tuple,⟨o,h1,h2⟩,λz=>nomatch z⟩
 |@dK a kvs ea=>
  cases (show u=Value.ref a from rx);obtain⟨_,_,vs,_,p⟩:=(show ObjOk X.prog X.w H s.heap a (.dK kvs) from I.hok a _ ea);obtain⟨o,es,ep,h1,h2,_⟩:=p;exact⟨_,PySem.W.kitx_dict,⟨o,h1,h2.1⟩,λz=>nomatch z⟩
 |@dT a kvs ea=>
  cases (show u=Value.ref a from rx);obtain⟨_,_,xs,_,o,es,ep,h1,h2,_⟩:=(show ObjOk X.prog X.w H s.heap a (.dT kvs) from I.hok a _ ea);exact⟨_,PySem.W.kitx_dict,⟨o,h1,h2.1⟩,λz=>nomatch z⟩
 |@ins a C dx fs ea cl ha hn htk hm=>obtain⟨T,e⟩:=nt;cases e
theorem isiUK (K:W.Frag) (hK:X.K=K:=by rfl):CallR X (.builtin "isinstance") (rIsiU K):=by
 subst hK;refine CallR.or Zjp ?_;intro pins s σ H xs us Q I r h;obtain⟨x,p,ns,T,b,rfl,hp,ty,e,q⟩:=h;obtain⟨u,u',rfl,rx,rn⟩:=vals2 r;cases (show u'=Value.ref p from rn);obtain⟨Hh,Z,hz,hne⟩:=Zmd I rx ty ⟨T,rfl⟩;obtain⟨_,its,rv,o,ho,⟨hc,n,hd⟩,hdd⟩:=I.hok p _ hp;have hv:∀(ns:List String) (its:List Value),Vals (ns.map V.ty) its->its=ns.map Value.type:=by
  intro ns
  induction ns with
  |nil=>intro its h;cases h;rfl
  |cons b r ih=>intro its h;cases h with|cons h1 h2=>cases (show _=Value.type b from h1);rw[ih _ h2];rfl
 have e2:=hv ns its rv;subst e2;obtain⟨cls,dd,data,sl⟩:=o;simp only at hc hd hdd;subst hc hd hdd;exact PySem.W.kia_tup Z I.kIn hz ho e hne λtk=>⟨.bl b,H,I.tok _,rfl,q⟩
end
section
variable {K:W.Frag}{Δ:Evt}
theorem Zll {b:Bool}{G:Hp}{l1 l2:Addr}{xs ys:List V}{ds es:List D}(h1:∀G1 H1,Same G G1->Same G1 H1->SqB b K H1 l1 xs) (h2:∀G1 H1,Same G G1->Same G1 H1->SqB b K H1 l2 ys) (r1:Reps K G xs ds) (r2:Reps K G ys es) (hl:ds.length=es.length) :
  ItOk K G (Izb b K l1 l2) ((ds.zip es).map λp=>D.tup [p.1,p.2]):=λG1 H1 sg sh=>by
 have hl1:=r1.length;have hl2:=r2.length;have e1:=h1 G1 H1 sg sh;have e2:=h2 G1 H1 sg sh;refine⟨⟨xs,ys,e1,e2,.inl (by rw[Wab,Wd4];omega)⟩,λi d hd=>?_⟩;rw[Wad]at hd;cases q:(ds.zip es)[i]? with
 |none=>rw[q]at hd;cases hd
 |some pr=>
  rw[q]at hd;have hd:D.tup [pr.1,pr.2]=d:=by simpa using hd
  subst hd;rw[Wbj]at q;obtain⟨u,hu,ru⟩:=r1.get q.1;obtain⟨v,hv,rv⟩:=r2.get q.2;refine⟨⟨xs,ys,u,v,e1,e2,hu,hv⟩,λx H2 ⟨p,a,b',hp,ex,eH,hab⟩=>?_⟩;obtain⟨ha,hb⟩:=hab xs ys e1 e2;rw[hu]at ha;rw[hv]at hb;cases ha;cases hb;subst ex;subst eH;have hG:G1 p=none:=by
   cases z:G1 p with
   |none=>rfl
   |some o=>rw[sh _ _ z]at hp;cases hp
  refine⟨upd G1 p (.tup [u,v]),λc o e=>by rw[Zap (Zau e hG)];exact e,λc o e=>by rw[Zap (Zau e hp)];exact e,λc o e=>?_,?_⟩
  ·by_cases hc:c=p
   ·subst hc;rw[Zas]at e ⊢;exact⟨e,.inr hp⟩
   ·rw[Zap hc]at e ⊢;exact⟨sh c o e,.inl e⟩
  ·have sg2:Same G1 (upd G1 p (.tup [u,v])):=λc o e=>by rw[Zap (Zau e hG)];exact e
   exact .tup Zas (.cons ((ru.mono sg).mono sg2) (.cons ((rv.mono sg).mono sg2) .nil))
theorem Zwp {ta:TA}{P:List D->Evt->Prop}(h:JA K ta Δ λds Δ1=>∃as bs,ds=[.lst as,.lst bs]/\as.length=bs.length/\P ((as.zip bs).map λp=>D.tup [p.1,p.2]) Δ1):JI K (iZip K ta) Δ P:=λg G H σ R k c=>
 h g G H σ _ k λvs ds G1 H1 Δ1 k1 s1 r1 hq_=>by
  obtain⟨as,bs,e,hl,p1⟩:=hq_;subst e;obtain⟨_,_,rfl,ra,rr⟩:=r1.inv
  next=>
   obtain⟨_,_,rfl,rb,rr⟩:=rr.inv
   next=>
    cases rr.inv;obtain⟨_,_,rfl,ha,rsa⟩:=ra.inv
    next=>
     obtain⟨_,_,rfl,hb,rsb⟩:=rb.inv
     next=>
      exact⟨false,_,_,rfl,⟨_,SqL.of (k1.live _ _ ha)⟩,⟨_,SqL.of (k1.live _ _ hb)⟩,c _ _ G1 H1 Δ1 k1 s1 (Zll (λ_ _ sg sh=>SqL.of (sh _ _ (sg _ _ ha))) (λ_ _ sg sh=>SqL.of (sh _ _ (sg _ _ hb))) rsa rsb hl) p1⟩
theorem Zux {ta:TA}{P:List D->Evt->Prop}(h:JA K ta Δ λds Δ1=>∃as bs,ds=[.tup as,.tup bs]/\as.length=bs.length/\P ((as.zip bs).map λp=>D.tup [p.1,p.2]) Δ1):JI K (iZip K ta) Δ P:=λg G H σ R k c=>
 h g G H σ _ k λvs ds G1 H1 Δ1 k1 s1 r1 hq_=>by
  obtain⟨as,bs,e,hl,p1⟩:=hq_;subst e;obtain⟨_,_,rfl,ra,rr⟩:=r1.inv
  next=>
   obtain⟨_,_,rfl,rb,rr⟩:=rr.inv
   next=>
    cases rr.inv;obtain⟨_,_,rfl,ha,rsa⟩:=ra.inv
    next=>
     obtain⟨_,_,rfl,hb,rsb⟩:=rb.inv
     next=>
      exact⟨true,_,_,rfl,⟨_,SqT.of (k1.live _ _ ha)⟩,⟨_,SqT.of (k1.live _ _ hb)⟩,c _ _ G1 H1 Δ1 k1 s1 (Zll (λ_ _ sg sh=>SqT.of (sh _ _ (sg _ _ ha))) (λ_ _ sg sh=>SqT.of (sh _ _ (sg _ _ hb))) rsa rsb hl) p1⟩
theorem Zr3 {bs:List Bool}{P:D->Evt->Prop}(p:P (.bl (bs.all id)) Δ):JC K (rAll K) [.lst (bs.map D.bl)] Δ P:=λg G H σ Q vs k rs c=>by
 obtain⟨_,_,rfl,r,t⟩:=rs.inv
 next=>
  cases t.inv;obtain⟨a,ws,rfl,ha,rs⟩:=r.inv
  next=>
   have e:∀(bs:List Bool) (ws:List V),Reps K G ws (bs.map D.bl)->ws=bs.map V.bl:=by
    intro bs
    induction bs with
    |nil=>intro ws h;cases h;rfl
    |cons b r ih=>intro ws h;cases h with|cons h1 h2=>cases h1;rw[ih _ h2];rfl
   have:=e bs ws rs;subst this;exact⟨_,bs,rfl,SqL.of (k.live _ _ ha),c _ _ G H Δ k (Same.refl _) (.bl _) p⟩
theorem Zc0 {d:D}{n T:String}{b:Bool}{P:D->Evt->Prop}(ht:tyD d=some T) (e:∀K,PySem.W.kitOne K (.type T) (.type n)=some b) (p:P (.bl b) Δ):JC K (rIsiU K) [d,.ty n] Δ P:=λg G H σ Q vs k rs c=>.inl (Zwk ht e p g G H σ Q vs k rs c)
end
section
variable {X:Cx}
def rMin1 (K:W.Frag):List V->Hp->VK->Prop:=λxs H Q=>∃(b:Bool) (p:Addr) (ns:List Int),xs=[.ref p]/\SqB b K H p (ns.map V.int)/\0<ns.length/\∀m,m∈ns->(∀a∈ns,m<=a)->Q (.int m) H
theorem minK (K:W.Frag) (hc:X.calm=true) (hK:X.K=K:=by rfl):CallR X (.builtin "min") (rMin1 K):=by
 subst hK;intro pins s σ H xs us Q I r h;obtain⟨b,p,ns,rfl,hx,hne,q⟩:=h;obtain⟨u,rfl,ru⟩:=vals1 r;cases (show u=Value.ref p from ru);obtain⟨its,w1,p1⟩:=I.seqB hx;have hlt:=p1.lt;have hl:=w1.length;rw[Wab]at hl;have hv:∀(i:Nat) v,its.toArray[i]?=some v->∃t,v=Value.int (ns.getD i 0) t:=λi v e=>by
  have hi:i<its.length:=by simpa using (Array.getElem?_eq_some_iff.mp e).1
  obtain⟨v',e1,t,e2⟩:=w1.get (i:=i) (x:=.int (ns.getD i 0)) (by rw[Wad,Wae,Waa (by omega)];rfl);rw[Wcn,e1]at e;cases e;exact⟨t,e2⟩
 have fin:∀{h':Heap}{tk:Nat}{v:Value},its.toArray[argBest (λi j=>decide (ns.getD i 0<ns.getD j 0)) (its.toArray.size-1)]?=some v->(∀c o,s.heap.get? c=some o->h'.get? c=some o)->EP X pins σ Q v { s with heap:=h',toks:=tk }:=λ{h' tk v} hP hk=>by
  obtain⟨t,rfl⟩:=hv _ _ hP;obtain⟨h1,h2⟩:=argBest_lt (λi=>ns.getD i 0) (its.toArray.size-1);have hz:its.toArray.size=ns.length:=by simp[hl]
  rw[hz]at h1 h2 ⊢;refine⟨.int (ns.getD (argBest (λi j=>decide (ns.getD i 0<ns.getD j 0)) (ns.length-1)) 0),H,I.kept hk,⟨_,rfl⟩,q _ ?_ λa ha=>?_⟩
  ·rw[Wae,Waa (by omega)];exact Wa5 _
  ·obtain⟨j,hj,rfl⟩:=Wc7.mp ha
   have:=h2 j (by omega);rw[Wae (l:=ns) (i:=j),Waa hj]at this;exact this
 have old:∀{o:Obj}{h':Heap},(∀c u,c ∉ [s.heap.objs.size]->(s.heap.push o).get? c=some u->h'.get? c=some u)->∀c u,s.heap.get? c=some u->h'.get? c=some u:=λhk c u e=>hk c u (λhm=>by
  have:c=s.heap.objs.size:=by simpa using hm
  exact absurd (this ▸ War e) (Wcw _)) (Wac _ e)
 have fp:∀o:Obj,∀c∈[s.heap.objs.size,p],c<(s.heap.push o).objs.size:=λo c hc=>by
  rw[Wcq];simp only[Wal,Wb7,or_false]at hc;rcases hc with rfl|rfl
  ·exact Nat.lt_succ_self _
  ·exact Wbn hlt
 cases b
 ·refine call_min_walk (wpAny_pyIter_list p1 ?_)
  exact⟨_,_,_,_,_,_,_,rfl,Walks.list (A:=X.A.in1) (I.ok.hd hc) _ p (Wav hlt) its.toArray,⟨⟨_,Wam _ rfl,rfl,rfl⟩,Heap.IsList.push p1 _⟩,fp _,by simp;omega,CmpOf.ints_lt (λi=>ns.getD i 0) hv,λv h' tk hP hk=>fin hP (old hk)⟩
 ·refine call_min_walk (wpAny_pyIter_tuple p1 ?_)
  exact⟨_,_,_,_,_,_,_,rfl,Walks.tuple (A:=X.A.in1) (I.ok.hd hc) _ p (Wav hlt) its.toArray,⟨⟨_,Wam _ rfl,rfl,rfl⟩,Heap.IsTuple.push p1 _⟩,fp _,by simp;omega,CmpOf.ints_lt (λi=>ns.getD i 0) hv,λv h' tk hP hk=>fin hP (old hk)⟩
end
section
variable {K:W.Frag}{Δ:Evt}
theorem Zta {ns:List Int}{m:Int}{d:D}{P:D->Evt->Prop}(hd:d=.lst (ns.map .int)\/d=.tup (ns.map .int)) (hm:m∈ns) (hle:∀a∈ns,m<=a) (p:P (.int m) Δ):JC K (rMin1 K) [d] Δ P:=λg G H σ Q vs k rs c=>by
 have fin:∀m',m'∈ns->(∀a∈ns,m' <= a)->Q (.int m') H:=λm' h1 h2=>by
  have:m'=m:=Int.le_antisymm (h2 m hm) (hle m' h1);subst this;exact c _ _ G H Δ k (Same.refl _) (.int _) p
 have pos:0<ns.length:=Wcg hm;obtain⟨_,_,rfl,r,t⟩:=rs.inv
 next=>
  cases t.inv;rcases hd with hd|hd <;> subst hd
  ·obtain⟨_,_,rfl,ha,rs⟩:=r.inv
   next=>have:=rs.ints;subst this;exact⟨false,_,ns,rfl,SqL.of (k.live _ _ ha),pos,fin⟩
  ·obtain⟨_,_,rfl,ha,rs⟩:=r.inv
   next=>have:=rs.ints;subst this;exact⟨true,_,ns,rfl,SqT.of (k.live _ _ ha),pos,fin⟩
end
open PySem PySem.Spec PyProof.Rows PySem.SeqAt
theorem Zn5:∀n:Nat,n<200->minRun' n n 0<=n:=by decide +kernel
section
variable {prog:Program}{w:World}{A:Around}{E:Value->Shared->Prop}{s:Shared}
theorem Zt2 {st:SortSt}{nrem a:Nat}{Q:AscSt->SortSt->Prop}(hc:∀i,1<=i->i<nrem->∀Q:Option Bool->SortSt->Prop,Q (some false) st->wpS (model prog w) A E s (ltAt' i (i-1)) Q st) (ha:1<=a) (han:a<=nrem) (h:Q (none,nrem) st) :
  wpS (model prog w) A E s (ascLoop a nrem) Q st:=by
 unfold ascLoop;refine wpS_forRange (I:=λx c st'=>st'=st/\c=(none,x)) ?step ?fin ⟨rfl,rfl⟩
 case fin=>
  rintro c st' ⟨rfl,rfl⟩;rw[show max a nrem=nrem by omega];exact h
 case step=>
  rintro x c st' hax hxn ⟨rfl,rfl⟩;dsimp only;refine wpS_bind (hc x (by omega) hxn _ ?_);simp only[Wao,if_false];exact wpS_pure ⟨rfl,rfl⟩
theorem Zre {st:SortSt}{n:Nat}{Q:Unit->SortSt->Prop}(hs:(arrOf st).size=n) (hp:pendingOf st = #[]) (h2:2<=n) (hn:n<200) (hc:∀i,1<=i->i<n->∀Q:Option Bool->SortSt->Prop,Q (some false) st->wpS (model prog w) A E s (ltAt' i (i-1)) Q st)
  (h:∀st',arrOf st'=arrOf st->failedOf st'=failedOf st->Q () st'):wpS (model prog w) A E s sortRuns' Q st:=by
 have hmr:=Zn5 n hn;rw[sortRuns'_eq];refine wpS_bind (wpS_get ?_);dsimp only;simp only[hs];refine wpS_bind (wpS_mono (wpS_forRange
  (I:=λx c st'=>(x=0/\c=(none,0)/\st'=st)\/(1<=x/\c=(none,n)/\st'=setPending st #[(0,n,0)]))
  (Q:=λc st'=>c=(none,n)/\st'=setPending st #[(0,n,0)]) ?step ?fin (.inl ⟨rfl,rfl,rfl⟩)) ?post)
 case fin=>
  rintro c st' (⟨hx,_,_⟩|⟨_,hc,hD⟩)
  ·omega
  ·exact⟨hc,hD⟩
 case step=>
  rintro x c st' _ hx (⟨rfl,rfl,rfl⟩|⟨hx1,rfl,rfl⟩)
  ·dsimp only
   rw[if_neg (by omega)];simp only[Wd6,Weo];rw[countRun0_eq];refine wpS_bind (wpS_bind (Zt2 hc (Wah 1) (by omega) ?_));dsimp only;rw[if_pos (by simp)];refine wpS_pure ?_;dsimp only;rw[if_neg (by omega)];refine wpS_bind (wpS_get ?_);rw[hp];refine wpS_bind (wpS_modify (wpS_pure (.inr ⟨by omega,rfl,?_⟩)));rw[hp];rfl
  ·dsimp only
   rw[if_pos (Wah _)];exact wpS_pure ⟨rfl,rfl⟩
 case post=>
  rintro c st' ⟨rfl,rfl⟩;dsimp only;refine wpS_bind (wpS_mono (wpS_forRange (I:=λ_ c st''=>st''=setPending st #[(0,n,0)]/\c=(none,())) (Q:=λc st''=>st''=setPending st #[(0,n,0)]/\c=(none,())) ?_ (λ_ _ hh=>hh) ⟨rfl,rfl⟩) ?_)
  ·rintro x c st'' _ _ ⟨rfl,rfl⟩
   refine wpS_bind (wpS_get ?_);rw[if_pos (show (pendingOf (setPending st #[(0,n,0)])).size<=1 from Wah 1)];exact wpS_pure ⟨rfl,rfl⟩
  ·rintro c st'' ⟨rfl,rfl⟩
   exact wpS_pure (h _ rfl rfl)
def KeepBut (a:Addr) (h h':Heap):Prop:=∀b o,b≠a->h.get? b=some o->h'.get? b=some o
theorem Zic {a:Addr}{vs:List Value}{n:Nat}{κ:SortKind}{P:Fin->Shared->Prop}(ho:s.heap.get? a=some (seqObj "list" vs.toArray n)) (hz:vs.length<200)
  (hk:2<=vs.length->∀h',KeepBut a s.heap h' -> ∀Q:SortKind->Shared->Prop,Q κ { s with heap:=h' } -> wpAny (model prog w) A (keyKind' vs.toArray) Q E { s with heap:=h' })
  (hc:∀h',KeepBut a s.heap h' -> ∀i,1<=i->i<vs.length->∀(E:Value->Shared->Prop) (Q:Bool->Shared->Prop),Q false { s with heap:=h' } -> wpAny (model prog w) A (keyLt' κ (vs.getD i .none) (vs.getD (i-1) .none)) Q E { s with heap:=h' })
  (h:P (.done (.ret .none)) { s with heap:=sortedHeap s.heap a vs vs.toArray }):wpAny (model prog w) A (Builtin.«list.sort» ⟨[.ref a],[]⟩) P E s:=by
 rw[list_sort_plain];have ha:a<s.heap.objs.size:=War ho;have hsz:vs.toArray.size=vs.length:=by simp
 have hline:vs.length<=sizeLine:=by rw[sizeLine_eq];omega
 refine wpAny_bind (listItems_at ho rfl ?_);refine wpAny_bind (listUpdate_at ho rfl ?_ (by rw[hsz];exact hline) (Wbl _));obtain⟨e1,ho1⟩:∃e1,(s.heap.update a (Obj.mapSeq λ_=>#[])).get? a=some (seqObj "list" #[] e1):=⟨_,get?_update_seq ho (λ_=>#[])⟩;refine wpAny_bind (seqEpoch_at ho1 rfl ?_);refine wpAny_bind (wpAny_newTuple ?_ hline);refine wpAny_bind (wpAny_newList ?_ (Wbl _));refine wpAny_holding ?_;have ho6:(((s.heap.update a (Obj.mapSeq λ_=>#[])).push (seqObj "tuple" vs.toArray 0)).push (seqObj "list" #[] 0)).get? a=some (seqObj "list" #[] e1):=by
  rw[Wcf _ _ _ (by rw[size_push',Wc8];exact Wav (Wbn ha)),Wcf _ _ _ (by rw[Wc8];exact Wav ha)];exact ho1
 have keep:KeepBut a s.heap (((s.heap.update a (Obj.mapSeq λ_=>#[])).push (seqObj "tuple" vs.toArray 0)).push (seqObj "list" #[] 0)):=λb o hb q=>
  Wac _ (Wac _ ((Wdt _ _ _ _ hb).trans q))
 show wpAny (model prog w) A _ P E { s with heap:=((s.heap.update a (Obj.mapSeq λ_=>#[])).push (seqObj "tuple" vs.toArray 0)).push (seqObj "list" #[] 0) };dsimp only;have out:((vs.toArray.zip vs.toArray).map (·.2))=vs.toArray:=by
  apply Array.toList_inj.mp;rw[Array.toList_map,Array.toList_zip];exact Wdm (Wah _)
 by_cases h2:vs.toArray.size<2
 ·rw[if_pos h2,if_pos h2]
  refine wpAny_bind (wpAny_pure ?_);rw[StateT.run_pure];refine wpAny_bind (wpAny_pure ?_);dsimp only;refine wpAny_bind (seqEpoch_at ho6 rfl ?_);rw[show arrOf (SortSt.mk' general' (vs.toArray.zip vs.toArray) #[] 7 none)=vs.toArray.zip vs.toArray from rfl,out];refine wpAny_bind (listUpdate_at ho6 rfl ?_ (Wbl _) (by rw[hsz];exact Wd2 hline));simp only[bne_self_eq_false,Wao,if_false];exact wpAny_pure h
 ·rw[if_neg h2,if_neg h2]
  refine wpAny_bind (hk (by omega) _ keep _ ?_);refine wpAny_bind (wpAny_mono (Zre (n:=vs.length) (st:=SortSt.mk' κ (vs.toArray.zip vs.toArray) #[] 7 none) (Q:=λ_ st'=>arrOf st'=vs.toArray.zip vs.toArray/\failedOf st'=none) ?_ rfl (by omega) hz ?_ ?_) ?_ λ_ _ e=>e)
  ·show (vs.toArray.zip vs.toArray).size=_
   rw[Array.size_zip,hsz,Wdy]
  ·intro i h1 hi Q hq
   have g:∀j,j<vs.length->(arrOf (SortSt.mk' κ (vs.toArray.zip vs.toArray) #[] 7 none))[j]?=some (vs.getD j .none,vs.getD j .none):=λj hj=>by
    show (vs.toArray.zip vs.toArray)[j]?=_;rw[<- Array.getElem?_toList,Array.toList_zip];show (vs.zip vs)[j]?=_;rw[Wbj,Wae,Waa hj];exact⟨rfl,rfl⟩
   rw[ltAt'_eq];refine wpS_bind (wpS_get ?_);show wpS _ _ _ _ (do let x ← elem' (arrOf (SortSt.mk' κ (vs.toArray.zip vs.toArray) #[] 7 none)) i;let y ← elem' (arrOf (SortSt.mk' κ (vs.toArray.zip vs.toArray) #[] 7 none)) (i-1);lt' x y) Q _;rw[elem'_eq,elem'_eq,g i hi,g (i-1) (by omega)];refine wpS_bind (wpS_pure (wpS_bind (wpS_pure ?_)));rw[lt'_eq];refine wpS_bind (wpS_get ?_);refine wpS_bind (wpS_lift (wpAny_attempt (hc _ keep i h1 hi _ _ ⟨rfl,?_⟩)));exact wpS_pure hq
  ·exact λst' a1 a2=>⟨a1,a2⟩
  rintro⟨⟨⟩,st'⟩ s' ⟨rfl,har,hf⟩;dsimp only;refine wpAny_bind (seqEpoch_at ho6 rfl ?_);rw[har,out];refine wpAny_bind (listUpdate_at ho6 rfl ?_ (Wbl _) (by rw[hsz];exact Wd2 hline));rw[hf];simp only[bne_self_eq_false,Wao,if_false];exact wpAny_pure h
theorem Zgx {l:Addr}{vs:List Value}{κ:SortKind}{Q:Value->Shared->Prop}(hl:s.heap.IsList l vs.toArray) (hz:vs.length<200)
  (hk:2<=vs.length->∀h',(∀b o,s.heap.get? b=some o->h'.get? b=some o)->∀(E:Value->Shared->Prop) (Q:SortKind->Shared->Prop),Q κ { s with heap:=h' } -> wpAny (model prog w) A.in1.in1 (keyKind' vs.toArray) Q E { s with heap:=h' })
  (hc:∀h',(∀b o,s.heap.get? b=some o->h'.get? b=some o)->∀i,1<=i->i<vs.length->∀(E:Value->Shared->Prop) (Q:Bool->Shared->Prop),Q false { s with heap:=h' } -> wpAny (model prog w) A.in1.in1 (keyLt' κ (vs.getD i .none) (vs.getD (i-1) .none)) Q E { s with heap:=h' })
  (h:Q (.ref (s.heap.objs.size+1)) { s with heap:=sortedAll s.heap vs vs.toArray }):wpAny (model prog w) A (call (.builtin "sorted") [.ref l]) Q E s:=by
 have hline:vs.length<=sizeLine:=by rw[sizeLine_eq];omega
 refine Calls.call_function_entry kind_sorted plain_sorted entry_sorted (args_sorted1 _) ?_;unfold Builtin.«sorted»;refine wpAny_bind (m:=checkCount "sorted" 1 1 _) (wpAny_pure ?_);refine wpAny_bind (collect_list hl ?_ hline);refine wpAny_bind (wpAny_newList ?_ hline);have hsz:((s.heap.push (seqObj "list" #[] 0)).update s.heap.objs.size (Obj.mapSeq (· ++ vs.toArray))).objs.size=s.heap.objs.size+1:=by
  rw[Wc8,size_push']
 have hoL:(((s.heap.push (seqObj "list" #[] 0)).update s.heap.objs.size (Obj.mapSeq (· ++ vs.toArray))).push (seqObj "list" vs.toArray 0)).get? (s.heap.objs.size+1)=some (seqObj "list" vs.toArray 0):=by
  rw[<- hsz];exact Wam _ rfl
 have keep:∀b o,s.heap.get? b=some o->(((s.heap.push (seqObj "list" #[] 0)).update s.heap.objs.size (Obj.mapSeq (· ++ vs.toArray))).push (seqObj "list" vs.toArray 0)).get? b=some o:=λb o q=>by
  have hlt:b<s.heap.objs.size:=War q;rw[Wcf _ _ _ (by rw[hsz];exact Wav (Wbn hlt)),Wdt _ _ _ _ (Wav hlt),Wcf _ _ _ (Wav hlt)];exact q
 have up:∀h',KeepBut (s.heap.objs.size+1) (((s.heap.push (seqObj "list" #[] 0)).update s.heap.objs.size (Obj.mapSeq (· ++ vs.toArray))).push (seqObj "list" vs.toArray 0)) h' -> ∀b o,s.heap.get? b=some o->h'.get? b=some o:=λh' k b o q=>
  k b o (Wav (Wbn (War q))) (keep b o q)
 show wpAny _ _ _ _ _ { s with heap:=((s.heap.push (seqObj "list" #[] 0)).update s.heap.objs.size (Obj.mapSeq (· ++ vs.toArray))).push (seqObj "list" vs.toArray 0) };rw[hsz];refine wpAny_bind (wpAny_holding (wpAny_call_entry slot_list_sort ⟨_,hoL,rfl⟩ entry_list_sort (Zic (κ:=κ) hoL hz (λh2 h' k Q q=>hk h2 h' (up h' k) _ Q q) (λh' k i h1 hi E Q q=>hc h' (up h' k) i h1 hi E Q q) ⟨_,rfl,?_⟩) (args_list_sort _)));exact wpAny_pure ⟨_,rfl,h⟩
end
def RowAt (h:Heap) (v:Value) (r:List Int):Prop:=∃(a:Addr) (its:List Value),v=.ref a/\IsTup h a its.toArray/\IntsAre its r
theorem RowAt.keep {h h':Heap}{v:Value}{r:List Int}(x:RowAt h v r) (k:∀b o,h.get? b=some o->h'.get? b=some o):RowAt h' v r:=by
 obtain⟨a,its,e,⟨o,ho,hc⟩,i⟩:=x;exact⟨a,its,e,⟨o,k a o ho,hc⟩,i⟩
theorem Zfi {its:List Value}{x:Int}{r:List Int}(h:IntsAre its (x::r)):∃t us,its=.int x t::us/\IntsAre us r:=by
 cases its with
 |nil=>have:=h.length;simp at this
 |cons v us=>
  cases h with
  |cons _ _ b=>exact⟨_,_,rfl,b⟩
theorem Zj6 {its:List Value}(h:IntsAre its []):its=[]:=by
 cases its with
 |nil=>rfl
 |cons v us=>have:=h.length;simp at this
section
variable {prog:Program}{w:World}{A:Around}{E:Value->Shared->Prop}{s:Shared}
theorem Zed:∀(vs:List Value) (rs:List (List Int)) {Q:List (Option Value)->Shared->Prop},Paired (RowAt s.heap) vs rs →
  (∀fs:List (Option Value),Paired (λ(f:Option Value) (r:List Int)=>(r=[]/\f=none)\/∃x t l,r=x::l/\f=some (.int x t)) fs rs->Q fs s)->wpAny (model prog w) A (vs.mapM firstOfTuple') Q E s
 |[],[],_,_,h=>by rw[List.mapM_nil];exact wpAny_pure (h [] .nil)
 |v::vs,r::rs,Q,.cons p t,h=>by
  obtain⟨a,its,rfl,⟨o,ho,hc,n,hd⟩,hi⟩:=p;rw[List.mapM_cons];refine wpAny_bind ?_;rw[PySem.W.kas_first_eq];refine wpAny_bind (PySem.W.Looks.here (show PySem.W.Looks (model prog w) s.heap (typeOf (.ref a)) o.cls from (PySem.W.Looks.ld ho).andThen .now) ?_);rw[hc,if_neg (by first|decide|simp)];refine wpAny_bind (listItems_at ho hd (wpAny_pure ?_));refine wpAny_bind (Zed vs rs (Q:=λbs s'=>wpAny _ A (pure (its.toArray[0]?::bs)) Q E s') t λfs pf=>wpAny_pure (h _ (.cons ?_ pf)));cases r with
  |nil=>rw[Zj6 hi];exact .inl ⟨rfl,rfl⟩
  |cons x l=>
   obtain⟨t,us,rfl,_⟩:=Zfi hi;exact .inr ⟨x,t,l,rfl,by simp⟩
theorem Zmt {vs:List Value}{rs:List (List Int)}(p:Paired (RowAt s.heap) vs rs):∀v∈vs,PySem.W.Looks (model prog w) s.heap (typeOf v) (.type "tuple"):=by
 intro v hv
 induction p with
 |nil=>cases hv
 |cons q t ih=>
  rcases Wal.mp hv with e|hv
  ·subst e
   obtain⟨a,its,rfl,⟨o,ho,hc,_⟩,_⟩:=q;have z:PySem.W.Looks (model prog w) s.heap (typeOf (.ref a)) o.cls:=(PySem.W.Looks.ld ho).andThen .now;rw[hc]at z;exact z
  ·exact ih hv
theorem Zlt {vs:List Value}{rs:List (List Int)}{Q:SortKind->Shared->Prop}(p:Paired (RowAt s.heap) vs ([]::rs)) (h:Q oneType' s):wpAny (model prog w) A (keyKind' vs.toArray) Q E s:=by
 have hT:=Zmt (prog:=prog) (w:=w) p;rw[keyKind'_eq,Wdg,map_eq_pure_bind];refine wpAny_bind (wpAny_bind (Zed vs _ p λfs pf=>wpAny_pure ?_));cases pf with
 |@cons f _ fs _ hf _=>
  have hf:f=none:=by
   rcases hf with z|⟨x,t,l,z,_⟩
   ·exact z.2
   ·cases z
  subst hf;rw[if_neg (by simp),if_neg (by simp)];rw[oneTypeOnly'_eq,Wdg,map_eq_pure_bind];refine wpAny_bind (wpAny_bind (wpAny_bind (PySem.W.kas_mapM (r:=.type "tuple") _ (λv hv Q' hq=>(hT v hv).here hq) (wpAny_pure ?_))));cases p with
  |@cons v _ vs _ _ _=>
   have hall:((Wbm (λ_=>Value.type "tuple") (v::vs)).toArray.all λx=>x == Value.type "tuple")=true:=by
    simp only[Wes,Wen,Wbp];intro _ _;exact(by decide:(Value.type "tuple" == Value.type "tuple")=true)
   have h0:(Wbm (λ_=>Value.type "tuple") (v::vs)).toArray[0]?=some (Value.type "tuple"):=by simp
   rw[h0];simp only[hall,if_true];exact wpAny_pure (wpAny_pure h)
theorem Zmr {vs:List Value}{rs:List (List Int)}{Q:SortKind->Shared->Prop}(p:Paired (RowAt s.heap) vs rs) (hne:∀r∈rs,r≠[]) (h1:rs≠[]) (h:Q (tuples' true) s):wpAny (model prog w) A (keyKind' vs.toArray) Q E s:=by
 have ex:∃fs:List Value,PySem.W.KatTups s.heap vs fs/\fs.length=rs.length/\∀v∈fs,PySem.W.Looks (model prog w) s.heap (typeOf v) (.type "int"):=by
  clear h h1
  induction p with
  |nil=>exact⟨[],trivial,rfl,λ_ h=>nomatch h⟩
  |@cons v r vs rs q t ih=>
   obtain⟨fs,k1,k2,k3⟩:=ih λr hr=>hne r (Was _ hr);obtain⟨a,its,rfl,⟨o,ho,hc,n,hd⟩,hi⟩:=q;cases r with
   |nil=>exact absurd rfl (hne [] Wa4)
   |cons x l=>
    obtain⟨tk,us,rfl,_⟩:=Zfi hi;refine⟨.int x tk::fs,.cons ho hc hd (by simp) k1,by rw[Waj,Waj,k2],λv hv=>?_⟩;rcases Wal.mp hv with e|hv
    ·subst e;exact .now
    ·exact k3 v hv
 obtain⟨fs,k1,k2,k3⟩:=ex;have hpos:0<rs.length:=Wds.mpr h1;exact PySem.W.kat_kind k1 (by omega) k3 (by decide) h
end
section
variable {X:Cx}
def rInU (K:W.Frag) (neg:Bool):R2:=λx y H Q=>rIn K neg x y H Q\/(∃a o,y=.ref a/\DGet H a x o/\Q (.bl (if neg then !o.isSome else o.isSome)) H) ∨
 ∃a S n i,y=.ref a/\x=.int i/\H a=some (.set S n)/\Q (.bl (if neg then !S i else S i)) H
theorem notinK (K:W.Frag) (hu:X.A.units+1<cLine) (hK:X.K=K:=by rfl):OpR X (compareOp .NotIn) (rInU K true):=by
 subst hK;intro pins s σ H x y v u Q I rx ry h;rcases h with h|⟨a,o,rfl,hd,q⟩|⟨a,S,n,i,rfl,rfl,hs,q⟩
 ·exact Zis pins s σ H x y v u Q I rx ry h
 ·cases ry
  exact Zue hu I hd rx λs' I'=>⟨.bl _,H,I',rfl,q⟩
 ·cases ry
  obtain⟨t,rfl⟩:=rx;exact wpAny_notInSet_of (knd:=intKind X.prog X.w) (k:=i) (by simp[intKind,Value.isInt]) rfl (I.hok a _ hs) ⟨.bl _,H,I.tok _,rfl,q⟩
def rSet0:List V->Hp->VK->Prop:=λxs H Q=>xs=[]/\∀p,H p=none->Q (.ref p) (upd H p (.set (λ_=>false) 0))
theorem Zok:CallR X (.type "set") rSet0:=by
 intro pins s σ H xs us Q I r h;obtain⟨rfl,q⟩:=h;cases r;refine call_set_0 λled=>⟨.ref s.heap.objs.size,_,I.laid (t':=s.toks) (λ_ _ z=>Wac _ z) (Wah _) ?_,rfl,q _ (I.hok.fresh (Wah _))⟩;exact(setObjOf_fresh (knd:=intKind X.prog X.w) led).setOf (Wam _ rfl) (by decide)
def rSAdd:V->List V->Hp->VK->Prop:=λx vs H Q=>∃a S n i,x=.ref a/\vs=[.int i]/\H a=some (.set S n)/\n+1<4096/\Q .non (upd H a (.set (λk=>S k || decide (k=i)) (if S i then n else n+1)))
theorem Zsn:MtM X "set.add" rSAdd:=by
 intro pins s σ H x vs v us Q I rx rv h;obtain⟨a,S,n,i,rfl,rfl,hs,hn,q⟩:=h;cases rx;obtain⟨u,rfl,ru⟩:=rv.one;obtain⟨t,rfl⟩:=ru;have hS:s.heap.SetOf (intKind X.prog X.w) a S n:=I.hok a _ hs;refine call_set_add (knd:=intKind X.prog X.w) (k:=i) (by simp[intKind,Value.isInt]) rfl hS hn λh' sb hS'=>?_;refine⟨.non,_,Zif I (by rw[hs];trivial) sb ?_ ?_,rfl,q⟩
 ·obtain⟨o,_,_,_,ho,_⟩:=hS';exact⟨o,ho⟩
 ·exact hS'
def rIndexL (K:W.Frag):V->List V->Hp->VK->Prop:=λx vs H Q=>∃(a:Addr) (ns:List Int) (i:Int),x=.ref a/\vs=[.int i]/\SqL K H a (ns.map V.int)/\ns.length<=1000/\i∈ns/\Q (.int (ns.idxOf i:Nat)) H
theorem idxLK (K:W.Frag) (hK:X.K=K:=by rfl):MtM X "list.index" (rIndexL K):=by
 subst hK;intro pins s σ H x vs v us Q I rx rv h;obtain⟨a,ns,i,rfl,rfl,hx,hl,hm,q⟩:=h;cases rx;obtain⟨u,rfl,ru⟩:=rv.one;obtain⟨t,rfl⟩:=ru;obtain⟨its,r,pl,hz⟩:=I.list hx;have hi:=Zdu r;have hlen:=hi.length;obtain⟨⟨cls,dd,data,sl⟩,ho,hc,n,hd⟩:=pl.isList;simp only at hc hd;subst hc hd;have hj:ns.idxOf i<ns.length:=List.idxOf_lt_length_iff.mpr hm;refine call_meets PySem.F.slot_list_index ⟨_,ho,rfl⟩ PySem.F.entry_list_index (PySem.F.args_list_index_2 _ _)
  (list_indexAt a its.toArray n dd sl (.int i t) (isInt i) (ns.idxOf i) (by simpa [hlen] using hj) (by omega) ?_ ?_) ⟨ho,λy hy=>(eq_isInt i t hi y (by simpa using hy)).at _ _,⟨.int _,H,I.tok _,⟨_,rfl⟩,q⟩⟩
 ·show isInt i its[ns.idxOf i]=true
  rw[isInt_at i hi _ (by omega) hj];simpa using List.getElem_idxOf hj
 ·intro j hjs hlt
  show isInt i its[j]=false;rw[isInt_at i hi j (by simpa using hjs) (by omega)];exact ne_of_lt_idxOf hlt _
theorem Zj9 {pins:List (Addr × Obj)}{σ:St}{H:Hp}{s:Shared}(I:Inv X pins σ H s):∀{us:List V}{its:List Value}{rs:List (List Int)},Vals us its->Paired (λ(u:V) (r:List Int)=>∃a,u=.ref a/\SqT X.K H a (r.map V.int)) us rs->Paired (RowAt s.heap) its rs
 |_,_,_,.nil,.nil=>.nil
 |_,_,_,.cons r t,.cons p q=>by
  obtain⟨a,rfl,hs⟩:=p;cases r;obtain⟨its,r',pl,_⟩:=I.tuple hs;exact .cons ⟨a,its,rfl,pl,Zdu r'⟩ (Zj9 I t q)
theorem Paired.len {R:Value->List Int->Prop}:∀{vs:List Value}{rs:List (List Int)},Paired R vs rs->vs.length=rs.length
 |_,_,.nil=>rfl
 |_,_,.cons _ t=>by rw[Waj,Waj,Paired.len t]
theorem Paired.up {R R':Value->List Int->Prop}(f:∀v r,R v r->R' v r):∀{vs:List Value}{rs:List (List Int)},Paired R vs rs->Paired R' vs rs
 |_,_,.nil=>.nil
 |_,_,.cons p t=>.cons (f _ _ p) (Paired.up f t)
end
section
variable {K:W.Frag}{Δ:Evt}{P:D->Evt->Prop}
theorem Zi9 {G:Hp}{k:Key}:∀{kvs:List (Key × V)}{kds:List (Key × D)},Paired (λ(p:Key × V) (q:Key × D)=>p.1=q.1/\Rep K G p.2 q.2) kvs kds->(valV kvs k).isSome=(valD kds k).isSome
 |_,_,.nil=>rfl
 | (k1,v1)::kvs,(k2,d2)::kds,.cons ⟨e,r⟩ t=>by
  have e:k1=k2:=e;subst e;have ih:=Zi9 (k:=k) t;unfold valV valD at ih ⊢;by_cases h:k1=k
  ·rw[Wdf (by simpa using h),Wdf (by simpa using h)];rfl
  ·rw[Wch (by simpa using h),Wch (by simpa using h)];exact ih
theorem Zvb {neg:Bool}{n:Nat}{ta:TE}(h:JE K ta Δ λd Δ1=>∃x kvs i,Δ1[n]?=some x/\x.od=some (.dct kvs)/\d=.int i/\P (.bl (if neg then !(valD kvs (.inl i)).isSome else (valD kvs (.inl i)).isSome)) Δ1):JE K (tOp (rInU K neg) ta (tVar n)) Δ P:=λg G H σ Q k c=>
 h g G H σ _ k λv d G1 H1 Δ1 k1 s1 r1 hq_=>by
  obtain⟨x,kvs,i,q1,q2,q3,p⟩:=hq_;subst q3;cases r1.inv;obtain⟨a,o,w1,w2,w3,w4,w5⟩:=k1.own n x _ q1 q2;cases o with
  |dK vs=>
   refine⟨.ref a,w1,.inr (.inl ⟨a,_,rfl,DGet.k (k:=Sum.inl i) w2,?_⟩)⟩;rw[Zi9 (K:=K) (G:=G1) w3];exact c _ _ G1 H1 Δ1 k1 s1 (.bl _) p
  |_=>exact absurd w3 (λz=>z)
theorem Zvq {neg:Bool}{n:Nat}{ta:TE}(h:JE K ta Δ λd Δ1=>∃x S m i,Δ1[n]?=some x/\x.od=some (.set S m)/\d=.int i/\P (.bl (if neg then !S i else S i)) Δ1):JE K (tOp (rInU K neg) ta (tVar n)) Δ P:=λg G H σ Q k c=>
 h g G H σ _ k λv d G1 H1 Δ1 k1 s1 r1 hq_=>by
  obtain⟨x,S,m,i,q1,q2,q3,p⟩:=hq_;subst q3;cases r1.inv;obtain⟨a,o,w1,w2,w3,w4,w5⟩:=k1.own n x _ q1 q2;cases o with
  |set S' m'=>
   obtain⟨e1,e2⟩:S'=S/\m'=m:=w3;subst e1 e2;exact⟨.ref a,w1,.inr (.inr ⟨a,S',m',i,rfl,rfl,w2,c _ _ G1 H1 Δ1 k1 s1 (.bl _) p⟩)⟩
  |_=>exact absurd w3 (λz=>z)
theorem Zto {Po:OD->Evt->Prop}(p:Po (.set (λ_=>false) 0) Δ):JO K (tCB rSet0 tNil) Δ Po:=λg G H σ Q k c=>by
 refine⟨rfl,λl hl=>?_⟩;obtain⟨k2,pd⟩:=k.fresh (od:=.set (λ_=>false) 0) hl (show OwnRep K G (.set (λ_=>false) 0) (.set (λ_=>false) 0) from ⟨rfl,rfl⟩);exact c l _ G _ Δ k2 (Same.refl _) pd p
theorem Zt4 {n:Nat}{te:TE}{x:Slot}{S0:Int->Bool}{n0:Nat}{nx bk ct:Evt->Prop}{rt:D->Evt->Prop}{ro:OD->Evt->Prop}(hx:Δ[n]?=some x) (ho:x.od=some (.set S0 n0))
  (h:JE K te Δ λd Δ1=>∃y S m i,Δ1[n]?=some y/\y.od=some (.set S m)/\d=.int i/\m+1<4096/\nx (Δ1.set n (y.put (.set (λk=>S k || decide (k=i)) (if S i then m else m+1))))) :
  JS K (tDrop (tBM K "set" rSAdd (tVar n) (tCons te tNil))) Δ ⟨nx,rt,bk,ct,ro⟩:=λg G H σ E k c=>by
 obtain⟨a,o,h1,h2,h3,h4,h5⟩:=k.own n x _ hx ho;cases o with
 |set S1 n1=>
  refine⟨.ref a,h1,.inr (.inr (.inr ⟨rfl,_,_,h2⟩)),h g G H σ _ k λv d G1 H1 Δ1 k1 s1 r1 ⟨y,S,m,i,q1,q2,q3,q4,p⟩=>?_⟩;subst q3;cases r1.inv;obtain⟨a',o',w1,w2,w3,w4,w5⟩:=k1.own n y _ q1 q2;rw[h1]at w1;cases w1;cases o' with
  |set S' m'=>
   obtain⟨e1,e2⟩:S'=S/\m'=m:=w3;subst e1 e2;exact⟨a,S',m',i,rfl,rfl,w2,q4,c.nx σ G1 _ _ (k1.write q1 q2 h1 (show OwnRep K G1 (.set _ _) (.set _ _) from ⟨rfl,rfl⟩)) p⟩
  |_=>exact absurd w3 (λz=>z)
 |_=>exact absurd h3 (λz=>z)
theorem Zm2 {to te:TE}(h:JE K to Δ λd Δ1=>∃ns:List Int,d=.lst (ns.map D.int)/\ns.length<=1000/\JE K te Δ1 λe Δ2=>∃i,e=.int i/\i∈ns/\P (.int (ns.idxOf i:Nat)) Δ2) :
  JE K (tBM K "list" (rIndexL K) to (tCons te tNil)) Δ P:=λg G H σ Q k c=>
 h g G H σ _ k λv d G1 H1 Δ1 k1 s1 r1 hq_=>by
  obtain⟨ns,e,hl,p1⟩:=hq_;subst e;obtain⟨a,vs,rfl,ha,rs⟩:=r1.inv
  next=>
   refine⟨.inl ⟨rfl,_,SqL.of (k1.live _ _ ha)⟩,p1 g G1 H1 σ _ k1 λu e G2 H2 Δ2 k2 s2 r2 ⟨i,q1,q2,p⟩=>?_⟩;subst q1;cases r2.inv;have ev:vs=ns.map V.int:=rs.ints;subst ev;exact⟨a,ns,i,rfl,rfl,SqL.of (k2.live _ _ (s2 _ _ ha)),hl,q2,c _ _ G2 H2 Δ2 k2 (s1.trans s2) (.int _) p⟩
def rowD (r:List Int):D:=.tup (r.map D.int)
theorem Zkq {G H:Hp}(l:Same G H):∀{vs:List V}{rs:List (List Int)},Reps K G vs (rs.map rowD)->Paired (λ(u:V) (r:List Int)=>∃a,u=.ref a/\SqT K H a (r.map V.int)) vs rs
 |[],[],_=>.nil
 |[],_::_,h=>by cases h
 |_::_,[],h=>by cases h
 |v::vs,r::rs,h=>by
  cases h with
  |cons r1 t=>
   obtain⟨a,us,rfl,ha,rr⟩:=r1.inv
   next=>
    have ev:=rr.ints;subst ev;exact .cons ⟨a,rfl,SqT.of (l _ _ ha)⟩ (Zkq l t)
end
theorem Zim {A:Around}{k:Nat}(hr:Room k A):A.units+8<cLine:=Wca (Nat.add_le_add_left (by decide:8<=64) _) hr.units
open PySem PySem.Spec PyProof.Rows PySem.SeqAt
def flatD:D->Option V
 |.non=>some .non
 |.bl b=>some (.bl b)
 |.int i=>some (.int i)
 |.str x=>some (.str x)
 |_=>none
def eqFlat (d e:D):Bool:=match flatD d,flatD e with
 |some x,some y=>eqV x y
 |_,_=>false
def eqF:Nat->D->D->Bool
 |0,_,_=>false
 |n+1,.tup xs,.tup ys=>xs.length == ys.length && (xs.zip ys).all λp=>eqF n p.1 p.2
 |n+1,.lst xs,.lst ys=>xs.length == ys.length && (xs.zip ys).all λp=>eqF n p.1 p.2
 |_+1,d,e=>eqFlat d e
def Dp:Nat->D->Prop
 |0,_=>False
 |_+1,.int _=>True
 |n+1,.tup xs=>∀d∈xs,Dp n d
 |n+1,.lst xs=>∀d∈xs,Dp n d
 |_,_=>False
theorem Rep.uniq {K:W.Frag}{G:Hp}:∀(n:Nat) {v:V}{d e:D},Rep K G v d->Rep K G v e->Dp n d->Dp n e->d=e
 |0,_,_,_,_,_,h,_=>h.elim
 |n+1,v,d,e,hd,he,pd,pe=>by
  have all:∀{vs:List V}{xs ys:List D},Reps K G vs xs->Reps K G vs ys->(∀d∈xs,Dp n d)->(∀d∈ys,Dp n d)->xs=ys:=by
   intro vs
   induction vs with
   |nil=>intro xs ys h1 h2 _ _;cases h1;cases h2;rfl
   |cons v vs ih=>
    intro xs ys h1 h2 p1 p2;cases h1 with
    |cons a1 b1=>
     cases h2 with
     |cons a2 b2=>
      rw[Rep.uniq n a1 a2 (p1 _ Wa4) (p2 _ Wa4),ih b1 b2 (λd hd=>p1 d (Was _ hd)) λd hd=>p2 d (Was _ hd)]
  cases d with
  |int i=>cases hd;cases he;rfl
  |tup xs=>
   cases hd with
   |tup ha ra=>
    cases e with
    |tup ys=>cases he with|tup hb rb=>rw[ha]at hb;cases hb;rw[all ra rb pd pe]
    |lst ys=>cases he with|lst hb rb=>rw[ha]at hb;cases hb
    |int i=>cases he
    |_=>exact pe.elim
  |lst xs=>
   cases hd with
   |lst ha ra=>
    cases e with
    |lst ys=>cases he with|lst hb rb=>rw[ha]at hb;cases hb;rw[all ra rb pd pe]
    |tup ys=>cases he with|tup hb rb=>rw[ha]at hb;cases hb
    |int i=>cases he
    |_=>exact pe.elim
  |_=>exact pd.elim
theorem Zh6:∀(n:Nat) (d:D),Dp n d->eqF n d d=true
 |0,_,h=>h.elim
 |n+1,.int i,_=>by show (i == i)=true;simp
 |n+1,.tup xs,h=>by
  show (xs.length == xs.length && (xs.zip xs).all λp=>eqF n p.1 p.2)=true;rw[beq_self_eq_true,Wcu,Wbp];intro p hp;obtain⟨i,hi⟩:=Wbv.mp hp;rw[Wbj]at hi;have e:p.1=p.2:=Wbh.inj (hi.1.symm.trans hi.2);rw[<- e];exact Zh6 n _ (h _ (Wat hi.1))
 |n+1,.lst xs,h=>by
  show (xs.length == xs.length && (xs.zip xs).all λp=>eqF n p.1 p.2)=true;rw[beq_self_eq_true,Wcu,Wbp];intro p hp;obtain⟨i,hi⟩:=Wbv.mp hp;rw[Wbj]at hi;have e:p.1=p.2:=Wbh.inj (hi.1.symm.trans hi.2);rw[<- e];exact Zh6 n _ (h _ (Wat hi.1))
 |_+1,.non,h=>h.elim
 |_+1,.bl _,h=>h.elim
 |_+1,.str _,h=>h.elim
 |_+1,.ty _,h=>h.elim
 |_+1,.scr _,h=>h.elim
 |_+1,.adr _,h=>h.elim
 |_+1,.dct _ _,h=>h.elim
 |_+1,.exc _ _,h=>h.elim
def atZip (n:Nat) (xs ys:List D) (j:Nat):Bool:=match xs[j]?,ys[j]? with
 |some a,some b=>eqF n a b
 |_,_=>false
theorem Zhi (n:Nat):∀(xs ys:List D),(Wai (min xs.length ys.length)).all (atZip n xs ys)=(xs.zip ys).all λp=>eqF n p.1 p.2
 |[],ys=>by simp
 |_::_,[]=>by simp
 |x::xs,y::ys=>by
  rw[Waj,Waj,Nat.succ_min_succ,List.range_succ_eq_map,Weh,Wen,Wcj,Weh,<- Zhi n xs ys];rfl
section
variable {X:Cx}
theorem Zsk:∀(n:Nat) {A:Around}{pins:List (Addr × Obj)}{σ:St}{H G:Hp}{s:Shared}{x y:V}{v u:Value}{d e:D},Inv X pins σ H s->Same G H->Rep X.K G x d->Rep X.K G y e->RelV x v->RelV y u->Dp n d->Dp n e->A.units+n<cLine →
  EqAt A s v u (eqF n d e)/\(∀a b,v=.ref a->u=.ref b->RcAt A s v u (eqF n d e))
 |0,_,_,_,_,_,_,_,_,_,_,_,_,_,_,_,_,_,_,h,_,_=>h.elim
 |n+1,A,pins,σ,H,G,s,x,y,v,u,d,e,I,sg,rx,ry,rv,ru,pd,pe,hu=>by
  have hu0:A.units<cLine:=by omega
  have hu1:A.in1.units+n<cLine:=by show A.units+1+n<cLine;omega
  have items:∀{vs us:List V}{its its2:List Value}{xs ys:List D},Vals vs its->Vals us its2->Reps X.K G vs xs->Reps X.K G us ys->(∀d∈xs,Dp n d)->(∀d∈ys,Dp n d) →
    ∀j (h1:j<its.toArray.size) (h2:j<its2.toArray.size),EqAt A.in1 s its.toArray[j] its2.toArray[j] (atZip n xs ys j):=by
   intro vs us its its2 xs ys w1 w2 r1 r2 p1 p2 j h1 h2;have l1:=w1.length;have l2:=r1.length;have l3:=w2.length;have l4:=r2.length;have h1':j<its.length:=by simpa using h1
   have h2':j<its2.length:=by simpa using h2
   have hx:j<xs.length:=by omega
   have hy:j<ys.length:=by omega
   obtain⟨a,ha1,ha2⟩:=r1.get (Waa hx);obtain⟨b,hb1,hb2⟩:=r2.get (Waa hy);obtain⟨va,hv1,hv2⟩:=w1.get ha1;obtain⟨vb,hw1,hw2⟩:=w2.get hb1;have e1:its.toArray[j]=va:=by
    rw[Waa h1']at hv1;simpa using Wbh.inj hv1
   have e2:its2.toArray[j]=vb:=by
    rw[Waa h2']at hw1;simpa using Wbh.inj hw1
   have e3:atZip n xs ys j=eqF n xs[j] ys[j]:=by unfold atZip;rw[Waa hx,Waa hy]
   rw[e1,e2,e3];exact(Zsk n I sg ha2 hb2 hv2 hw2 (p1 _ (Wa5 hx)) (p2 _ (Wa5 hy)) hu1).1
  have same:∀a,v=.ref a->u=.ref a->eqF (n+1) d e=true:=λa h1 h2=>by
   have hx:x=.ref a:=by cases x <;> simp[RelV,h1]at rv <;> first|(rw[rv])|skip
   have hy:y=.ref a:=by cases y <;> simp[RelV,h2]at ru <;> first|(rw[ru])|skip
   rw[hx]at rx;rw[hy]at ry;rw[Rep.uniq (n+1) rx ry pd pe];exact Zh6 (n+1) e pe
  have lift:(∃a,v=.ref a)->(∃b,u=.ref b)->(∀a b,v=.ref a->u=.ref b->RcAt A s v u (eqF (n+1) d e))->EqAt A s v u (eqF (n+1) d e)/\(∀a b,v=.ref a->u=.ref b->RcAt A s v u (eqF (n+1) d e)):=by
   rintro⟨a,rfl⟩ ⟨b,rfl⟩ h;refine⟨?_,h⟩;by_cases hab:a=b
   ·subst hab
    rw[same a rfl rfl];exact EqAt.same _
   ·exact .of_refs hab (h a b rfl rfl)
  cases d with
  |int i=>
   cases rx;obtain⟨t,rfl⟩:=rv;refine⟨?_,λa b z=>nomatch z⟩;cases e with
   |int j=>
    cases ry;obtain⟨t',rfl⟩:=ru;exact EqAt.int_int i t j t'
   |tup ys=>
    cases ry with
    |tup hb rb=>
     cases ru;obtain⟨its,w1,pl,_⟩:=I.tuple (SqT.of (sg _ _ hb));exact EqAt.int_tuple i t pl hu0
   |lst ys=>
    cases ry with
    |lst hb rb=>
     cases ru;obtain⟨its,w1,pl,_⟩:=I.list (SqL.of (sg _ _ hb));exact EqAt.int_list i t pl.isList hu0
   |_=>exact pe.elim
  |tup xs=>
   cases rx with
   |@tup a vs _ ha ra=>
    cases rv;obtain⟨its,w1,pl,_⟩:=I.tuple (SqT.of (sg _ _ ha));cases e with
    |int j=>
     cases ry;obtain⟨t',rfl⟩:=ru;exact⟨EqAt.tuple_int j t' pl hu0,λa b _ z=>nomatch z⟩
    |tup ys=>
     cases ry with
     |@tup b us _ hb rb=>
      cases ru;obtain⟨its2,w2,pl2,_⟩:=I.tuple (SqT.of (sg _ _ hb));refine lift ⟨_,rfl⟩ ⟨_,rfl⟩ λ_ _ _ _=>?_;have z:=RcAt.tuples (A:=A) (s:=s) pl pl2 hu0 (items w1 w2 ra rb pd pe);have e1:((Wai (min its.toArray.size its2.toArray.size)).all (atZip n xs ys) && its.toArray.size == its2.toArray.size)=eqF (n+1) (.tup xs) (.tup ys):=by
       show _=(xs.length == ys.length && (xs.zip ys).all λp=>eqF n p.1 p.2);rw[<- Zhi,Wak,Wak,<- w1.length,<- w2.length,ra.length,rb.length,Wej]
      rw[e1]at z;exact z
    |lst ys=>
     cases ry with
     |@lst b us _ hb rb=>
      cases ru;obtain⟨its2,w2,pl2,_⟩:=I.list (SqL.of (sg _ _ hb));exact⟨EqAt.tuple_list pl pl2.isList hu0,λ_ _ _ _=>RcAt.tuple_list pl pl2.isList hu0⟩
    |_=>exact pe.elim
  |lst xs=>
   cases rx with
   |@lst a vs _ ha ra=>
    cases rv;obtain⟨its,w1,pl,_⟩:=I.list (SqL.of (sg _ _ ha));cases e with
    |int j=>
     cases ry;obtain⟨t',rfl⟩:=ru;exact⟨EqAt.list_int j t' pl.isList hu0,λa b _ z=>nomatch z⟩
    |tup ys=>
     cases ry with
     |@tup b us _ hb rb=>
      cases ru;obtain⟨its2,w2,pl2,_⟩:=I.tuple (SqT.of (sg _ _ hb));exact⟨EqAt.list_tuple pl.isList pl2 hu0,λ_ _ _ _=>RcAt.list_tuple pl.isList pl2 hu0⟩
    |lst ys=>
     cases ry with
     |@lst b us _ hb rb=>
      cases ru;obtain⟨its2,w2,pl2,_⟩:=I.list (SqL.of (sg _ _ hb));refine lift ⟨_,rfl⟩ ⟨_,rfl⟩ λ_ _ _ _=>?_;have l1:=w1.length;have l2:=w2.length;have l3:=ra.length;have l4:=rb.length;by_cases hl:xs.length=ys.length
      ·have hsz:its.toArray.size=its2.toArray.size:=by rw[Wak,Wak];omega
       have z:=RcAt.lists (A:=A) (s:=s) pl.isList pl2.isList hsz hu0 (items w1 w2 ra rb pd pe);have e1:(Wai its.toArray.size).all (atZip n xs ys)=eqF (n+1) (.lst xs) (.lst ys):=by
        show _=(xs.length == ys.length && (xs.zip ys).all λp=>eqF n p.1 p.2);rw[<- Zhi,Wak,hl,beq_self_eq_true,Wcu,Wdy,show its.length=ys.length by omega]
       rw[e1]at z;exact z
      ·have z:=RcAt.lists_lengths (A:=A) (s:=s) pl.isList pl2.isList (by rw[Wak,Wak];simp;omega) hu0
       have e1:eqF (n+1) (.lst xs) (.lst ys)=false:=by
        show (xs.length == ys.length && (xs.zip ys).all λp=>eqF n p.1 p.2)=false;rw[beq_eq_false_iff_ne.mpr hl,Wcc]
       rw[e1];exact z
    |_=>exact pe.elim
  |_=>exact pd.elim
theorem Zd3:∀{vs:List Value}{ns:List Int},vs.length=ns.length->(∀(i:Nat) v,vs[i]?=some v->∃t,v=.int (ns.getD i 0) t)->IntsAre vs ns
 |[],[],_,_=>.nil
 |[],_::_,h,_=>by simp at h
 |_::_,[],h,_=>by simp at h
 |v::vs,n::ns,h,g=>by
  obtain⟨t,rfl⟩:=g 0 v rfl;exact .cons n t (Zd3 (by simpa using h) λi u e=>by simpa using g (i+1) u (by simpa using e))
def tLR (ta:TA):TE:=λσ H Q=>ta σ H λvs H1=>∃n:Nat,vs=[.int (n:Int)]/\n<=1000/\∀l,H1 l=none->Q (.ref l) (upd H1 l (.lst ((Wai n).map λi:Nat=>V.int (i:Int))))
theorem Zdn {a:Expr}{ta:TA}{p p2 pos pos2:Pos}(hc:X.calm=true) (hgL:Gl X "list") (hmL:X.mg "list" = none) (hgR:Gl X "range") (hmR:X.mg "range" = none) (ha:PA X [a] ta) (hs:starEach [a] X.env=[(false,eval a X.env)]:=by rfl)
  (he:starEach [.Call (.Name "range" p2) [a] [] pos2] X.env=[(false,eval (.Call (.Name "range" p2) [a] [] pos2) X.env)]:=by rfl) :
  PE X (.Call (.Name "list" p) [.Call (.Name "range" p2) [a] [] pos2] [] pos) (tLR ta):=by
 intro pins s σ H Q I h;refine wpAny_Call_Name_kw (Zd7 I hgL hmL Zj4 ?_);refine PyProof.Rows.callWith_type1 ?_ he rfl;rw[he];show wpAny _ _ (spliced ((false,eval (.Call (.Name "range" p2) [a] [] pos2) X.env)::backTo pos [])) _ _ s;refine Calls.spliced_cons ?_;refine Call_ (Zd7 I hgR hmR boot_range (PyProof.Rows.callWith_type1 (thn (ha pos2 pins s σ H _ I h) λus s1 ⟨vs,H1,I1,r1,q1⟩=>?_) hs rfl));obtain⟨n,e,hn,q⟩:=q1;subst e;cases r1 with
 |cons r rr=>
  cases rr;obtain⟨t,rfl⟩:=r;refine call_range_1 (Calls.spliced_nil ?_);have I2:Inv X pins σ H1 { s1 with heap:=s1.heap.push { cls:=.type "range",data:=.fields #[.int 0 s1.toks,.int (n:Int) t,.int 1 (s1.toks+1)] },toks:=s1.toks+1+1 }:=I1.kept λb o e=>Wac _ e;refine call_list_range (a:=0) (b:=(n:Int)) (c:=1) (n:=n) (I1.ok.hd hc) (IsRange.new ..) (small_one (by decide) (by decide) (by omega) (by omega)) (by rw[rangeSize_one];split <;> omega) (by omega) λh' tk acc c' hk hD hI=>?_
  have hl:acc.size=n:=hI.1;refine⟨.ref _,_,I2.laid (t':=tk) hk (Wah _) (show ObjOk X.prog X.w _ h' _ (.lst ((Wai n).map λi:Nat=>V.int (i:Int))) from ⟨?_,acc.toList,c',?_,?_⟩),rfl,q _ (I2.hok.fresh (Wah _))⟩
  ·rw[Wab,Wa7];exact Wcd (small1000 hn)
  ·have:IntsAre acc.toList ((Wai n).map λi:Nat=>(i:Int)):=by
    refine Zd3 (by rw[Array.length_toList,hl,Wab,Wa7]) λi v e=>?_;have hi:i<n:=by
     have:=(Waf.mp e).1;rw[Array.length_toList,hl]at this;exact this
    obtain⟨t',rfl⟩:=hI.2 i v (by rw[<- Array.getElem?_toList];exact e);refine⟨t',?_⟩;rw[Wae,Wad,Wc9 hi];show Value.int (0+(i:Int)*1) t'=Value.int (i:Int) t';rw[Wct,Int.mul_one]
   have:=Zen this;rw[Wa3]at this;exact this
  ·rw[Array.toArray_toList];exact hD
end
section
variable {K:W.Frag}{Δ:Evt}{P:D->Evt->Prop}
theorem Zuo {ta:TA}{Po:OD->Evt->Prop}(h:JA K ta Δ λds Δ1=>∃n:Nat,ds=[.int (n:Int)]/\n<=1000/\Po (.lst ((Wai n).map λi:Nat=>D.int (i:Int))) Δ1):JO K (tLR ta) Δ Po:=λg G H σ Q k c=>
 h g G H σ _ k λvs ds G1 H1 Δ1 k1 s1 r1 hq_=>by
  obtain⟨n,e,hl,p⟩:=hq_;subst e;obtain⟨_,_,rfl,r,t⟩:=r1.inv
  next=>
   cases t.inv;cases r.inv;refine⟨n,rfl,hl,λl hl=>?_⟩;obtain⟨k2,pd⟩:=k1.fresh (od:=.lst ((Wai n).map λi:Nat=>D.int (i:Int))) hl (show OwnRep K G1 (.lst ((Wai n).map λi:Nat=>V.int (i:Int))) (.lst ((Wai n).map λi:Nat=>D.int (i:Int))) from by
    have:=Reps.ofInts (K:=K) (G:=G1) ((Wai n).map λi:Nat=>(i:Int));rw[Wa3,Wa3]at this;exact this)
   exact c l _ G1 _ Δ1 k2 s1 pd p
theorem Zsx {n:Nat}{t1 t2:TE}{x:Slot}{ds0:List D}{nx bk ct:Evt->Prop}{rt:D->Evt->Prop}{ro:OD->Evt->Prop}(hx:Δ[n]?=some x) (ho:x.od=some (.lst ds0))
  (h:JE K t1 Δ λe1 Δ1=>JE K t2 Δ1 λe2 Δ2=>∃y i ds,e1=.int i /\ Δ2[n]?=some y/\y.od=some (.lst ds)/\ds.length<sizeLine /\ -(2 ^ 62)<=i/\i<2 ^ 62/\nx (Δ2.set n (y.put (.lst (ds.take (insI ds.length i)++e2::ds.drop (insI ds.length i)))))) :
  JS K (tDrop (tBM K "list" rInsert (tVar n) (tCons t1 (tCons t2 tNil)))) Δ ⟨nx,rt,bk,ct,ro⟩:=λg G H σ E k c=>by
 obtain⟨a,o,h1,h2,h3,h4,h5⟩:=k.own n x _ hx ho;cases o with
 |lst vs0=>
  refine⟨.ref a,h1,.inl ⟨rfl,_,SqL.of h2⟩,h g G H σ _ k λv1 e1 G1 H1 Δ1 k1 s1 r1 p1=>p1 g G1 H1 σ _ k1 λv2 e2 G2 H2 Δ2 k2 s2 r2 ⟨y,i,ds,q1,q2,q2',q3,q4,q5,p⟩=>?_⟩;subst q1;cases r1.inv;obtain⟨a2,o2,u1,u2,u3,u4,u5⟩:=k2.own n y _ q2 q2';rw[h1]at u1;cases u1;cases o2 with
  |lst vs=>
   have u3:Reps K G2 vs ds:=u3;refine⟨_,vs,i,v2,rfl,rfl,u2,by rw[u3.length];exact q3,q4,q5,?_⟩;have k3:=k2.write q2 q2' h1 (show OwnRep K G2 (.lst (vs.take (insI vs.length i)++v2::vs.drop (insI vs.length i))) (.lst (ds.take (insI ds.length i)++e2::ds.drop (insI ds.length i))) from by
    rw[u3.length];exact(u3.take _).append (.cons r2 (u3.drop _)))
   exact c.nx σ G2 _ _ k3 p
  |_=>exact absurd u3 (λz=>z)
 |_=>exact absurd h3 (λz=>z)
end
open PySem PySem.Spec PyProof.Rows PySem.SeqAt
def Ris (xs:Array Nat):Prop:=∀(i j a b:Nat),i<j->xs[i]?=some a->xs[j]?=some b->a<b
theorem Zh7 (xs:Array Nat) (R:Ris xs) (j:Nat):∀(fuel lo hi:Nat),hi-lo<=fuel->lo<=hi->hi<=xs.size->(∀(i a:Nat),i<lo->xs[i]?=some a->a<j)->(∀(i a:Nat),hi<=i->xs[i]?=some a->j<=a) →
  SetTable.below.go xs j fuel lo hi<=xs.size/\(∀(i a:Nat),i<SetTable.below.go xs j fuel lo hi->xs[i]?=some a->a<j)/\∀(i a:Nat),SetTable.below.go xs j fuel lo hi<=i->xs[i]?=some a->j<=a
 |0,lo,hi,h1,h2,h3,h4,h5=>by
  have:lo=hi:=by omega
  subst this;show lo<=xs.size/\_;exact⟨h3,h4,h5⟩
 |fuel+1,lo,hi,h1,h2,h3,h4,h5=>by
  unfold SetTable.below.go;by_cases hlt:lo<hi
  ·rw[if_pos hlt]
   dsimp only;have hm:(lo+hi) / 2<xs.size:=by omega
   have hg:xs.getD ((lo+hi) / 2) j=xs[(lo+hi) / 2]:=by simp[Array.getD,hm]
   by_cases hc:xs.getD ((lo+hi) / 2) j<j
   ·rw[if_pos hc]
    refine Zh7 xs R j fuel _ _ (by omega) (by omega) h3 (λi a hi' e=>?_) h5;by_cases hi2:i=(lo+hi) / 2
    ·subst hi2
     rw[Array.getElem?_eq_getElem hm]at e;cases e;omega
    ·have:=R i ((lo+hi) / 2) a _ (by omega) e (Array.getElem?_eq_getElem hm)
     omega
   ·rw[if_neg hc]
    refine Zh7 xs R j fuel _ _ (by omega) (by omega) (by omega) h4 λi a hi' e=>?_;by_cases hi2:i=(lo+hi) / 2
    ·subst hi2
     rw[Array.getElem?_eq_getElem hm]at e;cases e;omega
    ·have:=R ((lo+hi) / 2) i _ a (by omega) (Array.getElem?_eq_getElem hm) e
     omega
  ·rw[if_neg hlt]
   have:lo=hi:=by omega
   subst this;exact⟨h3,h4,h5⟩
theorem Zdy {xs:Array Nat}(R:Ris xs) (j:Nat):SetTable.below xs j<=xs.size/\(∀(i a:Nat),i<SetTable.below xs j->xs[i]?=some a->a<j)/\∀(i a:Nat),SetTable.below xs j<=i->xs[i]?=some a->j<=a:=
 Zh7 xs R j xs.size 0 xs.size (by omega) (Wbl _) (Wah _) (λi a h=>by omega) λi a h e=>by
  have:=(Array.getElem?_eq_some_iff.mp e).1;omega
theorem Zdg {α:Type}(xs:Array α) (p:Nat) (x:α) (h:p<=xs.size):(SetTable.insertAt xs p x).toList=xs.toList.take p++x::xs.toList.drop p:=by
 unfold SetTable.insertAt;rw[Array.toList_append,Array.toList_push,Array.toList_extract,Array.toList_extract];simp[List.extract_eq_take_drop,Wbq];rw[Wcz (by simp)]
theorem Zbv {α:Type}(xs:Array α) (p:Nat) (x:α) (h:p<=xs.size) (i:Nat):(SetTable.insertAt xs p x)[i]?=if i<p then xs[i]? else if i=p then some x else xs[i-1]?:=by
 rw[<- Array.getElem?_toList,Zdg xs p x h];by_cases h1:i<p
 ·rw[if_pos h1,Wa8 (by rw[Wa2,Array.length_toList];omega),Wdz h1,Array.getElem?_toList]
 ·rw[if_neg h1,Wa0 (by rw[Wa2,Array.length_toList];omega),Wa2,Array.length_toList,Wdv h]
  by_cases h2:i=p
  ·rw[if_pos h2,h2,Nat.sub_self];rfl
  ·rw[if_neg h2,show i-p=(i-1-p)+1 by omega,Wd3,Wco,Array.getElem?_toList,show p+(i-1-p)=i-1 by omega]
theorem Zm8 {xs:Array Nat}(R:Ris xs) {j:Nat}(hj:xs[SetTable.below xs j]?≠some j):Ris (SetTable.insertAt xs (SetTable.below xs j) j):=by
 obtain⟨b1,b2,b3⟩:=Zdy R j;have b4:∀(i a:Nat),SetTable.below xs j<=i->xs[i]?=some a->j<a:=λi a h e=>by
  have h1:=b3 i a h e;by_cases hi:i=SetTable.below xs j
  ·subst hi
   rcases Wc1 h1 with z|z
   ·exact z
   ·subst z;exact absurd e hj
  ·obtain⟨s1,s2⟩:=Array.getElem?_eq_some_iff.mp e
   have hlt:SetTable.below xs j<xs.size:=by omega
   have h2:=b3 _ _ (Wah _) (Array.getElem?_eq_getElem hlt);have:=R (SetTable.below xs j) i _ a (by omega) (Array.getElem?_eq_getElem hlt) e;omega
 intro i k a b hik ha hb;rw[Zbv _ _ _ b1]at ha hb;split at ha
 ·split at hb
  ·exact R i k a b hik ha hb
  ·split at hb
   ·cases hb;exact b2 i a (by omega) ha
   ·exact R i (k-1) a b (by omega) ha hb
 ·split at ha
  ·cases ha
   rw[if_neg (by omega),if_neg (by omega)]at hb;exact b4 (k-1) b (by omega) hb
  ·rw[if_neg (by omega),if_neg (by omega)]at hb
   exact R (i-1) (k-1) a b (by omega) ha hb
theorem Znu:Ris #[]:=λi j a b _ e=>by simp at e
theorem Zow (n:Nat):Ris (Array.range n):=λi j a b h e1 e2=>by
 simp[Array.getElem?_range]at e1 e2;omega
structure TabOk (led:Bool) (t:SetTable):Prop where
 led:t.led=led
 dum:t.dummies = #[]
 ris:Ris t.place
theorem TabOk.fresh (led:Bool):TabOk led (SetTable.fresh 0 0 led):=⟨rfl,rfl,Znu⟩
theorem TabOk.standIn {led:Bool}{t:SetTable}(h:TabOk led t) (n:Nat):TabOk led (t.standIn n):=⟨h.led,rfl,Zow n⟩
theorem Zh9 (j:Nat):SetTable.has #[] j=false:=by unfold SetTable.has;simp
theorem Zfu {t:SetTable}(hd:t.dummies = #[]) {hashAt:Nat->Int}{h:Int}:∀(fuel:Nat) (p:SetTable.Probe) {j:Nat}{dm:Option Nat},p.dummy=none->SetTable.probe.go t hashAt h fuel p=some (.empty j dm)->dm=none/\t.place[SetTable.below t.place j]?≠some j
 |0,_,_,_,_,e=>by cases e
 |fuel+1,p,j,dm,hp,e=>by
  unfold SetTable.probe.go at e;have adv:(t.advance p).dummy=none:=by unfold SetTable.advance;split <;> exact hp
  unfold SetTable.slot at e;dsimp only at e;by_cases hl:(t.place[SetTable.below t.place p.j]? == some p.j)=true
  ·rw[if_pos hl]at e
   dsimp only at e;split at e
   ·cases e
   ·exact Zfu hd fuel _ adv e
  ·rw[if_neg hl,hd,Zh9]at e
   simp only[Wao,if_false]at e;injection e with e
   injection e with e1 e2
   subst e1 e2;exact⟨hp,λz=>hl (by rw[z];simp)⟩
theorem TabOk.put {led:Bool}{t:SetTable}(h:TabOk led t) {j:Nat}(hj:t.place[SetTable.below t.place j]?≠some j):TabOk led (t.put j).1:=by
 refine⟨h.led,?_,Zm8 h.ris hj⟩;show (if SetTable.has t.dummies j=true then _ else t.dummies) = #[];rw[h.dum,Zh9];rfl
theorem TabOk.layNew {led:Bool}{t:SetTable}(h:TabOk led t) (es:Array (Int × Value)) (hs:Int) (x:Value):TabOk led (layNew t es hs x).2.1:=by
 unfold PySem.layNew;unfold SetTable.freeSlot;cases q:t.probe (λ_=>hs+1) hs (t.probeStart hs) with
 |none=>exact h.standIn _
 |some m=>
  cases m with
  |candidate j i p=>exact h.standIn _
  |empty j dm=>
   obtain⟨e1,e2⟩:=Zfu h.dum _ (t.probeStart hs) rfl (show SetTable.probe.go t (λ_=>hs+1) hs (10*SetTable.turns t.mask) (t.probeStart hs)=some (.empty j dm) from q);subst e1;show TabOk led ((t.put j).1.orStandIn _);unfold SetTable.orStandIn;split
   ·exact h.put e2
   ·exact(h.put e2).standIn _
theorem Zko (owner:Array (Option Nat)) (m:Nat):Ris ((((Wai m).filterMap λj=>(owner.getD j none).map (j,·)).map (·.1)).toArray):=by
 have pw:((Wai m).filterMap λj=>(owner.getD j none).map (j,·)).Pairwise (λa b=>a.1<b.1):=by
  rw[List.pairwise_filterMap];refine List.Pairwise.imp ?_ Wb2;intro a b hab c hc d hd;cases qa:owner.getD a none with
  |none=>rw[qa]at hc;cases hc
  |some k=>
   cases qb:owner.getD b none with
   |none=>rw[qb]at hd;cases hd
   |some l=>
    rw[qa]at hc;rw[qb]at hd;have hc:(a,k)=c:=by simpa using hc
    have hd:(b,l)=d:=by simpa using hd
    subst hc hd;exact hab
 intro i j a b hij ea eb;rw[Wcn,Wad]at ea eb;cases qa:((Wai m).filterMap λj=>(owner.getD j none).map (j,·))[i]? with
 |none=>rw[qa]at ea;cases ea
 |some c=>
  cases qb:((Wai m).filterMap λj=>(owner.getD j none).map (j,·))[j]? with
  |none=>rw[qb]at eb;cases eb
  |some d=>
   rw[qa]at ea;rw[qb]at eb;have ea:c.1=a:=by simpa using ea
   have eb:d.1=b:=by simpa using eb
   subst ea eb;obtain⟨i1,i2⟩:=Waf.mp qa;obtain⟨j1,j2⟩:=Waf.mp qb;have:=Wbs.mp pw i j i1 j1 hij;rw[i2,j2]at this;exact this
theorem TabOk.relay {led:Bool}{t:SetTable}(h:TabOk led t) (es:Array (Int × Value)) (wanted:Nat):TabOk led (relayAll t es wanted).2.1:=by
 unfold PySem.relayAll;cases q:t.relaid (es.map (·.1)) wanted with
 |none=>exact h.standIn _
 |some r=>
  obtain⟨t',order⟩:=r;dsimp only;split
  ·unfold SetTable.relaid SetTable.laid at q
   cases q2:SetTable.layClean (SetTable.sizeAbove wanted-1) (es.map (·.1)) with
   |none=>rw[q2]at q;cases q
   |some owner=>
    rw[q2]at q;have q:_=some (t',order):=q;have e:=congrArg Prod.fst (Wbh.inj q);dsimp only at e;rw[<- e];exact⟨h.led,rfl,Zko owner _⟩
  ·exact h.standIn _
def numOf:Value->Int
 |.int i _=>i
 |_=>0
section
variable {prog:Program}{w:World}
def byTextB (w:World):Bool:=w.params.followText "set-order"
structure SetG (prog:Program) (w:World) (h:Heap) (a:Addr) (o:Obj) (es:Array (Int × Value)) (ep:Nat) (t:SetTable) (ks:List Int):Prop where
 get:h.get? a=some o
 ex:o.ExactSet
 dat:o.data=.set es ep t
 el:ElemsOf (intKind prog w) es.toList
 room:es.size<scanBound
 fit:t.fits es.size=true
 tab:TabOk (!byTextB w) t
 perm:(es.toList.map λe=>numOf e.2).Perm ks
 nd:ks.Nodup
def SetI (prog:Program) (w:World) (h:Heap) (a:Addr) (ks:List Int):Prop:=∃o es ep t,SetG prog w h a o es ep t ks
theorem SetI.keep {h h':Heap}{a:Addr}{ks:List Int}(x:SetI prog w h a ks) (k:∀o,h.get? a=some o->h'.get? a=some o):SetI prog w h' a ks:=by
 obtain⟨o,es,ep,t,g⟩:=x;exact⟨o,es,ep,t,k _ g.get,g.ex,g.dat,g.el,g.room,g.fit,g.tab,g.perm,g.nd⟩
theorem SetG.size {h:Heap}{a:Addr}{o:Obj}{es:Array (Int × Value)}{ep:Nat}{t:SetTable}{ks:List Int}(g:SetG prog w h a o es ep t ks):es.size=ks.length:=by
 have:=g.perm.length_eq;rw[Wab,Array.length_toList]at this;exact this
theorem Zip {k:Int}{v:Value}(h:(intKind prog w).is k v=true):numOf v=k/\∃t,v=.int k t:=by
 obtain⟨t,rfl⟩:=Value.isInt_shape (show Value.isInt k v=true from h);exact⟨rfl,t,rfl⟩
theorem Zkk {es:List (Int × Value)}(h:ElemsOf (intKind prog w) es) {e:Int × Value}(he:e∈es):∃t,e.2=.int (numOf e.2) t:=by
 obtain⟨⟨k,hk,_⟩,_⟩:=h e he;obtain⟨h1,t,h2⟩:=Zip hk;exact⟨t,by rw[h2];rfl⟩
theorem Zm3 {es:List (Int × Value)}(h:ElemsOf (intKind prog w) es) {k:Int}:(∃e∈es,(intKind prog w).is k e.2=true)↔k∈es.map λe=>numOf e.2:=by
 rw[Way];constructor
 ·rintro⟨e,he,hp⟩;exact⟨e,he,(Zip hp).1⟩
 ·rintro⟨e,he,rfl⟩
  obtain⟨t,ht⟩:=Zkk h he;exact⟨e,he,by rw[ht];exact intKind_is _ _ _ _⟩
section
variable {A:Around}{E:Value->Shared->Prop}{s:Shared}
theorem SetG.store {h:Heap}{a:Addr}{o:Obj}{es:Array (Int × Value)}{ep:Nat}{t:SetTable}{ks:List Int}(g:SetG prog w h a o es ep t ks) {es':Array (Int × Value)}{t':SetTable}{ks':List Int}
  (hel:ElemsOf (intKind prog w) es'.toList) (hb:es'.size<scanBound) (hf:t'.fits es'.size=true) (ht:TabOk (!byTextB w) t') (hp:(es'.toList.map λe=>numOf e.2).Perm ks') (hn:ks'.Nodup) :
  SetG prog w (h.update a (Obj.putSet es' t')) a { o with data:=.set es' (ep+1) t' } es' (ep+1) t' ks':=by
 have hg:(h.update a (Obj.putSet es' t')).get? a=some { o with data:=.set es' (ep+1) t' }:=by
  have:=Wb9 (Obj.putSet es' t') g.get (by rw[putSet_of es' t' g.dat];rfl);rw[putSet_of es' t' g.dat]at this;exact this
 exact⟨hg,g.ex,rfl,hel,hb,hf,ht,hp,hn⟩
def addE (ks:List Int) (k:Int):List Int:=if k∈ks then ks else ks++[k]
theorem Zr0 {a:Addr}{ks:List Int}{k:Int}{tk:Tok}{Q:Bool->Shared->Prop}(hS:SetI prog w s.heap a ks) (hroom:ks.length+1<scanBound)
  (h:∀b h',Heap.SameBut a s.heap h' -> SetI prog w h' a (addE ks k)->Q b { s with heap:=h' }) :
  wpAny (model prog w) A (setAddHashed a (.int k tk) (hashInt k)) Q E s:=by
 obtain⟨o,es,ep,t,g⟩:=hS;have hsz:=g.size;have hkey:(intKind prog w).is k (.int k tk)=true:=intKind_is _ _ _ _;unfold setAddHashed setAddHashedIn;refine wpAny_holding (wpAny_bind (wpAny_setState_of g.get g.dat g.fit ?_));dsimp only;rw[byScan_of (knd:=intKind prog w) rfl g.room g.el];simp only[↓reduceIte];unfold setAddByScan;refine wpAny_bind ?_;refine wpAny_bind (wpAny_rule ?_);refine wpAny_bind (wpAny_setScan_of (knd:=intKind prog w) (k:=k) hkey g.get g.dat g.fit g.el ?_);cases hr:List.findIdx? (λe=>(intKind prog w).is k e.2) es.toList with
 |some j=>
  dsimp only;obtain⟨hj,hpj,_⟩:=List.findIdx?_eq_some_iff_getElem.mp hr;have hk:k∈ks:=g.perm.mem_iff.mp ((Zm3 g.el).mp ⟨es.toList[j],Wa5 hj,hpj⟩);refine wpAny_pure (wpAny_pure ?_);have e:s = { s with heap:=s.heap }:=by cases s;rfl
  rw[e];refine h _ s.heap (Heap.SameBut.refl a s.heap) ?_;unfold addE;rw[if_pos hk];exact⟨o,es,ep,t,g⟩
 |none=>
  dsimp only;have hk:k ∉ ks:=λz=>by
   obtain⟨e,he,hp⟩:=(Zm3 g.el).mpr (g.perm.mem_iff.mpr z);have:=List.findIdx?_eq_none_iff.mp hr e he;rw[hp]at this;cases this
  have hgw:∀(b:Bool) {s₁:Shared}{Q':Unit->Shared->Prop},Q' () s₁ -> wpAny (model prog w) A (match b with|true=>rule "set.scan.the-table-gave-way" |false=>pure ()) Q' E s₁:=
   λb s₁ Q' hq=>by cases b <;> first|exact wpAny_pure hq|exact wpAny_rule hq
  have hperm:=layNew_perm t es (hashInt k) (.int k tk);have hfits:=layNew_fits t es (hashInt k) (.int k tk);have htab:=g.tab.layNew es (hashInt k) (.int k tk);generalize hL:layNew t es (hashInt k) (.int k tk)=L at hperm hfits htab ⊢;obtain⟨es1,t1,wasDummy,gave⟩:=L;dsimp only at hperm hfits htab ⊢;rw[Array.toList_push]at hperm;have hel1:ElemsOf (intKind prog w) es1.toList:=(g.el.push (k:=k) hkey rfl).perm hperm;have hsz1:es1.size=es.size+1:=by rw[<- Array.length_toList,hperm.length_eq,Waq,Array.length_toList];rfl
  have hb1:es1.size<scanBound:=by omega
  have hp1:(es1.toList.map λe=>numOf e.2).Perm (ks++[k]):=by
   refine(hperm.map _).trans ?_;rw[Wax];exact List.Perm.append_right _ g.perm
  have hnd1:(ks++[k]).Nodup:=by
   rw[Wc5];refine⟨g.nd,by simp,λa ha b hb e=>?_⟩;rw[Wbc.mp hb]at e;exact hk (e ▸ ha)
  have eadd:addE ks k=ks++[k]:=by unfold addE;rw[if_neg hk]
  refine wpAny_bind (hgw _ ?_);have tail:∀(Q2:Option Bool->Shared->Prop),(∀h',Heap.SameBut a s.heap h' -> SetI prog w h' a (ks++[k])->Q2 (some true) { s with heap:=h' })->∀(g0:Bool->Sem Unit),(∀(b:Bool) (s₁:Shared) (Q':Unit->Shared->Prop),Q' () s₁ -> wpAny (model prog w) A (g0 b) Q' E s₁) →
    wpAny (model prog w) A (do
     storeSet a es1 t1
     if (!wasDummy && t1.tooFull)=true then do
       g0 (relayAll t1 es1 (SetTable.grown es1.size)).2.2
       storeSet a (relayAll t1 es1 (SetTable.grown es1.size)).1 (relayAll t1 es1 (SetTable.grown es1.size)).2.1
       pure (some true)
      else pure (some true)) Q2 E s:=by
   intro Q2 hq g0 hg0;refine wpAny_bind (wpAny_storeSet_of g.get g.dat ?_ (fits_of_scanBound hb1));have g1:=g.store (es':=es1) (t':=t1) hel1 hb1 hfits htab hp1 hnd1;have sb1:=Heap.SameBut.update s.heap a (Obj.putSet es1 t1);split
   ·have hp:=relayAll_perm t1 es1 (SetTable.grown es1.size)
    have hfr:=relayAll_fits t1 es1 (SetTable.grown es1.size);have htr:=htab.relay es1 (SetTable.grown es1.size);generalize hRl:relayAll t1 es1 (SetTable.grown es1.size)=Rl at hp hfr htr ⊢;obtain⟨es2,t3,gave2⟩:=Rl;dsimp only at hp hfr htr ⊢;have hsz2:es2.size=es1.size:=by rw[<- Array.length_toList,hp.length_eq,Array.length_toList]
    refine wpAny_bind (hg0 _ _ _ ?_);refine wpAny_bind (wpAny_storeSet_of g1.get rfl ?_ (fits_of_scanBound (by omega)));have g2:=g1.store (es':=es2) (t':=t3) (hel1.perm hp) (by omega) hfr htr ((hp.map _).trans hp1) hnd1;exact wpAny_pure (hq _ (sb1.trans (Heap.SameBut.update _ a _)) ⟨_,_,_,_,g2⟩)
   ·exact wpAny_pure (hq _ sb1 ⟨_,_,_,_,g1⟩)
  have hgv:∀(b:Bool) (s₁:Shared) (Q':Unit->Shared->Prop),Q' () s₁ -> wpAny (model prog w) A (match b with|true=>rule "set.scan.the-table-gave-way" |false=>pure ()) Q' E s₁:=λb s₁ Q' hq=>hgw b hq;split
  ·refine wpAny_bind ?_
   rw[hashByValue_scannable 8 (x:=.int k tk) rfl];refine wpAny_pure ?_;simp only[plainKind,if_true];exact tail _ (λh' sb hS'=>by dsimp only;exact wpAny_pure (h _ h' sb (by rw[eadd];exact hS'))) _ hgv
  ·refine wpAny_bind (wpAny_pure ?_)
   simp only[↓reduceIte];exact tail _ (λh' sb hS'=>by dsimp only;exact wpAny_pure (h _ h' sb (by rw[eadd];exact hS'))) _ hgv
end
end
def metK (val:Nat->Int):Nat->List Int
 |0=>[]
 |i+1=>addE (metK val i) (val i)
theorem Zlg (val:Nat->Int) (i:Nat):(metK val i).length<=i:=by
 induction i with
 |zero=>exact Wah _
 |succ i ih=>
  show (addE (metK val i) (val i)).length<=i+1;unfold addE;split
  ·omega
  ·rw[Waq,Wcl];omega
theorem Zrx {val:Nat->Int}{i:Nat}{x:Int}:x∈metK val i ↔ ∃j,j<i/\val j=x:=by
 induction i with
 |zero=>simp[metK]
 |succ i ih=>
  show x∈addE (metK val i) (val i)↔_;unfold addE;constructor
  ·intro h
   split at h
   ·obtain⟨j,hj,e⟩:=ih.mp h;exact⟨j,by omega,e⟩
   ·rcases Wbd.mp h with h|h
    ·obtain⟨j,hj,e⟩:=ih.mp h;exact⟨j,by omega,e⟩
    ·exact⟨i,by omega,(Wbc.mp h).symm⟩
  ·rintro⟨j,hj,rfl⟩
   by_cases hji:j=i
   ·subst hji
    split
    ·assumption
    ·exact Wa9 _ (by simp)
   ·have:=ih.mpr ⟨j,by omega,rfl⟩
    split
    ·exact this
    ·exact Wd8 _ this
section
variable {prog:Program}{w:World}{A:Around}{R:Result->Shared->Prop}{I:Addr}{fp wr:List Addr}{G:Array GenState->Array GenState->Prop}{n:Nat}{P:Nat->Value->Prop}{St:Nat->Shared->Prop}
theorem Zjo (W:WalksS prog w A.in1 I fp wr G n P St) (S:Addr) (hSf:S ∉ fp)
  (val:Nat->Int) (hval:∀i v,P i v->∃t,v=.int (val i) t) (hb:n+1<scanBound) :
  ∀(k i:Nat) (s:Shared),n-i=k->i<=n->St i s->SetI prog w s.heap S (metK val i) →
   (∀s',Moved (S::wr) G s s' -> SetI prog w s'.heap S (metK val n)->R (.ok (.ret .none)) s') →
   codeAny (model prog w) A (.builtin "set.update.loop" ⟨[.ref S,.ref I],[]⟩) R s:=by
 have hSw:S ∉ wr:=λh=>hSf (W.sub _ h);have hsub:∀b∈wr,b∈S::wr:=λb hb=>Was _ hb;intro k
 induction k with
 |zero=>
  intro i s hk hi hst hS hR;have hin:i=n:=by omega
  subst hin;refine codeAny_builtin F.entry_set_update_loop ?_;rw[Around.under_plainId F.plain_set_update_loop _];show wpAny _ A.in1 (pyNext (.ref I) >>= _) _ _ s;refine wpAny_bind (W.done s _ _ hst λs' hm=>?_);show wpAny _ A.in1 (ret Value.none) _ _ s';exact wpAny_pure (hR s' (hm.mono hsub) (hS.keep λo e=>hm.heap S o hSw e))
 |succ k ih=>
  intro i s hk hi hst hS hR;have hlt:i<n:=by omega
  refine codeAny_builtin F.entry_set_update_loop ?_;rw[Around.under_plainId F.plain_set_update_loop _];show wpAny _ A.in1 (pyNext (.ref I) >>= _) _ _ s;refine wpAny_bind (W.item i s _ _ hlt hst λv s' hP hst' hm=>?_);obtain⟨t,rfl⟩:=hval i v hP;have hS':SetI prog w s'.heap S (metK val i):=hS.keep λo e=>hm.heap S o hSw e;show wpAny _ A.in1 (holding [Value.int (val i) t] (setAdd S (.int (val i) t)) >>= _) _ _ s';refine wpAny_bind (wpAny_holding ?_);unfold setAdd;refine wpAny_holding ?_;refine wpAny_bind ((intKind prog w).pyHash (k:=val i) (intKind_is _ _ _ _) ?_);have hroom:(metK val i).length+1<scanBound:=by have:=Zlg val i;omega
  refine Zr0 (s:={ s' with toks:=s'.toks+1 }) hS' hroom λb h' hsb hS2=>?_;refine wpAny_pure ⟨plainId_quiet F.plain_set_update_loop _,ih (i+1) _ (by omega) hlt (W.frame _ s' _ _ hst' (Wcx _) λb hb o e=>?_) hS2 λs'' hm'' hS''=>?_⟩
  ·rw[hsb.2 b (λh:b=S=>hSf (by rw[<- h];exact hb))];exact e
  ·refine hR s'' (Moved.trans W.gtrans ((hm.mono hsub).then_heap (Wcx _) λb o hb e=>?_) hm'') hS''
   rw[hsb.2 b (λh:b=S=>hb (by rw[h];exact Wa4))];exact e
end
section
variable {prog:Program}{w:World}{A:Around}{E:Value->Shared->Prop}{s:Shared}
abbrev set0 (w:World):Obj:={ cls:=.type "set",dict:=none,data:=.set #[] 0 (.fresh 0 0 (!byTextB w)) }
theorem Zrb (x:Value) {N:Value->Shared->Prop}(h:N (.ref s.heap.objs.size) { s with heap:=s.heap.push (set0 w) }) :
  codeAny (model prog w) A (.call (.builtin "set.__new__") ⟨[.type "set",x],[]⟩) (wants N E) s:=
 codeAny_of_tree (by
  have su:=sub_set_self;obtain⟨hp,g,d,tk,os⟩:=s;refine wpAny_bind (m:=checkBuiltinCall "set.__new__" ⟨[.type "set",x],[]⟩) (wpAny_of_eq (F.newCall_set_1 x) (wpAny_pure ⟨plainId_quiet F.plain_set_new _,codeAny_builtin F.entry_set_new ?_⟩));rw[Around.under_plainId F.plain_set_new _];unfold Builtin.«set.__new__» Builtin.Frozenset.newClass
  wp_walk
  refine wpAny_askSetting (wpAny_pure ?_);simp only[newObj];exact wpAny_bind (wpAny_alloc (wpAny_pure (wpAny_pure h))))
theorem Zpu {S l:Addr}{its:Array Value}{ns:List Int}{N:Result->Shared->Prop}(hh:A.handled=none) (hS:s.heap.get? S=some (set0 w)) (hl:s.heap.IsList l its) (hi:IntsAre its.toList ns) (hb:its.size+1<scanBound)
  (q:∀h' tk,SetI prog w h' S (metK (λi=>ns.getD i 0) its.size)->(∀b o,b≠S->s.heap.get? b=some o->h'.get? b=some o)->N (.ok (.ret .none)) { s with heap:=h',toks:=tk }) :
  wpAny (model prog w) A.in1 (Builtin.«set.__init__» ⟨[.ref S,.ref l],[]⟩) (λfin s'=>match fin with|.done f=>N (.ok f) s'|.again c=>c.quiet=true/\codeAny (model prog w) A c N s') (λe s'=>N (.error e) s') s:=by
 have lS:l≠S:=by
  obtain⟨o,e,c,_⟩:=hl;intro z;subst z;rw[hS]at e;cases e;exact absurd (show Value.type "set" = Value.type "list" from c) (by decide)
 have lt:l<s.heap.objs.size:=by obtain⟨o,e,_⟩:=hl;exact War e
 have ltS:S<s.heap.objs.size:=War hS;obtain⟨⟨c0,d0,dt0,sl0⟩,e0,hc0,n0,hd0⟩:=id hl;simp only at hc0 hd0;subst hc0 hd0;have hT:s.TypeIs (.ref S) "set":=⟨_,hS,rfl⟩;have k1:=F.sub_list_set;have k2:=F.sub_list_frozenset;have k3:(Value.type "list" == Value.type "dict")=false:=by decide
 unfold Builtin.«set.__init__» noKeywords Builtin.Frozenset.updateFrom;generalize hPI:pyIter=PI
 wp_walk
 subst hPI;refine wpAny_pyIter_list hl (wpAny_bind (wpAny_runValue ?_));have ne1:l≠s.heap.objs.size:=Wav lt;have ne2:S ∉ [s.heap.objs.size,l]:=by
  simp only[Wal,Wb7,or_false,not_or];exact⟨Wav ltS,Ne.symm lS⟩
 refine Zjo (Walks.list (by simp[hh]) _ l ne1 its).toS S ne2 (λi=>ns.getD i 0) (λi v e=>IntsAre.int_at hi i v (by rw[Array.getElem?_toList];exact e)) hb its.size 0 _ (by omega) (Wbl _) ⟨⟨_,Wam _ rfl,rfl,rfl⟩,hl.push _⟩ ?_ λs2 mv fin=>?_
 ·exact⟨_,#[],0,_,Wac _ hS,⟨rfl,rfl,rfl⟩,rfl,λe he=>by simp at he,by decide,by rfl,TabOk.fresh _,List.Perm.refl _,Wdj⟩
 ·rw[Moved.eq_with mv]
  refine wpAny_pure (wpAny_pure (q _ _ fin λb o hb e=>mv.heap b o ?_ (Wac _ e)));simp only[Wal,Wb7,or_false,not_or];exact⟨hb,Wav (War e)⟩
set_option maxHeartbeats 3200000 in
theorem Zpp {l:Addr}{its:Array Value}{ns:List Int}{Q:Value->Shared->Prop}(hh:A.handled=none) (hl:s.heap.IsList l its) (hi:IntsAre its.toList ns) (hb:its.size+1<scanBound)
  (q:∀(h':Heap) (tk:Nat),SetI prog w h' s.heap.objs.size (metK (λi=>ns.getD i 0) its.size)->(∀b o,s.heap.get? b=some o->h'.get? b=some o)->Q (.ref s.heap.objs.size) { s with heap:=h',toks:=tk }) :
  wpAny (model prog w) A (call (.type "set") [.ref l]) Q E s:=by
 have ft:=F.called_set;obtain⟨c,tl,e1⟩:=ft.mro;have e2:=ft.made;have e3:=ft.sub;have e4:=ft.notType;have e5:=ft.canCreate;have e6:=F.typeCall_set_1 (.ref l);refine wpAny_call (codeAny_of_tree (show wpAny _ _ (callAny (.type "set") _) _ _ _ from wpAny_pure ⟨Code.quiet_builtin _ (by decide +kernel),codeAny_builtin F.entry_type_call ?_⟩));rw[Around.under_plain (weight_type_call_type _ _ _) rfl]
 repeat (any_goals (first|assumption|wp_step))
 refine codeAny_mono (Zrb (.ref l) (E:=E) (N:=λv s1=>v=.ref s.heap.objs.size/\s1 = { s with heap:=s.heap.push (set0 w) }) ⟨rfl,rfl⟩) λr s1 hr=>?_;cases r with
 |error e=>exact hr
 |ok fl=>
  cases fl with
  |ret v=>
   obtain⟨rfl,rfl⟩:=hr;have hS:(s.heap.push (set0 w)).get? s.heap.objs.size=some (set0 w):=Wam _ rfl;have hT:Shared.TypeIs { s with heap:=s.heap.push (set0 w) } (.ref s.heap.objs.size) "set":=⟨_,hS,rfl⟩;have f1:=ft.init.lookup;have f2:=ft.init.bind (.ref s.heap.objs.size)
   repeat (any_goals (first|assumption|wp_step))
   refine codeAny_mono (codeAny_call_builtin (R:=wants (λr s2=>r=.none/\Q (.ref s.heap.objs.size) s2) E) ft.init.plain F.entry_set_init (check_set_init_1 hT (Zpu (by simp[hh]) hS (hl.push _) hi hb λh' tk z1 z2=>⟨rfl,q h' tk z1 λb o e=>z2 b o (Wav (War e)) (Wac _ e)⟩))) λr2 s2 hr2=>?_;cases r2 with
   |error e=>exact hr2
   |ok fl2=>
    cases fl2 with
    |ret r=>
     obtain⟨rfl,hq⟩:=hr2
     repeat (any_goals (first|assumption|wp_step))
    |_=>exact hr2.elim
  |_=>exact hr.elim
end
end L2
namespace L2
open PySem PySem.Spec PyProof.Rows PySem.SeqAt
theorem Zat:PySem.Slot "set_iterator" "__next__" "set_iterator.__next__":=
 .of (owner:="set_iterator") (n:="__next__") (by rw[typeLookup_type,builtinLookup_eq_fast];kernel_rfl) (by decide +kernel) (by decide +kernel) (by decide +kernel)
  (by first|exact .inl (by decide +kernel)|exact .inr (by decide +kernel)) (by rw[isSubtype_type];kernel_rfl)
theorem Zbt:entryFor table "set_iterator.__next__" = some Builtin.«set_iterator.__next__»:=entryFor_of_tree (by kernel_rfl)
theorem Zgr:entryFor table "set.__iter__" = some Builtin.«frozenset.__iter__»:=entryFor_alias (id':="frozenset.__iter__") (by kernel_rfl) rfl (by decide +kernel) (by kernel_rfl)
theorem Zb2 (a:Value):argsOk "set_iterator.__next__" ⟨[a],[]⟩:=by
 unfold argsOk;kernel_rfl
abbrev setItO (first:Value) (i:Nat) (a:Addr) (n ep:Nat):Obj:={ cls:=.type "set_iterator",dict:=none,data:=.fields #[first,.int i 0,.ref a,.int n 0,.int ep 0],slots:=#[] }
section
variable {prog:Program}{w:World}{A:Around}{E:Value->Shared->Prop}{s:Shared}
theorem Zly {I a:Addr}{slot i next:Nat}{x:Value}{o:Obj}{es:Array (Int × Value)}{ep:Nat}{t:SetTable}{ks:List Int}{Q:Option Value->Shared->Prop}(hI:s.heap.get? I=some (setItO (.int slot 0) i a es.size ep)) (g:SetG prog w s.heap a o es ep t ks)
  (hn:∀(A:Around) (E:Value->Shared->Prop) (Q':Option (Value × Nat)->Shared->Prop),Q' (some (x,next)) s->wpAny (model prog w) A (setNext a slot i ep) Q' E s)
  (q:∀h',h'.get? I=some (setItO (.int next 0) (i+1) a es.size ep)->Heap.SameBut I s.heap h' -> Q (some x) { s with heap:=h' }):wpAny (model prog w) A (pyNext (.ref I)) Q E s:=by
 have hT:s.TypeIs (.ref I) "set_iterator":=⟨_,hI,rfl⟩;unfold pyNext;refine wpAny_bind (wpAny_attempt (wpAny_callSpecial?_slot (name:=Str.ofString "__next__") hT Zat (wpAny_call_entry Zat hT Zbt ?_ (Zb2 _))));refine wpAny_bind (wpAny_pure ?_);refine wpAny_bind (wpAny_fieldsOf hI rfl ?_);refine wpAny_bind (wpAny_setEntries_of g.get g.dat g.fit ?_);rw[if_neg (by simp)];refine wpAny_bind (hn _ _ _ ?_);refine wpAny_bind (wpAny_setField_rec hI (by simp) λh1 e1 sb1=>?_);refine wpAny_bind (wpAny_setField_rec (s:={ s with heap:=h1 }) e1 (by simp) λh2 e2 sb2=>?_);exact wpAny_pure ⟨_,rfl,wpAny_pure (q h2 (by rw[e2];rfl) (sb1.trans sb2))⟩
theorem Zmi {I a:Addr}{slot i:Nat}{o:Obj}{es:Array (Int × Value)}{ep:Nat}{t:SetTable}{ks:List Int}{Q:Option Value->Shared->Prop}(hh:A.handled=none) (hI:s.heap.get? I=some (setItO (.int slot 0) i a es.size ep)) (g:SetG prog w s.heap a o es ep t ks)
  (hn:∀(A:Around) (E:Value->Shared->Prop) (Q':Option (Value × Nat)->Shared->Prop),Q' none s->wpAny (model prog w) A (setNext a slot i ep) Q' E s)
  (q:∀h',Heap.ExtBut I s.heap h' -> Q none { s with heap:=h' }):wpAny (model prog w) A (pyNext (.ref I)) Q E s:=by
 have hT:s.TypeIs (.ref I) "set_iterator":=⟨_,hI,rfl⟩;unfold pyNext;refine wpAny_bind (wpAny_attempt (wpAny_callSpecial?_slot (name:=Str.ofString "__next__") hT Zat (wpAny_call_entry Zat hT Zbt ?_ (Zb2 _))));refine wpAny_bind (wpAny_pure ?_);refine wpAny_bind (wpAny_fieldsOf hI rfl ?_);refine wpAny_bind (wpAny_setEntries_of g.get g.dat g.fit ?_);rw[if_neg (by simp)];refine wpAny_bind (hn _ _ _ ?_);refine wpAny_bind (wpAny_setField_rec hI (by simp) λh1 e1 sb1=>wpAny_bind ?_);simp only[newExc,newTuple];refine wpAny_bind (wpAny_newObj_type ?_ (by size_fits));refine wpAny_bind (m:=firstArgMember _ _) (wpAny_of_eq (a:=Value.none) (by first|rfl|(simp only[firstArgMember];rfl)) ?_);refine wpAny_newObj_type ?_ (by size_fits);simp only[raiseNew];refine wpAny_bind (wpAny_handled ?_);rw[show A.in1.handled=none from hh];refine wpAny_bind (wpAny_pure (wpAny_throw ?_));refine wpAny_bind (wpAny_isInstance (T:="StopIteration") (b:=true) ⟨_,Wam _ rfl,rfl⟩ isSubtype_stop ?_);exact wpAny_pure (q _ ((sb1.extBut.push _).push _))
theorem Zjk {I a T:Addr}{i k:Nat}{e:Int × Value}{o:Obj}{es:Array (Int × Value)}{ep:Nat}{t:SetTable}{ks:List Int}{pl:List Nat}{Q:Option Value->Shared->Prop}(hI:s.heap.get? I=some (setItO (.ref T) i a es.size ep)) (g:SetG prog w s.heap a o es ep t ks)
  (hT:s.heap.get? T=some { cls:=.type "tuple",data:=.seq (pl.map λj:Nat=>rawInt (j:Int)).toArray }) (hk:pl[i]?=some k) (he:es[k]?=some e)
  (q:∀h',h'.get? I=some (setItO (.ref T) (i+1) a es.size ep)->Heap.SameBut I s.heap h' -> Q (some e.2) { s with heap:=h' }):wpAny (model prog w) A (pyNext (.ref I)) Q E s:=by
 have hTy:s.TypeIs (.ref I) "set_iterator":=⟨_,hI,rfl⟩;unfold pyNext;refine wpAny_bind (wpAny_attempt (wpAny_callSpecial?_slot (name:=Str.ofString "__next__") hTy Zat (wpAny_call_entry Zat hTy Zbt ?_ (Zb2 _))));refine wpAny_bind (wpAny_pure ?_);refine wpAny_bind (wpAny_fieldsOf hI rfl ?_);refine wpAny_bind (wpAny_setEntries_of g.get g.dat g.fit ?_);rw[if_neg (by simp)];refine wpAny_bind (wpAny_seqItems hT rfl ?_);have e1:(pl.map λj:Nat=>rawInt (j:Int)).toArray[(i:Int).toNat]?=some (.int (k:Int) 0):=by
  rw[Wap,Wcn,Wad,hk];rfl
 dsimp only;rw[e1];dsimp only;unfold setNextDrawn;refine wpAny_bind (wpAny_bind (wpAny_setState_of g.get g.dat g.fit ?_));dsimp only;rw[if_neg (by simp)];rw[show es[(k:Int).toNat]?=some e from by rw[Wap];exact he];obtain⟨e1,e2⟩:=e;refine wpAny_pure ?_;refine wpAny_bind (wpAny_setField_rec hI (by simp) λh2 e2' sb2=>?_);exact wpAny_pure ⟨_,rfl,wpAny_pure (q h2 (by rw[e2'];rfl) sb2)⟩
theorem Zgw {I a T:Addr}{i:Nat}{o:Obj}{es:Array (Int × Value)}{ep:Nat}{t:SetTable}{ks:List Int}{pl:List Nat}{Q:Option Value->Shared->Prop}(hh:A.handled=none) (hI:s.heap.get? I=some (setItO (.ref T) i a es.size ep)) (g:SetG prog w s.heap a o es ep t ks)
  (hT:s.heap.get? T=some { cls:=.type "tuple",data:=.seq (pl.map λj:Nat=>rawInt (j:Int)).toArray }) (hk:pl[i]?=none)
  (q:∀h',Heap.ExtBut I s.heap h' -> Q none { s with heap:=h' }):wpAny (model prog w) A (pyNext (.ref I)) Q E s:=by
 have hTy:s.TypeIs (.ref I) "set_iterator":=⟨_,hI,rfl⟩;unfold pyNext;refine wpAny_bind (wpAny_attempt (wpAny_callSpecial?_slot (name:=Str.ofString "__next__") hTy Zat (wpAny_call_entry Zat hTy Zbt ?_ (Zb2 _))));refine wpAny_bind (wpAny_pure ?_);refine wpAny_bind (wpAny_fieldsOf hI rfl ?_);refine wpAny_bind (wpAny_setEntries_of g.get g.dat g.fit ?_);rw[if_neg (by simp)];refine wpAny_bind (wpAny_seqItems hT rfl ?_);have e1:(pl.map λj:Nat=>rawInt (j:Int)).toArray[(i:Int).toNat]?=none:=by
  rw[Wap,Wcn,Wad,hk];rfl
 dsimp only;rw[e1];dsimp only;refine wpAny_bind (wpAny_setField_rec hI (by simp) λh1 e1 sb1=>?_);refine wpAny_bind (wpAny_setField_rec (s:={ s with heap:=h1 }) e1 (by simp) λh2 e2 sb2=>wpAny_bind ?_);simp only[newExc,newTuple];refine wpAny_bind (wpAny_newObj_type ?_ (by size_fits));refine wpAny_bind (m:=firstArgMember _ _) (wpAny_of_eq (a:=Value.none) (by first|rfl|(simp only[firstArgMember];rfl)) ?_);refine wpAny_newObj_type ?_ (by size_fits);simp only[raiseNew];refine wpAny_bind (wpAny_handled ?_);rw[show A.in1.handled=none from hh];refine wpAny_bind (wpAny_pure (wpAny_throw ?_));refine wpAny_bind (wpAny_isInstance (T:="StopIteration") (b:=true) ⟨_,Wam _ rfl,rfl⟩ isSubtype_stop ?_);exact wpAny_pure (q _ (((sb1.trans sb2).extBut.push _).push _))
theorem Zg3 (a:Addr) (slot given ep:Nat):setNext a slot given ep=(do
  let (es,epoch,t) ← setState a
  if ← setsByText then
   if epoch != ep then unsupported "set_iterator.__next__:elements-changed"
   return ((← setWalk a)[given]?).map λe=>(e.2,slot)
  if !t.plain && es.size > 1 then unsupported "set_iterator.__next__:the-table-is-plain-no-more"
  let _ ← (if !t.led && !es.isEmpty then unsupported "set:maker-not-led" else pure ():Sem Unit)
  let i:=SetTable.below t.place slot
  return match es[i]?,t.place[i]? with
   |some (_,x),some j=>some (x,j+1)
   |_,_=>none):=rfl
theorem Zmp (a:Addr):setWalk a=(do
  let (es,epoch,t) ← setState a
  if ← setsByText then return pickOrder ((← ask).params.setOrder a epoch) es
  if !t.plain && es.size > 1 then return (← drawOrder es.size es.toList).toArray
  let _ ← (if !t.led && es.size > 1 then unsupported "set:maker-not-led" else pure ():Sem Unit)
  return es):=rfl
theorem Zj7 (a:Addr):setDrawn a=(do
  let (es,_,t) ← setState a
  let byText ← setsByText
  return !byText && (!t.plain && es.size > 1)):=rfl
end
end L2
namespace L2
open PySem PySem.Spec PyProof.Rows PySem.SeqAt
theorem Zdt:PySem.Slot "set_iterator" "__iter__" "set_iterator.__iter__":=
 .of (owner:="set_iterator") (n:="__iter__") (by rw[typeLookup_type,builtinLookup_eq_fast];kernel_rfl) (by decide +kernel) (by decide +kernel) (by decide +kernel)
  (by first|exact .inl (by decide +kernel)|exact .inr (by decide +kernel)) (by rw[isSubtype_type];kernel_rfl)
theorem Zfk:entryFor table "set_iterator.__iter__" = some Builtin.«dict_keyiterator.__iter__»:=entryFor_alias (id':="dict_keyiterator.__iter__") (by kernel_rfl) rfl (by decide +kernel) (by kernel_rfl)
theorem Zf9 (a:Value):argsOk "set_iterator.__iter__" ⟨[a],[]⟩:=by unfold argsOk;kernel_rfl
section
variable {prog:Program}{w:World}{A:Around}{E:Value->Shared->Prop}{s:Shared}
theorem Zhe {I:Addr}{first:Value}{i n ep:Nat}{a:Addr}{Q:Value->Shared->Prop}(hI:s.heap.get? I=some (setItO first i a n ep)) (q:Q (.ref I) s):wpAny (model prog w) A (pyIter (.ref I)) Q E s:=by
 have hT:s.TypeIs (.ref I) "set_iterator":=⟨_,hI,rfl⟩;refine wpAny_pyIter_slot hT Zdt (wpAny_call_entry Zdt hT Zfk ?_ (Zf9 _));show wpAny _ _ (ret (.ref I)) _ _ s;exact wpAny_pure ⟨_,rfl,"set_iterator",_,hT,Zat.lookup,q⟩
theorem Zex {Q:Bool->Shared->Prop}(q:Q (byTextB w) s):wpAny (model prog w) A setsByText Q E s:=by
 unfold setsByText;exact wpAny_bind (wpAny_askSetting (wpAny_pure q))
theorem Zin {a:Addr}{slot given ep:Nat}{o:Obj}{es:Array (Int × Value)}{t:SetTable}{ks:List Int}{Q:Option (Value × Nat)->Shared->Prop}(hb:byTextB w=true) (g:SetG prog w s.heap a o es ep t ks)
  (q:Q (((pickOrder (w.params.setOrder a ep) es)[given]?).map λe=>(e.2,slot)) s):wpAny (model prog w) A (setNext a slot given ep) Q E s:=by
 rw[Zg3];refine wpAny_bind (wpAny_setState_of g.get g.dat g.fit (wpAny_bind (Zex ?_)));rw[hb];simp only[if_true];rw[if_neg (by simp),Zmp];refine wpAny_bind (wpAny_bind (wpAny_setState_of g.get g.dat g.fit (wpAny_bind (Zex ?_))));rw[hb];simp only[if_true];exact wpAny_bind (wpAny_askSetting (wpAny_pure (wpAny_pure q)))
theorem Zg0 {a:Addr}{slot given ep:Nat}{o:Obj}{es:Array (Int × Value)}{t:SetTable}{ks:List Int}{Q:Option (Value × Nat)->Shared->Prop}(hb:byTextB w=false) (g:SetG prog w s.heap a o es ep t ks) (hd:(!t.plain && decide (es.size > 1))=false)
  (q:Q (match es[SetTable.below t.place slot]?,t.place[SetTable.below t.place slot]? with|some (_,x),some j=>some (x,j+1)|_,_=>none) s):wpAny (model prog w) A (setNext a slot given ep) Q E s:=by
 have hl:t.led=true:=by rw[g.tab.led,hb];rfl
 rw[Zg3];refine wpAny_bind (wpAny_setState_of g.get g.dat g.fit (wpAny_bind (Zex ?_)));rw[hb];simp only[Wao,if_false,hd,hl,Wcv,Wcc];exact wpAny_bind (wpAny_pure (wpAny_pure q))
theorem Ze3 {α:Type}:∀{l:List α}{i:Nat}(h:i<l.length),(l[i]::l.eraseIdx i).Perm l
 |x::l,0,_=>List.Perm.refl _
 |x::l,i+1,h=>by
  have h':i<l.length:=by simpa using h
  show (l[i]::x::l.eraseIdx i).Perm (x::l);exact(List.Perm.swap _ _ _).trans (List.Perm.cons _ (Ze3 h'))
theorem Znd {α:Type}(next:Nat->Nat):∀(fuel k:Nat) (left:List α) (out:Array α),left.length=fuel->(pickOrder.go next fuel k left out).toList.Perm (out.toList++left)
 |0,k,left,out,h=>by
  have:left=[]:=Wb5 h;subst this;unfold pickOrder.go;rw[Wbb]
 |fuel+1,k,left,out,h=>by
  unfold pickOrder.go;have hi:next k % left.length<left.length:=Wd0 _ (by omega)
  rw[Waa hi];dsimp only;refine(Znd next fuel (k+1) _ _ (by rw[List.length_eraseIdx_of_lt hi];omega)).trans ?_;rw[Array.toList_push,Wbq];refine List.Perm.append_left _ ?_;exact Ze3 hi
theorem Zna {α:Type}(next:Nat->Nat) (xs:Array α):(pickOrder next xs).toList.Perm xs.toList:=by
 unfold pickOrder;exact Znd next xs.size 0 xs.toList #[] (by simp)
def slotAt (pl:Array Nat):Nat->Nat
 |0=>0
 |j+1=>pl.getD j 0+1
theorem Zfh {pl:Array Nat}(R:Ris pl) {j:Nat}(hj:j<=pl.size):SetTable.below pl (slotAt pl j)=j:=by
 obtain⟨b1,b2,b3⟩:=Zdy R (slotAt pl j);cases j with
 |zero=>
  apply Classical.byContradiction;intro h;have hlt:0<pl.size:=by omega
  have:=b2 0 _ (by omega) (Array.getElem?_eq_getElem hlt);exact absurd this (by show ¬ _<0;omega)
 |succ j=>
  have hlt:j<pl.size:=by omega
  have hg:pl.getD j 0=pl[j]:=by simp[Array.getD,hlt]
  have es:slotAt pl (j+1)=pl[j]+1:=by show pl.getD j 0+1=_;rw[hg]
  rw[es]at b1 b2 b3 ⊢;rcases Wd1 (SetTable.below pl (pl[j]+1)) (j+1) with z|z|z
  ·have:=b3 j _ (by omega) (Array.getElem?_eq_getElem hlt)
   omega
  ·exact z
  ·have hlt2:j+1<pl.size:=by omega
   have h1:=b2 (j+1) _ z (Array.getElem?_eq_getElem hlt2);have h2:=R j (j+1) _ _ (by omega) (Array.getElem?_eq_getElem hlt) (Array.getElem?_eq_getElem hlt2);omega
theorem SetG.keep {h h':Heap}{a:Addr}{o:Obj}{es:Array (Int × Value)}{ep:Nat}{t:SetTable}{ks:List Int}(g:SetG prog w h a o es ep t ks) (k:∀o,h.get? a=some o->h'.get? a=some o):SetG prog w h' a o es ep t ks:=
 ⟨k _ g.get,g.ex,g.dat,g.el,g.room,g.fit,g.tab,g.perm,g.nd⟩
theorem Zg5 (hh:A.handled=none) {I a:Addr}(hne:a≠I) {o:Obj}{es:Array (Int × Value)}{ep:Nat}{t:SetTable}{ks:List Int}(sl:Nat->Nat) (L:List (Int × Value))
  (hs:∀(s:Shared) j e,SetG prog w s.heap a o es ep t ks->L[j]?=some e->∀(A:Around) (E:Value->Shared->Prop) (Q':Option (Value × Nat)->Shared->Prop),Q' (some (e.2,sl (j+1))) s->wpAny (model prog w) A (setNext a (sl j) j ep) Q' E s)
  (hd:∀(s:Shared),SetG prog w s.heap a o es ep t ks->∀(A:Around) (E:Value->Shared->Prop) (Q':Option (Value × Nat)->Shared->Prop),Q' none s->wpAny (model prog w) A (setNext a (sl L.length) L.length ep) Q' E s) :
  Walks prog w A I [I,a] [I] L.length (λj v=>∃e,L[j]?=some e/\v=e.2) (λj h=>h.get? I=some (setItO (.int (sl j) 0) j a es.size ep)/\SetG prog w h a o es ep t ks) where
 sub:=λb hb=>by simp at hb;simp[hb]
 frame:=λ_ _ _ st hk=>⟨hk I (by simp) _ st.1,st.2.keep λo e=>hk a (by simp) o e⟩
 item:=λi s Q E hi st hQ=>by
  refine Zly st.1 st.2 (hs s i _ st.2 (Waa hi)) λh' e sb=>?_;refine hQ _ h' s.toks ⟨_,Waa hi,rfl⟩ ⟨e,st.2.keep λo q=>(sb.2 a hne).trans q⟩ λb o hb q=>(sb.2 b (λz=>hb (by simp[z]))).trans q
 done:=λs Q E st hQ=>Zmi hh st.1 st.2 (hd s st.2) λh' eb=>hQ h' s.toks λb o hb e=>eb b o (λz=>hb (by simp[z])) e
 self:=λ_ _ _ _ st hQ=>Zhe st.1 hQ
theorem Zjx (hh:A.handled=none) {I a T:Addr}(hne:a≠I) (hnt:T≠I) {o:Obj}{es:Array (Int × Value)}{ep:Nat}{t:SetTable}{ks:List Int}(pl:List Nat) (L:List (Int × Value)) (hl:L.length=pl.length) (hs:∀(j k:Nat) e,pl[j]?=some k->L[j]?=some e->es[k]?=some e) :
  Walks prog w A I [I,a,T] [I] L.length (λj v=>∃e,L[j]?=some e/\v=e.2) (λj h=>h.get? I=some (setItO (.ref T) j a es.size ep)/\SetG prog w h a o es ep t ks/\h.get? T=some { cls:=.type "tuple",data:=.seq (pl.map λj:Nat=>rawInt (j:Int)).toArray }) where
 sub:=λb hb=>by simp at hb;simp[hb]
 frame:=λ_ _ _ st hk=>⟨hk I (by simp) _ st.1,st.2.1.keep λo e=>hk a (by simp) o e,hk T (by simp) _ st.2.2⟩
 item:=λi s Q E hi st hQ=>by
  have hp:i<pl.length:=by omega
  refine Zjk st.1 st.2.1 st.2.2 (Waa hp) (hs i _ _ (Waa hp) (Waa hi)) λh' e sb=>?_;refine hQ _ h' s.toks ⟨_,Waa hi,rfl⟩ ⟨e,st.2.1.keep λo q=>(sb.2 a hne).trans q,(sb.2 T hnt).trans st.2.2⟩ λb o hb q=>(sb.2 b (λz=>hb (by simp[z]))).trans q
 done:=λs Q E st hQ=>Zgw hh st.1 st.2.1 st.2.2 (Wb8 (by omega)) λh' eb=>hQ h' s.toks λb o hb e=>eb b o (λz=>hb (by simp[z])) e
 self:=λ_ _ _ _ st hQ=>Zhe st.1 hQ
theorem Zps {src:Source}{n:Nat}{Q:Nat->Shared->Prop}(hn:n≠0) (q:∀k dr,k<n->Q k { s with drawn:=dr }):wpAny (model prog w) A (choose src n) Q E s:=by
 intro Γ p _;unfold choose;rw[Sem.wp_choose];refine⟨hn,?_⟩;show Sem.wp _ _ (Sem.pure _) _ _ _ _
 first|rw[Sem.wp_pure]|simp only[Sem.wp]
 exact q _ _ (Wd0 _ (Nat.pos_of_ne_zero hn))
theorem Zol:∀(n:Nat) {s:Shared}{xs:List Nat}{Q:List Nat->Shared->Prop},xs.length=n->(∀ys dr,ys.Perm xs->Q ys { s with drawn:=dr })->wpAny (model prog w) A (drawOrder n xs) Q E s
 |0,s,xs,Q,h,q=>by
  have:xs=[]:=Wb5 h;subst this;unfold drawOrder;exact wpAny_pure (q [] s.drawn (List.Perm.refl _))
 |n+1,s,[],Q,h,q=>by simp at h
 |n+1,s,x::xs,Q,h,q=>by
  unfold drawOrder;refine wpAny_bind (Zps (by simp) λk dr hk=>?_);rw[Waa hk];refine wpAny_bind (Zol n (by rw[List.length_eraseIdx_of_lt hk];omega) λys dr' hy=>wpAny_pure (q _ dr' ?_));exact(List.Perm.cons _ hy).trans (Ze3 hk)
end
end L2
namespace L2
open PySem PySem.Spec PyProof.Rows PySem.SeqAt
section
variable {prog:Program}{w:World}{A:Around}{E:Value->Shared->Prop}{s:Shared}
structure SWalk (prog:Program) (w:World) (A:Around) (a:Addr) (es:Array (Int × Value)) (s s1:Shared) (I:Addr) where
 fp:List Addr
 L:List (Int × Value)
 St:Nat->Heap->Prop
 old:∀b o,s.heap.get? b=some o->s1.heap.get? b=some o
 new:s.heap.objs.size<=I
 fpo:∀b∈fp,b=a\/s.heap.objs.size<=b
 perm:L.Perm es.toList
 W:Walks prog w A I fp [I] L.length (λj v=>∃e,L[j]?=some e/\v=e.2) St
 st:St 0 s1.heap
theorem Zmb (es:Array (Int × Value)):(Wai es.size).map (λk=>es.getD k (0,.none))=es.toList:=by
 apply Wer
 ·simp
 ·intro i h1 h2
  simp only[List.getElem_map,Wcm,Array.getElem_toList];simp only[Array.length_toList]at h2;simp[Array.getD,h2]
theorem set_iter {a:Addr}{o:Obj}{es:Array (Int × Value)}{ep:Nat}{t:SetTable}{ks:List Int}{Q:Value->Shared->Prop}(hh:A.handled=none) (g:SetG prog w s.heap a o es ep t ks)
  (q:∀(h1:Heap) dr (I:Addr),Nonempty (SWalk prog w A a es s { s with heap:=h1,drawn:=dr } I)->Q (.ref I) { s with heap:=h1,drawn:=dr }):wpAny (model prog w) A (pyIter (.ref a)) Q E s:=by
 have hT:s.TypeIs (.ref a) "set":=⟨o,g.get,g.ex.1⟩;have hlt:a<s.heap.objs.size:=War g.get;have hne1:a≠s.heap.objs.size:=Wav hlt;have hne2:a≠s.heap.objs.size+1:=Wav (Wbn hlt);have hroom:es.size<=sizeLine:=by
  have:=g.room;rw[sizeLine_eq];unfold scanBound at this;omega
 refine wpAny_pyIter_slot hT F.slot_set_iter (wpAny_call_entry F.slot_set_iter hT Zgr ?_ (F.args_set_iter_1 _));unfold Builtin.«frozenset.__iter__» Builtin.Frozenset.slot0 slotArgs;simp only[Weq,Wcv,Wao,↓reduceIte,bind_assoc,Wb3,bne_self_eq_false];unfold Builtin.Frozenset.addrOf Builtin.Frozenset.sizeOf;refine wpAny_bind (wpAny_pure ?_)
 try dsimp only
 refine wpAny_bind (wpAny_pure ?_);refine wpAny_bind (wpAny_bind (wpAny_setEntries_of g.get g.dat g.fit (wpAny_pure ?_)));rw[Zj7];refine wpAny_bind (wpAny_bind (wpAny_setState_of g.get g.dat g.fit (wpAny_bind (Zex (wpAny_pure ?_)))));by_cases hd:(!byTextB w && (!t.plain && decide (es.size > 1)))=true
 ·have hd2:=hd
  rw[if_pos hd];refine wpAny_bind (Zol es.size (by simp) λys dr hy=>?_);have hyl:=hy.length_eq;rw[Wa7]at hyl;refine wpAny_bind (wpAny_newTuple ?_ (by rw[Wab,hyl];exact hroom));have g1:=g.keep (h':=s.heap.push (seqObj "tuple" (ys.map λi:Nat=>rawInt (i:Int)).toArray 0)) λo e=>Wac _ e;refine wpAny_bind (wpAny_setEpoch_of g1.get g1.dat g1.fit ?_);refine wpAny_bind (wpAny_newObj_type ?_ (by size_fits));have hsz:(s.heap.push (seqObj "tuple" (ys.map λi:Nat=>rawInt (i:Int)).toArray 0)).objs.size=s.heap.objs.size+1:=size_push' _ _;have hI:((s.heap.push (seqObj "tuple" (ys.map λi:Nat=>rawInt (i:Int)).toArray 0)).push (setItO (.ref s.heap.objs.size) 0 a es.size ep)).get? (s.heap.objs.size+1)=some (setItO (.ref s.heap.objs.size) 0 a es.size ep):=by
   rw[<- hsz];exact Wam _ rfl
  have hTu:((s.heap.push (seqObj "tuple" (ys.map λi:Nat=>rawInt (i:Int)).toArray 0)).push (setItO (.ref s.heap.objs.size) 0 a es.size ep)).get? s.heap.objs.size=some { cls:=.type "tuple",data:=.seq (ys.map λj:Nat=>rawInt (j:Int)).toArray }:=
   Wac _ (Wam _ rfl)
  show wpAny _ _ (ret (.ref (s.heap.push (seqObj "tuple" (ys.map λi:Nat=>rawInt (i:Int)).toArray 0)).objs.size)) _ _ { s with heap:=(s.heap.push (seqObj "tuple" (ys.map λi:Nat=>rawInt (i:Int)).toArray 0)).push (setItO (.ref s.heap.objs.size) 0 a es.size ep),drawn:=dr };rw[hsz];refine wpAny_pure ⟨_,rfl,"set_iterator",_,⟨_,hI,rfl⟩,Zat.lookup,?_⟩;have hin:∀k∈ys,k<es.size:=λk hk=>Waw.mp (hy.mem_iff.mp hk);have hL:(ys.map λk=>es.getD k (0,.none)).length=ys.length:=Wab _;refine q _ dr (s.heap.objs.size+1) ⟨⟨[s.heap.objs.size+1,a,s.heap.objs.size],ys.map λk=>es.getD k (0,.none),_,λb o e=>Wac _ (Wac _ e),Wcx _,?_,?_,Zjx hh hne2 (Wav (Nat.lt_succ_self _)) ys _ hL ?_,hI,g1.keep λo e=>Wac _ e,hTu⟩⟩
  ·intro b hb
   simp only[Wal,Wb7,or_false]at hb;rcases hb with h|h|h
   ·exact .inr (by rw[h];exact Wcx _)
   ·exact .inl h
   ·exact .inr (Nat.le_of_eq h.symm)
  ·exact(hy.map _).trans (List.Perm.of_eq (Zmb es))
  ·intro j k e h1 h2
   rw[Wad,h1]at h2;cases h2;have:=hin k (Wat h1);simp[Array.getD,this]
 ·rw[if_neg hd]
  refine wpAny_bind (wpAny_pure ?_);refine wpAny_bind (wpAny_setEpoch_of g.get g.dat g.fit ?_);refine wpAny_bind (wpAny_newObj_type ?_ (by size_fits));have hI:(s.heap.push (setItO (.int 0 0) 0 a es.size ep)).get? s.heap.objs.size=some (setItO (.int 0 0) 0 a es.size ep):=Wam _ rfl;refine wpAny_pure ⟨_,rfl,"set_iterator",_,⟨_,hI,rfl⟩,Zat.lookup,?_⟩;have g1:=g.keep (h':=s.heap.push (setItO (.int 0 0) 0 a es.size ep)) λo e=>Wac _ e;have fpo:∀b∈[s.heap.objs.size,a],b=a\/s.heap.objs.size<=b:=λb hb=>by
   simp at hb;rcases hb with h|h
   ·right;omega
   ·exact .inl h
  cases hb:byTextB w with
  |true=>
   refine q _ s.drawn s.heap.objs.size ⟨⟨[s.heap.objs.size,a],(pickOrder (w.params.setOrder a ep) es).toList,_,λb o e=>Wac _ e,Wah _,fpo,Zna _ _,Zg5 hh hne1 (λ_=>0) _ ?_ ?_,hI,g1⟩⟩
   ·intro s j e g he A E Q' hq
    refine Zin hb g ?_;rw[Array.getElem?_toList]at he;rw[he];exact hq
   ·intro s g A E Q' hq
    refine Zin hb g ?_;rw[Array.getElem?_eq_none (by simp)];exact hq
  |false=>
   have hd':(!t.plain && decide (es.size > 1))=false:=by
    rw[hb]at hd;simpa using hd
   have hps:t.place.size=es.size:=by
    have:=g.fit;unfold SetTable.fits at this;simp only[Wbg,beq_iff_eq]at this;exact this.1
   refine q _ s.drawn s.heap.objs.size ⟨⟨[s.heap.objs.size,a],es.toList,_,λb o e=>Wac _ e,Wah _,fpo,List.Perm.refl _,Zg5 hh hne1 (slotAt t.place) _ ?_ ?_,hI,g1⟩⟩
   ·intro s j e g he A E Q' hq
    refine Zg0 hb g hd' ?_;rw[Array.getElem?_toList]at he;have hj:=(Array.getElem?_eq_some_iff.mp he).1;rw[Zfh g.tab.ris (by omega),he,Array.getElem?_eq_getElem (by omega)];have:slotAt t.place (j+1)=t.place[j]+1:=by
     show t.place.getD j 0+1=_;simp[Array.getD,show j<t.place.size by omega]
    rw[this]at hq;exact hq
   ·intro s g A E Q' hq
    refine Zg0 hb g hd' ?_;rw[Array.length_toList,Zfh g.tab.ris (Nat.le_of_eq hps.symm),Array.getElem?_eq_none (Wah _)];exact hq
end
end L2
namespace L2
open PySem PySem.Spec PyProof.Rows PySem.SeqAt
section
variable {prog:Program}{w:World}{A:Around}{E:Value->Shared->Prop}{s:Shared}
theorem Zq0 {r:Addr}{Q:Bool->Shared->Prop}(hT:s.TypeIs (.ref r) "set") (h:Q false s):wpAny (model prog w) A (Builtin.List.listLengthHint (.ref r)) Q E s:=by
 unfold Builtin.List.listLengthHint;refine wpAny_bind (wpAny_specialOf hT F.slot_set_len.lookup ?_);generalize hid:("set.__len__":String)=nm
 wp_delta
 rw[show splitId nm=some ("set","__len__") by subst hid;decide +kernel];subst hid;refine wpAny_bind (wpAny_isInstance (T:="set") (b:=true) hT (by rw[isSubtype_type];kernel_rfl) ?_);refine wpAny_ite_split (λz=>absurd z (by decide)) λ_=>?_;refine wpAny_ite_split (λ_=>wpAny_bind (wpAny_typeOf hT (wpAny_pure h))) λz=>absurd (by decide +kernel) z
theorem Zjw {L:List (Int × Value)}{acc:Array Value}(h:ItemsOf (λj v=>∃e,L[j]?=some e/\v=e.2) acc L.length):acc.toList=L.map (·.2):=by
 obtain⟨h1,h2⟩:=h;apply Wb6;intro i;rw[Array.getElem?_toList,Wad];by_cases hi:i<acc.size
 ·obtain⟨e,e1,e2⟩:=h2 i _ (Array.getElem?_eq_getElem hi)
  rw[e1,Array.getElem?_eq_getElem hi,e2];rfl
 ·rw[Array.getElem?_eq_none (by omega),Wb8 (by omega)];rfl
theorem Zlx {R:Result->Shared->Prop}{a S:Addr}{o:Obj}{es:Array (Int × Value)}{ep c₀:Nat}{t:SetTable}{ks:List Int}(hh:A.handled=none) (g:SetG prog w s.heap a o es ep t ks) (hSa:S≠a) (res:Value) (hS:s.heap.get? S=some { cls:=.type "list",data:=.seq #[] c₀ })
  (hR:∀h' tk dr c' (L:List (Int × Value)),(∀b o,b≠S->s.heap.get? b=some o->h'.get? b=some o)->L.Perm es.toList->h'.get? S=some { cls:=.type "list",dict:=none,data:=.seq (L.map (·.2)).toArray c',slots:=#[] } -> R (.ok (.ret res)) { s with heap:=h',toks:=tk,drawn:=dr }) :
  wpAny (model prog w) A.in1 (Builtin.List.listExtendWith (.ref S) (.ref a) res)
   (λfin s'=>match fin with|.done f=>R (.ok f) s'|.again c'=>c'.quiet=true/\codeAny (model prog w) A c' R s') (λe s'=>R (.error e) s') s:=by
 have hT:s.TypeIs (.ref a) "set":=⟨o,g.get,g.ex.1⟩;have hSl:S<s.heap.objs.size:=War hS;unfold Builtin.List.listExtendWith;refine wpAny_bind (wpAny_typeOf (T:="set") hT ?_);have h1:Builtin.List.listSameRef (.ref S) (.ref a)=false:=by simp[Builtin.List.listSameRef,hSa]
 have h2:(Value.type "set" == Value.type "list")=false:=by decide +kernel
 have h3:(Value.type "set" == Value.type "tuple")=false:=by decide +kernel
 simp only[h1,h2,h3,Bool.or_false,Wao,if_false];refine wpAny_bind (set_iter hh g λh1 dr I ⟨K⟩=>?_);have hK:=K.perm.length_eq;have hn:K.L.length<=sizeLine:=by
  have:=g.room;rw[hK,Array.length_toList,sizeLine_eq];unfold scanBound at this;omega
 have hSf:S ∉ K.fp:=λz=>by
  rcases K.fpo S z with z|z
  ·exact hSa z
  ·exact absurd hSl (Nat.not_lt.mpr z)
 have key:∀(h:Heap) (c₁ tk:Nat),K.St 0 h->(∀b o,b≠S->s.heap.get? b=some o->h.get? b=some o) →
   h.get? S=some { cls:=.type "list",data:=.seq #[] c₁ } -> codeAny (model prog w) A (.builtin "list.extend.loop" ⟨[.ref S,.ref I,res],[]⟩) R { s with heap:=h,toks:=tk,drawn:=dr }:=by
  intro h c₁ tk hst hk hS₁;refine codeAny_extend_loopS K.W.toS hn S hSf res _ 0 _ #[] c₁ rfl (Wbl _) hst hS₁ (ItemsOf.nil _) λs' acc' c' hm hS' hacc=>?_;rw[Moved.eq_with hm];have ea:=Zjw hacc;refine hR s'.heap s'.toks dr c' K.L (λb o hb e=>hm.heap b o (λhmem=>?_) (hk b o hb e)) K.perm ?_
  ·rcases Wal.mp hmem with e'|hmem
   ·exact hb e'
   ·exact absurd (War e) (by rw[Wbc.mp hmem];exact Nat.not_lt.mpr K.new)
  ·rw[<- ea,Array.toArray_toList];exact hS'
 have hS₁:=K.old _ _ hS;refine wpAny_bind (wpAny_holding (Zq0 ⟨o,K.old _ _ g.get,g.ex.1⟩ ?_));refine wpAny_ite_split (λ_=>?_) (λ_=>wpAny_pure ⟨plainId_quiet F.plain_extend_loop _,key _ c₀ _ K.st (λb o _ e=>K.old _ _ e) hS₁⟩);refine wpAny_bind (wpAny_rule ?_);refine wpAny_bind ?_;show wpAny _ _ (updateSeq S (·.push .none) >>= λ_=>updateSeq S (·.pop)) _ _ _;refine wpAny_bind (wpAny_updateSeq hS₁ rfl ?_);have hS₂:=Wb9 (Obj.mapSeq (·.push Value.none)) hS₁ rfl;refine wpAny_updateSeq (hz:=by seq_fits) hS₂ rfl ?_;have hS₃:=Wb9 (Obj.mapSeq (·.pop)) hS₂ rfl;refine wpAny_pure ⟨plainId_quiet F.plain_extend_loop _,key _ _ _ ?_ (λb o hb e=>?_) hS₃⟩
 ·refine K.W.frame 0 _ _ K.st λb hb o e=>?_
  have hbS:S≠b:=λh=>hSf (h ▸ hb);exact(Wci _ _ hbS).trans ((Wci _ _ hbS).trans e)
 ·exact(Wci _ _ (Ne.symm hb)).trans ((Wci _ _ (Ne.symm hb)).trans (K.old _ _ e))
theorem Zkh {R:List Value->Shared->Prop}{a:Addr}{o:Obj}{es:Array (Int × Value)}{ep:Nat}{t:SetTable}{ks:List Int}(hh:A.handled=none) (g:SetG prog w s.heap a o es ep t ks)
  (h:∀(h':Heap) (tk:Nat) dr (L:List (Int × Value)),(∀b o,s.heap.get? b=some o->h'.get? b=some o)->s.heap.objs.size<h'.objs.size->L.Perm es.toList->R (L.map (·.2)) { s with heap:=h',toks:=tk,drawn:=dr }) :
  wpAny (model prog w) A (collect (.ref a)) R E s:=by
 have hlt:a<s.heap.objs.size:=War g.get;unfold collect;refine wpAny_bind (wpAny_runValue (codeAny_builtin entry_proto_collect' ?_));rw[Around.under_plainId F.plain_proto_collect _];show wpAny _ A.in1 (newList [] >>= λl=>again (.builtin "list.__iadd__" ⟨[l,.ref a],[]⟩)) _ _ s;refine wpAny_bind (wpAny_newList ?_);refine wpAny_pure ⟨plainId_quiet F.plain_list_iadd _,codeAny_builtin entry_list_iadd' ?_⟩;rw[Around.under_plainId F.plain_list_iadd _];show wpAny _ A.in1 (Builtin.List.listExtendWith (.ref s.heap.objs.size) (.ref a) (.ref s.heap.objs.size)) _ _ _;have hS₁:(s.heap.push (seqObj "list" ([]:List Value).toArray 0)).get? s.heap.objs.size=some { cls:=.type "list",data:=.seq #[] 0 }:=Wam _ rfl;have z:=Zlx (A:=A) (s:={ s with heap:=s.heap.push (seqObj "list" ([]:List Value).toArray 0) })
  (R:=λ(q:Result) (s':Shared)=>∃(h':Heap) (tk:Nat) (dr:_) (c':Nat) (L:List (Int × Value)),q=.ok (.ret (.ref s.heap.objs.size))/\s' = { s with heap:=h',toks:=tk,drawn:=dr } ∧
   (∀b o,s.heap.get? b=some o->h'.get? b=some o)/\L.Perm es.toList/\h'.get? s.heap.objs.size=some { cls:=.type "list",dict:=none,data:=.seq (L.map (·.2)).toArray c',slots:=#[] })
  hh (g.keep λo e=>Wac _ e) (Wdk hlt) (.ref s.heap.objs.size) hS₁
  λh' tk dr c' L hk hp hS'=>⟨h',tk,dr,c',L,rfl,rfl,λb o e=>hk b o (Wav (War e)) (Wac _ e),hp,hS'⟩
 refine wpAny_mono z (λfin s' x=>?_) λe s' x=>?_
 ·cases fin with
  |done f=>
   obtain⟨h',tk,dr,c',L,e,rfl,hk,hp,hS'⟩:=x;cases e;show wpAny _ A (load s.heap.objs.size >>= _) _ _ _;refine wpAny_bind (wpAny_load hS' ?_);exact wpAny_pure (h h' tk dr L hk (War hS') hp)
  |again c₁=>
   refine⟨x.1,codeAny_mono x.2 λq s₂ y=>?_⟩;obtain⟨h',tk,dr,c',L,rfl,rfl,hk,hp,hS'⟩:=y;show wpAny _ A (load s.heap.objs.size >>= _) _ _ _;refine wpAny_bind (wpAny_load hS' ?_);exact wpAny_pure (h h' tk dr L hk (War hS') hp)
 ·obtain⟨h',tk,dr,c',L,e,_⟩:=x
  cases e
theorem Zf4:∀{vs:List Value},(∀v∈vs,∃t,v=.int (numOf v) t)->IntsAre vs (vs.map numOf)
 |[],_=>.nil
 |v::vs,h=>by
  obtain⟨t,e⟩:=h v (by simp);have:=Zf4 (vs:=vs) λu hu=>h u (Was _ hu);rw[Wbe];generalize numOf v=n at e ⊢;subst e;exact .cons _ t this
theorem Zl9 {a:Addr}{ks:List Int}{Q:Value->Shared->Prop}(hh:A.handled=none) (hS:SetI prog w s.heap a ks) (h64:ks.length<64)
  (h:∀(h':Heap) (tk:Nat) dr (l:Addr) (out:List Value) (ms:List Int) (c:Nat),(∀b o,s.heap.get? b=some o->h'.get? b=some o)->s.heap.objs.size<=l->h'.get? l=some (seqObj "list" out.toArray c)->IntsAre out ms->ms.Perm ks->ms.Pairwise (· <= ·)->Q (.ref l) { s with heap:=h',toks:=tk,drawn:=dr }) :
  wpAny (model prog w) A (call (.builtin "sorted") [.ref a]) Q E s:=by
 obtain⟨o,es,ep,t,g⟩:=hS;refine Calls.call_function_entry kind_sorted plain_sorted entry_sorted (args_sorted1 _) ?_;unfold Builtin.«sorted»;refine wpAny_bind (m:=checkCount "sorted" 1 1 _) (wpAny_pure ?_);refine wpAny_bind (Zkh hh g λh' tk dr L hk hsz hp=>?_);have hI:IntsAre (L.map (·.2)) ((L.map (·.2)).map numOf):=Zf4 λv hv=>by
  obtain⟨e,he,rfl⟩:=Way.mp hv;exact Zkk g.el (hp.mem_iff.mp he)
 have hpk:((L.map (·.2)).map numOf).Perm ks:=by
  rw[Wa3];exact(hp.map _).trans g.perm
 have hlen:(L.map (·.2)).length<64:=by
  have:=hpk.length_eq;rw[Wab]at this;omega
 refine wpAny_bind (wpAny_newList ?_ (by rw[sizeLine_eq];omega));have hoL:(h'.push (seqObj "list" (L.map (·.2)).toArray 0)).get? h'.objs.size=some (seqObj "list" (L.map (·.2)).toArray 0):=Wam _ rfl;refine wpAny_bind (wpAny_holding (wpAny_call_entry slot_list_sort ⟨_,hoL,rfl⟩ entry_list_sort (list_sort_tree hoL hI hlen λout ms a1 a2 a3=>⟨_,rfl,?_⟩) (args_list_sort _)));obtain⟨c,hc⟩:=sortedHeap_at (out:=out) hoL;refine wpAny_pure ⟨_,rfl,h _ tk dr _ out.toList ms c (λb o e=>?_) (Wcd hsz) (by rw[Array.toArray_toList];exact hc) a1 (a2.trans hpk) a3⟩;have hb:=hk b o e;have hbl:=War hb;rw[sortedHeap_old (Wav hbl) (by rw[size_push'];exact Wbn hbl)];exact Wac _ hb
end
end L2
namespace L2
open PySem PySem.Spec PyProof.Rows PySem.SeqAt
section
variable {X:Cx}
theorem Inv.drew {pins:List (Addr × Obj)}{σ:List (Option V)}{H:Hp}{s:Shared}(I:Inv X pins σ H s) (dr:_):Inv X pins σ H { s with drawn:=dr }:=
 ⟨I.ok,I.os,I.bare,I.base,I.loc,I.cell,I.free,I.freeC,I.pin,I.hok,I.len⟩
theorem Zo4 {ms:List Int}(h1:ms.Pairwise (· <= ·)) (h2:ms.Nodup):ms.Pairwise (· < ·):=by
 have:=List.Pairwise.and h1 h2;exact this.imp λhq_=>by obtain⟨a,b⟩:=hq_;omega
theorem Zh2 {ns:List Int}{x:Int}:x∈metK (λi=>ns.getD i 0) ns.length↔x∈ns:=by
 rw[Zrx];constructor
 ·rintro⟨j,hj,rfl⟩
  rw[Wae,Waa hj];exact Wa5 hj
 ·intro h
  obtain⟨j,hj,rfl⟩:=List.getElem_of_mem h;exact⟨j,hj,by rw[Wae,Waa hj];rfl⟩
def tSS (K:W.Frag) (ta:TA):TE:=λσ H Q=>ta σ H λvs H1=>∃(p:Addr) (ns:List Int),vs=[.ref p]/\SqL K H1 p (ns.map V.int)/\ns.length<64/\∀(l:Addr) (ms:List Int),ms.Pairwise (· < ·)->(∀x,x∈ms↔x∈ns)->H1 l=none->Q (.ref l) (upd H1 l (.lst (ms.map V.int)))
theorem Zg1 {a:Expr}{ta:TA}{p p2 pos pos2:Pos}{K:W.Frag}(hK:X.K=K) (hc:X.calm=true) (hgL:Gl X "sorted") (hmL:X.mg "sorted" = none) (hgR:Gl X "set") (hmR:X.mg "set" = none) (ha:PA X [a] ta) (hs:starEach [a] X.env=[(false,eval a X.env)]:=by rfl)
  (he:starEach [.Call (.Name "set" p2) [a] [] pos2] X.env=[(false,eval (.Call (.Name "set" p2) [a] [] pos2) X.env)]:=by rfl) :
  PE X (.Call (.Name "sorted" p) [.Call (.Name "set" p2) [a] [] pos2] [] pos) (tSS K ta):=by
 subst hK;intro pins s σ H Q I h;refine wpAny_Call_Name_kw (Zd7 I hgL hmL Zey ?_);refine PyProof.Rows.callWith_builtin1 ?_ he rfl;rw[he];show wpAny _ _ (spliced ((false,eval (.Call (.Name "set" p2) [a] [] pos2) X.env)::backTo pos [])) _ _ s;refine Calls.spliced_cons ?_;refine wpAny_Call_Name_kw (Zd7 I hgR hmR Zof ?_);refine PyProof.Rows.callWith_type1 (thn (ha pos2 pins s σ H _ I h) λus s1 ⟨vs,H1,I1,r1,q1⟩=>?_) hs rfl;obtain⟨p,ns,e,hx,hl,q⟩:=q1;subst e;obtain⟨u,rfl,ru⟩:=vals1 r1;cases (show u=Value.ref p from ru);obtain⟨its,w1,p1,hz⟩:=I1.list hx;have hi:=Zdu w1;have hlen:=hi.length;refine Zpp (I1.ok.hd hc) p1.isList (by simpa using hi) (by rw[Wak];unfold scanBound;omega) λh' tk hS hk=>?_;rw[show its.toArray.size=ns.length by rw[Wak];exact hlen]at hS;refine Calls.spliced_nil ?_;have I2:Inv X pins σ H1 { s1 with heap:=h',toks:=tk }:=I1.kept hk;have hm:=Zlg (λi=>ns.getD i 0) ns.length;refine Zl9 (s:={ s1 with heap:=h',toks:=tk }) (I1.ok.hd hc) hS (by omega) λh2 tk2 dr l out ms c k2 hl2 ho2 hi2 hp2 hs2=>?_;have hml:=hp2.length_eq;have nd:ms.Nodup:=by
  obtain⟨_,_,_,_,g⟩:=hS;exact hp2.nodup_iff.mpr g.nd
 have I3:=(I2.laid (t':=tk2) k2 hl2 (show ObjOk X.prog X.w _ h2 l (.lst (ms.map V.int)) from ⟨by rw[Wab];exact Wcd (small1000 (by omega)),out,c,Zen hi2,ho2⟩)).drew dr;exact⟨.ref l,_,I3,rfl,q l ms (Zo4 hs2 nd) (λx=>hp2.mem_iff.trans Zh2) (I2.hok.fresh hl2)⟩
end
section
variable {K:W.Frag}{Δ:Evt}
theorem Zwy {ta:TA}{Po:OD->Evt->Prop}(h:JA K ta Δ λds Δ1=>∃ns:List Int,ds=[.lst (ns.map .int)]/\ns.length<64/\∀ms:List Int,ms.Pairwise (· < ·)->(∀x,x∈ms↔x∈ns)->Po (.lst (ms.map .int)) Δ1):JO K (tSS K ta) Δ Po:=λg G H σ Q k c=>
 h g G H σ _ k λvs ds G1 H1 Δ1 k1 s1 r1 hq_=>by
  obtain⟨ns,e,hl,p⟩:=hq_;subst e;obtain⟨_,_,rfl,r,t⟩:=r1.inv
  next=>
   cases t.inv;obtain⟨a,us,rfl,ha,rr⟩:=r.inv
   next=>
    have ev:=rr.ints;subst ev;refine⟨a,ns,rfl,SqL.of (k1.live _ _ ha),hl,λl ms o1 o2 hl=>?_⟩;obtain⟨k2,pd⟩:=k1.fresh (od:=.lst (ms.map .int)) hl (show OwnRep K G1 (.lst (ms.map V.int)) (.lst (ms.map .int)) from Reps.ofInts ms);exact c l _ G1 _ Δ1 k2 s1 pd (p ms o1 o2)
end
structure CompScK (osc:Scope) (oN:List Str) (y:Str) (scope:Scope) (fvs:List Str) (sel:List Nat):Prop where
 kind:scope.kind=.function
 one:scope.names.filter (λz=>z.2 == .cell)=[(y,.cell)]
 own:∀z∈scope.names,z.1=y->z.2=.cell
 names:∀z∈scope.names,z.2=.local->scope.names.lookup z.1=some .local
 free:∀z∈scope.names,z.2=.free->osc.names.lookup z.1=some .cell\/osc.names.lookup z.1=some .free
 len:fvs.length=sel.length
 fv:∀p∈fvs.zip sel,oN[p.2]?=some p.1/\scope.names.lookup p.1=some .free
def compCxK (X:Cx) (y:Str) (scope:Scope) (N:List Str) (C:Addr) (s:Shared) (H:Hp) (ex:List Addr) (pn:List (Addr × Obj)):Cx:=
 { compCx X scope N C s H ex pn with env:=compEnvC scope ((y,C+1)::clOf X.env scope.names []) C X.env,fn:=λx=>x == y }
theorem Zdi {y:Str}:∀(names:List (Str × NameKind)) (n:Nat) (acc:List (Str × Addr)),(names.filter (λz=>z.2 == .cell)=[]->cellsFrom n names acc=acc)/\(names.filter (λz=>z.2 == .cell)=[(y,.cell)]->cellsFrom n names acc=(y,n)::acc)
 |[],n,acc=>⟨λ_=>rfl,λh=>by simp at h⟩
 | (x,k)::r,n,acc=>by
  unfold cellsFrom;rw[Wbi];cases hk:k == NameKind.cell with
  |true=>
   simp only[hk,if_true];refine⟨λh=>by simp at h,λh=>?_⟩;have h1:=(List.cons.inj h).1;have h2:=(List.cons.inj h).2;cases h1;exact(Zdi (y:=y) r (n+1) _).1 h2
  |false=>
   simp only[hk,Wao,if_false];exact Zdi r n acc
theorem Zc8 {y:Str}:∀(names:List (Str × NameKind)) (h:Heap),(names.filter (λz=>z.2 == .cell)=[]->pushCells h names=h)/\(names.filter (λz=>z.2 == .cell)=[(y,.cell)]->pushCells h names=h.push { cls:=.type "cell",data:=.cell none })
 |[],h=>⟨λ_=>rfl,λh=>by simp at h⟩
 | (x,k)::r,h=>by
  unfold pushCells;rw[Wbi];cases hk:k == NameKind.cell with
  |true=>
   simp only[hk,if_true];exact⟨λh=>by simp at h,λe=>(Zc8 (y:=y) r _).1 (List.cons.inj e).2⟩
  |false=>
   simp only[hk,Wao,if_false];exact Zc8 r h
section
variable {X:Cx}{pins:List (Addr × Obj)}{σ:St}{H:Hp}{s:Shared}{fp:List Addr}{scope:Scope}{tgs fvs:List Str}{sel:List Nat}{y:Str}
theorem newEnvK {M:Model}{A:Around}{E:Value->Shared->Prop}{osc:Scope}{oN:List Str}{g:Addr}{cl:List (Str × Addr)}{qual:Str}{env:Env}{Q:Env->Shared->Prop}(S:CompScK osc oN y scope fvs sel)
  (q:∀h',h'.Ns s.heap.objs.size (λ_=>none)->h'.IsCell (s.heap.objs.size+1) none->(∀b o,s.heap.get? b=some o->h'.get? b=some o) →
   Q { scope,locals:=s.heap.objs.size,globals:=g,cells:=(y,s.heap.objs.size+1)::cl,qual,func:=none,code:=env.code,frame:=env.frame,builtins:=env.builtins } { s with heap:=h' }) :
  wpAny M A (newFunctionEnv scope g cl [] qual none .none (some env)) Q E s:=by
 simp only[newFunctionEnv,Option.isSome_some,if_true];refine wpAny_bind (wpAny_alloc ?_);refine wpAny_bind (wpAny_layCells _ (λname kind cells=>by cases hkc:kind == NameKind.cell <;> simp[hkc]) _ _ _ _ ?_)
 have hsz:(s.heap.push { cls:=.type "dict",data:=.dict #[] }).objs.size=s.heap.objs.size+1:=Wcq ..;rw[(Zdi (y:=y) _ _ _).2 S.one,(Zc8 (y:=y) _ _).2 S.one];show wpAny M A _ Q E { s with heap:=(s.heap.push { cls:=.type "dict",data:=.dict #[] }).push { cls:=.type "cell",data:=.cell none } };refine wpAny_bind (wpAny_pure (wpAny_pure ?_));have hc:((s.heap.push { cls:=.type "dict",data:=.dict #[] }).push { cls:=.type "cell",data:=.cell none }).get? (s.heap.objs.size+1)=some { cls:=.type "cell",data:=.cell none }:=by
  rw[<- hsz];exact Wam _ rfl
 have z:=q _ ((Heap.Ns.new s.heap (.type "dict")).keeps λb o e=>Wac { cls:=.type "cell",data:=.cell none } e) ⟨_,hc,rfl⟩ λb o e=>Wac _ (Wac _ e);rw[<- hsz]at z;exact z
theorem ownK {env:Env}{names:List (Str × NameKind)}{n:Nat}{x:Str}{c:Addr}(e:((y,n)::clOf env names []).lookup x=some c):(x=y/\c=n)\/env.cells.lookup x=some c:=by
 rw[Wb4]at e;split at e
 ·rename_i h
  cases e;exact .inl ⟨by simpa using h,rfl⟩
 ·exact .inr (Zbf _ _ (λ_ _ z=>by simp at z) e)
theorem Zgn (S:CompScK X.env.scope X.N y scope fvs sel) (ok:X.Ok):∀n,(n,NameKind.free)∈scope.names->∃a,X.env.cells.lookup n=some a:=λn hn=>
 ok.has n (S.free _ hn rfl)
theorem Zry (S:CompScK X.env.scope X.N y scope fvs sel) (N:List Str) (I:Inv X pins σ H s) (hf:∀b∈fp,FpOk X pins H b) (hlt:∀b∈fp,b<s.heap.objs.size):(compCxK X y scope N s.heap.objs.size s H fp (X.pn++pins)).Ok where
 mod:=I.ok.mod
 kind:=S.kind
 glob:=I.ok.glob
 blt:=I.ok.blt
 above:=Wah _
 inj:=λx z c h1 h2=>by
  have old:∀x,X.env.cells.lookup x=some c->c≠s.heap.objs.size+1:=λx e=>by
   obtain⟨v,q⟩:=I.cell x c e;exact Wav (Wbn q.lt)
  rcases ownK h1 with ⟨a,b⟩|a
  ·rcases ownK h2 with ⟨a',b'⟩|a'
   ·rw[a,a']
   ·exact absurd b (old _ a')
  ·rcases ownK h2 with ⟨a',b'⟩|a'
   ·exact absurd b' (old _ a)
   ·exact I.ok.inj x z c a a'
 has:=λx hx=>by
  by_cases hxy:x=y
  ·subst hxy
   exact⟨s.heap.objs.size+1,by show ((x,_)::clOf X.env scope.names []).lookup x=_;simp⟩
  have hm:(x,NameKind.free)∈scope.names:=by
   have key:∀k,(k=.cell\/k=.free)->(relab X.env.scope scope).names.lookup x=some k->(x,NameKind.free)∈scope.names:=λk hk h=>by
    obtain⟨⟨n,j⟩,hy,e⟩:=Way.mp (PySem.mem_of_lookup h);dsimp only at e;split at e
    ·rename_i hj
     have e1:n=x:=congrArg Prod.fst e;have hj':j=.free:=by
      simp only[Wbg,beq_iff_eq]at hj;exact hj.1.1
     rw[<- e1,<- hj'];exact hy
    ·have e1:n=x:=congrArg Prod.fst e
     have e2:j=k:=congrArg Prod.snd e;rcases hk with z|z
     ·have hin:((n,j):Str × NameKind)∈scope.names.filter (λz=>z.2 == .cell):=Wa6.mpr ⟨hy,by rw[e2,z];rfl⟩
      rw[S.one,Wbc]at hin;exact absurd (e1.symm.trans (congrArg Prod.fst hin)) hxy
     ·rw[<- e1,<- z,<- e2];exact hy
   rcases hx with z|z
   ·exact key _ (.inl rfl) z
   ·exact key _ (.inr rfl) z
  obtain⟨c,hc⟩:=Zdd scope.names [] hm (Zgn S I.ok x hm);exact⟨c,by
   show ((y,_)::clOf X.env scope.names []).lookup x=_;rw[Wb4,show (x == y)=false from by simpa using hxy];exact hc⟩
 cab:=λx c h e=>by
  rcases ownK e with ⟨_,z⟩|z
  ·rw[z];exact Wcx _
  ·have hx:x=y:=by simpa using (show (x == y)=true from h)
   subst hx;have:((x,s.heap.objs.size+1)::clOf X.env scope.names []).lookup x=some c:=e;simp at this;rw[<- this];exact Wcx _
 hd:=I.ok.hd
 frames:=I.ok.frames
 stk:=.inl rfl
 exf:=λb hb=>⟨Wav (hlt b hb),λx c e=>by
  rcases ownK e with ⟨_,z⟩|z
  ·rw[z];exact Wdk (Wbn (hlt b hb))
  ·exact(hf b hb).2.2.2.2.1 x c z⟩
 bs:=I.bs
 bsz:=Wbx I.ok.bsz I.sz
 noex:=λb o e hb=>by
  rcases(hf b hb).2.2.2.1 with z|z
  ·exact I.ok.noex b o e z
  ·exact absurd (Wbf (War e) (Wbx I.ok.bsz z)) (Wcw _)
 exfs:=λb hb z=>by
  rcases Wal.mp (I.stkSub b z) with e|z
  ·exact(hf b hb).2.1 e
  ·exact(hf b hb).2.2.1 z
 funs:=I.stack
 frf:=I.stkFree
theorem Zot (S:CompScK X.env.scope X.N y scope fvs sel) (I:Inv X pins σ H s) (hf:∀b∈fp,FpOk X pins H b) (hlt:∀b∈fp,b<s.heap.objs.size) {h':Heap}{tk:Nat}{m:Str->Option Value}
  (hns:h'.Ns s.heap.objs.size m) (hcl:h'.IsCell (s.heap.objs.size+1) none) (old:∀b o,s.heap.get? b=some o->h'.get? b=some o) :
  Inv (compCxK X y scope (tgs++fvs) s.heap.objs.size s H fp (X.pn++pins)) [] (compSt tgs.length sel σ) H { s with heap:=h',toks:=tk } where
 ok:=Zry S _ I hf hlt
 os:=rfl
 bare:=I.bare
 base:=Un.kept old
 loc:=by
  refine⟨m,hns,λi x v h1 h2 h3=>?_⟩;have h1:(tgs++fvs)[i]?=some x:=h1;unfold compSt at h2;by_cases hi:i<tgs.length
  ·rw[Wa8 (by simpa using hi),Wcb,if_pos hi]at h2
   cases h2
  ·have hi':tgs.length<=i:=Nat.le_of_not_lt hi
   rw[Wa0 (by simpa using hi'),Wad,Waz]at h2;rw[Wa0 hi']at h1;cases hj:sel[i-tgs.length]? with
   |none=>rw[hj]at h2;cases h2
   |some j=>
    rw[hj]at h2;have h2:(σ[j]?).getD none=some v:=by simpa using h2
    have hz:(x,j)∈fvs.zip sel:=by
     refine Wat (i:=i-tgs.length) ?_;rw[Wbj];exact⟨h1,hj⟩
    obtain⟨hN,hfr⟩:=S.fv _ hz;have hσ:σ[j]?=some (some v):=by
     cases q:σ[j]? with
     |none=>rw[q]at h2;cases h2
     |some o=>rw[q]at h2;exact congrArg some h2
    have hko:X.env.scope.names.lookup x=some .cell\/X.env.scope.names.lookup x=some .free:=S.free (x,.free) (PySem.mem_of_lookup hfr) rfl;obtain⟨m0,hn0,hl0⟩:=I.loc;obtain⟨u,r,l⟩:=hl0 j x v hN hσ (.inr hko);refine⟨u,r,.inr ⟨Zfa hfr,?_⟩⟩;rcases l with ⟨hk,_⟩|⟨_,c,hc,hcell⟩
    ·have hk:X.env.scope.names.lookup x=some .local:=hk
     rcases hko with z|z <;> (rw[hk]at z;cases z)
    ·obtain⟨c',hc'⟩:=Zdd scope.names [] (PySem.mem_of_lookup hfr) ⟨c,hc⟩
     have e:=Zbf scope.names [] (λ_ _ z=>by simp at z) hc';rw[hc]at e;cases e;obtain⟨o,ho,hd⟩:=hcell;have hxy:(x == y)=false:=by
      cases q:x == y with
      |false=>rfl
      |true=>
       have:x=y:=by simpa using q
       have:=S.own (x,.free) (PySem.mem_of_lookup hfr) this;cases this
     exact⟨c,by show ((y,s.heap.objs.size+1)::clOf X.env scope.names []).lookup x=some c;rw[Wb4,hxy];exact hc',o,old _ _ ho,hd⟩
 cell:=λx c e=>by
  rcases ownK e with ⟨_,z⟩|z
  ·rw[z];exact⟨none,hcl⟩
  ·obtain⟨v,o,ho,hd⟩:=I.cell x c z
   exact⟨v,o,old _ _ ho,hd⟩
 free:=I.hok.fresh (Wah _)
 freeC:=λx c e=>by
  rcases ownK e with ⟨_,z⟩|z
  ·rw[z];exact I.hok.fresh (Wcx _)
  ·exact I.freeC x c z
 pin:=λp hp=>by
  have hp:p∈(X.pn++pins)++[]:=hp;rw[Wbb]at hp;obtain⟨e,n,ne,nf,d⟩:=I.pin p hp;refine⟨old _ _ e,n,Wav (War e),λz=>?_,d⟩;rcases Wal.mp (I.stkSub p.1 z) with q|q
  ·exact ne q
  ·exact nf q
 hok:=I.hok.kept old
 len:=by
  unfold compSt;show _=(tgs++fvs).length;rw[Waq,Waq,Waz,Wab,S.len]
theorem Zl0 {N:List Str}{σ':St}{H':Hp}{s':Shared}{h':Heap}(I:Inv X pins σ H s) (hf:∀b∈fp,FpOk X pins H b)
  (J:Inv (compCxK X y scope N s.heap.objs.size s H fp (X.pn++pins)) [] σ' H' s') (sb:Heap.SameBut s.heap.objs.size s'.heap h'):Inv X pins σ H' { s' with heap:=h' }:=by
 have B:Un (frs X.stack) fp H H' s.heap s'.heap:=J.base;have ne:∀b o,s.heap.get? b=some o->b≠s.heap.objs.size:=λb o e=>Wav (War e);have fr:H' s.heap.objs.size=none:=J.free;refine I.call' (s':={ s' with heap:=h' }) (ch:=fp) J.os ⟨λb o e n h1 h2=>?_,λb o e n h1 h2=>?_,B.free,λb o e h2=>?_,B.tups,B.frzs,B.tbls⟩ (λb ob e=>?_) J.bare λb hb=>?_
 ·exact(sb.2 b (ne b o e)).trans (B.keep b o e n h1 h2)
 ·obtain⟨sl,q⟩:=B.slot b o e n h1 h2
  exact⟨sl,(sb.2 b (ne b o e)).trans q⟩
 ·obtain⟨o',q⟩:=B.there b o e h2
  exact⟨o',(sb.2 b (ne b o e)).trans q⟩
 ·refine(J.hok b ob e).stay (λc w' hc q=>(sb.2 c ?_).trans q) (λ_ q=>q) λ_ _ q=>q
  intro z;rcases hc with hc|hc
  ·rw[<- hc,z,fr]at e;cases e
  ·rw[z,fr]at hc;cases hc
 ·exact⟨(hf b hb).2.2.2.1,(hf b hb).2.1,(hf b hb).2.2.2.2.1,(hf b hb).2.2.2.2.2⟩
end
section
variable {X:Cx}
theorem Zmw {y:Str}{elt tg iter:Expr}{ifs:List Expr}{scope:Scope}{pos:Pos}{tgs fvs:List Str}{sel:List Nat}{g:TG}{tc:TT}{te:TE}(S:CompScK X.env.scope X.N y scope fvs sel) (hc:X.calm=true)
  (hg:∀C s H ex pn,PG (compCxK X y scope (tgs++fvs) C s H ex pn) tg g) (ht:∀C s H ex pn,PTs (compCxK X y scope (tgs++fvs) C s H ex pn) ifs tc) (he:∀C s H ex pn,PE (compCxK X y scope (tgs++fvs) C s H ex pn) elt te)
  {pins:List (Addr × Obj)}{σ:St}{s:Shared}{itv:Value}{Q:VK}{E:Value->Shared->Prop}{RR:Value->Addr->Result->Shared->Prop}
  (h2:PIE X pins σ tg (λJ H1=>∀acc,H1 acc=none->∃W:Nat->Nat->St->Hp->Prop,
   (∃m,W 0 m (compSt tgs.length sel σ) (upd H1 acc (.lst [])))/\∀i m σ' H',W i m σ' H' →
   (J.stop i H' /\ Q (.ref acc) H')\/(J.go i H' /\ ∃N:St->Hp->Prop,(∀σ2 H2,N σ2 H2->∃m',m'<m/\W (i+1) m' σ2 H2) ∧
   ∀x H2,J.yld i H' x H2->g x σ' H2 λσ2 H3=>tc σ2 H3 λb H4=>if b=true then te σ2 H4 λy H5=>∃ys,H5 acc=some (.lst ys)/\ys.length<sizeLine/\N σ2 (upd H5 acc (.lst (ys++[y]))) else N σ2 H4)) itv s)
  (fin:∀(s':Shared) (C acc:Addr) (H':Hp) (m:Str->Option Value),s'.heap.Ns C m->FpOk X pins H' C->(∀h',Heap.SameBut C s'.heap h' -> Inv X pins σ H' { s' with heap:=h' })->Q (.ref acc) H' -> RR (.ref acc) C (.ok .next) s') :
  wpAny (model X.prog X.w) X.A (newList []) (λacc s3=>wpAny (model X.prog X.w) X.A (newFunctionEnv scope X.env.globals (clOf X.env scope.names []) [] X.env.qual none .none (some X.env)) (λcenv s4=>
   codeAny (model X.prog X.w) X.A (.compStart (.ListComp elt [⟨tg,iter,ifs,0⟩] scope pos) 0 itv acc { cenv with scope:=relabel scope X.env }) (RR acc cenv.locals) s4) E s3) E s:=by
 obtain⟨it,fp,tn,J,H1,e,I,T,st,f2,h2⟩:=h2;subst e;have hlt:∀b∈fp,b<s.heap.objs.size:=λb hb=>let ⟨o,ho,_⟩:=T.obj 0 _ st b hb; War ho
 refine wpAny_newObj_type (newEnvK S λh1 hns hcl old=>?_);dsimp only at hns hcl old ⊢;have I3:Inv X pins σ (upd H1 s.heap.objs.size (.lst [])) { s with heap:=s.heap.push { cls:=.type "list",data:=.seq ([]:List Value).toArray },toks:=s.toks }:=I.lnew (its:=[]) .nil (by decide);have hacc:H1 s.heap.objs.size=none:=I.hok.fresh (Wah _);obtain⟨W,⟨m0,w0⟩,turn⟩:=h2 s.heap.objs.size hacc;generalize hs3:({ s with heap:=s.heap.push { cls:=.type "list",data:=.seq ([]:List Value).toArray },toks:=s.toks }:Shared)=s3 at I3;have hh3:s3.heap=s.heap.push { cls:=.type "list",data:=.seq ([]:List Value).toArray }:=by rw[<- hs3]
 have old3:∀b o,s.heap.get? b=some o->s3.heap.get? b=some o:=λb o q=>by rw[hh3];exact Wac _ q
 have hf3:∀b∈fp,FpOk X pins (upd H1 s.heap.objs.size (.lst [])) b:=λb hb=>⟨by rw[Zap (Wav (hlt b hb))];exact(f2 b hb).1,(f2 b hb).2⟩;have hlt3:∀b∈fp,b<s3.heap.objs.size:=λb hb=>by rw[hh3,Wcq];exact Wbn (hlt b hb)
 have tn3:tn 0 s3.heap:=T.keep 0 _ _ st λb hb o q=>old3 b o q;have old4:∀b o,s3.heap.get? b=some o->h1.get? b=some o:=λb o q=>by
  rw[hh3]at q;exact old b o q
 have tn4:tn 0 h1:=T.keep 0 _ _ tn3 λb hb o q=>old4 b o q;have hC:(s.heap.push { cls:=.type "list",data:=.seq ([]:List Value).toArray }).objs.size=s3.heap.objs.size:=by rw[hh3]
 rw[hC]at hns hcl;have J0:=Zot (tgs:=tgs) (tk:=s.toks) S I3 hf3 hlt3 hns hcl old4;have es:({ s3 with heap:=h1,toks:=s.toks }:Shared) = { s with heap:=h1,toks:=s.toks }:=by rw[<- hs3]
 rw[es]at J0;generalize hY:compCxK X y scope (tgs++fvs) s3.heap.objs.size s3 (upd H1 s.heap.objs.size (.lst [])) fp (X.pn++pins)=Y at J0;have hYp:Y.prog=X.prog:=by rw[<- hY];rfl
 have hYw:Y.w=X.w:=by rw[<- hY];rfl
 have hYK:Y.K=X.K:=by rw[<- hY];rfl
 have hYA:Y.A=X.A:=by rw[<- hY];rfl
 have hYc:Y.calm=true:=by rw[<- hY];exact hc
 have hYx:Y.xe=λ_ _=>False:=by rw[<- hY];rfl
 have hYe:Y.env=compEnvC scope ((y,s3.heap.objs.size+1)::clOf X.env scope.names []) s3.heap.objs.size X.env:=by rw[<- hY];rfl
 have stat:∀{H':Hp},(∀b∈fp,H' b=none)->∀b∈fp,FpOk Y [] H' b:=λhn b hb=>by
  rw[<- hY];refine⟨hn b hb,Wav (hlt3 b hb),λz=>?_,.inl hb,λx c e=>?_,λp hp z=>?_⟩
  ·rcases Wal.mp (I3.stkSub b z) with q|q
   ·exact(hf3 b hb).2.1 q
   ·exact(hf3 b hb).2.2.1 q
  ·rcases ownK e with ⟨_,z⟩|z
   ·rw[z];exact Wdk (Wbn (hlt3 b hb))
   ·exact(hf3 b hb).2.2.2.2.1 x c z
  ·have hp:p∈(X.pn++pins)++[]:=hp
   rw[Wbb]at hp;exact(hf3 b hb).2.2.2.2.2 p hp z
 have loop:codeAny (model X.prog X.w) X.A (.compLoop (.ListComp elt [⟨tg,iter,ifs,0⟩] scope pos) 0 (.ref it) (.ref s.heap.objs.size) Y.env) (RR (.ref s.heap.objs.size) s3.heap.objs.size)
   { s with heap:=h1,toks:=s.toks }:=by
  refine codeAny_loop rfl (λn s'=>∃i σ' H',Inv Y [] σ' H' s' /\ tn i s'.heap/\(∀b∈fp,H' b=none)/\W i n σ' H') ?_ m0 ⟨0,_,_,J0,tn4,λb hb=>(hf3 b hb).1,w0⟩;rintro n s5 ⟨i,σ5,H5,I5,st5,fr5,w5⟩;show wpAny _ X.A ((compTurn (.ListComp elt [⟨tg,iter,ifs,0⟩] scope pos) 0 (.ref it) (.ref s.heap.objs.size) Y.env).onRaise (λx=>do noteFrame x Y.env;theTreesLotGoes x)) _ _ s5;refine wpAny_noted (wpAny_mono (E:=λ_ _=>False) ?_ (λ_ _ q=>q) λ_ _ z=>z.elim);rw[compTurn_list];refine wpAny_bind (wpAny_standAt (wpAny_bind ?_));rcases turn i n σ5 H5 w5 with ⟨stop,qn⟩|⟨go,N,hN,step⟩
  ·have D:=T.done Y hYp hYw hYK hYc i [] s5 σ5 H5 (λ_ _=>False) I5 (stat fr5) st5 stop
   rw[hYA]at D;refine thn D λr s6 ⟨hr,I6⟩=>?_;subst hr;refine wpAny_pure ?_;obtain⟨m6,hn6,_⟩:=I6.loc;rw[hYe]at hn6;refine fin s6 _ _ H5 m6 hn6 (I3.fpOk (Wah _) (by have z:=I6.free;rw[hYe]at z;exact z)) (λh' sb=>?_) qn;have I6':Inv (compCxK X y scope (tgs++fvs) s3.heap.objs.size s3 (upd H1 s.heap.objs.size (.lst [])) fp (X.pn++pins)) [] σ5 H5 s6:=by rw[hY];exact I6
   exact Zl0 I3 hf3 I6' sb
  ·have D:=T.item Y hYp hYw hYK hYc i [] s5 σ5 H5 (λ_ _=>False) I5 (stat fr5) st5 go
   rw[hYA]at D;refine thn D λr s6 ⟨u,hr,h6⟩=>?_;subst hr;refine wpAny_bind (thn h6 λ_ s7 ⟨x,H7,I7,r7,y7,st7,fr7⟩=>?_);have I7':=I7.pinned (stat fr7) (T.obj _ _ st7);have G:=hg s3.heap.objs.size s3 (upd H1 s.heap.objs.size (.lst [])) fp (X.pn++pins);have TT:=ht s3.heap.objs.size s3 (upd H1 s.heap.objs.size (.lst [])) fp (X.pn++pins);have EE:=he s3.heap.objs.size s3 (upd H1 s.heap.objs.size (.lst [])) fp (X.pn++pins);rw[hY]at G TT EE;have G1:=G _ s7 σ5 H7 x u _ I7' r7 (step x H7 y7);rw[hYp,hYw,hYA,hYx]at G1;refine wpAny_bind (thn G1 λ_ s8 ⟨σ8,H8,I8,q8⟩=>?_);have T1:=TT _ s8 σ8 H8 _ I8 q8;rw[hYp,hYw,hYA,hYx]at T1;refine wpAny_bind (thn T1 λok s9 ⟨H9,I9,q9⟩=>?_);have again:∀{s':Shared}{σ':St}{H':Hp},Inv Y ([]++pinsAt fp s7.heap) σ' H' s' -> N σ' H' -> ∃m,m<n/\∃i σ' H',Inv Y [] σ' H' s' /\ tn i s'.heap/\(∀b∈fp,H' b=none)/\W i m σ' H':=λ{s' σ' H'} K7 n7=>by
    obtain⟨m',hm,w7⟩:=hN σ' H' n7;refine⟨m',hm,i+1,σ',H',K7.unpinned,T.keep _ _ _ st7 λb hb o e=>(K7.pin (b,o) (Wa9 _ (Wa9 _ (Zci hb e)))).1,λb hb=>?_,w7⟩;obtain⟨o,e,d⟩:=T.obj _ _ st7 b hb;exact(K7.pin (b,o) (Wa9 _ (Wa9 _ (Zci hb e)))).2.1
   cases ok with
   |false=>
    have q9:N σ8 H9:=q9;exact wpAny_pure ⟨by rw[hYe],again I9 q9⟩
   |true=>
    have q9:te σ8 H9 λy H5=>∃ys,H5 s.heap.objs.size=some (.lst ys)/\ys.length<sizeLine/\N σ8 (upd H5 s.heap.objs.size (.lst (ys++[y]))):=q9;have E1:=EE _ s9 σ8 H9 _ I9 q9;rw[hYp,hYw,hYA,hYx]at E1;refine wpAny_bind (wpAny_bind (thn E1 λv sa ⟨y,Ha,Ia,ra,ys,ea,za,na⟩=>?_));have M:=Zb1 (X:=Y) _ sa σ8 Ha (.ref s.heap.objs.size) [y] (.ref s.heap.objs.size) [v] (λ_ H=>N σ8 H) Ia rfl (.cons ra .nil) ⟨_,ys,y,rfl,rfl,ea,za,na⟩;rw[hYp,hYw,hYA,hYx]at M;refine wpAny_bind (thn M λ_ sb ⟨_,Hb,Ib,_,nb⟩=>wpAny_pure (wpAny_pure ⟨by rw[hYe],again Ib nb⟩))
 have hcs:(relabel scope X.env)=(relabel scope X.env):=rfl;have loop':=loop;rw[hYe]at loop';show codeAny (model X.prog X.w) X.A (.compStart (.ListComp elt [⟨tg,iter,ifs,0⟩] scope pos) 0 (.ref it) (.ref s.heap.objs.size) (compEnvC scope ((y,(s.heap.push { cls:=.type "list",data:=.seq ([]:List Value).toArray }).objs.size+1)::clOf X.env scope.names []) (s.heap.push { cls:=.type "list",data:=.seq ([]:List Value).toArray }).objs.size X.env)) (RR (.ref s.heap.objs.size) (s.heap.push { cls:=.type "list",data:=.seq ([]:List Value).toArray }).objs.size) _;rw[hC];exact codeAny_compStart_list loop' (T.self _ 0 _ _ _ tn4 loop')
theorem Zjc {y:Str}{elt tg iter:Expr}{ifs:List Expr}{scope:Scope}{pos:Pos}{fvs:List Str}{sel:List Nat}{wi:TI}{g:TG}{tc:TT}{te:TE}(tgs:List Str) (S:CompScK X.env.scope X.N y scope fvs sel) (hc:X.calm=true)
  (hi:PI X tg iter wi) (hg:∀C s H ex pn,PG (compCxK X y scope (tgs++fvs) C s H ex pn) tg g) (ht:∀C s H ex pn,PTs (compCxK X y scope (tgs++fvs) C s H ex pn) ifs tc) (he:∀C s H ex pn,PE (compCxK X y scope (tgs++fvs) C s H ex pn) elt te)
  (hs:∀x,foldedSetIterable iter X.env x=pure x:=by intro _;rfl) :
  PE X (.ListComp elt [⟨tg,iter,ifs,0⟩] scope pos) (tComp tgs.length sel wi g tc te):=by
 intro pins s σ H Q I h;rw[eval_ListComp];refine wpAny_comprehension_free (use:=none) rfl hs (Zcr (Zgn S I.ok)) S.kind S.names (thn (hi pins s σ H _ I h) λv s1 h1=>thn h1 λitv s2 h2=>?_);refine Zmw S hc hg ht he (RR:=λacc C=>compPost (model X.prog X.w) X.A X.xe none (EP X pins σ Q) acc C) (Q:=Q) h2 ?_;intro s' C acc H' m hn _ hI q;exact⟨m,hn,λh' sb=>⟨.ref acc,H',hI h' sb,rfl,q⟩⟩
end
open PySem PySem.Spec PyProof.Rows PySem.SeqAt
section
variable {K:W.Frag}{Δ:Evt}{P:D->Evt->Prop}
end
section
variable {K:W.Frag}{Δ:Evt}
end
open PySem PySem.Spec PyProof.Rows PySem.SeqAt
section
variable {K:W.Frag}{Δ:Evt}{P:D->Evt->Prop}
end
section
variable {K:W.Frag}{Δ:Evt}
end
section
variable {prog:Program}{w:World}{A:Around}{E:Value->Shared->Prop}{s:Shared}
theorem Zkb {l:Addr}{vs:List Value}{Q:List Value->Shared->Prop}(hl:s.heap.IsTuple l vs.toArray)
  (h:Q vs { s with heap:=(s.heap.push (seqObj "list" #[] 0)).update s.heap.objs.size (Obj.mapSeq (· ++ vs.toArray)) }) (hsz:vs.length<=sizeLine) :
  wpAny (model prog w) A (collect (.ref l)) Q E s:=by
 obtain⟨o,ho,hc,n,hd⟩:=id hl;unfold collect;refine wpAny_bind (wpAny_runValue (codeAny_builtin entry_proto_collect' ?_));show wpAny _ _ (do again (.builtin "list.__iadd__" ⟨[← newList [],.ref l],[]⟩)) _ _ s;refine wpAny_bind (wpAny_newList (wpAny_pure ⟨Code.quiet_builtin _ (by decide +kernel),codeAny_builtin entry_list_iadd' ?_⟩));show wpAny _ _ (Builtin.List.listExtendWith (.ref s.heap.objs.size) (.ref l) (.ref s.heap.objs.size)) _ _ { s with heap:=s.heap.push (seqObj "list" #[] 0) };unfold Builtin.List.listExtendWith;have ho':(s.heap.push (seqObj "list" #[] 0)).get? l=some o:=Wac _ ho;refine wpAny_bind (wpAny_typeOf (T:="tuple") ⟨o,ho',hc⟩ ?_);have ht:(Value.type "tuple" == Value.type "tuple")=true:=by rfl
 rw[if_pos (by rw[ht];simp)];refine wpAny_bind (listItems_at ho' hd ?_);refine wpAny_bind (listItems_at (xs:=#[]) (n:=0) (Wam _ rfl) rfl ?_);rw[if_neg (by simp)];refine wpAny_bind (listUpdate_at (xs:=#[]) (n:=0) (Wam _ rfl) rfl ?_ (Wbl _) (by show (#[]++vs.toArray).size<=sizeLine+1;simp only[Array.size_append,Wak,Wb3];omega));refine wpAny_pure ?_;show wpAny (model prog w) A (do
   let o ← load s.heap.objs.size
   match o.data with
   |.seq xs _=>pure xs.toList
   |_=>unsupported "internal:collect") Q E { s with heap:=(s.heap.push (seqObj "list" #[] 0)).update s.heap.objs.size (Obj.mapSeq (· ++ vs.toArray)) }
 refine wpAny_bind (wpAny_load (get?_update_seq (Wam _ rfl) _) ?_);show wpAny _ _ (pure ((#[]:Array Value)++vs.toArray).toList) Q E _;rw[show ((#[]:Array Value)++vs.toArray).toList=vs by simp];exact wpAny_pure h
end
section
variable {K:W.Frag}{Δ:Evt}{P:D->Evt->Prop}
end
section
variable {X:Cx}
end
structure GB (kd:SortKind) (a0:Array Keyed) (t:SortSt):Prop where
 pm:(arrOf t).Perm a0
 kd:kindOf t=kd
 fl:failedOf t=none
 pd:pendingOf t = #[]
theorem GB.sz {kd:SortKind}{a0:Array Keyed}{t:SortSt}(g:GB kd a0 t):(arrOf t).size=a0.size:=g.pm.size_eq
theorem GB.put {kd:SortKind}{a0:Array Keyed}{t:SortSt}(g:GB kd a0 t) {xs:Array Keyed}(hp:xs.Perm (arrOf t)):GB kd a0 (setArr t xs):=⟨hp.trans g.pm,g.kd,g.fl,g.pd⟩
section
variable {prog:Program}{w:World}{A:Around}{E:Value->Shared->Prop}{s:Shared}{a0:Array Keyed}{κ:KeyKind}{kd:SortKind}
def Orc (prog:Program) (w:World) (A:Around) (E:Value->Shared->Prop) (s:Shared) (κ:KeyKind) (kd:SortKind) (a0:Array Keyed):Prop:=
 ∀t,GB kd a0 t->∀i j,i<a0.size->j<a0.size->∀Q:Option Bool->SortSt->Prop,Q (some (κ.blt (KK κ (arrOf t) i) (KK κ (arrOf t) j))) t->wpS (model prog w) A E s (ltAt' i j) Q t
theorem Zvj {xs:Array Keyed}{m:Nat}(h:SortedToK κ xs m) (hl:m=0 \/ κ.kle (KK κ xs (m-1)) (KK κ xs m)):SortedToK κ xs (m+1):=λi j hij hj=>by
 rcases Wd7 j m with z|z
 ·exact h i j hij z
 ·have e:j=m:=by omega
  subst e;rcases Wd7 i j with y|y
  ·rcases hl with q|q
   ·omega
   ·exact KeyOrd.kle_trans (h i (j-1) (by omega) (by omega)) q
  ·have e:i=j:=by omega
   subst e;exact KeyOrd.kle_refl _
theorem Zeq {xs:Array Keyed}{m:Nat}(h:NonIncK κ xs m) (hl:m=0 \/ κ.kle (KK κ xs m) (KK κ xs (m-1))):NonIncK κ xs (m+1):=λi j hij hj=>by
 rcases Wd7 j m with z|z
 ·exact h i j hij z
 ·have e:j=m:=by omega
  subst e;rcases Wd7 i j with y|y
  ·rcases hl with q|q
   ·omega
   ·exact KeyOrd.kle_trans q (h i (j-1) (by omega) (by omega))
  ·have e:i=j:=by omega
   subst e;exact KeyOrd.kle_refl _
theorem Zxj (O:Orc prog w A E s κ kd a0) {t:SortSt}{n ok:Nat}{Q:Bool->SortSt->Prop}(hn:n<=a0.size) (hok:ok<=n) (g:GB kd a0 t) (hs:SortedToK κ (arrOf t) ok)
  (h:∀u,GB kd a0 u->SortedToK κ (arrOf u) n->Q true u):wpS (model prog w) A E s (binarySort' 0 n ok) Q t:=by
 rw[binarySort'_eq];simp only[Weo];refine wpS_bind (wpS_mono (wpS_forRange (I:=λk c u=>c=(none,())/\GB kd a0 u/\SortedToK κ (arrOf u) (min k n)) (Q:=λc u=>c=(none,())/\GB kd a0 u/\SortedToK κ (arrOf u) n) ?st ?fi ?be) ?po)
 case po=>
  rintro c u ⟨rfl,g',h'⟩;exact wpS_pure (h u g' h')
 case be=>
  refine⟨rfl,g,λi j hij hj=>?_⟩;rcases Nat.eq_zero_or_pos ok with z|z
  ·have e:i=j:=by omega
   subst e;exact KeyOrd.kle_refl _
  ·exact hs i j hij (by omega)
 case fi=>
  rintro c u ⟨hc,g',h'⟩;rw[show min (max (max ok 1) n) n=n by omega]at h';exact⟨hc,g',h'⟩
 case st=>
  rintro k c u hak hkn ⟨rfl,g',h'⟩;rw[show min k n=k by omega]at h';have hk:k<a0.size:=by omega
  refine wpS_bind (wpS_mono (wpS_forRange
   (I:=λx c v=>v=u/\∃l r,c=(none,l,r)/\l<=r/\r<=k/\r-l<=k-x/\(∀i,i<l -> κ.kle (KK κ (arrOf u) i) (KK κ (arrOf u) k))/\∀i,r<=i->i<k -> κ.klt (KK κ (arrOf u) k) (KK κ (arrOf u) i))
   (Q:=λc v=>v=u/\∃l r,c=(none,l,r)/\l<=k/\(∀i,i<l -> κ.kle (KK κ (arrOf u) i) (KK κ (arrOf u) k))/\∀i,l<=i->i<k -> κ.klt (KK κ (arrOf u) k) (KK κ (arrOf u) i)) ?ist ?ifi ?ibe) ?ipo)
  case ibe=>exact⟨rfl,0,k,rfl,by omega,by omega,by omega,λi z=>by omega,λi z y=>by omega⟩
  case ifi=>
   rintro c v ⟨rfl,l,r,rfl,z1,z2,z3,lo,hi⟩;obtain rfl:l=r:=by omega
   exact⟨rfl,l,l,rfl,z2,lo,hi⟩
  case ist=>
   rintro x c v _ hx ⟨rfl,l,r,rfl,z1,z2,z3,lo,hi⟩;dsimp only;by_cases hge:l ≥ r
   ·obtain rfl:l=r:=by omega
    rw[if_pos hge];exact wpS_pure ⟨rfl,l,l,rfl,z2,lo,hi⟩
   ·rw[if_neg hge]
    refine wpS_bind (O v g' _ _ hk (by omega) _ ?_);cases e:κ.blt (KK κ (arrOf v) k) (KK κ (arrOf v) ((l+r) / 2)) with
    |true=>
     simp only[if_true];exact wpS_pure ⟨rfl,l,(l+r) / 2,rfl,by omega,by omega,by omega,lo,λi y1 y2=>KeyOrd.klt_of_klt_of_kle e (h' _ _ y1 y2)⟩
    |false=>
     simp only[Wao,if_false];exact wpS_pure ⟨rfl,(l+r) / 2+1,r,rfl,by omega,by omega,by omega,λi y1=>KeyOrd.kle_trans (h' i ((l+r) / 2) (by omega) (by omega)) e,hi⟩
  case ipo=>
   rintro c v ⟨rfl,l,r,rfl,hl,lo,hi⟩;show wpS _ _ _ _ (do moveDown' k l;pure (ForInStep.yield (none,()))) _ _;rw[moveDown'_eq];refine wpS_bind (wpS_modify (wpS_pure ⟨rfl,g'.put (bubble_perm _ _ _),?_⟩));rw[show min (k+1) n=k+1 by omega];have hz:k<(arrOf v).size:=by rw[g'.sz];exact hk
   intro i j hij hj;show κ.kle (KK κ (bubble (arrOf v) k (k-l)) i) (KK κ (bubble (arrOf v) k (k-l)) j);rw[KK_bubble hz (by omega),KK_bubble hz (by omega),show k-(k-l)=l by omega];by_cases i1:i=l
   ·rw[if_pos i1]
    by_cases j1:j=l
    ·rw[if_pos j1];exact KeyOrd.kle_refl _
    ·rw[if_neg j1,if_pos (by omega)]
     exact KeyOrd.kle_of_klt (hi _ (by omega) (by omega))
   ·rw[if_neg i1]
    by_cases j1:j=l
    ·rw[if_pos j1,if_neg (by omega)]
     exact lo _ (by omega)
    ·rw[if_neg j1]
     by_cases i2:l<i/\i<=k
     ·rw[if_pos i2,if_pos (by omega)]
      exact h' _ _ (by omega) (by omega)
     ·rw[if_neg i2]
      by_cases j2:l<j/\j<=k
      ·rw[if_pos j2]
       exact h' _ _ (by omega) (by omega)
      ·rw[if_neg j2]
       exact h' _ _ (by omega) (by omega)
theorem Zvf (O:Orc prog w A E s κ kd a0) {t:SortSt}{a nr:Nat}{Q:AscSt->SortSt->Prop}(hn:nr<=a0.size) (ha:1<=a) (han:a<=nr) (g:GB kd a0 t) (hs:SortedToK κ (arrOf t) a)
  (h:∀n,a<=n->n<=nr->SortedToK κ (arrOf t) n->(n=nr \/ κ.klt (KK κ (arrOf t) n) (KK κ (arrOf t) (n-1)))->Q (none,n) t):wpS (model prog w) A E s (ascLoop a nr) Q t:=by
 unfold ascLoop;refine wpS_forRange (I:=λx c u=>u=t/\c=(none,x)/\SortedToK κ (arrOf t) x) ?st ?fi ⟨rfl,rfl,hs⟩
 case fi=>
  rintro c u ⟨rfl,rfl,h'⟩;rw[show max a nr=nr by omega]at h' ⊢;exact h nr han (Wah _) h' (Or.inl rfl)
 case st=>
  rintro x c u hax hxn ⟨rfl,rfl,h'⟩;dsimp only;refine wpS_bind (O u g _ _ (by omega) (by omega) _ ?_);cases e:κ.blt (KK κ (arrOf u) x) (KK κ (arrOf u) (x-1)) with
  |true=>
   simp only[if_true];exact wpS_pure (h x hax (by omega) h' (Or.inr e))
  |false=>
   simp only[Wao,if_false];exact wpS_pure ⟨rfl,rfl,Zvj h' (Or.inr e)⟩
theorem Zr8 (O:Orc prog w A E s κ kd a0) {t:SortSt}{n nr:Nat}{Q:Option Nat->SortSt->Prop}(hn:nr<=a0.size) (h1:1<=n) (hnn:n<=nr) (g:GB kd a0 t) (hs:NonIncK κ (arrOf t) n)
  (h:∀m u,GB kd a0 u->1<=m->m<=nr->SortedToK κ (arrOf u) m->Q (some m) u):wpS (model prog w) A E s (tail3 n nr) Q t:=by
 unfold tail3;have hz:n<=(arrOf t).size:=by rw[g.sz];omega
 refine wpS_bind (wpS_reverse ?_);have g2:GB kd a0 (setArr t (mirror (arrOf t) 0 n ((n-0) / 2))):=g.put (mirror_perm _ _ _ _);refine wpS_bind (Zvf O hn h1 hnn g2 (λi j hij hj=>?_) λm m1 m2 m3 _=>wpS_pure (h m _ g2 (by omega) m2 m3));show κ.kle (KK κ (mirror (arrOf t) 0 n ((n-0) / 2)) i) (KK κ (mirror (arrOf t) 0 n ((n-0) / 2)) j);rw[KK_mirror hz,KK_mirror hz,if_pos (by omega),if_pos (by omega)];exact hs _ _ (by omega) (by omega)
theorem Zu5 (O:Orc prog w A E s κ kd a0) {t:SortSt}{n nr:Nat}{Q:DescSt->SortSt->Prop}(hn:nr<=a0.size) (h1:1<=n) (hnn:n<=nr) (g:GB kd a0 t) (hs:NonIncK κ (arrOf t) n)
  (h:∀m q u,GB kd a0 u->n<=m->m<=nr->NonIncK κ (arrOf u) m->q+1<=m->(∀i,m-(q+1)<=i->i<m->KK κ (arrOf u) i=KK κ (arrOf u) (m-1))->Q (none,m,q) u):wpS (model prog w) A E s (descLoop n nr) Q t:=by
 unfold descLoop;refine wpS_forRange (I:=λx c u=>∃q,c=(none,x,q)/\GB kd a0 u/\NonIncK κ (arrOf u) x/\q+1<=x/\∀i,x-(q+1)<=i->i<x->KK κ (arrOf u) i=KK κ (arrOf u) (x-1)) ?st ?fi ⟨0,rfl,g,hs,by omega,λi y1 y2=>by rw[show i=n-1 by omega]⟩
 case fi=>
  rintro c u ⟨q,rfl,g',h',q1,q2⟩;rw[show max n nr=nr by omega]at h' q1 q2 ⊢;exact h nr q u g' hnn (Wah _) h' q1 q2
 case st=>
  rintro x c u hax hxn ⟨q,rfl,g',h',q1,q2⟩;dsimp only;have hz:x<=(arrOf u).size:=by rw[g'.sz];omega
  refine wpS_bind (O u g' _ _ (by omega) (by omega) _ ?_);cases e:κ.blt (KK κ (arrOf u) x) (KK κ (arrOf u) (x-1)) with
  |true=>
   simp only[if_true];by_cases hq:q > 0
   ·rw[if_pos hq]
    have same:=KK_mirror_equal hz q2;refine wpS_bind (wpS_reverse (wpS_pure ⟨0,rfl,g'.put (mirror_perm _ _ _ _),?_,by omega,λi y1 y2=>by rw[show i=x+1-1 by omega]⟩));refine Zeq (λi j hij hj=>?_) (Or.inr ?_)
    ·show κ.kle (KK κ (mirror (arrOf u) _ _ _) j) (KK κ (mirror (arrOf u) _ _ _) i)
     rw[same,same];exact h' i j hij hj
    ·show κ.kle (KK κ (mirror (arrOf u) _ _ _) x) (KK κ (mirror (arrOf u) _ _ _) (x-1))
     rw[same,same];exact KeyOrd.kle_of_klt e
   ·rw[if_neg hq]
    exact wpS_pure ⟨0,rfl,g',Zeq h' (Or.inr (KeyOrd.kle_of_klt e)),by omega,λi y1 y2=>by rw[show i=x+1-1 by omega]⟩
  |false=>
   simp only[Wao,if_false];refine wpS_bind (O u g' _ _ (by omega) (by omega) _ ?_);cases e2:κ.blt (KK κ (arrOf u) (x-1)) (KK κ (arrOf u) x) with
   |true=>
    simp only[if_true];exact wpS_pure (h x q u g' hax (by omega) h' q1 q2)
   |false=>
    simp only[Wao,if_false];have ex:KK κ (arrOf u) x=KK κ (arrOf u) (x-1):=KeyOrd.kle_antisymm e2 e;refine wpS_pure ⟨q+1,rfl,g',Zeq h' (Or.inr e2),by omega,λi y1 y2=>?_⟩;show _=KK κ (arrOf u) x;rcases Wd7 i x with y|y
    ·rw[ex];exact q2 i (by omega) y
    ·rw[show i=x by omega]
theorem Zgy (O:Orc prog w A E s κ kd a0) {t:SortSt}{n nr:Nat}{Q:Option Nat->SortSt->Prop}(hn:nr<=a0.size) (hnn:n+1<=nr) (g:GB kd a0 t) (hs:NonIncK κ (arrOf t) (n+1))
  (h:∀m u,GB kd a0 u->1<=m->m<=nr->SortedToK κ (arrOf u) m->Q (some m) u):wpS (model prog w) A E s (descPart n nr) Q t:=by
 unfold descPart;refine wpS_bind (wpS_lift (wpAny_rule ⟨rfl,?_⟩));refine wpS_bind (Zu5 O hn (by omega) hnn g hs λm q u g' m1 m2 h' q1 q2=>?_);dsimp only;have hz:m<=(arrOf u).size:=by rw[g'.sz];omega
 by_cases hq:q > 0
 ·rw[if_pos hq]
  have same:=KK_mirror_equal hz q2;refine wpS_bind (wpS_reverse (Zr8 O hn (by omega) m2 (g'.put (mirror_perm _ _ _ _)) (λi j hij hj=>?_) h));show κ.kle (KK κ (mirror (arrOf u) _ _ _) j) (KK κ (mirror (arrOf u) _ _ _) i);rw[same,same];exact h' i j hij hj
 ·rw[if_neg hq]
  exact Zr8 O hn (by omega) m2 g' h' h
theorem Zs2 (O:Orc prog w A E s κ kd a0) {t:SortSt}{nr:Nat}{Q:Option Nat->SortSt->Prop}(hn:nr<=a0.size) (h1:1<=nr) (g:GB kd a0 t)
  (h:∀m u,GB kd a0 u->1<=m->m<=nr->SortedToK κ (arrOf u) m->Q (some m) u):wpS (model prog w) A E s (countRun' 0 nr) Q t:=by
 rw[countRun0_eq];refine wpS_bind (Zvf O hn (Wah 1) h1 g (λi j hij hj=>by have e:i=j:=(by omega);subst e;exact KeyOrd.kle_refl _) λn n1 n2 n3 n4=>?_);dsimp only;by_cases hnn:n=nr
 ·rw[if_pos (by simpa using hnn)]
  exact wpS_pure (h n t g n1 n2 n3)
 ·rw[if_neg (by simpa using hnn)]
  have lt:=n4.resolve_left hnn;by_cases hg:n > 1
  ·rw[if_pos hg]
   refine wpS_bind (O t g _ _ (by omega) (by omega) _ ?_);cases e:κ.blt (KK κ (arrOf t) 0) (KK κ (arrOf t) (n-1)) with
   |true=>
    simp only[if_true];exact wpS_pure (h n t g n1 n2 n3)
   |false=>
    simp only[Wao,if_false];have hz:n<=(arrOf t).size:=by rw[g.sz];omega
    have all:∀k,0<=k->k<n->KK κ (arrOf t) k=KK κ (arrOf t) (n-1):=λk _ hk=>
     KeyOrd.kle_antisymm (n3 k (n-1) (by omega) (by omega)) (KeyOrd.kle_trans e (n3 0 k (by omega) hk))
    have same:=KK_mirror_equal hz all;refine wpS_bind (wpS_reverse (Zgy O hn (by omega) (g.put (mirror_perm _ _ _ _)) (Zeq (λi j hij hj=>?_) (Or.inr ?_)) h))
    ·show κ.kle (KK κ (mirror (arrOf t) _ _ _) j) (KK κ (mirror (arrOf t) _ _ _) i)
     rw[same,same,all i (by omega) (by omega),all j (by omega) hj];exact KeyOrd.kle_refl _
    ·show κ.kle (KK κ (mirror (arrOf t) _ _ _) n) (KK κ (mirror (arrOf t) _ _ _) (n-1))
     rw[same,same];exact KeyOrd.kle_of_klt lt
  ·rw[if_neg hg]
   obtain rfl:n=1:=by omega
   refine Zgy O hn (by omega) g (Zeq (λi j hij hj=>?_) (Or.inr (KeyOrd.kle_of_klt lt))) h;obtain rfl:i=j:=by omega
   exact KeyOrd.kle_refl _
theorem Zvk (O:Orc prog w A E s κ kd a0) {t:SortSt}{Q:Unit->SortSt->Prop}(g:GB kd a0 t) (h2:2<=a0.size) (h64:a0.size<64)
  (h:∀u,(arrOf u).Perm a0->failedOf u=none->SortedToK κ (arrOf u) a0.size->Q () u):wpS (model prog w) A E s sortRuns' Q t:=by
 have hmr:minRun' a0.size a0.size 0=a0.size:=by
  obtain⟨f,hf⟩:∃f,a0.size=f+1:=⟨a0.size-1,by omega⟩;have:=minRun'_succ f a0.size 0;rw[if_pos h64,<- hf]at this;exact this
 rw[sortRuns'_eq];refine wpS_bind (wpS_get ?_);dsimp only;simp only[g.sz,hmr];refine wpS_bind (wpS_mono (wpS_forRange
  (I:=λx c u=>(x=0/\c=(none,0)/\GB kd a0 u)\/(1<=x/\c=(none,a0.size)/\(arrOf u).Perm a0/\failedOf u=none/\pendingOf u = #[(0,a0.size,0)]/\SortedToK κ (arrOf u) a0.size))
  (Q:=λc u=>c=(none,a0.size)/\(arrOf u).Perm a0/\failedOf u=none/\pendingOf u = #[(0,a0.size,0)]/\SortedToK κ (arrOf u) a0.size) ?st ?fi (Or.inl ⟨rfl,rfl,g⟩)) ?po)
 case fi=>
  rintro c u (⟨z,_,_⟩|⟨_,z⟩)
  ·omega
  ·exact z
 case st=>
  rintro x c u _ hx (⟨rfl,rfl,g'⟩|⟨x1,rfl,z⟩)
  ·dsimp only
   rw[if_neg (by omega)];simp only[Wd6,Wdy,Weo];refine wpS_bind (Zs2 O (Wah _) (by omega) g' λm v gv m1 m2 m3=>?_);have fin:∀v',GB kd a0 v' -> SortedToK κ (arrOf v') a0.size->(arrOf (setPending v' ((pendingOf v').push (0,a0.size,0)))).Perm a0/\failedOf (setPending v' ((pendingOf v').push (0,a0.size,0)))=none/\pendingOf (setPending v' ((pendingOf v').push (0,a0.size,0))) = #[(0,a0.size,0)]/\SortedToK κ (arrOf (setPending v' ((pendingOf v').push (0,a0.size,0)))) a0.size:=λv' gw sw=>
    ⟨gw.pm,gw.fl,by show (pendingOf v').push _=_;rw[gw.pd];rfl,sw⟩
   dsimp only;by_cases hlt:m<a0.size
   ·rw[if_pos hlt]
    refine wpS_bind (wpS_lift (wpAny_rule ⟨rfl,?_⟩));refine wpS_bind (Zxj O (Wah _) m2 gv m3 λv' gw sw=>?_);simp only[Wcv,Wao,if_false];refine wpS_bind (wpS_get ?_);rw[show (pendingOf v').back?=none by rw[gw.pd];rfl];dsimp only;exact wpS_bind (wpS_modify (wpS_pure (Or.inr ⟨by omega,rfl,fin v' gw sw⟩)))
   ·rw[if_neg hlt]
    obtain rfl:m=a0.size:=by omega
    refine wpS_bind (wpS_get ?_);rw[show (pendingOf v).back?=none by rw[gv.pd];rfl];dsimp only;exact wpS_bind (wpS_modify (wpS_pure (Or.inr ⟨by omega,rfl,fin v gv m3⟩)))
  ·dsimp only
   rw[if_pos (Wah _)];exact wpS_pure ⟨rfl,z⟩
 case po=>
  rintro c u ⟨rfl,z1,z2,z3,z4⟩;dsimp only;refine wpS_bind (wpS_mono (wpS_forRange (I:=λ_ c v=>v=u/\c=(none,())) (Q:=λc v=>v=u/\c=(none,())) ?_ (λ_ _ q=>q) ⟨rfl,rfl⟩) ?_)
  ·rintro x c v _ _ ⟨rfl,rfl⟩
   refine wpS_bind (wpS_get ?_);rw[if_pos (by rw[z3];exact Wah 1)];exact wpS_pure ⟨rfl,rfl⟩
  ·rintro c v ⟨rfl,rfl⟩
   exact wpS_pure (h _ z1 z2 z4)
end
abbrev rlt:=HT.lexLt
theorem Zes (x y:Int) (xs ys:List Int):rlt (x::xs) (y::ys)=if x=y then rlt xs ys else decide (x<y):=rfl
theorem Znz:∀a:List Int,rlt a a=false
 |[]=>rfl
 |x::a=>by rw[Zes,if_pos rfl];exact Znz a
theorem Zsd:∀a b c:List Int,rlt a b=true->rlt b c=true->rlt a c=true
 |[],[],_,h,_=>by cases h
 |[],_::_,[],_,h=>by cases h
 |[],_::_,_::_,_,_=>rfl
 |_::_,[],_,h,_=>by cases h
 |_::_,_::_,[],_,h=>by cases h
 |x::a,y::b,z::c,h1,h2=>by
  rw[Zes]at h1 h2 ⊢;by_cases e1:x=y
  ·by_cases e2:y=z
   ·rw[if_pos e1]at h1;rw[if_pos e2]at h2;rw[if_pos (e1.trans e2)]
    exact Zsd a b c h1 h2
   ·rw[if_neg e2,decide_eq_true_eq]at h2
    rw[if_neg (by omega),decide_eq_true_eq];omega
  ·rw[if_neg e1,decide_eq_true_eq]at h1
   by_cases e2:y=z
   ·rw[if_neg (by omega),decide_eq_true_eq];omega
   ·rw[if_neg e2,decide_eq_true_eq]at h2
    rw[if_neg (by omega),decide_eq_true_eq];omega
theorem Znb:∀a b c:List Int,rlt a c=true->rlt a b=true\/rlt b c=true
 |[],[],_,h=>Or.inr h
 |[],_::_,_,_=>Or.inl rfl
 |_::_,_,[],h=>by cases h
 |_::_,[],_::_,_=>Or.inr rfl
 |x::a,y::b,z::c,h=>by
  rw[Zes]at h;rw[Zes,Zes];by_cases e:x=z
  ·subst e
   rw[if_pos rfl]at h;by_cases e1:x=y
   ·subst e1;rw[if_pos rfl,if_pos rfl];exact Znb a b c h
   ·rw[if_neg e1,if_neg (Ne.symm e1),decide_eq_true_eq,decide_eq_true_eq];omega
  ·rw[if_neg e,decide_eq_true_eq]at h
   by_cases e1:x=y
   ·subst e1;right;rw[if_neg e,decide_eq_true_eq];exact h
   ·rw[if_neg e1]
    by_cases e2:y=z
    ·left;rw[decide_eq_true_eq];omega
    ·rw[if_neg e2,decide_eq_true_eq,decide_eq_true_eq];omega
theorem Zjt:∀a b:List Int,rlt a b=false->rlt b a=false->a=b
 |[],[],_,_=>rfl
 |[],_::_,h,_=>by cases h
 |_::_,[],_,h=>by cases h
 |x::a,y::b,h1,h2=>by
  rw[Zes]at h1 h2;by_cases e:x=y
  ·subst e
   rw[if_pos rfl]at h1 h2;rw[Zjt a b h1 h2]
  ·rw[if_neg e,decide_eq_false_iff_not]at h1
   rw[if_neg (Ne.symm e),decide_eq_false_iff_not]at h2;omega
theorem RowAt.inj {h:Heap}{v:Value}{a b:List Int}(x:RowAt h v a) (y:RowAt h v b):a=b:=by
 obtain⟨p,its,rfl,⟨o,ho,hc,n,hd⟩,hi⟩:=x;obtain⟨q,its2,e,⟨o2,ho2,hc2,n2,hd2⟩,hi2⟩:=y;cases e;rw[ho]at ho2;cases ho2;rw[hd]at hd2;have e:its=its2:=by
  have:=Data.seq.inj hd2;simpa using this.1
 subst e;clear hd hd2
 induction hi generalizing b with
 |nil=>cases hi2;rfl
 |cons n t _ ih=>cases hi2 with|cons _ _ r=>rw[ih r]
open Classical in
noncomputable def rowKey (h:Heap):PyProof.Rows.KeyKind where
 α:=List Int
 blt:=rlt
 irrefl:=Znz
 trans:=Zsd
 negTrans:=Znb
 total:=Zjt
 keyOf:=λv=>if e:∃r,RowAt h v r then some (Classical.choose e) else none
 dflt:=[]
open Classical in
theorem Zgc {h:Heap}{v:Value}{r:List Int}(x:RowAt h v r):(rowKey h).keyOf v=some r:=by
 show (if e:∃r,RowAt h v r then some (Classical.choose e) else none)=some r;rw[dif_pos ⟨r,x⟩];exact congrArg some ((Classical.choose_spec (⟨r,x⟩:∃r,RowAt h v r)).inj x)
section
variable {prog:Program}{w:World}{A:Around}{E:Value->Shared->Prop}{s:Shared}
theorem Zku {Q:Bool->Shared->Prop}:∀{us vs:List Value}{as bs:List Int}(i:Nat),IntsAre us as->IntsAre vs bs->Q (rlt as bs) s->PySem.W.KatLex prog w A true (decide (as.length<bs.length)) Q (us.zip vs) i s
 |_,_,[],[],i,.nil,.nil,h=>h
 |_,_,[],b::bs,i,.nil,.cons _ _ _,h=>by
  rw[Wem];refine PySem.W.kat_nil ?_;rw[decide_eq_true (by simp)];exact h
 |_,_,a::as,[],i,.cons _ _ _,.nil,h=>by
  rw[Wed];refine PySem.W.kat_nil ?_;rw[decide_eq_false (by simp)];exact h
 |_,_,a::as,b::bs,i,.cons _ t x,.cons _ t' y,h=>by
  rw[Wcj];refine PySem.W.kat_cons (SeqAt.EqAt.int_int a t b t' prog w _ _ ?_);rw[Zes]at h;by_cases e:a=b
  ·rw[if_pos e]at h
   rw[show (a == b)=true by simp[e]];refine PySem.W.kat_yes ?_;have:=Zku (Q:=Q) (i+1) x y h;rw[Waj,Waj,show decide (as.length+1<bs.length+1)=decide (as.length<bs.length) by simp];exact this
  ·rw[if_neg e]at h
   rw[show (a == b)=false by simp[e]];refine PySem.W.kat_no ?_;cases z:(true && i == 0) with
   |true=>exact oneLt_int h
   |false=>exact PySem.W.kat_one _ _ (lt_int h)
theorem Zp5 {v u:Value}{a b:List Int}{Q:Bool->Shared->Prop}(pa:RowAt s.heap v a) (pb:RowAt s.heap u b) (h:Q (rlt a b) s):wpAny (model prog w) A (keyLt' (tuples' true) v u) Q E s:=by
 obtain⟨l,its,rfl,⟨o1,ho,hc,n,hd⟩,hi⟩:=pa;obtain⟨k,its2,rfl,⟨o2,ho2,hc2,n2,hd2⟩,hi2⟩:=pb;refine PySem.W.kat_lt ho hd ho2 hd2 ?_;have:=Zku (prog:=prog) (w:=w) (A:=A) (Q:=Q) 0 hi hi2 h;rw[<- hi.length,<- hi2.length]at this;simpa using this
theorem Zqb {v u:Value}{a b:List Int}{Q:Bool->Shared->Prop}(hu:A.units<cLine) (pa:RowAt s.heap v a) (pb:RowAt s.heap u b) (h:Q (rlt a b) s):wpAny (model prog w) A (keyLt' oneType' v u) Q E s:=by
 obtain⟨l,its,rfl,⟨⟨c1,d1,dt1,sl1⟩,ho,hc,n,hd⟩,hi⟩:=pa;obtain⟨k,its2,rfl,⟨⟨c2,d2,dt2,sl2⟩,ho2,hc2,n2,hd2⟩,hi2⟩:=pb;simp only at hc hd hc2 hd2;subst hc hd hc2 hd2;rw[keyLt'_oneType,oneLt'_eq];simp only[if_true];refine wpAny_bind (wpAny_cRoomFor hu ?_);refine wpAny_bind (wpAny_callSpecialIfBound?_slot (T:="tuple") ⟨_,ho,rfl⟩ F.slot_tuple_lt (call_meets F.slot_tuple_lt ⟨_,ho,rfl⟩ F.entry_tuple_lt (F.args_tuple_lt_2 _ _) (HT.tuple_lt_ints l k its.toArray its2.toArray n n2 d1 d2 sl1 sl2 a b (by simpa using hi) (by simpa using hi2)) ⟨ho,ho2,?_⟩));exact wpAny_truthy_bool h
theorem Zrg {v u:Value}{a b:List Int}{Q:Bool->Shared->Prop}(hu:A.units<cLine) (pa:RowAt s.heap v a) (pb:RowAt s.heap u b) (h:Q (rlt a b) s):wpAny (model prog w) A (keyLt' general' v u) Q E s:=by
 obtain⟨l,its,rfl,⟨⟨c1,d1,dt1,sl1⟩,ho,hc,n,hd⟩,hi⟩:=pa;obtain⟨k,its2,rfl,⟨⟨c2,d2,dt2,sl2⟩,ho2,hc2,n2,hd2⟩,hi2⟩:=pb;simp only at hc hd hc2 hd2;subst hc hd hc2 hd2;refine PySem.W.kat_one _ _ ?_;exact richCompare_meets_room (op:=.Lt) ⟨_,ho,rfl⟩ ⟨_,ho2,rfl⟩ PySem.F.slot_tuple_lt PySem.F.entry_tuple_lt (PySem.F.args_tuple_lt_2 _ _) (HT.tuple_lt_ints l k its.toArray its2.toArray n n2 d1 d2 sl1 sl2 a b (by simpa using hi) (by simpa using hi2))
  ⟨ho,ho2,show Value.bool (HT.lexLt a b)≠Value.notImplemented/\_ from ⟨(λx=>nomatch x),h⟩⟩ hu
theorem Zma {vs:List Value}{r:List Int}{rs:List (List Int)}{Q:SortKind->Shared->Prop}(p:Paired (RowAt s.heap) vs (r::rs)) (hr:r≠[]) (he:[]∈rs) (h:Q general' s):wpAny (model prog w) A (keyKind' vs.toArray) Q E s:=by
 rw[keyKind'_eq,Wdg,map_eq_pure_bind];refine wpAny_bind (wpAny_bind (Zed vs _ p λfs pf=>wpAny_pure ?_));cases pf with
 |@cons f _ fs _ hf pt=>
  obtain⟨x,t,l,e1,rfl⟩:=hf.resolve_left λz=>hr z.1;have no:none∈fs:=by
   clear p h hf
   induction pt with
   |nil=>cases he
   |@cons f r' fs rs q t' ih=>
    rcases Wal.mp he with z|z
    ·subst z
     rcases q with ⟨_,y⟩|⟨_,_,_,y,_⟩
     ·subst y;exact Wa4
     ·cases y
    ·exact Was _ (ih z)
  have:((some (Value.int x t)::fs).toArray.all λx=>x.isSome)=false:=by
   rw[Wes,Wbt];intro z;rw[Wbp]at z;have:=z none (Was _ no);cases this
  rw[this,if_neg (by simp),if_pos (by simp)];exact wpAny_pure h
end
def keyD (κ:PyProof.Rows.KeyKind) (v:Value):κ.α:=(κ.keyOf v).getD κ.dflt
def Sortd (κ:PyProof.Rows.KeyKind) (out:List Value):Prop:=out.Pairwise λa b=>κ.kle (keyD κ a) (keyD κ b)
theorem twins {vs:List Value}{xs:Array Keyed}(hp:xs.Perm (vs.toArray.zip vs.toArray)):∀p∈xs.toList,p.1=p.2/\p.1∈vs:=λp hm=>by
 have h1:p∈(vs.toArray.zip vs.toArray).toList:=(Array.perm_iff_toList_perm.mp hp).mem_iff.mp hm;rw[Array.toList_zip]at h1;have h1:p∈vs.zip vs:=h1;obtain⟨i,hi⟩:=Wbv.mp h1;rw[Wbj]at hi;exact⟨Wbh.inj (hi.1.symm.trans hi.2),Wat hi.1⟩
theorem Zru {κ:PyProof.Rows.KeyKind}{vs:List Value}{xs:Array Keyed}(hp:xs.Perm (vs.toArray.zip vs.toArray)) (hs:SortedToK κ xs (vs.toArray.zip vs.toArray).size):(xs.map (·.2)).toList.Perm vs/\Sortd κ (xs.map (·.2)).toList:=by
 have hsz:=hp.size_eq;refine⟨?_,?_⟩
 ·rw[Array.toList_map]
  have:=(Array.perm_iff_toList_perm.mp hp).map (·.2);rw[Array.toList_zip]at this;refine this.trans ?_;rw[show (vs.toArray.toList.zip vs.toArray.toList)=vs.zip vs from rfl,Wdm (Wah _)]
 ·unfold Sortd
  rw[Wbs];intro i j hi hj hij;rw[Array.length_toList,Array.size_map]at hi hj;have key:∀k (hk:k<xs.size),KK κ xs k=keyD κ (xs.map (·.2)).toList[k]!:=λk hk=>by
   unfold KK keyD;have e:xs[k]?=some xs[k]:=getElem?_pos xs k hk;rw[e];have e2:(xs.map (·.2)).toList[k]! = xs[k].2:=by simp[hk]
   rw[e2,<- (twins hp xs[k] (by simp)).1]
  have:=hs i j (Wcd hij) (by omega);rw[key i hi,key j hj]at this;simpa [hi,hj] using this
section
variable {prog:Program}{w:World}{A:Around}{E:Value->Shared->Prop}{s:Shared}
theorem Zhx {a:Addr}{vs:List Value}{n:Nat}{kd:SortKind}{κ:PyProof.Rows.KeyKind}{P:Fin->Shared->Prop}(ho:s.heap.get? a=some (seqObj "list" vs.toArray n)) (hz:vs.length<64)
  (hk:2<=vs.length->∀h',KeepBut a s.heap h' -> ∀Q:SortKind->Shared->Prop,Q kd { s with heap:=h' } -> wpAny (model prog w) A (keyKind' vs.toArray) Q E { s with heap:=h' })
  (hc:∀h',KeepBut a s.heap h' -> ∀x∈vs,∀y∈vs,∀(E:Value->Shared->Prop) (Q:Bool->Shared->Prop),Q (κ.blt (keyD κ x) (keyD κ y)) { s with heap:=h' } -> wpAny (model prog w) A (keyLt' kd x y) Q E { s with heap:=h' })
  (h:∀out:List Value,out.Perm vs->Sortd κ out->P (.done (.ret .none)) { s with heap:=sortedHeap s.heap a vs out.toArray }):wpAny (model prog w) A (Builtin.«list.sort» ⟨[.ref a],[]⟩) P E s:=by
 rw[list_sort_plain];have ha:a<s.heap.objs.size:=War ho;have hsz:vs.toArray.size=vs.length:=by simp
 have hline:vs.length<=sizeLine:=by rw[sizeLine_eq];omega
 refine wpAny_bind (listItems_at ho rfl ?_);refine wpAny_bind (listUpdate_at ho rfl ?_ (by rw[hsz];exact hline) (Wbl _));obtain⟨e1,ho1⟩:∃e1,(s.heap.update a (Obj.mapSeq λ_=>#[])).get? a=some (seqObj "list" #[] e1):=⟨_,get?_update_seq ho (λ_=>#[])⟩;refine wpAny_bind (seqEpoch_at ho1 rfl ?_);refine wpAny_bind (wpAny_newTuple ?_ hline);refine wpAny_bind (wpAny_newList ?_ (Wbl _));refine wpAny_holding ?_;have ho6:(((s.heap.update a (Obj.mapSeq λ_=>#[])).push (seqObj "tuple" vs.toArray 0)).push (seqObj "list" #[] 0)).get? a=some (seqObj "list" #[] e1):=by
  rw[Wcf _ _ _ (by rw[size_push',Wc8];exact Wav (Wbn ha)),Wcf _ _ _ (by rw[Wc8];exact Wav ha)];exact ho1
 have keep:KeepBut a s.heap (((s.heap.update a (Obj.mapSeq λ_=>#[])).push (seqObj "tuple" vs.toArray 0)).push (seqObj "list" #[] 0)):=λb o hb q=>
  Wac _ (Wac _ ((Wdt _ _ _ _ hb).trans q))
 show wpAny (model prog w) A _ P E { s with heap:=((s.heap.update a (Obj.mapSeq λ_=>#[])).push (seqObj "tuple" vs.toArray 0)).push (seqObj "list" #[] 0) };dsimp only;have zsz:(vs.toArray.zip vs.toArray).size=vs.length:=by rw[Array.size_zip,hsz,Wdy]
 by_cases h2:vs.toArray.size<2
 ·have out:((vs.toArray.zip vs.toArray).map (·.2))=vs.toArray:=by
   apply Array.toList_inj.mp;rw[Array.toList_map,Array.toList_zip];exact Wdm (Wah _)
  rw[if_pos h2,if_pos h2];refine wpAny_bind (wpAny_pure ?_);rw[StateT.run_pure];refine wpAny_bind (wpAny_pure ?_);dsimp only;refine wpAny_bind (seqEpoch_at ho6 rfl ?_);rw[show arrOf (SortSt.mk' general' (vs.toArray.zip vs.toArray) #[] 7 none)=vs.toArray.zip vs.toArray from rfl,out];refine wpAny_bind (listUpdate_at ho6 rfl ?_ (Wbl _) (by rw[hsz];exact Wd2 hline));simp only[bne_self_eq_false,Wao,if_false];refine wpAny_pure (h vs (List.Perm.refl _) ?_);unfold Sortd
  match vs,h2 with
  |[],_=>exact .nil
  |[_],_=>exact List.pairwise_singleton _ _
  |_::_::_,z=>simp at z;omega
 ·rw[if_neg h2,if_neg h2]
  refine wpAny_bind (hk (by omega) _ keep _ ?_);have O:Orc prog w A E { s with heap:=((s.heap.update a (Obj.mapSeq λ_=>#[])).push (seqObj "tuple" vs.toArray 0)).push (seqObj "list" #[] 0) } κ kd (vs.toArray.zip vs.toArray):=λt g i j hi hj Q hq=>by
   have at':∀k,k<(vs.toArray.zip vs.toArray).size->∃p,(arrOf t)[k]?=some p/\p.1∈vs/\KK κ (arrOf t) k=keyD κ p.1:=λk hk=>by
    have hk':k<(arrOf t).size:=by rw[g.sz];exact hk
    have e:(arrOf t)[k]?=some (arrOf t)[k]:=getElem?_pos _ k hk';refine⟨_,e,(twins g.pm (arrOf t)[k] (by simp)).2,?_⟩;unfold KK keyD;rw[e]
   obtain⟨p,p1,p2,p3⟩:=at' i hi;obtain⟨q,q1,q2,q3⟩:=at' j hj;rw[p3,q3]at hq;rw[ltAt'_eq];refine wpS_bind (wpS_get ?_);show wpS _ _ _ _ (do let x ← elem' (arrOf t) i;let y ← elem' (arrOf t) j;lt' x y) Q _;rw[elem'_eq,elem'_eq,p1,q1];refine wpS_bind (wpS_pure (wpS_bind (wpS_pure ?_)));rw[lt'_eq];refine wpS_bind (wpS_get ?_);rw[g.kd];refine wpS_bind (wpS_lift (wpAny_attempt (hc _ keep p.1 p2 q.1 q2 _ _ ⟨rfl,?_⟩)));exact wpS_pure hq
  refine wpAny_bind (wpAny_mono (Zvk (t:=SortSt.mk' kd (vs.toArray.zip vs.toArray) #[] 7 none) O (Q:=λ_ u=>(arrOf u).Perm (vs.toArray.zip vs.toArray)/\failedOf u=none/\SortedToK κ (arrOf u) (vs.toArray.zip vs.toArray).size) ⟨Array.Perm.refl _,rfl,rfl,rfl⟩ (by rw[zsz];omega) (by rw[zsz];exact hz) λu u1 u2 u3=>⟨u1,u2,u3⟩) ?_ λ_ _ e=>e);rintro⟨⟨⟩,u⟩ s' ⟨rfl,hp,hf,hs⟩;dsimp only;obtain⟨o1,o2⟩:=Zru hp hs;have hfin:=h _ o1 o2;rw[Array.toArray_toList]at hfin;refine wpAny_bind (seqEpoch_at ho6 rfl ?_);refine wpAny_bind (listUpdate_at ho6 rfl ?_ (Wbl _) (by rw[Array.size_map,hp.size_eq,zsz];exact Wd2 hline));rw[hf];simp only[bne_self_eq_false,Wao,if_false];exact wpAny_pure hfin
theorem Ze8 {l:Addr}{b:Bool}{vs:List Value}{kd:SortKind}{κ:PyProof.Rows.KeyKind}{Q:Value->Shared->Prop}(hl:HsB b s.heap l vs.toArray) (hz:vs.length<64)
  (hk:2<=vs.length->∀h',(∀b o,s.heap.get? b=some o->h'.get? b=some o)->∀(E:Value->Shared->Prop) (Q:SortKind->Shared->Prop),Q kd { s with heap:=h' } -> wpAny (model prog w) A.in1.in1 (keyKind' vs.toArray) Q E { s with heap:=h' })
  (hc:∀h',(∀b o,s.heap.get? b=some o->h'.get? b=some o)->∀x∈vs,∀y∈vs,∀(E:Value->Shared->Prop) (Q:Bool->Shared->Prop),Q (κ.blt (keyD κ x) (keyD κ y)) { s with heap:=h' } -> wpAny (model prog w) A.in1.in1 (keyLt' kd x y) Q E { s with heap:=h' })
  (h:∀out:List Value,out.Perm vs->Sortd κ out->Q (.ref (s.heap.objs.size+1)) { s with heap:=sortedAll s.heap vs out.toArray }):wpAny (model prog w) A (call (.builtin "sorted") [.ref l]) Q E s:=by
 have hline:vs.length<=sizeLine:=by rw[sizeLine_eq];omega
 refine Calls.call_function_entry kind_sorted plain_sorted entry_sorted (args_sorted1 _) ?_;unfold Builtin.«sorted»;refine wpAny_bind (m:=checkCount "sorted" 1 1 _) (wpAny_pure ?_);refine wpAny_bind (show wpAny (model prog w) A.in1 (collect (.ref l)) _ _ s from ?_);have go:∀{Q':List Value->Shared->Prop}{E':Value->Shared->Prop},Q' vs { s with heap:=(s.heap.push (seqObj "list" #[] 0)).update s.heap.objs.size (Obj.mapSeq (· ++ vs.toArray)) } -> wpAny (model prog w) A.in1 (collect (.ref l)) Q' E' s:=λ{Q' E'} q=>by
  cases b with
  |true=>exact Zkb hl q hline
  |false=>exact collect_list hl q hline
 refine go ?_;refine wpAny_bind (wpAny_newList ?_ hline);have hsz:((s.heap.push (seqObj "list" #[] 0)).update s.heap.objs.size (Obj.mapSeq (· ++ vs.toArray))).objs.size=s.heap.objs.size+1:=by
  rw[Wc8,size_push']
 have hoL:(((s.heap.push (seqObj "list" #[] 0)).update s.heap.objs.size (Obj.mapSeq (· ++ vs.toArray))).push (seqObj "list" vs.toArray 0)).get? (s.heap.objs.size+1)=some (seqObj "list" vs.toArray 0):=by
  rw[<- hsz];exact Wam _ rfl
 have keep:∀b o,s.heap.get? b=some o->(((s.heap.push (seqObj "list" #[] 0)).update s.heap.objs.size (Obj.mapSeq (· ++ vs.toArray))).push (seqObj "list" vs.toArray 0)).get? b=some o:=λb o q=>by
  have hlt:b<s.heap.objs.size:=War q;rw[Wcf _ _ _ (by rw[hsz];exact Wav (Wbn hlt)),Wdt _ _ _ _ (Wav hlt),Wcf _ _ _ (Wav hlt)];exact q
 have up:∀h',KeepBut (s.heap.objs.size+1) (((s.heap.push (seqObj "list" #[] 0)).update s.heap.objs.size (Obj.mapSeq (· ++ vs.toArray))).push (seqObj "list" vs.toArray 0)) h' -> ∀b o,s.heap.get? b=some o->h'.get? b=some o:=λh' k b o q=>
  k b o (Wav (Wbn (War q))) (keep b o q)
 show wpAny _ _ _ _ _ { s with heap:=((s.heap.push (seqObj "list" #[] 0)).update s.heap.objs.size (Obj.mapSeq (· ++ vs.toArray))).push (seqObj "list" vs.toArray 0) };rw[hsz];refine wpAny_bind (wpAny_holding (wpAny_call_entry slot_list_sort ⟨_,hoL,rfl⟩ entry_list_sort (Zhx (kd:=kd) (κ:=κ) hoL hz (λh2 h' k Q q=>hk h2 h' (up h' k) _ Q q) (λh' k x hx y hy E Q q=>hc h' (up h' k) x hx y hy E Q q) λout o1 o2=>⟨_,rfl,?_⟩) (args_list_sort _)));exact wpAny_pure ⟨_,rfl,h out o1 o2⟩
end
section
variable {X:Cx}
def SqU (K:W.Frag) (H:Hp) (p:Addr) (us:List V):Prop:=SqL K H p us\/SqT K H p us
def IsRows (K:W.Frag) (H:Hp) (us:List V) (rs:List (List Int)):Prop:=Paired (λ(u:V) (r:List Int)=>∃a,u=.ref a/\SqT K H a (r.map V.int)) us rs
def rSortG (K:W.Frag):List V->Hp->VK->Prop:=λxs H Q=>∃p us rs,xs=[.ref p]/\SqU K H p us/\us.length<64/\IsRows K H us rs ∧
 ∀(l:Addr) (ps:List (V × List Int)),ps.Perm (us.zip rs)->(ps.map (·.2)).Pairwise (λa b=>rlt b a=false)->H l=none->Q (.ref l) (upd H l (.lst (ps.map (·.1))))
theorem Paired.mem {R:Value->List Int->Prop}:∀{vs:List Value}{rs:List (List Int)},Paired R vs rs->∀v∈vs,∃r∈rs,R v r
 |_,_,.nil,v,h=>by cases h
 |_,_,.cons p t,v,h=>by
  rcases Wal.mp h with e|e
  ·subst e;exact⟨_,Wa4,p⟩
  ·obtain⟨r,h1,h2⟩:=Paired.mem t v e
   exact⟨r,Was _ h1,h2⟩
theorem Zo8 {R:V->List Int->Prop}{us:List V}{its:List Value}{rs:List (List Int)}{out:List Value}(hv:Vals us its) (hp:Paired R us rs) (ho:out.Perm its):∃ps:List (V × List Int),Vals (ps.map (·.1)) out/\Paired R (ps.map (·.1)) (ps.map (·.2))/\ps.Perm (us.zip rs):=by
 suffices key:∀{out its:List Value},out.Perm its->∀ps:List (V × List Int),Vals (ps.map (·.1)) its->Paired R (ps.map (·.1)) (ps.map (·.2))->∃qs:List (V × List Int),Vals (qs.map (·.1)) out/\Paired R (qs.map (·.1)) (qs.map (·.2))/\qs.Perm ps by
  have hl:us.length=rs.length:=by
   clear key hv ho
   induction hp with
   |nil=>rfl
   |cons _ _ ih=>rw[Waj,Waj,ih]
  refine key ho (us.zip rs) ?_ ?_
  ·rw[List.map_fst_zip (by omega)];exact hv
  ·rw[List.map_fst_zip (by omega),Wdm (by omega)];exact hp
 intro out its ho
 induction ho with
 |nil=>
  intro ps hv hp;cases ps with
  |nil=>exact⟨[],.nil,.nil,.refl _⟩
  |cons _ _=>cases hv
 |cons x h ih=>
  intro ps hv hp;cases ps with
  |nil=>cases hv
  |cons a ps=>
   cases hv with
   |cons r t=>
    cases hp with
    |cons p q=>
     obtain⟨qs,a1,a2,a3⟩:=ih ps t q;exact⟨a::qs,.cons r a1,.cons p a2,a3.cons _⟩
 |swap x y l=>
  intro ps hv hp;cases ps with
  |nil=>cases hv
  |cons a ps=>
   cases ps with
   |nil=>cases hv with|cons _ t=>cases t
   |cons b ps=>
    cases hv with
    |cons r t=>
     cases t with
     |cons r2 t=>
      cases hp with
      |cons p q=>
       cases q with
       |cons p2 q=>exact⟨b::a::ps,.cons r2 (.cons r t),.cons p2 (.cons p q),.swap _ _ _⟩
 |trans h1 h2 ih1 ih2=>
  intro ps hv hp;obtain⟨qs,a1,a2,a3⟩:=ih2 ps hv hp;obtain⟨qs2,b1,b2,b3⟩:=ih1 qs a1 a2;exact⟨qs2,b1,b2,b3.trans a3⟩
theorem Paired.get2 {R:Value->List Int->Prop}:∀{vs:List Value}{rs:List (List Int)}{i:Nat}{r:List Int},Paired R vs rs->rs[i]?=some r->∃v,vs[i]?=some v/\R v r
 |_,_,_,_,.nil,h=>by simp at h
 |_,_,0,_,.cons p _,h=>by simp at h;subst h;exact⟨_,rfl,p⟩
 |_,_,i+1,r,.cons _ t,h=>by
  obtain⟨v,h1,h2⟩:=Paired.get2 (i:=i) (r:=r) t (by simpa using h);exact⟨v,by simpa using h1,h2⟩
theorem sortGK (K:W.Frag) (hu:X.A.units+8<cLine) (hK:X.K=K:=by rfl):CallR X (.builtin "sorted") (rSortG K):=by
 subst hK;intro pins s σ H xs us Q I r h;obtain⟨p,ys,rs,rfl,hx,hl,hp,q⟩:=h;obtain⟨u,rfl,ru⟩:=vals1 r;cases (show u=Value.ref p from ru);obtain⟨b,hx⟩:∃b,SqB b X.K H p ys:=by
  rcases hx with z|z
  ·exact⟨false,z⟩
  ·exact⟨true,z⟩
 obtain⟨its,w1,p1⟩:=I.seqB hx;have pr:=Zj9 I w1 hp;have hlen:=w1.length;have hrl:=Paired.len pr;have hu2:X.A.in1.in1.units<cLine:=Wca (by show X.A.units+1+1<=X.A.units+8;omega) hu;have fin:∀out:List Value,out.Perm its->Sortd (rowKey s.heap) out->EP X pins σ Q (.ref (s.heap.objs.size+1)) { s with heap:=sortedAll s.heap its out.toArray }:=λout o1 o2=>by
  obtain⟨ps,a1,a2,a3⟩:=Zo8 w1 hp o1;have pr':=Zj9 I a1 a2;obtain⟨e,he⟩:=sortedAll_at s.heap its out.toArray;have hs:(ps.map (·.2)).Pairwise (λa b=>rlt b a=false):=by
   rw[Wbs];intro i j hi hj hij;obtain⟨v,v1,v2⟩:=Paired.get2 pr' (Waa hi);obtain⟨u,u1,u2⟩:=Paired.get2 pr' (Waa hj);obtain⟨g1,g2⟩:=Waf.mp v1;obtain⟨g3,g4⟩:=Waf.mp u1;have:=(Wbs.mp o2) i j g1 g3 hij;rw[g2,g4]at this;unfold keyD at this;rw[Zgc v2,Zgc u2]at this;exact this
  have hl':=a1.length;have ho':=o1.length_eq;refine⟨.ref (s.heap.objs.size+1),_,I.laid (t':=s.toks) (λ_ _ z=>sortedAll_old z) (Wcx _) (show ObjOk X.prog X.w _ _ _ (.lst (ps.map (·.1))) from ⟨Wcd (small1000 (by omega)),out,e,a1,he⟩),rfl,q _ ps a3 hs (I.hok.fresh (Wcx _))⟩
 have cmp:∀h',(∀b o,s.heap.get? b=some o->h'.get? b=some o)->∀x∈its,∃a,RowAt h' x a/\keyD (rowKey s.heap) x=a:=λh' k x hx=>by
  obtain⟨a,_,ha⟩:=Paired.mem pr x hx;refine⟨a,ha.keep k,?_⟩;unfold keyD;rw[Zgc ha];rfl
 by_cases hne:∀r∈rs,r≠[]
 ·refine Ze8 (b:=b) (kd:=tuples' true) (κ:=rowKey s.heap) p1 (by omega) (λh2 h' k E Q hq=>?_) (λh' k x hx y hy E Q hq=>?_) fin
  ·exact Zmr (s:={ s with heap:=h' }) (Paired.up (λv r z=>z.keep k) pr) hne (by intro z;subst z;rw[Wb3]at hrl;omega) hq
  ·obtain⟨a,a1,a2⟩:=cmp h' k x hx
   obtain⟨c,c1,c2⟩:=cmp h' k y hy;rw[a2,c2]at hq;exact Zp5 (s:={ s with heap:=h' }) a1 c1 hq
 ·cases rs with
  |nil=>exact absurd (λr h=>nomatch h) hne
  |cons r0 rs=>
   by_cases h0:r0=[]
   ·subst h0
    refine Ze8 (b:=b) (kd:=oneType') (κ:=rowKey s.heap) p1 (by omega) (λh2 h' k E Q hq=>?_) (λh' k x hx y hy E Q hq=>?_) fin
    ·exact Zlt (s:={ s with heap:=h' }) (Paired.up (λv r z=>z.keep k) pr) hq
    ·obtain⟨a,a1,a2⟩:=cmp h' k x hx
     obtain⟨c,c1,c2⟩:=cmp h' k y hy;rw[a2,c2]at hq;exact Zqb (s:={ s with heap:=h' }) hu2 a1 c1 hq
   ·have he:[]∈rs:=by
     apply Classical.byContradiction;intro z;refine hne λr hr e=>?_;subst e;rcases Wal.mp hr with y|y
     ·exact h0 y.symm
     ·exact z y
    refine Ze8 (b:=b) (kd:=general') (κ:=rowKey s.heap) p1 (by omega) (λh2 h' k E Q hq=>?_) (λh' k x hx y hy E Q hq=>?_) fin
    ·exact Zma (s:={ s with heap:=h' }) (Paired.up (λv r z=>z.keep k) pr) h0 he hq
    ·obtain⟨a,a1,a2⟩:=cmp h' k x hx
     obtain⟨c,c1,c2⟩:=cmp h' k y hy;rw[a2,c2]at hq;exact Zrg (s:={ s with heap:=h' }) hu2 a1 c1 hq
end
section
variable {K:W.Frag}{Δ:Evt}
theorem Zlf {G:Hp}:∀{us:List V}{ds:List D},Reps K G us ds->∀p∈us.zip ds,Rep K G p.1 p.2
 |_,_,.nil,p,h=>by cases h
 |_,_,.cons r t,p,h=>by
  rcases Wal.mp h with e|e
  ·subst e;exact r
  ·exact Zlf t p e
theorem Zg2 {G:Hp}:∀ps:List (V × List Int),(∀p∈ps,Rep K G p.1 (rowD p.2))->Reps K G (ps.map (·.1)) ((ps.map (·.2)).map rowD)
 |[],_=>.nil
 |p::ps,h=>.cons (h p Wa4) (Zg2 ps λq hq=>h q (Was _ hq))
theorem Zk2 {ta:TA}{Po:OD->Evt->Prop}(h:JA K ta Δ λds Δ1=>∃rs:List (List Int),(ds=[.lst (rs.map rowD)]\/ds=[.tup (rs.map rowD)])/\rs.length<64/\∀ms:List (List Int),ms.Perm rs->ms.Pairwise (λa b=>rlt b a=false)->Po (.lst (ms.map rowD)) Δ1):JO K (tCB (rSortG K) ta) Δ Po:=λg G H σ Q k c=>
 h g G H σ _ k λvs ds G1 H1 Δ1 k1 s1 r1 hq_=>by
  obtain⟨rs,e,hl,p⟩:=hq_;obtain⟨a,us,ea,hs,rr⟩:∃a us,vs=[.ref a]/\SqU K H1 a us/\Reps K G1 us (rs.map rowD):=by
   rcases e with e|e <;> subst e
   ·obtain⟨_,_,rfl,r,t⟩:=r1.inv
    next=>cases t.inv;cases r with|lst ha' rr=>exact⟨_,_,rfl,.inl (SqL.of (k1.live _ _ ha')),rr⟩
   ·obtain⟨_,_,rfl,r,t⟩:=r1.inv
    next=>cases t.inv;cases r with|tup ha' rr=>exact⟨_,_,rfl,.inr (SqT.of (k1.live _ _ ha')),rr⟩
  subst ea;have hlen:=rr.length;rw[Wab]at hlen;refine⟨a,us,rs,rfl,hs,by omega,Zkq k1.live rr,λl ps a1 a2 hl=>?_⟩;have hr:Reps K G1 (ps.map (·.1)) ((ps.map (·.2)).map rowD):=Zg2 ps λp hp=>by
   have h1:=a1.mem_iff.mp hp;refine Zlf rr (p.1,rowD p.2) ?_;obtain⟨i,hi⟩:=Wbv.mp h1;rw[Wbj]at hi;refine Wbv.mpr ⟨i,?_⟩;rw[Wbj,Wad,hi.2];exact⟨hi.1,rfl⟩
  have hp2:(ps.map (·.2)).Perm rs:=by
   have:=a1.map (·.2);rw[Wdm (by omega)]at this;exact this
  obtain⟨k2,pd⟩:=k1.fresh (od:=.lst ((ps.map (·.2)).map rowD)) hl (show OwnRep K G1 (.lst (ps.map (·.1))) (.lst ((ps.map (·.2)).map rowD)) from hr);exact c l _ G1 _ Δ1 k2 s1 pd (p _ hp2 a2)
end
section
variable {K:W.Frag}{Δ:Evt}{P:D->Evt->Prop}
end
section
variable {X:Cx}{pins:List (Addr × Obj)}{σ:St}{H H':Hp}{s:Shared}{h':Heap}{b:Addr}
end
section
variable {X:Cx}{pins:List (Addr × Obj)}{σ:St}{H H':Hp}{s:Shared}{h':Heap}{a C T:Addr}
variable {M:Model}{E:Value->Shared->Prop}{Q:Unit->Shared->Prop}
end
section
variable {X:Cx}{pins:List (Addr × Obj)}{σ:St}{H:Hp}{s:Shared}{a C:Addr}
end
section
variable {X:Cx}
end
section
variable {P:Program}{w:World}{K:W.Frag}{mg:Str->Option Value}{base:Heap}
end
section
variable {K:W.Frag}{Δ:Evt}{E:XK}{Xp:Addr->Prop}{nx bk ct:Evt->Prop}{rt:D->Evt->Prop}{ro:OD->Evt->Prop}
end
open PySem PySem.Spec PyProof.Rows PySem.SeqAt
section
variable {K:W.Frag}{Δ:Evt}{P:D->Evt->Prop}
end
section
variable {K:W.Frag}{Δ:Evt}
end
section
variable {X:Cx}
def CDivB (i j:Int):Prop:=0<j/\j<=100000000000000000000000000000000000000000000000000000000000
theorem Zho:OpR X (binaryOp .FloorDiv) (rI CDivB λi j=>.int (i / j)):=opI λi j _ _ _ _ _ hc q=>by
 have h1:(0:Int)<j:=hc.1;have h2:=hc.2;refine floordiv_int (by omega) (by rw[Int.fdiv_eq_ediv_of_nonneg i (by omega)];exact q) (.inl (PyProof.noPylong_of_log2 ?_));have h3:j.natAbs<=100000000000000000000000000000000000000000000000000000000000:=by omega
 have h4:j.natAbs<2 ^ 200:=Wca h3 (by decide);exact Nat.lt_trans ((Nat.log2_lt (by omega)).2 h4) (by decide)
end
section
variable {K:W.Frag}{Δ:Evt}{E:XK}{Xp:Addr->Prop}{P:D->Evt->Prop}
end
def keyPd:Key->PyData
 |.inl i=>.int i
 |.inr x=>.str x
mutual
def D.pd:D->PyData
 |.non=>.none
 |.bl b=>.bool b
 |.int i=>.int i
 |.str x=>.str x
 |.tup ds=>.tuple (D.pds ds)
 |.lst ds=>.list (D.pds ds)
 |.dct ks ds=>.dict ((ks.map keyPd).zip (D.pds ds))
 |_=>.none
def D.pds:List D->List PyData
 |[]=>[]
 |d::ds=>D.pd d::D.pds ds
end
section
variable {X:Cx}
end
def PV (K:W.Frag) (te:TE) (Δ:Evt) (d:D):Prop:=∀P:D->Evt->Prop,P d Δ -> JE K te Δ P
def PVs (K:W.Frag) (ta:TA) (Δ:Evt) (ds:List D):Prop:=∀P:List D->Evt->Prop,P ds Δ -> JA K ta Δ P
def PR2 (K:W.Frag) (r:R2) (d e:D) (Δ:Evt) (x:D):Prop:=∀P:D->Evt->Prop,P x Δ -> JR2 K r d e Δ P
section
variable {K:W.Frag}{Δ:Evt}
theorem Zmj {te:TE}{d:D}{P:D->Evt->Prop}(h:PV K te Δ d) (p:P d Δ):JE K te Δ P:=h P p
theorem Zv6 {ta:TA}{ds:List D}{P:List D->Evt->Prop}(h:PVs K ta Δ ds) (p:P ds Δ):JA K ta Δ P:=h P p
theorem Zc5 {i:Nat}{d:D}(h:Δ[i]?=some (.val d)):PV K (tVar i) Δ d:=λP p=>Zac h p
theorem Zdp {i:Int}:PV K (tC (.int i)) Δ (.int i):=λP p=>Zak p
theorem Zuq:PVs K tNil Δ []:=λP p=>Zaf p
theorem Zkw {ta:TE}{tr:TA}{d:D}{ds:List D}(h:PV K ta Δ d) (t:PVs K tr Δ ds):PVs K (tCons ta tr) Δ (d::ds):=λP p=>Zab (h _ (t _ p))
theorem Zec {r:R2}{ta tb:TE}{d e x:D}(a:PV K ta Δ d) (b:PV K tb Δ e) (h:PR2 K r d e Δ x):PV K (tOp r ta tb) Δ x:=λP p=>Zam (a _ (b _ (h P p)))
theorem Zvn {ds:List D}{i:Int}{d:D}(h:atI ds i=some d):PR2 K (rIxU K) (.tup ds) (.int i) Δ d:=λP p=>Zaz h p
theorem Zw4 {ds:List D}{i:Int}{d:D}(h:atI ds i=some d):PR2 K (rIxU K) (.lst ds) (.int i) Δ d:=λP p=>Zcs h p
theorem Zjl {i j:Int}:PR2 K (rAddU K) (.int i) (.int j) Δ (.int (i+j)):=λP p=>Zcf p
theorem Zxb {f:Int->Int->Int}{i j:Int}:PR2 K (rI0 λi j=>.int (f i j)) (.int i) (.int j) Δ (.int (f i j)):=λP p=>Zfj p
theorem pr_I {C:Int->Int->Prop}{f:Int->Int->Int}{i j:Int}(hc:C i j):PR2 K (rI C λi j=>.int (f i j)) (.int i) (.int j) Δ (.int (f i j)):=λP p=>jr_I hc p
theorem Zm5 {ta tb:TE}{ds:List D}{i:Int}{d:D}(a:PV K ta Δ (.tup ds)) (b:PV K tb Δ (.int i)) (h:atI ds i=some d):PV K (tOp (rIxU K) ta tb) Δ d:=Zec a b (Zvn h)
theorem Zv2 {ta tb:TE}{ds:List D}{i:Int}{d:D}(a:PV K ta Δ (.lst ds)) (b:PV K tb Δ (.int i)) (h:atI ds i=some d):PV K (tOp (rIxU K) ta tb) Δ d:=Zec a b (Zw4 h)
theorem Zr7 {n:Nat}{ds:List D}{i:Int}{d:D}(hx:Δ[n]?=some (.val (.tup ds))) (h:atI ds i=some d):PV K (tOp (rIxU K) (tVar n) (tC (.int i))) Δ d:=Zm5 (Zc5 hx) Zdp h
theorem Zuk {ta:TE}{ds:List D}(a:PV K ta Δ (.tup ds)):PV K (tCB (rLenU K) (tCons ta tNil)) Δ (.int ds.length):=λP p=>Za3 (Zab (a _ (Zaf (Zba (.inr rfl) p))))
end
open PySem PySem.Spec PyProof.Rows PySem.SeqAt
section
variable {K:W.Frag}{Δ:Evt}{P:D->Evt->Prop}
end
open PySem PySem.Spec PyProof.Rows PySem.SeqAt
section
variable {K:W.Frag}{Δ:Evt}
end
section
variable {K:W.Frag}{Δ:Evt}{nx bk ct:Evt->Prop}{rt:D->Evt->Prop}{ro:OD->Evt->Prop}
end
section
variable {K:W.Frag}{Δ:Evt}{P:D->Evt->Prop}
end
end L2
set_option Elab.async false
set_option linter.all false
set_option maxRecDepth 100000
namespace HT
open PySem PyProof.Rows
end HT
namespace L2
open PySem PySem.Spec PyProof.Rows
section
variable {K:W.Frag}{Δ:Evt}{P:D->Evt->Prop}
end
section
variable {prog:Program}{w:World}{A:Around}{R:Result->Shared->Prop}{I:Addr}{fp wr:List Addr}{G:Array GenState->Array GenState->Prop}{n:Nat}{P:Nat->Value->Prop}{St:Nat->Shared->Prop}{K:Type}[DecidableEq K] {knd:KeyKind prog w K}
end
section
variable {X:Cx}
end
end L2
namespace L2
open PySem PySem.Spec PyProof.Rows
section
variable {prog:Program}{w:World}{A:Around}{E:Value->Shared->Prop}{s:Shared}
end
section
variable {K:W.Frag}{Δ:Evt}{P:D->Evt->Prop}
end
end L2
namespace L2
open PySem PySem.Spec PyProof.Rows
open PySem PySem.Spec PyProof.Rows PySem.SeqAt
section
variable {prog:Program}{w:World}{A:Around}{E:Value->Shared->Prop}{s:Shared}
end
section
variable {K:W.Frag}{Δ:Evt}
end
open PySem PySem.Spec PyProof.Rows PySem.SeqAt
theorem Zmy (a b:List Int):(((Wai (min a.length b.length)).all λj=>decide (a.getD j 0=b.getD j 0)) && a.length == b.length)=decide (a=b):=by
 rw[Wde,Wbg,Wbp,beq_iff_eq,decide_eq_true_iff];constructor
 ·rintro⟨h1,h2⟩
  apply Wer h2;intro i hi hj;have:=of_decide_eq_true (h1 i (Waw.mpr (by omega)));rw[Wae,Wae,Waa hi,Waa hj]at this;exact this
 ·rintro rfl
  exact⟨λj _=>decide_eq_true rfl,rfl⟩
section
variable {A:Around}{s:Shared}
theorem Zki {x y:Value}{a b:List Int}(hx:RowAt s.heap x a) (hy:RowAt s.heap y b) (hu:A.units<cLine):EqAt A s x y (decide (a=b)):=by
 obtain⟨p,its,rfl,t1,i1⟩:=id hx;obtain⟨q,its2,rfl,t2,i2⟩:=id hy;by_cases e:p=q
 ·subst e
  rw[decide_eq_true (hx.inj hy)];exact EqAt.same _
 ·have l1:=i1.length
  have l2:=i2.length;have:=RcAt.tuples (A:=A) (s:=s) (e:=λj=>decide (a.getD j 0=b.getD j 0)) t1 t2 hu λj h1 h2=>by
   have h1':j<its.length:=by simpa using h1
   have h2':j<its2.length:=by simpa using h2
   obtain⟨t,et⟩:=IntsAre.int_at i1 j _ (Waa h1');obtain⟨t',et'⟩:=IntsAre.int_at i2 j _ (Waa h2');rw[Wdp,Wdp,et,et'];have z:=EqAt.int_int (A:=A.in1) (s:=s) (a.getD j 0) t (b.getD j 0) t';rw[Wd5]at z;exact z
  rw[Wak,Wak,l1,l2,Zmy]at this;exact EqAt.of_refs e this
end
def cLt:List (List Int)->List (List Int)->Bool
 |[],[]=>false
 |[],_::_=>true
 |_::_,[]=>false
 |x::xs,y::ys=>if x=y then cLt xs ys else rlt x y
def CodeAt (h:Heap) (v:Value) (c:List (List Int)):Prop:=∃(a:Addr) (its:List Value),v=.ref a/\IsTup h a its.toArray/\Paired (RowAt h) its c
theorem CodeAt.keep {h h':Heap}{v:Value}{c:List (List Int)}(x:CodeAt h v c) (k:∀b o,h.get? b=some o->h'.get? b=some o):CodeAt h' v c:=by
 obtain⟨a,its,e,⟨o,ho,hc⟩,i⟩:=x;exact⟨a,its,e,⟨o,k a o ho,hc⟩,Paired.mapP i λ_ _ z=>z.keep k⟩
section
open PySem.AutoSeq1 (wpAny_loadPart')
open PySem.MeetsSeq PySem.MeetsSeq2 PySem.MeetsSeq3
theorem Zhn (l b:Addr) (items items2:Array Value) (n n2:Nat) (dd dd2:Option Addr) (sl sl2:Array (Option Value)) (ns ms:List (List Int)) :
  Meets (Builtin.«tuple.__lt__» ⟨[.ref l,.ref b],[]⟩)
   (λA R s=>A.units+1<cLine/\(Paired (RowAt s.heap) items.toList ns/\Paired (RowAt s.heap) items2.toList ms)/\s.heap.get? l=some { cls:=.type "tuple",dict:=dd,data:=.seq items n,slots:=sl } /\ s.heap.get? b=some { cls:=.type "tuple",dict:=dd2,data:=.seq items2 n2,slots:=sl2 } ∧
    R (.ok (.ret (.bool (cLt ns ms)))) s):=
 .of_wp λprog w A R s h=>by
  obtain⟨hp,g,d,tk,os⟩:=s;obtain⟨hu,⟨hi,hj⟩,hl,hb,h⟩:=h;have f2:=AutoSeq1.sub_tuple_tuple;have z1:items.size=ns.length:=by rw[<- Paired.length hi];simp
  have z2:items2.size=ms.length:=by rw[<- Paired.length hj];simp
  wp_walk using wpAny_loadPart' hl,wpAny_loadPart' hb,wpAny_forIn_list _ (λrest b s'=>b.1=none/\s'=⟨hp,g,d,tk,os⟩ /\ ∃(vs ws:List Value) (ns' ms':List (List Int)),rest=vs.zip ws ∧
   Paired (RowAt hp) vs ns' /\ Paired (RowAt hp) ws ms' /\ ns'.length+items2.size=ms'.length+items.size/\R (.ok (.ret (.bool (cLt ns' ms')))) ⟨hp,g,d,tk,os⟩) _
  case turn=>
   rintro⟨y,x⟩ rest b s' ⟨hb',rfl,vs,ws,ns',ms',hz,hvi,hwi,hlen,hR⟩;cases hvi with
   |nil=>rw[Wem]at hz;cases hz
   |@cons _ a _ _ ra hvi'=>
    cases hwi with
    |nil=>rw[Wed]at hz;cases hz
    |@cons _ c _ _ rc hwi'=>
     rw[Wcj]at hz;injection hz with hyx hrest
     injection hyx with hy hx
     subst hy hx;have hR:R (.ok (.ret (.bool (if a=c then cLt _ _ else rlt a c)))) ⟨hp,g,d,tk,os⟩:=hR;simp only[Waj]at hlen;have he:=Zki (A:=A.in1) (s:=⟨hp,g,d,tk,os⟩) ra rc (by show A.units+1<cLine;exact hu);refine wpAny_bind (he prog w _ _ ?_);by_cases e:a=c
     ·rw[if_pos e]at hR
      rw[decide_eq_true e]
      wp_walk
      exact⟨rfl,rfl,_,_,_,_,hrest,hvi',hwi',by omega,hR⟩
     ·rw[if_neg e]at hR
      rw[decide_eq_false e];have hri:∀(Q:Value->Shared->Prop) (E:Value->Shared->Prop),Q (.bool (rlt a c)) ⟨hp,g,d,tk,os⟩ -> wpAny (model prog w) A.in1 (richCompare .Lt y x) Q E ⟨hp,g,d,tk,os⟩:=λQ E q=>by
       obtain⟨l',its',rfl,⟨⟨c1,d1,dt1,sl1⟩,ho,hc,k1,hd⟩,hi'⟩:=ra;obtain⟨l2,its2',rfl,⟨⟨c2,d2,dt2,sl2'⟩,ho2,hc2,k2,hd2⟩,hi2'⟩:=rc;simp only at hc hd hc2 hd2;subst hc hd hc2 hd2;exact richCompare_meets_room (op:=.Lt) ⟨_,ho,rfl⟩ ⟨_,ho2,rfl⟩ PySem.F.slot_tuple_lt PySem.F.entry_tuple_lt (PySem.F.args_tuple_lt_2 _ _) (HT.tuple_lt_ints l' l2 its'.toArray its2'.toArray k1 k2 d1 d2 sl1 sl2' a c (by simpa using hi') (by simpa using hi2'))
        ⟨ho,ho2,show Value.bool (HT.lexLt a c)≠Value.notImplemented/\_ from ⟨(λx=>nomatch x),q⟩⟩ (by show A.units+1<cLine;exact hu)
      wp_walk using hri
      exact⟨_,rfl,by simpa using hR⟩
  case fin=>
   rintro⟨b1,b2⟩ s' ⟨hb',rfl,vs,ws,ns',ms',hz,hvi,hwi,hlen,hR⟩;simp only at hb';subst hb';have hv:cLt ns' ms'=decide (items.size<items2.size):=by
    cases hvi with
    |nil=>
     cases hwi with
     |nil=>
      simp only[Wb3]at hlen;exact(decide_eq_false (by omega)).symm
     |cons _ hw=>
      simp only[Wb3,Waj]at hlen;exact(decide_eq_true (by omega)).symm
    |cons _ hv=>
     cases hwi with
     |nil=>
      simp only[Wb3,Waj]at hlen;exact(decide_eq_false (by omega)).symm
     |cons _ hw=>
      rw[Wcj]at hz;cases hz
   rw[hv]at hR
   wp_walk
   exact⟨_,rfl,by simpa [Builtin.Tuple.tupleCompareSizes] using hR⟩
  ·exact⟨rfl,rfl,_,_,_,_,rfl,hi,hj,by omega,h⟩
end
theorem Paired.getC {α β:Type}{R:α -> β -> Prop}:∀{vs:List α}{rs:List β}{i:Nat}{v:α},Paired R vs rs->vs[i]?=some v->∃r,rs[i]?=some r/\R v r
 |_,_,_,_,.nil,e=>by simp at e
 |_,_,0,_,.cons r _,e=>by simp at e;subst e;exact⟨_,rfl,r⟩
 |_,_,i+1,_,.cons _ t,e=>Paired.getC (i:=i) t (by simpa using e)
section
variable {prog:Program}{w:World}{A:Around}{E:Value->Shared->Prop}{s:Shared}
end
end L2
namespace L2
open PySem PySem.Spec PyProof.Rows PySem.SeqAt
def RowV (K:W.Frag) (H:Hp) (y:V) (r:List Int):Prop:=∃b,y=.ref b/\SqT K H b (r.map V.int)
def CodeV (K:W.Frag) (H:Hp) (y:V) (c:List (List Int)):Prop:=∃b zs,y=.ref b/\SqT K H b zs/\Paired (RowV K H) zs c
section
variable {X:Cx}
theorem Zf7 {α:Type}{R:V -> α -> Prop}{T:Value -> α -> Prop}(h:∀y u c,RelV y u->R y c->T u c):∀{ys:List V}{us:List Value}{cs:List α},Vals ys us->Paired R ys cs->Paired T us cs
 |_,_,_,.nil,.nil=>.nil
 |_,_,_,.cons a b,.cons c d=>.cons (h _ _ _ a c) (Zf7 h b d)
theorem Zv9 {pins:List (Addr × Obj)}{s:Shared}{σ:St}{H:Hp}(I:Inv X pins σ H s) {y:V}{u:Value}{r:List Int}(ru:RelV y u) (h:RowV X.K H y r):RowAt s.heap u r:=by
 obtain⟨b,rfl,hs⟩:=h;obtain⟨its,w1,p1,_⟩:=I.tuple hs;exact⟨b,its,ru,p1,Zdu w1⟩
theorem Zsu {pins:List (Addr × Obj)}{s:Shared}{σ:St}{H:Hp}(I:Inv X pins σ H s) {y:V}{u:Value}{c:List (List Int)}(ru:RelV y u) (h:CodeV X.K H y c):CodeAt s.heap u c:=by
 obtain⟨b,zs,rfl,hs,hp⟩:=h;obtain⟨its,w1,p1,_⟩:=I.tuple hs;exact⟨b,its,ru,p1,Zf7 (R:=RowV X.K H) (T:=RowAt s.heap) (λy u c a b=>Zv9 I a b) w1 hp⟩
end
section
variable {K:W.Frag}{Δ:Evt}{P:D->Evt->Prop}
theorem Zs4 {G:Hp}{H:Hp}(hs:Same G H) {v:V}{r:List Int}(h:Rep K G v (rowD r)):RowV K H v r:=by
 obtain⟨a,vs,rfl,ha,rs⟩:=h.inv;have ev:=rs.ints;subst ev;exact⟨a,rfl,SqT.of (hs _ _ ha)⟩
theorem Zix {G:Hp}{H:Hp}(hs:Same G H):∀{vs:List V}{c:List (List Int)},Reps K G vs (c.map rowD)->Paired (RowV K H) vs c
 |_,[],.nil=>.nil
 |_,r::c,.cons a b=>.cons (Zs4 hs a) (Zix hs b)
theorem Zgz {G:Hp}{H:Hp}(hs:Same G H):∀{vs:List V}{cs:List (List (List Int))},Reps K G vs (cs.map λc=>D.tup (c.map rowD))->Paired (CodeV K H) vs cs
 |_,[],.nil=>.nil
 |_,c::cs,.cons a b=>by
  obtain⟨p,ws,rfl,ha,rs⟩:=a.inv;exact .cons ⟨p,ws,rfl,SqT.of (hs _ _ ha),Zix hs rs⟩ (Zgz hs b)
end
open PySem PySem.Spec PyProof.Rows PySem.SeqAt
def rNeT (K:W.Frag):R2:=λx y H Q=>∃(G:Hp) (n:Nat) (xs ys:List D) (a b:Addr) (vs ws:List V),Same G H/\SqT K H a vs/\SqT K H b ws/\Reps K G vs xs/\Reps K G ws ys/\(∀d∈xs,Dp n d)/\(∀d∈ys,Dp n d)/\n<=5/\x=.ref a/\y=.ref b/\Q (.bl (!(eqF (n+1) (.tup xs) (.tup ys)))) H
section
variable {X:Cx}
theorem neTK (K:W.Frag) (hv:X.A.units+8<cLine) (hK:X.K=K:=by rfl):OpR X (compareOp .NotEq) (rNeT K):=by
 subst hK;intro pins s σ H x y v u Q I rx ry h;obtain⟨G,n,xs,ys,a,b,vs,ws,sg,h1,h2,ra,rb,pd,pe,hn,rfl,rfl,q⟩:=h;cases rx;cases ry;obtain⟨its,w1,p1,_⟩:=I.tuple h1;obtain⟨its2,w2,p2,_⟩:=I.tuple h2;have l1:=w1.length;have l2:=w2.length;have l3:=ra.length;have l4:=rb.length;have z:=RcNeAt.tuples (A:=X.A) (s:=s) (e:=atZip n xs ys) p1 p2 (by omega) λj g1 g2=>by
  have g1':j<its.length:=by simpa using g1
  have g2':j<its2.length:=by simpa using g2
  have hx:j<xs.length:=by omega
  have hy:j<ys.length:=by omega
  obtain⟨p,hp1,hp2⟩:=ra.get (Waa hx);obtain⟨q,hq1,hq2⟩:=rb.get (Waa hy);obtain⟨va,hv1,hv2⟩:=w1.get hp1;obtain⟨vb,hw1,hw2⟩:=w2.get hq1;rw[Waa g1']at hv1;rw[Waa g2']at hw1;rw[Wdp,Wdp,Wbh.inj hv1,Wbh.inj hw1];have:=(Zsk n (A:=X.A.in1) I sg hp2 hq2 hv2 hw2 (pd _ (Wa5 hx)) (pe _ (Wa5 hy)) (by show X.A.units+1+n<cLine;omega)).1;unfold atZip;rw[Waa hx,Waa hy];exact this
 have e1:(!((Wai (min its.toArray.size its2.toArray.size)).all (atZip n xs ys) && its.toArray.size == its2.toArray.size)) = !(eqF (n+1) (.tup xs) (.tup ys)):=by
  show _ = !(xs.length == ys.length && (xs.zip ys).all λp=>eqF n p.1 p.2);rw[<- Zhi,Wak,Wak,<- l1,<- l2,l3,l4,Wej]
 rw[e1]at z;exact z X.prog X.w _ _ ⟨.bl _,H,I,rfl,q⟩
end
section
variable {K:W.Frag}{Δ:Evt}{P:D->Evt->Prop}
theorem Zwu {n:Nat}{xs ys:List D}(hn:n<=5) (pd:∀d∈xs,Dp n d) (pe:∀d∈ys,Dp n d) (p:P (.bl (!(eqF (n+1) (.tup xs) (.tup ys)))) Δ):JR2 K (rNeT K) (.tup xs) (.tup ys) Δ P:=λg G H σ Q x y k rx ry c=>by
 obtain⟨a,vs,rfl,ha,rs⟩:=rx.inv;obtain⟨b,ws,rfl,hb,rt⟩:=ry.inv;exact⟨G,n,xs,ys,a,b,vs,ws,k.live,SqT.of (k.live _ _ ha),SqT.of (k.live _ _ hb),rs,rt,pd,pe,hn,rfl,rfl,c _ _ G H Δ k (Same.refl _) (.bl _) p⟩
end
open PySem PySem.Spec PyProof.Rows PySem.SeqAt
section
variable {K:W.Frag}{Δ:Evt}{P:D->Evt->Prop}
end
open PySem PySem.Spec PyProof.Rows PySem.SeqAt
open PySem PySem.Spec PyProof.Rows PySem.SeqAt
section
variable {X:Cx}
end
section
variable {prog:Program}{w:World}{A:Around}{E:Value->Shared->Prop}{s:Shared}
end
section
variable {K:W.Frag}{Δ:Evt}{P:D->Evt->Prop}
end
open PySem PySem.Spec PyProof.Rows PySem.SeqAt
section
variable {prog:Program}{w:World}{A:Around}{E:Value->Shared->Prop}{s:Shared}
end
section
variable {K:W.Frag}{Δ:Evt}
end
section
variable {K:W.Frag}{Δ:Evt}{P:D->Evt->Prop}
end
section
variable {X:Cx}
end
def advM (m:Nat) (p:SetTable.Probe):SetTable.Probe:=
 if p.more > 0 then { p with j:=p.j+1,more:=p.more-1 } else
 let (i,perturb):=SetTable.leap m p.i p.perturb
 { p with j:=i,more:=SetTable.runEnd m i-i,i,perturb }
def prb (m:Nat) (h:Int):Nat->SetTable.Probe
 |0=>{ j:=SetTable.bits h % (m+1),more:=SetTable.runEnd m (SetTable.bits h % (m+1))-SetTable.bits h % (m+1),i:=SetTable.bits h % (m+1),perturb:=SetTable.bits h,dummy:=none }
 |n+1=>advM m (prb m h n)
def lp (m:Nat) (h:Int):Nat->Nat × Nat
 |0=>(SetTable.bits h % (m+1),SetTable.bits h)
 |k+1=>SetTable.leap m (lp m h k).1 (lp m h k).2
def runL (m i:Nat):Nat:=SetTable.runEnd m i-i
theorem Zo5 (m i:Nat):runL m i<=9:=by unfold runL SetTable.runEnd;split <;> omega
theorem Zj0 {m i r:Nat}(h:i<=m) (hr:r<=runL m i):i+r<=m:=by
 unfold runL SetTable.runEnd at hr;split at hr <;> omega
theorem Zth (m:Nat) (h:Int):∀k,(lp m h k).1<=m
 |0=>Wc6 (Wd0 _ (Nat.succ_pos m))
 |k+1=>Wc6 (Wd0 _ (Nat.succ_pos m))
theorem Zgb {m:Nat}{h:Int}{n i q:Nat}(e:prb m h n=⟨i,runL m i,i,q,none⟩):∀r,r<=runL m i->prb m h (n+r)=⟨i+r,runL m i-r,i,q,none⟩
 |0,_=>e
 |r+1,hr=>by
  show advM m (prb m h (n+r))=_;rw[Zgb e r (by omega)];unfold advM;rw[if_pos (show runL m i-r > 0 by omega)];rfl
theorem Zlp (m:Nat) (h:Int):∀k,∃n,n<=10*k/\k<=n/\prb m h n=⟨(lp m h k).1,runL m (lp m h k).1,(lp m h k).1,(lp m h k).2,none⟩ /\ ∀n',n'<n->∃k' r,k'<k/\r<=runL m (lp m h k').1/\(prb m h n').j=(lp m h k').1+r
 |0=>⟨0,Wah _,Wah _,rfl,λn' h=>absurd h (Wdu _)⟩
 |k+1=>by
  obtain⟨n,h1,h0,h2,h3⟩:=Zlp m h k;have h9:=Zo5 m (lp m h k).1;refine⟨n+runL m (lp m h k).1+1,by omega,by omega,?_,λn' hn=>?_⟩
  ·show advM m (prb m h (n+runL m (lp m h k).1))=_
   rw[Zgb h2 _ (Wah _)];unfold advM;rw[if_neg (show ¬ runL m (lp m h k).1-runL m (lp m h k).1 > 0 by omega)];rfl
  ·by_cases hc:n'<n
   ·obtain⟨k',r,a,b,c⟩:=h3 n' hc
    exact⟨k',r,by omega,b,c⟩
   ·refine⟨k,n'-n,by omega,by omega,?_⟩
    have:=Zgb h2 (n'-n) (by omega);rw[show n+(n'-n)=n' by omega]at this;rw[this]
theorem Zwl (m:Nat) (h:Int) (n:Nat):(prb m h n).j<=m:=by
 obtain⟨n2,_,a1,_,a3⟩:=Zlp m h (n+1);obtain⟨k',r,_,b,c⟩:=a3 n (by omega);rw[c];exact Zj0 (Zth m h k') b
def stp (m:Nat):Nat->Nat->Nat
 |0,i=>i
 |k+1,i=>(stp m k i*5+1) % (m+1)
def Cyc (m:Nat):Prop:=∀i j,i<=m->j<=m->∃k,k<=m/\stp m k i=j
theorem Zhw (m:Nat) (a:Nat):∀b i,stp m (a+b) i=stp m b (stp m a i)
 |0,i=>rfl
 |b+1,i=>by show (stp m (a+b) i*5+1) % (m+1)=_;rw[Zhw m a b i];rfl
theorem Zvr {m:Nat}(h1:stp m (m+1) 0=0) (h2:∀j,j<m+1->∃k,k<m+1/\stp m k 0=j):Cyc m:=by
 intro i j hi hj;obtain⟨a,ha,rfl⟩:=h2 i (by omega);obtain⟨b,hb,rfl⟩:=h2 j (by omega);by_cases c:a<=b
 ·exact⟨b-a,by omega,by rw[<- Zhw,show a+(b-a)=b by omega]⟩
 ·refine⟨m+1-a+b,by omega,?_⟩
  rw[<- Zhw,show a+(m+1-a+b)=(m+1)+b by omega,Zhw,h1]
def orb (m:Nat):Nat->Nat->List Nat
 |0,_=>[]
 |f+1,i=>i::orb m f ((i*5+1) % (m+1))
theorem Zjd (m:Nat):∀k i,stp m (k+1) i=stp m k ((i*5+1) % (m+1))
 |0,i=>rfl
 |k+1,i=>by show (stp m (k+1) i*5+1) % (m+1)=_;rw[Zjd m k i];rfl
theorem Zoe (m:Nat):∀f i j,j∈orb m f i->∃k,k<f/\stp m k i=j
 |0,i,j,h=>by cases h
 |f+1,i,j,h=>by
  rcases Wal.mp h with e|e
  ·exact⟨0,by omega,e.symm⟩
  ·obtain⟨k,a,b⟩:=Zoe m f _ j e
   exact⟨k+1,by omega,by rw[Zjd];exact b⟩
def cycB (m:Nat):Bool:=stp m (m+1) 0 == 0 && (Wai (m+1)).all λj=>(orb m (m+1) 0).contains j
theorem Zqm {m:Nat}(h:cycB m=true):Cyc m:=by
 unfold cycB at h;rw[Wbg]at h;refine Zvr (by simpa using h.1) λj hj=>?_;have:=Wbp.mp h.2 j (Waw.mpr hj);exact Zoe m _ _ j (by simpa using this)
theorem cyc7:Cyc 7:=Zqm (by decide +kernel)
theorem cyc31:Cyc 31:=Zqm (by decide +kernel)
theorem cyc127:Cyc 127:=Zqm (by decide +kernel)
theorem cyc511:Cyc 511:=Zqm (by decide +kernel)
theorem Zsh (m:Nat) (h:Int):∀k,(lp m h k).2=SetTable.bits h / 32 ^ k
 |0=>by show SetTable.bits h=_;rw[Nat.pow_zero,Nat.div_one]
 |k+1=>by show (lp m h k).2 / 32=_;rw[Zsh m h k,Nat.div_div_eq_div_mul,Nat.pow_succ]
theorem Ztk (h:Int):SetTable.bits h<2 ^ 64:=by
 unfold SetTable.bits;have h1:=Wcp h (show (0:Int)<2 ^ 64 by decide);have h2:=Wc4 h (show (2 ^ 64:Int)≠0 by decide);have:((2:Int) ^ 64)=((2 ^ 64:Nat):Int):=by decide
 omega
theorem Znc (m:Nat) (h:Int):∀k,lp m h (13+k)=(stp m k (lp m h 13).1,0)
 |0=>by
  have e:=Zsh m h 13;have b:=Ztk h;rw[Nat.div_eq_of_lt (Wbf b (by decide))]at e;show lp m h 13=((lp m h 13).1,0);rw[<- e]
 |k+1=>by
  show SetTable.leap m (lp m h (13+k)).1 (lp m h (13+k)).2=_;rw[Znc m h k];unfold SetTable.leap;show ((stp m k (lp m h 13).1*5+1+0 / 32) % (m+1),0 / 32)=_;rw[Nat.zero_div];rfl
theorem Zk7 {m:Nat}(hc:Cyc m) (h:Int) {j:Nat}(hj:j<=m):∃k,k<=m+13/\(lp m h k).1=j:=by
 obtain⟨k,h1,h2⟩:=hc _ _ (Zth m h 13) hj;exact⟨13+k,by omega,by rw[Znc,h2]⟩
theorem Zom {m:Nat}(hc:Cyc m) (h:Int) {j:Nat}(hj:j<=m):∃n,n<10*(m+15)/\(prb m h n).j=j:=by
 obtain⟨k,h1,h2⟩:=Zk7 hc h hj;obtain⟨n,a,_,b,_⟩:=Zlp m h k;exact⟨n,by omega,by rw[b];exact h2⟩
def Rch (m:Nat) (pl:Nat->Prop) (h:Int) (j:Nat):Prop:=∃n,n<10*(m+15)/\(prb m h n).j=j/\∀n',n'<n->pl (prb m h n').j
theorem Rch.mono {m:Nat}{pl pl':Nat->Prop}{h:Int}{j:Nat}(r:Rch m pl h j) (i:∀x,pl x->pl' x):Rch m pl' h j:=
 let ⟨n,a,b,c⟩:=r; ⟨n,a,b,λn' hn=>i _ (c n' hn)⟩
structure STb (t:SetTable) (hs:List Int):Prop where
 dm:t.dummies = #[]
 cy:Cyc t.mask
 rs:Ris t.place
 sz:t.place.size=hs.length
 le:∀(i j:Nat),t.place[i]?=some j->j<=t.mask
 rc:∀(i j:Nat) (h:Int),t.place[i]?=some j->hs[i]?=some h->Rch t.mask (λx=>∃y:Nat,t.place[y]?=some x) h j
 ro:t.place.size<t.mask
theorem Zr1 {xs:Array Nat}(R:Ris xs) {i j:Nat}(h:xs[i]?=some j):SetTable.below xs j=i:=by
 obtain⟨b1,b2,b3⟩:=Zdy R j;have hi:=(Array.getElem?_eq_some_iff.mp h).1;rcases Wd1 (SetTable.below xs j) i with c|c|c
 ·have hb:SetTable.below xs j<xs.size:=by omega
  have e:=Array.getElem?_eq_getElem hb;have h1:=R _ _ _ _ c e h;have h2:=b3 _ _ (Wah _) e;omega
 ·exact c
 ·have:=b2 i j c h;omega
theorem Zel {t:SetTable}(R:Ris t.place) {i j:Nat}(h:t.place[i]?=some j):t.slot j=.live i:=by
 unfold SetTable.slot;dsimp only;rw[Zr1 R h,h];simp
theorem Zmh {t:SetTable}(hd:t.dummies = #[]) {j:Nat}(h:∀i:Nat,t.place[i]?≠some j):t.slot j=.empty:=by
 unfold SetTable.slot;dsimp only;rw[if_neg (by simpa using h _),hd,Zh9];simp
theorem Zgm (m:Nat) (h:Int):∀n,(prb m h n).dummy=none
 |0=>rfl
 |n+1=>by
  show (advM m (prb m h n)).dummy=none;unfold advM;split
  ·exact Zgm m h n
  ·exact Zgm m h n
theorem Zng {t:SetTable}{hs:List Int}(T:STb t hs) {hashAt:Nat->Int}{h:Int}(hn:∀i,i<t.place.size->hashAt i≠h) {n0:Nat}(h0:∀i:Nat,t.place[i]?≠some (prb t.mask h n0).j) :
  ∀fuel n,n<=n0->n0<n+fuel->n0<10*(t.mask+15)->(∀n',n'<n->∃y:Nat,t.place[y]?=some (prb t.mask h n').j) →
   ∃j,SetTable.probe.go t hashAt h fuel (prb t.mask h n)=some (.empty j none)/\j<=t.mask/\(∀i:Nat,t.place[i]?≠some j)/\Rch t.mask (λx=>∃y:Nat,t.place[y]?=some x) h j
 |0,n,h1,h2,_,_=>by omega
 |fuel+1,n,h1,h2,h3,h4=>by
  unfold SetTable.probe.go;by_cases c:∃i:Nat,t.place[i]?=some (prb t.mask h n).j
  ·obtain⟨i,hi⟩:=c
   rw[Zel T.rs hi];dsimp only;have his:=(Array.getElem?_eq_some_iff.mp hi).1;rw[if_neg (by simpa using hn i his)];have hne:n≠n0:=λe=>by subst e;exact h0 i hi
   exact Zng T hn h0 fuel (n+1) (by omega) (by omega) h3 λn' hn'=>by
    rcases Wc1 (Wc6 hn') with z|z
    ·exact h4 n' z
    ·subst z;exact⟨i,hi⟩
  ·have c':∀i:Nat,t.place[i]?≠some (prb t.mask h n).j:=λi z=>c ⟨i,z⟩
   rw[Zmh T.dm c'];dsimp only;rw[Zgm];exact⟨_,rfl,Zwl _ _ _,c',n,by omega,rfl,h4⟩
theorem Zks {t:SetTable}{hs:List Int}(T:STb t hs) {hashAt:Nat->Int}{h:Int}{i0:Nat}(hi0:hashAt i0=h) (hn:∀i,i<t.place.size->hashAt i=h->i=i0) {n0:Nat}(h0:t.place[i0]?=some (prb t.mask h n0).j)
  (hb:∀n',n'<n0->∃y:Nat,t.place[y]?=some (prb t.mask h n').j):∀fuel n,n<=n0->n0<n+fuel->∃j nx,SetTable.probe.go t hashAt h fuel (prb t.mask h n)=some (.candidate j i0 nx)/\t.place[i0]?=some j
 |0,n,h1,h2=>by omega
 |fuel+1,n,h1,h2=>by
  unfold SetTable.probe.go;rcases Wc1 h1 with c|c
  ·obtain⟨i,hi⟩:=hb n c
   rw[Zel T.rs hi];dsimp only;have his:=(Array.getElem?_eq_some_iff.mp hi).1;by_cases q:hashAt i=h
   ·have:=hn i his q
    subst this;rw[if_pos (by simpa using q)];exact⟨_,_,rfl,hi⟩
   ·rw[if_neg (by simpa using q)]
    exact Zks T hi0 hn h0 hb fuel (n+1) (by omega) (by omega)
  ·subst c
   rw[Zel T.rs h0];dsimp only;rw[if_pos (by simpa using hi0)];exact⟨_,_,rfl,h0⟩
theorem Zpr:∀{ms l:List Nat},ms.Nodup->(∀x∈ms,x∈l)->ms.length<=l.length
 |[],_,_,_=>Wbl _
 |x::ms,l,h1,h2=>by
  rw[Wbr]at h1;have hx:=h2 x (by simp);have:=Zpr (ms:=ms) (l:=l.erase x) h1.2 λy hy=>(Wdo (λz:y=x=>h1.1 (z ▸ hy))).mpr (h2 y (by simp[hy]));rw[Wdb hx]at this;have:=Wcg hx;rw[Waj];omega
theorem Zmz {xs:Array Nat}{m:Nat}(h:xs.size<m):∃j,j<=m/\∀i:Nat,xs[i]?≠some j:=by
 refine Classical.byContradiction λhc=>?_;have all:∀j,j<=m->∃i:Nat,xs[i]?=some j:=λj hj=>Classical.byContradiction λz=>hc ⟨j,hj,λi e=>z ⟨i,e⟩⟩;have sub:(Wai (m+1)).length<=xs.toList.length:=Zpr Wdl λx hx=>by
  obtain⟨i,e⟩:=all x (by have:=Waw.mp hx;omega);exact Array.mem_toList_iff.mpr (Array.mem_of_getElem? e)
 rw[Wa7,Array.length_toList]at sub;omega
theorem Zni {t:SetTable}{hs:List Int}(T:STb t hs) {hashAt:Nat->Int}{h:Int}(hn:∀i,i<t.place.size->hashAt i≠h) :
  ∃j,t.probe hashAt h (t.probeStart h)=some (.empty j none)/\j<=t.mask/\(∀i:Nat,t.place[i]?≠some j)/\Rch t.mask (λx=>∃y:Nat,t.place[y]?=some x) h j:=by
 obtain⟨j,h1,h2⟩:=Zmz T.ro;obtain⟨n,a,rfl⟩:=Zom T.cy h h1;exact Zng T hn h2 _ 0 (Wbl _) (by show n<0+10*SetTable.turns t.mask;unfold SetTable.turns;omega) a λn' h=>absurd h (Wdu _)
theorem Zj8 {t:SetTable}{hs:List Int}(T:STb t hs) {hashAt:Nat->Int}{h:Int}{i0:Nat}(h0:hs[i0]?=some h) (ha:hashAt i0=h) (hn:∀i,i<t.place.size->hashAt i=h->i=i0) :
  ∃j nx,t.probe hashAt h (t.probeStart h)=some (.candidate j i0 nx)/\t.place[i0]?=some j:=by
 have hl:=(Waf.mp h0).1;rw[<- T.sz]at hl;have e:=Array.getElem?_eq_getElem hl;obtain⟨n,a,b,c⟩:=T.rc _ _ _ e h0;exact Zks T ha hn (by rw[b];exact e) c _ 0 (Wbl _) (by show n<0+10*SetTable.turns t.mask;unfold SetTable.turns;omega)
theorem Zqh {α:Type}(l:List α) (p:Nat) (x:α) (h:p<=l.length) (i:Nat):(l.take p++x::l.drop p)[i]?=if i<p then l[i]? else if i=p then some x else l[i-1]?:=by
 by_cases h1:i<p
 ·rw[if_pos h1,Wa8 (by rw[Wa2];omega),Wdz h1]
 ·rw[if_neg h1,Wa0 (by rw[Wa2];omega),Wa2,Wdv h]
  by_cases h2:i=p
  ·rw[if_pos h2,h2,Nat.sub_self];rfl
  ·rw[if_neg h2,show i-p=(i-1-p)+1 by omega,Wd3,Wco,show p+(i-1-p)=i-1 by omega]
theorem Znk {xs:Array Nat}{j:Nat}(hp:SetTable.below xs j<=xs.size) (y:Nat):(∃i:Nat,(SetTable.insertAt xs (SetTable.below xs j) j)[i]?=some y)↔y=j\/∃i:Nat,xs[i]?=some y:=by
 constructor
 ·rintro⟨i,e⟩
  rw[Zbv _ _ _ hp]at e;split at e
  ·exact .inr ⟨_,e⟩
  ·split at e
   ·exact .inl (Wbh.inj e).symm
   ·exact .inr ⟨_,e⟩
 ·rintro(rfl|⟨i,e⟩)
  ·exact⟨SetTable.below xs y,by rw[Zbv _ _ _ hp,if_neg (Wcw _),if_pos rfl]⟩
  ·by_cases c:i<SetTable.below xs j
   ·exact⟨i,by rw[Zbv _ _ _ hp,if_pos c];exact e⟩
   ·exact⟨i+1,by rw[Zbv _ _ _ hp,if_neg (by omega),if_neg (by omega)];exact e⟩
theorem STb.put {t:SetTable}{hs:List Int}(T:STb t hs) {h:Int}{j:Nat}(hj:j<=t.mask) (hf:∀i:Nat,t.place[i]?≠some j) (hr:Rch t.mask (λx=>∃y:Nat,t.place[y]?=some x) h j) (hro:t.place.size+1<t.mask) :
  STb (t.put j).1 (hs.take (t.put j).2++h::hs.drop (t.put j).2)/\(t.put j).2<=hs.length:=by
 have hp:SetTable.below t.place j<=t.place.size:=(Zdy T.rs j).1;have hd:(t.put j).1.dummies = #[]:=by
  show (if SetTable.has t.dummies j=true then _ else t.dummies) = #[];rw[T.dm,Zh9];rfl
 have hz:(SetTable.insertAt t.place (SetTable.below t.place j) j).size=t.place.size+1:=by
  rw[<- Array.length_toList,Zdg _ _ _ hp,Waq,Waj,Wa2,Wbz,Array.length_toList];omega
 have hs1:=T.sz;have up:∀x,(∃y:Nat,t.place[y]?=some x)->∃y:Nat,(t.put j).1.place[y]?=some x:=λx hx=>(Znk hp x).mpr (.inr hx);refine⟨⟨hd,T.cy,Zm8 T.rs (hf _),?_,λi y e=>?_,λi y g e1 e2=>?_,?_⟩,by rw[<- hs1];exact hp⟩
 ·show (SetTable.insertAt t.place (SetTable.below t.place j) j).size=_
  rw[hz,Waq,Waj,Wa2,Wbz];show _=min (SetTable.below t.place j) hs.length+(hs.length-SetTable.below t.place j+1);omega
 ·rcases(Znk hp y).mp ⟨i,e⟩ with rfl|⟨i',e'⟩
  ·exact hj
  ·exact T.le i' y e'
 ·have e1:(SetTable.insertAt t.place (SetTable.below t.place j) j)[i]?=some y:=e1
  have e2:(hs.take (SetTable.below t.place j)++h::hs.drop (SetTable.below t.place j))[i]?=some g:=e2;rw[Zbv _ _ _ hp]at e1;rw[Zqh _ _ _ (by omega)]at e2;by_cases c1:i<SetTable.below t.place j
  ·rw[if_pos c1]at e1 e2
   exact(T.rc i y g e1 e2).mono up
  ·rw[if_neg c1]at e1 e2
   by_cases c2:i=SetTable.below t.place j
   ·rw[if_pos c2]at e1 e2
    cases e1;cases e2;exact hr.mono up
   ·rw[if_neg c2]at e1 e2
    exact(T.rc _ y g e1 e2).mono up
 ·show (SetTable.insertAt t.place (SetTable.below t.place j) j).size<t.mask
  rw[hz];exact hro
def fil (ow:Array (Option Nat)):Nat:=ow.toList.countP (·.isSome)
def Tkn (ow:Array (Option Nat)) (x:Nat):Prop:=∃q,ow[x]?=some (some q)
theorem Zkz {m:Nat}{ow:Array (Option Nat)}{h:Int}(hz:ow.size=m+1) {k0:Nat}(h0:ow[(lp m h k0).1]?=some none) (hk0:k0<=m+13):∀fuel k,k<=k0->k0<k+fuel →
  (∀k' r,k'<k->r<=runL m (lp m h k').1->Tkn ow ((lp m h k').1+r))->∃j,SetTable.layClean.free m ow fuel (lp m h k).1 (lp m h k).2=some j/\j<=m/\ow[j]?=some none/\Rch m (Tkn ow) h j
 |0,k,h1,h2,_=>by omega
 |fuel+1,k,h1,h2,hb=>by
  have hle:=Zth m h k;have get:∀r,r<=runL m (lp m h k).1->((ow.getD ((lp m h k).1+r) (some 0)).isNone=true↔ow[(lp m h k).1+r]?=some none)/\(¬ (ow.getD ((lp m h k).1+r) (some 0)).isNone=true->Tkn ow ((lp m h k).1+r)):=λr hr=>by
   have hin:=Zj0 hle hr;have hlt:(lp m h k).1+r<ow.size:=by omega
   have e:=Array.getElem?_eq_getElem hlt;rw[Array.getD_eq_getD_getElem?,e,Wek];constructor
   ·cases ow[(lp m h k).1+r] <;> simp
   ·intro z
    cases q:ow[(lp m h k).1+r] with
    |none=>rw[q]at z;exact absurd rfl z
    |some v=>exact⟨v,by rw[e,q]⟩
  have hlen:SetTable.runEnd m (lp m h k).1+1-(lp m h k).1=runL m (lp m h k).1+1:=by
   unfold runL SetTable.runEnd;split <;> omega
  obtain⟨n,n1,n2,n3,n4⟩:=Zlp m h k;unfold SetTable.layClean.free;rw[hlen];cases q:(Wai (runL m (lp m h k).1+1)).find? λr=>(ow.getD ((lp m h k).1+r) (some 0)).isNone with
  |some r=>
   dsimp only;obtain⟨q1,q2,q3⟩:=List.find?_range_eq_some.mp q;have hr:r<=runL m (lp m h k).1:=by have:=Waw.mp q2;omega
   have hr9:=Zo5 m (lp m h k).1;refine⟨_,rfl,Zj0 hle hr,((get r hr).1).mp q1,n+r,by omega,by rw[Zgb n3 r hr],λn' hn'=>?_⟩;by_cases c:n'<n
   ·obtain⟨k',r',a,b,d⟩:=n4 n' c
    rw[d];exact hb k' r' a b
   ·have hr':n'-n<r:=by omega
    have e:=Zgb n3 (n'-n) (by omega);rw[show n+(n'-n)=n' by omega]at e;rw[e];exact(get _ (by omega)).2 (by have z:=q3 (n'-n) hr';intro z';rw[z']at z;cases z)
  |none=>
   dsimp only;have hall:∀r,r<=runL m (lp m h k).1->Tkn ow ((lp m h k).1+r):=λr hr=>(get r hr).2 (by have z:=List.find?_range_eq_none.mp q r (by omega);intro z';rw[z']at z;cases z);have hne:k≠k0:=λe=>by
    subst e;obtain⟨v,hv⟩:=hall 0 (Wbl _);rw[Nat.add_zero,h0]at hv;cases hv
   refine Zkz hz h0 hk0 fuel (k+1) (by omega) (by omega) λk' r hk hr=>?_;rcases Wc1 (Wc6 hk) with z|z
   ·exact hb k' r z hr
   ·subst z;exact hall r hr
structure Lai (m:Nat) (hs:List Int) (k:Nat) (ow:Array (Option Nat)):Prop where
 sz:ow.size=m+1
 cn:fil ow=k
 at_:∀(j q:Nat),ow[j]?=some (some q)->q<k/\∀h,hs[q]?=some h->Rch m (Tkn ow) h j
 ex:∀q,q<k->∃j:Nat,ow[j]?=some (some q)
 inj:∀(j j' q:Nat),ow[j]?=some (some q)->ow[j']?=some (some q)->j=j'
theorem Zsq (m:Nat) (hs:List Int):Lai m hs 0 (Array.replicate (m+1) none):=by
 have no:∀(j q:Nat),(Array.replicate (m+1) (none:Option Nat))[j]?≠some (some q):=λj q e=>by
  rw[Array.getElem?_replicate]at e;split at e <;> cases e
 refine⟨Array.size_replicate,?_,λj q e=>absurd e (no j q),λq h=>absurd h (Wdu _),λj _ q e=>absurd e (no j q)⟩;unfold fil;rw[Array.toList_replicate,List.countP_replicate];rfl
theorem Zrr {m:Nat}{ow:Array (Option Nat)}(hz:ow.size=m+1) (h:fil ow<m+1):∃j,j<=m/\ow[j]?=some none:=by
 refine Classical.byContradiction λhc=>?_;have all:∀x∈ow.toList,x.isSome=true:=λx hx=>by
  obtain⟨i,hi⟩:=Wdq hx;rw[Array.getElem?_toList]at hi;cases x with
  |some v=>rfl
  |none=>exact absurd ⟨i,by have:=(Array.getElem?_eq_some_iff.mp hi).1;omega,hi⟩ hc
 have:=List.countP_eq_length.mpr all;unfold fil at h;rw[this,Array.length_toList]at h;omega
theorem Znf {l:List (Option Nat)}{j:Nat}(v:Nat) (h:l[j]?=some none):(l.set j (some v)).countP (·.isSome)=l.countP (·.isSome)+1:=by
 obtain⟨h1,h2⟩:=Waf.mp h;rw[List.countP_set h1,h2];simp
theorem Zqx {m:Nat}{hs:List Int}{k:Nat}{ow:Array (Option Nat)}(L:Lai m hs k ow) (hc:Cyc m) (hk:k<=m) {h:Int}(hh:hs[k]?=some h) :
  ∃j,SetTable.layClean.free m ow (SetTable.turns m) (SetTable.bits h % (m+1)) (SetTable.bits h)=some j/\Lai m hs (k+1) (ow.setIfInBounds j (some k)):=by
 obtain⟨j0,h1,h2⟩:=Zrr L.sz (by rw[L.cn];omega);obtain⟨k0,h3,h4⟩:=Zk7 hc h h1;obtain⟨j,e1,e2,e3,e4⟩:=Zkz L.sz (h:=h) (k0:=k0) (by rw[h4];exact h2) h3 (SetTable.turns m) 0 (Wbl _) (by unfold SetTable.turns;omega) λk' r h=>absurd h (Wdu _);have hj:j<ow.size:=by rw[L.sz];omega
 have get:∀x:Nat,(ow.setIfInBounds j (some k))[x]?=if j=x then some (some k) else ow[x]?:=λx=>by
  rw[Array.getElem?_setIfInBounds];by_cases c:j=x
  ·rw[if_pos c,if_pos c,if_pos (by omega)]
  ·rw[if_neg c,if_neg c]
 have up:∀x,Tkn ow x->Tkn (ow.setIfInBounds j (some k)) x:=λx ⟨q,hq⟩=>by
  by_cases c:j=x
  ·exact⟨k,by rw[get,if_pos c]⟩
  ·exact⟨q,by rw[get,if_neg c];exact hq⟩
 refine⟨j,e1,⟨by rw[Array.size_setIfInBounds];exact L.sz,?_,λx q e=>?_,λq hq=>?_,λx x' q a b=>?_⟩⟩
 ·unfold fil
  rw[Array.toList_setIfInBounds,Znf k (by rw[Array.getElem?_toList];exact e3)];have:=L.cn;unfold fil at this;omega
 ·rw[get]at e
  by_cases c:j=x
  ·rw[if_pos c]at e
   cases e;refine⟨by omega,λg hg=>?_⟩;rw[hh]at hg;cases hg;rw[<- c];exact e4.mono up
  ·rw[if_neg c]at e
   obtain⟨a,b⟩:=L.at_ x q e;exact⟨by omega,λg hg=>(b g hg).mono up⟩
 ·rcases Wc1 (Wc6 hq) with z|z
  ·obtain⟨x,hx⟩:=L.ex q z
   have c:j≠x:=λc=>by rw[<- c,e3]at hx;cases hx
   exact⟨x,by rw[get,if_neg c];exact hx⟩
  ·subst z
   exact⟨j,by rw[get,if_pos rfl]⟩
 ·rw[get]at a b
  by_cases c:j=x
  ·by_cases c':j=x'
   ·rw[<- c,c']
   ·rw[if_pos c]at a;rw[if_neg c']at b
    cases a;have:=(L.at_ _ _ b).1;omega
  ·by_cases c':j=x'
   ·rw[if_neg c]at a;rw[if_pos c']at b
    cases b;have:=(L.at_ _ _ a).1;omega
   ·rw[if_neg c]at a;rw[if_neg c']at b
    exact L.inj x x' q a b
def layStep (m:Nat) (acc:Option (Array (Option Nat) × Nat)) (h:Int):Option (Array (Option Nat) × Nat):=do
 let (owner,k) ← acc
 let j ← SetTable.layClean.free m owner (SetTable.turns m) (SetTable.bits h % (m+1)) (SetTable.bits h)
 pure (owner.setIfInBounds j (some k),k+1)
theorem Zke (m:Nat) (hs:Array Int):SetTable.layClean m hs=(hs.toList.foldl (layStep m) (some (Array.replicate (m+1) none,0))).map (·.1):=by
 rw[Array.foldl_toList];rfl
theorem Zlj {m:Nat}{hs:List Int}(hc:Cyc m) (hm:hs.length<=m):∀(rest:List Int) (k:Nat) (ow:Array (Option Nat)),Lai m hs k ow->hs.drop k=rest->k<=hs.length->∃ow',rest.foldl (layStep m) (some (ow,k))=some (ow',hs.length)/\Lai m hs hs.length ow'
 |[],k,ow,L,e,hk=>by
  have:k=hs.length:=by
   have:=congrArg Wba e;rw[Wbz,Wb3]at this;omega
  subst this;exact⟨ow,rfl,L⟩
 |h::rest,k,ow,L,e,hk=>by
  have hlt:k<hs.length:=by
   have:=congrArg Wba e;rw[Wbz,Waj]at this;omega
  have hh:hs[k]?=some h:=by
   have:=Wco (xs:=hs) (i:=k) (j:=0);rw[e]at this;simpa using this.symm
  obtain⟨j,e1,L1⟩:=Zqx L hc (by omega) hh;have es:layStep m (some (ow,k)) h=some (ow.setIfInBounds j (some k),k+1):=by
   show (SetTable.layClean.free m ow (SetTable.turns m) (SetTable.bits h % (m+1)) (SetTable.bits h)).bind (λj=>some (ow.setIfInBounds j (some k),k+1))=_;rw[e1];rfl
  rw[List.foldl_cons,es];refine Zlj hc hm rest (k+1) _ L1 ?_ (by omega);rw[<- List.drop_drop,e];rfl
def liveL (ow:Array (Option Nat)) (m:Nat):List (Nat × Nat):=(Wai (m+1)).filterMap λj=>(ow.getD j none).map (j,·)
theorem Zda {m:Nat}{ow:Array (Option Nat)}(hz:ow.size=m+1) (j q:Nat):(j,q)∈liveL ow m↔ow[j]?=some (some q):=by
 unfold liveL;rw[Wef];constructor
 ·rintro⟨x,hx,e⟩
  have hx:=Waw.mp hx;have g:=Array.getElem?_eq_getElem (show x<ow.size by omega);rw[Array.getD_eq_getD_getElem?,g,Wek]at e;cases z:ow[x] with
  |none=>rw[z]at e;cases e
  |some v=>
   rw[z]at e;cases e;rw[g,z]
 ·intro e
  have hx:=(Array.getElem?_eq_some_iff.mp e).1;refine⟨j,Waw.mpr (by omega),?_⟩;rw[Array.getD_eq_getD_getElem?,e];rfl
theorem Zmq (m:Nat) (ow:Array (Option Nat)):(liveL ow m).Pairwise λa b=>a.1<b.1:=by
 unfold liveL;rw[List.pairwise_filterMap];refine List.Pairwise.imp ?_ Wb2;intro a b hab c hc d hd;cases qa:ow.getD a none with
 |none=>rw[qa]at hc;cases hc
 |some k=>
  cases qb:ow.getD b none with
  |none=>rw[qb]at hd;cases hd
  |some l=>
   rw[qa]at hc;rw[qb]at hd;have hc:(a,k)=c:=by simpa using hc
   have hd:(b,l)=d:=by simpa using hd
   subst hc hd;exact hab
theorem Zny {m:Nat}{hs:List Int}{k:Nat}{ow:Array (Option Nat)}(L:Lai m hs k ow):((liveL ow m).map (·.2)).Perm (Wai k):=by
 have nd:((liveL ow m).map (·.2)).Nodup:=by
  rw[List.nodup_iff_pairwise_ne,Wcr];refine List.Pairwise.imp_of_mem ?_ (Zmq m ow);intro a b ha hb hab e;obtain⟨j,q⟩:=a;obtain⟨j',q'⟩:=b;simp only at hab e;subst e;have:=L.inj _ _ _ ((Zda L.sz _ _).mp ha) ((Zda L.sz _ _).mp hb);omega
 refine(List.perm_ext_iff_of_nodup nd Wdl).mpr λq=>?_;rw[Way,Waw];constructor
 ·rintro⟨⟨j,q'⟩,h1,rfl⟩
  exact(L.at_ _ _ ((Zda L.sz _ _).mp h1)).1
 ·intro h
  obtain⟨j,hj⟩:=L.ex q h;exact⟨(j,q),(Zda L.sz _ _).mpr hj,rfl⟩
theorem Zlr {α:Type}{es:Array α}:∀(l:List Nat),(∀q∈l,q<es.size)->(l.filterMap (es[·]?)).length=l.length/\∀x:Nat,(l.filterMap (es[·]?))[x]?=(l[x]?).bind (es[·]?)
 |[],_=>⟨rfl,λx=>by simp⟩
 |q::l,h=>by
  obtain⟨i1,i2⟩:=Zlr l λx hx=>h x (Was _ hx);have e:=Array.getElem?_eq_getElem (h q (by simp));rw[List.filterMap_cons_some e];refine⟨by rw[Waj,Waj,i1],λx=>?_⟩;cases x with
  |zero=>show some _=_;rw[<- e];rfl
  |succ x=>show (l.filterMap (es[·]?))[x]?=_;rw[i2];rfl
theorem Zri {α:Type}(es:Array α):(Wai es.size).filterMap (es[·]?)=es.toList:=by
 apply Wb6;intro i;rw[(Zlr (es:=es) (Wai es.size) λq h=>Waw.mp h).2];by_cases c:i<es.size
 ·rw[Wc9 c,Array.getElem?_toList];rfl
 ·rw[Wb8 (show (Wai es.size).length<=i by rw[Wa7];omega),Wb8 (show es.toList.length<=i by rw[Array.length_toList];omega)];rfl
theorem Ztb {m fg mv:Nat}{ld pn:Bool}{hs:Array Int}(hc:Cyc m) (hm:hs.size<m):∃t' order,SetTable.laid m fg mv ld pn hs=some (t',order)/\t'.mask=m/\t'.led=ld/\t'.plain=pn/\STb t' (order.toList.filterMap (hs[·]?))/\order.toList.Perm (Wai hs.size):=by
 obtain⟨ow,e1,L⟩:=Zlj (m:=m) (hs:=hs.toList) hc (by rw[Array.length_toList];omega) hs.toList 0 _ (Zsq m hs.toList) (by simp) (Wbl _);rw[Array.length_toList]at e1 L;have e2:SetTable.layClean m hs=some ow:=by rw[Zke,e1];rfl
 have pm:=Zny L;refine⟨{ mask:=m,place:=((liveL ow m).map (·.1)).toArray,dummies:=#[],finger:=fg,led:=ld,moves:=mv,plain:=pn },((liveL ow m).map (·.2)).toArray,?_,rfl,rfl,rfl,?_,by simpa using pm⟩
 ·unfold SetTable.laid
  rw[e2];rfl
 have hq:∀q∈(liveL ow m).map (·.2),q<hs.size:=λq h=>Waw.mp ((pm.mem_iff).mp h);obtain⟨f1,f2⟩:=Zlr (es:=hs) _ hq;have hl:(liveL ow m).length=hs.size:=by have:=pm.length_eq;rwa [Wab,Wa7]at this
 have pl:∀(i j:Nat),((liveL ow m).map (·.1)).toArray[i]?=some j->∃q,(liveL ow m)[i]?=some (j,q):=λi j e=>by
  rw[Wcn,Wad]at e;cases z:(liveL ow m)[i]? with
  |none=>rw[z]at e;cases e
  |some p=>rw[z]at e;obtain⟨a,b⟩:=p;cases e;exact⟨b,rfl⟩
 have tk:∀x,Tkn ow x->∃y:Nat,((liveL ow m).map (·.1)).toArray[y]?=some x:=λx ⟨q,hx⟩=>by
  obtain⟨y,hy⟩:=Wdq ((Zda L.sz x q).mpr hx);exact⟨y,by rw[Wcn,Wad,hy];rfl⟩
 refine⟨rfl,hc,Zko ow (m+1),?_,λi j e=>?_,λi j h e1 e2=>?_,?_⟩
 ·show ((liveL ow m).map (·.1)).toArray.size=_
  rw[Wak,Wab,f1,Wab]
 ·obtain⟨q,hq'⟩:=pl i j e
  have:=(Zda L.sz _ _).mp (Wat hq');have:=(Array.getElem?_eq_some_iff.mp this).1;have hz:=L.sz;show j<=m;omega
 ·obtain⟨q,hq'⟩:=pl i j e1
  rw[f2,Wad,hq']at e2;have e2:hs[q]?=some h:=e2;have:=(L.at_ _ _ ((Zda L.sz _ _).mp (Wat hq'))).2 h (by rw[Array.getElem?_toList];exact e2);exact this.mono tk
 ·show ((liveL ow m).map (·.1)).toArray.size<m
  rw[Wak,Wab,hl];exact hm
def hashP (k:Int × Int):Int:=reduceHash (Builtin.Tuple.tupleHashOf [hashInt k.1,hashInt k.2])
def SmP (k:Int × Int):Prop:=0<=k.1/\k.1<64/\0<=k.2/\k.2<2
def allP:List (Int × Int):=(Wai 64).flatMap λi:Nat=>[((i:Int),0),((i:Int),1)]
theorem Zk3 {k:Int × Int}(h:SmP k):k∈allP:=by
 obtain⟨h1,h2,h3,h4⟩:=h;unfold allP;rw[List.mem_flatMap];refine⟨k.1.toNat,Waw.mpr (by omega),?_⟩;have:k.2=0\/k.2=1:=by omega
 rcases this with e|e
 ·exact Wal.mpr (.inl (Prod.ext (by show k.1=((k.1.toNat:Nat):Int);omega) e))
 ·exact Wal.mpr (.inr (Wbc.mpr (Prod.ext (by show k.1=((k.1.toNat:Nat):Int);omega) e)))
def nodB:List Int->Bool
 |[]=>true
 |x::l=>l.all (λy=>y != x) && nodB l
theorem Zn1:∀{l:List Int},nodB l=true->l.Nodup
 |[],_=>Wdj
 |x::l,h=>by
  unfold nodB at h;rw[Wbg,Wbp]at h;exact Wbr.mpr ⟨λhx=>by have:=h.1 x hx;simp at this,Zn1 h.2⟩
theorem Zqv:(allP.map hashP).Nodup:=Zn1 (by decide +kernel)
theorem Zgg {α β:Type}{f:α -> β}:∀{l:List α},(l.map f).Nodup->∀{a b:α},a∈l->b∈l->f a=f b->a=b
 |[],_,a,b,ha,_,_=>by cases ha
 |x::l,h,a,b,ha,hb,e=>by
  rw[Wbe,Wbr]at h;rcases Wal.mp ha with ha|ha
  ·rcases Wal.mp hb with hb|hb
   ·rw[ha,hb]
   ·rw[ha]at e;exact absurd (e ▸ Wea hb) h.1
  ·rcases Wal.mp hb with hb|hb
   ·rw[hb]at e;exact absurd (e ▸ Wea ha) h.1
   ·exact Zgg h.2 ha hb e
theorem Zkp {a b:Int × Int}(ha:SmP a) (hb:SmP b) (e:hashP a=hashP b):a=b:=Zgg Zqv (Zk3 ha) (Zk3 hb) e
def entP (hf:Int × Int->Int) (x:(Int × Int) × Addr):Int × Value:=(hf x.1,.ref x.2)
structure StG (hf:Int × Int->Int) (h:Heap) (a:Addr) (o:Obj) (es:Array (Int × Value)) (ep:Nat) (t:SetTable) (xs:List ((Int × Int) × Addr)):Prop where
 ob:h.get? a=some o
 ex:o.ExactSet
 da:o.data=.set es ep t
 el:es.toList.Perm (xs.map (entP hf))
 tb:STb t (es.toList.map (·.1))
 nf:es.size*5<t.mask*3
 mks:t.mask=7\/t.mask=31\/t.mask=127\/t.mask=511
def PSt (hf:Int × Int->Int) (a:Addr) (xs:List ((Int × Int) × Addr)) (h:Heap):Prop:=∃o es ep t,StG hf h a o es ep t xs
theorem PSt.keep {hf:Int × Int->Int}{a:Addr}{xs:List ((Int × Int) × Addr)}{h h':Heap}(x:PSt hf a xs h) (k:∀o,h.get? a=some o->h'.get? a=some o):PSt hf a xs h':=by
 obtain⟨o,es,ep,t,g⟩:=x;exact⟨o,es,ep,t,k _ g.ob,g.ex,g.da,g.el,g.tb,g.nf,g.mks⟩
theorem StG.size {hf:Int × Int->Int}{h:Heap}{a:Addr}{o:Obj}{es:Array (Int × Value)}{ep:Nat}{t:SetTable}{xs:List ((Int × Int) × Addr)}(g:StG hf h a o es ep t xs):es.size=xs.length:=by
 have:=g.el.length_eq
 rwa [Array.length_toList,Wab]at this
theorem StG.psz {hf:Int × Int->Int}{h:Heap}{a:Addr}{o:Obj}{es:Array (Int × Value)}{ep:Nat}{t:SetTable}{xs:List ((Int × Int) × Addr)}(g:StG hf h a o es ep t xs):t.place.size=es.size:=by
 have:=g.tb.sz
 rwa [Wab,Array.length_toList]at this
theorem StG.fits {hf:Int × Int->Int}{h:Heap}{a:Addr}{o:Obj}{es:Array (Int × Value)}{ep:Nat}{t:SetTable}{xs:List ((Int × Int) × Addr)}(g:StG hf h a o es ep t xs):t.fits es.size=true:=by
 unfold SetTable.fits SetTable.fill;rw[g.tb.dm,g.psz];have:=g.tb.ro;rw[g.psz]at this;simp;omega
theorem StG.gave {hf:Int × Int->Int}{h:Heap}{a:Addr}{o:Obj}{es:Array (Int × Value)}{ep:Nat}{t:SetTable}{xs:List ((Int × Int) × Addr)}(g:StG hf h a o es ep t xs):t.gaveWay=false:=by
 unfold SetTable.gaveWay;rcases g.mks with e|e|e|e <;> rw[e] <;> rfl
section
variable {prog:Program}{w:World}{A:Around}{E:Value->Shared->Prop}{s:Shared}
abbrev IsP (prog:Program) (w:World) (h:Heap) (k:Int × Int) (a:Addr):Prop:=IsTupleKey (PySem.intKind prog w) h [k.1,k.2] a
theorem Zep {k:Int × Int}{a:Addr}{Q:Bool->Shared->Prop}(hk:IsP prog w s.heap k a) (h:Q false s):wpAny (model prog w) A (ofAClassStatement 8 (.ref a)) Q E s:=by
 have hT:=hk.typeIs;obtain⟨o,items,n,ho,_,hd,hi⟩:=hk;unfold ofAClassStatement;refine wpAny_bind (wpAny_typeOf hT ?_);dsimp only;refine wpAny_bind (wpAny_pure ?_);simp only[Wcv,Wao,↓reduceIte];refine wpAny_bind (wpAny_seqItems ho hd ?_);dsimp only;refine wpAny_bind ?_;rw[<- Array.forIn_toList];refine wpAny_forIn_list _ (λrest (r:Option Bool × Unit) s'=>r.1=none/\s'=s/\∀v∈rest,carriedByValue v=true) _ ?_ ?_ _ _ ⟨rfl,rfl,hi.byValue⟩
 ·rintro v rest r s' ⟨hr,rfl,hall⟩
  have e:ofAClassStatement 7 v=pure false:=by
   have:=hall v Wa4;cases v with
   |ref a=>simp[carriedByValue]at this
   |_=>rfl
  rw[e];refine wpAny_bind (wpAny_pure ?_);simp only[Wao,if_false];exact wpAny_pure ⟨rfl,rfl,λu hu'=>hall u (Was _ hu')⟩
 ·rintro⟨r1,r2⟩ s' ⟨hr,rfl,_⟩
  simp only at hr;subst hr;exact wpAny_pure h
theorem noneSeen {b:Addr}{k:Int × Int}(hk:IsP prog w s.heap k b):∀(ys:List Value) {Q:Bool->Shared->Prop},(∀y∈ys,∃k' c,y=.ref c/\IsP prog w s.heap k' c)->Q false s->wpAny (model prog w) A (searchCouldBeSeen (.ref b) ys) Q E s:=by
 intro ys Q hy h;unfold searchCouldBeSeen;refine wpAny_bind ?_;refine wpAny_forIn_list _ (λrest (r:Option Bool × Unit) s'=>r.1=none/\s'=s/\∀y∈rest,∃k' c,y=.ref c/\IsP prog w s.heap k' c) _ ?_ ?_ _ _ ⟨rfl,rfl,hy⟩
 ·rintro v rest r s' ⟨hr,rfl,hall⟩
  obtain⟨k',c,rfl,hk'⟩:=hall v Wa4;dsimp only;split
  ·exact wpAny_pure ⟨rfl,rfl,λu hu'=>hall u (Was _ hu')⟩
  ·refine wpAny_bind (wpAny_eqIsQuiet_tuple hk ?_)
   simp only[Wcv,Wao,↓reduceIte];refine wpAny_bind (wpAny_eqIsQuiet_tuple hk' ?_);simp only[Wcv,Wao,↓reduceIte];refine wpAny_bind (Zep hk ?_);simp only[Wao,↓reduceIte];refine wpAny_bind (Zep hk' ?_);simp only[Wao,↓reduceIte];exact wpAny_pure ⟨rfl,rfl,λu hu'=>hall u (Was _ hu')⟩
 ·rintro⟨r1,r2⟩ s' ⟨hr,rfl,_⟩
  simp only at hr;subst hr;exact wpAny_pure h
theorem nodH {hf:Int × Int->Int}(hfi:∀{a b:Int × Int},SmP a->SmP b->hf a=hf b->a=b):∀{xs:List ((Int × Int) × Addr)},(xs.map (·.1)).Nodup->(∀x∈xs,SmP x.1)->(xs.map ((·.1)∘entP hf)).Nodup
 |[],_,_=>Wdj
 |x::xs,h,hs=>by
  rw[Wbe,Wbr]at h ⊢;refine⟨λhx=>?_,nodH hfi h.2 λy hy=>hs y (Was _ hy)⟩;obtain⟨y,hy,e⟩:=Way.mp hx;exact h.1 (Way.mpr ⟨y,hy,hfi (hs y (Was _ hy)) (hs x (by simp)) e⟩)
theorem Zg7 {hf:Int × Int->Int}(hfi:∀{a b:Int × Int},SmP a->SmP b->hf a=hf b->a=b) {adding:Bool}{a b:Addr}{o:Obj}{es:Array (Int × Value)}{ep:Nat}{t:SetTable}{xs:List ((Int × Int) × Addr)}{k:Int × Int}{Q:SetFound->Shared->Prop}(hu:A.units<cLine) (g:StG hf s.heap a o es ep t xs)
  (hm:∀x∈xs,SmP x.1/\IsP prog w s.heap x.1 x.2) (nd:(xs.map (·.1)).Nodup) (hk:SmP k) (hkb:IsP prog w s.heap k b)
  (hin:k∈xs.map (·.1)->∀i:Option Nat,(adding=false->i.isSome=true)->Q (.there i) s)
  (hout:k ∉ xs.map (·.1)->∀j,j<=t.mask->(∀i:Nat,t.place[i]?≠some j)->Rch t.mask (λx=>∃y:Nat,t.place[y]?=some x) (hf k) j->Q (.free j false) s) :
  wpAny (model prog w) A (setSearch a (.ref b) (hf k) adding) Q E s:=by
 unfold setSearch setSearchFrom;refine wpAny_bind (wpAny_setState_of g.ob g.da g.fits ?_);dsimp only;rw[g.gave];simp only[Wao,↓reduceIte,Wel];have ent:∀(i:Nat) (e:Int × Value),es[i]?=some e->∃x∈xs,e=entP hf x:=λi e he=>by
  have:e∈xs.map (entP hf):=g.el.mem_iff.mp (by rw[Array.mem_toList_iff];exact Array.mem_of_getElem? he);obtain⟨x,hx,rfl⟩:=Way.mp this;exact⟨x,hx,rfl⟩
 by_cases c:k∈xs.map (·.1)
 ·obtain⟨x0,hx0,rfl⟩:=Way.mp c
  have:entP hf x0∈es.toList:=g.el.mem_iff.mpr (Wea hx0);obtain⟨i0,hi0⟩:=Wdq this;have hi1:es[i0]?=some (hf x0.1,Value.ref x0.2):=by rw[<- Array.getElem?_toList];exact hi0
  have hn:∀i,i<t.place.size->(es[i]?.map (·.1)).getD 0=hf x0.1->i=i0:=λi hi e=>by
   rw[g.psz]at hi;have he:=Array.getElem?_eq_getElem hi;obtain⟨x,hx,ex⟩:=ent _ _ he;rw[he]at e;have e:es[i].1=hf x0.1:=e;rw[ex]at e;have e2:=hfi (hm x hx).1 hk e;have nd2:(es.toList.map (·.1)).Nodup:=by
    have p:=g.el.map (·.1);refine p.nodup_iff.mpr ?_;rw[Wa3];exact nodH hfi nd λy hy=>(hm y hy).1
   have h1:(es.toList.map (·.1))[i]?=some (hf x0.1):=by rw[Wad,Array.getElem?_toList,he,ex,<- e2];rfl
   have h2:(es.toList.map (·.1))[i0]?=some (hf x0.1):=by rw[Wad,hi0];rfl
   obtain⟨l1,v1⟩:=Waf.mp h1;obtain⟨l2,v2⟩:=Waf.mp h2;exact(Wdn nd2).mp (v1.trans v2.symm)
  obtain⟨j,nx,e1,e2⟩:=Zj8 g.tb (h:=hf x0.1) (i0:=i0) (by rw[Wad,hi0];rfl) (hashAt:=λi=>(es[i]?.map (·.1)).getD 0) (by show (es[i0]?.map (·.1)).getD 0=_;rw[hi1];rfl) hn;have hs:=Zel g.tb.rs e2;generalize hp:t.probe _ (hf x0.1) (t.probeStart (hf x0.1))=r;obtain rfl:r=some (.candidate j i0 nx):=hp.symm.trans e1;dsimp only;have seen:∀y∈((es.filter λx=>x.1 == hf x0.1).toList.map (·.2)),∃k' c,y=Value.ref c/\IsP prog w s.heap k' c:=λy hy=>by
   obtain⟨e,he,rfl⟩:=Way.mp hy;have he:e∈es.toList:=by
    rw[Array.toList_filter]at he;exact(Wa6.mp he).1
   obtain⟨x,hx,rfl⟩:=Way.mp (g.el.mem_iff.mp he);exact⟨x.1,x.2,rfl,(hm x hx).2⟩
  have hx2:=(hm x0 hx0).2;have same:t.sameMemory t.moves t.mask=some true:=by unfold SetTable.sameMemory;rw[if_pos (by simp)]
  rw[hi1];dsimp only;by_cases hl:t.led=true
  ·rw[hl]
   simp only[Wcv,Wao,↓reduceIte];refine wpAny_bind (wpAny_holding (wpAny_eqBool_tuple hu hx2 hkb ?_));refine wpAny_bind (wpAny_setState_of g.ob g.da g.fits ?_);dsimp only;rw[same,decide_eq_true rfl];cases adding
   ·simp only[Wcc,Wao,↓reduceIte]
    rw[hs];dsimp only;rw[hi1];dsimp only;refine wpAny_bind (wpAny_isSame_ref_self ?_);refine wpAny_bind (wpAny_pure ?_);simp only[↓reduceIte];exact wpAny_pure (hin c _ λ_=>rfl)
   ·simp only[Bool.and_self,↓reduceIte]
    exact wpAny_pure (hin c _ λz=>Bool.noConfusion z)
  ·rw[Wbt.mpr hl]
   simp only[Wd9,↓reduceIte];refine wpAny_bind (noneSeen hkb _ seen ?_);simp only[Wao,↓reduceIte];refine wpAny_bind (wpAny_holding (wpAny_eqBool_tuple hu hx2 hkb ?_));refine wpAny_bind (wpAny_setState_of g.ob g.da g.fits ?_);dsimp only;rw[same,decide_eq_true rfl];cases adding
   ·simp only[Wcc,Wao,↓reduceIte]
    rw[hs];dsimp only;rw[hi1];dsimp only;refine wpAny_bind (wpAny_isSame_ref_self ?_);refine wpAny_bind (wpAny_pure ?_);simp only[↓reduceIte];exact wpAny_pure (hin c _ λ_=>rfl)
   ·simp only[Bool.and_self,↓reduceIte]
    exact wpAny_pure (hin c _ λz=>Bool.noConfusion z)
 ·have hn:∀i,i<t.place.size->(es[i]?.map (·.1)).getD 0≠hf k:=λi hi e=>by
   rw[g.psz]at hi;have he:=Array.getElem?_eq_getElem hi;obtain⟨x,hx,ex⟩:=ent _ _ he;rw[he]at e;have e:es[i].1=hf k:=e;rw[ex]at e;exact c (Way.mpr ⟨x,hx,hfi (hm x hx).1 hk e⟩)
  obtain⟨j,e1,e2,e3,e4⟩:=Zni g.tb hn;generalize hp:t.probe _ (hf k) (t.probeStart (hf k))=r;obtain rfl:r=some (.empty j none):=hp.symm.trans e1;exact wpAny_pure (hout c j e2 e3 e4)
theorem noScan {b:Addr}(es:Array (Int × Value)):byScan (.ref b) es=false:=rfl
variable {hf:Int × Int->Int}(hfi:∀{a b:Int × Int},SmP a->SmP b->hf a=hf b->a=b)
include hfi
theorem Zp4 {a b:Addr}{xs:List ((Int × Int) × Addr)}{k:Int × Int}{Q:Option Nat->Shared->Prop}(hu:A.units<cLine) (g:PSt hf a xs s.heap)
  (hm:∀x∈xs,SmP x.1/\IsP prog w s.heap x.1 x.2) (nd:(xs.map (·.1)).Nodup) (hk:SmP k) (hkb:IsP prog w s.heap k b)
  (h:∀r:Option Nat,r.isSome=decide (k∈xs.map (·.1))->Q r s):wpAny (model prog w) A (setFind a (.ref b) (hf k)) Q E s:=by
 obtain⟨o,es,ep,t,g⟩:=g;unfold setFind setFindIn;refine wpAny_bind (wpAny_setState_of g.ob g.da g.fits ?_);dsimp only;rw[noScan];simp only[Wao,↓reduceIte];refine wpAny_bind (Zg7 hfi hu g hm nd hk hkb (λc i hi=>?_) λc j _ _ _=>?_)
 ·exact wpAny_pure (h i (by rw[decide_eq_true c];exact hi rfl))
 ·exact wpAny_pure (h none (by rw[decide_eq_false c];rfl))
theorem PSt.typeIs {a:Addr}{xs:List ((Int × Int) × Addr)}(g:PSt hf a xs s.heap):s.TypeIs (.ref a) "set":=let ⟨o,_,_,_,g⟩:=g; ⟨o,g.ob,g.ex.1⟩
theorem Zla {k:Int × Int}{b:Addr}(hfe:∀(k:Int × Int),tupleKeyHash (PySem.intKind prog w) [k.1,k.2]=hf k) {Q:Int->Shared->Prop}(hu:A.units<cLine) (hkb:IsP prog w s.heap k b) (h:Q (hf k) { s with toks:=s.toks+3 }):wpAny (model prog w) A (pyHash (.ref b)) Q E s:=
 wpAny_pyHash_tuple hu hkb (by rw[hfe];exact h)
theorem Zir {a b:Addr}{xs:List ((Int × Int) × Addr)}{k:Int × Int}(hfe:∀(k:Int × Int),tupleKeyHash (PySem.intKind prog w) [k.1,k.2]=hf k) {Q:Bool->Shared->Prop}(hu:A.units+1<cLine) (g:PSt hf a xs s.heap)
  (hm:∀x∈xs,SmP x.1/\IsP prog w s.heap x.1 x.2) (nd:(xs.map (·.1)).Nodup) (hk:SmP k) (hkb:IsP prog w s.heap k b)
  (h:Q (decide (k∈xs.map (·.1))) { s with toks:=s.toks+3 }):wpAny (model prog w) A (contains (.ref a) (.ref b)) Q E s:=by
 unfold contains
 try with_reducible refine wpAny_holding ?_
 have hT:=g.typeIs hfi;refine wpAny_bind (wpAny_specialOf hT F.slot_set_contains.lookup ?_);show wpAny _ _ (if (some (Value.builtin "set.__contains__") == some Value.none)=true then _ else _) _ E s;rw[if_neg (by rw[beq_builtin_none];exact Wan)];refine wpAny_bind (wpAny_callSpecialUnlessNone?_slot (name:=Str.ofString "__contains__") hT F.slot_set_contains
  (wpAny_call_entry F.slot_set_contains hT entry_set_contains ?_ (F.args_set_contains_2 _ _)))
 unfold Builtin.«frozenset.__contains__» Builtin.Frozenset.oneOther;simp only[Weq,bind_assoc];unfold Builtin.Frozenset.addrOf Builtin.Frozenset.withSetAsKey setContains;refine wpAny_bind (wpAny_pure ?_)
 try dsimp only
 refine wpAny_bind (wpAny_pure ?_)
 try dsimp only
 refine wpAny_bind (wpAny_tryCatch ?_);refine wpAny_holding ?_;refine wpAny_bind (Zla hfi hfe ?_ hkb ?_)
 ·exact hu
 refine wpAny_bind (Zp4 hfi ?_ (s:={ s with toks:=s.toks+3 }) g hm nd hk hkb λr hr=>?_)
 ·exact hu
 refine wpAny_pure ?_;show wpAny _ _ (ret (Value.bool r.isSome)) _ _ _;rw[hr];exact wpAny_pure ⟨_,rfl,wpAny_truthy_bool h⟩
theorem Zpg {a b:Addr}{xs:List ((Int × Int) × Addr)}{k:Int × Int}(hfe:∀(k:Int × Int),tupleKeyHash (PySem.intKind prog w) [k.1,k.2]=hf k) {Q:Value->Shared->Prop}(hu:A.units+1<cLine) (g:PSt hf a xs s.heap)
  (hm:∀x∈xs,SmP x.1/\IsP prog w s.heap x.1 x.2) (nd:(xs.map (·.1)).Nodup) (hk:SmP k) (hkb:IsP prog w s.heap k b)
  (h:Q (.bool (!decide (k∈xs.map (·.1)))) { s with toks:=s.toks+3 }):wpAny (model prog w) A (compareOp .NotIn (.ref b) (.ref a)) Q E s:=by
 show wpAny _ _ (do return .bool (!(← contains (.ref a) (.ref b)))) Q E s;exact wpAny_bind (Zir hfi hfe hu g hm nd hk hkb (wpAny_pure h))
omit hfi in
theorem Zjj {k:Int × Int}{a:Addr}{Q:Bool->Shared->Prop}(hk:IsP prog w s.heap k a) (h:Q true s):wpAny (model prog w) A (hashByValue 8 (.ref a)) Q E s:=by
 have hT:=hk.typeIs;obtain⟨o,items,n,ho,_,hd,hi⟩:=hk;unfold hashByValue;refine wpAny_bind (wpAny_specialOf hT F.slot_tuple_hash.lookup ?_);dsimp only;refine wpAny_bind (wpAny_seqItems ho hd ?_);rw[Wek];refine wpAny_bind ?_;rw[<- Array.forIn_toList];refine wpAny_forIn_list _ (λrest (r:Option Bool × Unit) s'=>r.1=none/\s'=s/\∃ks,ItemsAre (PySem.intKind prog w) ks rest) _ ?_ ?_ _ _ ⟨rfl,rfl,_,hi⟩
 ·rintro v rest r s' ⟨hr,rfl,ks,hall⟩
  cases hall with
  |cons h1 h2=>
   obtain⟨t,rfl⟩:=Value.isInt_shape h1;unfold hashByValue;refine wpAny_bind (wpAny_pure ?_);simp only[Wcv,Wao,if_false];exact wpAny_pure ⟨rfl,rfl,_,h2⟩
 ·rintro⟨r1,r2⟩ s' ⟨hr,rfl,_⟩
  simp only at hr;subst hr;exact wpAny_pure h
omit hfi in
theorem Zjz (a:Addr) (wanted:Nat):setRelay a wanted=(do
  let (es,_,t) ← setState a
  if SetTable.sizeAbove wanted > sizeLine then unsupported "set:memory"
  let (es,t) ← (do
   let some (t,order):=t.relaid (es.map (·.1)) wanted|unsupported "internal:set-table-without-room"
   let es':=order.filterMap (es[·]?)
   if es'.size != es.size then unsupported "internal:set-table-lost-an-element"
   pure (es',t))
  storeSet a es t):=rfl
omit hfi in
theorem StG.store {h:Heap}{a:Addr}{o:Obj}{es:Array (Int × Value)}{ep:Nat}{t:SetTable}(ho:h.get? a=some o) (hx:o.ExactSet) (hd:o.data=.set es ep t) (es':Array (Int × Value)) (t':SetTable) :
  (h.update a (Obj.putSet es' t')).get? a=some { o with data:=.set es' (ep+1) t' }:=by
 have:=Wb9 (Obj.putSet es' t') ho (by rw[putSet_of es' t' hd];rfl);rw[putSet_of es' t' hd]at this;exact this
theorem Zqf {a b:Addr}{o:Obj}{es:Array (Int × Value)}{ep:Nat}{t:SetTable}{xs:List ((Int × Int) × Addr)}{k:Int × Int}{Q:Bool->Shared->Prop}(g:StG hf s.heap a o es ep t xs) (hb:xs.length<=200)
  {j:Nat}(j1:j<=t.mask) (j2:∀i:Nat,t.place[i]?≠some j) (j3:Rch t.mask (λx=>∃y:Nat,t.place[y]?=some x) (hf k) j)
  (h:∀h',Heap.SameBut a s.heap h' -> PSt hf a (xs++[(k,b)]) h' -> Q true { s with heap:=h' }) :
  wpAny (model prog w) A (do
   storeSet a (SetTable.insertAt es (t.put j).2 (hf k,Value.ref b)) (t.put j).1
   if (!false && (t.put j).1.tooFull)=true then do
    setRelay a (SetTable.grown (es.size+1))
    pure true
   else pure true) Q E s:=by
 have hsz:=g.size;have hps:=g.psz;have hnf:=g.nf;have hmk:=g.mks;obtain⟨T,hp⟩:=g.tb.put j1 j2 j3 (by omega);rw[Wab,Array.length_toList]at hp;obtain⟨p,ep'⟩:∃p,(t.put j).2=p:=⟨_,rfl⟩;obtain⟨t1,et⟩:∃t1,(t.put j).1=t1:=⟨_,rfl⟩;have em:t1.mask=t.mask:=by rw[<- et];rfl
 rw[ep',et]at T ⊢;rw[ep']at hp;obtain⟨es1,ee⟩:∃es1,SetTable.insertAt es p (hf k,Value.ref b)=es1:=⟨_,rfl⟩;have hl1:es1.toList=es.toList.take p++(hf k,Value.ref b)::es.toList.drop p:=by rw[<- ee];exact Zdg _ _ _ hp
 have T1:STb t1 (es1.toList.map (·.1)):=by
  rw[hl1,Wax,Wbe,List.map_take,List.map_drop];exact T
 have el1:es1.toList.Perm ((xs++[(k,b)]).map (entP hf)):=by
  rw[hl1,Wax];refine Wep.trans ?_;rw[Wc2];exact(List.perm_append_comm (l₁:=[_]) (l₂:=es.toList)).trans (g.el.append (List.Perm.refl _))
 have z1:es1.size=es.size+1:=by
  rw[<- Array.length_toList,hl1,Waq,Waj,Wa2,Wbz,Array.length_toList];omega
 have pz1:t1.place.size=es1.size:=by have:=T1.sz;rwa [Wab,Array.length_toList]at this
 have f1:t1.fits es1.size=true:=by
  unfold SetTable.fits SetTable.fill;rw[T1.dm,pz1];have:=T1.ro;rw[pz1]at this;simp;omega
 rw[ee];refine wpAny_bind (wpAny_storeSet_of g.ob g.da ?_ (by rw[z1,sizeLine_eq];omega));have ho1:=StG.store g.ob g.ex g.da es1 t1;have sb:=Heap.SameBut.update s.heap a (Obj.putSet es1 t1);by_cases c:t1.tooFull=true
 ·rw[c]
  simp only[Wd9,Bool.and_self,↓reduceIte];have c':(t1.place.size+t1.dummies.size)*5 ≥ t1.mask*3:=by simpa [SetTable.tooFull,SetTable.fill] using c
  rw[T1.dm,pz1,z1,em]at c';have c':(es.size+1+0)*5 ≥ t.mask*3:=c';obtain⟨M,e1,e2,e3,e4⟩:∃M,SetTable.sizeAbove (SetTable.grown (es.size+1))-1=M/\Cyc M/\(M=7\/M=31\/M=127\/M=511)/\(es.size+1)*5<M*3/\SetTable.sizeAbove (SetTable.grown (es.size+1))<=sizeLine:=by
   rcases hmk with m|m|m|m
   ·obtain e:es.size+1=5:=by omega
    rw[e];exact⟨31,by decide,cyc31,.inr (.inl rfl),by decide,by decide⟩
   ·obtain e:es.size+1=19:=by omega
    rw[e];exact⟨127,by decide,cyc127,.inr (.inr (.inl rfl)),by decide,by decide⟩
   ·obtain e:es.size+1=77:=by omega
    rw[e];exact⟨511,by decide,cyc511,.inr (.inr (.inr rfl)),by decide,by decide⟩
   ·omega
  rw[Zjz];refine wpAny_bind (wpAny_bind (wpAny_setState_of ho1 rfl f1 ?_));dsimp only;rw[if_neg (by omega)];obtain⟨t2,order,q1,q2,q3,q4,T2,pm⟩:=Ztb (m:=M) (fg:=t1.finger) (mv:=t1.movedTo M) (ld:=t1.led) (pn:=t1.plain) (hs:=es1.map (·.1)) e2 (by rw[Array.size_map,z1];omega);have q:t1.relaid (es1.map (·.1)) (SetTable.grown (es.size+1))=some (t2,order):=by
   unfold SetTable.relaid;rw[e1];exact q1
  rw[q];dsimp only;rw[Array.size_map]at pm;have hq:∀x∈order.toList,x<es1.size:=λx hx=>Waw.mp (pm.mem_iff.mp hx);obtain⟨f2,f3⟩:=Zlr (es:=es1) order.toList hq;have ol:order.toList.length=es1.size:=by have:=pm.length_eq;rwa [Wa7]at this
  have fl:(order.filterMap (es1[·]?)).toList=order.toList.filterMap (es1[·]?):=Array.toList_filterMap;have z2:(order.filterMap (es1[·]?)).size=es1.size:=by rw[<- Array.length_toList,fl,f2,ol]
  have el2:(order.filterMap (es1[·]?)).toList.Perm ((xs++[(k,b)]).map (entP hf)):=by
   rw[fl];refine(pm.filterMap _).trans ?_;rw[Zri];exact el1
  have T2':STb t2 ((order.filterMap (es1[·]?)).toList.map (·.1)):=by
   have:(order.filterMap (es1[·]?)).toList.map (·.1)=order.toList.filterMap ((es1.map (·.1))[·]?):=by
    rw[fl,List.map_filterMap];congr 1
    funext x
    rw[Array.getElem?_map]
   rw[this];exact T2
  rw[if_neg (by rw[z2];simp)];refine wpAny_bind (wpAny_pure ?_);dsimp only;refine wpAny_storeSet_of ho1 rfl ?_ (by rw[z2,z1,sizeLine_eq];omega);refine wpAny_pure (h _ (sb.trans (Heap.SameBut.update _ a _)) ⟨_,_,_,t2,StG.store ho1 g.ex rfl _ t2,g.ex,rfl,el2,T2',?_,by rw[q2];exact e3⟩);rw[z2,z1,q2];exact e4.1
 ·rw[Wbt.mpr c]
  simp only[Wcy,Wao,↓reduceIte];refine wpAny_pure (h _ sb ⟨_,es1,ep+1,t1,ho1,g.ex,rfl,el1,T1,?_,by rw[em];exact hmk⟩);have c':¬ (t1.place.size+t1.dummies.size)*5 ≥ t1.mask*3:=by simpa [SetTable.tooFull,SetTable.fill] using c
  rw[T1.dm,pz1]at c';have c':¬ (es1.size+0)*5 ≥ t1.mask*3:=c';omega
theorem Zib {a b:Addr}{xs:List ((Int × Int) × Addr)}{k:Int × Int}{Q:Bool->Shared->Prop}(hu:A.units<cLine) (g:PSt hf a xs s.heap)
  (hm:∀x∈xs,SmP x.1/\IsP prog w s.heap x.1 x.2) (nd:(xs.map (·.1)).Nodup) (hk:SmP k) (hkb:IsP prog w s.heap k b) (hb:xs.length<=200)
  (h:∀(r:Bool) h',Heap.SameBut a s.heap h' -> PSt hf a (if k∈xs.map (·.1) then xs else xs++[(k,b)]) h' -> Q r { s with heap:=h' }) :
  wpAny (model prog w) A (setAddHashed a (.ref b) (hf k)) Q E s:=by
 obtain⟨o,es,ep,t,g⟩:=g;unfold setAddHashed setAddHashedIn;refine wpAny_holding ?_;refine wpAny_bind (wpAny_setState_of g.ob g.da g.fits ?_);dsimp only;rw[noScan];simp only[Wao,↓reduceIte];refine wpAny_bind (Zg7 hfi hu g hm nd hk hkb (λc i hi=>?_) λc j j1 j2 j3=>?_)
 ·dsimp only
  have:=h false s.heap (Heap.SameBut.refl _ _);rw[if_pos c]at this;exact wpAny_pure (this ⟨o,es,ep,t,g⟩)
 ·dsimp only
  refine wpAny_bind (wpAny_setState_of g.ob g.da g.fits ?_);dsimp only;have tail:wpAny (model prog w) A (do
   storeSet a (SetTable.insertAt es (t.put j).2 (hf k,Value.ref b)) (t.put j).1
   if (!false && (t.put j).1.tooFull)=true then do
    setRelay a (SetTable.grown (es.size+1))
    pure true
   else pure true) Q E s:=Zqf hfi g hb j1 j2 j3 λh' sb P=>h true h' sb (by rw[if_neg c];exact P)
  split
  ·refine wpAny_bind (Zjj hkb ?_)
   simpa only[↓reduceIte] using tail
  ·refine wpAny_bind (wpAny_pure ?_)
   simpa only[↓reduceIte] using tail
theorem Zkd {a b:Addr}{xs:List ((Int × Int) × Addr)}{k:Int × Int}(hfe:∀(k:Int × Int),tupleKeyHash (PySem.intKind prog w) [k.1,k.2]=hf k) {Q:Value->Shared->Prop}(hu:A.units+1<cLine) (g:PSt hf a xs s.heap)
  (hm:∀x∈xs,SmP x.1/\IsP prog w s.heap x.1 x.2) (nd:(xs.map (·.1)).Nodup) (hk:SmP k) (hkb:IsP prog w s.heap k b) (hb:xs.length<=200)
  (h:∀h',Heap.SameBut a s.heap h' -> PSt hf a (if k∈xs.map (·.1) then xs else xs++[(k,b)]) h' -> Q .none { s with heap:=h',toks:=s.toks+3 }) :
  wpAny (model prog w) A (call (.builtin "set.add") [.ref a,.ref b]) Q E s:=by
 refine wpAny_call_entry F.slot_set_add (g.typeIs hfi) F.entry_set_add ?_ (F.args_set_add_2 _ _);unfold Builtin.«set.add» Builtin.Frozenset.oneOther;simp only[Weq,bind_assoc];unfold Builtin.Frozenset.addrOf setAdd;refine wpAny_bind (wpAny_pure ?_)
 try dsimp only
 refine wpAny_bind (wpAny_pure ?_)
 try dsimp only
 refine wpAny_bind ?_;refine wpAny_holding ?_;refine wpAny_bind (Zla hfi hfe ?_ hkb ?_)
 ·exact hu
 refine Zib hfi ?_ (s:={ s with toks:=s.toks+3 }) g hm nd hk hkb hb λr h' hsb hS'=>?_
 ·exact hu
 show wpAny _ _ (ret Value.none) _ _ _;exact wpAny_pure ⟨_,rfl,h h' hsb hS'⟩
end
def MemT (H:Hp) (xs:List ((Int × Int) × Addr)):Prop:=(xs.map (·.1)).Nodup/\∀x∈xs,SmP x.1/\H x.2=some (.tup [.int x.1.1,.int x.1.2])
theorem Zor {P:Program}{w:World}{H:Hp}{h:Heap}{b:Addr}{k:Int × Int}(ok:HOk P w H h) (e:H b=some (.tup [.int k.1,.int k.2])):IsP P w h k b:=by
 obtain⟨_,its,r,o,h1,⟨h2,n,h3⟩,_⟩:=(show ObjOk P w H h b (.tup [.int k.1,.int k.2]) from ok b _ e);obtain⟨u,v,rfl,⟨t1,rfl⟩,⟨t2,rfl⟩⟩:=r.two;exact⟨o,_,n,h1,h2,h3,.cons (by simp[PySem.intKind,Value.isInt]) (.cons (by simp[PySem.intKind,Value.isInt]) .nil)⟩
theorem Zon {P:Program}{w:World}{H:Hp}{h:Heap}{xs:List ((Int × Int) × Addr)}(ok:HOk P w H h) (m:MemT H xs):∀x∈xs,SmP x.1/\IsP P w h x.1 x.2:=λx hx=>⟨(m.2 x hx).1,Zor ok (m.2 x hx).2⟩
theorem Zs7 {P:Program}{w:World}{H:Hp}{h:Heap}{p p':Addr}{xs:List ((Int × Int) × Addr)}(ok:HOk P w H h) (e:H p=some (.ext (PSt hashP p' xs))):p'=p/\PSt hashP p xs h:=by
 obtain⟨f,⟨o,ho⟩,st⟩:=(show ObjOk P w H h p (.ext (PSt hashP p' xs)) from ok p _ e);by_cases c:p'=p
 ·subst c;exact⟨rfl,f⟩
 ·have f0:=f
  obtain⟨o',es,ep,t,g⟩:=f0;have f2:=st h (h.update p' λo=>{ o with data:=.seq #[] 0 }) f λo q=>by
   rw[(Heap.SameBut.update h p' _).2 p (Ne.symm c)];exact q
  obtain⟨o2,es2,ep2,t2,g2⟩:=f2;have e2:=Wb9 (λo:Obj=>{ o with data:=.seq #[] 0 }) g.ob rfl;have:=g2.ob;rw[e2]at this;cases this;exact absurd g2.da (λz=>by cases z)
theorem Zsb {P:Program}{w:World}{H:Hp}{h:Heap}{p:Addr}{xs:List ((Int × Int) × Addr)}(f:PSt hashP p xs h):ObjOk P w H h p (.ext (PSt hashP p xs)):=
 ⟨f,let ⟨o,_,_,_,g⟩:=f; ⟨o,g.ob⟩,λh1 h2 a b=>a.keep b⟩
section
variable {X:Cx}
def rSet0T:List V->Hp->VK->Prop:=λxs H Q=>xs=[]/\∀p,H p=none->Q (.ref p) (upd H p (.ext (PSt hashP p [])))
theorem Zti (led:Bool):STb (SetTable.fresh 0 0 led) []:=⟨rfl,cyc7,Znu,rfl,λi j e=>by simp[SetTable.fresh]at e,λi j h e=>by simp[SetTable.fresh]at e,by show 0<7;decide⟩
theorem Zl1:CallR X (.type "set") rSet0T:=by
 intro pins s σ H xs us Q I r h;obtain⟨rfl,q⟩:=h;cases r;refine call_set_0 λled=>⟨.ref s.heap.objs.size,_,I.laid (t':=s.toks) (λ_ _ z=>Wac _ z) (Wah _) ?_,rfl,q _ (I.hok.fresh (Wah _))⟩;exact Zsb ⟨_,#[],0,_,Wam _ rfl,⟨rfl,rfl,rfl⟩,rfl,List.Perm.refl _,Zti led,by show 0*5<7*3;decide,.inl rfl⟩
def rNinT:R2:=λx y H Q=>∃a a' b xs k,y=.ref a/\x=.ref b/\H a=some (.ext (PSt hashP a' xs))/\MemT H xs/\SmP k/\H b=some (.tup [.int k.1,.int k.2])/\Q (.bl (!decide (k∈xs.map (·.1)))) H
theorem ninT (hu:X.A.units+1<cLine):OpR X (compareOp .NotIn) rNinT:=by
 intro pins s σ H x y v u Q I rx ry h;obtain⟨a,a',b,xs,k,rfl,rfl,ha,hm,hk,hb,q⟩:=h;cases rx;cases ry;obtain⟨rfl,f⟩:=Zs7 I.hok ha;exact Zpg Zkp (λ_=>rfl) hu f (Zon I.hok hm) hm.1 hk (Zor I.hok hb) ⟨.bl _,H,I.tok _,rfl,q⟩
def rSAddT:V->List V->Hp->VK->Prop:=λx vs H Q=>∃a a' b xs k,x=.ref a/\vs=[.ref b]/\H a=some (.ext (PSt hashP a' xs))/\MemT H xs/\SmP k/\H b=some (.tup [.int k.1,.int k.2])/\xs.length<=200 ∧
 Q .non (upd H a (.ext (PSt hashP a (if k∈xs.map (·.1) then xs else xs++[(k,b)]))))
theorem Zln (hu:X.A.units+1<cLine):MtM X "set.add" rSAddT:=by
 intro pins s σ H x vs v us Q I rx rv h;obtain⟨a,a',b,xs,k,rfl,rfl,ha,hm,hk,hb,hn,q⟩:=h;cases rx;obtain⟨u,rfl,ru⟩:=rv.one;cases ru;obtain⟨rfl,f⟩:=Zs7 I.hok ha;refine Zkd Zkp (λ_=>rfl) hu f (Zon I.hok hm) hm.1 hk (Zor I.hok hb) hn λh' sb P=>?_;refine⟨.non,_,Zif I (by rw[ha];trivial) sb ?_ (Zsb P),rfl,q⟩;obtain⟨o,_,_,_,g⟩:=P;exact⟨o,g.ob⟩
def tyS (x:V) (H:Hp):Prop:=∃p p' xs,x=.ref p/\H p=some (.ext (PSt hashP p' xs))
def tBMS (r:V->List V->Hp->VK->Prop) (to:TE) (t:TA):TE:=λσ H Q=>to σ H λx H1=>tyS x H1/\t σ H1 λxs H2=>r x xs H2 Q
theorem Zvu {pins:List (Addr × Obj)}{σ:St}{H:Hp}{s:Shared}{x:V}{v:Value}(I:Inv X pins σ H s) (r:RelV x v) (ty:tyS x H) :
  s.TypeIs v "set" /\ ∀a,v=.ref a->∃ob,s.heap.get? a=some ob/\ob.dict=none:=by
 obtain⟨p,p',xs,rfl,e⟩:=ty;cases r;obtain⟨rfl,o,es,ep,t,g⟩:=Zs7 I.hok e;exact⟨⟨o,g.ob,g.ex.1⟩,λa e2=>by cases e2;exact⟨o,g.ob,g.ex.2.1⟩⟩
variable {o e:Expr}{es:List Expr}{to:TE}{t:TA}{name:Str}{apos cpos:Pos}{id:String}{r:V->List V->Hp->VK->Prop}
theorem bmS (pa:PlainAttrs "set") (slot:PySem.Slot "set" name id) (hty:typeOf (.builtin id)=pure (.type "method_descriptor")) (hm:MtM X id r) (ho:PE X o to) (ha:PA X (e::es) t)
  (hbase:attributeBase o name X.env (eval o X.env)=eval o X.env:=by rfl)
  (hfew:((backTo cpos (starEach (e::es) X.env)).all (λx=>!x.1) && (backToKw cpos (keywordEach [] X.env)).all (λx=>x.1.isSome)
   && decide ((e::es).length+([]:List Keyword).length+(if ([]:List Keyword).isEmpty then 0 else 1)<30))=true:=by rfl)
  (hline:(apos.endLine == cpos.line)=true:=by rfl) (hs:starEach (e::es) X.env=(false,eval e X.env)::starEach es X.env:=by rfl) (hplain:(backTo cpos (starEach es X.env)).any (·.1)=false:=by rfl) :
  PE X (.Call (.Attribute o name apos) (e::es) [] cpos) (tBMS r to t):=by
 intro pins s σ H Q I h;refine wpAny_Call_method_late hbase hfew hline rfl (thn (ho pins s σ H _ I h) λv s1 ⟨x,H1,I1,r1,ty,q1⟩=>?_);obtain⟨h1,h2⟩:=Zvu I1 r1 ty;refine⟨"set",id,pa,slot,hty,h1,h2,?_⟩;have hA:=ha cpos pins s1 σ H1 _ I1 q1;rw[hs]at hA ⊢;refine Calls.callWith_builtin (by show (false || (backTo cpos (starEach es X.env)).any (·.1))=false;rw[hplain] <;> rfl) (Calls.evalArgs_plain ?_)
 exact thn hA λus s2 ⟨vs,H2,I2,r2,q2⟩=>hm pins s2 σ H2 x vs v us Q I2 r1 r2 q2
end
def stR (ks:List (Int × Int)):Hp->(Heap->Prop)->Prop:=λG φ=>∃a xs,φ = PSt hashP a xs/\xs.map (·.1)=ks/\MemT G xs
def stO (ks:List (Int × Int)):OD:=.ext (stR ks)
def dP (k:Int × Int):D:=.tup [.int k.1,.int k.2]
theorem MemT.mono {G G':Hp}{xs:List ((Int × Int) × Addr)}(s:Same G G') (m:MemT G xs):MemT G' xs:=⟨m.1,λx hx=>⟨(m.2 x hx).1,s _ _ (m.2 x hx).2⟩⟩
def addP (ks:List (Int × Int)) (k:Int × Int):List (Int × Int):=if k∈ks then ks else ks++[k]
section
variable {K:W.Frag}{Δ:Evt}{P:D->Evt->Prop}
theorem Zpf {G:Hp}{o:HO}{ks:List (Int × Int)}(h:OwnRep K G o (stO ks)):∃a xs,o=.ext (PSt hashP a xs)/\xs.map (·.1)=ks/\MemT G xs:=by
 cases o with
 |ext φ=>
  obtain⟨G0,s,a,xs,rfl,e,m⟩:=h;exact⟨a,xs,rfl,e,m.mono s⟩
 |_=>exact h.elim
theorem Zvd {G:Hp}{v:V}{k:Int × Int}(r:Rep K G v (dP k)):∃b,v=.ref b/\G b=some (.tup [.int k.1,.int k.2]):=by
 obtain⟨b,vs,rfl,ha,rs⟩:=r.inv;obtain⟨u,us,rfl,r1,rs1⟩:=rs.inv;obtain⟨u2,us2,rfl,r2,rs2⟩:=rs1.inv;cases r1.inv;cases r2.inv;cases rs2.inv;exact⟨b,rfl,ha⟩
theorem Zuv {Po:OD->Evt->Prop}(p:Po (stO []) Δ):JO K (tCB rSet0T tNil) Δ Po:=λg G H σ Q k c=>by
 refine⟨rfl,λl hl=>?_⟩;obtain⟨k2,pd⟩:=k.fresh (od:=stO []) hl (show OwnRep K G (.ext (PSt hashP l [])) (stO []) from ⟨G,Same.refl _,l,[],rfl,rfl,Wdj,λx h=>nomatch h⟩);exact c l _ G _ Δ k2 (Same.refl _) pd p
theorem Zum {n:Nat}{ta:TE}(h:JE K ta Δ λd Δ1=>∃x ks k,Δ1[n]?=some x/\x.od=some (stO ks)/\d=dP k/\SmP k/\P (.bl (!decide (k∈ks))) Δ1):JE K (tOp rNinT ta (tVar n)) Δ P:=λg G H σ Q k c=>
 h g G H σ _ k λv d G1 H1 Δ1 k1 s1 r1 hq_=>by
  obtain⟨x,ks,kk,q1,q2,q3,q4,p⟩:=hq_;subst q3;obtain⟨b,rfl,hb⟩:=Zvd r1;obtain⟨a,o,w1,w2,w3,w4,w5⟩:=k1.own n x _ q1 q2;obtain⟨a',xs,rfl,e,m⟩:=Zpf w3;refine⟨.ref a,w1,a,a',b,xs,kk,rfl,rfl,w2,m.mono λb o hb=>k1.live b o hb,q4,k1.live _ _ hb,?_⟩;rw[e];exact c _ _ G1 H1 Δ1 k1 s1 (.bl _) p
theorem Zk6 {n:Nat}{te:TE}{x:Slot}{ks0:List (Int × Int)}{nx bk ct:Evt->Prop}{rt:D->Evt->Prop}{ro:OD->Evt->Prop}(hx:Δ[n]?=some x) (ho:x.od=some (stO ks0))
  (h:JE K te Δ λd Δ1=>∃y ks k,Δ1[n]?=some y/\y.od=some (stO ks)/\d=dP k/\SmP k/\ks.length<=200/\nx (Δ1.set n (y.put (stO (addP ks k))))) :
  JS K (tDrop (tBMS rSAddT (tVar n) (tCons te tNil))) Δ ⟨nx,rt,bk,ct,ro⟩:=λg G H σ E k c=>by
 obtain⟨a,o,h1,h2,h3,h4,h5⟩:=k.own n x _ hx ho;obtain⟨a0,xs0,rfl,_,_⟩:=Zpf h3;refine⟨.ref a,h1,⟨a,a0,xs0,rfl,h2⟩,h g G H σ _ k λv d G1 H1 Δ1 k1 s1 r1 ⟨y,ks,kk,q1,q2,q3,q4,q5,p⟩=>?_⟩;subst q3;obtain⟨b,rfl,hb⟩:=Zvd r1;obtain⟨a',o',w1,w2,w3,w4,w5⟩:=k1.own n y _ q1 q2;rw[h1]at w1;cases w1;obtain⟨a1,xs,rfl,e,m⟩:=Zpf w3;refine⟨a,a1,b,xs,kk,rfl,rfl,w2,m.mono λb o hb=>k1.live b o hb,q4,k1.live _ _ hb,by rw[<- e,Wab]at q5;exact q5,c.nx σ G1 _ _ (k1.write q1 q2 h1 ?_) p⟩;refine⟨G1,Same.refl _,a,_,rfl,?_,?_⟩
 ·unfold addP
  rw[e];split
  ·exact e
  ·rw[Wax,e];rfl
 ·rw[e]
  by_cases cc:kk∈ks
  ·rw[if_pos cc];exact m
  ·rw[if_neg cc]
   refine⟨?_,λx hx=>?_⟩
   ·rw[Wax,e]
    exact Wc5.mpr ⟨e ▸ m.1,by simp,λx hx y hy=>by
     have:y=kk:=by simpa using hy
     subst this;exact λz=>cc (z ▸ hx)⟩
   ·rcases Wbd.mp hx with hx|hx
    ·exact m.2 x hx
    ·have:x=(kk,b):=by simpa using hx
     subst this;exact⟨q4,hb⟩
end
end L2
namespace L2
open PySem PySem.Spec PyProof.Rows
end L2
namespace L2
open PySem PySem.Spec PyProof.Rows
open PySem PySem.Spec PyProof.Rows PySem.SeqAt
def codLe (a b:List (List Int)):Prop:=a=[]\/∃x y s t,a=x::s/\b=y::t/\x≠y/\rlt y x=false
def AscC (cs:List (List (List Int))):Prop:=∀i a b,cs[i]?=some a->cs[i+1]?=some b->codLe a b
theorem Zqw {a b:List (List Int)}(h:codLe a b):cLt b a=false:=by
 rcases h with rfl|⟨x,y,s,t,rfl,rfl,h1,h2⟩
 ·cases b <;> rfl
 ·show (if y=x then _ else rlt y x)=false
  rw[if_neg (Ne.symm h1)];exact h2
section
variable {prog:Program}{w:World}{A:Around}{E:Value->Shared->Prop}{s:Shared}
theorem Zwi {x y:Value}{a b:List Int}{Q:Value->Shared->Prop}(hu:A.units<cLine) (hx:RowAt s.heap x a) (hy:RowAt s.heap y b) (h:Q (.bool (rlt a b)) s):wpAny (model prog w) A (richCompare .Lt x y) Q E s:=by
 obtain⟨l,its,rfl,⟨⟨c1,d1,dt1,sl1⟩,ho,hc,k1,hd⟩,hi⟩:=hx;obtain⟨l2,its2,rfl,⟨⟨c2,d2,dt2,sl2⟩,ho2,hc2,k2,hd2⟩,hi2⟩:=hy;simp only at hc hd hc2 hd2;subst hc hd hc2 hd2;exact richCompare_meets_room (op:=.Lt) ⟨_,ho,rfl⟩ ⟨_,ho2,rfl⟩ PySem.F.slot_tuple_lt PySem.F.entry_tuple_lt (PySem.F.args_tuple_lt_2 _ _) (HT.tuple_lt_ints l l2 its.toArray its2.toArray k1 k2 d1 d2 sl1 sl2 a b (by simpa using hi) (by simpa using hi2))
  ⟨ho,ho2,show Value.bool (HT.lexLt a b)≠Value.notImplemented/\_ from ⟨(λx=>nomatch x),h⟩⟩ hu
theorem Zlu {vs:List Value}{cs:List (List (List Int))}(p:Paired (CodeAt s.heap) vs cs):∀v∈vs,PySem.W.Looks (model prog w) s.heap (typeOf v) (.type "tuple"):=by
 intro v hv
 induction p with
 |nil=>cases hv
 |cons q t ih=>
  rcases Wal.mp hv with e|hv
  ·subst e
   obtain⟨a,its,rfl,⟨o,ho,hc,_⟩,_⟩:=q;have z:PySem.W.Looks (model prog w) s.heap (typeOf (.ref a)) o.cls:=(PySem.W.Looks.ld ho).andThen .now;rw[hc]at z;exact z
  ·exact ih hv
theorem Zfv:∀(vs:List Value) (cs:List (List (List Int))) {Q:List (Option Value)->Shared->Prop},Paired (CodeAt s.heap) vs cs →
  (∀fs:List (Option Value),Paired (λ(f:Option Value) (c:List (List Int))=>c=[]->f=none) fs cs->Q fs s)->wpAny (model prog w) A (vs.mapM firstOfTuple') Q E s
 |[],[],_,_,h=>by rw[List.mapM_nil];exact wpAny_pure (h [] .nil)
 |v::vs,c::cs,Q,.cons p t,h=>by
  obtain⟨a,its,rfl,⟨o,ho,hc,n,hd⟩,hi⟩:=p;rw[List.mapM_cons];refine wpAny_bind ?_;rw[PySem.W.kas_first_eq];refine wpAny_bind (PySem.W.Looks.here (show PySem.W.Looks (model prog w) s.heap (typeOf (.ref a)) o.cls from (PySem.W.Looks.ld ho).andThen .now) ?_);rw[hc,if_neg (by first|decide|simp)];refine wpAny_bind (listItems_at ho hd (wpAny_pure ?_));refine wpAny_bind (Zfv vs cs (Q:=λbs s'=>wpAny _ A (pure (its.toArray[0]?::bs)) Q E s') t λfs pf=>wpAny_pure (h _ (.cons ?_ pf)));intro e;subst e;cases hi;rfl
theorem Zl5 {vs:List Value}{cs:List (List (List Int))}{Q:SortKind->Shared->Prop}(p:Paired (CodeAt s.heap) vs ([]::cs)) (h:Q oneType' s):wpAny (model prog w) A (keyKind' vs.toArray) Q E s:=by
 have hT:=Zlu (prog:=prog) (w:=w) p;rw[keyKind'_eq,Wdg,map_eq_pure_bind];refine wpAny_bind (wpAny_bind (Zfv vs _ p λfs pf=>wpAny_pure ?_));cases pf with
 |@cons f _ fs _ hf _=>
  have hf:f=none:=hf rfl;subst hf;rw[if_neg (by simp),if_neg (by simp)];rw[oneTypeOnly'_eq,Wdg,map_eq_pure_bind];refine wpAny_bind (wpAny_bind (wpAny_bind (PySem.W.kas_mapM (r:=.type "tuple") _ (λv hv Q' hq=>(hT v hv).here hq) (wpAny_pure ?_))));cases p with
  |@cons v _ vs _ _ _=>
   have hall:((Wbm (λ_=>Value.type "tuple") (v::vs)).toArray.all λx=>x == Value.type "tuple")=true:=by
    simp only[Wes,Wen,Wbp];intro _ _;exact(by decide:(Value.type "tuple" == Value.type "tuple")=true)
   have h0:(Wbm (λ_=>Value.type "tuple") (v::vs)).toArray[0]?=some (Value.type "tuple"):=by simp
   rw[h0];simp only[hall,if_true];exact wpAny_pure (wpAny_pure h)
theorem Zlv {vs:List Value}{cs:List (List (List Int))}{Q:SortKind->Shared->Prop}(p:Paired (CodeAt s.heap) vs cs) (hne:∀r∈cs,r≠[]) (h1:cs≠[]) (h:Q (tuples' false) s):wpAny (model prog w) A (keyKind' vs.toArray) Q E s:=by
 have ex:∃fs:List Value,PySem.W.KatTups s.heap vs fs/\fs.length=cs.length/\∀v∈fs,PySem.W.Looks (model prog w) s.heap (typeOf v) (.type "tuple"):=by
  clear h h1
  induction p with
  |nil=>exact⟨[],trivial,rfl,λ_ h=>nomatch h⟩
  |@cons v r vs cs q t ih=>
   obtain⟨fs,k1,k2,k3⟩:=ih λr hr=>hne r (Was _ hr);obtain⟨a,its,rfl,⟨o,ho,hc,n,hd⟩,hi⟩:=q;cases hi with
   |nil=>exact absurd rfl (hne [] Wa4)
   |@cons u x us l hx hl=>
    refine⟨u::fs,.cons ho hc hd (by simp) k1,by rw[Waj,Waj,k2],λv hv=>?_⟩;rcases Wal.mp hv with e|hv
    ·subst e
     obtain⟨b,its2,rfl,⟨o2,ho2,hc2,_⟩,_⟩:=hx;have z:PySem.W.Looks (model prog w) s.heap (typeOf (.ref b)) o2.cls:=(PySem.W.Looks.ld ho2).andThen .now;rw[hc2]at z;exact z
    ·exact k3 v hv
 obtain⟨fs,k1,k2,k3⟩:=ex;have hpos:0<cs.length:=Wds.mpr h1;exact PySem.W.kat_kind k1 (by omega) k3 (by decide) h
theorem Zrf {v u:Value}{a b:List (List Int)}{Q:Bool->Shared->Prop}(hu:A.units+2<cLine) (pa:CodeAt s.heap u a) (pb:CodeAt s.heap v b) (hle:codLe a b) (h:Q false s):wpAny (model prog w) A (keyLt' oneType' v u) Q E s:=by
 obtain⟨l,its,rfl,⟨⟨c1,d1,dt1,sl1⟩,ho,hc,n,hd⟩,hi⟩:=pb;obtain⟨k,its2,rfl,⟨⟨c2,d2,dt2,sl2⟩,ho2,hc2,n2,hd2⟩,hi2⟩:=pa;simp only at hc hd hc2 hd2;subst hc hd hc2 hd2;rw[keyLt'_oneType,oneLt'_eq];simp only[if_true];refine wpAny_bind (wpAny_cRoomFor (by omega) ?_);refine wpAny_bind (wpAny_callSpecialIfBound?_slot (T:="tuple") ⟨_,ho,rfl⟩ F.slot_tuple_lt (call_meets F.slot_tuple_lt ⟨_,ho,rfl⟩ F.entry_tuple_lt (F.args_tuple_lt_2 _ _) (Zhn l k its.toArray its2.toArray n n2 d1 d2 sl1 sl2 b a) ⟨?_,⟨by simpa using hi,by simpa using hi2⟩,ho,ho2,?_⟩))
 ·show A.units+1<cLine;omega
 ·rw[Zqw hle]
  exact wpAny_truthy_bool h
theorem Zqd {v u:Value}{a b:List (List Int)}{Q:Bool->Shared->Prop}(hu:A.units+2<cLine) (pa:CodeAt s.heap u a) (pb:CodeAt s.heap v b) (hne:a≠[]) (hle:codLe a b) (h:Q false s):wpAny (model prog w) A (keyLt' (tuples' false) v u) Q E s:=by
 obtain⟨l,its,rfl,⟨o1,ho,hc,n,hd⟩,hi⟩:=pb;obtain⟨k,its2,rfl,⟨o2,ho2,hc2,n2,hd2⟩,hi2⟩:=pa;rcases hle with z|⟨x,y,s',t',rfl,rfl,h1,h2⟩
 ·exact absurd z hne
 ·cases hi with
  |@cons u1 _ us1 _ q1 _=>
   cases hi2 with
   |@cons u2 _ us2 _ q2 _=>
    refine PySem.W.kat_lt ho hd ho2 hd2 ?_;show PySem.W.KatLex prog w A false _ Q ((u1,u2)::us1.zip us2) 0 s;refine PySem.W.kat_cons (Zki q1 q2 (by omega) prog w _ _ ?_);rw[decide_eq_false (Ne.symm h1)];refine PySem.W.kat_no ?_;rw[oneLt'_eq];simp only[Wcc,Wao,if_false];refine wpAny_bind (Zwi (by omega) q1 q2 ?_);rw[h2];exact wpAny_truthy_bool h
end
section
variable {X:Cx}
def rSortC (K:W.Frag):List V->Hp->VK->Prop:=λxs H Q=>∃p us cs,xs=[.ref p]/\SqL K H p us/\us.length<200/\Paired (CodeV K H) us cs/\AscC cs/\∀l,H l=none->Q (.ref l) (upd H l (.lst us))
theorem Zs3 {cs:List (List (List Int))}(h:AscC cs) (h0:∀r,cs[0]?=some r->r≠[]):∀r∈cs,r≠[]:=by
 intro r hr;obtain⟨i,hi⟩:=Wdq hr;cases i with
 |zero=>exact h0 r hi
 |succ i=>
  have hl:=(Waf.mp hi).1;have e:=Waa (show i<cs.length by omega);have:∀j,j<cs.length->∀c,cs[j]?=some c->c≠[]:=by
   intro j
   induction j with
   |zero=>intro _ c hc;exact h0 c hc
   |succ j ih=>
    intro hj c hc;have e:=Waa (show j<cs.length by omega);rcases h j _ _ e hc with z|⟨x,y,s,t,_,z,_⟩
    ·exact absurd z (ih (by omega) _ e)
    ·rw[z];exact λz=>nomatch z
  exact this _ hl _ hi
theorem Paired.getV {β:Type}{R:Value -> β -> Prop}{vs:List Value}{rs:List β}{i:Nat}(p:Paired R vs rs) (h:i<vs.length):∃r,rs[i]?=some r/\R (vs.getD i .none) r:=by
 obtain⟨r,h1,h2⟩:=Paired.getC p (Waa h);refine⟨r,h1,?_⟩;rw[Wae,Waa h];exact h2
theorem sortCK (K:W.Frag) (hu:X.A.units+8<cLine) (hK:X.K=K:=by rfl):CallR X (.builtin "sorted") (rSortC K):=by
 subst hK;intro pins s σ H xs us Q I r h;obtain⟨p,ys,cs,rfl,hx,hl,hp,ha,q⟩:=h;obtain⟨u,rfl,ru⟩:=vals1 r;cases (show u=Value.ref p from ru);obtain⟨its,w1,p1,hz⟩:=I.list hx;have pr:Paired (CodeAt s.heap) its cs:=Zf7 (R:=CodeV X.K H) (T:=CodeAt s.heap) (λy u c ru h=>Zsu I ru h) w1 hp;have hlen:=w1.length;have hrl:=Paired.length pr;have fin:EP X pins σ Q (.ref (s.heap.objs.size+1)) { s with heap:=sortedAll s.heap its its.toArray }:=by
  obtain⟨e,he⟩:=sortedAll_at s.heap its its.toArray;refine⟨.ref (s.heap.objs.size+1),_,I.laid (t':=s.toks) (λ_ _ z=>sortedAll_old z) (Wcx _) (show ObjOk X.prog X.w _ _ _ (.lst ys) from ⟨hz,its,e,w1,he⟩),rfl,q _ (I.hok.fresh (Wcx _))⟩
 have hu2:X.A.in1.in1.units+2<cLine:=Wca (by show X.A.units+1+1+2<=X.A.units+8;omega) hu;have cmp:∀i,1<=i->i<its.length->∃a b,cs[i-1]?=some a/\CodeAt s.heap (its.getD (i-1) .none) a/\CodeAt s.heap (its.getD i .none) b/\codLe a b:=λi h1 hi=>by
  obtain⟨a,ha1,ha2⟩:=Paired.getV (i:=i-1) pr (by omega);obtain⟨b,hb1,hb2⟩:=Paired.getV (i:=i) pr hi;exact⟨a,b,ha1,ha2,hb2,ha (i-1) a b ha1 (by rw[show i-1+1=i by omega];exact hb1)⟩
 by_cases h0:cs[0]?=some []
 ·refine Zgx (κ:=oneType') p1.isList (by omega) (λ_ h' k E Q hq=>?_) (λh' k i h1 hi E Q hq=>?_) fin
  ·cases cs with
   |nil=>cases h0
   |cons r0 cs=>
    have:r0=[]:=by simpa using h0
    subst this;exact Zl5 (s:={ s with heap:=h' }) (Paired.mapP pr λv r z=>z.keep k) hq
  ·obtain⟨a,b,_,c1,c2,c3⟩:=cmp i h1 hi
   exact Zrf (s:={ s with heap:=h' }) hu2 (c1.keep k) (c2.keep k) c3 hq
 ·have hne:∀r∈cs,r≠[]:=Zs3 ha λr hr e=>h0 (by rw[hr,e])
  refine Zgx (κ:=tuples' false) p1.isList (by omega) (λh2 h' k E Q hq=>?_) (λh' k i h1 hi E Q hq=>?_) fin
  ·exact Zlv (s:={ s with heap:=h' }) (Paired.mapP pr λv r z=>z.keep k) hne (by intro z;subst z;rw[Wb3]at hrl;omega) hq
  ·obtain⟨a,b,c0,c1,c2,c3⟩:=cmp i h1 hi
   exact Zqd (s:={ s with heap:=h' }) hu2 (c1.keep k) (c2.keep k) (hne a (Wat c0)) c3 hq
end
section
variable {K:W.Frag}{Δ:Evt}{P:D->Evt->Prop}
def codD (c:List (List Int)):D:=.tup (c.map rowD)
theorem Zrd {ta:TA}{Po:OD->Evt->Prop}(h:JA K ta Δ λds Δ1=>∃cs:List (List (List Int)),ds=[.lst (cs.map codD)]/\cs.length<200/\AscC cs/\Po (.lst (cs.map codD)) Δ1):JO K (tCB (rSortC K) ta) Δ Po:=λg G H σ Q k c=>
 h g G H σ _ k λvs ds G1 H1 Δ1 k1 s1 r1 hq_=>by
  obtain⟨cs,e,hl,ha,p⟩:=hq_;subst e;obtain⟨_,_,rfl,r,t⟩:=r1.inv;cases t.inv;obtain⟨a,us,rfl,ha',rr⟩:=r.inv;have hlen:=rr.length;rw[Wab]at hlen;refine⟨a,us,cs,rfl,SqL.of (k1.live _ _ ha'),by omega,Zgz k1.live rr,ha,λl hl=>?_⟩;obtain⟨k2,pd⟩:=k1.fresh (od:=.lst (cs.map codD)) hl (show OwnRep K G1 (.lst us) (.lst (cs.map codD)) from rr);exact c l _ G1 _ Δ1 k2 s1 pd p
end
end L2
set_option Elab.async false
set_option linter.all false
set_option maxRecDepth 100000
set_option maxHeartbeats 4000000
namespace Lw
open PySem L2
def top (i:Nat):Stmt:=PySem.Challenge.pw_holefloor_k22_whole_none_crossed.main.body.getD i (.Pass ⟨0,0,0,0⟩)
abbrev s_place_of:Stmt:=top 1
abbrev s_parts_of:Stmt:=top 2
abbrev s_least_first:Stmt:=top 4
abbrev s_follower:Stmt:=top 5
abbrev s_forerunner:Stmt:=top 6
abbrev s_onward:Stmt:=top 8
abbrev s_face_of:Stmt:=top 9
abbrev s_faces:Stmt:=top 10
abbrev s_holes:Stmt:=top 12
abbrev s_lacking:Stmt:=top 13
abbrev s_crossed_onward:Stmt:=top 15
abbrev s_back_of:Stmt:=top 16
abbrev s_hand_beyond:Stmt:=top 17
abbrev s_round_from:Stmt:=top 18
abbrev s_crossed_faces:Stmt:=top 19
abbrev s_lack:Stmt:=top 20
abbrev s_law_pen:Stmt:=top 22
abbrev s_law_draw:Stmt:=top 23
abbrev s_law_web:Stmt:=top 24
abbrev s_law_order:Stmt:=top 25
abbrev s_law_partner:Stmt:=top 26
abbrev s_law_faces:Stmt:=top 27
abbrev s_law_parts:Stmt:=top 28
abbrev s_law_holes:Stmt:=top 29
abbrev s_law_whole:Stmt:=top 30
abbrev s_law_same:Stmt:=top 31
abbrev s_law_mixed:Stmt:=top 32
abbrev s_law_beside:Stmt:=top 33
abbrev s_law_crossings:Stmt:=top 34
abbrev s_law:Stmt:=top 35
theorem sc_place_of:FnScope ["web","end"] ["web","end"] (defScope s_place_of):=⟨rfl,rfl,rfl,by decide +kernel,rfl,by decide +kernel,by decide +kernel⟩
theorem sc_parts_of:FnScope ["web","many","ties","firsts","a","b","low","high"] ["web"] (defScope s_parts_of):=⟨rfl,rfl,rfl,by decide +kernel,rfl,by decide +kernel,by decide +kernel⟩
theorem sc_least_first:FnScope ["ends","at"] ["ends"] (defScope s_least_first):=⟨rfl,rfl,rfl,by decide +kernel,rfl,by decide +kernel,by decide +kernel⟩
theorem sc_follower:FnScope ["web","order","end","row"] ["web","order","end"] (defScope s_follower):=⟨rfl,rfl,rfl,by decide +kernel,rfl,by decide +kernel,by decide +kernel⟩
theorem sc_forerunner:FnScope ["web","order","end","row"] ["web","order","end"] (defScope s_forerunner):=⟨rfl,rfl,rfl,by decide +kernel,rfl,by decide +kernel,by decide +kernel⟩
theorem sc_onward:FnScope ["web","order","end"] ["web","order","end"] (defScope s_onward):=⟨rfl,rfl,rfl,by decide +kernel,rfl,by decide +kernel,by decide +kernel⟩
theorem sc_face_of:FnScope ["web","order","end","face","come"] ["web","order","end"] (defScope s_face_of):=⟨rfl,rfl,rfl,by decide +kernel,rfl,by decide +kernel,by decide +kernel⟩
theorem sc_faces:FnScope ["web","order","told","gone","end","face","come"] ["web","order"] (defScope s_faces):=⟨rfl,rfl,rfl,by decide +kernel,rfl,by decide +kernel,by decide +kernel⟩
theorem sc_holes:FnScope ["web","order"] ["web","order"] (defScope s_holes):=⟨rfl,rfl,rfl,by decide +kernel,rfl,by decide +kernel,by decide +kernel⟩
theorem sc_lacking:FnScope ["web","faces_many","many","ties"] ["web","faces_many"] (defScope s_lacking):=⟨rfl,rfl,rfl,by decide +kernel,rfl,by decide +kernel,by decide +kernel⟩
theorem sc_crossed_onward:FnScope ["web","order","crossings","state","partner"] ["web","order","crossings","state"] (defScope s_crossed_onward):=⟨rfl,rfl,rfl,by decide +kernel,rfl,by decide +kernel,by decide +kernel⟩
theorem sc_back_of:FnScope ["web","crossings","state"] ["web","crossings","state"] (defScope s_back_of):=⟨rfl,rfl,rfl,by decide +kernel,rfl,by decide +kernel,by decide +kernel⟩
theorem sc_hand_beyond:FnScope ["crossings","state","end","hand"] ["crossings","state"] (defScope s_hand_beyond):=⟨rfl,rfl,rfl,by decide +kernel,rfl,by decide +kernel,by decide +kernel⟩
theorem sc_round_from:FnScope ["web","order","crossings","state","come_through","come"] ["web","order","crossings","state"] (defScope s_round_from):=⟨rfl,rfl,rfl,by decide +kernel,rfl,by decide +kernel,by decide +kernel⟩
theorem sc_crossed_faces:FnScope ["web","order","crossings","told","gone","end","face","state"] ["web","order","crossings"] (defScope s_crossed_faces):=⟨rfl,rfl,rfl,by decide +kernel,rfl,by decide +kernel,by decide +kernel⟩
theorem sc_lack:FnScope ["web","order","crossings"] ["web","order","crossings"] (defScope s_lack):=⟨rfl,rfl,rfl,by decide +kernel,rfl,by decide +kernel,by decide +kernel⟩
theorem sc_law_pen:FnScope ["_law_script"] ["_law_script"] (defScope s_law_pen):=⟨rfl,rfl,rfl,by decide +kernel,rfl,by decide +kernel,by decide +kernel⟩
theorem sc_law_draw:FnScope ["_law_pen_here","_law_many","_law_digit","_law_at","_law_cell","_law_number"] ["_law_pen_here","_law_many"] (defScope s_law_draw):=⟨rfl,rfl,rfl,by decide +kernel,rfl,by decide +kernel,by decide +kernel⟩
theorem sc_law_web:FnScope ["_law_pen_here","_law_places","_law_ties","_law_many","_law_way","_law_count","_law_found","_law_k","_law_a","_law_b"] ["_law_pen_here","_law_places","_law_ties"] (defScope s_law_web):=⟨rfl,rfl,rfl,by decide +kernel,rfl,by decide +kernel,by decide +kernel⟩
theorem sc_law_order:FnScope ["_law_pen_here","_law_web_here","_law_rows","_law_k","_law_row","!0","!1","!2","!3","!4","!5","!6","!7","!8","!9","!10","!11","!12","!13","!14","!15","!16","!17","!18","!19","!20","!21","!22","!23","!24"] ["_law_pen_here","_law_web_here"] (defScope s_law_order):=⟨rfl,rfl,rfl,by decide +kernel,rfl,by decide +kernel,by decide +kernel⟩
theorem sc_law_partner:FnScope ["_law_end"] ["_law_end"] (defScope s_law_partner):=⟨rfl,rfl,rfl,by decide +kernel,rfl,by decide +kernel,by decide +kernel⟩
theorem sc_law_faces:FnScope ["_law_order_here","_law_behind","_law_row","_law_k","_law_found","_law_met","_law_end","_law_walk","_law_at"] ["_law_order_here"] (defScope s_law_faces):=⟨rfl,rfl,rfl,by decide +kernel,rfl,by decide +kernel,by decide +kernel⟩
theorem sc_law_parts:FnScope ["_law_web_here","_law_marks","_law_a","_law_b","_law_low","_law_high","_law_place"] ["_law_web_here"] (defScope s_law_parts):=⟨rfl,rfl,rfl,by decide +kernel,rfl,by decide +kernel,by decide +kernel⟩
theorem sc_law_holes:FnScope ["_law_web_here","_law_order_here","_law_twice"] ["_law_web_here","_law_order_here"] (defScope s_law_holes):=⟨rfl,rfl,rfl,by decide +kernel,rfl,by decide +kernel,by decide +kernel⟩
theorem sc_law_whole:FnScope ["_law_found"] ["_law_found"] (defScope s_law_whole):=⟨rfl,rfl,rfl,by decide +kernel,rfl,by decide +kernel,by decide +kernel⟩
theorem sc_law_same:FnScope ["_law_found","_law_due"] ["_law_found","_law_due"] (defScope s_law_same):=⟨rfl,rfl,rfl,by decide +kernel,rfl,by decide +kernel,by decide +kernel⟩
theorem sc_law_mixed:FnScope ["_law_pen_here","_law_things","_law_found","_law_thing"] ["_law_pen_here","_law_things"] (defScope s_law_mixed):=⟨rfl,rfl,rfl,by decide +kernel,rfl,by decide +kernel,by decide +kernel⟩
theorem sc_law_beside:FnScope ["_law_pen_here","_law_many","_law_ties","_law_turn","_law_web_here","_law_names"] ["_law_pen_here"] (defScope s_law_beside):=⟨rfl,rfl,rfl,by decide +kernel,rfl,by decide +kernel,by decide +kernel⟩
theorem sc_law_crossings:FnScope ["_law_pen_here","_law_web_here","_law_way","_law_found"] ["_law_pen_here","_law_web_here"] (defScope s_law_crossings):=⟨rfl,rfl,rfl,by decide +kernel,rfl,by decide +kernel,by decide +kernel⟩
theorem sc_law:FnScope ["_law_script","_law_pen_here","_law_web_here","_law_order_here","_law_none","_law_rows","_law_due","_law_many"] ["_law_script"] (defScope s_law):=⟨rfl,rfl,rfl,by decide +kernel,rfl,by decide +kernel,by decide +kernel⟩
def Mb (mg:Str->Option Value):Prop:=∀x∈["abs","all","bool","int","isinstance","len","list","max","min","range","set","sorted","tuple","zip"],mg x=none
local macro_rules | `(tactic| walk_at "js")=>`(tactic| first
 |with_reducible refine Zaj (t:=tAsg _ _) ?_
 |with_reducible refine Zaj (t:=tPar _ _ _) ?_
 |with_reducible refine Zaj (t:=tDrop _) ?_
 |with_reducible refine iteF ?_
 |with_reducible refine iteT ?_
 |with_reducible refine Za4 ?_
 |with_reducible refine Za8 ?_
 |with_reducible refine Zcq ?_
 |with_reducible refine Zik ?_
 |with_reducible refine Zav ?_
 |refine Ze6 rfl rfl ?_
 |refine Zhs rfl rfl ?_
 |with_reducible refine Zam ?_
 |with_reducible refine Zxc ?_
 |with_reducible refine Zak ?_
 |with_reducible refine Zva ?_
 |with_reducible refine Zv5 ?_
 |with_reducible refine Zf0 ?_
 |with_reducible refine Za3 ?_
 |with_reducible refine Zar ?_
 |refine Zhm rfl rfl ?_
 |refine Zcj rfl rfl ?_
 |with_reducible refine Zcm ?_
 |with_reducible refine Zds ?_
 |with_reducible refine Zw8 ?_
 |with_reducible refine Znv ?_
 |with_reducible refine Ztr ?_
 |with_reducible refine Zw3 ?_
 |with_reducible refine Zia ?_
 |with_reducible refine Zj2 ?_
 |with_reducible refine Zj5 ?_
 |with_reducible refine Zaf ?_
 |with_reducible refine Zab ?_
 |with_reducible refine Zbd ?_
 |with_reducible refine Zhg ?_
 |with_reducible refine Zqp ?_
 |with_reducible refine Zd6 ?_
 |with_reducible refine Zcd ?_
 |with_reducible refine Zbu ?_
 |with_reducible refine Zcf ?_
 |with_reducible refine Zfj ?_
 |with_reducible refine Zq8 ?_
 |with_reducible refine Zef ?_
 |with_reducible refine Zw5 ?_
 |with_reducible refine Zwt ?_
 |with_reducible refine Zfg ?_
 |with_reducible refine Zbo ?_
 |refine Zac rfl ?_
 |refine Zaz rfl ?_
 |refine Zcs rfl ?_
 |refine Zba (Or.inl rfl) ?_
 |refine Zba (Or.inr rfl) ?_
 |refine Zdk (Or.inl rfl) ?_
 |refine Zdk (Or.inr rfl) ?_
 |refine Zr9 (Or.inl rfl) ?_
 |refine Zr9 (Or.inr rfl) ?_
 |refine Zkj ?_
 |refine⟨⟨_,_,rfl,rfl⟩,?_⟩
 |refine⟨_,_,_,_,rfl,rfl,rfl,rfl,?_⟩
 |refine⟨_,rfl,?_⟩
 |refine jr_I (by first|(show (0:Int)<_;omega)|exact⟨by omega,by omega⟩|exact Or.inl ⟨by omega,by omega⟩|exact Or.inr ⟨by omega,by omega⟩|exact⟨by decide,by decide,by decide⟩) ?_)
local macro_rules | `(tactic| walk_at "draw")=>`(tactic| first|refine Zd8 rfl rfl (by assumption) (by omega) (by omega) λ_ _ _ _ _=>?_|refine⟨_,_,rfl,rfl,by assumption,_,rfl,by omega,by omega,λ_ _ _ _ _=>?_⟩)
def Pen (ps:List D):Prop:=∃(cs:List Int) (at_ num:Int),ps=[.lst (cs.map .int),.int at_,.int num]/\0<=at_/\0<=num/\cs.length<=63
def fDraw:BSp:=λps ds Post=>Pen ps/\∃m:Int,ds=[.int m]/\1<=m/\m<=100000000000000000000000000000000000000000000000000000000000/\∀r ps',Pen ps' -> 0<=r->r<m->Post (.int r) ps'
abbrev LendQ (f:BSp) (i:Nat) (P:D->Evt->Prop):List D->Evt->Prop:=λds Δ1=>∃y ps,Δ1[i]?=some y/\y.od=some (.lst ps)/\f ps ds λd ps'=>P d (Δ1.set i (y.put (.lst ps')))
theorem Zhm {K:W.Frag}{Δ:Evt}{P:D->Evt->Prop}{f:BSp}{ta:TA}{E:XK}{i:Nat}{x:Slot}{od:OD}(hx:Δ[i]?=some x) (ho:x.od=some od) (h:JA K ta Δ (LendQ f i P)):JE K (tCall (spB K f) [] E (tCons (tVar i) ta)) Δ P:=Zcj hx ho h
theorem Zd8 {Δ1:Evt}{i:Nat}{y:Slot}{ps:List D}{m:Int}{P:D->Evt->Prop}(hx:Δ1[i]?=some y) (ho:y.od=some (.lst ps)) (hp:Pen ps) (h1:1<=m) (h2:m<=100000000000000000000000000000000000000000000000000000000000) (h:∀r ps',Pen ps' -> 0<=r->r<m->P (.int r) (Δ1.set i (y.put (.lst ps')))) :
  LendQ fDraw i P [.int m] Δ1:=⟨y,ps,hx,ho,hp,m,rfl,h1,h2,h⟩
theorem Zxl {K:W.Frag}{Δ:Evt}{E:XK}{i:Nat}{y:Slot}{ps:List D}{m:Int}{P:D->Evt->Prop}(hx:Δ[i]?=some y) (ho:y.od=some (.lst ps)) (hp:Pen ps) (h1:1<=m) (h2:m<=100000000000000000000000000000000000000000000000000000000000) (h:∀r ps',Pen ps' -> 0<=r->r<m->P (.int r) (Δ.set i (y.put (.lst ps')))) :
  JE K (tCall (spB K fDraw) [] E (tCons (tVar i) (tCons (tC (.int m)) tNil))) Δ P:=Zhm hx ho (Zab (Zak (Zaf (Zd8 hx ho hp h1 h2 h))))
section
variable {P:Program}{w:World}{K:W.Frag}{mg:Str->Option Value}{base:Heap}{f:Addr}{fd:FuncData}
theorem Zus (mb:Mb mg) (F:Fun K "_law_draw" "_law_draw" s_law_draw f fd):FnOk P w K mg base CX0 1 f fd ["_law_pen_here","_law_many"] (spB K fDraw):=by
 refine F.ok sc_law_draw (Ze9 λps ds Post h=>by obtain⟨_,m,rfl,_⟩:=h;rfl) (λcdv A outer s H vs Q E hr h=>?_);have hu:=Zby hr;refine⟨_,(Zae (Zc1 (Za2 Zsm (Za1 (ixK K hu) (pv 0) Zag (λ_ _=>rfl)) Zag (nomark _)) (Zae (Zan (i:=2) sc_law_draw.nd rfl (Or.inl rfl) (Zaq Zcc (Za1 (ixK K hu) (pv 0) Zag (λ_ _=>rfl)) (pv 1))) (Zae (Zet (Zaq Zho (Za1 (ixK K hu) (pv 0) Zag (λ_ _=>rfl)) (pv 1)) (Zg8 (pv 0) Zag (setU hu))) (Zah (Zax (pv 2))))) Za7) (Zae (Zan (i:=3) sc_law_draw.nd rfl (Or.inl rfl) (Za1 (ixK K hu) (pv 0) Zag (λ_ _=>rfl))) (Zae (Zet (Zaq (addK K) (pv 3) Zag) (Zg8 (pv 0) Zag (setU hu))) (Zae (Zan (i:=4) sc_law_draw.nd rfl (Or.inl rfl) Zag) (Zae (Zc1 (Za2 Zsm (Zai (lenK K) rfl (mb "len" (by decide)) Zbl (Zaa (Za1 (ixK K hu) (pv 0) Zag (λ_ _=>rfl)) Zad)) Zag (nomark _)) (Zah (Zan (i:=4) sc_law_draw.nd rfl (Or.inl rfl) (Za1 (ixK K hu) (Za1 (ixK K hu) (pv 0) Zag (λ_ _=>rfl)) (Zaq Zcc (pv 3) (Zai (lenK K) rfl (mb "len" (by decide)) Zbl (Zaa (Za1 (ixK K hu) (pv 0) Zag (λ_ _=>rfl)) Zad))) (λ_ _=>rfl)))) Za7) (Zae (Zc1 (PW.pt (pw_and (Za2 Zua (pv 3) (Zai (lenK K) rfl (mb "len" (by decide)) Zbl (Zaa (Za1 (ixK K hu) (pv 0) Zag (λ_ _=>rfl)) Zad)) (nomark _)) (pw_and1 (Za2 Zxe (Zai Zhr rfl (mb "abs" (by decide)) Zop (Zaa (pv 4) Zad)) (Zaq Zuy Zag Zag) (nomark _))))) (Zae (Zet (Zaq Zho (Zai Zhr rfl (mb "abs" (by decide)) Zop (Zaa (pv 4) Zad)) (pv 1)) (Zg8 (pv 0) Zag (setU hu))) (Zah (Zax (Zaq Zcc (Zai Zhr rfl (mb "abs" (by decide)) Zop (Zaa (pv 4) Zad)) (pv 1))))) Za7) (Zae (Zan (i:=5) sc_law_draw.nd rfl (Or.inl rfl) (Zaq Zcc (Zaq Zcx (Zaq (addK K) (Zaq (addK K) (Zaq Zcc (pv 4) Zag) (Zaq Zcx Zag (pv 3))) Zag) Zag) Zag)) (Zae (Zan (i:=5) sc_law_draw.nd rfl (Or.inl rfl) (Zaq Zcc (Zaq (addK K) (Zaq (addK K) (Zaq Zcx (pv 5) (pv 5)) (Zaq Zcx Zag (pv 5))) (pv 3)) Zag)) (Zah (Zax (Zaq Zcc (Zaq Zho (Zaq Zcc (Zaq Zcx (pv 5) Zag) Zag) Zag) (pv 1)))))))))))),Zmv (λps ds Post hf=>?_) h⟩;obtain⟨⟨cs,at_,num,rfl,h1,h2,h3⟩,m,rfl,h4,h5,q⟩:=hf;refine⟨by simp,?_⟩;dsimp only[cxOf,startD,Wbo,Wbm,Wba,Wag];refine Zbk (λΔ=>¬ 0<num /\ Δ = [.bor (.lst [.lst (cs.map .int),.int at_,.int num]),.val (.int m),.any,.any,.any,.any]) ?_ ?_
 ·repeat walk_at "js"
  refine ite2 (λc=>?_) (λc=>?_)
  ·have c:=of_decide_eq_true c
   repeat walk_at "js"
   exact q _ _ ⟨cs,at_,num / m,rfl,h1,Int.ediv_nonneg h2 (by omega),h3⟩ (Wc4 _ (by omega)) (Wcp _ (by omega))
  ·repeat walk_at "js"
   exact⟨of_decide_eq_false (Wbt.mpr c),rfl⟩
 rintro Δ1 ⟨hn,rfl⟩
 repeat walk_at "js"
 refine Zbk (λΔ=>∃c:Int,Δ = [.bor (.lst [.lst (cs.map .int),.int (at_+1),.int num]),.val (.int m),.any,.val (.int at_),.val (.int c),.any]) ?_ ?_
 ·repeat walk_at "js"
  refine ite2 (λc=>?_) (λc=>?_)
  ·have c:=of_decide_eq_true c
   rw[Wab]at c
   repeat walk_at "js"
   rw[Wab]
   repeat walk_at "js"
   obtain⟨cell,_,hc⟩:=Zpb (f:=D.int) (xs:=cs) (i:=at_ % (cs.length:Int)) (Wc4 _ (by omega)) (Wcp _ (by omega));refine Zcs hc ?_;exact⟨cell,rfl⟩
  ·repeat walk_at "js"
   exact⟨11,rfl⟩
 rintro Δ1 ⟨cell,rfl⟩;refine Zbk (λΔ=>Δ = [.bor (.lst [.lst (cs.map .int),.int (at_+1),.int num]),.val (.int m),.any,.val (.int at_),.val (.int cell),.any]) ?_ ?_
 ·repeat walk_at "js"
  refine ite2 (λc=>?_) (λc=>?_)
  ·repeat walk_at "js"
   refine ite2 (λc=>?_) (λc=>?_)
   ·repeat walk_at "js"
    have ha:0<=(if cell<0 then -cell else cell):=by split <;> omega
    exact q _ _ ⟨cs,at_+1,_,rfl,by omega,Int.ediv_nonneg ha (by omega),h3⟩ (Wc4 _ (by omega)) (Wcp _ (by omega))
   ·repeat walk_at "js"
    rfl
  ·repeat walk_at "js"
   rfl
 rintro Δ1 rfl
 repeat walk_at "js"
 exact q _ _ ⟨cs,at_+1,num,rfl,by omega,h2,h3⟩ (Wc4 _ (by omega)) (Wcp _ (by omega))
end
def fPen:NSp:=λds Post=>∃ns:List Int,ds=[.scr (ns.map .int)]/\ns.length<=63/\∀ps,Pen ps->Post ps
section
variable {P:Program}{w:World}{K:W.Frag}{mg:Str->Option Value}{base:Heap}{f:Addr}{fd:FuncData}
theorem Zvs (mb:Mb mg) (F:Fun K "_law_pen" "_law_pen" s_law_pen f fd):FnOk P w K mg base CX0 1 f fd ["_law_script"] (spN K fPen):=by
 refine F.ok sc_law_pen (Zfc λds Post h=>by obtain⟨ns,rfl,_⟩:=h;rfl) (λcdv A outer s H vs Q E hr h=>?_);have hu:=Zby hr;refine⟨_,(Zah (Zax (Zff (Zaa (Zb8 ["_law_cell"] (show CompSc (defScope s_law_pen) ["_law_script"] _ [] [] from ⟨rfl,by decide +kernel,by decide +kernel,by decide +kernel,rfl,by decide +kernel⟩) rfl (seqK K (Zid (slK K) (pv 0) Zjy (Zjs Zag))) (λ_ _ _ _ _=>(Zal (i:=0) (show List.Nodup (["_law_cell"]:List Str) from by decide) rfl (Or.inl rfl))) (λ_ _ _ _ _=>Zb3) (λ_ _ _ _ _=>(pv 0))) (Zaa Zag (Zaa Zag Zad)))))),Zmn (λds Post hf=>?_) h⟩;obtain⟨ns,rfl,h1,q⟩:=hf;refine⟨by simp,?_⟩;dsimp only[cxOf,startD,Wbo,Wbm,Wba,Wag];refine Ze4 (Zgq (Zab (Zch (by decide) (Zfe ?_))))
 repeat walk_at "js"
 have e:cutD (ns.map D.int) none (some 63)=ns.map D.int:=by
  unfold cutD;have e1:HT.sIx (ns.map D.int).length 0 none=0:=rfl;have e2:HT.sIx (ns.map D.int).length (ns.map D.int).length (some 63)=ns.length:=by
   rw[Wab];show min (Int.toNat 63) ns.length=_;omega
  rw[e1,e2,List.drop_zero,Wd6,Wcz (by simp)]
 rw[e];refine⟨_,Or.inl rfl,by rw[Wab];exact Wca h1 (by decide),λ_=>true,λd=>d,λi d hd=>?_,?_⟩
 ·repeat walk_at "js"
  exact⟨rfl,Zac rfl ⟨rfl,_,rfl⟩⟩
 ·repeat walk_at "js"
  refine⟨by show 3<=sizeLine;decide,_,rfl,q _ ⟨ns,0,0,?_,by decide,by decide,h1⟩⟩;simp
end
def encTie (t:Int × Int):D:=.tup [.int t.1,.int t.2]
def encWeb (n:Int) (ts:List (Int × Int)):D:=.tup [.int n,.tup (ts.map encTie)]
structure WebOk (n:Int) (ts:List (Int × Int)):Prop where
 lo:1<=n
 hi:n<=25
 len:ts.length<=24
 tie:∀t∈ts,0<=t.1/\t.1<n/\0<=t.2/\t.2<n
def fWeb:BSp:=λps ds Post=>Pen ps/\∃a b:Int,ds=[.int a,.int b]/\1<=a/\a<=25/\0<=b/\b<=24/\∀n ts ps',Pen ps' -> WebOk n ts->n<=a->(ts.length:Int)<=b->Post (encWeb n ts) ps'
theorem Zvo {Δ1:Evt}{i:Nat}{y:Slot}{ps:List D}{a b:Int}{P:D->Evt->Prop}(hx:Δ1[i]?=some y) (ho:y.od=some (.lst ps)) (hp:Pen ps) (h1:1<=a) (h2:a<=25) (h3:0<=b) (h4:b<=24) (h:∀n ts ps',Pen ps' -> WebOk n ts->n<=a->(ts.length:Int)<=b->P (encWeb n ts) (Δ1.set i (y.put (.lst ps')))) :
  LendQ fWeb i P [.int a,.int b] Δ1:=⟨y,ps,hx,ho,hp,a,b,rfl,h1,h2,h3,h4,h⟩
theorem Zoj:2<=sizeLine:=by decide
theorem Zjh {K:W.Frag}{Δ:Evt}{i:Nat}{v c:Int}{P:Bool->Evt->Prop}(hx:Δ[i]?=some (.val (.int v))) (h1:v=c->P true Δ) (h2:¬ v=c->P false Δ):JT K (tTest (tOp rEq (tVar i) (tC (.int c)))) Δ P:=
 Zbd (Zam (Zac hx (Zak (Zef ⟨_,rfl,by
  by_cases h:v=c
  ·rw[decide_eq_true h];exact h1 h
  ·rw[decide_eq_false h];exact h2 h⟩))))
def wSt (py:List D) (a b n way k:Int) (fs:List D) (i u v:Int):Evt:=[.bor (.lst py),.val (.int a),.val (.int b),.val (.int n),.val (.int way),.val (.int k),.own (.lst fs),.val (.int i),.val (.int u),.val (.int v)]
def wQ (py:List D) (a b n way k:Int) (fs:List D) (i:Int):Evt->Prop:=λΔ=>∃u v:Int,0<=u/\u<n/\0<=v/\v<n /\ Δ = wSt py a b n way k fs i u v
def wR (py:List D) (a b n way k:Int) (fs:List D) (i:Int):Evt->Prop:=λΔ=>∃u v:Int,0<=u/\u<n/\0<=v /\ Δ = wSt py a b n way k fs i u v
def wL (a b n way k:Int) (i:Nat):Evt->Prop:=λΔ=>∃(ps:List D) (ts:List (Int × Int)) (x7 x8 x9:Slot),Pen ps/\ts.length=i/\(∀t∈ts,0<=t.1/\t.1<n/\0<=t.2/\t.2<n) /\ Δ = [.bor (.lst ps),.val (.int a),.val (.int b),.val (.int n),.val (.int way),.val (.int k),.own (.lst (ts.map encTie)),x7,x8,x9]
section
variable {P:Program}{w:World}{K:W.Frag}{mg:Str->Option Value}{base:Heap}{f:Addr}{fd:FuncData}
theorem Zvw (mb:Mb mg) (C32:Callee P w K mg base 1 "_law_draw" ["_law_pen_here","_law_many"] (spB K fDraw)) (F:Fun K "_law_web" "_law_web" s_law_web f fd):FnOk P w K mg base CX0 2 f fd ["_law_pen_here","_law_places","_law_ties"] (spB K fWeb):=by
 refine F.ok sc_law_web (Ze9 λps ds Post h=>by obtain⟨_,a,b,rfl,_⟩:=h;rfl) (λcdv A outer s H vs Q E hr h=>?_);have hu:=Zby hr;refine⟨_,(Zae (Zan (i:=3) sc_law_web.nd rfl (Or.inl rfl) (Zaq (addK K) Zag (Zay C32 (hr.mono (by decide)) (Zaa (pv 0) (Zaa (pv 1) Zad))))) (Zae (Zan (i:=4) sc_law_web.nd rfl (Or.inl rfl) (Zay C32 (hr.mono (by decide)) (Zaa (pv 0) (Zaa Zag Zad)))) (Zae (Zan (i:=5) sc_law_web.nd rfl (Or.inl rfl) (Zay C32 (hr.mono (by decide)) (Zaa (pv 0) (Zaa (Zaq (addK K) (pv 2) Zag) Zad)))) (Zae (Zc1 (Za2 Zcg (pv 4) Zag (nomark _)) (Zae (Zan (i:=3) sc_law_web.nd rfl (Or.inl rfl) (pv 1)) (Zah (Zan (i:=5) sc_law_web.nd rfl (Or.inl rfl) (pv 2)))) Za7) (Zae (Zan (i:=6) sc_law_web.nd rfl (Or.inl rfl) (Zff Zad)) (Zae (Zcv PassesOwn.never rfl (Zbn rfl (mb "range" (by decide)) (Zaa (pv 5) Zad)) (Zal (i:=7) sc_law_web.nd rfl (Or.inl rfl)) (Zae (Zm0 (i:=8) (j:=9) rfl sc_law_web.nd rfl rfl (by decide) rfl rfl (Zaa (Zay C32 (hr.mono (by decide)) (Zaa (pv 0) (Zaa (pv 3) Zad))) (Zaa (Zay C32 (hr.mono (by decide)) (Zaa (pv 0) (Zaa (pv 3) Zad))) Zad)) rfl) (Zae (Zc1 (Za2 Zcg (pv 4) Zag (nomark _)) (Zah (Zm0 (i:=8) (j:=9) rfl sc_law_web.nd rfl rfl (by decide) rfl rfl (Zaa (Zaq Zcc (pv 7) (pv 3)) (Zaa (Zaq Zcc (Zaq (addK K) (pv 7) Zag) (pv 3)) Zad)) rfl)) Za7) (Zae (Zc1 (Za2 Zcg (pv 4) Zag (nomark _)) (Zah (Zan (i:=8) sc_law_web.nd rfl (Or.inl rfl) Zag)) Za7) (Zae (Zc1 (Za2 Zcg (pv 4) Zag (nomark _)) (Zah (Zan (i:=9) sc_law_web.nd rfl (Or.inl rfl) (Zaq (addK K) (Zaq Zcc (pv 8) Zag) (Zaq Zcx (Zaq Zfb (pv 9) Zag) Zag)))) Za7) (Zae (Zc1 (PW.pt (pw_and (Za2 Zcg (pv 4) Zag (nomark _)) (pw_and1 (Za2 Zcg (Zaq Zcc (pv 9) Zag) Zag (nomark _))))) (Zah (Zan (i:=9) sc_law_web.nd rfl (Or.inl rfl) (pv 8))) Za7) (Zah (Zb7 (bmK K PySem.F.plainAttrs_list PySem.F.slot_list_append PySem.F.type_list_append Zb1 (pv 6) (Zaa (Zct (Zaa (pv 8) (Zaa (Zai (Zee rfl) rfl (mb "min" (by decide)) Zjg (Zaa (pv 9) (Zaa (Zaq Zeg (pv 3) Zag) Zad))) Zad))) Zad)))))))))) (Zah (Zax (Zct (Zaa (pv 3) (Zaa (Zbr (tupK K) rfl (mb "tuple" (by decide)) Zbs (Zaa (pv 6) Zad)) Zad))))))))))),Zmv (λps ds Post hf=>?_) h⟩;obtain⟨hp,a,b,rfl,h1,h2,h3,h4,q⟩:=hf;refine⟨by simp,?_⟩;dsimp only[cxOf,startD,Wbo,Wbm,Wba,Wag];refine Zaj (Zav (Zam (Zak (Zhm rfl rfl (Zab (Zac rfl (Zaf (Zd8 (m:=a) rfl rfl hp h1 (Int.le_trans h2 (by decide)) λr0 ps0 hp0 hr0 hs0=>Zcf ?_))))))));refine Zaj (Zav (Zxl rfl rfl hp0 (by decide) (by decide) λway ps1 hp1 hw0 hw1=>?_));refine Zaj (Zav (Zhm rfl rfl (Zab (Zmj (Zec (Zc5 rfl) Zdp Zjl) (Zaf (Zd8 (m:=b+1) rfl rfl hp1 (Int.add_le_add h3 (Wdw 1)) (Int.le_trans (Int.add_le_add h4 (Wdw 1)) (by decide)) λcnt ps2 hp2 hc0 hc1=>?_))))));refine Zbk (λΔ=>∃n k:Int,1<=n/\n<=a/\0<=k/\k<=b /\ Δ = [.bor (.lst ps2),.val (.int a),.val (.int b),.val (.int n),.val (.int way),.val (.int k),.any,.any,.any,.any]) ?_ ?_
 ·refine Zcq (Zjh rfl (λc=>iteT ?_) (λc=>iteF (Za4 ⟨1+r0,cnt,Int.le_add_of_nonneg_right hr0,by omega,hc0,Int.le_of_lt_add_one hc1,rfl⟩)))
  exact Zaj (Zav (Zac rfl (Zav (Zac rfl ⟨a,b,h1,Wdw _,h3,Wdw _,rfl⟩))))
 rintro Δ1 ⟨n,k,hn0,hn1,hk0,hk1,rfl⟩;have hn2:0<n:=Int.lt_of_lt_of_le (by decide) hn0;have hn3:n≠0:=Int.ne_of_gt hn2;refine Zaj (Zb5 (Zgq (Zaf ⟨by decide,?_⟩)));refine Zbk (wL a b n way k k.toNat) ?_ ?_
 ·refine Zcy (Zbm (Zab (Zac rfl (Zaf ⟨_,rfl,by omega,by omega,?_⟩))))
  refine⟨wL a b n way k,⟨ps2,[],.any,.any,.any,hp2,rfl,λ_ h=>(nomatch h),rfl⟩,?_,λΔ2 h=>by rw[Zbc]at h;exact h⟩;rintro i d Δ2 hd ⟨ps,ts,x7,x8,x9,hp',hl,ht,rfl⟩;obtain⟨hi,rfl⟩:=Zb4 hd;generalize (0+(i:Int))=I;refine Zbo (Zaj (Zik (Zab (Zhm rfl rfl (Zab (Zac rfl (Zaf (Zd8 (m:=n) rfl rfl hp' hn0 (by omega) λx px hpx hx0 hx1=>?_))))))));refine Zab (Zhm rfl rfl (Zab (Zac rfl (Zaf (Zd8 (m:=n) rfl rfl hpx hn0 (by omega) λy py hpy hy0 hy1=>Zaf ⟨_,_,rfl,?_⟩)))));refine Zbk (wQ py a b n way k (ts.map encTie) I) ?_ ?_
  ·refine Zcq (Zjh rfl (λc=>iteT ?_) (λc=>iteF (Za4 ⟨x,y,hx0,hx1,hy0,hy1,rfl⟩)))
   exact Zik (Zv6 (Zkw (Zec (Zc5 rfl) (Zc5 rfl) (pr_I hn2)) (Zkw (Zec (Zec (Zc5 rfl) Zdp Zjl) (Zc5 rfl) (pr_I hn2)) Zuq)) ⟨_,_,rfl,_,_,Wc4 _ hn3,Wcp _ hn2,Wc4 _ hn3,Wcp _ hn2,rfl⟩)
  rintro Δ3 ⟨u,v,hu0,hu1,hv0,hv1,rfl⟩;refine Zbk (wQ py a b n way k (ts.map encTie) I) ?_ ?_
  ·exact Zcq (Zjh rfl (λc=>iteT (Zav (Zak ⟨0,v,Wdw _,hn2,hv0,hv1,rfl⟩))) (λc=>iteF (Za4 ⟨u,v,hu0,hu1,hv0,hv1,rfl⟩)))
  rintro Δ3 ⟨u,v,hu0,hu1,hv0,hv1,rfl⟩;refine Zbk (wR py a b n way k (ts.map encTie) I) ?_ ?_
  ·refine Zcq (Zjh rfl (λc=>iteT ?_) (λc=>iteF (Za4 ⟨u,v,hu0,hu1,hv0,rfl⟩)))
   exact Zav (Zmj (Zec (Zec (Zc5 rfl) Zdp (pr_I (show (0:Int)<2 by decide))) (Zec (Zec (Zc5 rfl) Zdp (pr_I ⟨by decide,by decide⟩)) Zdp (pr_I (Or.inr ⟨by decide,by decide⟩))) Zjl) ⟨u,_,hu0,hu1,by omega,rfl⟩)
  rintro Δ3 ⟨u,v,hu0,hu1,hv0,rfl⟩;refine Zbk (wR py a b n way k (ts.map encTie) I) ?_ ?_
  ·refine Zcq (Zhg (Zjh rfl (λc=>iteT ?_) (λc=>iteF (iteF (Za4 ⟨u,v,hu0,hu1,hv0,rfl⟩)))))
   refine Zbd (Zam (Zmj (Zec (Zc5 rfl) Zdp (pr_I (show (0:Int)<2 by decide))) (Zak (Zef ⟨_,rfl,ite2 (λc=>?_) (λc=>Za4 ⟨u,v,hu0,hu1,hv0,rfl⟩)⟩))));exact Zav (Zac rfl ⟨u,u,hu0,hu1,hu0,rfl⟩)
  rintro Δ3 ⟨u,v,hu0,hu1,hv0,rfl⟩;refine Zgl rfl rfl (Zcm (Zab (Zac rfl (Zab (Za3 (Zab (Zac rfl (Zab (Zmj (Zec (Zc5 rfl) Zdp Zxb) (Zaf (Zfg (Zaf ?_))))))))))));refine⟨Zoj,_,_,rfl,rfl,?_,py,ts++[(u,if n-1<v then n-1 else v)],.val (.int I),.val (.int u),.val (.int v),hpy,by rw[Waq,hl];rfl,λt h=>?_,?_⟩
  ·rw[Wab];exact small1000 (by omega)
  ·rcases Wbd.mp h with h|h
   ·exact ht t h
   ·rw[Wbc.mp h]
    refine⟨hu0,hu1,?_,?_⟩
    ·show 0<=(if n-1<v then n-1 else v);split <;> omega
    ·show (if n-1<v then n-1 else v)<n;split <;> omega
  ·rw[Wax];rfl
 rintro Δ1 ⟨ps3,ts,x7,x8,x9,hp3,hl,ht,rfl⟩;refine Za8 (Zcm (Zab (Zac rfl (Zab (Za3 (Zab (Zc9 rfl (Zaf (Zdk (Or.inl rfl) (Zaf ⟨Zoj,?_⟩))))))))));exact⟨_,rfl,q n ts _ hp3 ⟨hn0,by omega,by omega,ht⟩ hn1 (by omega)⟩
end
def placeAt (ts:List (Int × Int)) (e:Nat):Int:=match ts[e / 2]? with
 |some t=>if e % 2=0 then t.1 else t.2
 |none=>-1
def encRow (r:List Int):D:=.tup (r.map .int)
def encOrd (o:List (List Int)):D:=.tup (o.map encRow)
def endsBelow (ts:List (Int × Int)) (m:Nat) (p:Int):List Int:=((Wai m).filter λe=>decide (placeAt ts e=p)).map λe:Nat=>(e:Int)
structure RowOk (ts:List (Int × Int)) (m:Nat) (p:Int) (r:List Int):Prop where
 perm:r.Perm (endsBelow ts m p)
 first:r.head?=(endsBelow ts m p).head?
structure OrdOk (n:Int) (ts:List (Int × Int)) (o:List (List Int)):Prop where
 len:(o.length:Int)=n
 row:∀(p:Nat) r,o[p]?=some r->RowOk ts (2*ts.length) (p:Int) r
theorem Zd4 (ts:List (Int × Int)) (k:Nat) (p:Int):endsBelow ts (k+1) p=endsBelow ts k p++(if placeAt ts k=p then [(k:Int)] else []):=by
 unfold endsBelow;rw[List.range_succ,Wb1,Wax];congr 1;by_cases h:placeAt ts k=p
 ·simp[Wbi,h]
 ·simp[Wbi,h]
theorem Zii (ts:List (Int × Int)) (m:Nat) (p:Int):(endsBelow ts m p).length<=m:=by
 unfold endsBelow;rw[Wab];exact Wbx (Wc3 _ _) (by rw[Wa7];exact Wah _)
theorem RowOk.len {ts:List (Int × Int)}{m:Nat}{p:Int}{r:List Int}(h:RowOk ts m p r):r.length<=m:=by rw[h.perm.length_eq];exact Zii ts m p
theorem RowOk.stay {ts:List (Int × Int)}{k:Nat}{p:Int}{r:List Int}(h:RowOk ts k p r) (hp:placeAt ts k≠p):RowOk ts (k+1) p r:=by
 have e:=Zd4 ts k p;rw[if_neg hp,Wbb]at e;exact⟨by rw[e];exact h.perm,by rw[e];exact h.first⟩
theorem RowOk.put {ts:List (Int × Int)}{k j:Nat}{p:Int}{r:List Int}(h:RowOk ts k p r) (hp:placeAt ts k=p) (hj:j<=r.length) (h1:r≠[]->1<=j):RowOk ts (k+1) p (r.take j++(k:Int)::r.drop j):=by
 have e:=Zd4 ts k p;rw[if_pos hp]at e;refine⟨?_,?_⟩
 ·rw[e]
  refine Wep.trans ?_;rw[Wc2];exact(List.Perm.cons _ h.perm).trans (List.perm_append_singleton _ _).symm
 ·rw[e]
  cases r with
  |nil=>
   have z:endsBelow ts k p=[]:=List.Perm.eq_nil h.perm.symm;rw[z];have:j=0:=by simpa using hj
   subst this;rfl
  |cons x r'=>
   have h2:=h1 (by simp);obtain⟨j',rfl⟩:∃j',j=j'+1:=⟨j-1,by omega⟩;have h3:=h.first;show some x=_;cases q:endsBelow ts k p with
   |nil=>rw[q]at h3;cases h3
   |cons y l=>rw[q]at h3;exact h3
theorem Zsi {ts:List (Int × Int)}{k:Nat}(h:k<2*ts.length):∃t,ts[k / 2]?=some t/\atI (ts.map encTie) ((0+(k:Int)) / 2)=some (encTie t)/\atI [D.int t.1,D.int t.2] ((0+(k:Int)) % 2)=some (.int (placeAt ts k)):=by
 have hk:k / 2<ts.length:=by omega
 refine⟨ts[k / 2],Waa hk,?_,?_⟩
 ·have e:(0+(k:Int)) / 2=((k / 2:Nat):Int):=by omega
  rw[e];exact Zb0 (by rw[Wad,Waa hk];rfl)
 ·have e2:placeAt ts k=if k % 2=0 then ts[k / 2].1 else ts[k / 2].2:=by
   unfold placeAt;rw[Waa hk]
  rw[e2];have e:(0+(k:Int)) % 2=((k % 2:Nat):Int):=by omega
  rw[e];by_cases h0:k % 2=0
  ·rw[if_pos h0,h0];exact Zb0 rfl
  ·have h1:k % 2=1:=by omega
   rw[if_neg h0,h1];exact Zb0 rfl
theorem Zdh {n:Int}{ts:List (Int × Int)}(hW:WebOk n ts) {k:Nat}(h:k<2*ts.length):0<=placeAt ts k/\placeAt ts k<n:=by
 have hk:k / 2<ts.length:=by omega
 have:=hW.tie _ (Wa5 hk);unfold placeAt;rw[Waa hk];dsimp only;split <;> omega
def fOrder:BSp:=λps ds Post=>Pen ps/\∃n ts,ds=[encWeb n ts]/\WebOk n ts/\∀o ps',Pen ps' -> OrdOk n ts o->Post (encOrd o) ps'
theorem Zq4 {Δ1:Evt}{i:Nat}{y:L2.Slot}{ps:List D}{n:Int}{ts:List (Int × Int)}{P:D->Evt->Prop}(hx:Δ1[i]?=some y) (ho:y.od=some (.lst ps)) (hp:Pen ps) (hW:WebOk n ts) (h:∀o ps',Pen ps' -> OrdOk n ts o->P (encOrd o) (Δ1.set i (y.put (.lst ps')))) :
  LendQ fOrder i P [encWeb n ts] Δ1:=⟨y,ps,hx,ho,hp,n,ts,rfl,hW,h⟩
def oSt (ps:List D) (n:Int) (ts:List (Int × Int)) (cs:List (Addr × List Int)) (x3 x4:L2.Slot):Evt:=.bor (.lst ps)::.val (encWeb n ts)::.val (.lst (cs.map λc=>D.adr c.1))::x3::x4::(cs.map (λc=>L2.Slot.ownA c.1 (.lst (c.2.map D.int)))++Wag (25-n.toNat) .any)
def oP (n:Int) (ts:List (Int × Int)) (k:Nat):Evt->Prop:=λΔ=>∃(ps:List D) (cs:List (Addr × List Int)) (x3 x4:L2.Slot),Pen ps/\cs.length=n.toNat/\(∀(p:Nat) c,cs[p]?=some c->RowOk ts k (p:Int) c.2) /\ Δ = oSt ps n ts cs x3 x4
theorem Zo2 {n:Int}{ts:List (Int × Int)}{ps:List D}{as:List Addr}(hn2:n<=25) (hal:as.length=(Wbm (λ_=>OD.lst []) ((rngD 0 n.toNat).filter λ_=>true)).length):∃cs:List (Addr × List Int),cs.length=n.toNat/\(∀(p:Nat) c,cs[p]?=some c->c.2=[]) ∧
  L2.putN 5 (as.zip (Wbm (λ_=>OD.lst []) ((rngD 0 n.toNat).filter λ_=>true))) ([.bor (.lst ps),.val (encWeb n ts),.val (.lst (as.map D.adr)),.any,.any]++Wag 25 .any)=oSt ps n ts cs .any .any:=by
 have eR:(rngD 0 n.toNat).filter (λ_=>true)=rngD 0 n.toNat:=by simp
 rw[eR,Wab,Zbc]at hal;have eO:(rngD 0 n.toNat).map (λ_=>OD.lst [])=Wag n.toNat (OD.lst []):=by
  rw[List.map_const',Zbc]
 rw[eR,eO];generalize hcs:as.map (λa=>((a,[]):Addr × List Int))=cs;have hcl:cs.length=n.toNat:=by rw[<- hcs,Wab,hal]
 have e1:as.map D.adr=cs.map λc=>D.adr c.1:=by rw[<- hcs,Wa3];rfl
 have e2:as.zip (Wag n.toNat (OD.lst []))=cs.map λc=>(c.1,OD.lst (c.2.map D.int)):=by
  rw[<- hcs,Wa3,<- hal];clear e1 hcl hcs hal
  induction as with
  |nil=>rfl
  |cons a r ih=>rw[Waj,Wdr,Wcj,ih];rfl
 have e3:=Zpx (cs.map λc=>(c.1,OD.lst (c.2.map D.int))) [.bor (.lst ps),.val (encWeb n ts),.val (.lst (cs.map λc=>D.adr c.1)),.any,.any] [] 25 (by rw[Wab];omega);rw[Wbb,Wbb,Wa3,Wab,hcl]at e3;refine⟨cs,hcl,λp c hc=>?_,by rw[e1,e2];exact e3⟩;rw[<- hcs,Wad]at hc;cases q:as[p]? with
 |none=>rw[q]at hc;cases hc
 |some a=>rw[q]at hc;cases hc;rfl
theorem Zw0 {ps:List D}{n:Int}{ts:List (Int × Int)}{cs:List (Addr × List Int)}{x3 x4:L2.Slot}{p:Nat}{c:Addr × List Int}(h:cs[p]?=some c):(oSt ps n ts cs x3 x4)[p+5]?=some (.ownA c.1 (.lst (c.2.map D.int))):=by
 show (cs.map (λc=>L2.Slot.ownA c.1 (.lst (c.2.map D.int)))++Wag (25-n.toNat) .any)[p]?=_;rw[Wa8 (by rw[Wab];exact(Waf.mp h).1),Wad,h];rfl
theorem Zso {ps ps':List D}{n:Int}{ts:List (Int × Int)}{cs:List (Addr × List Int)}{x3 x4:L2.Slot}{p:Nat}{c:Addr × List Int}{r:List Int}{v:L2.Slot}(h:cs[p]?=some c) (hv:v=.ownA c.1 (.lst (r.map D.int))):(oSt ps n ts cs x3 x4).set (p+5) v=oSt ps n ts (cs.set p (c.1,r)) x3 x4:=by
 have hp:=(Waf.mp h).1;have ea:(cs.set p (c.1,r)).map (λc=>D.adr c.1)=cs.map λc=>D.adr c.1:=by
  rw[List.map_set];apply Wb6;intro i;by_cases hii:i=p
  ·subst hii
   rw[Wau (by rw[Wab];exact hp),Wad,h];rfl
  ·rw[Wa1 (Ne.symm hii)]
 unfold oSt;rw[ea,List.map_set,hv,<- List.set_append_left _ _ (by rw[Wab];exact hp)];rfl
section
variable {P:Program}{w:World}{K:W.Frag}{mg:Str->Option Value}{base:Heap}{f:Addr}{fd:FuncData}
theorem Zq3 (mb:Mb mg) (C32:Callee P w K mg base 1 "_law_draw" ["_law_pen_here","_law_many"] (spB K fDraw)) (F:Fun K "_law_order" "_law_order" s_law_order f fd):FnOk P w K mg base CX0 2 f fd ["_law_pen_here","_law_web_here"] (spB K fOrder):=by
 refine F.ok sc_law_order (Ze9 λps ds Post h=>by obtain⟨_,n,ts,rfl,_⟩:=h;rfl) (λcdv A outer s H vs Q E hr h=>?_);have hu:=Zby hr;refine⟨_,(Zae (Zqq 5 (show ∀x∈(["_law_pen_here","_law_web_here","_law_rows","_law_k","_law_row","!0","!1","!2","!3","!4","!5","!6","!7","!8","!9","!10","!11","!12","!13","!14","!15","!16","!17","!18","!19","!20","!21","!22","!23","!24"]:List Str).drop 5,(defScope s_law_order).names.lookup x=none from by decide +kernel) (Zdb (i:=2) ["_law_place"] (show CompSc (defScope s_law_order) ["_law_pen_here","_law_web_here","_law_rows","_law_k","_law_row","!0","!1","!2","!3","!4","!5","!6","!7","!8","!9","!10","!11","!12","!13","!14","!15","!16","!17","!18","!19","!20","!21","!22","!23","!24"] _ [] [] from ⟨rfl,by decide +kernel,by decide +kernel,by decide +kernel,rfl,by decide +kernel⟩) rfl sc_law_order.nd rfl (Or.inl rfl) (Zbn rfl (mb "range" (by decide)) (Zaa (Za1 (ixK K hu) (pv 1) Zag (λ_ _=>rfl)) Zad)) (λ_ _ _ _ _=>(Zal (i:=0) (show List.Nodup (["_law_place"]:List Str) from by decide) rfl (Or.inl rfl))) (λ_ _ _ _ _=>Zb3) (λ_ _ _ _ _=>(Zff Zad)))) (Zae (Zcv PassesOwn.never rfl (Zbn rfl (mb "range" (by decide)) (Zaa (Zaq Zcx Zag (Zai (lenK K) rfl (mb "len" (by decide)) Zbl (Zaa (Za1 (ixK K hu) (pv 1) Zag (λ_ _=>rfl)) Zad))) Zad)) (Zal (i:=3) sc_law_order.nd rfl (Or.inl rfl)) (Zae (Zan (i:=4) sc_law_order.nd rfl (Or.inl rfl) (Za1 (ixK K hu) (pv 2) (Za1 (ixK K hu) (Za1 (ixK K hu) (Za1 (ixK K hu) (pv 1) Zag (λ_ _=>rfl)) (Zaq Zfb (pv 3) Zag) (λ_ _=>rfl)) (Zaq Zcc (pv 3) Zag) (λ_ _=>rfl)) (λ_ _=>rfl))) (Zah (Zb7 (bmK K PySem.F.plainAttrs_list PySem.F.slot_list_insert PySem.F.type_list_insert Zi8 (pv 4) (Zaa (Zai (Zee rfl) rfl (mb "min" (by decide)) Zjg (Zaa (Zai (lenK K) rfl (mb "len" (by decide)) Zbl (Zaa (pv 4) Zad)) (Zaa (Zaq (addK K) Zag (Zay C32 (hr.mono (by decide)) (Zaa (pv 0) (Zaa (Zai (Zf3 rfl) rfl (mb "max" (by decide)) Zm4 (Zaa Zag (Zaa (Zai (lenK K) rfl (mb "len" (by decide)) Zbl (Zaa (pv 4) Zad)) Zad))) Zad)))) Zad))) (Zaa (pv 3) Zad))))))) (Zah (Zax (Zbr (tupK K) rfl (mb "tuple" (by decide)) Zbs (Zaa (Zb8 ["_law_row"] (show CompSc (defScope s_law_order) ["_law_pen_here","_law_web_here","_law_rows","_law_k","_law_row","!0","!1","!2","!3","!4","!5","!6","!7","!8","!9","!10","!11","!12","!13","!14","!15","!16","!17","!18","!19","!20","!21","!22","!23","!24"] _ [] [] from ⟨rfl,by decide +kernel,by decide +kernel,by decide +kernel,rfl,by decide +kernel⟩) rfl (seqK K (pv 2)) (λ_ _ _ _ _=>(Zal (i:=0) (show List.Nodup (["_law_row"]:List Str) from by decide) rfl (Or.inl rfl))) (λ_ _ _ _ _=>Zb3) (λ_ _ _ _ _=>(Zbr (tupK K) rfl (mb "tuple" (by decide)) Zbs (Zaa (pv 0) Zad)))) Zad)))))),Zmv (λps ds Post hf=>?_) h⟩;obtain⟨hp,n,ts,rfl,hW,q⟩:=hf;refine⟨by simp,?_⟩;dsimp only[cxOf,startD,Wbo,Wbm,Wba];have hn:=hW.lo;have hn2:=hW.hi;have hts:=hW.len
 -- the rows
 refine Zaj (Ztx (Zrh (by decide) (Zbm ?_)));refine Zab (Zam (Zac rfl (Zak (Zaz (d:=.int n) rfl (Zaf ⟨n,rfl,by omega,by omega,?_⟩)))));refine⟨by rw[Zbc];exact small1000 (by omega),λ_=>true,λ_=>.lst [],λi d hd=>?_,by decide,?_,λas hal hnd=>?_⟩
 ·exact Zbu ⟨rfl,Zgq (Zaf ⟨by decide,rfl,_,rfl⟩)⟩
 ·rw[Wab]
  have e:((rngD 0 n.toNat).filter λ_=>true).length<=25:=Wbx (Wc3 _ _) (by rw[Zbc];omega);show 5+_<=30;omega
 obtain⟨cs,hcl,hce,e⟩:=Zo2 (ps:=ps) (ts:=ts) hn2 hal;refine Eq.mpr (congrArg (λΔ=>JS K _ Δ _) e) ?_
 -- the loop
 refine Zbk (oP n ts (2*ts.length)) ?_ ?_
 ·refine Zcy (Zbm (Zab (Zmj (Zec Zdp (Zuk (Zr7 (ds:=[.int n,.tup (ts.map encTie)]) rfl rfl)) (pr_I (Or.inl ⟨by decide,by decide⟩))) (Zaf ⟨_,rfl,?_,?_,?_⟩))))
  ·rw[Wab];omega
  ·rw[Wab];omega
  have eL:((2:Int)*((ts.map encTie).length:Int)).toNat=2*ts.length:=by rw[Wab];omega
  refine⟨oP n ts,⟨ps,cs,.any,.any,hp,hcl,λp c hc=>by rw[hce p c hc];exact⟨List.Perm.refl _,rfl⟩,rfl⟩,?_,λΔ h=>by rw[Zbc,eL]at h;exact h⟩
  ·rintro k d Δ2 hd ⟨ps,cs,x3,x4,hp,hcl,hrow,rfl⟩
   rw[eL]at hd;obtain⟨hk,rfl⟩:=Zb4 hd;obtain⟨t,ht1,ht2,ht3⟩:=Zsi hk;obtain⟨pl0,pl1⟩:=Zdh hW hk;obtain⟨c,hc1,hc2⟩:=Zpb (f:=λc:Addr × List Int=>D.adr c.1) (xs:=cs) (i:=placeAt ts k) pl0 (by omega);have hR:=hrow _ c hc1;have hRl:=hR.len;have ep:((placeAt ts k).toNat:Int)=placeAt ts k:=Int.toNat_of_nonneg pl0;have hsl:∀(ps:List D) (x3 x4:L2.Slot),(oSt ps n ts cs x3 x4)[(placeAt ts k).toNat+5]?=some (.ownA c.1 (.lst (c.2.map D.int))):=λps x3 x4=>Zw0 hc1;have hlen:(c.2.map D.int).length=c.2.length:=Wab _;refine Zbo (Zaj (Zav (Zmj (Zv2 (d:=.adr c.1) (Zc5 rfl) (Zm5 (Zm5 (Zr7 (d:=.tup (ts.map encTie)) rfl rfl) (Zec (Zc5 rfl) Zdp (pr_I ⟨by decide,by decide⟩)) ht2) (Zec (Zc5 rfl) Zdp (pr_I (by show (0:Int)<2;decide))) ht3) hc2) ?_)));refine Ztt (a:=c.1) rfl (hsl ps _ _) ?_;refine Za3 (Zab (Znw rfl (hsl ps _ _) (Zab (Zam (Zak (Zhm rfl rfl (Zab (Za3 (Zab (Zak (Zab (Znw rfl (hsl ps _ _) (Zaf (Zfg (Zaf ?_)))))))))))))));refine Zd8 rfl rfl hp (by split <;> omega) (by split <;> omega) λr ps' hp' hr0 hr1=>?_
   refine Zcf (Zaf (Zfg (Zac rfl ⟨_,_,_,rfl,hsl ps' _ _,by rw[hlen];exact small1000 (by omega),by split <;> omega,by split <;> omega,?_⟩)))
   generalize hi:insI (c.2.map D.int).length (if 1+r<((c.2.map D.int).length:Int) then 1+r else ((c.2.map D.int).length:Int))=j;have hj:j<=c.2.length/\(c.2≠[]->1<=j):=by
    rw[<- hi,hlen];unfold insI;refine⟨?_,λh=>?_⟩
    ·split <;> split <;> omega
    ·have:=Wds.mpr h
     split <;> split <;> omega
   refine⟨ps',cs.set (placeAt ts k).toNat (c.1,c.2.take j++(k:Int)::c.2.drop j),.val (.int (0+(k:Int))),.val (.adr c.1),hp',by rw[Wdc];exact hcl,λp c' hc'=>?_,Zso (ps:=ps') (ps':=ps') hc1 ?_⟩
   ·by_cases hpp:p=(placeAt ts k).toNat
    ·subst hpp
     rw[Wau (by omega)]at hc';cases hc';exact hR.put (by omega) hj.1 hj.2
    ·rw[Wa1 (Ne.symm hpp)]at hc'
     exact(hrow p c' hc').stay (by omega)
   ·rw[Wax,List.map_take,Wbe,List.map_drop,Wct]
 -- the end
 rintro Δ1 ⟨ps3,cs3,x3,x4,hp3,hcl3,hrow3,rfl⟩;refine JS.conv (Δ':=.bor (.lst ps3)::.val (encWeb n ts)::.val (.lst (cs3.map λc=>D.lst (c.2.map D.int)))::x3::x4::(Wag cs3.length .any++Wag (25-n.toNat) .any)) (λg G H σ k=>?_) ?_
 ·have:=Ok.thaw (cs:=cs3.map λc=>(c.1,c.2.map D.int)) (R:=[.bor (.lst ps3),.val (encWeb n ts),.val (.lst (cs3.map λc=>D.adr c.1)),x3,x4]) (T:=Wag (25-n.toNat) .any) (i:=2) (g:=g) (G:=G) (H:=H) (σ:=σ) (K:=K) (by rw[Wa3];exact k) (by rw[Wa3];rfl)
  rw[Wa3,Wab]at this;exact this
 refine Za8 (Za3 (Zab (Zch (by decide) (Zfe (Zac rfl ⟨_,Or.inl rfl,?_,λ_=>true,λd=>match d with|.lst ds=>.tup ds|d=>d,λi d hd=>?_,?_⟩)))))
 ·rw[Wab];exact small1000 (by omega)
 ·rw[Wad]at hd
  cases q:cs3[i]? with
  |none=>rw[q]at hd;cases hd
  |some c=>
   rw[q]at hd;have hd:D.lst (c.2.map D.int)=d:=by simpa using hd
   subst hd;exact Zbu ⟨rfl,Za3 (Zab (Zac rfl (Zaf (Zdk (Or.inl rfl) ⟨rfl,_,rfl⟩))))⟩
 ·refine Zaf (Zdk (Or.inl rfl) ⟨ps3,rfl,?_⟩)
  have e:((cs3.map λc=>D.lst (c.2.map D.int)).filter λ_=>true).map (λd=>match d with|.lst ds=>D.tup ds|d=>d)=(cs3.map (·.2)).map encRow:=by
   rw[Wbk.mpr (by simp),Wa3,Wa3];rfl
  rw[e];exact q _ _ hp3 ⟨by rw[Wab];omega,λp r hr=>by
   rw[Wad]at hr;cases z:cs3[p]? with
   |none=>rw[z]at hr;cases hr
   |some c=>rw[z]at hr;cases hr;exact hrow3 p c z⟩
end
def nextIn (r:List Int) (x:Int):Int:=r.getD ((r.idxOf x+1) % r.length) 0
def rowAt (ts:List (Int × Int)) (o:List (List Int)) (e:Nat):List Int:=o.getD (placeAt ts e).toNat []
def partner (e:Nat):Nat:=if e % 2=0 then e+1 else e-1
theorem Za0 {e m:Nat}(h:e<2*m):partner e<2*m:=by unfold partner;split <;> omega
theorem Zh0 {ts:List (Int × Int)}{m:Nat}{p x:Int}:x∈endsBelow ts m p ↔ ∃e:Nat,e<m/\placeAt ts e=p/\(e:Int)=x:=by
 unfold endsBelow;rw[Way];constructor
 ·rintro⟨e,he,rfl⟩
  rw[Wa6,Waw]at he;exact⟨e,he.1,of_decide_eq_true he.2,rfl⟩
 ·rintro⟨e,h1,h2,rfl⟩
  exact⟨e,by rw[Wa6,Waw];exact⟨h1,decide_eq_true h2⟩,rfl⟩
theorem Zfw (ts:List (Int × Int)) (m:Nat) (p:Int):(endsBelow ts m p).Nodup:=by
 unfold endsBelow;refine List.Pairwise.map _ (λa b h=>?_) (List.Pairwise.filter _ Wdl);intro e;exact h (by omega)
theorem RowOk.nodup {ts:List (Int × Int)}{m:Nat}{p:Int}{r:List Int}(h:RowOk ts m p r):r.Nodup:=h.perm.nodup_iff.mpr (Zfw ts m p)
theorem RowOk.mem {ts:List (Int × Int)}{m:Nat}{p x:Int}{r:List Int}(h:RowOk ts m p r):x∈r ↔ ∃e:Nat,e<m/\placeAt ts e=p/\(e:Int)=x:=h.perm.mem_iff.trans Zh0
theorem Zbz {n:Int}{ts:List (Int × Int)}{o:List (List Int)}(hW:WebOk n ts) (hO:OrdOk n ts o) {e:Nat}(he:e<2*ts.length) :
  o[(placeAt ts e).toNat]?=some (rowAt ts o e)/\RowOk ts (2*ts.length) (placeAt ts e) (rowAt ts o e)/\(e:Int)∈rowAt ts o e:=by
 obtain⟨p0,p1⟩:=Zdh hW he;have hl:=hO.len;have hk:(placeAt ts e).toNat<o.length:=by omega
 have q:o[(placeAt ts e).toNat]?=some (rowAt ts o e):=by
  unfold rowAt;rw[Waa hk,Wae,Waa hk];rfl
 have r:=hO.row _ _ q;rw[show ((placeAt ts e).toNat:Int)=placeAt ts e by omega]at r;exact⟨q,r,r.mem.mpr ⟨e,he,rfl,rfl⟩⟩
theorem OrdOk.flat {n:Int}{ts:List (Int × Int)}{o:List (List Int)}(h:OrdOk n ts o):o.flatten.Nodup:=by
 unfold List.Nodup;rw[List.pairwise_flatten];refine⟨λr hr=>?_,?_⟩
 ·obtain⟨p,hp,e⟩:=Wc7.mp hr
  exact(h.row p r (by rw[Waa hp,e])).nodup
 ·rw[Wbs]
  intro i j hi hj hij x hx y hy hxy;subst hxy;obtain⟨e,_,e1,e2⟩:=(h.row i _ (Waa hi)).mem.mp hx;obtain⟨f,_,f1,f2⟩:=(h.row j _ (Waa hj)).mem.mp hy;have:e=f:=by omega
  subst this;omega
theorem Zdw {r:List Int}{x:Int}(h:x∈r):r.idxOf x<r.length/\r[r.idxOf x]?=some x/\∀m,m<r.idxOf x->r[m]?≠some x:=by
 have hl:=List.idxOf_lt_length_of_mem h;refine⟨hl,?_,λm hm e=>?_⟩
 ·rw[Waa hl,List.getElem_idxOf hl]
 ·obtain⟨h1,h2⟩:=Waf.mp e
  have:=List.not_of_lt_findIdx (p:=(· == x)) (xs:=r) hm;rw[h2]at this;simp at this
def encPair (y:Int × Int):Key × D:=(.inl y.1,.int y.2)
theorem Zts {l:List (Int × Int)}{x y:Int}(h:x ∉ l.map (·.1)):putD (l.map encPair) (.inl x) (.int y)=(l++[(x,y)]).map encPair:=by
 unfold putD;rw[if_neg,Wax]
 ·rfl
 ·rw[List.any_map,List.any_eq_true]
  rintro⟨z,hz,e⟩;have e:(Sum.inl z.1:Key)=Sum.inl x:=of_decide_eq_true e;injection e with e
  exact h (Way.mpr ⟨z,hz,e⟩)
theorem Zw1 {l:List (Int × Int)}(nd:(l.map (·.1)).Nodup) {x y:Int}(h:(x,y)∈l):valD (l.map encPair) (.inl x)=some (.int y):=by
 induction l with
 |nil=>cases h
 |cons z r ih=>
  rw[Wbe,Wbr]at nd;rw[Wbe];unfold valD;rcases Wal.mp h with e|h
  ·subst e
   rw[Wdf (by simp[encPair])];rfl
  ·have hne:z.1≠x:=λe=>nd.1 (by rw[e];exact Way.mpr ⟨_,h,rfl⟩)
   rw[Wch (by simp[encPair];exact λe=>hne e)];exact ih nd.2 h
theorem Zu0 (k:Nat):k ||| 1=2*(k / 2)+1:=by
 apply Nat.eq_of_testBit_eq;intro i;rw[Nat.testBit_or];cases i with
 |zero=>rw[Nat.testBit_zero,Nat.testBit_zero,Nat.testBit_zero];simp
 |succ i=>
  rw[Nat.testBit_succ,Nat.testBit_succ,Nat.testBit_succ,show (2*(k / 2)+1) / 2=k / 2 by omega];simp
theorem Zjn (k:Nat):Builtin.bitXor (k:Int) 1=(partner k:Int):=by
 have e1:Builtin.bitAnd (k:Int) 1=((k % 2:Nat):Int):=by
  unfold Builtin.bitAnd;rw[decide_eq_true (show (0:Int)<=(k:Int) by omega),decide_eq_true (show (0:Int)<=1 by decide)];show ((((k:Int).toNat &&& (1:Int).toNat:Nat)):Int)=_;rw[Wap,show (1:Int).toNat=1 from rfl,Nat.and_one_is_mod]
 have e2:Builtin.bitOr (k:Int) 1=((2*(k / 2)+1:Nat):Int):=by
  unfold Builtin.bitOr Builtin.bitAnd;rw[decide_eq_false (show ¬ (0:Int)<=Builtin.bitNot (k:Int) by unfold Builtin.bitNot;omega),decide_eq_false (show ¬ (0:Int)<=Builtin.bitNot 1 by decide)];show Builtin.bitNot (Builtin.bitNot (((Builtin.bitNot (Builtin.bitNot (k:Int))).toNat ||| (Builtin.bitNot (Builtin.bitNot 1)).toNat:Nat):Int))=_;have n1:∀x:Int,Builtin.bitNot (Builtin.bitNot x)=x:=λx=>by unfold Builtin.bitNot;omega
  rw[n1,n1,n1,Wap,show (1:Int).toNat=1 from rfl,Zu0]
 unfold Builtin.bitXor;rw[e1,e2];unfold partner;split <;> omega
theorem Zbw {α:Type}[DecidableEq α]:∀{l m:List α},l.Nodup->(∀x∈l,x∈m)->l.length<=m.length
 |[],_,_,_=>Wbl _
 |x::l,m,nd,h=>by
  rw[Wbr]at nd;have hx:=h x Wa4;have:=Zbw (l:=l) (m:=m.erase x) nd.2 λy hy=>by
   have hne:y≠x:=λe=>nd.1 (e ▸ hy);exact(Wdo hne).mpr (h y (Was _ hy))
  rw[Wdb hx]at this;have hpos:0<m.length:=Wcg hx;rw[Waj];omega
theorem OrdOk.flat_len {n:Int}{ts:List (Int × Int)}{o:List (List Int)}(h:OrdOk n ts o):o.flatten.length<=2*ts.length:=by
 have:=Zbw (m:=(Wai (2*ts.length)).map λe:Nat=>(e:Int)) h.flat λx hx=>by
  obtain⟨r,hr,hx⟩:=List.mem_flatten.mp hx;obtain⟨p,hp,e⟩:=Wc7.mp hr;obtain⟨k,hk,_,rfl⟩:=(h.row p r (by rw[Waa hp,e])).mem.mp hx;exact Way.mpr ⟨k,Waw.mpr hk,rfl⟩
 rw[Wab,Wa7]at this;exact this
theorem Zio (ts:List (Int × Int)) (m:Nat) (p:Int):(endsBelow ts m p).Pairwise (· < ·):=by
 unfold endsBelow;refine List.Pairwise.map _ (λa b h=>?_) (List.Pairwise.filter _ Wb2);omega
theorem RowOk.least {ts:List (Int × Int)}{m:Nat}{p x:Int}{r:List Int}(h:RowOk ts m p (x::r)):∀a∈r,x<=a:=by
 intro a ha;have h1:=h.first;have h2:=Zio ts m p;have h3:a∈endsBelow ts m p:=h.perm.mem_iff.mp (Was _ ha);cases q:endsBelow ts m p with
 |nil=>rw[q]at h1;cases h1
 |cons y l=>
  rw[q]at h1 h2 h3;have e:x=y:=Wbh.inj h1;subst e;rcases Wal.mp h3 with z|z
  ·omega
  ·have:=(Wee.mp h2).1 a z;omega
def rotAt (l:List Int) (j:Nat):List Int:=l.drop j++l.take j
theorem Zhz:∀(l:List Int),l≠[]->∃m,m∈l/\∀a∈l,m<=a
 |[],h=>absurd rfl h
 |[x],_=>⟨x,Wa4,λa ha=>by rw[Wbc.mp ha];exact Wdw _⟩
 |x::y::l,_=>by
  obtain⟨m,h1,h2⟩:=Zhz (y::l) (by simp);by_cases h:x<=m
  ·refine⟨x,Wa4,λa ha=>?_⟩
   rcases Wal.mp ha with z|z
   ·omega
   ·have:=h2 a z;omega
  ·refine⟨m,Was _ h1,λa ha=>?_⟩
   rcases Wal.mp ha with z|z
   ·omega
   ·exact h2 a z
theorem Zpd {l:List Int}(nd:l.Nodup) {j:Nat}{x:Int}(h:l[j]?=some x):l.idxOf x=j:=by
 obtain⟨h1,h2⟩:=Waf.mp h;obtain⟨i1,i2,_⟩:=Zdw (r:=l) (x:=x) (by rw[<- h2];exact Wa5 h1);obtain⟨i3,i4⟩:=Waf.mp i2;exact(Wdn nd).mp (i4.trans h2.symm)
def nxI (n k:Nat):Nat:=if k+1=n then 0 else k+1
def pvI (n k:Nat):Nat:=if k=0 then n-1 else k-1
theorem Ztv {n k:Nat}(h:k<n):(k+1) % n=nxI n k:=by
 unfold nxI;split
 ·rename_i e;rw[e,Nat.mod_self]
 ·rw[Nat.mod_eq_of_lt (by omega)]
def prevIn (r:List Int) (x:Int):Int:=r.getD (pvI r.length (r.idxOf x)) 0
theorem Zem {r:List Int}(nd:r.Nodup) {k:Nat}{x:Int}(h:r[k]?=some x):nextIn r x=r.getD (nxI r.length k) 0:=by
 unfold nextIn;rw[Zpd nd h,Ztv (Waf.mp h).1]
theorem Zog {r:List Int}(nd:r.Nodup) {k:Nat}{x:Int}(h:r[k]?=some x):prevIn r x=r.getD (pvI r.length k) 0:=by
 unfold prevIn;rw[Zpd nd h]
theorem Zs1 {r:List Int}{k:Nat}(hk:k<r.length):atI (r.map D.int) ((k:Int)-1)=some (.int (r.getD (pvI r.length k) 0)):=by
 unfold pvI;by_cases h0:k=0
 ·subst h0
  rw[if_pos rfl];obtain⟨r',y,rfl⟩:∃r' y,r=r'++[y]:=⟨r.dropLast,r.getLast (by intro z;subst z;simp at hk),(List.dropLast_concat_getLast _).symm⟩;show atI ((r'++[y]).map D.int) (-1)=_;rw[Wax,Weg,Zq6];simp
 ·rw[if_neg h0,show (k:Int)-1=((k-1:Nat):Int) by omega]
  exact Zb0 (by rw[Wad,Wae,Waa (by omega:k-1<r.length)];rfl)
theorem Zr2 (ds:List D) {j:Nat}(h:j<=ds.length):cutD ds (some (j:Int)) none=ds.drop j:=by
 unfold cutD;rw[HT.sIx_nat,HT.sIx_none,Wdv h,Wcz (by rw[Wbz];exact Wah _)]
theorem Zv8 (ds:List D) {j:Nat}(h:j<=ds.length):cutD ds none (some (j:Int))=ds.take j:=by
 unfold cutD;rw[HT.sIx_nat,HT.sIx_none,Wdv h,List.drop_zero,Wd6]
section
variable {P:Program}{w:World}{K:W.Frag}{mg:Str->Option Value}{base:Heap}{f:Addr}{fd:FuncData}
def fPlace:DSp:=λds Post=>∃n ts,∃e:Nat,ds=[encWeb n ts,.int e]/\e<2*ts.length/\Post (.int (placeAt ts e))
def folOf (ts:List (Int × Int)) (o:List (List Int)) (e:Nat):Int:=nextIn (rowAt ts o e) e
def fFol:DSp:=λds Post=>∃n ts o,∃e:Nat,ds=[encWeb n ts,encOrd o,.int e]/\WebOk n ts/\OrdOk n ts o/\e<2*ts.length/\Post (.int (folOf ts o e))
def fOnw:DSp:=λds Post=>∃n ts o,∃e:Nat,ds=[encWeb n ts,encOrd o,.int e]/\WebOk n ts/\OrdOk n ts o/\e<2*ts.length/\Post (.int (folOf ts o (partner e)))
def fPart:DSp:=λds Post=>∃e:Nat,ds=[.int e]/\Post (.int (partner e))
theorem Zqc (mb:Mb mg) (F:Fun K "place_of" "place_of" s_place_of f fd):FnOk P w K mg base CX0 1 f fd ["web","end"] (spD K fPlace):=by
 refine F.ok sc_place_of (Zbi λds Post h=>by obtain⟨_,_,_,rfl,_⟩:=h;rfl) (λcdv A outer s H vs Q E hr h=>?_);have hu:=Zby hr;refine⟨_,(Zah (Zax (Za1 (ixK K hu) (Za1 (ixK K hu) (Za1 (ixK K hu) (pv 0) Zag (λ_ _=>rfl)) (Zaq Zfb (pv 1) Zag) (λ_ _=>rfl)) (Zaq Zcc (pv 1) Zag) (λ_ _=>rfl)))),Zdl (λds Post hf=>?_) h⟩;obtain⟨n,ts,e,rfl,he,q⟩:=hf;refine⟨by simp,?_⟩;dsimp only[startD,Wbo,Wbm,Wba];obtain⟨t,h1,h2,h3⟩:=Zsi he;rw[Wct]at h2 h3;refine Za8 (Zam (Zam (Zam (Zac rfl (Zak (Zaz (d:=.tup (ts.map encTie)) rfl ?_))))));refine Zam (Zac rfl (Zak (jr_I ⟨by omega,by omega⟩ (Zaz h2 ?_))));exact Zam (Zac rfl (Zak (jr_I (by show (0:Int)<2;omega) (Zaz h3 q))))
theorem Zju (mb:Mb mg) (C57:Callee P w K mg base 1 "place_of" ["web","end"] (spD K fPlace)) (F:Fun K "follower" "follower" s_follower f fd):FnOk P w K mg base CX0 2 f fd ["web","order","end"] (spD K fFol):=by
 refine F.ok sc_follower (Zbi λds Post h=>by obtain⟨_,_,_,_,rfl,_⟩:=h;rfl) (λcdv A outer s H vs Q E hr h=>?_);have hu:=Zby hr;refine⟨_,(Zae (Zan (i:=3) sc_follower.nd rfl (Or.inl rfl) (Za1 (ixK K hu) (pv 1) (Zay C57 (hr.mono (by decide)) (Zaa (pv 0) (Zaa (pv 2) Zad))) (λ_ _=>rfl))) (Zah (Zax (Za1 (ixK K hu) (pv 3) (Zaq Zcc (Zaq (addK K) (bmK K PySem.F.plainAttrs_tuple PySem.F.slot_tuple_index PySem.F.type_tuple_index (idxK K) (pv 3) (Zaa (pv 2) Zad)) Zag) (Zai (lenK K) rfl (mb "len" (by decide)) Zbl (Zaa (pv 3) Zad))) (λ_ _=>rfl))))),Zdl (λds Post hf=>?_) h⟩;obtain⟨n,ts,o,e,rfl,hW,hO,he,q⟩:=hf;refine⟨by simp,?_⟩;dsimp only[startD,Wbo,Wbm,Wba];obtain⟨g1,g2,g3⟩:=Zbz hW hO he;obtain⟨p0,p1⟩:=Zdh hW he;obtain⟨i1,i2,i3⟩:=Zdw g3;have hat:atI (o.map encRow) (placeAt ts e)=some (encRow (rowAt ts o e)):=by
  have ep:placeAt ts e=(((placeAt ts e).toNat:Nat):Int):=by omega
  rw[ep];exact Zb0 (by rw[Wad,g1];rfl)
 refine Zaj (Zav (Zam (Zac rfl (Zar (Zab (Zac rfl (Zab (Zac rfl (Zaf ⟨n,ts,e,rfl,he,Zaz hat ?_⟩)))))))));refine Za8 (Zam (Zac rfl (Zam (Zam (Zia (Zac rfl ⟨rowAt ts o e,rfl,Zac rfl ⟨e,(rowAt ts o e).idxOf (e:Int),rfl,i2,i3,?_⟩⟩))))));refine Zak (Zcf ?_);refine Za3 (Zab (Zac rfl (Zaf (Zba (Or.inr rfl) ?_))));rw[Wab];refine jr_I (by show (0:Int)<_;omega) ?_;have e1:(((rowAt ts o e).idxOf (e:Int):Int)+1) % ((rowAt ts o e).length:Int)=((((rowAt ts o e).idxOf (e:Int)+1) % (rowAt ts o e).length:Nat):Int):=by push_cast;rfl
 rw[e1];have hm:((rowAt ts o e).idxOf (e:Int)+1) % (rowAt ts o e).length<(rowAt ts o e).length:=Wd0 _ (by omega);refine Zaz (d:=.int (folOf ts o e)) (Zb0 ?_) q;rw[Wad,Waa hm];unfold folOf nextIn;rw[Wae,Waa hm];rfl
theorem Zo6 (mb:Mb mg) (C48:Callee P w K mg base 2 "follower" ["web","order","end"] (spD K fFol)) (F:Fun K "onward" "onward" s_onward f fd):FnOk P w K mg base CX0 3 f fd ["web","order","end"] (spD K fOnw):=by
 refine F.ok sc_onward (Zbi λds Post h=>by obtain⟨_,_,_,_,rfl,_⟩:=h;rfl) (λcdv A outer s H vs Q E hr h=>?_);have hu:=Zby hr;refine⟨_,(Zah (Zax (Zay C48 (hr.mono (by decide)) (Zaa (pv 0) (Zaa (pv 1) (Zaa (Zaq Zpm (pv 2) Zag) Zad)))))),Zdl (λds Post hf=>?_) h⟩;obtain⟨n,ts,o,e,rfl,hW,hO,he,q⟩:=hf;refine⟨by simp,?_⟩;dsimp only[startD,Wbo,Wbm,Wba];refine Za8 (Zar (Zab (Zac rfl (Zab (Zac rfl (Zab (Zam (Zac rfl (Zak (Zfj ?_))))))))));rw[Zjn];exact Zaf ⟨n,ts,o,partner e,rfl,hW,hO,Za0 he,q⟩
theorem Zmo (mb:Mb mg) (F:Fun K "_law_partner" "_law_partner" s_law_partner f fd):FnOk P w K mg base CX0 1 f fd ["_law_end"] (spD K fPart):=by
 refine F.ok sc_law_partner (Zbi λds Post h=>by obtain⟨_,rfl,_⟩:=h;rfl) (λcdv A outer s H vs Q E hr h=>?_);have hu:=Zby hr;refine⟨_,(Zah (Zax (Zaq Zeg (Zaq (addK K) (pv 0) Zag) (Zaq Zcx Zag (Zaq Zcc (pv 0) Zag))))),Zdl (λds Post hf=>?_) h⟩;obtain⟨e,rfl,q⟩:=hf;refine⟨by simp,?_⟩;dsimp only[startD,Wbo,Wbm,Wba]
 repeat walk_at "js"
 have e1:(e:Int)+1-2*((e:Int) % 2)=(partner e:Int):=by unfold partner;split <;> omega
 rw[e1];exact q
def fFore:DSp:=λds Post=>∃n ts o,∃e:Nat,ds=[encWeb n ts,encOrd o,.int e]/\WebOk n ts/\OrdOk n ts o/\e<2*ts.length/\Post (.int (prevIn (rowAt ts o e) e))
theorem Zhy (mb:Mb mg) (C57:Callee P w K mg base 1 "place_of" ["web","end"] (spD K fPlace)) (F:Fun K "forerunner" "forerunner" s_forerunner f fd):FnOk P w K mg base CX0 2 f fd ["web","order","end"] (spD K fFore):=by
 refine F.ok sc_forerunner (Zbi λds Post h=>by obtain⟨_,_,_,_,rfl,_⟩:=h;rfl) (λcdv A outer s H vs Q E hr h=>?_);have hu:=Zby hr;refine⟨_,(Zae (Zan (i:=3) sc_forerunner.nd rfl (Or.inl rfl) (Za1 (ixK K hu) (pv 1) (Zay C57 (hr.mono (by decide)) (Zaa (pv 0) (Zaa (pv 2) Zad))) (λ_ _=>rfl))) (Zah (Zax (Za1 (ixK K hu) (pv 3) (Zaq Zeg (bmK K PySem.F.plainAttrs_tuple PySem.F.slot_tuple_index PySem.F.type_tuple_index (idxK K) (pv 3) (Zaa (pv 2) Zad)) Zag) (λ_ _=>rfl))))),Zdl (λds Post hf=>?_) h⟩;obtain⟨n,ts,o,e,rfl,hW,hO,he,q⟩:=hf;refine⟨by simp,?_⟩;dsimp only[startD,Wbo,Wbm,Wba];obtain⟨g1,g2,g3⟩:=Zbz hW hO he;obtain⟨p0,p1⟩:=Zdh hW he;obtain⟨i1,i2,i3⟩:=Zdw g3;have hat:atI (o.map encRow) (placeAt ts e)=some (encRow (rowAt ts o e)):=by
  have ep:placeAt ts e=(((placeAt ts e).toNat:Nat):Int):=by omega
  rw[ep];exact Zb0 (by rw[Wad,g1];rfl)
 refine Zaj (Zav (Zam (Zac rfl (Zar (Zab (Zac rfl (Zab (Zac rfl (Zaf ⟨n,ts,e,rfl,he,Zaz hat ?_⟩)))))))));refine Za8 (Zam (Zac rfl (Zam (Zia (Zac rfl ⟨rowAt ts o e,rfl,Zac rfl ⟨e,(rowAt ts o e).idxOf (e:Int),rfl,i2,i3,?_⟩⟩)))));exact Zak (Zfj (Zaz (Zs1 i1) q))
end
def iter (f:Int->Int) (e:Int):Nat->Int
 |0=>e
 |n+1=>f (iter f e n)
def walkL (f:Int->Int) (e:Int) (n:Nat):List Int:=(Wai n).map (iter f e)
structure OneOne (f:Int->Int) (m:Nat):Prop where
 to:∀x,0<=x->x<(m:Int)->0<=f x/\f x<(m:Int)
 inj:∀x y,0<=x->x<(m:Int)->0<=y->y<(m:Int)->f x=f y->x=y
def NdTo (f:Int->Int) (e:Int) (n:Nat):Prop:=∀i j,i<n->j<n->iter f e i=iter f e j->i=j
structure IsOrb (f:Int->Int) (e:Int) (n:Nat):Prop where
 pos:0<n
 back:iter f e n=e
 nd:NdTo f e n
theorem Zcb (f:Int->Int) (e:Int) (j n:Nat):iter f (iter f e j) n=iter f e (j+n):=by
 induction n with
 |zero=>rfl
 |succ n ih=>show f (iter f (iter f e j) n)=f (iter f e (j+n));rw[ih]
theorem Zbg (f:Int->Int) (e:Int) (n:Nat):(walkL f e n).length=n:=by unfold walkL;rw[Wab,Wa7]
theorem Zek (f:Int->Int) (e:Int) (a b:Nat):walkL f e (a+b)=walkL f e a++walkL f (iter f e a) b:=by
 unfold walkL;rw[List.range_add,Wax,Wa3];congr 1;apply Wbw;intro i _;exact(Zcb f e a i).symm
theorem Zez (f:Int->Int) (e:Int) (n:Nat):walkL f e (n+1)=walkL f e n++[iter f e n]:=by rw[Zek];rfl
theorem Zaw {f:Int->Int}{e x:Int}{n:Nat}:x∈walkL f e n ↔ ∃i,i<n/\iter f e i=x:=by
 unfold walkL;rw[Way];constructor
 ·rintro⟨i,h,rfl⟩;exact⟨i,Waw.mp h,rfl⟩
 ·rintro⟨i,h,rfl⟩;exact⟨i,Waw.mpr h,rfl⟩
theorem Zpo {f:Int->Int}{e:Int}{n i:Nat}(h:i<n):(walkL f e n)[i]?=some (iter f e i):=by
 unfold walkL;rw[Wad,Wc9 h];rfl
theorem IsOrb.uniq {f:Int->Int}{e:Int}{n k:Nat}(h:IsOrb f e n) (h':IsOrb f e k):n=k:=by
 rcases Wd1 n k with z|z|z
 ·have:=h'.nd n 0 z h'.pos (by rw[h.back];rfl)
  have:=h.pos;omega
 ·exact z
 ·have:=h.nd k 0 z h.pos (by rw[h'.back];rfl)
  have:=h'.pos;omega
noncomputable def per (f:Int->Int) (e:Int):Nat:=Classical.epsilon (IsOrb f e)
noncomputable def orb (f:Int->Int) (e:Int):List Int:=walkL f e (per f e)
theorem IsOrb.per {f:Int->Int}{e:Int}{n:Nat}(h:IsOrb f e n):Lw.per f e=n:=(Classical.epsilon_spec (p:=IsOrb f e) ⟨n,h⟩).uniq h
theorem IsOrb.orb {f:Int->Int}{e:Int}{n:Nat}(h:IsOrb f e n):Lw.orb f e=walkL f e n:=by unfold Lw.orb;rw[h.per]
section
variable {f:Int->Int}{m:Nat}(F:OneOne f m) {e:Int}(h0:0<=e) (h1:e<(m:Int))
include F h0 h1
theorem Zbe (n:Nat):0<=iter f e n/\iter f e n<(m:Int):=by
 induction n with
 |zero=>exact⟨h0,h1⟩
 |succ n ih=>exact F.to _ ih.1 ih.2
theorem Zfy {n:Nat}(hn:1<=n) (nd:NdTo f e n) (hne:iter f e n≠e):NdTo f e (n+1):=by
 have key:∀j,j<n->iter f e n≠iter f e j:=by
  intro j hj q;cases j with
  |zero=>exact hne q
  |succ j=>
   obtain⟨k,rfl⟩:∃k,n=k+1:=⟨n-1,by omega⟩;have a:=Zbe F h0 h1 k;have b:=Zbe F h0 h1 j;have:=nd k j (by omega) (by omega) (F.inj _ _ a.1 a.2 b.1 b.2 q);omega
 intro i j hi hj q;by_cases hin:i=n
 ·by_cases hjn:j=n
  ·omega
  ·subst hin;exact absurd q (key j (by omega))
 ·by_cases hjn:j=n
  ·subst hjn;exact absurd q.symm (key i (by omega))
  ·exact nd i j (by omega) (by omega) q
theorem Zge {n:Nat}(nd:NdTo f e n):n<=m:=by
 have hn:(walkL f e n).Nodup:=by
  unfold walkL List.Nodup;rw[Wcr,Wbs];intro i j hi hj hij;rw[Wa7]at hi hj;rw[Wcm,Wcm];intro q;have:=nd i j hi hj q;omega
 have:=Zbw (m:=(Wai m).map λe:Nat=>(e:Int)) hn λx hx=>by
  obtain⟨i,hi,rfl⟩:=Zaw.mp hx;have:=Zbe F h0 h1 i;exact Way.mpr ⟨(iter f e i).toNat,Waw.mpr (by omega),by omega⟩
 rw[Zbg,Wab,Wa7]at this;exact this
theorem Zlo:NdTo f e 1:=λi j hi hj _=>by omega
theorem Zwm:∃n,IsOrb f e n:=by
 apply Classical.byContradiction;intro hn;have all:∀n,NdTo f e (n+1):=by
  intro n
  induction n with
  |zero=>exact Zlo F h0 h1
  |succ n ih=>
   refine Zfy F h0 h1 (by omega) ih λq=>hn ⟨n+1,by omega,q,ih⟩
 have:=Zge F h0 h1 (all m);omega
theorem Zc2:IsOrb f e (per f e):=by
 obtain⟨n,h⟩:=Zwm F h0 h1;rw[h.per];exact h
theorem Zcw:e∈orb f e:=Zaw.mpr ⟨0,(Zc2 F h0 h1).pos,rfl⟩
theorem Zht:(orb f e).length<=m:=by
 unfold orb;rw[Zbg];exact Zge F h0 h1 (Zc2 F h0 h1).nd
theorem Za6 (k:Nat):iter f e k∈orb f e:=by
 have O:=Zc2 F h0 h1
 induction k with
 |zero=>exact Zcw F h0 h1
 |succ k ih=>
  obtain⟨i,hi,q⟩:=Zaw.mp ih;show f (iter f e k)∈_;rw[<- q];by_cases hl:i+1=per f e
  ·have:f (iter f e i)=e:=by
    have:=O.back;rw[<- hl]at this;exact this
   rw[this];exact Zcw F h0 h1
  ·exact Zaw.mpr ⟨i+1,by omega,rfl⟩
theorem Zev {x:Int}(hx:x∈orb f e):0<=x/\x<(m:Int):=by
 obtain⟨i,_,rfl⟩:=Zaw.mp hx;exact Zbe F h0 h1 i
theorem Zq1 {x y:Int}(a0:0<=x) (a1:x<(m:Int)) (b0:0<=y) (b1:y<(m:Int)) (j:Nat) (q:iter f x j=iter f y j):x=y:=by
 induction j with
 |zero=>exact q
 |succ j ih=>
  have a:=Zbe F a0 a1 j;have b:=Zbe F b0 b1 j;exact ih (F.inj _ _ a.1 a.2 b.1 b.2 q)
theorem Ztu (j:Nat):IsOrb f (iter f e j) (per f e):=by
 have O:=Zc2 F h0 h1;refine⟨O.pos,?_,λi k hi hk q=>?_⟩
 ·rw[Zcb,Nat.add_comm,<- Zcb,O.back]
 ·rw[Zcb,Zcb,Nat.add_comm j i,Nat.add_comm j k,<- Zcb,<- Zcb]at q
  have a:=Zbe F h0 h1 i;have b:=Zbe F h0 h1 k;exact O.nd i k hi hk (Zq1 F h0 h1 a.1 a.2 b.1 b.2 j q)
theorem Zca {x:Int}(hx:x∈orb f e):e∈orb f x:=by
 have O:=Zc2 F h0 h1;obtain⟨j,hj,rfl⟩:=Zaw.mp hx;have a:=Zbe F h0 h1 j;have:=Za6 F a.1 a.2 (per f e-j);rw[Zcb,show j+(per f e-j)=per f e by omega,O.back]at this;exact this
theorem Zbq {x y:Int}(hx:x∈orb f e) (hy:y∈orb f x):y∈orb f e:=by
 obtain⟨j,_,rfl⟩:=Zaw.mp hx;obtain⟨i,_,rfl⟩:=Zaw.mp hy;rw[Zcb];exact Za6 F h0 h1 _
theorem Zs5 {j:Nat}(hj:j<per f e):rotAt (orb f e) j=orb f (iter f e j):=by
 have O:=Zc2 F h0 h1;rw[(Ztu F h0 h1 j).orb];unfold orb rotAt;have e1:walkL f e (per f e)=walkL f e j++walkL f (iter f e j) (per f e-j):=by rw[<- Zek,show j+(per f e-j)=per f e by omega]
 have e2:walkL f (iter f e j) (per f e)=walkL f (iter f e j) (per f e-j)++walkL f e j:=by
  conv=>lhs;rw[show per f e=(per f e-j)+j by omega]
  rw[Zek,Zcb,show j+(per f e-j)=per f e by omega,O.back]
 rw[e2,e1,List.drop_left' (Zbg ..),List.take_left' (Zbg ..)]
theorem Zn4:(orb f e).Nodup:=by
 have O:=Zc2 F h0 h1;unfold orb walkL List.Nodup;rw[Wcr,Wbs];intro i j hi hj hij;rw[Wa7]at hi hj;rw[Wcm,Wcm];intro q;have:=O.nd i j hi hj q;omega
theorem Zij:∃l,orb f e=e::l:=by
 have O:=Zc2 F h0 h1;unfold orb;obtain⟨n,hn⟩:∃n,per f e=1+n:=⟨per f e-1,by have:=O.pos;omega⟩;rw[hn,Zek];exact⟨_,rfl⟩
end
open Classical in
noncomputable def leastB (f:Int->Int) (e:Nat):Bool:=decide (∀x∈orb f (e:Int),(e:Int)<=x)
noncomputable def facesTo (f:Int->Int) (k:Nat):List (List Int):=((Wai k).filter (leastB f)).map λe:Nat=>orb f (e:Int)
theorem Zce (f:Int->Int) (k:Nat):facesTo f (k+1)=facesTo f k++(if leastB f k=true then [orb f (k:Int)] else []):=by
 unfold facesTo;rw[List.range_succ,Wb1,Wax];congr 1;by_cases h:leastB f k=true
 ·rw[if_pos h];simp[Wbi,h]
 ·rw[if_neg h];simp[Wbi,h]
theorem Zea (f:Int->Int) (k:Nat):(facesTo f k).length<=k:=by
 unfold facesTo;rw[Wab];exact Wbx (Wc3 _ _) (by rw[Wa7];exact Wah _)
def MetTo (f:Int->Int) (k:Nat) (x:Int):Prop:=∃e:Nat,e<k/\x∈orb f (e:Int)
section
variable {f:Int->Int}{m:Nat}(F:OneOne f m)
include F
theorem Zcl {k:Nat}(hk:k<m):MetTo f k (k:Int)↔leastB f k=false:=by
 unfold leastB;rw[decide_eq_false_iff_not];constructor
 ·rintro⟨e,he,hx⟩ h
  have:=h _ (Zca F (by omega) (by omega) hx);omega
 ·intro h
  apply Classical.byContradiction;intro hn;refine h λx hx=>?_;have r:=Zev F (by omega) (by omega) hx;apply Classical.byContradiction;intro hlt;refine hn ⟨x.toNat,by omega,?_⟩;rw[show ((x.toNat:Nat):Int)=x by omega];exact Zca F (by omega) (by omega) hx
theorem Zfo {k:Nat}(hk:k<m) {x:Int}:MetTo f (k+1) x↔MetTo f k x\/(leastB f k=true/\x∈orb f (k:Int)):=by
 constructor
 ·rintro⟨e,he,hx⟩
  by_cases hek:e=k
  ·subst hek
   by_cases hl:leastB f e=true
   ·exact .inr ⟨hl,hx⟩
   ·obtain⟨e',he',hx'⟩:=(Zcl F hk).mpr (Wbt.mpr hl)
    exact .inl ⟨e',he',Zbq F (by omega) (by omega) hx' hx⟩
  ·exact .inl ⟨e,by omega,hx⟩
 ·rintro(⟨e,he,hx⟩|⟨_,hx⟩)
  ·exact⟨e,by omega,hx⟩
  ·exact⟨k,by omega,hx⟩
theorem Zkl {k:Nat}(hk:k<=m) {x:Int}(h0:0<=x) (h1:x<(m:Int)) (j:Nat):MetTo f k (iter f x j)↔MetTo f k x:=by
 have hj:=Zbe F h0 h1 j;constructor
 ·rintro⟨e,he,hx⟩
  exact⟨e,he,Zbq F (by omega) (by omega) hx (Zca F h0 h1 (Za6 F h0 h1 j))⟩
 ·rintro⟨e,he,hx⟩
  exact⟨e,he,Zbq F (by omega) (by omega) hx (Za6 F h0 h1 j)⟩
theorem Znp {x:Int}(h0:0<=x) (h1:x<(m:Int)):∃e:Nat,e<m/\leastB f e=true/\(e:Int)∈orb f x/\∀r∈facesTo f m,x∈r↔r=orb f (e:Int):=by
 obtain⟨y,hy,hle⟩:=Zhz (orb f x) (by obtain⟨l,e⟩:=Zij F h0 h1;rw[e];simp);have r:=Zev F h0 h1 hy;have ey:((y.toNat:Nat):Int)=y:=by omega
 have hl:leastB f y.toNat=true:=by
  unfold leastB;rw[decide_eq_true_iff,ey];exact λz hz=>hle z (Zbq F h0 h1 hy hz)
 refine⟨y.toNat,by omega,hl,by rw[ey];exact hy,λq hq=>?_⟩;unfold facesTo at hq;obtain⟨e,he,rfl⟩:=Way.mp hq;rw[Wa6,Waw]at he;rw[ey];constructor
 ·intro hx
  have h2:y∈orb f (e:Int):=Zbq F (by omega) (by omega) hx hy;have h3:(e:Int)∈orb f x:=Zca F (by omega) (by omega) hx;have a:=hle _ h3;have b:(e:Int)<=y:=by
   have:=he.2;unfold leastB at this;exact of_decide_eq_true this y h2
  rw[show (e:Int)=y by omega]
 ·intro q
  rw[q];exact Zca F h0 h1 hy
end
theorem Zqu {r:List Int}{x:Int}(h:x∈r):nextIn r x∈r:=by
 obtain⟨h1,_,_⟩:=Zdw h;have hm:(r.idxOf x+1) % r.length<r.length:=Wd0 _ (by omega);unfold nextIn;rw[Wae,Waa hm];exact Wa5 hm
theorem Zrl {r:List Int}(nd:r.Nodup) {x y:Int}(hx:x∈r) (hy:y∈r) (h:nextIn r x=nextIn r y):x=y:=by
 obtain⟨i,hi⟩:=Wbv.mp hx;obtain⟨j,hj⟩:=Wbv.mp hy;obtain⟨i1,i2⟩:=Waf.mp hi;obtain⟨j1,j2⟩:=Waf.mp hj;rw[Zem nd hi,Zem nd hj,Wae,Wae]at h;have a:nxI r.length i<r.length:=by unfold nxI;split <;> omega
 have b:nxI r.length j<r.length:=by unfold nxI;split <;> omega
 rw[Waa a,Waa b]at h;have e:=(Wdn nd).mp (show r[nxI r.length i]=r[nxI r.length j] from h);have:i=j:=by unfold nxI at e;split at e <;> split at e <;> omega
 subst this;rw[hi]at hj;exact Wbh.inj hj
theorem Zao (e:Nat):partner (partner e)=e:=by unfold partner;split <;> split <;> omega
def onI (ts:List (Int × Int)) (o:List (List Int)) (x:Int):Int:=folOf ts o (partner x.toNat)
theorem Zeb {n:Int}{ts:List (Int × Int)}{o:List (List Int)}(hW:WebOk n ts) (hO:OrdOk n ts o) {e:Nat}(he:e<2*ts.length):∃g:Nat,g<2*ts.length/\placeAt ts g=placeAt ts e/\(g:Int)=folOf ts o e:=by
 obtain⟨g1,g2,g3⟩:=Zbz hW hO he;exact g2.mem.mp (Zqu g3)
theorem Zd5 {n:Int}{ts:List (Int × Int)}{o:List (List Int)}(hW:WebOk n ts) (hO:OrdOk n ts o):OneOne (onI ts o) (2*ts.length):=by
 refine⟨λx h0 h1=>?_,λx y h0 h1 h2 h3 q=>?_⟩
 ·obtain⟨g,hg,_,e⟩:=Zeb hW hO (Za0 (show x.toNat<2*ts.length by omega))
  unfold onI;rw[<- e];omega
 ·have hx:=Za0 (show x.toNat<2*ts.length by omega)
  have hy:=Za0 (show y.toNat<2*ts.length by omega);obtain⟨g,hg,pg,eg⟩:=Zeb hW hO hx;obtain⟨k,hk,pk,ek⟩:=Zeb hW hO hy;unfold onI at q;have egk:g=k:=by omega
  subst egk;have hp:placeAt ts (partner x.toNat)=placeAt ts (partner y.toNat):=pg.symm.trans pk;obtain⟨_,r2,r3⟩:=Zbz hW hO hx;obtain⟨_,_,r6⟩:=Zbz hW hO hy;have er:rowAt ts o (partner y.toNat)=rowAt ts o (partner x.toNat):=by unfold rowAt;rw[hp]
  unfold folOf at q;rw[er]at q r6;have:=Zrl r2.nodup r3 r6 q;have e1:partner x.toNat=partner y.toNat:=by omega
  have e2:=congrArg partner e1;rw[Zao,Zao]at e2;omega
def lone (o:List (List Int)):Nat:=(o.filter λr=>r.isEmpty).length
theorem Zf1 (o:List (List Int)):lone o<=o.length:=Wc3 _ _
theorem Zf2 (o:List (List Int)) (p:D->Bool) (hp:∀r:List Int,p (rowD r)=r.isEmpty) (g:D->D) (hg:∀d,g d=.tup []):((o.map rowD).filter p).map g=(Wag (lone o) ([]:List Int)).map rowD:=by
 unfold lone
 induction o with
 |nil=>rfl
 |cons r o ih=>
  rw[Wbe,Wbi,Wbi,hp];cases h:r.isEmpty with
  |true=>simp only[if_true];rw[Wbe,Waj,Wdr,Wbe,ih,hg];rfl
  |false=>simp only[Wao,if_false];exact ih
theorem OrdOk.flat_eq {n:Int}{ts:List (Int × Int)}{o:List (List Int)}(hW:WebOk n ts) (h:OrdOk n ts o):o.flatten.length=2*ts.length:=by
 have h1:=h.flat_len;have h2:=Zbw (l:=(Wai (2*ts.length)).map λe:Nat=>(e:Int)) (m:=o.flatten) ?_ λx hx=>by
  obtain⟨e,he,rfl⟩:=Way.mp hx;rw[Waw]at he;obtain⟨g1,g2,g3⟩:=Zbz hW h he;exact List.mem_flatten.mpr ⟨_,Wat g1,g3⟩
 ·rw[Wab,Wa7]at h2;omega
 ·refine List.Pairwise.map _ (λa b q=>?_) Wdl
  intro e;exact q (by omega)
def Lv:Nat->D->Prop
 |0,_=>False
 |_+1,.int _=>True
 |m+1,.lst ds=>ds.length<=1000/\∀d∈ds,Lv m d
 |m+1,.tup ds=>ds.length<=1000/\∀d∈ds,Lv m d
 |_,_=>False
def fSame (m:Nat):DSp:=λds Post=>∃d,ds=[d,d]/\Lv m d/\Post (.bl true)
def isIntD:D->Option Bool
 |.int _=>some true
 |.lst _=>some false
 |.tup _=>some false
 |_=>none
def fWholeB:DSp:=λds Post=>∃d b,ds=[d]/\isIntD d=some b/\Post (.bl b)
section
variable {P:Program}{w:World}{K:W.Frag}{mg:Str->Option Value}{base:Heap}{f:Addr}{fd:FuncData}
theorem Zer:2<=sizeLine:=by decide
theorem Zlc (ds:List D):(((ds.zip ds).map λp=>D.tup [p.1,p.2]).filter λ_=>true).map (λ_=>D.bl true)=(Wag ds.length true).map D.bl:=by
 rw[Wbk.mpr (by simp),List.map_const',Wc0,Wab,Wd4,Wdy]
theorem Zk8 (n:Nat):(Wag n true).all id=true:=by
 rw[Wbp];intro x hx;rw[(Wck.mp hx).2];rfl
theorem Zjf {ds:List D}{i:Nat}{d:D}(hd':((ds.zip ds).map λp=>D.tup [p.1,p.2])[i]?=some d):∃e,e∈ds/\d=.tup [e,e]:=by
 rw[Wad]at hd';cases z:(ds.zip ds)[i]? with
 |none=>rw[z]at hd';cases hd'
 |some pr=>
  rw[z]at hd';have hd':D.tup [pr.1,pr.2]=d:=by simpa using hd'
  rw[Wbj]at z;have e:pr.1=pr.2:=Wbh.inj (z.1.symm.trans z.2);exact⟨pr.1,Wat z.1,by rw[<- hd',<- e]⟩
theorem Zo0 (mb:Mb mg) (F:Fun K "_law_whole" "_law_whole" s_law_whole f fd):FnOk P w K mg base CX0 1 f fd ["_law_found"] (spD K fWholeB):=by
 refine F.ok sc_law_whole (Zbi λds Post h=>by obtain⟨_,_,rfl,_⟩:=h;rfl) (λcdv A outer s H vs Q E hr h=>?_);have hu:=Zby hr;refine⟨_,(Zah (Zax (Zk9 (Zai (isiUK K) rfl (mb "isinstance" (by decide)) Zbp (Zaa (pv 0) (Zaa (Ze0 rfl (mb "int" (by decide)) Zwc (show RelV (.ty "int") _ from rfl)) Zad))) (Zkt (Zu2 (Zai (isiUK K) rfl (mb "isinstance" (by decide)) Zbp (Zaa (pv 0) (Zaa (Ze0 rfl (mb "bool" (by decide)) Ztm (show RelV (.ty "bool") _ from rfl)) Zad)))))))),Zdl (λds Post hf=>?_) h⟩;obtain⟨d,b,rfl,hb,q⟩:=hf;refine⟨by simp,?_⟩;dsimp only[startD,Wbo,Wbm,Wba];cases d with
 |int i=>
  cases hb;refine Za8 (Zds (Za3 (Zab (Zac rfl (Zab (Zf0 (Zaf (Zc0 (T:="int") (b:=true) rfl (λ_=>by rfl) ⟨_,rfl,?_⟩))))))));rw[if_pos rfl];refine Znv (Za3 (Zab (Zac rfl (Zab (Zf0 (Zaf (Zc0 (T:="int") (b:=false) rfl (λ_=>by rfl) ⟨_,rfl,?_⟩)))))));exact q
 |lst l=>
  cases hb;exact Za8 (Zds (Za3 (Zab (Zac rfl (Zab (Zf0 (Zaf (Zc0 (T:="list") (b:=false) rfl (λ_=>by rfl) ⟨_,rfl,iteF q⟩))))))))
 |tup l=>
  cases hb;exact Za8 (Zds (Za3 (Zab (Zac rfl (Zab (Zf0 (Zaf (Zc0 (T:="tuple") (b:=false) rfl (λ_=>by rfl) ⟨_,rfl,iteF q⟩))))))))
 |_=>cases hb
theorem Zq7 {m:Nat}(mb:Mb mg) (C42:Callee P w K mg base 1 "_law_whole" ["_law_found"] (spD K fWholeB)) (C40:Callee P w K mg base (m+1) "_law_same" ["_law_found","_law_due"] (spD K (fSame m))) (F:Fun K "_law_same" "_law_same" s_law_same f fd):FnOk P w K mg base CX0 (m+2) f fd ["_law_found","_law_due"] (spD K (fSame (m+1))):=by
 refine F.ok sc_law_same (Zbi λds Post h=>by obtain⟨_,rfl,_⟩:=h;rfl) (λcdv A outer s H vs Q E hr h=>?_);have hu:=Zby hr;refine⟨_,(Zae (Zc1 (truK K (Zay C42 (hr.mono (by first|decide|omega)) (Zaa (pv 1) Zad)) (λ_=>rfl)) (Zah (Zax (Zk9 (Zay C42 (hr.mono (by first|decide|omega)) (Zaa (pv 0) Zad)) (Zkt (Zoc Zcg (pv 0) (pv 1) (nomark _)))))) Za7) (Zae (Zc1 (PW.pt (pw_and (truK K (Zai (isiUK K) rfl (mb "isinstance" (by decide)) Zbp (Zaa (pv 1) (Zaa (Ze0 rfl (mb "list" (by decide)) Zj4 (show RelV (.ty "list") _ from rfl)) Zad))) (λ_=>rfl)) (pw_and1 (Zeo (truK K (Zai (isiUK K) rfl (mb "isinstance" (by decide)) Zbp (Zaa (pv 0) (Zaa (Ze0 rfl (mb "list" (by decide)) Zj4 (show RelV (.ty "list") _ from rfl)) Zad))) (λ_=>rfl)))))) (Zah (Zax Znn)) Za7) (Zae (Zc1 (PW.pt (pw_and (truK K (Zai (isiUK K) rfl (mb "isinstance" (by decide)) Zbp (Zaa (pv 1) (Zaa (Ze0 rfl (mb "tuple" (by decide)) Zbs (show RelV (.ty "tuple") _ from rfl)) Zad))) (λ_=>rfl)) (pw_and1 (Zeo (truK K (Zai (isiUK K) rfl (mb "isinstance" (by decide)) Zbp (Zaa (pv 0) (Zaa (Ze0 rfl (mb "tuple" (by decide)) Zbs (show RelV (.ty "tuple") _ from rfl)) Zad))) (λ_=>rfl)))))) (Zah (Zax Znn)) Za7) (Zah (Zax (Zk9 (Zoc Zcg (Zai (lenK K) rfl (mb "len" (by decide)) Zbl (Zaa (pv 0) Zad)) (Zai (lenK K) rfl (mb "len" (by decide)) Zbl (Zaa (pv 1) Zad)) (nomark _)) (Zkt (Zai (allK K rfl) rfl (mb "all" (by decide)) Zv4 (Zaa (Zb8 ["_law_one","_law_other"] (show CompSc (defScope s_law_same) ["_law_found","_law_due"] _ [] [] from ⟨rfl,by decide +kernel,by decide +kernel,by decide +kernel,rfl,by decide +kernel⟩) rfl (Zvv K rfl (mb "zip" (by decide)) (Zaa (pv 0) (Zaa (pv 1) Zad))) (λ_ _ _ _ _=>(gtupK (n:=2) K rfl (Za9 (Zal (i:=0) (show List.Nodup (["_law_one","_law_other"]:List Str) from by decide) rfl (Or.inl rfl)) (Za9 (Zal (i:=1) (show List.Nodup (["_law_one","_law_other"]:List Str) from by decide) rfl (Or.inl rfl)) Zdm)))) (λ_ _ _ _ _=>Zb3) (λ_ _ _ _ _=>(Zay C40 (hr.mono (by first|decide|omega)) (Zaa (pv 0) (Zaa (pv 1) Zad))))) Zad))))))))),Zdl (λds Post hf=>?_) h⟩;obtain⟨d,rfl,hd,q⟩:=hf;refine⟨by simp,?_⟩;dsimp only[startD,Wbo,Wbm,Wba];cases d with
 |int i=>
  refine Zaj (Zcq (Zcd (Zar (Zab (Zac rfl (Zaf ⟨_,true,rfl,rfl,_,rfl,?_⟩))))));refine iteT (Za8 (Zds (Zar (Zab (Zac rfl (Zaf ⟨_,true,rfl,rfl,_,rfl,?_⟩))))));refine iteT (Zam (Zac rfl (Zac rfl (Zef ?_))));rw[decide_eq_true rfl];exact q
 |lst ds=>
  obtain⟨hl,hd⟩:=hd;refine Zaj (Zcq (Zcd (Zar (Zab (Zac rfl (Zaf ⟨_,false,rfl,rfl,_,rfl,iteF (Za4 ?_)⟩))))));refine Zaj (Zcq (Zhg (Zcd (Za3 (Zab (Zac rfl (Zab (Zf0 (Zaf (Zc0 (T:="list") (b:=true) rfl (λ_=>by rfl) ⟨_,rfl,iteT ?_⟩))))))))));refine Zd6 (Zcd (Za3 (Zab (Zac rfl (Zab (Zf0 (Zaf (Zc0 (T:="list") (b:=true) rfl (λ_=>by rfl) ⟨_,rfl,iteF (Za4 ?_)⟩))))))));refine Zaj (Zcq (Zhg (Zcd (Za3 (Zab (Zac rfl (Zab (Zf0 (Zaf (Zc0 (T:="list") (b:=false) rfl (λ_=>by rfl) ⟨_,rfl,iteF (iteF (Za4 ?_))⟩))))))))));refine Za8 (Zds (Zam (Za3 (Zab (Zac rfl (Zaf (Zba (Or.inl rfl) (Za3 (Zab (Zac rfl (Zaf (Zba (Or.inl rfl) (Zef ⟨_,rfl,?_⟩)))))))))))));rw[decide_eq_true rfl];refine iteT (Za3 (Zab (Zfl (by decide) (Zwp (Zab (Zac rfl (Zab (Zac rfl (Zaf ⟨ds,ds,rfl,rfl,?_,λ_=>true,λ_=>.bl true,λi d hd'=>?_,?_⟩)))))))))
  ·rw[Wab,Wd4];exact small1000 (by omega)
  ·obtain⟨e,he,rfl⟩:=Zjf hd'
   exact⟨_,_,rfl,Zbu ⟨rfl,Zar (Zab (Zac rfl (Zab (Zac rfl (Zaf ⟨e,rfl,hd _ he,rfl,_,_,rfl⟩)))))⟩⟩
  ·refine Zaf ?_
   rw[Zlc];refine Zr3 ?_;rw[Zk8];exact q
 |tup ds=>
  obtain⟨hl,hd⟩:=hd;refine Zaj (Zcq (Zcd (Zar (Zab (Zac rfl (Zaf ⟨_,false,rfl,rfl,_,rfl,iteF (Za4 ?_)⟩))))));refine Zaj (Zcq (Zhg (Zcd (Za3 (Zab (Zac rfl (Zab (Zf0 (Zaf (Zc0 (T:="tuple") (b:=false) rfl (λ_=>by rfl) ⟨_,rfl,iteF (iteF (Za4 ?_))⟩))))))))));refine Zaj (Zcq (Zhg (Zcd (Za3 (Zab (Zac rfl (Zab (Zf0 (Zaf (Zc0 (T:="tuple") (b:=true) rfl (λ_=>by rfl) ⟨_,rfl,iteT ?_⟩))))))))));refine Zd6 (Zcd (Za3 (Zab (Zac rfl (Zab (Zf0 (Zaf (Zc0 (T:="tuple") (b:=true) rfl (λ_=>by rfl) ⟨_,rfl,iteF (Za4 ?_)⟩))))))));refine Za8 (Zds (Zam (Za3 (Zab (Zac rfl (Zaf (Zba (Or.inr rfl) (Za3 (Zab (Zac rfl (Zaf (Zba (Or.inr rfl) (Zef ⟨_,rfl,?_⟩)))))))))))));rw[decide_eq_true rfl];refine iteT (Za3 (Zab (Zfl (by decide) (Zux (Zab (Zac rfl (Zab (Zac rfl (Zaf ⟨ds,ds,rfl,rfl,?_,λ_=>true,λ_=>.bl true,λi d hd'=>?_,?_⟩)))))))))
  ·rw[Wab,Wd4];exact small1000 (by omega)
  ·obtain⟨e,he,rfl⟩:=Zjf hd'
   exact⟨_,_,rfl,Zbu ⟨rfl,Zar (Zab (Zac rfl (Zab (Zac rfl (Zaf ⟨e,rfl,hd _ he,rfl,_,_,rfl⟩)))))⟩⟩
  ·refine Zaf ?_
   rw[Zlc];refine Zr3 ?_;rw[Zk8];exact q
 |_=>exact hd.elim
theorem Zoy (mb:Mb mg) (C42:Callee P w K mg base 1 "_law_whole" ["_law_found"] (spD K fWholeB)) (F:Fun K "_law_same" "_law_same" s_law_same f fd) (b:Binds K fd ["_law_found","_law_due"] []) (kp:W.keepIn K (.ref f)=true) (hm:mg "_law_same" = some (.ref f)):∀m:Nat,FnOk P w K mg base CX0 (m+1) f fd ["_law_found","_law_due"] (spD K (fSame m))
 |0=>by
  have no:∀vs H Q E,¬ spD K (fSame 0) vs H Q E:=λvs H Q E ⟨_,_,_,_,_,⟨_,_,hd,_⟩,_⟩=>hd;exact⟨λvs H Q E h=>absurd h (no vs H Q E),λA outer s H args us vs Q E _ _ _ _ h=>absurd h (no vs H Q E)⟩
 |m+1=>Zq7 mb C42 ⟨⟨f,fd,Zoy mb C42 F b kp hm m,b,kp,hm⟩⟩ F
theorem Zrs (mb:Mb mg) (C42:Callee P w K mg base 1 "_law_whole" ["_law_found"] (spD K fWholeB)) (F:Fun K "_law_same" "_law_same" s_law_same f fd) (b:Binds K fd ["_law_found","_law_due"] []) (kp:W.keepIn K (.ref f)=true) (hm:mg "_law_same" = some (.ref f)):∀m:Nat,FnOk P w K mg base CX0 m f fd ["_law_found","_law_due"] (spD K (fSame (m-1)))
 |0=>by
  have no:∀vs H Q E,¬ spD K (fSame 0) vs H Q E:=λvs H Q E ⟨_,_,_,_,_,⟨_,_,hd,_⟩,_⟩=>hd;exact⟨λvs H Q E h=>absurd h (no vs H Q E),λA outer s H args us vs Q E _ _ _ _ h=>absurd h (no vs H Q E)⟩
 |m+1=>Zoy mb C42 F b kp hm m
end
def fLeastL:DSp:=λds Post=>∃ns:List Int,ds=[.lst (ns.map .int)]/\0<ns.length/\ns.length<=100/\∀m,m∈ns->(∀a∈ns,m<=a)->Post (rowD (rotAt ns (ns.idxOf m)))
def fFaceOf:DSp:=λds Post=>∃n ts o,∃e:Nat,ds=[encWeb n ts,encOrd o,.int e]/\WebOk n ts/\OrdOk n ts o/\e<2*ts.length/\∀g:Nat,g<2*ts.length->leastB (onI ts o) g=true->(g:Int)∈orb (onI ts o) e->Post (rowD (orb (onI ts o) g))
noncomputable def allF (ts:List (Int × Int)) (o:List (List Int)):List (List Int):=Wag (lone o) []++facesTo (onI ts o) (2*ts.length)
def fFaces:NSp:=λds Post=>∃n ts o,ds=[encWeb n ts,encOrd o]/\WebOk n ts/\OrdOk n ts o/\Post ((allF ts o).map rowD)
theorem Zfs {n:Int}{ts:List (Int × Int)}{o:List (List Int)}(hW:WebOk n ts) (hO:OrdOk n ts o):(allF ts o).length<=100:=by
 unfold allF;rw[Waq,Waz];have:=Zea (onI ts o) (2*ts.length);have:=Zf1 o;have:=hO.len;have:=hW.hi;have:=hW.len;omega
theorem Znx {n:Int}{ts:List (Int × Int)}{o:List (List Int)}(hW:WebOk n ts) (hO:OrdOk n ts o):∀r∈allF ts o,r.length<=48:=by
 intro r hr;unfold allF at hr;rcases Wbd.mp hr with h|h
 ·rw[(Wck.mp h).2];simp
 ·unfold facesTo at h
  obtain⟨e,he,rfl⟩:=Way.mp h;rw[Wa6,Waw]at he;have:=Zht (Zd5 hW hO) (e:=(e:Int)) (by omega) (by omega);have:=hW.len;omega
def loI (a b:Int):Int:=if b<a then b else a
def hiI (a b:Int):Int:=if b > a then b else a
def mergeL (l:List Int) (a b:Int):List Int:=l.map λf=>if f=hiI (l.getD a.toNat 0) (l.getD b.toNat 0) then loI (l.getD a.toNat 0) (l.getD b.toNat 0) else f
def marksL (n:Nat) (ts:List (Int × Int)):List Int:=ts.foldl (λl t=>mergeL l t.1 t.2) ((Wai n).map λi:Nat=>(i:Int))
theorem Zhf (l:List Int) (a b:Int):(mergeL l a b).length=l.length:=by unfold mergeL;rw[Wab]
theorem Zbh (n:Nat) (ts:List (Int × Int)):(marksL n ts).length=n:=by
 unfold marksL;have:∀(ts:List (Int × Int)) (l:List Int),(ts.foldl (λl t=>mergeL l t.1 t.2) l).length=l.length:=by
  intro ts
  induction ts with
  |nil=>intro l;rfl
  |cons t ts ih=>intro l;rw[List.foldl_cons,ih,Zhf]
 rw[this,Wab,Wa7]
theorem Zcu {n:Nat}{ts:List (Int × Int)}{i:Nat}{t:Int × Int}(h:ts[i]?=some t):marksL n (ts.take (i+1))=mergeL (marksL n (ts.take i)) t.1 t.2:=by
 unfold marksL;rw[Wb0,h,List.foldl_append];rfl
def Firsts (ms l:List Int):Prop:=ms.Pairwise (· < ·)/\∀x,x∈ms↔x∈l
theorem Zdf:∀{ms ms':List Int},ms.Pairwise (· < ·)->ms'.Pairwise (· < ·)->(∀x,x∈ms↔x∈ms')->ms=ms'
 |[],[],_,_,_=>rfl
 |[],y::l',_,_,h=>by have:=(h y).mpr (by simp);simp at this
 |x::l,[],_,_,h=>by have:=(h x).mp (by simp);simp at this
 |x::l,y::l',h1,h2,h=>by
  rw[Wee]at h1 h2;have exy:x=y:=by
   have a:=(h x).mp (by simp);have b:=(h y).mpr (by simp);rcases Wal.mp a with z|z
   ·exact z
   ·rcases Wal.mp b with z'|z'
    ·exact z'.symm
    ·have:=h1.1 _ z'
     have:=h2.1 _ z;omega
  subst exy;rw[Zdf h1.2 h2.2 λz=>?_];constructor
  ·intro hz
   have:=h1.1 _ hz;rcases Wal.mp ((h z).mp (Was _ hz)) with q|q
   ·omega
   ·exact q
  ·intro hz
   have:=h2.1 _ hz;rcases Wal.mp ((h z).mpr (Was _ hz)) with q|q
   ·omega
   ·exact q
theorem Firsts.uniq {ms ms' l:List Int}(h:Firsts ms l) (h':Firsts ms' l):ms=ms':=Zdf h.1 h'.1 λx=>(h.2 x).trans (h'.2 x).symm
theorem Zhd:∀{ms l:List Int},ms.Nodup->(∀x∈ms,x∈l)->ms.length<=l.length
 |[],_,_,_=>by simp
 |x::ms,l,h1,h2=>by
  rw[Wbr]at h1;have hx:=h2 x (by simp);have:=Zhd (ms:=ms) (l:=l.erase x) h1.2 λy hy=>(Wdo (λz:y=x=>h1.1 (z ▸ hy))).mpr (h2 y (by simp[hy]));rw[Wdb hx]at this;have:=Wcg hx;rw[Waj];omega
theorem Firsts.len {ms l:List Int}(h:Firsts ms l):ms.length<=l.length:=Zhd (h.1.imp λz=>Int.ne_of_lt z) λx hx=>(h.2 x).mp hx
def partI (l:List Int) (n:Nat) (f:Int):List Int:=((Wai n).map λi:Nat=>(i:Int)).filter λp=>decide (l.getD p.toNat 0=f)
def lstI (r:List Int):D:=.lst (r.map .int)
def partsL (n:Nat) (ts:List (Int × Int)) (ms:List Int):List (List Int):=ms.map (partI (marksL n ts) n)
def fParts:NSp:=λds Post=>∃n ts,ds=[encWeb n ts]/\WebOk n ts/\∀ms,Firsts ms (marksL n.toNat ts)->Post ((partsL n.toNat ts ms).map lstI)
theorem Zse (l:List Int) (n:Nat) (f:Int) (p:D->Bool) (hp:∀i:Int,p (.int i)=decide (l.getD i.toNat 0=f)) (g:D->D) (hg:∀d,g d=d):D.lst (((rngD 0 n).filter p).map g)=lstI (partI l n f):=by
 have e1:rngD 0 n=((Wai n).map λi:Nat=>(i:Int)).map D.int:=by
  unfold rngD;rw[Wa3];apply Wbw;intro i _;show D.int (0+(i:Int))=D.int (i:Int);rw[Wct]
 unfold lstI partI;rw[e1,List.filter_map,show g=id from funext hg,List.map_id];have e2:(p∘D.int)=λq:Int=>decide (l.getD q.toNat 0=f):=funext hp;rw[e2]
theorem Znm {n:Nat}{l ms:List Int}(q:D->Bool) (hq:∀d,q d=true) (g:D->D) (hg:∀f:Int,g (.int f)=lstI (partI l n f)):((ms.map D.int).filter q).map g=(ms.map (partI l n)).map lstI:=by
 rw[Wbk.mpr (λd _=>hq d),Wa3,Wa3];apply Wbw;intro f _;exact hg f
section
variable {f:Int->Int}{m:Nat}(F:OneOne f m)
include F
end
theorem Zc6 (l:List Int) (a b:Int) {p:Nat}(hp:p<l.length):(mergeL l a b).getD p 0=if l.getD p 0=hiI (l.getD a.toNat 0) (l.getD b.toNat 0) then loI (l.getD a.toNat 0) (l.getD b.toNat 0) else l.getD p 0:=by
 unfold mergeL;rw[Wae,Wad,Waa hp,Wae (l:=l) (i:=p),Waa hp];rfl
theorem lohi (a b:Int):(a=loI a b\/a=hiI a b)/\(b=loI a b\/b=hiI a b):=by
 unfold loI hiI;constructor
 ·by_cases h:b<a
  ·right;rw[if_neg (by omega)]
  ·left;rw[if_neg h]
 ·by_cases h:b<a
  ·left;rw[if_pos h]
  ·by_cases h2:b > a
   ·right;rw[if_pos h2]
   ·left;rw[if_neg h];omega
theorem Zl4 (l:List Int) {t:Int × Int}(h1:t.1.toNat<l.length) (h2:t.2.toNat<l.length):(mergeL l t.1 t.2).getD t.1.toNat 0=loI (l.getD t.1.toNat 0) (l.getD t.2.toNat 0)/\(mergeL l t.1 t.2).getD t.2.toNat 0=loI (l.getD t.1.toNat 0) (l.getD t.2.toNat 0):=by
 obtain⟨a,b⟩:=lohi (l.getD t.1.toNat 0) (l.getD t.2.toNat 0);rw[Zc6 _ _ _ h1,Zc6 _ _ _ h2];constructor
 ·split
  ·rfl
  ·rename_i h;rcases a with a|a
   ·exact a
   ·exact absurd a h
 ·split
  ·rfl
  ·rename_i h;rcases b with b|b
   ·exact b
   ·exact absurd b h
section
variable {N:Nat}{ts:List (Int × Int)}(hW:WebOk (N:Int) ts)
include hW
theorem Zje:∀i,i<=ts.length->∀t∈ts.take i,(marksL N (ts.take i)).getD t.1.toNat 0=(marksL N (ts.take i)).getD t.2.toNat 0
 |0,_,t,ht=>by simp at ht
 |i+1,hi,t,ht=>by
  have hlt:i<ts.length:=hi;have z:=Waa hlt;rw[Zcu z];have hl:=Zbh N (ts.take i);have hu:=hW.tie _ (Wa5 hlt);rw[Wb0,z]at ht;rcases Wbd.mp ht with h|h
  ·have ih:=Zje i (by omega) t h
   have hr:=hW.tie t (List.mem_of_mem_take h);rw[Zc6 _ _ _ (by omega),Zc6 _ _ _ (by omega),ih]
  ·have e:t=ts[i]:=by simpa using h
   subst e;obtain⟨a,b⟩:=Zl4 (marksL N (ts.take i)) (t:=ts[i]) (by omega) (by omega);rw[a,b]
end
section
variable {N:Nat}{ts:List (Int × Int)}{o:List (List Int)}(hW:WebOk (N:Int) ts) (hO:OrdOk (N:Int) ts o)
include hW
include hO
include hW hO
theorem Zl8:(allF ts o).length=lone o+((Wai (2*ts.length)).filter λe=>leastB (onI ts o) e && true).length:=by
 unfold allF facesTo;rw[Waq,Waz,Wab];congr 3
 funext e
 rw[Wei]
end
theorem Zp9 {l:List Int}{a b:Int}(h:l.getD a.toNat 0=l.getD b.toNat 0):mergeL l a b=l:=by
 unfold mergeL
 conv=>rhs;rw[<- List.map_id l]
 apply Wbw;intro f _;have e1:hiI (l.getD a.toNat 0) (l.getD b.toNat 0)=l.getD a.toNat 0:=by rw[<- h];unfold hiI;split <;> rfl
 have e2:loI (l.getD a.toNat 0) (l.getD b.toNat 0)=l.getD a.toNat 0:=by rw[<- h];unfold loI;split <;> rfl
 rw[e1,e2];split
 ·rename_i z;exact z.symm
 ·rfl
structure Goes (N:Nat) (l l':List Int) (lo hi:Int):Prop where
 len:l.length=N
 len':l'.length=N
 lt:lo<hi
 inL:lo∈l
 inH:hi∈l
 to:∀p:Nat,p<N->l'.getD p 0=if l.getD p 0=hi then lo else l.getD p 0
theorem Zl6 {N:Nat}{l:List Int}{t:Int × Int}(hl:l.length=N) (h1:t.1.toNat<N) (h2:t.2.toNat<N) (hne:l.getD t.1.toNat 0≠l.getD t.2.toNat 0) :
  Goes N l (mergeL l t.1 t.2) (loI (l.getD t.1.toNat 0) (l.getD t.2.toNat 0)) (hiI (l.getD t.1.toNat 0) (l.getD t.2.toNat 0)):=by
 have m1:l.getD t.1.toNat 0∈l:=by rw[Wae,Waa (by omega:t.1.toNat<l.length)];exact Wa5 _
 have m2:l.getD t.2.toNat 0∈l:=by rw[Wae,Waa (by omega:t.2.toNat<l.length)];exact Wa5 _
 refine⟨hl,by rw[Zhf,hl],?_,?_,?_,λp hp=>Zc6 _ _ _ (by omega)⟩
 ·unfold loI hiI;split <;> split <;> omega
 ·unfold loI;split
  ·exact m2
  ·exact m1
 ·unfold hiI;split
  ·exact m2
  ·exact m1
section
variable {N:Nat}{l l' ms ms':List Int}{lo hi:Int}(G:Goes N l l' lo hi)
theorem Zr5 {l:List Int}{x:Int}(h:x∈l):∃p:Nat,p<l.length/\l.getD p 0=x:=by
 obtain⟨p,hp,rfl⟩:=List.getElem_of_mem h;exact⟨p,hp,by rw[Wae,Waa hp];rfl⟩
theorem Zsa {l:List Int}{p:Nat}(h:p<l.length):l.getD p 0∈l:=by
 rw[Wae,Waa h];exact Wa5 h
include G
theorem Goes.mem {x:Int}:x∈l'↔x∈l/\x≠hi:=by
 have h1:=G.len;have h2:=G.len';have h3:=G.lt;constructor
 ·intro h
  obtain⟨p,hp,e⟩:=Zr5 h;rw[G.to p (by omega)]at e;split at e
  ·rw[<- e];exact⟨G.inL,by omega⟩
  ·rename_i z
   rw[<- e];exact⟨Zsa (by omega),z⟩
 ·rintro⟨h,hne⟩
  obtain⟨p,hp,e⟩:=Zr5 h;have:l'.getD p 0=x:=by rw[G.to p (by omega),e,if_neg hne]
  rw[<- this];exact Zsa (by omega)
theorem Goes.firsts (h:Firsts ms l) (h':Firsts ms' l'):ms'=ms.filter λg=>decide (g≠hi):=by
 refine Zdf h'.1 (List.Pairwise.filter _ h.1) λx=>?_;rw[h'.2,Wa6,decide_eq_true_iff,h.2];exact G.mem
omit G in
theorem Zbx {α:Type}(p:α -> Bool):∀l:List α,l.length=(l.filter p).length+(l.filter λx=>!p x).length
 |[]=>rfl
 |x::l=>by
  have ih:=Zbx p l;rw[Wbi,Wbi];cases h:p x with
  |true=>simp only[if_true,Wcv,Wao,if_false,Waj];omega
  |false=>simp only[if_true,Wd9,Wao,if_false,Waj];omega
end
theorem Zdv {f:Int->Int}{e:Int}{S:Int->Prop}(h:S e) (hc:∀x,S x->S (f x)):∀y∈orb f e,S y:=by
 intro y hy;obtain⟨j,hj,rfl⟩:=Zaw.mp hy;clear hj hy
 induction j with
 |zero=>exact h
 |succ j ih=>exact hc _ ih
def swapF (f:Int->Int) (a b:Int) (x:Int):Int:=if x=a then f b else if x=b then f a else f x
theorem Zfd (f:Int->Int) (a b:Int):swapF f a b a=f b:=by unfold swapF;rw[if_pos rfl]
theorem Zgi (f:Int->Int) (a b:Int):swapF f a b b=f a:=by
 unfold swapF;by_cases h:b=a
 ·rw[if_pos h,h]
 ·rw[if_neg h,if_pos rfl]
theorem Zdq {f:Int->Int}{a b x:Int}(h1:x≠a) (h2:x≠b):swapF f a b x=f x:=by unfold swapF;rw[if_neg h1,if_neg h2]
theorem Zn3 (f:Int->Int) (a b:Int):swapF (swapF f a b) a b=f:=by
 funext x
 by_cases h1:x=a
 ·subst h1;rw[Zfd,Zgi]
 ·by_cases h2:x=b
  ·subst h2;rw[Zgi,Zfd]
  ·rw[Zdq h1 h2,Zdq h1 h2]
theorem Zd1 {f:Int->Int}{m:Nat}(F:OneOne f m) {a b:Int}(a0:0<=a) (a1:a<(m:Int)) (b0:0<=b) (b1:b<(m:Int)):OneOne (swapF f a b) m:=by
 refine⟨λx h0 h1=>?_,λx y x0 x1 y0 y1 q=>?_⟩
 ·unfold swapF
  split
  ·exact F.to _ b0 b1
  ·split
   ·exact F.to _ a0 a1
   ·exact F.to _ h0 h1
 ·-- the preimage through the exchange
  have key:∀z:Int,∃z',swapF f a b z=f z' /\ (z=a->z'=b)/\(z=b->z'=a)/\(z≠a->z≠b->z'=z):=λz=>by
   by_cases h1:z=a
   ·refine⟨b,by rw[h1,Zfd],λ_=>rfl,λh=>?_,λh=>absurd h1 h⟩
    rw[<- h,h1]
   ·by_cases h2:z=b
    ·exact⟨a,by rw[h2,Zgi],λh=>absurd h h1,λ_=>rfl,λ_ h=>absurd h2 h⟩
    ·exact⟨z,Zdq h1 h2,λh=>absurd h h1,λh=>absurd h h2,λ_ _=>rfl⟩
  obtain⟨x',ex,xa,xb,xo⟩:=key x;obtain⟨y',ey,ya,yb,yo⟩:=key y;have rx:0<=x' /\ x'<(m:Int):=by
   by_cases h1:x=a
   ·rw[xa h1];exact⟨b0,b1⟩
   ·by_cases h2:x=b
    ·rw[xb h2];exact⟨a0,a1⟩
    ·rw[xo h1 h2];exact⟨x0,x1⟩
  have ry:0<=y' /\ y'<(m:Int):=by
   by_cases h1:y=a
   ·rw[ya h1];exact⟨b0,b1⟩
   ·by_cases h2:y=b
    ·rw[yb h2];exact⟨a0,a1⟩
    ·rw[yo h1 h2];exact⟨y0,y1⟩
  have e:=F.inj x' y' rx.1 rx.2 ry.1 ry.2 (by rw[<- ex,<- ey];exact q);by_cases h1:x=a
  ·by_cases h2:y=a
   ·rw[h1,h2]
   ·by_cases h3:y=b
    ·have:=xa h1;have:=yb h3;omega
    ·have:=xa h1;have:=yo h2 h3;omega
  ·by_cases h1':x=b
   ·by_cases h2:y=a
    ·have:=xb h1';have:=ya h2;omega
    ·by_cases h3:y=b
     ·rw[h1',h3]
     ·have:=xb h1';have:=yo h2 h3;omega
   ·have hx:=xo h1 h1'
    by_cases h2:y=a
    ·have:=ya h2;omega
    ·by_cases h3:y=b
     ·have:=yb h3;omega
     ·have:=yo h2 h3;omega
noncomputable def cnt (f:Int->Int) (m:Nat) (Pd:Nat->Bool):Nat:=((Wai m).filter λe=>leastB f e && Pd e).length
section
variable {f:Int->Int}{m:Nat}(F:OneOne f m)
include F
theorem Zgo {x:Int}(h0:0<=x) (h1:x<(m:Int)) (p:Nat->Bool) (hp:∀e:Nat,e<m->(p e=true↔(e:Int)∈orb f x)):((Wai m).filter λe=>leastB f e && p e).length=1:=by
 obtain⟨g,hg,hl,hin,_⟩:=Znp F h0 h1;have mem:∀e,e∈((Wai m).filter λe=>leastB f e && p e)↔e=g:=λe=>by
  rw[Wa6,Waw,Wbg];constructor
  ·rintro⟨he,l1,l2⟩
   have l2:=(hp e he).mp l2;have m1:=Zbq F (by omega) (by omega) (Zca F h0 h1 l2) hin;have m2:=Zbq F (by omega) (by omega) (Zca F h0 h1 hin) l2;have a:=of_decide_eq_true (show decide (∀z∈orb f (e:Int),(e:Int)<=z)=true from l1) _ m1;have b:=of_decide_eq_true (show decide (∀z∈orb f (g:Int),(g:Int)<=z)=true from hl) _ m2;omega
  ·rintro rfl
   exact⟨hg,hl,(hp e hg).mpr hin⟩
 have nd:((Wai m).filter λe=>leastB f e && p e).Nodup:=List.Pairwise.filter _ Wdl;have a:=Zbw (m:=[g]) nd λe he=>by rw[Wbc];exact(mem e).mp he
 have b:=Wcg ((mem g).mpr rfl);rw[Wcl]at a;omega
theorem Znt {g:Int->Int}{S:Int->Prop}(hS:∀x,0<=x->x<(m:Int)->¬ S x->g x=f x) (hc:∀x,0<=x->x<(m:Int)->¬ S x->¬ S (f x)) (G:OneOne g m) {e:Int}(h0:0<=e) (h1:e<(m:Int)) (hn:¬ S e):∀y,y∈orb g e↔y∈orb f e:=by
 have it:∀j,iter g e j=iter f e j/\¬ S (iter f e j):=λj=>by
  induction j with
  |zero=>exact⟨rfl,hn⟩
  |succ j ih=>
   have r:=Zbe F h0 h1 j;refine⟨?_,hc _ r.1 r.2 ih.2⟩;show g (iter g e j)=f (iter f e j);rw[ih.1,hS _ r.1 r.2 ih.2]
 intro y;constructor
 ·intro hy
  obtain⟨j,_,rfl⟩:=Zaw.mp hy;rw[(it j).1];exact Za6 F h0 h1 j
 ·intro hy
  obtain⟨j,_,rfl⟩:=Zaw.mp hy;rw[<- (it j).1];exact Za6 G h0 h1 j
end
section
variable {f:Int->Int}{m:Nat}(F:OneOne f m) {a b:Int}(a0:0<=a) (a1:a<(m:Int)) (b0:0<=b) (b1:b<(m:Int)) (hab:a≠b) (hin:b∈orb f a)
include F a0 a1 b0 b1 hab hin
theorem halves:∃j,0<j/\j<per f a/\iter f a j=b/\(∀y,y∈orb (swapF f a b) b ↔ ∃i,1<=i/\i<=j/\iter f a i=y)/\(∀y,y∈orb (swapF f a b) a ↔ ∃i,(i=0\/j<i)/\i<per f a/\iter f a i=y):=by
 have O:=Zc2 F a0 a1;have G:=Zd1 F a0 a1 b0 b1;obtain⟨j,hj,ej⟩:=Zaw.mp hin;have hj0:0<j:=by
  rcases Nat.eq_zero_or_pos j with z|z
  ·rw[z]at ej;exact absurd ej hab
  ·exact z
 have nea:∀i,0<i->i<per f a->iter f a i≠a:=λi h1 h2 q=>by
  have:=O.nd i 0 h2 O.pos q;omega
 have neb:∀i,i≠j->i<per f a->iter f a i≠b:=λi h1 h2 q=>by
  have:=O.nd i j h2 hj (q.trans ej.symm);omega
 have up1:∀i,1<=i->i<=j->iter (swapF f a b) b i=iter f a i:=λi h1 h2=>by
  induction i with
  |zero=>omega
  |succ i ih=>
   cases i with
   |zero=>exact Zgi f a b
   |succ i=>
    show swapF f a b (iter (swapF f a b) b (i+1))=f (iter f a (i+1));rw[ih (by omega) (by omega),Zdq (nea _ (by omega) (by omega)) (neb _ (by omega) (by omega))]
 have up2:∀i,1<=i->j+i<=per f a->iter (swapF f a b) a i=iter f a (j+i):=λi h1 h2=>by
  induction i with
  |zero=>omega
  |succ i ih=>
   cases i with
   |zero=>
    show swapF f a b a=f (iter f a j);rw[Zfd,ej]
   |succ i=>
    show swapF f a b (iter (swapF f a b) a (i+1))=f (iter f a (j+(i+1)));rw[ih (by omega) (by omega),Zdq (nea _ (by omega) (by omega)) (neb _ (by omega) (by omega))]
 refine⟨j,hj0,hj,ej,λy=>⟨λhy=>?_,?_⟩,λy=>⟨λhy=>?_,?_⟩⟩
 ·refine Zdv (S:=λy=>∃i,1<=i/\i<=j/\iter f a i=y) ⟨j,hj0,Wah _,ej⟩ (λx ⟨i,h1,h2,e⟩=>?_) y hy
  by_cases c:i=j
  ·have:x=b:=by rw[<- e,c,ej]
   exact⟨1,Wah _,hj0,by rw[this,Zgi];rfl⟩
  ·refine⟨i+1,by omega,by omega,?_⟩
   rw[<- e,Zdq (nea _ (by omega) (by omega)) (neb _ c (by omega))];rfl
 ·rintro⟨i,h1,h2,rfl⟩
  rw[<- up1 i h1 h2];exact Za6 G b0 b1 i
 ·refine Zdv (S:=λy=>∃i,(i=0\/j<i)/\i<per f a/\iter f a i=y) ⟨0,.inl rfl,O.pos,rfl⟩ (λx ⟨i,h1,h2,e⟩=>?_) y hy
  have step:∀k,j<k+1->k+1<=per f a->∃i,(i=0\/j<i)/\i<per f a/\iter f a i=f (iter f a k):=λk hk1 hk2=>by
   by_cases c:k+1=per f a
   ·refine⟨0,.inl rfl,O.pos,?_⟩
    have:=O.back;rw[<- c]at this;exact this.symm
   ·exact⟨k+1,.inr hk1,by omega,rfl⟩
  rcases h1 with h1|h1
  ·subst h1
   have:x=a:=e.symm;rw[this,Zfd,<- ej];exact step j (by omega) (by omega)
  ·rw[<- e,Zdq (nea _ (by omega) h2) (neb _ (by omega) h2)]
   exact step i (by omega) (by omega)
 ·rintro⟨i,h1,h2,rfl⟩
  rcases h1 with h1|h1
  ·subst h1;exact Zcw G a0 a1
  ·have:=up2 (i-j) (by omega) (by omega)
   rw[show j+(i-j)=i by omega]at this;rw[<- this];exact Za6 G a0 a1 _
theorem Zkx (Pd:Nat->Bool) (hP:∀e:Nat,(e:Int)∈orb f a->Pd e=Pd a.toNat):cnt (swapF f a b) m Pd=cnt f m Pd+(if Pd a.toNat=true then 1 else 0):=by
 have O:=Zc2 F a0 a1;have G:=Zd1 F a0 a1 b0 b1;obtain⟨j,hj0,hj,ej,L1,L2⟩:=halves F a0 a1 b0 b1 hab hin;have whole:∀y,y∈orb f a↔y∈orb (swapF f a b) b\/y∈orb (swapF f a b) a:=λy=>by
  rw[L1,L2];constructor
  ·intro hy
   obtain⟨i,hi,e⟩:=Zaw.mp hy;by_cases c:1<=i/\i<=j
   ·exact .inl ⟨i,c.1,c.2,e⟩
   ·exact .inr ⟨i,by omega,hi,e⟩
  ·rintro(⟨i,h1,h2,rfl⟩|⟨i,h1,h2,rfl⟩) <;> exact Za6 F a0 a1 i
 have apart:∀y,y∈orb (swapF f a b) b->y∈orb (swapF f a b) a->False:=λy h1 h2=>by
  obtain⟨i,i1,i2,e1⟩:=(L1 y).mp h1;obtain⟨k,k1,k2,e2⟩:=(L2 y).mp h2;have:=O.nd i k (by omega) k2 (e1.trans e2.symm);omega
 -- outside nothing changes
 have out:∀e:Nat,e<m->(e:Int) ∉ orb f a->leastB (swapF f a b) e=leastB f e:=λe he hn=>by
  have:=Znt F (g:=swapF f a b) (S:=λx=>x∈orb f a) (λx h0 h1 hx=>Zdq (λz=>hx (by rw[z];exact Zcw F a0 a1)) (λz=>hx (by rw[z];exact hin)))
   (λx h0 h1 hx hf=>hx (Zbq F a0 a1 hf (Zca F h0 h1 (Za6 F h0 h1 1)))) G (e:=(e:Int)) (by omega) (by omega) hn
  unfold leastB;rw[decide_eq_decide];exact⟨λh x hx=>h x ((this x).mpr hx),λh x hx=>h x ((this x).mp hx)⟩
 unfold cnt;rw[Zbx (λe:Nat=>decide ((e:Int)∈orb f a)) ((Wai m).filter λe=>leastB (swapF f a b) e && Pd e),Zbx (λe:Nat=>decide ((e:Int)∈orb f a)) ((Wai m).filter λe=>leastB f e && Pd e)];rw[Wbu,Wbu,Wbu,Wbu];have eout:(Wai m).filter (λe:Nat=>(!decide ((e:Int)∈orb f a)) && (leastB (swapF f a b) e && Pd e))=(Wai m).filter λe:Nat=>(!decide ((e:Int)∈orb f a)) && (leastB f e && Pd e):=by
  apply Wce;intro e he;rw[Waw]at he;by_cases c:(e:Int)∈orb f a
  ·rw[decide_eq_true c];rfl
  ·rw[out e he c]
 rw[eout];by_cases hp:Pd a.toNat=true
 ·rw[if_pos hp]
  have i1:((Wai m).filter λe:Nat=>decide ((e:Int)∈orb f a) && (leastB f e && Pd e)).length=1:=by
   rw[<- Zgo F a0 a1 (λe:Nat=>decide ((e:Int)∈orb f a)) λe he=>decide_eq_true_iff];congr 1;apply Wce;intro e he;by_cases c:(e:Int)∈orb f a
   ·rw[decide_eq_true c,hP e c,hp,Wei,Wcu]
   ·rw[decide_eq_false c,Wcc,Wcy]
  have i2:((Wai m).filter λe:Nat=>decide ((e:Int)∈orb f a) && (leastB (swapF f a b) e && Pd e)).length=2:=by
   rw[Zbx (λe:Nat=>decide ((e:Int)∈orb (swapF f a b) b)) ((Wai m).filter λe:Nat=>decide ((e:Int)∈orb f a) && (leastB (swapF f a b) e && Pd e)),Wbu,Wbu];have k1:=Zgo G b0 b1 (λe:Nat=>decide ((e:Int)∈orb (swapF f a b) b)) λe he=>decide_eq_true_iff;have k2:=Zgo G a0 a1 (λe:Nat=>decide ((e:Int)∈orb (swapF f a b) a)) λe he=>decide_eq_true_iff;have e1:(Wai m).filter (λe:Nat=>decide ((e:Int)∈orb (swapF f a b) b) && (decide ((e:Int)∈orb f a) && (leastB (swapF f a b) e && Pd e)))=(Wai m).filter λe:Nat=>leastB (swapF f a b) e && decide ((e:Int)∈orb (swapF f a b) b):=by
    apply Wce;intro e he;by_cases c:(e:Int)∈orb (swapF f a b) b
    ·have c2:=(whole _).mpr (.inl c)
     rw[decide_eq_true c,decide_eq_true c2,hP e c2,hp,Wcu,Wcu]
    ·rw[decide_eq_false c,Wcc,Wcy]
   have e2:(Wai m).filter (λe:Nat=>(!decide ((e:Int)∈orb (swapF f a b) b)) && (decide ((e:Int)∈orb f a) && (leastB (swapF f a b) e && Pd e)))=(Wai m).filter λe:Nat=>leastB (swapF f a b) e && decide ((e:Int)∈orb (swapF f a b) a):=by
    apply Wce;intro e he;by_cases c:(e:Int)∈orb (swapF f a b) a
    ·have c2:=(whole _).mpr (.inr c)
     have c3:(e:Int) ∉ orb (swapF f a b) b:=λz=>apart _ z c;rw[decide_eq_true c,decide_eq_false c3,decide_eq_true c2,hP e c2,hp,Wd9,Wcu,Wcu]
    ·rw[decide_eq_false c,Wcy]
     by_cases c3:(e:Int)∈orb (swapF f a b) b
     ·rw[decide_eq_true c3];rfl
     ·have c4:(e:Int) ∉ orb f a:=λz=>((whole _).mp z).elim c3 c
      rw[decide_eq_false c4,Wcc,Wcy]
   rw[e1,e2,k1,k2]
  rw[i1,i2];omega
 ·rw[if_neg hp]
  have z:∀g:Int->Int,(Wai m).filter (λe:Nat=>decide ((e:Int)∈orb f a) && (leastB g e && Pd e))=[]:=λg=>by
   rw[List.filter_eq_nil_iff];intro e he;by_cases c:(e:Int)∈orb f a
   ·rw[hP e c,Wbt.mpr hp,Wcy,Wcy];exact Wan
   ·rw[decide_eq_false c,Wcc];exact Wan
  rw[z,z];rfl
end
section
variable {P:Program}{w:World}{K:W.Frag}{mg:Str->Option Value}{base:Heap}{f:Addr}{fd:FuncData}
theorem Zew:∀l:List Int,∃ms,Firsts ms l
 |[]=>⟨[],.nil,λx=>Iff.rfl⟩
 |x::l=>by
  obtain⟨ms,h1,h2⟩:=Zew l;by_cases c:x∈ms
  ·refine⟨ms,h1,λy=>?_⟩
   rw[Wal,h2];exact⟨.inr,λz=>z.elim (λq=>q ▸ (h2 x).mp c) id⟩
  ·refine⟨(ms.filter λy=>decide (y<x))++x::(ms.filter λy=>decide (x<y)),?_,λy=>?_⟩
   ·rw[List.pairwise_append,Wee]
    refine⟨List.Pairwise.filter _ h1,⟨λa ha=>?_,List.Pairwise.filter _ h1⟩,λa ha b hb=>?_⟩
    ·rw[Wa6,decide_eq_true_iff]at ha;exact ha.2
    ·rw[Wa6,decide_eq_true_iff]at ha
     rcases Wal.mp hb with z|z
     ·rw[z];exact ha.2
     ·rw[Wa6,decide_eq_true_iff]at z;omega
   ·rw[Wbd,Wal,Wal,Wa6,Wa6,decide_eq_true_iff,decide_eq_true_iff,h2]
    constructor
    ·rintro(z|z|z)
     ·exact .inr z.1
     ·exact .inl z
     ·exact .inr z.1
    ·rintro(z|z)
     ·exact .inr (.inl z)
     ·rcases Int.lt_trichotomy y x with q|q|q
      ·exact .inl ⟨z,q⟩
      ·exact .inr (.inl q)
      ·exact .inr (.inr ⟨z,q⟩)
theorem Zf6 {N:Nat}{ms:List Int}(h:Firsts ms (marksL N [])):ms=(Wai N).map λi:Nat=>(i:Int):=by
 refine Zdf h.1 ?_ λx=>(h.2 x).trans Iff.rfl;rw[Wcr];exact Wb2.imp λh=>by omega
end
section
variable {f:Int->Int}{m:Nat}(F:OneOne f m) {a b:Int}(a0:0<=a) (a1:a<(m:Int)) (b0:0<=b) (b1:b<(m:Int)) (hout:b ∉ orb f a)
include F a0 a1 b0 b1 hout
theorem joined:b∈orb (swapF f a b) a:=by
 have O:=Zc2 F b0 b1;have G:=Zd1 F a0 a1 b0 b1;have nea:∀i,iter f b i≠a:=λi q=>by
  have:=Za6 F b0 b1 i;rw[q]at this;exact hout (Zca F b0 b1 this)
 have neb:∀i,0<i->i<per f b->iter f b i≠b:=λi h1 h2 q=>by
  have:=O.nd i 0 h2 O.pos q;omega
 have up:∀i,1<=i->i<=per f b->iter (swapF f a b) a i=iter f b i:=λi h1 h2=>by
  induction i with
  |zero=>omega
  |succ i ih=>
   cases i with
   |zero=>exact Zfd f a b
   |succ i=>
    show swapF f a b (iter (swapF f a b) a (i+1))=f (iter f b (i+1));rw[ih (by omega) (by omega),Zdq (nea _) (neb _ (by omega) (by omega))]
 have:=Za6 G a0 a1 (per f b);rw[up _ O.pos (Wah _),O.back]at this;exact this
theorem Zo9:∀y∈orb (swapF f a b) a,y∈orb f a\/y∈orb f b:=by
 refine Zdv (S:=λy=>y∈orb f a\/y∈orb f b) (.inl (Zcw F a0 a1)) λx hx=>?_;have st:∀{e x:Int},0<=e->e<(m:Int)->x∈orb f e->f x∈orb f e:=λ{e x} e0 e1 h=>by
  have r:=Zev F e0 e1 h;exact Zbq F e0 e1 h (Za6 F r.1 r.2 1)
 by_cases h1:x=a
 ·rw[h1,Zfd];exact .inr (st b0 b1 (Zcw F b0 b1))
 ·by_cases h2:x=b
  ·rw[h2,Zgi];exact .inl (st a0 a1 (Zcw F a0 a1))
  ·rw[Zdq h1 h2]
   rcases hx with hx|hx
   ·exact .inl (st a0 a1 hx)
   ·exact .inr (st b0 b1 hx)
theorem Zpz (Pd:Nat->Bool) (hPa:∀e:Nat,(e:Int)∈orb f a->Pd e=Pd a.toNat) (hPb:∀e:Nat,(e:Int)∈orb f b->Pd e=Pd a.toNat):cnt f m Pd=cnt (swapF f a b) m Pd+(if Pd a.toNat=true then 1 else 0):=by
 have G:=Zd1 F a0 a1 b0 b1;have hab:a≠b:=λz=>hout (by rw[<- z];exact Zcw F a0 a1);have:=Zkx G a0 a1 b0 b1 hab (joined F a0 a1 b0 b1 hout) Pd λe he=>(Zo9 F a0 a1 b0 b1 hout _ he).elim (hPa e) (hPb e);rw[Zn3]at this;exact this
end
def sgI (ts:List (Int × Int)) (o:List (List Int)) (k:Nat) (x:Int):Int:=if x.toNat / 2<k then onI ts o x else onI ts o ((partner x.toNat:Nat):Int)
section
variable {N:Nat}{ts:List (Int × Int)}{o:List (List Int)}(hW:WebOk (N:Int) ts) (hO:OrdOk (N:Int) ts o)
include hW hO
theorem Zkg:OneOne (sgI ts o 0) (2*ts.length):=by
 have F:=Zd5 hW hO;have e:∀x:Int,sgI ts o 0 x=onI ts o ((partner x.toNat:Nat):Int):=λx=>by unfold sgI;rw[if_neg (by omega)]
 refine⟨λx h0 h1=>?_,λx y x0 x1 y0 y1 q=>?_⟩
 ·rw[e]
  have:=Za0 (show x.toNat<2*ts.length by omega);exact F.to _ (by omega) (by omega)
 ·rw[e,e]at q
  have hx:=Za0 (show x.toNat<2*ts.length by omega);have hy:=Za0 (show y.toNat<2*ts.length by omega);have:=F.inj _ _ (by omega) (by omega) (by omega) (by omega) q;have e1:partner x.toNat=partner y.toNat:=by omega
  have:=congrArg partner e1;rw[Zao,Zao]at this;omega
omit hW hO in
theorem Zh3 (k:Nat) (x:Int) (h0:0<=x):sgI ts o (k+1) x=swapF (sgI ts o k) ((2*k:Nat):Int) ((2*k+1:Nat):Int) x:=by
 have p1:partner (2*k)=2*k+1:=by unfold partner;rw[if_pos (by omega)]
 have p2:partner (2*k+1)=2*k:=by unfold partner;rw[if_neg (by omega)];omega
 by_cases h1:x=((2*k:Nat):Int)
 ·subst h1
  rw[Zfd];unfold sgI;rw[if_pos (by omega),if_neg (by omega),Wap,p2]
 ·by_cases h2:x=((2*k+1:Nat):Int)
  ·subst h2
   rw[Zgi];unfold sgI;rw[if_pos (by omega),if_neg (by omega),Wap,p1]
  ·rw[Zdq h1 h2]
   unfold sgI;by_cases c:x.toNat / 2<k
   ·rw[if_pos (by omega),if_pos c]
   ·rw[if_neg (by omega),if_neg c]
theorem Zha:∀k,k<=ts.length->OneOne (sgI ts o k) (2*ts.length)
 |0,_=>Zkg hW hO
 |k+1,hk=>by
  have F:=Zha k (by omega);have G:=Zd1 F (a:=((2*k:Nat):Int)) (b:=((2*k+1:Nat):Int)) (by omega) (by omega) (by omega) (by omega);exact⟨λx h0 h1=>by rw[Zh3 k x h0];exact G.to x h0 h1,λx y x0 x1 y0 y1 q=>G.inj x y x0 x1 y0 y1 (by rw[<- Zh3 k x x0,<- Zh3 k y y0];exact q)⟩
theorem Zui {k:Nat}(hk:k<=ts.length) {x:Int}(h0:0<=x) (h1:x<((2*ts.length:Nat):Int)):(marksL N (ts.take k)).getD (placeAt ts (sgI ts o k x).toNat).toNat 0=(marksL N (ts.take k)).getD (placeAt ts x.toNat).toNat 0:=by
 have hx:x.toNat<2*ts.length:=by omega
 unfold sgI;split
 ·rename_i c
  obtain⟨g,hg,pg,eg⟩:=Zeb hW hO (Za0 hx);have ht:x.toNat / 2<ts.length:=by omega
  have hm:ts[x.toNat / 2]∈ts.take k:=by
   refine Wat (i:=x.toNat / 2) ?_;rw[Wdx,if_pos c,Waa ht]
  have tm:=Zje hW k hk _ hm;unfold onI;rw[<- eg,Wap,pg];have e2:partner x.toNat / 2=x.toNat / 2:=by unfold partner;split <;> omega
  unfold placeAt;rw[e2,Waa ht];dsimp only;by_cases c2:x.toNat % 2=0
  ·rw[if_pos c2,if_neg (by unfold partner;rw[if_pos c2];omega)];exact tm.symm
  ·rw[if_neg c2,if_pos (by unfold partner;rw[if_neg c2];omega)];exact tm
 ·obtain⟨g,hg,pg,eg⟩:=Zeb hW hO hx
  unfold onI;rw[Wap,Zao,<- eg,Wap,pg]
theorem Zgk {k:Nat}(hk:k<=ts.length) {x y:Int}(h0:0<=x) (h1:x<((2*ts.length:Nat):Int)) (hy:y∈orb (sgI ts o k) x):(marksL N (ts.take k)).getD (placeAt ts y.toNat).toNat 0=(marksL N (ts.take k)).getD (placeAt ts x.toNat).toNat 0:=by
 obtain⟨j,hj,rfl⟩:=Zaw.mp hy;clear hy hj
 induction j with
 |zero=>rfl
 |succ j ih=>
  have r:=Zbe (Zha hW hO k hk) h0 h1 j;show (marksL N (ts.take k)).getD (placeAt ts (sgI ts o k (iter (sgI ts o k) x j)).toNat).toNat 0=_;rw[Zui hW hO hk r.1 r.2];exact ih
end
structure Own (N:Nat) (ts:List (Int × Int)) (S:Int->Bool):Prop where
 tie:∀t∈ts,S t.1=S t.2
theorem Zei {N:Nat}{ts:List (Int × Int)}{S:Int->Bool}(hW:WebOk (N:Int) ts) (hS:Own N ts S):∀k,k<=ts.length->∀p:Nat,p<N->S ((marksL N (ts.take k)).getD p 0)=S (p:Int)
 |0,_,p,hp=>by
  rw[Wdi];show S (((Wai N).map λi:Nat=>(i:Int)).getD p 0)=_;rw[Wae,Wad,Wc9 hp];rfl
 |k+1,hk,p,hp=>by
  have hlt:k<ts.length:=hk;have hl:=Zbh N (ts.take k);have ht:=hW.tie _ (Wa5 hlt);have ih:=Zei hW hS k (by omega);rw[Zcu (Waa hlt),Zc6 _ _ _ (by omega)];have s1:=ih ts[k].1.toNat (by omega);have s2:=ih ts[k].2.toNat (by omega);have st:=hS.tie _ (Wa5 hlt);rw[show ((ts[k].1.toNat:Nat):Int)=ts[k].1 by omega]at s1;rw[show ((ts[k].2.toNat:Nat):Int)=ts[k].2 by omega]at s2;split
  ·rename_i c
   have sp:=ih p hp;rw[c]at sp;rw[<- sp];unfold loI hiI;split <;> split
   all_goals first|rfl|rw[s2,s1,st]|rw[s1,s2,st]
  ·exact ih p hp
def inS (S:Int->Bool) (l:List Int):Nat:=(l.filter S).length
def tiesS (S:Int->Bool) (ts:List (Int × Int)):Nat:=(ts.filter λt=>S t.1).length
def endS (ts:List (Int × Int)) (S:Int->Bool) (e:Nat):Bool:=S (placeAt ts e)
section
variable {N:Nat}{ts:List (Int × Int)}{o:List (List Int)}{S:Int->Bool}(hW:WebOk (N:Int) ts) (hO:OrdOk (N:Int) ts o) (hS:Own N ts S)
include hW hO hS
theorem Zhu {k:Nat}(hk:k<=ts.length) {x:Int}(h0:0<=x) (h1:x<((2*ts.length:Nat):Int)) (e:Nat) (he:(e:Int)∈orb (sgI ts o k) x):endS ts S e=endS ts S x.toNat:=by
 have r:=Zev (Zha hW hO k hk) h0 h1 he;have q:=Zgk hW hO hk h0 h1 he;rw[Wap]at q;have p1:=Zdh hW (show e<2*ts.length by omega);have p2:=Zdh hW (show x.toNat<2*ts.length by omega);have m1:=Zei hW hS k hk (placeAt ts e).toNat (by omega);have m2:=Zei hW hS k hk (placeAt ts x.toNat).toNat (by omega);rw[q,m2]at m1;unfold endS;rw[show ((placeAt ts e).toNat:Int)=placeAt ts e by omega,show ((placeAt ts x.toNat).toNat:Int)=placeAt ts x.toNat by omega]at m1;exact m1.symm
omit hW hO hS in
theorem Ziv {f g:Int->Int}{m:Nat}(F:OneOne f m) (h:∀x,0<=x->x<(m:Int)->g x=f x) (G:OneOne g m) (Pd:Nat->Bool):cnt g m Pd=cnt f m Pd:=by
 unfold cnt;congr 1;apply Wce;intro e he;rw[Waw]at he;have:=Znt F (g:=g) (S:=λ_=>False) (λx h0 h1 _=>h x h0 h1) (λ_ _ _ h=>h) G (e:=(e:Int)) (by omega) (by omega) (λh=>h);congr 1;unfold leastB;rw[decide_eq_decide];exact⟨λh x hx=>h x ((this x).mpr hx),λh x hx=>h x ((this x).mp hx)⟩
theorem Zql {k:Nat}(hk:k<ts.length) :
  (cnt (sgI ts o (k+1)) (2*ts.length) (endS ts S)=cnt (sgI ts o k) (2*ts.length) (endS ts S)+(if S ts[k].1=true then 1 else 0)/\(marksL N (ts.take k)).getD ts[k].1.toNat 0=(marksL N (ts.take k)).getD ts[k].2.toNat 0) ∨
  cnt (sgI ts o k) (2*ts.length) (endS ts S)=cnt (sgI ts o (k+1)) (2*ts.length) (endS ts S)+(if S ts[k].1=true then 1 else 0):=by
 have F:=Zha hW hO k (by omega);have F2:=Zha hW hO (k+1) (by omega);have a0:(0:Int)<=((2*k:Nat):Int):=by omega
 have a1:((2*k:Nat):Int)<((2*ts.length:Nat):Int):=by omega
 have b0:(0:Int)<=((2*k+1:Nat):Int):=by omega
 have b1:((2*k+1:Nat):Int)<((2*ts.length:Nat):Int):=by omega
 have G:=Zd1 F a0 a1 b0 b1;have pa:placeAt ts (2*k)=ts[k].1:=by
  unfold placeAt;rw[show 2*k / 2=k by omega,Waa hk];dsimp only;rw[if_pos (by omega)]
 have pb:placeAt ts (2*k+1)=ts[k].2:=by
  unfold placeAt;rw[show (2*k+1) / 2=k by omega,Waa hk];dsimp only;rw[if_neg (by omega)]
 have ea:endS ts S (((2*k:Nat):Int)).toNat=S ts[k].1:=by unfold endS;rw[Wap,pa]
 have eb:endS ts S (((2*k+1:Nat):Int)).toNat=S ts[k].1:=by unfold endS;rw[Wap,pb,hS.tie _ (Wa5 hk)]
 rw[Ziv G (λx h0 h1=>Zh3 k x h0) F2];by_cases c:((2*k+1:Nat):Int)∈orb (sgI ts o k) ((2*k:Nat):Int)
 ·left
  have q:=Zkx F a0 a1 b0 b1 (by omega) c (endS ts S) λe he=>Zhu hW hO hS (by omega) a0 a1 e he;rw[ea]at q;refine⟨q,?_⟩;have mk:=Zgk hW hO (k:=k) (by omega) a0 a1 c;rw[Wap,Wap,pa,pb]at mk;exact mk.symm
 ·right
  have q:=Zpz F a0 a1 b0 b1 c (endS ts S) (λe he=>Zhu hW hO hS (by omega) a0 a1 e he) λe he=>by
   rw[Zhu hW hO hS (by omega) b0 b1 e he,ea,eb]
  rw[ea]at q;exact q
omit hO in
theorem Zl3 {k:Nat}(hk:k<ts.length) {ms ms2:List Int}(h:Firsts ms (marksL N (ts.take k))) (h2:Firsts ms2 (marksL N (ts.take (k+1)))) :
  ((marksL N (ts.take k)).getD ts[k].1.toNat 0=(marksL N (ts.take k)).getD ts[k].2.toNat 0->inS S ms2=inS S ms)/\inS S ms<=inS S ms2+(if S ts[k].1=true then 1 else 0)/\(S ts[k].1=false->inS S ms2=inS S ms):=by
 have hl:=Zbh N (ts.take k);have ht:=hW.tie _ (Wa5 hk);rw[Zcu (Waa hk)]at h2;by_cases c:(marksL N (ts.take k)).getD ts[k].1.toNat 0=(marksL N (ts.take k)).getD ts[k].2.toNat 0
 ·rw[Zp9 c]at h2
  rw[h2.uniq h];exact⟨λ_=>rfl,Nat.le_add_right _ _,λ_=>rfl⟩
 ·have G:=Zl6 hl (by omega) (by omega) c
  have e:=G.firsts h h2;have s1:=Zei hW hS k (by omega) ts[k].1.toNat (by omega);have s2:=Zei hW hS k (by omega) ts[k].2.toNat (by omega);have st:=hS.tie _ (Wa5 hk);rw[show ((ts[k].1.toNat:Nat):Int)=ts[k].1 by omega]at s1;rw[show ((ts[k].2.toNat:Nat):Int)=ts[k].2 by omega]at s2;have sh:S (hiI ((marksL N (ts.take k)).getD ts[k].1.toNat 0) ((marksL N (ts.take k)).getD ts[k].2.toNat 0))=S ts[k].1:=by
   unfold hiI;split
   ·rw[s2,st]
   ·exact s1
  obtain⟨hi,ehi⟩:∃hi,hiI ((marksL N (ts.take k)).getD ts[k].1.toNat 0) ((marksL N (ts.take k)).getD ts[k].2.toNat 0)=hi:=⟨_,rfl⟩;rw[ehi]at e sh;have q:=Zbx (λg:Int=>decide (g=hi)) (ms.filter S);rw[Wbu,Wbu]at q;have e2:ms2.filter S=ms.filter λg=>(!decide (g=hi)) && S g:=by
   rw[e,Wbu];apply Wce;intro g _;by_cases z:g=hi
   ·rw[decide_eq_true z,decide_eq_false (by simpa using z),Wcy];rfl
   ·rw[decide_eq_false z,decide_eq_true z,Wei];rfl
  have hone:(ms.filter λg=>decide (g=hi) && S g).length<=(if S ts[k].1=true then 1 else 0):=by
   by_cases z:S ts[k].1=true
   ·rw[if_pos z]
    have:=Zbw (l:=ms.filter λg=>decide (g=hi) && S g) (m:=[hi]) (List.Pairwise.filter _ (h.1.imp λz=>Int.ne_of_lt z)) λx hx=>by
     rw[Wa6,Wbg,decide_eq_true_iff]at hx;rw[Wbc];exact hx.2.1
    exact this
   ·rw[if_neg z]
    have:(ms.filter λg=>decide (g=hi) && S g)=[]:=by
     rw[List.filter_eq_nil_iff];intro x hx w;rw[Wbg,decide_eq_true_iff]at w;rw[w.1,sh]at w;exact z w.2
    rw[this];exact Wah _
  unfold inS;rw[e2];refine⟨λz=>absurd z c,by omega,λz=>?_⟩;rw[if_neg (by rw[z];exact Wan)]at hone;omega
omit hW hO hS in
theorem Zou {k:Nat}(hk:k<ts.length):tiesS S (ts.take (k+1))=tiesS S (ts.take k)+(if S ts[k].1=true then 1 else 0):=by
 unfold tiesS;rw[Wb0,Waa hk,Wb1,Waq];congr 1;show (List.filter _ [ts[k]]).length=_;rw[Wbi];by_cases z:S ts[k].1=true
 ·rw[if_pos z,if_pos z];rfl
 ·rw[if_neg z,if_neg z];rfl
theorem euler {c0:Nat}{ms0:List Int}(h0:Firsts ms0 (marksL N [])) (hc:cnt (sgI ts o 0) (2*ts.length) (endS ts S)+c0=inS S ms0):∀k,k<=ts.length->∀ms,Firsts ms (marksL N (ts.take k)) →
  cnt (sgI ts o k) (2*ts.length) (endS ts S)+c0+inS S ms0<=2*inS S ms+tiesS S (ts.take k)/\(cnt (sgI ts o k) (2*ts.length) (endS ts S)+c0+inS S ms0) % 2=tiesS S (ts.take k) % 2
 |0,_,ms,h=>by
  rw[Wdi]at h ⊢;rw[h.uniq h0];show _<=2*inS S ms0+0/\_=0 % 2;omega
 |k+1,hk,ms,h=>by
  obtain⟨ms1,h1⟩:=Zew (marksL N (ts.take k));obtain⟨i1,i2⟩:=euler h0 hc k (by omega) ms1 h1;obtain⟨p1,p2,p3⟩:=Zl3 hW hS (show k<ts.length from hk) h1 h;rw[Zou (show k<ts.length from hk)];rcases Zql hW hO hS (show k<ts.length from hk) with ⟨q,mk⟩|q
  ·have:=p1 mk
   rw[this,q];split <;> omega
  ·by_cases z:S ts[k].1=true
   ·rw[if_pos z]at q p2 ⊢
    omega
   ·have:=p3 (Wbt.mpr z)
    rw[if_neg z]at q p2 ⊢;omega
end
def rowP (o:List (List Int)) (p:Nat):List Int:=o.getD p []
def loneS (S:Int->Bool) (N:Nat) (o:List (List Int)):Nat:=((Wai N).filter λp:Nat=>S (p:Int) && (rowP o p).isEmpty).length
section
variable {N:Nat}{ts:List (Int × Int)}{o:List (List Int)}{S:Int->Bool}(hW:WebOk (N:Int) ts) (hO:OrdOk (N:Int) ts o)
include hW hO
theorem Znr {e:Nat}:sgI ts o 0 (e:Int)=folOf ts o e:=by
 unfold sgI;rw[if_neg (by omega),Wap];unfold onI;rw[Wap,Zao]
theorem Zrq {p:Nat}{x:Int}{r:List Int}(hp:p<N) (hr:rowP o p=x::r):∃e:Nat,e<2*ts.length/\x=(e:Int)/\placeAt ts e=(p:Int)/\rowAt ts o e=x::r/\leastB (sgI ts o 0) e=true:=by
 have hl:=hO.len;have q:o[p]?=some (x::r):=by
  unfold rowP at hr;rw[Wae,Waa (by omega:p<o.length)]at hr;rw[Waa (by omega:p<o.length)];exact congrArg some hr
 have R:=hO.row p _ q;obtain⟨e,he,pe,ee⟩:=R.mem.mp (Wa4 ..);have er:rowAt ts o e=x::r:=by
  unfold rowAt;rw[pe,Wap];exact hr
 refine⟨e,he,ee.symm,pe,er,?_⟩;unfold leastB;rw[decide_eq_true_iff];have F:=Zkg hW hO;have inr:∀y∈orb (sgI ts o 0) (e:Int),y∈x::r:=Zdv (S:=λy=>y∈x::r) (by rw[ee];exact Wa4 ..) λy hy=>by
  obtain⟨k,hk,pk,ek⟩:=R.mem.mp hy;rw[<- ek,Znr hW hO];obtain⟨g,hg,pg,eg⟩:=Zeb hW hO hk;rw[<- eg];exact R.mem.mpr ⟨g,hg,pg.trans pk,rfl⟩
 intro y hy;rcases Wal.mp (inr y hy) with z|z
 ·rw[z,ee];exact Wdw _
 ·rw[ee];exact R.least y z
theorem Ze5 {e:Nat}(he:e<2*ts.length) (hl:leastB (sgI ts o 0) e=true):∃r,rowAt ts o e=(e:Int)::r:=by
 obtain⟨g1,g2,g3⟩:=Zbz hW hO he;have nd:=g2.nodup;obtain⟨i,hi⟩:=Wbv.mp g3;have hil:=(Waf.mp hi).1;have F:=Zkg hW hO;obtain⟨r,er⟩:∃r,rowAt ts o e=r:=⟨_,rfl⟩;have nxt:∀a (ha:a<r.length),sgI ts o 0 r[a]=r.getD (nxI r.length a) 0:=λa ha=>by
  subst er;obtain⟨k,hk,pk,ek⟩:=g2.mem.mp (Wa5 ha);rw[<- ek,Znr hW hO];unfold folOf;have:rowAt ts o k=rowAt ts o e:=by unfold rowAt;rw[pk]
  rw[this];exact Zem nd (by rw[ek];exact Waa ha)
 rw[er]at hi hil;have up:∀j,i+j<r.length->iter (sgI ts o 0) (e:Int) j=r.getD (i+j) 0:=λj=>by
  induction j with
  |zero=>
   intro _;rw[Wae,Nat.add_zero,hi];rfl
  |succ j ih=>
   intro hj;show sgI ts o 0 (iter (sgI ts o 0) (e:Int) j)=_;rw[ih (by omega),Wae (i:=i+j),Waa (by omega:i+j<r.length)];show sgI ts o 0 r[i+j]=_;rw[nxt _ (by omega)];unfold nxI;rw[if_neg (by omega)];rfl
 have hmem:r.getD 0 0∈orb (sgI ts o 0) (e:Int):=by
  have:=Za6 F (e:=(e:Int)) (by omega) (by omega) (r.length-i);rw[show r.length-i=(r.length-1-i)+1 by omega]at this;have e1:iter (sgI ts o 0) (e:Int) ((r.length-1-i)+1)=sgI ts o 0 (iter (sgI ts o 0) (e:Int) (r.length-1-i)):=rfl;rw[e1,up _ (by omega),Wae,Waa (by omega:i+(r.length-1-i)<r.length)]at this;have e2:sgI ts o 0 r[i+(r.length-1-i)]=r.getD 0 0:=by
   rw[nxt _ (by omega)];unfold nxI;rw[if_pos (by omega)]
  rw[<- e2];exact this
 have hle:=of_decide_eq_true (show decide (∀z∈orb (sgI ts o 0) (e:Int),(e:Int)<=z)=true from hl) _ hmem;rw[er]at g2 g3;rw[er];cases r with
 |nil=>simp at g3
 |cons x r=>
  refine⟨r,?_⟩;have hle:(e:Int)<=x:=hle;rcases Wal.mp g3 with z|z
  ·rw[z]
  ·have:=g2.least _ z
   rw[show (e:Int)=x by omega]
theorem Zqg:cnt (sgI ts o 0) (2*ts.length) (endS ts S)=((Wai N).filter λp:Nat=>S (p:Int) && !(rowP o p).isEmpty).length:=by
 unfold cnt;have rowEq:∀e:Nat,rowAt ts o e=rowP o (placeAt ts e).toNat:=λe=>rfl;apply Nat.le_antisymm
 ·rw[<- Wab (f:=λe=>(placeAt ts e).toNat)]
  refine Zbw ?_ λp hp=>?_
  ·unfold List.Nodup
   rw[Wcr];refine List.Pairwise.imp_of_mem (R:=(· < ·)) (λ{a b} ha hb hab hq=>?_) (List.Pairwise.filter _ Wb2);rw[Wa6,Waw,Wbg]at ha hb;obtain⟨r1,e1⟩:=Ze5 hW hO ha.1 ha.2.1;obtain⟨r2,e2⟩:=Ze5 hW hO hb.1 hb.2.1;rw[rowEq]at e1 e2;rw[hq,e2]at e1;have:=(List.cons.inj e1).1;omega
  ·obtain⟨e,he,rfl⟩:=Way.mp hp
   rw[Wa6,Waw,Wbg]at he;have pl:=Zdh hW he.1;obtain⟨r1,e1⟩:=Ze5 hW hO he.1 he.2.1;rw[rowEq]at e1;rw[Wa6,Waw,Wbg,e1,show (((placeAt ts e).toNat:Nat):Int)=placeAt ts e by omega];exact⟨by omega,he.2.2,rfl⟩
 ·rw[<- Wab (f:=λp=>((rowP o p).headD 0).toNat) (as:=(Wai N).filter λp:Nat=>S (p:Int) && !(rowP o p).isEmpty)]
  have hd:∀p:Nat,p<N->(!(rowP o p).isEmpty)=true->∃e:Nat,e<2*ts.length/\((rowP o p).headD 0).toNat=e/\placeAt ts e=(p:Int)/\leastB (sgI ts o 0) e=true:=λp hp hne=>by
   cases z:rowP o p with
   |nil=>rw[z]at hne;cases hne
   |cons x r=>
    obtain⟨e,he,ex,pe,_,hl⟩:=Zrq hW hO hp z;refine⟨e,he,?_,pe,hl⟩;show x.toNat=e;rw[ex,Wap]
  refine Zbw ?_ λq hq=>?_
  ·unfold List.Nodup
   rw[Wcr];refine List.Pairwise.imp_of_mem (R:=(· < ·)) (λ{a b} ha hb hab hq=>?_) (List.Pairwise.filter _ Wb2);rw[Wa6,Waw,Wbg]at ha hb;obtain⟨e1,_,q1,p1,_⟩:=hd a ha.1 ha.2.2;obtain⟨e2,_,q2,p2,_⟩:=hd b hb.1 hb.2.2;have:e1=e2:=by rw[<- q1,<- q2];exact hq
   subst this;rw[p1]at p2;omega
  ·obtain⟨p,hp,rfl⟩:=Way.mp hq
   rw[Wa6,Waw,Wbg]at hp;obtain⟨e,he,q1,p1,hl⟩:=hd p hp.1 hp.2.2;rw[q1,Wa6,Waw,Wbg];refine⟨he,hl,?_⟩;unfold endS;rw[p1];exact hp.2.1
theorem Zut {ms0:List Int}(h:Firsts ms0 (marksL N [])):cnt (sgI ts o 0) (2*ts.length) (endS ts S)+loneS S N o=inS S ms0:=by
 rw[Zqg hW hO,Zf6 h];unfold inS loneS;rw[List.filter_map,Wab];have:=Zbx (λp:Nat=>(rowP o p).isEmpty) ((Wai N).filter λp:Nat=>S (p:Int));rw[Wbu,Wbu]at this;have e0:((Wai N).filter (S∘λi:Nat=>(i:Int)))=(Wai N).filter λp:Nat=>S (p:Int):=rfl;rw[e0,this];have e1:((Wai N).filter λp:Nat=>S (p:Int) && (rowP o p).isEmpty)=(Wai N).filter λp:Nat=>(rowP o p).isEmpty && S (p:Int):=by
  apply Wce;intro p _;exact Wej _ _
 have e2:((Wai N).filter λp:Nat=>S (p:Int) && !(rowP o p).isEmpty)=(Wai N).filter λp:Nat=>(!(rowP o p).isEmpty) && S (p:Int):=by
  apply Wce;intro p _;exact Wej _ _
 rw[e1,e2];omega
theorem Zsz {e:Int}(h0:0<=e) (h1:e<((2*ts.length:Nat):Int)):onI ts o e=sgI ts o ts.length e:=by
 unfold sgI;rw[if_pos (by omega)]
theorem Zn2 (hS:Own N ts S) {ms:List Int}(hm:Firsts ms (marksL N ts)):cnt (onI ts o) (2*ts.length) (endS ts S)+loneS S N o+inS S ((Wai N).map λi:Nat=>(i:Int))<=2*inS S ms+tiesS S ts/\(cnt (onI ts o) (2*ts.length) (endS ts S)+loneS S N o+inS S ((Wai N).map λi:Nat=>(i:Int))) % 2=tiesS S ts % 2:=by
 obtain⟨ms0,h0⟩:=Zew (marksL N []);have b:=Zut (S:=S) hW hO h0;have e:=euler hW hO hS h0 b ts.length (Wah _) ms (by rw[Wby];exact hm);rw[Wby]at e;rw[Zf6 h0]at e;rw[Ziv (Zha hW hO ts.length (Wah _)) (λx h0 h1=>Zsz hW hO h0 h1) (Zd5 hW hO)];exact e
end
noncomputable def holesI (n:Int) (ts:List (Int × Int)) (o:List (List Int)) (ms:List Int):Int:=(2*(ms.length:Int)-n+(ts.length:Int)-((allF ts o).length:Int)) / 2
section
variable {N:Nat}{ts:List (Int × Int)}{o:List (List Int)}(hW:WebOk (N:Int) ts) (hO:OrdOk (N:Int) ts o)
include hW
include hO
theorem Zlh {ms:List Int}(hm:Firsts ms (marksL N ts)):0<=holesI (N:Int) ts o ms/\2*holesI (N:Int) ts o ms+((allF ts o).length:Int)+(N:Int)=2*(ms.length:Int)+(ts.length:Int):=by
 obtain⟨h1,h2⟩:=Zn2 (S:=λ_=>true) hW hO ⟨λ_ _=>rfl⟩ hm;have al:=Zl8 hW hO;have e1:cnt (onI ts o) (2*ts.length) (endS ts λ_=>true)=((Wai (2*ts.length)).filter λe=>leastB (onI ts o) e && true).length:=rfl;have e2:inS (λ_=>true) ms=ms.length:=by unfold inS;rw[Wbk.mpr (λ_ _=>rfl)]
 have e3:inS (λ_=>true) ((Wai N).map λi:Nat=>(i:Int))=N:=by unfold inS;rw[Wbk.mpr (λ_ _=>rfl),Wab,Wa7]
 have e4:tiesS (λ_=>true) ts=ts.length:=by unfold tiesS;rw[Wbk.mpr (λ_ _=>rfl)]
 have e5:loneS (λ_=>true) N o=lone o:=by
  have hl:=hO.len;unfold loneS lone;have eo:o=(Wai N).map λp=>rowP o p:=by
   apply Wer
   ·rw[Wab,Wa7];omega
   ·intro i h1 h2
    rw[List.getElem_map,Wcm];unfold rowP;rw[Wae,Waa h1];rfl
  conv=>rhs;rw[eo]
  rw[List.filter_map,Wab];rfl
 rw[e1,e2,e3,e4,e5]at h1;rw[e1,e3,e4,e5]at h2;unfold holesI;omega
end
section
variable {N:Nat}{ts:List (Int × Int)}{o:List (List Int)}(hW:WebOk (N:Int) ts) (hO:OrdOk (N:Int) ts o) {ms:List Int}(hm:Firsts ms (marksL N ts))
include hW hm
include hO
end
def Rising (R:List (List Int)):Prop:=R.Pairwise λa b=>rlt b a=false
theorem Zi0 {A B:List (List Int)}(ha:Rising A) (hb:Rising B) (h:A.Perm B):A=B:=
 List.Perm.eq_of_pairwise (le:=λa b=>rlt b a=false) (λa b _ _ h1 h2=>Zjt a b h2 h1) ha hb h
section
variable {n:Int}{ts:List (Int × Int)}{o:List (List Int)}(hW:WebOk n ts) (hO:OrdOk n ts o)
include hW hO
theorem Zil {e:Nat}(he:e<2*ts.length) (hl:leastB (onI ts o) e=true):∃l,orb (onI ts o) (e:Int)=(e:Int)::l/\∀a∈l,(e:Int)<=a:=by
 obtain⟨l,hl'⟩:=Zij (Zd5 hW hO) (show (0:Int)<=(e:Int) by omega) (show (e:Int)<((2*ts.length:Nat):Int) by omega);refine⟨l,hl',λa ha=>?_⟩;unfold leastB at hl;rw[decide_eq_true_iff]at hl;exact hl a (by rw[hl'];exact Was _ ha)
theorem Zgf:Rising (allF ts o):=by
 unfold Rising allF;rw[List.pairwise_append];refine⟨?_,?_,λa ha b hb=>?_⟩
 ·rw[List.pairwise_replicate]
  exact Or.inr rfl
 ·unfold facesTo
  rw[Wcr];have:=List.Pairwise.filter (leastB (onI ts o)) (Wb2 (n:=2*ts.length));refine List.Pairwise.imp_of_mem (λ{a b} ha hb hab=>?_) this;have ha:=Wa6.mp ha;have hb:=Wa6.mp hb;obtain⟨l,h1,_⟩:=Zil hW hO (Waw.mp ha.1) ha.2;obtain⟨k,h2,_⟩:=Zil hW hO (Waw.mp hb.1) hb.2;rw[h1,h2,Zes,if_neg (by omega)];exact decide_eq_false (by omega)
 ·rw[(Wck.mp ha).2]
  cases b <;> rfl
theorem Zkv:(allF ts o).length<64:=by
 obtain⟨N,rfl⟩:∃N:Nat,n=(N:Int):=⟨n.toNat,by have:=hW.lo;omega⟩;obtain⟨ms,hm⟩:=Zew (marksL N ts);have h:=Zlh hW hO hm;have h1:=hm.len;rw[Zbh]at h1;have h2:=hW.hi;have h3:=hW.len;omega
end
section
variable {P:Program}{w:World}{K:W.Frag}{mg:Str->Option Value}{base:Heap}{f:Addr}{fd:FuncData}
theorem Zoi (mb:Mb mg) (F:Fun K "least_first" "least_first" s_least_first f fd):FnOk P w K mg base CX0 1 f fd ["ends"] (spD K fLeastL):=by
 refine F.ok sc_least_first (Zbi λds Post h=>by obtain⟨_,rfl,_⟩:=h;rfl) (λcdv A outer s H vs Q E hr h=>?_);have hu:=Zby hr;refine⟨_,(Zae (Zc1 (Zeo (truK K (pv 0) (λ_=>rfl))) (Zah (Zax (Zct Zad))) Za7) (Zae (Zan (i:=1) sc_least_first.nd rfl (Or.inl rfl) (bmK K PySem.F.plainAttrs_list PySem.F.slot_list_index PySem.F.type_list_index (idxLK K) (pv 0) (Zaa (Zai (minK K rfl) rfl (mb "min" (by decide)) Zjg (Zaa (pv 0) Zad)) Zad))) (Zah (Zax (Zbr (tupK K) rfl (mb "tuple" (by decide)) Zbs (Zaa (Zaq (addK K) (Zid (slK K) (pv 0) (Zjs (pv 1)) Zjy) (Zid (slK K) (pv 0) Zjy (Zjs (pv 1)))) Zad)))))),Zdl (λds Post hf=>?_) h⟩;obtain⟨ns,rfl,hp,hl,q⟩:=hf;refine⟨by simp,?_⟩;dsimp only[startD,Wbo,Wbm,Wba];obtain⟨m,hm,hle⟩:=Zhz ns (Wds.mp hp);obtain⟨i1,i2,i3⟩:=Zdw hm;refine Zaj (Zcq (Zd6 (Zcd (Zac rfl ⟨true,?_,?_⟩))))
 ·cases ns with
  |nil=>simp at hp
  |cons x t=>rfl
 refine iteF (Za4 ?_);refine Zaj (Zav (Zm2 (Zac rfl ⟨ns,rfl,by omega,Za3 (Zab (Zac rfl (Zaf (Zta (Or.inl rfl) hm hle ⟨m,rfl,hm,?_⟩))))⟩)));have hj:ns.idxOf m<=(ns.map D.int).length:=by rw[Wab];omega
 refine Za8 (Za3 (Zab (Zam (Ztr (Zac rfl (Zj5 (Zac rfl ⟨_,rfl,Zj2 ⟨.lst ((ns.map D.int).drop (ns.idxOf m)),?_,?_⟩⟩)))))))
 ·show some (D.lst (cutD (ns.map D.int) (some ((ns.idxOf m:Nat):Int)) none))=_
  rw[Zr2 _ hj]
 refine Ztr (Zac rfl (Zj2 (Zj5 (Zac rfl ⟨_,rfl,.lst ((ns.map D.int).take (ns.idxOf m)),?_,?_⟩))))
 ·show some (D.lst (cutD (ns.map D.int) none (some ((ns.idxOf m:Nat):Int))))=_
  rw[Zv8 _ hj]
 refine Znh ?_ (Zaf (Zdk (Or.inl rfl) ?_))
 ·rw[Wbz,Wa2,Wab]
  exact Wcd (small1000 (by omega))
 have q':=q m hm hle;unfold rowD rotAt at q';rw[Wax,List.map_drop,List.map_take]at q';exact q'
theorem Zl2 (mb:Mb mg) (C55:Callee P w K mg base 3 "onward" ["web","order","end"] (spD K fOnw)) (C54:Callee P w K mg base 1 "least_first" ["ends"] (spD K fLeastL)) (F:Fun K "face_of" "face_of" s_face_of f fd):FnOk P w K mg base CX0 4 f fd ["web","order","end"] (spD K fFaceOf):=by
 refine F.ok sc_face_of (Zbi λds Post h=>by obtain⟨_,_,_,_,rfl,_⟩:=h;rfl) (λcdv A outer s H vs Q E hr h=>?_);have hu:=Zby hr;refine⟨_,(Zae (Zan (i:=3) sc_face_of.nd rfl (Or.inl rfl) (Zff (Zaa (pv 2) Zad))) (Zae (Zan (i:=4) sc_face_of.nd rfl (Or.inl rfl) (Zay C55 (hr.mono (by decide)) (Zaa (pv 0) (Zaa (pv 1) (Zaa (pv 2) Zad))))) (Zae (Zig PassesOwn.never (Za2 Zu3 (pv 4) (pv 2) (nomark _)) (Zae (Zb7 (bmK K PySem.F.plainAttrs_list PySem.F.slot_list_append PySem.F.type_list_append Zb1 (pv 3) (Zaa (pv 4) Zad))) (Zah (Zan (i:=4) sc_face_of.nd rfl (Or.inl rfl) (Zay C55 (hr.mono (by decide)) (Zaa (pv 0) (Zaa (pv 1) (Zaa (pv 4) Zad)))))))) (Zah (Zax (Zay C54 (hr.mono (by decide)) (Zaa (pv 3) Zad))))))),Zdl (λds Post hf=>?_) h⟩;obtain⟨n,ts,o,e,rfl,hW,hO,he,q⟩:=hf;refine⟨by simp,?_⟩;dsimp only[startD,Wbo,Wbm,Wba,Wag];have O:=Zd5 hW hO;have hw:=hW.len;have h0:(0:Int)<=(e:Int):=by omega
 have h1:(e:Int)<((2*ts.length:Nat):Int):=by omega
 have onw:∀j:Nat,folOf ts o (partner (iter (onI ts o) e j).toNat)=iter (onI ts o) e (j+1):=λj=>rfl;refine Zaj (Zb5 (Zgq (Zab (Zac rfl (Zaf ⟨by show 1<=sizeLine;decide,?_⟩)))));refine Zaj (Zav (Zar (Zab (Zac rfl (Zab (Zac rfl (Zab (Zac rfl (Zaf ⟨n,ts,o,e,rfl,hW,hO,he,?_⟩)))))))));refine Zbk (λΔ=>∃k:Nat,IsOrb (onI ts o) e k /\ Δ = [.val (encWeb n ts),.val (encOrd o),.val (.int e),.own (.lst ((walkL (onI ts o) e k).map .int)),.val (.int (iter (onI ts o) e k))]) ?_ ?_
 ·refine Zh4 (fun μ Δ=>∃k:Nat,1<=k/\NdTo (onI ts o) e k /\ μ = 2*ts.length-k /\ Δ = [.val (encWeb n ts),.val (encOrd o),.val (.int e),.own (.lst ((walkL (onI ts o) e k).map .int)),.val (.int (iter (onI ts o) e k))]) ⟨_,1,Wah _,Zlo O h0 h1,rfl,rfl⟩ ?_
  rintro μ Δ1 ⟨k,hk,nd,rfl,rfl⟩;have hkm:=Zge O h0 h1 nd;refine Zbd (Zam (Zac rfl (Zac rfl (Zw5 ⟨_,rfl,?_⟩))));by_cases hb:iter (onI ts o) e k=e
  ·rw[decide_eq_true hb]
   exact iteF ⟨k,⟨by omega,hb,nd⟩,rfl⟩
  ·rw[decide_eq_false hb]
   have nd2:=Zfy O h0 h1 hk nd hb;have hkm2:=Zge O h0 h1 nd2;have r:=Zbe O h0 h1 k;refine iteT (Zaj (Zgl rfl rfl (Zac rfl ⟨_,_,rfl,rfl,?_,?_⟩)))
   ·rw[Wab,Zbg];exact small1000 (by omega)
   refine Zav (Zar (Zab (Zac rfl (Zab (Zac rfl (Zab (Zac rfl (Zaf ⟨n,ts,o,(iter (onI ts o) e k).toNat,?_,hW,hO,by omega,?_⟩))))))))
   ·rw[show (((iter (onI ts o) e k).toNat:Nat):Int)=iter (onI ts o) e k by omega]
   refine⟨2*ts.length-(k+1),by omega,k+1,by omega,nd2,rfl,?_⟩;rw[Zez,Wax];rfl
 rintro Δ1 ⟨k,O1,rfl⟩;have hkm:=Zge O h0 h1 O1.nd;refine Za8 (Zar (Zab (Zc9 rfl (Zaf ⟨walkL (onI ts o) e k,rfl,?_,?_,λx hx hle=>?_⟩))))
 ·rw[Zbg];exact O1.pos
 ·rw[Zbg];omega
 ·have eo:=O1.orb
  rw[<- eo]at hx hle ⊢;have rx:=Zev O h0 h1 hx;obtain⟨j,hj,ej⟩:=Zaw.mp hx;have ei:(orb (onI ts o) e).idxOf x=j:=Zpd (Zn4 O h0 h1) (by rw[<- ej];exact Zpo hj);rw[ei,Zs5 O h0 h1 hj,ej];have ex:((x.toNat:Nat):Int)=x:=by omega
  have:=q x.toNat (by omega) (by
   unfold leastB;rw[decide_eq_true_iff,ex];exact λz hz=>hle z (Zbq O h0 h1 hx hz)) (by rw[ex];exact hx)
  rw[ex]at this;exact this
theorem Zqe (mb:Mb mg) (C46:Callee P w K mg base 4 "face_of" ["web","order","end"] (spD K fFaceOf)) (F:Fun K "faces" "faces" s_faces f fd):FnOk P w K mg base CX0 5 f fd ["web","order"] (spN K fFaces):=by
 refine F.ok sc_faces (Zfc λds Post h=>by obtain⟨_,_,_,rfl,_⟩:=h;rfl) (λcdv A outer s H vs Q E hr h=>?_);have hu:=Zby hr;have hv:=Zim hr;refine⟨_,(Zae (Zdb (i:=2) ["row"] (show CompSc (defScope s_faces) ["web","order","told","gone","end","face","come"] _ [] [] from ⟨rfl,by decide +kernel,by decide +kernel,by decide +kernel,rfl,by decide +kernel⟩) rfl sc_faces.nd rfl (Or.inl rfl) (seqK K (pv 1)) (λ_ _ _ _ _=>(Zal (i:=0) (show List.Nodup (["row"]:List Str) from by decide) rfl (Or.inl rfl))) (λ_ _ _ _ _=>(Zf8 (Zeo (truK K (pv 0) (λ_=>rfl))))) (λ_ _ _ _ _=>(Zct Zad))) (Zae (Zan (i:=3) sc_faces.nd rfl (Or.inl rfl) (Zg9 Zok rfl (mb "set" (by decide)) Zof)) (Zae (Zcv PassesOwn.never rfl (Zbn rfl (mb "range" (by decide)) (Zaa (Zaq Zcx Zag (Zai (lenK K) rfl (mb "len" (by decide)) Zbl (Zaa (Za1 (ixK K hu) (pv 0) Zag (λ_ _=>rfl)) Zad))) Zad)) (Zal (i:=4) sc_faces.nd rfl (Or.inl rfl)) (Zah (Zc1 (Za2 (notinK K hu) (pv 4) (pv 3) rfl) (Zae (Zan (i:=5) sc_faces.nd rfl (Or.inl rfl) (Zay C46 (hr.mono (by decide)) (Zaa (pv 0) (Zaa (pv 1) (Zaa (pv 4) Zad))))) (Zae (Zb7 (bmK K PySem.F.plainAttrs_list PySem.F.slot_list_append PySem.F.type_list_append Zb1 (pv 2) (Zaa (pv 5) Zad))) (Zah (Zcv PassesOwn.never rfl (seqK K (pv 5)) (Zal (i:=6) sc_faces.nd rfl (Or.inl rfl)) (Zah (Zb7 (bmK K PySem.F.plainAttrs_set PySem.F.slot_set_add PySem.F.type_set_add Zsn (pv 3) (Zaa (pv 6) Zad)))))))) Za7))) (Zah (Zax (Zai (sortGK K hv) rfl (mb "sorted" (by decide)) Zey (Zaa (pv 2) Zad))))))),Zmn (λds Post hf=>?_) h⟩;obtain⟨n,ts,o,rfl,hW,hO,q⟩:=hf;refine⟨by simp,?_⟩;dsimp only[startD,Wbo,Wbm,Wba,Wag];have O:=Zd5 hW hO;have hw:=hW.len;have hn:=hW.hi;have ho:=hO.len;have hlone:=Zf1 o;refine Zaj (Zb5 (Zej (by decide) (Zb6 (Zac rfl ⟨_,rfl,?_,λd=>match d with|.tup ds=>ds.isEmpty|_=>false,λ_=>.tup [],λi d hd=>?_,?_⟩))))
 ·rw[Wab];exact small1000 (by omega)
 ·rw[Wad]at hd
  cases z:o[i]? with
  |none=>rw[z]at hd;cases hd
  |some r=>
   rw[z]at hd;have hd:encRow r=d:=by simpa using hd
   subst hd;refine Zd6 (Zcd (Zac rfl ⟨_,rfl,?_,?_⟩))
   ·cases r <;> rfl
   ·cases r with
    |nil=>exact iteT (Zcm (Zaf ⟨by decide,rfl,_,rfl⟩))
    |cons x t=>exact iteF ⟨_,rfl⟩
 rw[show o.map encRow=o.map rowD from rfl,Zf2 o _ (λr=>by cases r <;> rfl) _ λ_=>rfl]
 refine Zaj (Zb5 (Zto ?_));refine Zbk (λΔ=>∃(S:Int->Bool) (c:Nat) (x4 x5 x6:L2.Slot),Δ = [.val (encWeb n ts),.val (encOrd o),.own (.lst ((allF ts o).map rowD)),.own (.set S c),x4,x5,x6]) ?_ ?_
 ·refine Zcy (Zbm ?_)
  refine Zab (Zam (Zak (Za3 ?_)));refine Zab (Zam (Zac rfl (Zak (Zaz (d:=.tup (ts.map encTie)) rfl ?_))));refine Zaf (Zba (Or.inr rfl) ?_);rw[Wab];refine jr_I (Or.inl ⟨by omega,by omega⟩) (Zaf ⟨_,rfl,by omega,by omega,?_⟩);have eL:((2:Int)*(ts.length:Int)).toNat=2*ts.length:=by omega
  rw[eL];refine⟨λk Δ=>∃(S:Int->Bool) (c:Nat) (x4 x5 x6:L2.Slot),(∀x,S x=true↔MetTo (onI ts o) k x)/\c<=48*k /\ Δ = [.val (encWeb n ts),.val (encOrd o),.own (.lst ((Wag (lone o) []++facesTo (onI ts o) k).map rowD)),.own (.set S c),x4,x5,x6],⟨λ_=>false,0,.any,.any,.any,λx=>?_,by omega,?_⟩,?_,?_⟩
  ·constructor
   ·intro z;cases z
   ·rintro⟨e,he,_⟩;omega
  ·rw[show facesTo (onI ts o) 0=[] from rfl,Wbb];rfl
  ·rintro k d Δ2 hd ⟨S,c,x4,x5,x6,hS,hc,rfl⟩
   obtain⟨hk,rfl⟩:=Zb4 hd;rw[Wct];have fl:=Zea (onI ts o) k;refine Zbo (Zcq (Zbd (Zvq (Zac rfl ⟨_,S,c,_,rfl,rfl,rfl,_,rfl,?_⟩))));by_cases hm:S (k:Int)=true
   ·rw[hm]
    refine iteF (Za4 ⟨S,c,.val (.int (k:Int)),x5,x6,λx=>?_,by omega,?_⟩)
    ·have hl:=(Zcl O hk).mp ((hS _).mp hm)
     rw[hS,Zfo O hk,hl];simp
    ·have hl:=(Zcl O hk).mp ((hS _).mp hm)
     rw[Zce,if_neg (by rw[hl];exact Wan),Wbb];rfl
   ·have hl:leastB (onI ts o) k=true:=by
     cases z:leastB (onI ts o) k with
     |true=>rfl
     |false=>exact absurd ((hS _).mpr ((Zcl O hk).mpr z)) hm
    rw[Wbt.mpr hm];have ol:=Zht O (e:=(k:Int)) (by omega) (by omega);refine iteT (Zaj (Zav (Zar (Zab (Zac rfl (Zab (Zac rfl (Zab (Zac rfl (Zaf ⟨n,ts,o,k,rfl,hW,hO,hk,λg hg hlg hin=>?_⟩))))))))));have egk:g=k:=by
     have a:=of_decide_eq_true (show decide (∀x∈orb (onI ts o) (k:Int),(k:Int)<=x)=true from hl) _ hin;have b:=of_decide_eq_true (show decide (∀x∈orb (onI ts o) (g:Int),(g:Int)<=x)=true from hlg) _ (Zca O (by omega) (by omega) hin);omega
    subst egk;refine Zaj (Zgl rfl rfl (Zac rfl ⟨_,_,rfl,rfl,?_,?_⟩))
    ·rw[Wab,Waq,Waz];exact small1000 (by omega)
    refine Zcy (Zb6 (Zac rfl ⟨_,rfl,λi Δ=>∃(S2:Int->Bool) (c2:Nat) (x6:L2.Slot),(∀x,S2 x=true↔MetTo (onI ts o) g x\/x∈(orb (onI ts o) (g:Int)).take i)/\c2<=48*g+i /\ Δ = [.val (encWeb n ts),.val (encOrd o),.own (.lst ((Wag (lone o) []++facesTo (onI ts o) g).map rowD++[rowD (orb (onI ts o) (g:Int))])),.own (.set S2 c2),.val (.int (g:Int)),.val (rowD (orb (onI ts o) (g:Int))),x6],⟨S,c,_,λx=>by rw[Wdi];simp[hS],by omega,rfl⟩,?_,?_⟩))
    ·rintro i d Δ3 hd ⟨S2,c2,x6,hS2,hc2,rfl⟩
     rw[Wad]at hd;cases z:(orb (onI ts o) (g:Int))[i]? with
     |none=>rw[z]at hd;cases hd
     |some y=>
      rw[z]at hd;have hd:D.int y=d:=by simpa using hd
      subst hd;have hi:=(Waf.mp z).1;refine Zbo (Zt4 rfl rfl (Zac rfl ⟨_,S2,c2,y,rfl,rfl,rfl,by omega,_,_,_,λx=>?_,?_,rfl⟩))
      ·rw[Wb0,z]
       simp only[Bool.or_eq_true,decide_eq_true_eq,hS2,Option.toList_some,Wbd,Wbc];exact or_assoc
      ·split <;> omega
    ·rintro Δ3 ⟨S2,c2,x6,hS2,hc2,rfl⟩
     rw[Wab]at hS2 hc2;rw[Wby]at hS2;refine⟨S2,c2,.val (.int (g:Int)),.val (rowD (orb (onI ts o) (g:Int))),x6,λx=>?_,by omega,?_⟩
     ·rw[hS2,Zfo O hk,hl];simp
     ·rw[Zce,if_pos hl,<- Wbq,Wax (l₂:=[orb (onI ts o) (g:Int)])]
      rfl
  ·rintro Δ2 ⟨S,c,x4,x5,x6,hS,hc,rfl⟩
   rw[Zbc];exact⟨S,c,_,_,_,rfl⟩
 rintro Δ1 ⟨S,c,x4,x5,x6,rfl⟩;have al:=Zfs hW hO;refine Ze4 (Zk2 (Zab (Zc9 rfl (Zaf ⟨allF ts o,Or.inl rfl,Zkv hW hO,λms hpm hsm=>?_⟩))));cases Zi0 hsm (Zgf hW hO) hpm;exact⟨_,rfl,q⟩
end
def rowPairsF (r:List Int):List (Int × Int):=(Wai r.length).map λk=>(r.getD k 0,r.getD ((k+1) % r.length) 0)
theorem Zdc (r:List Int):(rowPairsF r).length=r.length:=by simp[rowPairsF]
theorem Zde {r:List Int}{k:Nat}(h:k<r.length):(rowPairsF r)[k]?=some (r.getD k 0,r.getD ((k+1) % r.length) 0):=by
 unfold rowPairsF;rw[Wad,Wc9 h];rfl
theorem Zgu (r:List Int):(rowPairsF r).map (·.1)=r:=by
 apply Wb6;intro k;rw[Wad];by_cases h:k<r.length
 ·rw[Zde h,Waa h,Wae,Waa h];rfl
 ·rw[Wb8 (by rw[Zdc];omega),Wb8 (by omega)];rfl
theorem Zmf {r:List Int}{x:Int}(h:x∈r):(x,nextIn r x)∈rowPairsF r:=by
 obtain⟨h1,h2,_⟩:=Zdw h;refine Wat (i:=r.idxOf x) ?_;rw[Zde h1];congr 1;rw[Wae,h2];rfl
theorem Zcn (o:List (List Int)):(o.flatMap rowPairsF).map (·.1)=o.flatten:=by
 induction o with
 |nil=>rfl
 |cons r o ih=>rw[List.flatMap_cons,Wax,ih,Zgu,List.flatten_cons]
theorem Zra {n:Int}{ts:List (Int × Int)}{o:List (List Int)}(hW:WebOk n ts) (hO:OrdOk n ts o) {e:Nat}(he:e<2*ts.length):valD ((o.flatMap rowPairsF).map encPair) (.inl (e:Int))=some (.int (folOf ts o e)):=by
 obtain⟨g1,g2,g3⟩:=Zbz hW hO he;exact Zw1 (by rw[Zcn];exact hO.flat) (List.mem_flatMap.mpr ⟨_,Wat g1,Zmf g3⟩)
theorem Zmk {A B:List (Int × Int)}{y:Int × Int}(h:((A++y::B).map (·.1)).Nodup):y.1 ∉ A.map (·.1):=by
 rw[Wax,Wc5]at h;intro hm;exact h.2.2 _ hm _ (by rw[Wbe];exact Wa4) rfl
def encMet (x:Int):Key × D:=(.inl x,.bl true)
theorem Ztp (ms:List Int) (x:Int):(valD (ms.map encMet) (.inl x)).isSome=decide (x∈ms):=by
 induction ms with
 |nil=>rfl
 |cons y ms ih=>
  unfold valD at ih ⊢;rw[Wbe];by_cases h:y=x
  ·subst h
   rw[Wdf (by simp[encMet])];simp
  ·rw[Wch (by simp[encMet];exact h),ih]
   have:(x∈y::ms)↔x∈ms:=by simp[Ne.symm h]
   exact decide_eq_decide.mpr this.symm
theorem Ztl {ms:List Int}{x:Int}(h:x ∉ ms):putD (ms.map encMet) (.inl x) (.bl true)=(ms++[x]).map encMet:=by
 unfold putD;rw[if_neg,Wax]
 ·rfl
 ·rw[List.any_map,List.any_eq_true]
  rintro⟨z,hz,e⟩;have e:(Sum.inl z:Key)=Sum.inl x:=of_decide_eq_true e;injection e with e
  exact h (e ▸ hz)
def fLFaces:NSp:=λds Post=>∃n ts o,ds=[encOrd o]/\WebOk n ts/\OrdOk n ts o/\Post ((allF ts o).map rowD)
section
variable {P:Program}{w:World}{K:W.Frag}{mg:Str->Option Value}{base:Heap}{f:Addr}{fd:FuncData}
theorem Zmm {K:W.Frag}{n:Int}{ts:List (Int × Int)}{o:List (List Int)}(hW:WebOk n ts) (hO:OrdOk n ts o) (R:List L2.Slot) {y2 y3:L2.Slot}{rt:D->Evt->Prop}{bk ct:Evt->Prop}{ro:OD->Evt->Prop}:JS K (tFor (iSeq K (tVar 0)) (gName 2) (tFor (iRng1 (tCons (tCB (rLenU K) (tCons (tVar 2) tNil)) tNil)) (gName 3) (tAsg (tOp (rIxU K) (tVar 2) (tOp (rI (λx j=>0<j) λi j=>V.int (i % j)) (tOp (rAddU K) (tVar 3) (tC (V.int 1))) (tCB (rLenU K) (tCons (tVar 2) tNil)))) (gSub (tVar 1) (tOp (rIxU K) (tVar 2) (tVar 3)) rSetU))))
  ([.val (encOrd o),.own (.dct []),y2,y3]++R) ⟨λΔ=>∃x2 x3:L2.Slot,Δ = [.val (encOrd o),.own (.dct ((o.flatMap rowPairsF).map encPair)),x2,x3]++R,rt,bk,ct,ro⟩:=by
 have hw:=hW.len;have hfe:=hO.flat_eq hW;have hpn:((o.flatMap rowPairsF).map (·.1)).Nodup:=by rw[Zcn];exact hO.flat
 have hpl:(o.flatMap rowPairsF).length=2*ts.length:=by rw[<- hfe,<- Zcn,Wab]
 refine Zcy (Zb6 (Zac rfl ⟨o.map encRow,rfl,λi Δ=>∃x2 x3:L2.Slot,Δ = [.val (encOrd o),.own (.dct (((o.take i).flatMap rowPairsF).map encPair)),x2,x3]++R,⟨_,_,rfl⟩,?_,?_⟩))
 ·rintro i d Δ2 hd ⟨x2,x3,rfl⟩
  rw[Wad]at hd;cases z:o[i]? with
  |none=>rw[z]at hd;cases hd
  |some r=>
   rw[z]at hd;have hd:encRow r=d:=by simpa using hd
   subst hd;have hi:i<o.length:=(Waf.mp z).1;have tk:o.take (i+1)=o.take i++[r]:=by rw[Wb0,z];rfl
   have eo:o.flatMap rowPairsF=(o.take i).flatMap rowPairsF++(rowPairsF r++(o.drop (i+1)).flatMap rowPairsF):=by
    conv=>lhs;rw[<- Wc2 (i+1) o,tk]
    rw[Web,Web];simp[Wbq]
   have hrl:r.length<=48:=by have:=(hO.row i r z).len;omega
   refine Zbo (Zcy (Zbm (Zab (Za3 (Zab (Zac rfl (Zaf (Zba (Or.inr rfl) (Zaf ⟨_,rfl,?_,?_,?_⟩)))))))))
   ·rw[Wab];omega
   ·rw[Wab];omega
   rw[Wab,Wap];refine⟨λk Δ=>∃x3:L2.Slot,Δ = [.val (encOrd o),.own (.dct (((o.take i).flatMap rowPairsF++(rowPairsF r).take k).map encPair)),.val (encRow r),x3]++R,⟨_,by rw[Wdi,Wbb];rfl⟩,?_,?_⟩
   ·rintro k d Δ2 hd ⟨x3,rfl⟩
    obtain⟨hk,rfl⟩:=Zb4 hd;have hg:=Zde hk;have a1:atI (r.map D.int) (0+(k:Int))=some (.int (r.getD k 0)):=by
     rw[Wct];exact Zb0 (by rw[Wad,Wae,Waa hk];rfl)
    have hm:(k+1) % r.length<r.length:=Wd0 _ (by omega);have a2:atI (r.map D.int) ((0+(k:Int)+1) % (r.length:Int))=some (.int (r.getD ((k+1) % r.length) 0)):=by
     rw[show (0+(k:Int)+1) % (r.length:Int)=(((k+1) % r.length:Nat):Int) by push_cast;rw[Wct]];exact Zb0 (by rw[Wad,Wae,Waa hm];rfl)
    refine Zbo (Zn9 (Zam (Zac rfl (Zam (Zam (Zac rfl (Zak (Zcf ?_))))))));refine Za3 (Zab (Zac rfl (Zaf (Zba (Or.inr rfl) ?_))));rw[Wab];refine jr_I (by show (0:Int)<_;omega) (Zaz a2 ⟨⟨_,_,rfl,rfl⟩,Zam (Zac rfl (Zac rfl (Zaz a1 ⟨_,_,_,rfl,rfl,rfl,?_,?_⟩)))⟩)
    ·rw[Wab,Waq,Wa2]
     rw[eo,Waq,Waq,Zdc]at hpl;exact small1000 (by omega)
    ·have eT:(rowPairsF r).take (k+1)=(rowPairsF r).take k++[(r.getD k 0,r.getD ((k+1) % r.length) 0)]:=by rw[Wb0,hg];rfl
     have eD:rowPairsF r=(rowPairsF r).take k++(r.getD k 0,r.getD ((k+1) % r.length) 0)::(rowPairsF r).drop (k+1):=by
      conv=>lhs;rw[<- Wc2 (k+1) (rowPairsF r),eT]
      simp
     have hk2:=hpn;rw[eo,eD,Wbq,<- Wbq,List.cons_append]at hk2;refine⟨.val (.int (0+(k:Int))),?_⟩;show L2.Slot.val _::L2.Slot.own (.dct (putD _ _ _))::_::_::_=_;rw[Zts (Zmk hk2),eT,Wbq];rfl
   ·rintro Δ2 ⟨x3,rfl⟩
    rw[Zbc];refine⟨.val (encRow r),x3,?_⟩;rw[Wcz (l:=rowPairsF r) (by rw[Zdc];exact Wah _),tk,Web];simp
 ·rintro Δ2 ⟨x2,x3,rfl⟩
  rw[Wab,Wby];exact⟨x2,x3,rfl⟩
theorem Zt9 {Δ:Evt}{Pd:D->Evt->Prop}{n:Nat}{x:L2.Slot}{kvs:List (Key × D)}(hx:Δ[n]?=some x) (ho:x.od=some (.dct kvs)) (p:Pd (.int kvs.length) Δ):JE K (tCB (rLenU K) (tCons (tVar n) tNil)) Δ Pd:=λg G H σ Q k c=>by
 obtain⟨a,o,h1,h2,h3,h4,h5⟩:=k.own n x _ hx ho;cases o with
 |dK vs=>
  have hl:vs.length=kvs.length:=Paired.length h3;refine⟨.ref a,h1,.inr ⟨a,vs,rfl,h2,?_⟩⟩;rw[hl];exact c _ _ G H Δ k (Same.refl _) (.int _) p
 |_=>exact absurd h3 (λz=>z)
theorem Zpn (mb:Mb mg) (C37:Callee P w K mg base 1 "_law_partner" ["_law_end"] (spD K fPart)) (F:Fun K "_law_faces" "_law_faces" s_law_faces f fd):FnOk P w K mg base CX0 2 f fd ["_law_order_here"] (spN K fLFaces):=by
 refine F.ok sc_law_faces (Zfc λds Post h=>by obtain⟨_,_,_,rfl,_⟩:=h;rfl) (λcdv A outer s H vs Q E hr h=>?_);have hu:=Zby hr;have hv:=Zim hr;refine⟨_,(Zae (Zan (i:=1) sc_law_faces.nd rfl (Or.inl rfl) Zlq) (Zae (Zcv PassesOwn.never rfl (seqK K (pv 0)) (Zal (i:=2) sc_law_faces.nd rfl (Or.inl rfl)) (Zah (Zcv PassesOwn.never rfl (Zbn rfl (mb "range" (by decide)) (Zaa (Zai (lenK K) rfl (mb "len" (by decide)) Zbl (Zaa (pv 2) Zad)) Zad)) (Zal (i:=3) sc_law_faces.nd rfl (Or.inl rfl)) (Zah (Zet (Za1 (ixK K hu) (pv 2) (Zaq Zcc (Zaq (addK K) (pv 3) Zag) (Zai (lenK K) rfl (mb "len" (by decide)) Zbl (Zaa (pv 2) Zad))) (λ_ _=>rfl)) (Zg8 (pv 1) (Za1 (ixK K hu) (pv 2) (pv 3) (λ_ _=>rfl)) (setU hu))))))) (Zae (Zdb (i:=4) ["_law_row"] (show CompSc (defScope s_law_faces) ["_law_order_here","_law_behind","_law_row","_law_k","_law_found","_law_met","_law_end","_law_walk","_law_at"] _ [] [] from ⟨rfl,by decide +kernel,by decide +kernel,by decide +kernel,rfl,by decide +kernel⟩) rfl sc_law_faces.nd rfl (Or.inl rfl) (seqK K (pv 0)) (λ_ _ _ _ _=>(Zal (i:=0) (show List.Nodup (["_law_row"]:List Str) from by decide) rfl (Or.inl rfl))) (λ_ _ _ _ _=>(Zf8 (Za2 Zcg (Zai (lenK K) rfl (mb "len" (by decide)) Zbl (Zaa (pv 0) Zad)) Zag (nomark _)))) (λ_ _ _ _ _=>(Zct Zad))) (Zae (Zan (i:=5) sc_law_faces.nd rfl (Or.inl rfl) Zlq) (Zae (Zcv PassesOwn.never rfl (Zbn rfl (mb "range" (by decide)) (Zaa (Zai (lenK K) rfl (mb "len" (by decide)) Zbl (Zaa (pv 1) Zad)) Zad)) (Zal (i:=6) sc_law_faces.nd rfl (Or.inl rfl)) (Zae (Zan (i:=7) sc_law_faces.nd rfl (Or.inl rfl) (Zff Zad)) (Zae (Zan (i:=8) sc_law_faces.nd rfl (Or.inl rfl) (pv 6)) (Zae (Zig PassesOwn.never (Za2 (notinK K hu) (pv 8) (pv 5) rfl) (Zae (Zet Znn (Zg8 (pv 5) (pv 8) (setU hu))) (Zae (Zb7 (bmK K PySem.F.plainAttrs_list PySem.F.slot_list_append PySem.F.type_list_append Zb1 (pv 7) (Zaa (pv 8) Zad))) (Zah (Zan (i:=8) sc_law_faces.nd rfl (Or.inl rfl) (Za1 (ixK K hu) (pv 1) (Zay C37 (hr.mono (by decide)) (Zaa (pv 8) Zad)) (λ_ _=>rfl))))))) (Zah (Zc1 (Za2 Zsm (Zai (lenK K) rfl (mb "len" (by decide)) Zbl (Zaa (pv 7) Zad)) Zag (nomark _)) (Zah (Zb7 (bmK K PySem.F.plainAttrs_list PySem.F.slot_list_append PySem.F.type_list_append Zb1 (pv 4) (Zaa (Zbr (tupK K) rfl (mb "tuple" (by decide)) Zbs (Zaa (pv 7) Zad)) Zad)))) Za7)))))) (Zah (Zax (Zai (sortGK K hv) rfl (mb "sorted" (by decide)) Zey (Zaa (pv 4) Zad))))))))),Zmn (λds Post hf=>?_) h⟩;obtain⟨n,ts,o,rfl,hW,hO,q⟩:=hf;refine⟨by simp,?_⟩;dsimp only[startD,Wbo,Wbm,Wba,Wag];have O:=Zd5 hW hO;have hw:=hW.len;have hn:=hW.hi;have ho:=hO.len;have hlone:=Zf1 o;have hfe:=hO.flat_eq hW;have hpn:((o.flatMap rowPairsF).map (·.1)).Nodup:=by rw[Zcn];exact hO.flat
 have hpl:(o.flatMap rowPairsF).length=2*ts.length:=by rw[<- hfe,<- Zcn,Wab]
 refine Zaj (Zb5 (Zo1 ?_));refine Zbk (λΔ=>∃x2 x3:L2.Slot,Δ = [.val (encOrd o),.own (.dct ((o.flatMap rowPairsF).map encPair)),x2,x3,.any,.any,.any,.any,.any]) ?_ ?_
 ·exact Zmm hW hO [.any,.any,.any,.any,.any]
 rintro Δ1 ⟨x2,x3,rfl⟩;refine Zaj (Zb5 (Zej (by decide) (Zb6 (Zac rfl ⟨_,rfl,?_,λd=>match d with|.tup ds=>decide ((ds.length:Int)=0)|_=>false,λ_=>.tup [],λi d hd=>?_,?_⟩))))
 ·rw[Wab];exact small1000 (by omega)
 ·rw[Wad]at hd
  cases z:o[i]? with
  |none=>rw[z]at hd;cases hd
  |some r=>
   rw[z]at hd;have hd:encRow r=d:=by simpa using hd
   subst hd;refine Zbd (Zam (Za3 (Zab (Zac rfl (Zaf (Zba (Or.inr rfl) (Zak (Zef ⟨_,rfl,rfl,?_⟩))))))));by_cases hz:((r.map D.int).length:Int)=0
   ·rw[decide_eq_true hz]
    exact iteT (Zcm (Zaf ⟨by decide,rfl,_,rfl⟩))
   ·rw[decide_eq_false hz]
    exact iteF ⟨_,rfl⟩
 rw[show o.map encRow=o.map rowD from rfl,Zf2 o _ (λr=>by
  show decide (((r.map D.int).length:Int)=0)=r.isEmpty;cases r with
  |nil=>rfl
  |cons x t=>rw[Wab,Waj];exact decide_eq_false (by omega)) _ λ_=>rfl]
 refine Zaj (Zb5 (Zo1 ?_));refine Zbk (λΔ=>∃(ms:List Int) (x6 x7 x8:L2.Slot),Δ = [.val (encOrd o),.own (.dct ((o.flatMap rowPairsF).map encPair)),x2,x3,.own (.lst ((allF ts o).map rowD)),.own (.dct (ms.map encMet)),x6,x7,x8]) ?_ ?_
 ·refine Zcy (Zbm (Zab (Zt9 rfl rfl (Zaf ⟨_,rfl,?_,?_,?_⟩))))
  ·omega
  ·rw[Wab,hpl];omega
  rw[Wab,hpl,Wap];refine⟨λk Δ=>∃(ms:List Int) (x6 x7 x8:L2.Slot),(∀x,x∈ms↔MetTo (onI ts o) k x)/\ms.length<=48*k /\ Δ = [.val (encOrd o),.own (.dct ((o.flatMap rowPairsF).map encPair)),x2,x3,.own (.lst ((Wag (lone o) []++facesTo (onI ts o) k).map rowD)),.own (.dct (ms.map encMet)),x6,x7,x8],⟨[],.any,.any,.any,λx=>?_,by simp,?_⟩,?_,?_⟩
  ·constructor
   ·intro z;cases z
   ·rintro⟨e,he,_⟩;omega
  ·rw[show facesTo (onI ts o) 0=[] from rfl,Wbb];rfl
  ·rintro k d Δ2 hd ⟨ms,x6,x7,x8,hms,hml,rfl⟩
   obtain⟨hk,rfl⟩:=Zb4 hd;rw[Wct];have h0:(0:Int)<=(k:Int):=by omega
   have h1:(k:Int)<((2*ts.length:Nat):Int):=by omega
   have fl:=Zea (onI ts o) k;refine Zbo (Zaj (Zb5 (Zgq (Zaf ⟨by decide,?_⟩))));refine Zaj (Zav (Zac rfl ?_));refine Zbk (λΔ=>∃j:Nat,((j=0/\MetTo (onI ts o) k (k:Int))\/(IsOrb (onI ts o) (k:Int) j/\¬ MetTo (onI ts o) k (k:Int))) /\ Δ = [.val (encOrd o),.own (.dct ((o.flatMap rowPairsF).map encPair)),x2,x3,.own (.lst ((Wag (lone o) []++facesTo (onI ts o) k).map rowD)),.own (.dct ((ms++walkL (onI ts o) (k:Int) j).map encMet)),.val (.int (k:Int)),.own (.lst ((walkL (onI ts o) (k:Int) j).map .int)),.val (.int (iter (onI ts o) (k:Int) j))]) ?_ ?_
   ·refine Zh4 (fun μ Δ=>∃j:Nat,(j=0\/¬ MetTo (onI ts o) k (k:Int))/\NdTo (onI ts o) (k:Int) j /\ μ = 2*ts.length-j /\ Δ = [.val (encOrd o),.own (.dct ((o.flatMap rowPairsF).map encPair)),x2,x3,.own (.lst ((Wag (lone o) []++facesTo (onI ts o) k).map rowD)),.own (.dct ((ms++walkL (onI ts o) (k:Int) j).map encMet)),.val (.int (k:Int)),.own (.lst ((walkL (onI ts o) (k:Int) j).map .int)),.val (.int (iter (onI ts o) (k:Int) j))]) ⟨_,0,.inl rfl,λi j hi=>by omega,rfl,?_⟩ ?_
    ·rw[show walkL (onI ts o) (k:Int) 0=[] from rfl,Wbb];rfl
    rintro μ Δ1 ⟨j,hj,nd,rfl,rfl⟩;have hjm:=Zge O h0 h1 nd;have r:=Zbe O h0 h1 j;refine Zbd (Zvb (Zac rfl ⟨_,_,_,rfl,rfl,rfl,_,rfl,?_⟩));rw[Ztp];by_cases hb:iter (onI ts o) (k:Int) j∈ms++walkL (onI ts o) (k:Int) j
    ·rw[decide_eq_true hb]
     refine iteF ⟨j,?_,rfl⟩;rcases Wbd.mp hb with hb|hb
     ·have hM:MetTo (onI ts o) k (k:Int):=(Zkl O (by omega) h0 h1 j).mp ((hms _).mp hb)
      rcases hj with hj|hj
      ·exact .inl ⟨hj,hM⟩
      ·exact absurd hM hj
     ·obtain⟨i,hi,e⟩:=Zaw.mp hb
      have hj1:1<=j:=by omega
      have hj2:¬ MetTo (onI ts o) k (k:Int):=by
       rcases hj with hj|hj
       ·omega
       ·exact hj
      refine .inr ⟨⟨by omega,?_,nd⟩,hj2⟩;apply Classical.byContradiction;intro hne;have:=Zfy O h0 h1 hj1 nd hne i j (by omega) (by omega) e;omega
    ·rw[decide_eq_false hb]
     rw[Wbd,not_or]at hb;have hM:¬ MetTo (onI ts o) k (k:Int):=λz=>hb.1 ((hms _).mpr ((Zkl O (by omega) h0 h1 j).mpr z));have nd2:NdTo (onI ts o) (k:Int) (j+1):=by
      by_cases hj0:j=0
      ·subst hj0;exact Zlo O h0 h1
      ·refine Zfy O h0 h1 (by omega) nd λz=>hb.2 (Zaw.mpr ⟨0,by omega,z.symm⟩)
     have hjm2:=Zge O h0 h1 nd2;refine iteT (Zaj (Zn9 (Zva ⟨⟨_,_,rfl,rfl⟩,Zac rfl ⟨_,_,_,rfl,rfl,rfl,?_,?_⟩⟩)))
     ·rw[Wab,Waq,Zbg]
      refine Wca (m:=48*48+48) (by omega) (by decide)
     refine Zaj (Zgl rfl rfl (Zac rfl ⟨_,_,rfl,rfl,?_,?_⟩))
     ·rw[Wab,Zbg];exact small1000 (by omega)
     have hp:=Za0 (show (iter (onI ts o) (k:Int) j).toNat<2*ts.length by omega);refine Zav (Zuc rfl rfl (Zar (Zab (Zac rfl (Zaf ⟨(iter (onI ts o) (k:Int) j).toNat,?_,_,_,_,_,rfl,rfl,rfl,Zra hW hO hp,?_⟩)))))
     ·rw[show (((iter (onI ts o) (k:Int) j).toNat:Nat):Int)=iter (onI ts o) (k:Int) j by omega]
     refine⟨2*ts.length-(j+1),by omega,j+1,.inr hM,nd2,rfl,?_⟩;show [_,_,_,_,_,L2.Slot.own (.dct (putD _ _ _)),_,L2.Slot.own (.lst _),_]=_;rw[Ztl (by rw[Wbd,not_or];exact hb),Zez,Wbq,Wax (f:=D.int)];rfl
   rintro Δ1 ⟨j,hj,rfl⟩;refine Zcq (Zbd (Zam (Zhs rfl rfl (Zak (Zq8 ⟨_,rfl,?_⟩)))));rw[Wab,Zbg];rcases hj with ⟨rfl,hM⟩|⟨hI,hM⟩
   ·have hl:=(Zcl O hk).mp hM
    refine iteF (Za4 ⟨ms,.val (.int (k:Int)),.own (.lst []),.val (.int (k:Int)),λx=>?_,by omega,?_⟩)
    ·rw[hms,Zfo O hk,hl];simp
    ·rw[Zce,if_neg (by rw[hl];exact Wan),Wbb,show walkL (onI ts o) (k:Int) 0=[] from rfl,Wbb]
     rfl
   ·have hl:leastB (onI ts o) k=true:=by
     cases z:leastB (onI ts o) k with
     |true=>rfl
     |false=>exact absurd ((Zcl O hk).mpr z) hM
    have hjm:=Zge O h0 h1 hI.nd;have eo:=hI.orb;rw[show decide ((0:Int)<(j:Int))=true from decide_eq_true (by have:=hI.pos;omega)];refine iteT (Zgl rfl rfl (Za3 (Zab (Zc9 rfl (Zaf (Zdk (Or.inl rfl) ⟨_,_,rfl,rfl,?_,ms++walkL (onI ts o) (k:Int) j,.val (.int (k:Int)),.val (.lst ((walkL (onI ts o) (k:Int) j).map .int)),.val (.int (iter (onI ts o) (k:Int) j)),λx=>?_,?_,?_⟩))))))
    ·rw[Wab,Waq,Waz];exact small1000 (by omega)
    ·rw[Wbd,hms,Zfo O hk,hl,<- eo];simp
    ·rw[Waq,Zbg];omega
    ·rw[Zce,if_pos hl,<- Wbq,Wax (l₂:=[orb (onI ts o) (k:Int)]),eo]
     rfl
  ·rintro Δ2 ⟨ms,x6,x7,x8,hms,hml,rfl⟩
   rw[Zbc];exact⟨ms,_,_,_,rfl⟩
 rintro Δ1 ⟨ms,x6,x7,x8,rfl⟩;have al:=Zfs hW hO;refine Ze4 (Zk2 (Zab (Zc9 rfl (Zaf ⟨allF ts o,Or.inl rfl,Zkv hW hO,λms hpm hsm=>?_⟩))));cases Zi0 hsm (Zgf hW hO) hpm;exact⟨_,rfl,q⟩
theorem Zdx {l:List Int}{x:Int}{n:Nat}(hl:l.length=n) (h0:0<=x) (h1:x<(n:Int)):atI (l.map D.int) x=some (.int (l.getD x.toNat 0)):=by
 rw[show x=((x.toNat:Nat):Int) by omega];refine Zb0 ?_;rw[Wad,Wae,Wap,Waa (by omega:x.toNat<l.length)];rfl
theorem Zjr (mb:Mb mg) (F:Fun K "parts_of" "parts_of" s_parts_of f fd):FnOk P w K mg base CX0 1 f fd ["web"] (spN K fParts):=by
 refine F.ok sc_parts_of (Zfc λds Post h=>by obtain⟨_,_,rfl,_⟩:=h;rfl) (λcdv A outer s H vs Q E hr h=>?_);have hu:=Zby hr;have hv:=Zim hr;refine⟨_,(Zae (Zet (pv 0) (gtupK (n:=2) K rfl (Za9 (Zal (i:=1) sc_parts_of.nd rfl (Or.inr rfl)) (Za9 (Zal (i:=2) sc_parts_of.nd rfl (Or.inl rfl)) Zdm)))) (Zae (Zan (i:=3) sc_parts_of.nd rfl (Or.inr rfl) (Zdn rfl rfl (mb "list" (by decide)) rfl (mb "range" (by decide)) (Zaa (pv 1) Zad))) (Zae (Zcv PassesOwn.never rfl (seqK K (pv 2)) (gtupK (n:=2) K rfl (Za9 (Zal (i:=4) sc_parts_of.nd rfl (Or.inl rfl)) (Za9 (Zal (i:=5) sc_parts_of.nd rfl (Or.inl rfl)) Zdm))) (Zae (Zan (i:=6) sc_parts_of.nd rfl (Or.inr rfl) (Zai (Zee rfl) rfl (mb "min" (by decide)) Zjg (Zaa (Za1 (ixK K hu) (pv 3) (pv 4) (λ_ _=>rfl)) (Zaa (Za1 (ixK K hu) (pv 3) (pv 5) (λ_ _=>rfl)) Zad)))) (Zae (Zan (i:=7) sc_parts_of.nd rfl (Or.inr rfl) (Zai (Zf3 rfl) rfl (mb "max" (by decide)) Zm4 (Zaa (Za1 (ixK K hu) (pv 3) (pv 4) (λ_ _=>rfl)) (Zaa (Za1 (ixK K hu) (pv 3) (pv 5) (λ_ _=>rfl)) Zad)))) (Zah (Zan (i:=3) sc_parts_of.nd rfl (Or.inr rfl) (Zb8 ["first"] (show CompSc (defScope s_parts_of) ["web","many","ties","firsts","a","b","low","high"] _ ["low","high"] [6,7] from ⟨rfl,by decide +kernel,by decide +kernel,by decide +kernel,rfl,by decide +kernel⟩) rfl (seqK K (pv 3)) (λ_ _ _ _ _=>(Zal (i:=0) (show List.Nodup (["first","low","high"]:List Str) from by decide) rfl (Or.inl rfl))) (λ_ _ _ _ _=>Zb3) (λ_ _ _ _ _=>(Zk0 (Za2 Zcg (pv 0) (pv 2) (nomark _)) (pv 1) (pv 0))))))))) (Zah (Zax (Zjc ["first"] (show CompScK (defScope s_parts_of) ["web","many","ties","firsts","a","b","low","high"] "first" _ ["many","firsts"] [1,3] from ⟨rfl,by decide +kernel,by decide +kernel,by decide +kernel,by decide +kernel,rfl,by decide +kernel⟩) rfl (seqK K (Zg1 rfl rfl rfl (mb "sorted" (by decide)) rfl (mb "set" (by decide)) (Zaa (pv 3) Zad))) (λ_ _ _ _ _=>(Zal (i:=0) (show List.Nodup (["first","many","firsts"]:List Str) from by decide) rfl (Or.inr rfl))) (λ_ _ _ _ _=>Zb3) (λ_ _ _ _ _=>(Zb8 ["place"] (show CompSc (relab (defScope s_parts_of) _) ["first","many","firsts"] _ ["first","firsts"] [0,2] from ⟨rfl,by decide +kernel,by decide +kernel,by decide +kernel,rfl,by decide +kernel⟩) rfl (Zbn rfl (mb "range" (by decide)) (Zaa (pv 1) Zad)) (λ_ _ _ _ _=>(Zal (i:=0) (show List.Nodup (["place","first","firsts"]:List Str) from by decide) rfl (Or.inl rfl))) (λ_ _ _ _ _=>(Zf8 (Za2 Zcg (Za1 (ixK K hu) (pv 2) (pv 0) (λ_ _=>rfl)) (pv 1) (nomark _)))) (λ_ _ _ _ _=>(pv 0)))))))))),Zmn (λds Post hf=>?_) h⟩;obtain⟨n,ts,rfl,hW,q⟩:=hf;refine⟨by simp,?_⟩;dsimp only[startD,Wbo,Wbm,Wba,Wag];have hn0:=hW.lo;have hn1:=hW.hi;have hts:=hW.len;obtain⟨N,rfl⟩:∃N:Nat,n=(N:Int):=⟨n.toNat,by omega⟩;rw[Wap]at q;refine Zaj (Zoz (Zac rfl (Ziw rfl (Zb9 (Zbo (Zb9 (Zbo (Zgj ?_))))))));refine Zaj (Zav (Zbj (Zuo (Zab (Zac rfl (Zaf ⟨N,rfl,by omega,_,rfl,?_⟩))))));have e0:(Wai N).map (λi:Nat=>D.int (i:Int))=(marksL N (ts.take 0)).map D.int:=by
  show _=((Wai N).map λi:Nat=>(i:Int)).map D.int;rw[Wa3];rfl
 rw[e0];refine Zbk (λΔ=>∃(x4 x5 x6 x7:L2.Slot),Δ = [.val (encWeb (N:Int) ts),.val (.int (N:Int)),.val (.tup (ts.map encTie)),.val (.lst ((marksL N ts).map D.int)),x4,x5,x6,x7]) ?_ ?_
 ·refine Zcy (Zb6 (Zac rfl ⟨_,rfl,λi Δ=>∃(x4 x5 x6 x7:L2.Slot),Δ = [.val (encWeb (N:Int) ts),.val (.int (N:Int)),.val (.tup (ts.map encTie)),.val (.lst ((marksL N (ts.take i)).map D.int)),x4,x5,x6,x7],⟨_,_,_,_,rfl⟩,?_,?_⟩))
  ·rintro i d Δ2 hd ⟨x4,x5,x6,x7,rfl⟩
   rw[Wad]at hd;cases z:ts[i]? with
   |none=>rw[z]at hd;cases hd
   |some t=>
    rw[z]at hd;have hd:encTie t=d:=by simpa using hd
    subst hd;have ht:=hW.tie t (Wat z);have hl:=Zbh N (ts.take i);have hs:=Zcu (n:=N) z;obtain⟨l,el⟩:∃l,marksL N (ts.take i)=l:=⟨_,rfl⟩;rw[el]at hl hs ⊢;have a1:=Zdx hl ht.1 ht.2.1;have a2:=Zdx hl ht.2.2.1 ht.2.2.2;refine Ziw rfl (Zb9 (Zbo (Zb9 (Zbo (Zgj ?_)))));refine Zaj (Zav (Za3 (Zab (Zam (Zac rfl (Zac rfl (Zcs a1 (Zab (Zam (Zac rfl (Zac rfl (Zcs a2 (Zaf (Zfg ?_))))))))))))));refine Zaj (Zav (Za3 (Zab (Zam (Zac rfl (Zac rfl (Zcs a1 (Zab (Zam (Zac rfl (Zac rfl (Zcs a2 (Zaf (Zfg ?_))))))))))))));refine Zav (Zch (by decide) (Zfe (Zac rfl ⟨_,Or.inl rfl,?_,λ_=>true,λd=>match d with|.int g=>.int (if g=hiI (l.getD t.1.toNat 0) (l.getD t.2.toNat 0) then loI (l.getD t.1.toNat 0) (l.getD t.2.toNat 0) else g)|d=>d,λj d hd=>?_,?_⟩)))
    ·rw[Wab];exact small1000 (by omega)
    ·rw[Wad]at hd
     cases zz:l[j]? with
     |none=>rw[zz]at hd;cases hd
     |some g=>
      rw[zz]at hd;have hd:D.int g=d:=by simpa using hd
      subst hd;refine Zbu ⟨rfl,Zlb (Zbd (Zam (Zac rfl (Zac rfl (Zef ⟨_,rfl,?_⟩)))))⟩;show if decide (g=hiI (l.getD t.1.toNat 0) (l.getD t.2.toNat 0))=true then _ else _
      by_cases hg:g=hiI (l.getD t.1.toNat 0) (l.getD t.2.toNat 0)
      ·rw[decide_eq_true hg]
       refine iteT (Zac rfl ⟨?_,_,rfl⟩);dsimp only;rw[if_pos hg];rfl
      ·rw[decide_eq_false hg]
       refine iteF (Zac rfl ⟨?_,_,rfl⟩);dsimp only;rw[if_neg hg]
    ·have e1:((l.map D.int).filter λ_=>true).map (λd=>match d with|.int g=>D.int (if g=hiI (l.getD t.1.toNat 0) (l.getD t.2.toNat 0) then loI (l.getD t.1.toNat 0) (l.getD t.2.toNat 0) else g)|d=>d)=(marksL N (ts.take (i+1))).map D.int:=by
      rw[hs,Wbk.mpr (by simp),Wa3];unfold mergeL;rw[Wa3];rfl
     rw[e1];exact⟨_,_,_,_,rfl⟩
  ·rintro Δ2 ⟨x4,x5,x6,x7,rfl⟩
   rw[Wab,Wby];exact⟨_,_,_,_,rfl⟩
 rintro Δ1 ⟨x4,x5,x6,x7,rfl⟩;have hl:=Zbh N ts;refine Ze4 (Zej (by decide) (Zfe (Zbj (Zwy (Zab (Zac rfl (Zaf ⟨_,rfl,by omega,λms m1 m2=>⟨_,rfl,_,Or.inl rfl,?_,λ_=>true,λd=>match d with|.int g=>lstI (partI (marksL N ts) N g)|d=>d,λi d hd=>?_,?_⟩⟩)))))))
 ·have:=Firsts.len ⟨m1,m2⟩
  rw[Wab];exact small1000 (by omega)
 ·rw[Wad]at hd
  cases zz:ms[i]? with
  |none=>rw[zz]at hd;cases hd
  |some g=>
   rw[zz]at hd;have hd:D.int g=d:=by simpa using hd
   subst hd;refine Zbu ⟨rfl,Zch (by decide) (Zbm (Zab (Zac rfl (Zaf ⟨_,rfl,by omega,by omega,?_,λd=>match d with|.int p=>decide ((marksL N ts).getD p.toNat 0=g)|_=>false,λd=>d,λj d hd=>?_,?_⟩))))⟩
   ·rw[Zbc];exact small1000 (by omega)
   ·obtain⟨hj,rfl⟩:=Zb4 hd
    refine Zbd (Zam (Zam (Zac rfl (Zac rfl (Zcs (Zdx hl (by omega) (by omega)) (Zac rfl (Zef ⟨_,rfl,rfl,?_⟩)))))));split
    ·exact Zac rfl ⟨rfl,_,rfl⟩
    ·exact⟨_,rfl⟩
   ·refine⟨?_,_,rfl⟩
    rw[Wap];exact Zse _ _ _ _ (λ_=>rfl) _ λ_=>rfl
 ·refine⟨_,rfl,?_⟩
  rw[Znm (l:=marksL N ts) (n:=N) _ (λ_=>rfl) _ λ_=>rfl];exact q ms ⟨m1,m2⟩
end
def stepM (l:List Int) (h lo:Int) (k:Nat):List Int:=(l.take k).map (λf=>if f=h then lo else f)++l.drop k
theorem Zgh (l:List Int) (h lo:Int) (k:Nat):(stepM l h lo k).length=l.length:=by
 unfold stepM;rw[Waq,Wab,Wa2,Wbz];omega
theorem Zpk {l:List Int}{h lo:Int}{k:Nat}(hk:k<l.length):(stepM l h lo k)[k]?=some l[k]:=by
 unfold stepM;rw[Wa0 (by rw[Wab,Wa2];omega),Wab,Wa2,Wdv (Wcd hk),Nat.sub_self,Wco];exact Waa hk
theorem Zms {l:List Int}{h lo:Int}{k:Nat}(hk:k<l.length):stepM l h lo (k+1)=(stepM l h lo k).set k (if l[k]=h then lo else l[k]):=by
 apply Wb6;intro j;rw[Wdh,Zgh];unfold stepM;rcases Wd1 j k with hj|hj|hj
 ·rw[if_neg (by omega),Wa8 (by rw[Wab,Wa2];omega),Wa8 (by rw[Wab,Wa2];omega),Wad,Wad,Wdx,Wdx,if_pos (by omega),if_pos (by omega)]
 ·subst hj
  rw[if_pos rfl,if_pos hk,Wa8 (by rw[Wab,Wa2];omega),Wad,Wdx,if_pos (by omega),Waa hk];rfl
 ·rw[if_neg (by omega),Wa0 (by rw[Wab,Wa2];omega),Wa0 (by rw[Wab,Wa2];omega),Wab,Wab,Wa2,Wa2,Wco,Wco]
  congr 1;omega
theorem Zn7 {l:List Int}{h lo:Int}:stepM l h lo l.length=l.map λf=>if f=h then lo else f:=by
 unfold stepM;rw[Wby,List.drop_length,Wbb]
section
variable {P:Program}{w:World}{K:W.Frag}{mg:Str->Option Value}{base:Heap}{f:Addr}{fd:FuncData}
theorem Znq (mb:Mb mg) (F:Fun K "_law_parts" "_law_parts" s_law_parts f fd):FnOk P w K mg base CX0 1 f fd ["_law_web_here"] (spN K fParts):=by
 refine F.ok sc_law_parts (Zfc λds Post h=>by obtain⟨_,_,rfl,_⟩:=h;rfl) (λcdv A outer s H vs Q E hr h=>?_);have hu:=Zby hr;have hv:=Zim hr;refine⟨_,(Zae (Zan (i:=1) sc_law_parts.nd rfl (Or.inr rfl) (Zdn rfl rfl (mb "list" (by decide)) rfl (mb "range" (by decide)) (Zaa (Za1 (ixK K hu) (pv 0) Zag (λ_ _=>rfl)) Zad))) (Zae (Zcv PassesOwn.never rfl (seqK K (Za1 (ixK K hu) (pv 0) Zag (λ_ _=>rfl))) (gtupK (n:=2) K rfl (Za9 (Zal (i:=2) sc_law_parts.nd rfl (Or.inl rfl)) (Za9 (Zal (i:=3) sc_law_parts.nd rfl (Or.inl rfl)) Zdm))) (Zae (Zm0 (i:=4) (j:=5) rfl sc_law_parts.nd rfl rfl (by decide) rfl rfl (Zaa (Zai (Zee rfl) rfl (mb "min" (by decide)) Zjg (Zaa (Za1 (ixK K hu) (pv 1) (pv 2) (λ_ _=>rfl)) (Zaa (Za1 (ixK K hu) (pv 1) (pv 3) (λ_ _=>rfl)) Zad))) (Zaa (Zai (Zf3 rfl) rfl (mb "max" (by decide)) Zm4 (Zaa (Za1 (ixK K hu) (pv 1) (pv 2) (λ_ _=>rfl)) (Zaa (Za1 (ixK K hu) (pv 1) (pv 3) (λ_ _=>rfl)) Zad))) Zad)) rfl) (Zah (Zcv PassesOwn.never rfl (Zbn rfl (mb "range" (by decide)) (Zaa (Za1 (ixK K hu) (pv 0) Zag (λ_ _=>rfl)) Zad)) (Zal (i:=6) sc_law_parts.nd rfl (Or.inl rfl)) (Zah (Zc1 (Za2 Zcg (Za1 (ixK K hu) (pv 1) (pv 6) (λ_ _=>rfl)) (pv 5) (nomark _)) (Zah (Zet (pv 4) (Zg8 (pv 1) (pv 6) (setU hu)))) Za7)))))) (Zah (Zax (Zjc ["_law_first"] (show CompScK (defScope s_law_parts) ["_law_web_here","_law_marks","_law_a","_law_b","_law_low","_law_high","_law_place"] "_law_first" _ ["_law_web_here","_law_marks"] [0,1] from ⟨rfl,by decide +kernel,by decide +kernel,by decide +kernel,by decide +kernel,rfl,by decide +kernel⟩) rfl (seqK K (Zg1 rfl rfl rfl (mb "sorted" (by decide)) rfl (mb "set" (by decide)) (Zaa (pv 1) Zad))) (λ_ _ _ _ _=>(Zal (i:=0) (show List.Nodup (["_law_first","_law_web_here","_law_marks"]:List Str) from by decide) rfl (Or.inr rfl))) (λ_ _ _ _ _=>Zb3) (λ_ _ _ _ _=>(Zb8 ["_law_place"] (show CompSc (relab (defScope s_law_parts) _) ["_law_first","_law_web_here","_law_marks"] _ ["_law_first","_law_marks"] [0,2] from ⟨rfl,by decide +kernel,by decide +kernel,by decide +kernel,rfl,by decide +kernel⟩) rfl (Zbn rfl (mb "range" (by decide)) (Zaa (Za1 (ixK K hu) (pv 1) Zag (λ_ _=>rfl)) Zad)) (λ_ _ _ _ _=>(Zal (i:=0) (show List.Nodup (["_law_place","_law_first","_law_marks"]:List Str) from by decide) rfl (Or.inl rfl))) (λ_ _ _ _ _=>(Zf8 (Za2 Zcg (Za1 (ixK K hu) (pv 2) (pv 0) (λ_ _=>rfl)) (pv 1) (nomark _)))) (λ_ _ _ _ _=>(pv 0))))))))),Zmn (λds Post hf=>?_) h⟩;obtain⟨n,ts,rfl,hW,q⟩:=hf;refine⟨by simp,?_⟩;dsimp only[startD,Wbo,Wbm,Wba,Wag];have hn0:=hW.lo;have hn1:=hW.hi;have hts:=hW.len;obtain⟨N,rfl⟩:∃N:Nat,n=(N:Int):=⟨n.toNat,by omega⟩;rw[Wap]at q;refine Zaj (Zb5 (Zuo (Zab (Zam (Zac rfl (Zak (Zaz (d:=.int (N:Int)) rfl (Zaf ⟨N,rfl,by omega,?_⟩))))))));have e0:(Wai N).map (λi:Nat=>D.int (i:Int))=(marksL N (ts.take 0)).map D.int:=by
  show _=((Wai N).map λi:Nat=>(i:Int)).map D.int;rw[Wa3];rfl
 rw[e0];refine Zbk (λΔ=>∃(x4 x5 x6 x7 x8:L2.Slot),Δ = [.val (encWeb (N:Int) ts),.own (.lst ((marksL N ts).map D.int)),x4,x5,x6,x7,x8]) ?_ ?_
 ·refine Zcy (Zb6 (Zam (Zac rfl (Zak (Zaz (d:=.tup (ts.map encTie)) rfl ⟨_,rfl,λi Δ=>∃(x4 x5 x6 x7 x8:L2.Slot),Δ = [.val (encWeb (N:Int) ts),.own (.lst ((marksL N (ts.take i)).map D.int)),x4,x5,x6,x7,x8],⟨_,_,_,_,_,rfl⟩,?_,?_⟩)))))
  ·rintro i d Δ2 hd ⟨x4,x5,x6,x7,x8,rfl⟩
   rw[Wad]at hd;cases z:ts[i]? with
   |none=>rw[z]at hd;cases hd
   |some t=>
    rw[z]at hd;have hd:encTie t=d:=by simpa using hd
    subst hd;have ht:=hW.tie t (Wat z);have hl:=Zbh N (ts.take i);have hs:=Zcu (n:=N) z;obtain⟨l,el⟩:∃l,marksL N (ts.take i)=l:=⟨_,rfl⟩;rw[el]at hl hs ⊢;have a1:=Zdx hl ht.1 ht.2.1;have a2:=Zdx hl ht.2.2.1 ht.2.2.2;refine Ziw rfl (Zb9 (Zbo (Zb9 (Zbo (Zgj ?_)))));refine Zaj (Zik (Zab (Za3 (Zab (Ze6 rfl rfl (Zac rfl ⟨_,_,_,_,rfl,rfl,rfl,a1,Zab (Ze6 rfl rfl (Zac rfl ⟨_,_,_,_,rfl,rfl,rfl,a2,Zaf (Zfg ?_)⟩))⟩))))));refine Zab (Za3 (Zab (Ze6 rfl rfl (Zac rfl ⟨_,_,_,_,rfl,rfl,rfl,a1,Zab (Ze6 rfl rfl (Zac rfl ⟨_,_,_,_,rfl,rfl,rfl,a2,Zaf (Zfg (Zaf ⟨_,_,rfl,?_⟩))⟩))⟩))));obtain⟨lo,elo⟩:∃lo,loI (l.getD t.1.toNat 0) (l.getD t.2.toNat 0)=lo:=⟨_,rfl⟩;obtain⟨hi,ehi⟩:∃hi,hiI (l.getD t.1.toNat 0) (l.getD t.2.toNat 0)=hi:=⟨_,rfl⟩;refine Zcy (Zbm (Zab (Zam (Zac rfl (Zak (Zaz (d:=.int (N:Int)) rfl (Zaf ⟨_,rfl,by omega,by omega,λk Δ=>∃x8:L2.Slot,Δ = [.val (encWeb (N:Int) ts),.own (.lst ((stepM l hi lo k).map D.int)),.val (.int t.1),.val (.int t.2),.val (.int lo),.val (.int hi),x8],⟨x8,?_⟩,?_,?_⟩)))))))
    ·rw[<- elo,<- ehi];rfl
    ·rintro k d Δ3 hd ⟨x8,rfl⟩
     rw[Wap]at hd;obtain⟨hk,rfl⟩:=Zb4 hd;rw[Wct];have hkl:k<l.length:=by omega
     have hg:=Zpk (h:=hi) (lo:=lo) hkl;have hat:atI ((stepM l hi lo k).map D.int) (k:Int)=some (.int l[k]):=Zb0 (by rw[Wad,hg];rfl);have hsu:=Zms (h:=hi) (lo:=lo) hkl;refine Zbo (Zcq (Zbd (Zam (Ze6 rfl rfl (Zac rfl ⟨_,_,_,_,rfl,rfl,rfl,hat,Zac rfl (Zef ⟨_,rfl,?_⟩)⟩)))));by_cases hb:l[k]=hi
     ·rw[decide_eq_true hb]
      rw[if_pos hb]at hsu;refine iteT (Zkj (Zac rfl ⟨⟨_,_,rfl,rfl⟩,Zac rfl ⟨_,_,_,k,rfl,rfl,rfl,?_,.val (.int (k:Int)),?_⟩⟩))
      ·unfold ixN
       rw[if_pos (by omega),if_pos (by rw[Wab,Zgh];omega),Wap]
      ·rw[hsu,List.map_set];rfl
     ·rw[decide_eq_false hb]
      rw[if_neg hb]at hsu;refine iteF (Za4 ⟨.val (.int (k:Int)),?_⟩);have:stepM l hi lo (k+1)=stepM l hi lo k:=by
       rw[hsu];apply Wb6;intro j;rw[Wdh];split
       ·rename_i hj
        subst hj;rw[if_pos (by rw[Zgh];omega),hg]
       ·rfl
      rw[this];rfl
    ·rintro Δ3 ⟨x8,rfl⟩
     have e2:stepM l hi lo (rngD 0 ((N:Int)).toNat).length=marksL N (ts.take (i+1)):=by
      rw[Zbc,Wap,hs];unfold mergeL;rw[elo,ehi,<- Zn7,hl]
     rw[e2];exact⟨_,_,_,_,_,rfl⟩
  ·rintro Δ2 ⟨x4,x5,x6,x7,x8,rfl⟩
   rw[Wab,Wby];exact⟨_,_,_,_,_,rfl⟩
 rintro Δ1 ⟨x4,x5,x6,x7,x8,rfl⟩;have hl:=Zbh N ts;refine Ze4 (Zej (by decide) (Zfe (Zbj (Zwy (Zab (Zc9 rfl (Zaf ⟨_,rfl,by omega,λms m1 m2=>⟨_,rfl,_,Or.inl rfl,?_,λ_=>true,λd=>match d with|.int g=>lstI (partI (marksL N ts) N g)|d=>d,λi d hd=>?_,?_⟩⟩)))))))
 ·have:=Firsts.len ⟨m1,m2⟩
  rw[Wab];exact small1000 (by omega)
 ·rw[Wad]at hd
  cases zz:ms[i]? with
  |none=>rw[zz]at hd;cases hd
  |some g=>
   rw[zz]at hd;have hd:D.int g=d:=by simpa using hd
   subst hd;refine Zbu ⟨rfl,Zch (by decide) (Zbm (Zab (Zam (Zac rfl (Zak (Zaz (d:=.int (N:Int)) rfl (Zaf ⟨_,rfl,by omega,by omega,?_,λd=>match d with|.int p=>decide ((marksL N ts).getD p.toNat 0=g)|_=>false,λd=>d,λj d hd=>?_,?_⟩)))))))⟩
   ·rw[Zbc];exact small1000 (by omega)
   ·obtain⟨hj,rfl⟩:=Zb4 hd
    refine Zbd (Zam (Zam (Zac rfl (Zac rfl (Zcs (Zdx hl (by omega) (by omega)) (Zac rfl (Zef ⟨_,rfl,rfl,?_⟩)))))));split
    ·exact Zac rfl ⟨rfl,_,rfl⟩
    ·exact⟨_,rfl⟩
   ·refine⟨?_,_,rfl⟩
    rw[Wap];exact Zse _ _ _ _ (λ_=>rfl) _ λ_=>rfl
 ·refine⟨_,rfl,?_⟩
  rw[Znm (l:=marksL N ts) (n:=N) _ (λ_=>rfl) _ λ_=>rfl];exact q ms ⟨m1,m2⟩
def fHoles:DSp:=λds Post=>∃n ts o,ds=[encWeb n ts,encOrd o]/\WebOk n ts/\OrdOk n ts o/\∀ms,Firsts ms (marksL n.toNat ts)->Post (.int (holesI n ts o ms))
def fLack:DSp:=λds Post=>∃n ts,∃c:Int,ds=[encWeb n ts,.int c]/\WebOk n ts/\∀ms,Firsts ms (marksL n.toNat ts)->Post (.int (2*(ms.length:Int)-n+(ts.length:Int)-c))
theorem Zmg (mb:Mb mg) (C56:Callee P w K mg base 1 "parts_of" ["web"] (spN K fParts)) (F:Fun K "lacking" "lacking" s_lacking f fd):FnOk P w K mg base CX0 2 f fd ["web","faces_many"] (spD K fLack):=by
 refine F.ok sc_lacking (Zbi λds Post h=>by obtain⟨_,_,_,rfl,_⟩:=h;rfl) (λcdv A outer s H vs Q E hr h=>?_);have hu:=Zby hr;refine⟨_,(Zae (Zet (pv 0) (gtupK (n:=2) K rfl (Za9 (Zal (i:=2) sc_lacking.nd rfl (Or.inl rfl)) (Za9 (Zal (i:=3) sc_lacking.nd rfl (Or.inl rfl)) Zdm)))) (Zah (Zax (Zaq Zeg (Zaq (addK K) (Zaq Zeg (Zaq Zcx Zag (Zai (lenK K) rfl (mb "len" (by decide)) Zbl (Zaa (Zay C56 (hr.mono (by decide)) (Zaa (pv 0) Zad)) Zad))) (pv 2)) (Zai (lenK K) rfl (mb "len" (by decide)) Zbl (Zaa (pv 3) Zad))) (pv 1))))),Zdl (λds Post hf=>?_) h⟩;obtain⟨n,ts,c,rfl,hW,q⟩:=hf;refine⟨by simp,?_⟩;dsimp only[startD,Wbo,Wbm,Wba,Wag];have hn0:=hW.lo;have hn1:=hW.hi;have hts:=hW.len;have hl:=Zbh n.toNat ts;refine Zaj (Zoz (Zac rfl (Ziw rfl (Zb9 (Zbo (Zb9 (Zbo (Zgj ?_))))))));refine Za8 (Zam (Zam (Zam (Zam (Zak (Za3 (Zab (Zbj (Zcz (Zab (Zac rfl (Zaf ⟨n,ts,rfl,hW,λms hm=>⟨_,rfl,?_⟩⟩))))))))))));have hml:=hm.len;refine Zaf (Zba (Or.inl rfl) ?_);rw[Wab,show (partsL n.toNat ts ms).length=ms.length from Wab _];refine jr_I (Or.inl ⟨by omega,by omega⟩) (Zac rfl (Zfj (Za3 (Zab (Zac rfl (Zaf (Zba (Or.inr rfl) ?_)))))));rw[Wab];refine Zcf (Zac rfl (Zfj ?_));exact q ms hm
theorem Zrn (mb:Mb mg) (C53:Callee P w K mg base 2 "lacking" ["web","faces_many"] (spD K fLack)) (C47:Callee P w K mg base 5 "faces" ["web","order"] (spN K fFaces)) (F:Fun K "holes" "holes" s_holes f fd):FnOk P w K mg base CX0 6 f fd ["web","order"] (spD K fHoles):=by
 refine F.ok sc_holes (Zbi λds Post h=>by obtain⟨_,_,_,rfl,_⟩:=h;rfl) (λcdv A outer s H vs Q E hr h=>?_);have hu:=Zby hr;refine⟨_,(Zah (Zax (Zaq Zfb (Zay C53 (hr.mono (by decide)) (Zaa (pv 0) (Zaa (Zai (lenK K) rfl (mb "len" (by decide)) Zbl (Zaa (Zay C47 (hr.mono (by decide)) (Zaa (pv 0) (Zaa (pv 1) Zad))) Zad)) Zad))) Zag))),Zdl (λds Post hf=>?_) h⟩;obtain⟨n,ts,o,rfl,hW,hO,q⟩:=hf;refine⟨by simp,?_⟩;dsimp only[startD,Wbo,Wbm,Wba,Wag];refine Za8 (Zam (Zar (Zab (Zac rfl (Zab (Za3 (Zab (Zbj (Zcz (Zab (Zac rfl (Zab (Zac rfl (Zaf ⟨n,ts,o,rfl,hW,hO,_,rfl,?_⟩))))))))))))));refine Zaf (Zba (Or.inl rfl) ?_);rw[Wab];exact Zaf ⟨n,ts,_,rfl,hW,λms hm=>Zak (jr_I ⟨by omega,by omega⟩ (q ms hm))⟩
theorem Zm1 (mb:Mb mg) (C38:Callee P w K mg base 1 "_law_parts" ["_law_web_here"] (spN K fParts)) (C33:Callee P w K mg base 2 "_law_faces" ["_law_order_here"] (spN K fLFaces)) (F:Fun K "_law_holes" "_law_holes" s_law_holes f fd):FnOk P w K mg base CX0 3 f fd ["_law_web_here","_law_order_here"] (spD K fHoles):=by
 refine F.ok sc_law_holes (Zbi λds Post h=>by obtain⟨_,_,_,rfl,_⟩:=h;rfl) (λcdv A outer s H vs Q E hr h=>?_);have hu:=Zby hr;refine⟨_,(Zae (Zan (i:=2) sc_law_holes.nd rfl (Or.inl rfl) (Zaq (addK K) (Zaq Zeg (Zaq Zcx Zag (Zai (lenK K) rfl (mb "len" (by decide)) Zbl (Zaa (Zay C38 (hr.mono (by decide)) (Zaa (pv 0) Zad)) Zad))) (Za1 (ixK K hu) (pv 0) Zag (λ_ _=>rfl))) (Zai (lenK K) rfl (mb "len" (by decide)) Zbl (Zaa (Za1 (ixK K hu) (pv 0) Zag (λ_ _=>rfl)) Zad)))) (Zah (Zax (Zaq Zfb (Zaq Zeg (pv 2) (Zai (lenK K) rfl (mb "len" (by decide)) Zbl (Zaa (Zay C33 (hr.mono (by decide)) (Zaa (pv 1) Zad)) Zad))) Zag)))),Zdl (λds Post hf=>?_) h⟩;obtain⟨n,ts,o,rfl,hW,hO,q⟩:=hf;refine⟨by simp,?_⟩;dsimp only[startD,Wbo,Wbm,Wba,Wag];have hn0:=hW.lo;have hn1:=hW.hi;have hts:=hW.len;have hl:=Zbh n.toNat ts;have al:=Zfs hW hO;refine Zaj (Zav (Zam (Zam (Zam (Zak (Za3 (Zab (Zbj (Zcz (Zab (Zac rfl (Zaf ⟨n,ts,rfl,hW,λms hm=>⟨_,rfl,?_⟩⟩))))))))))));have hml:=hm.len;refine Zaf (Zba (Or.inl rfl) ?_);rw[Wab,show (partsL n.toNat ts ms).length=ms.length from Wab _];refine jr_I (Or.inl ⟨by omega,by omega⟩) (Zam (Zac rfl (Zak (Zaz (d:=.int n) rfl (Zfj (Za3 (Zab (Zam (Zac rfl (Zak (Zaz (d:=.tup (ts.map encTie)) rfl (Zaf (Zba (Or.inr rfl) ?_)))))))))))));rw[Wab];refine Zcf ?_;refine Za8 (Zam (Zam (Zac rfl (Za3 (Zab (Zbj (Zcz (Zab (Zac rfl (Zaf ⟨n,ts,o,rfl,hW,hO,_,rfl,?_⟩))))))))));refine Zaf (Zba (Or.inl rfl) ?_);rw[Wab];refine Zfj (Zak (jr_I ⟨by omega,by omega⟩ ?_));exact q ms hm
end
def fMixed:BSp:=λps ds Post=>Pen ps/\∃xs:List D,ds=[.lst xs]/\xs.length<=60/\∀ys ps',Pen ps' -> ys.Perm xs->Post (.lst ys) ps'
def fBeside:BSp:=λps ds Post=>Pen ps/\ds=[]/\∀n ts ps',Pen ps' -> WebOk n ts->Post (encWeb n ts) ps'
theorem Zrz {α:Type}(l:List α) (j:Nat) (x:α):(l.take j++x::l.drop j).Perm (l++[x]):=by
 refine Wep.trans ?_;rw[Wc2];exact(List.perm_append_singleton _ _).symm
section
variable {P:Program}{w:World}{K:W.Frag}{mg:Str->Option Value}{base:Heap}{f:Addr}{fd:FuncData}
theorem Zrc (mb:Mb mg) (C32:Callee P w K mg base 1 "_law_draw" ["_law_pen_here","_law_many"] (spB K fDraw)) (F:Fun K "_law_mixed" "_law_mixed" s_law_mixed f fd):FnOk P w K mg base CX0 2 f fd ["_law_pen_here","_law_things"] (spB K fMixed):=by
 refine F.ok sc_law_mixed (Ze9 λps ds Post h=>by obtain⟨_,_,rfl,_⟩:=h;rfl) (λcdv A outer s H vs Q E hr h=>?_);have hu:=Zby hr;refine⟨_,(Zae (Zan (i:=2) sc_law_mixed.nd rfl (Or.inl rfl) (Zff Zad)) (Zae (Zcv PassesOwn.never rfl (seqK K (pv 1)) (Zal (i:=3) sc_law_mixed.nd rfl (Or.inl rfl)) (Zah (Zb7 (bmK K PySem.F.plainAttrs_list PySem.F.slot_list_insert PySem.F.type_list_insert Zi8 (pv 2) (Zaa (Zay C32 (hr.mono (by decide)) (Zaa (pv 0) (Zaa (Zaq (addK K) (Zai (lenK K) rfl (mb "len" (by decide)) Zbl (Zaa (pv 2) Zad)) Zag) Zad))) (Zaa (pv 3) Zad)))))) (Zah (Zax (pv 2))))),Zmv (λps ds Post hf=>?_) h⟩;obtain⟨hp,xs,rfl,hl,q⟩:=hf;refine⟨by simp,?_⟩;dsimp only[cxOf,startD,Wbo,Wbm,Wba,Wag];refine Zaj (Zb5 (Zgq (Zaf ⟨by decide,?_⟩)));refine Zbk (λΔ=>∃(psx ys:List D) (x3:L2.Slot),Pen psx/\ys.Perm xs /\ Δ = [.bor (.lst psx),.val (.lst xs),.own (.lst ys),x3]) ?_ ?_
 ·refine Zcy (Zfe (Zac rfl ⟨_,Or.inl rfl,λi Δ=>∃(psx ys:List D) (x3:L2.Slot),Pen psx/\ys.Perm (xs.take i) /\ Δ = [.bor (.lst psx),.val (.lst xs),.own (.lst ys),x3],⟨ps,[],.any,hp,by rw[Wdi],rfl⟩,?_,?_⟩))
  ·rintro i d Δ2 hd ⟨psx,ys,x3,hpx,hy,rfl⟩
   have hi:=(Waf.mp hd).1;have hyl:=hy.length_eq;rw[Wa2]at hyl;refine Zbo (Zsx rfl rfl (Zcj rfl rfl (Zab (Zam (Zhs rfl rfl (Zak (Zcf (Zaf ⟨_,_,rfl,rfl,hpx,_,rfl,by omega,by omega,λr ps' hp' hr0 hr1=>?_⟩))))))));refine Zac rfl ⟨_,r,ys,rfl,rfl,rfl,small1000 (by omega),by omega,by omega,ps',_,_,hp',?_,rfl⟩;rw[Wb0,hd];exact(Zrz ys _ d).trans (List.Perm.append_right _ hy)
  ·rintro Δ2 ⟨psx,ys,x3,hpx,hy,rfl⟩
   rw[Wby]at hy;exact⟨psx,ys,x3,hpx,hy,rfl⟩
 rintro Δ1 ⟨psx,ys,x3,hpx,hy,rfl⟩;exact Za8 (Zc9 rfl ⟨_,rfl,q ys _ hpx hy⟩)
theorem Zpi (mb:Mb mg) (C41:Callee P w K mg base 2 "_law_web" ["_law_pen_here","_law_places","_law_ties"] (spB K fWeb)) (C35:Callee P w K mg base 2 "_law_mixed" ["_law_pen_here","_law_things"] (spB K fMixed)) (F:Fun K "_law_beside" "_law_beside" s_law_beside f fd):FnOk P w K mg base CX0 3 f fd ["_law_pen_here"] (spB K fBeside):=by
 refine F.ok sc_law_beside (Ze9 λps ds Post h=>by obtain⟨_,rfl,_⟩:=h;rfl) (λcdv A outer s H vs Q E hr h=>?_);have hu:=Zby hr;refine⟨_,(Zae (Zan (i:=1) sc_law_beside.nd rfl (Or.inr rfl) Zag) (Zae (Zan (i:=2) sc_law_beside.nd rfl (Or.inl rfl) (Zff Zad)) (Zae (Zcv PassesOwn.never rfl (Zbn rfl (mb "range" (by decide)) (Zaa Zag Zad)) (Zal (i:=3) sc_law_beside.nd rfl (Or.inl rfl)) (Zae (Zan (i:=4) sc_law_beside.nd rfl (Or.inl rfl) (Zay C41 (hr.mono (by decide)) (Zaa (pv 0) (Zaa Zag (Zaa Zag Zad))))) (Zae (Zan (i:=2) sc_law_beside.nd rfl (Or.inl rfl) (Zaq (addK K) (pv 2) (Zb8 ["_law_a","_law_b"] (show CompSc (defScope s_law_beside) ["_law_pen_here","_law_many","_law_ties","_law_turn","_law_web_here","_law_names"] _ ["_law_many"] [1] from ⟨rfl,by decide +kernel,by decide +kernel,by decide +kernel,rfl,by decide +kernel⟩) rfl (seqK K (Za1 (ixK K hu) (pv 4) Zag (λ_ _=>rfl))) (λ_ _ _ _ _=>(gtupK (n:=2) K rfl (Za9 (Zal (i:=0) (show List.Nodup (["_law_a","_law_b","_law_many"]:List Str) from by decide) rfl (Or.inl rfl)) (Za9 (Zal (i:=1) (show List.Nodup (["_law_a","_law_b","_law_many"]:List Str) from by decide) rfl (Or.inl rfl)) Zdm)))) (λ_ _ _ _ _=>Zb3) (λ_ _ _ _ _=>(Zct (Zaa (Zaq (addK K) (pv 0) (pv 2)) (Zaa (Zaq (addK K) (pv 1) (pv 2)) Zad))))))) (Zah (Zan (i:=1) sc_law_beside.nd rfl (Or.inr rfl) (Zaq (addK K) (pv 1) (Za1 (ixK K hu) (pv 4) Zag (λ_ _=>rfl)))))))) (Zae (Zan (i:=5) sc_law_beside.nd rfl (Or.inr rfl) (Zay C35 (hr.mono (by decide)) (Zaa (pv 0) (Zaa (Zdn rfl rfl (mb "list" (by decide)) rfl (mb "range" (by decide)) (Zaa (pv 1) Zad)) Zad)))) (Zah (Zax (Zct (Zaa (pv 1) (Zaa (Zbr (tupK K) rfl (mb "tuple" (by decide)) Zbs (Zaa (Zay C35 (hr.mono (by decide)) (Zaa (pv 0) (Zaa (Zb8 ["_law_a","_law_b"] (show CompSc (defScope s_law_beside) ["_law_pen_here","_law_many","_law_ties","_law_turn","_law_web_here","_law_names"] _ ["_law_names"] [5] from ⟨rfl,by decide +kernel,by decide +kernel,by decide +kernel,rfl,by decide +kernel⟩) rfl (seqK K (pv 2)) (λ_ _ _ _ _=>(gtupK (n:=2) K rfl (Za9 (Zal (i:=0) (show List.Nodup (["_law_a","_law_b","_law_names"]:List Str) from by decide) rfl (Or.inl rfl)) (Za9 (Zal (i:=1) (show List.Nodup (["_law_a","_law_b","_law_names"]:List Str) from by decide) rfl (Or.inl rfl)) Zdm)))) (λ_ _ _ _ _=>Zb3) (λ_ _ _ _ _=>(Zct (Zaa (Za1 (ixK K hu) (pv 2) (pv 0) (λ_ _=>rfl)) (Zaa (Za1 (ixK K hu) (pv 2) (pv 1) (λ_ _=>rfl)) Zad))))) Zad))) Zad)) Zad))))))))),Zmv (λps ds Post hf=>?_) h⟩;obtain⟨hp,rfl,q⟩:=hf;refine⟨by simp,?_⟩;dsimp only[cxOf,startD,Wbo,Wbm,Wba,Wag];refine Zaj (Zav (Zak ?_));refine Zaj (Zav (Zvy (Zaf ⟨by decide,?_⟩)));refine Zbk (λΔ=>∃(psx:List D) (n:Int) (ts:List (Int × Int)) (x3 x4:L2.Slot),Pen psx/\WebOk n ts /\ Δ = [.bor (.lst psx),.val (.int n),.val (.lst (ts.map encTie)),x3,x4,.any]) ?_ ?_
 ·refine Zcy (Zbm (Zab (Zak (Zaf ⟨3,rfl,by omega,by omega,?_⟩))))
  refine⟨λi Δ=>∃(psx:List D) (n:Int) (ts:List (Int × Int)) (x3 x4:L2.Slot),Pen psx/\(i:Int)<=n/\n<=8*i/\ts.length<=8*i/\(∀t∈ts,0<=t.1/\t.1<n/\0<=t.2/\t.2<n) /\ Δ = [.bor (.lst psx),.val (.int n),.val (.lst (ts.map encTie)),x3,x4,.any],⟨ps,0,[],.any,.any,hp,by omega,by omega,by simp,λ_ h=>(nomatch h),rfl⟩,?_,?_⟩
  ·rintro i d Δ2 hd ⟨psx,n,ts,x3,x4,hpx,hn0,hn1,htl,htr,rfl⟩
   obtain⟨hi,rfl⟩:=Zb4 hd;have hi:i<3:=hi;refine Zbo (Zaj (Zav (Zcj rfl rfl (Zab (Zak (Zab (Zak (Zaf ⟨_,_,rfl,rfl,hpx,8,8,rfl,by omega,by omega,by omega,by omega,λm us ps' hp' hW hm hul=>?_⟩))))))));have hm0:=hW.lo;refine Zaj (Zav (Zam (Zac rfl (Zfl (by decide) (Zb6 (Zam (Zac rfl (Zak (Zaz (d:=.tup (us.map encTie)) rfl ⟨_,rfl,?_,λ_=>true,λd=>match d with|.tup [.int a,.int b]=>.tup [.int (a+n),.int (b+n)]|d=>d,λj d hd=>?_,?_⟩)))))))))
   ·rw[Wab];exact small1000 (by omega)
   ·rw[Wad]at hd
    cases z:us[j]? with
    |none=>rw[z]at hd;cases hd
    |some t=>
     rw[z]at hd;have hd:encTie t=d:=by simpa using hd
     subst hd;exact⟨_,_,rfl,Zbu ⟨rfl,Zcm (Zab (Zam (Zac rfl (Zac rfl (Zcf (Zab (Zam (Zac rfl (Zac rfl (Zcf (Zaf ⟨Zer,rfl,_,_,rfl⟩)))))))))))⟩⟩
   have e1:((us.map encTie).filter λ_=>true).map (λd=>match d with|.tup [.int a,.int b]=>D.tup [.int (a+n),.int (b+n)]|d=>d)=(us.map λt=>(t.1+n,t.2+n)).map encTie:=by
    rw[Wbk.mpr (by simp),Wa3,Wa3];rfl
   rw[e1];refine Znh ?_ ?_
   ·rw[Wab,Wab,Wab];exact Wcd (small1000 (by omega))
   refine Zav (Zam (Zac rfl (Zam (Zac rfl (Zak (Zaz (d:=.int m) rfl (Zcf ?_)))))));refine⟨ps',n+m,ts++us.map (λt=>(t.1+n,t.2+n)),.val (.int (0+(i:Int))),.val (encWeb m us),hp',by omega,by omega,by rw[Waq,Wab];omega,λt ht=>?_,?_⟩
   ·rcases Wbd.mp ht with z|z
    ·have:=htr t z;omega
    ·obtain⟨u,hu',rfl⟩:=Way.mp z
     have:=hW.tie u hu';show 0<=u.1+n/\u.1+n<n+m/\0<=u.2+n/\u.2+n<n+m;omega
   ·rw[Wax]
    rfl
  ·rintro Δ2 ⟨psx,n,ts,x3,x4,hpx,hn0,hn1,htl,htr,rfl⟩
   have e3:(rngD 0 (3:Int).toNat).length=3:=by rw[Zbc];rfl
   rw[e3]at hn0 hn1 htl;exact⟨psx,n,ts,x3,x4,hpx,⟨by omega,by omega,by omega,htr⟩,rfl⟩
 rintro Δ1 ⟨psx,n,ts,x3,x4,hpx,hW,rfl⟩;have hn0:=hW.lo;have hn1:=hW.hi;have hts:=hW.len;obtain⟨N,rfl⟩:∃N:Nat,n=(N:Int):=⟨n.toNat,by omega⟩;refine Zaj (Zav (Zcj rfl rfl (Zab (Zbj (Zuo (Zab (Zac rfl (Zaf ⟨N,rfl,by omega,_,rfl,Zaf ⟨_,_,rfl,rfl,hpx,_,rfl,?_,λys ps' hp' hy=>?_⟩⟩))))))))
 ·rw[Wab,Wa7];omega
 obtain⟨nm,rfl,hnl,hnr⟩:∃nm:List Int,ys=nm.map D.int/\nm.length=N/\∀x∈nm,0<=x/\x<(N:Int):=by
  have hl:=hy.length_eq;rw[Wab,Wa7]at hl;have all:∀d∈ys,∃x:Int,d=.int x/\0<=x/\x<(N:Int):=λd hd=>by
   obtain⟨x,hx,rfl⟩:=Way.mp (hy.mem_iff.mp hd);rw[Waw]at hx;exact⟨x,rfl,by omega,by omega⟩
  clear hy;refine⟨ys.map λd=>match d with|.int x=>x|_=>0,?_,by rw[Wab];exact hl,λx hx=>?_⟩
  ·rw[Wa3]
   conv=>lhs;rw[<- List.map_id ys]
   apply Wbw;intro d hd;obtain⟨x,rfl,_⟩:=all d hd;rfl
  ·obtain⟨d,hd,rfl⟩:=Way.mp hx
   obtain⟨y,rfl,h⟩:=all d hd;exact h
 have at_:∀x:Int,0<=x->x<(N:Int)->atI (nm.map D.int) x=some (.int (nm.getD x.toNat 0)):=λx h0 h1=>by
  rw[show x=((x.toNat:Nat):Int) by omega];refine Zb0 ?_;rw[Wad,Wae,Wap,Waa (by omega:x.toNat<nm.length)];rfl
 have in_:∀x:Int,0<=x->x<(N:Int)->0<=nm.getD x.toNat 0/\nm.getD x.toNat 0<(N:Int):=λx h0 h1=>by
  rw[Wae,Waa (by omega:x.toNat<nm.length)];exact hnr _ (Wa5 _)
 refine Za8 (Zcm (Zab (Zac rfl (Zab (Za3 (Zab (Zcj rfl rfl (Zab (Zfl (by decide) (Zfe (Zac rfl ⟨_,Or.inl rfl,?_,λ_=>true,λd=>match d with|.tup [.int a,.int b]=>.tup [.int (nm.getD a.toNat 0),.int (nm.getD b.toNat 0)]|d=>d,λj d hd=>?_,?_⟩)))))))))))
 ·rw[Wab];exact small1000 (by omega)
 ·rw[Wad]at hd
  cases z:ts[j]? with
  |none=>rw[z]at hd;cases hd
  |some t=>
   rw[z]at hd;have hd:encTie t=d:=by simpa using hd
   subst hd;have ht:=hW.tie t (Wat z);exact⟨_,_,rfl,Zbu ⟨rfl,Zcm (Zab (Zam (Zac rfl (Zac rfl (Zcs (at_ t.1 ht.1 ht.2.1) (Zab (Zam (Zac rfl (Zac rfl (Zcs (at_ t.2 ht.2.2.1 ht.2.2.2) (Zaf ⟨Zer,rfl,_,_,rfl⟩)))))))))))⟩⟩
 have e1:((ts.map encTie).filter λ_=>true).map (λd=>match d with|.tup [.int a,.int b]=>D.tup [.int (nm.getD a.toNat 0),.int (nm.getD b.toNat 0)]|d=>d)=(ts.map λt=>(nm.getD t.1.toNat 0,nm.getD t.2.toNat 0)).map encTie:=by
  rw[Wbk.mpr (by simp),Wa3,Wa3];rfl
 rw[e1];refine Zaf ⟨_,_,rfl,rfl,hp',_,rfl,?_,λzs ps2 hp2 hz=>?_⟩
 ·rw[Wab,Wab];omega
 obtain⟨us,rfl,hul,hur⟩:∃us:List (Int × Int),zs=us.map encTie/\us.length=ts.length/\∀t∈us,0<=t.1/\t.1<(N:Int)/\0<=t.2/\t.2<(N:Int):=by
  have hl:=hz.length_eq;rw[Wab,Wab]at hl;have all:∀d∈zs,∃t:Int × Int,d=encTie t/\0<=t.1/\t.1<(N:Int)/\0<=t.2/\t.2<(N:Int):=λd hd=>by
   obtain⟨t,ht,rfl⟩:=Way.mp (hz.mem_iff.mp hd);obtain⟨u,hu',rfl⟩:=Way.mp ht;have h:=hW.tie u hu';have a:=in_ u.1 h.1 h.2.1;have b:=in_ u.2 h.2.2.1 h.2.2.2;exact⟨_,rfl,a.1,a.2,b.1,b.2⟩
  clear hz;refine⟨zs.map λd=>match d with|.tup [.int a,.int b]=>(a,b)|_=>(0,0),?_,by rw[Wab];exact hl,λx hx=>?_⟩
  ·rw[Wa3]
   conv=>lhs;rw[<- List.map_id zs]
   apply Wbw;intro d hd;obtain⟨t,rfl,_⟩:=all d hd;rfl
  ·obtain⟨d,hd,rfl⟩:=Way.mp hx
   obtain⟨t,rfl,h⟩:=all d hd;exact h
 refine Zaf (Zdk (Or.inl rfl) (Zaf ⟨Zer,_,rfl,?_⟩));exact q (N:Int) us _ hp2 ⟨hn0,hn1,by omega,hur⟩
end
def stD (s:Int):D:=.tup [.int (s / 2),.int (s % 2)]
theorem Zqs (x:Int):stD (2*x)=.tup [.int x,.int 0]:=by unfold stD;rw[show 2*x / 2=x by omega,show 2*x % 2=0 by omega]
theorem Zxi (x:Int):stD (2*x+1)=.tup [.int x,.int 1]:=by unfold stD;rw[show (2*x+1) / 2=x by omega,show (2*x+1) % 2=1 by omega]
structure CrOk (ts:List (Int × Int)) (cs:List Int):Prop where
 len:cs.length=ts.length
 bit:∀c∈cs,c=0\/c=1
def gHand (cs:List Int) (s:Int):Int:=(s % 2+cs.getD (s / 4).toNat 0) % 2
def preOf (ts:List (Int × Int)) (o:List (List Int)) (e:Nat):Int:=prevIn (rowAt ts o e) e
def cOn (ts:List (Int × Int)) (o:List (List Int)) (cs:List Int) (s:Int):Int:=if gHand cs s=0 then 2*folOf ts o (partner (s / 2).toNat) else 2*preOf ts o (partner (s / 2).toNat)+1
def bkI (cs:List Int) (s:Int):Int:=2*((partner (s / 2).toNat:Nat):Int)+(1-gHand cs s)
theorem CrOk.at {ts:List (Int × Int)}{cs:List Int}(h:CrOk ts cs) {k:Nat}(hk:k<ts.length):∃c,cs[k]?=some c/\cs.getD k 0=c/\(c=0\/c=1):=by
 have hk':k<cs.length:=by rw[h.len];exact hk
 refine⟨cs[k],Waa hk',?_,h.bit _ (Wa5 hk')⟩;rw[Wae,Waa hk'];rfl
theorem Znj (cs:List Int) (s:Int):gHand cs s=0\/gHand cs s=1:=by unfold gHand;omega
def fHand:DSp:=λds Post=>∃(ts:List (Int × Int)) (cs:List Int) (s:Nat),ds=[encRow cs,stD s]/\CrOk ts cs/\s<4*ts.length/\Post (.int (gHand cs s))
def fCrOn:DSp:=λds Post=>∃n ts o cs,∃s:Nat,ds=[encWeb n ts,encOrd o,encRow cs,stD s]/\WebOk n ts/\OrdOk n ts o/\CrOk ts cs/\s<4*ts.length/\Post (stD (cOn ts o cs s))
def fCross:BSp:=λps ds Post=>Pen ps/\∃n ts,ds=[encWeb n ts]/\WebOk n ts/\∀cs ps',Pen ps' -> CrOk ts cs->Post (encRow cs) ps'
section
variable {P:Program}{w:World}{K:W.Frag}{mg:Str->Option Value}{base:Heap}{f:Addr}{fd:FuncData}
theorem Zud (mb:Mb mg) (F:Fun K "hand_beyond" "hand_beyond" s_hand_beyond f fd):FnOk P w K mg base CX0 1 f fd ["crossings","state"] (spD K fHand):=by
 refine F.ok sc_hand_beyond (Zbi λds Post h=>by obtain⟨_,_,_,rfl,_⟩:=h;rfl) (λcdv A outer s H vs Q E hr h=>?_);have hu:=Zby hr;refine⟨_,(Zae (Zet (pv 1) (gtupK (n:=2) K rfl (Za9 (Zal (i:=2) sc_hand_beyond.nd rfl (Or.inl rfl)) (Za9 (Zal (i:=3) sc_hand_beyond.nd rfl (Or.inl rfl)) Zdm)))) (Zah (Zax (Zk0 (Za2 Zcg (Za1 (ixK K hu) (pv 0) (Zaq Zfb (pv 2) Zag) (λ_ _=>rfl)) Zag (nomark _)) (Zaq Zeg Zag (pv 3)) (pv 3))))),Zdl (λds Post hf=>?_) h⟩;obtain⟨ts,cs,t,rfl,hC,ht,q⟩:=hf;refine⟨by simp,?_⟩;dsimp only[startD,Wbo,Wbm,Wba,Wag];obtain⟨c,c1,c2,c3⟩:=hC.at (k:=t / 4) (by omega);have hat:atI (cs.map D.int) ((t:Int) / 2 / 2)=some (.int c):=by
  rw[show (t:Int) / 2 / 2=((t / 4:Nat):Int) by omega];exact Zb0 (by rw[Wad,c1];rfl)
 have hg:gHand cs t=((t:Int) % 2+c) % 2:=by unfold gHand;rw[show ((t:Int) / 4).toNat=t / 4 by omega,c2]
 refine Zaj (Zoz (Zac rfl (Ziw rfl (Zb9 (Zbo (Zb9 (Zbo (Zgj ?_))))))));refine Za8 (Zlb (Zbd (Zam (Zam (Zac rfl (Zam (Zac rfl (Zak (jr_I ⟨by omega,by omega⟩ (Zaz hat (Zak (Zef ⟨_,rfl,?_⟩))))))))))));refine ite2 (λz=>?_) (λz=>?_)
 ·have z:c=1:=of_decide_eq_true z
  refine Zam (Zak (Zac rfl (Zfj ?_)));rw[hg]at q;rw[show (1:Int)-(t:Int) % 2=((t:Int) % 2+c) % 2 by omega];exact q
 ·have z:¬ c=1:=of_decide_eq_false (Wbt.mpr z)
  refine Zac rfl ?_;rw[hg]at q;rw[show (t:Int) % 2=((t:Int) % 2+c) % 2 by omega];exact q
theorem Zuw (mb:Mb mg) (C50:Callee P w K mg base 1 "hand_beyond" ["crossings","state"] (spD K fHand)) (C48:Callee P w K mg base 2 "follower" ["web","order","end"] (spD K fFol)) (C49:Callee P w K mg base 2 "forerunner" ["web","order","end"] (spD K fFore)) (F:Fun K "crossed_onward" "crossed_onward" s_crossed_onward f fd):FnOk P w K mg base CX0 3 f fd ["web","order","crossings","state"] (spD K fCrOn):=by
 refine F.ok sc_crossed_onward (Zbi λds Post h=>by obtain⟨_,_,_,_,_,rfl,_⟩:=h;rfl) (λcdv A outer s H vs Q E hr h=>?_);have hu:=Zby hr;refine⟨_,(Zae (Zan (i:=4) sc_crossed_onward.nd rfl (Or.inl rfl) (Zaq Zpm (Za1 (ixK K hu) (pv 3) Zag (λ_ _=>rfl)) Zag)) (Zae (Zc1 (Za2 Zcg (Zay C50 (hr.mono (by decide)) (Zaa (pv 2) (Zaa (pv 3) Zad))) Zag (nomark _)) (Zah (Zax (Zct (Zaa (Zay C48 (hr.mono (by decide)) (Zaa (pv 0) (Zaa (pv 1) (Zaa (pv 4) Zad)))) (Zaa Zag Zad))))) Za7) (Zah (Zax (Zct (Zaa (Zay C49 (hr.mono (by decide)) (Zaa (pv 0) (Zaa (pv 1) (Zaa (pv 4) Zad)))) (Zaa Zag Zad))))))),Zdl (λds Post hf=>?_) h⟩;obtain⟨n,ts,o,cs,t,rfl,hW,hO,hC,ht,q⟩:=hf;refine⟨by simp,?_⟩;dsimp only[startD,Wbo,Wbm,Wba,Wag];have he:t / 2<2*ts.length:=by omega
 refine Zaj (Zav (Zam (Zam (Zac rfl (Zak (Zaz (d:=.int ((t / 2:Nat):Int)) (by rw[show ((t / 2:Nat):Int)=(t:Int) / 2 by omega];rfl) (Zak (Zfj ?_))))))));rw[Zjn];have ee:((t:Int) / 2).toNat=t / 2:=by omega
 refine Zaj (Zcq (Zbd (Zam (Zar (Zab (Zac rfl (Zab (Zac rfl (Zaf ⟨ts,cs,t,rfl,hC,ht,Zak (Zef ⟨_,rfl,?_⟩)⟩)))))))));refine ite2 (λz=>?_) (λz=>?_)
 ·have z:gHand cs t=0:=of_decide_eq_true z
  refine Za8 (Zcm (Zab (Zar (Zab (Zac rfl (Zab (Zac rfl (Zab (Zac rfl (Zaf ⟨n,ts,o,partner (t / 2),rfl,hW,hO,Za0 he,Zab (Zak (Zaf ⟨Zer,?_⟩))⟩))))))))));have q':=q;unfold cOn at q';rw[if_pos z,Zqs,ee]at q';exact q'
 ·have z:¬ gHand cs t=0:=of_decide_eq_false (Wbt.mpr z)
  refine Za4 (Za8 (Zcm (Zab (Zar (Zab (Zac rfl (Zab (Zac rfl (Zab (Zac rfl (Zaf ⟨n,ts,o,partner (t / 2),rfl,hW,hO,Za0 he,Zab (Zak (Zaf ⟨Zer,?_⟩))⟩)))))))))));have q':=q;unfold cOn at q';rw[if_neg z,Zxi,ee]at q';exact q'
theorem Zqz (mb:Mb mg) (C32:Callee P w K mg base 1 "_law_draw" ["_law_pen_here","_law_many"] (spB K fDraw)) (F:Fun K "_law_crossings" "_law_crossings" s_law_crossings f fd):FnOk P w K mg base CX0 2 f fd ["_law_pen_here","_law_web_here"] (spB K fCross):=by
 refine F.ok sc_law_crossings (Ze9 λps ds Post h=>by obtain⟨_,_,_,rfl,_⟩:=h;rfl) (λcdv A outer s H vs Q E hr h=>?_);have hu:=Zby hr;refine⟨_,(Zae (Zan (i:=2) sc_law_crossings.nd rfl (Or.inr rfl) (Zay C32 (hr.mono (by decide)) (Zaa (pv 0) (Zaa Zag Zad)))) (Zae (Zdb (i:=3) ["_law_tie"] (show CompSc (defScope s_law_crossings) ["_law_pen_here","_law_web_here","_law_way","_law_found"] _ ["_law_pen_here"] [0] from ⟨rfl,by decide +kernel,by decide +kernel,by decide +kernel,rfl,by decide +kernel⟩) rfl sc_law_crossings.nd rfl (Or.inl rfl) (seqK K (Za1 (ixK K hu) (pv 1) Zag (λ_ _=>rfl))) (λ_ _ _ _ _=>(Zal (i:=0) (show List.Nodup (["_law_tie","_law_pen_here"]:List Str) from by decide) rfl (Or.inl rfl))) (λ_ _ _ _ _=>Zb3) (λ_ _ _ _ _=>(Zay C32 (hr.mono (by decide)) (Zaa (pv 1) (Zaa Zag Zad))))) (Zae (Zc1 (Za2 Zua (pv 2) Zag (nomark _)) (Zah (Zdb (i:=3) ["_law_tie"] (show CompSc (defScope s_law_crossings) ["_law_pen_here","_law_web_here","_law_way","_law_found"] _ ["_law_way"] [2] from ⟨rfl,by decide +kernel,by decide +kernel,by decide +kernel,rfl,by decide +kernel⟩) rfl sc_law_crossings.nd rfl (Or.inl rfl) (seqK K (Za1 (ixK K hu) (pv 1) Zag (λ_ _=>rfl))) (λ_ _ _ _ _=>(Zal (i:=0) (show List.Nodup (["_law_tie","_law_way"]:List Str) from by decide) rfl (Or.inl rfl))) (λ_ _ _ _ _=>Zb3) (λ_ _ _ _ _=>(pv 1)))) Za7) (Zah (Zax (Zbr (tupK K) rfl (mb "tuple" (by decide)) Zbs (Zaa (pv 3) Zad))))))),Zmv (λps ds Post hf=>?_) h⟩;obtain⟨hp,n,ts,rfl,hW,q⟩:=hf;refine⟨by simp,?_⟩;dsimp only[cxOf,startD,Wbo,Wbm,Wba,Wag];have hw2:=hW.len;refine Zaj (Zav (Zcj rfl rfl (Zab (Zak (Zaf ⟨_,_,rfl,rfl,hp,4,rfl,by omega,by omega,λway ps1 hp1 w0 w1=>?_⟩)))));refine Zbk (λΔ=>∃(cs:List Int) (psx:List D),Pen psx/\CrOk ts cs /\ Δ = [.bor (.lst psx),.val (encWeb n ts),.val (.int way),.val (.lst (cs.map .int))]) ?_ ?_
 ·refine Zav (Zm9 (by decide) (Zb6 (Zam (Zac rfl (Zak (Zaz (d:=.tup (ts.map encTie)) rfl ⟨_,rfl,?_,λi ys Δ=>∃(cs:List Int) (psx:List D) (x:L2.Slot),Pen psx/\cs.length=i/\(∀c∈cs,c=0\/c=1)/\ys=cs.map .int /\ Δ = [x,.bor (.lst psx)],?_,?_,?_⟩))))))
  ·rw[Wab];exact small1000 (by omega)
  ·exact⟨[],ps1,.any,hp1,rfl,λ_ h=>(nomatch h),rfl,rfl⟩
  ·rintro i d ys Δ2 hd ⟨cs,psx,x,hpx,hl,hb,rfl,rfl⟩
   refine Ze2 (by decide) (Zbu ?_);rw[if_pos rfl];refine Zcj rfl rfl (Zab (Zak (Zaf ⟨_,_,rfl,rfl,hpx,2,rfl,by omega,by omega,λr ps' hp' r0 r1=>?_⟩)));refine⟨cs++[r],ps',.val d,hp',by rw[Waq,hl];rfl,λc hc=>?_,by rw[Wax];rfl,rfl⟩;rcases Wbd.mp hc with z|z
   ·exact hb c z
   ·rw[Wbc]at z;subst z;omega
  ·rintro ys Δ2 ⟨cs,psx,x,hpx,hl,hb,rfl,rfl⟩
   rw[Wab]at hl;exact⟨cs,psx,hpx,⟨hl,hb⟩,rfl⟩
 rintro Δ1 ⟨cs,psx,hpx,hC,rfl⟩;refine Zbk (λΔ=>∃(cs:List Int),CrOk ts cs /\ Δ = [.bor (.lst psx),.val (encWeb n ts),.val (.int way),.val (.lst (cs.map .int))]) ?_ ?_
 ·refine Zcq (Zbd (Zam (Zac rfl (Zak (Zq8 ⟨_,rfl,ite2 (λz=>?_) (λz=>?_)⟩)))))
  ·have z:way<2:=of_decide_eq_true z
   refine Zav (Zch (by decide) (Zb6 (Zam (Zac rfl (Zak (Zaz (d:=.tup (ts.map encTie)) rfl ⟨_,rfl,?_,λ_=>true,λ_=>.int way,λi d hd=>?_,?_⟩))))))
   ·rw[Wab];exact small1000 (by omega)
   ·exact Zbu ⟨rfl,Zac rfl ⟨rfl,_,rfl⟩⟩
   ·refine⟨Wag ts.length way,⟨by rw[Waz],λc hc=>?_⟩,?_⟩
    ·rw[Wck]at hc;omega
    ·have e:((ts.map encTie).filter λ_=>true).map (λ_=>D.int way)=(Wag ts.length way).map D.int:=by
      rw[Wbk.mpr (by simp),Wa3,Wc0,List.eq_replicate_iff];refine⟨by rw[Wab],λb hb=>?_⟩;obtain⟨t,_,rfl⟩:=Way.mp hb;rfl
     rw[e];rfl
  ·exact Za4 ⟨cs,hC,rfl⟩
 rintro Δ1 ⟨cs,hC,rfl⟩;exact Za8 (Za3 (Zab (Zac rfl (Zaf (Zdk (Or.inl rfl) ⟨psx,rfl,q cs psx hpx hC⟩)))))
end
theorem Zdr (e:Nat):partner e / 2=e / 2:=by unfold partner;split <;> omega
section
variable {n:Int}{ts:List (Int × Int)}{o:List (List Int)}{cs:List Int}
theorem Zr4 (hW:WebOk n ts) (hO:OrdOk n ts o) {x:Nat}(hx:x<2*ts.length):∃k:Nat,k<2*ts.length/\preOf ts o x=(k:Int)/\folOf ts o k=(x:Int):=by
 obtain⟨g1,g2,g3⟩:=Zbz hW hO hx;have nd:=g2.nodup;obtain⟨i,hi⟩:=Wbv.mp g3;have hil:=(Waf.mp hi).1;have ep:=Zog nd hi;have hj:pvI (rowAt ts o x).length i<(rowAt ts o x).length:=by unfold pvI;split <;> omega
 rw[Wae,Waa hj]at ep;have hmem:prevIn (rowAt ts o x) x∈rowAt ts o x:=by rw[ep];exact Wa5 hj
 obtain⟨k,hk,pk,ek⟩:=g2.mem.mp hmem;refine⟨k,hk,ek.symm,?_⟩;have er:rowAt ts o k=rowAt ts o x:=by unfold rowAt;rw[pk]
 have hkj:(rowAt ts o x)[pvI (rowAt ts o x).length i]?=some (k:Int):=by
  rw[Waa hj,ek,ep];rfl
 unfold folOf;rw[er,Zem nd hkj];have:nxI (rowAt ts o x).length (pvI (rowAt ts o x).length i)=i:=by
  unfold nxI pvI;repeat' split
  all_goals omega
 rw[this,Wae,hi];rfl
theorem Zwz (hW:WebOk n ts) (hO:OrdOk n ts o) {x:Nat}(hx:x<2*ts.length):∃k:Nat,k<2*ts.length/\folOf ts o x=(k:Int)/\preOf ts o k=(x:Int):=by
 obtain⟨g,hg,_,e⟩:=Zeb hW hO hx;obtain⟨k,hk,h1,h2⟩:=Zr4 hW hO hg;have h3:=(Zd5 hW hO).inj ((partner k:Nat):Int) ((partner x:Nat):Int) (by omega) (by have:=Za0 hk;omega) (by omega) (by have:=Za0 hx;omega) (by unfold onI;rw[Wap,Wap,Zao,Zao,h2,e]);have h4:partner k=partner x:=by omega
 have h5:=congrArg partner h4;rw[Zao,Zao]at h5;subst h5;exact⟨g,hg,e.symm,h1⟩
theorem Zpa (cs:List Int) (e:Nat) {h:Int}(hh:h=0\/h=1):gHand cs (2*(e:Int)+h)=(h+cs.getD (e / 2) 0) % 2:=by
 unfold gHand;rw[show ((2*(e:Int)+h) / 4).toNat=e / 2 by omega,show (2*(e:Int)+h) % 2=h by omega]
theorem Zfq (ts:List (Int × Int)) (o:List (List Int)) (cs:List Int) (e:Nat) {h:Int}(hh:h=0\/h=1):cOn ts o cs (2*(e:Int)+h)=if (h+cs.getD (e / 2) 0) % 2=0 then 2*folOf ts o (partner e) else 2*preOf ts o (partner e)+1:=by
 unfold cOn;rw[Zpa cs e hh,show ((2*(e:Int)+h) / 2).toNat=e by omega]
theorem Ze1 (cs:List Int) (e:Nat) {h:Int}(hh:h=0\/h=1):bkI cs (2*(e:Int)+h)=2*((partner e:Nat):Int)+(1-(h+cs.getD (e / 2) 0) % 2):=by
 unfold bkI;rw[Zpa cs e hh,show ((2*(e:Int)+h) / 2).toNat=e by omega]
theorem Zkc {m:Nat}{x:Int}(h0:0<=x) (h1:x<((4*m:Nat):Int)):∃(e:Nat) (h:Int),e<2*m/\(h=0\/h=1)/\x=2*(e:Int)+h:=⟨(x / 2).toNat,x % 2,by omega,by omega,by omega⟩
theorem cbit (hC:CrOk ts cs) {e:Nat}(he:e<2*ts.length):cs.getD (e / 2) 0=0\/cs.getD (e / 2) 0=1:=by
 obtain⟨c,_,h1,h2⟩:=hC.at (k:=e / 2) (by omega);rw[h1];exact h2
theorem Zp3 (hC:CrOk ts cs) {x:Int}(h0:0<=x) (h1:x<((4*ts.length:Nat):Int)):bkI cs (bkI cs x)=x/\0<=bkI cs x/\bkI cs x<((4*ts.length:Nat):Int):=by
 obtain⟨e,h,he,hh,rfl⟩:=Zkc h0 h1;have hc:=cbit hC he;have hp:=Za0 he;rw[Ze1 cs e hh];refine⟨?_,by omega,by omega⟩;rw[Ze1 cs (partner e) (by omega),Zao,Zdr];omega
theorem Zpe (hW:WebOk n ts) (hO:OrdOk n ts o) (hC:CrOk ts cs) {x:Int}(h0:0<=x) (h1:x<((4*ts.length:Nat):Int)):cOn ts o cs (bkI cs (cOn ts o cs x))=bkI cs x/\0<=cOn ts o cs x/\cOn ts o cs x<((4*ts.length:Nat):Int):=by
 obtain⟨e,h,he,hh,rfl⟩:=Zkc h0 h1;have hc:=cbit hC he;have hp:=Za0 he;rw[Ze1 cs e hh,Zfq ts o cs e hh];by_cases z:(h+cs.getD (e / 2) 0) % 2=0
 ·rw[if_pos z]
  obtain⟨k,hk,k1,k2⟩:=Zwz hW hO hp;have hck:=cbit hC hk;rw[k1];refine⟨?_,by omega,by omega⟩;rw[show 2*(k:Int)=2*(k:Int)+0 by omega,Ze1 cs k (Or.inl rfl),Zfq ts o cs (partner k) (by omega),Zdr,Zao,if_neg (by omega),k2];omega
 ·rw[if_neg z]
  obtain⟨k,hk,k1,k2⟩:=Zr4 hW hO hp;have hck:=cbit hC hk;rw[k1];refine⟨?_,by omega,by omega⟩;rw[Ze1 cs k (Or.inr rfl),Zfq ts o cs (partner k) (by omega),Zdr,Zao,if_pos (by omega),k2];omega
theorem Zlk (hW:WebOk n ts) (hO:OrdOk n ts o) (hC:CrOk ts cs):OneOne (cOn ts o cs) (4*ts.length):=by
 refine⟨λx h0 h1=>(Zpe hW hO hC h0 h1).2,λx y h0 h1 h2 h3 q=>?_⟩;have e1:=(Zpe hW hO hC h0 h1).1;have e2:=(Zpe hW hO hC h2 h3).1;rw[q,e2]at e1;rw[<- (Zp3 hC h0 h1).1,<- e1,(Zp3 hC h2 h3).1]
theorem Zxo (hC:CrOk ts cs) {x:Int}(h0:0<=x) (h1:x<((4*ts.length:Nat):Int)):bkI cs x≠x/\bkI cs x≠cOn ts o cs x:=by
 obtain⟨e,h,he,hh,rfl⟩:=Zkc h0 h1;have hc:=cbit hC he;rw[Ze1 cs e hh,Zfq ts o cs e hh];constructor
 ·have:partner e≠e:=by unfold partner;split <;> omega
  omega
 ·split <;> omega
theorem Zvi (hW:WebOk n ts) (hO:OrdOk n ts o) (hC:CrOk ts cs) {x:Int}(h0:0<=x) (h1:x<((4*ts.length:Nat):Int)) (k:Nat):iter (cOn ts o cs) x k≠bkI cs x:=by
 intro q;have F:=Zlk hW hO hC;have key:∀j,j<=k->bkI cs (iter (cOn ts o cs) x j)=iter (cOn ts o cs) x (k-j):=by
  intro j
  induction j with
  |zero=>intro _;exact q.symm
  |succ j ih=>
   intro hj;have i1:=ih (by omega);have r1:=Zbe F h0 h1 j;have r2:=Zbe F h0 h1 (j+1);have r3:=Zbe F h0 h1 (k-(j+1));have b2:=(Zp3 hC r2.1 r2.2).2;refine F.inj _ _ b2.1 b2.2 r3.1 r3.2 ?_;have e1:=(Zpe hW hO hC r1.1 r1.2).1;rw[show cOn ts o cs (iter (cOn ts o cs) x (k-(j+1)))=iter (cOn ts o cs) x (k-j) by rw[show k-j=(k-(j+1))+1 by omega];rfl,<- i1];exact e1
 have r1:=Zbe F h0 h1 (k / 2);have z:=Zxo (o:=o) hC r1.1 r1.2;have e:=key (k / 2) (by omega);by_cases hk:k % 2=0
 ·rw[show k-k / 2=k / 2 by omega]at e
  exact z.1 e
 ·rw[show k-k / 2=k / 2+1 by omega]at e
  exact z.2 e
end
section
variable {P:Program}{w:World}{K:W.Frag}{mg:Str->Option Value}{base:Heap}{f:Addr}{fd:FuncData}
theorem Zwf (s:Int):Dp 2 (stD s):=by
 intro e he;rcases Wal.mp he with z|z
 ·subst z;exact trivial
 ·rcases Wal.mp z with z|z
  ·subst z;exact trivial
  ·cases z
theorem Zvz (s t:Int):eqF 2 (stD s) (stD t)=decide (s=t):=by
 show (true && ((s / 2 == t / 2) && ((s % 2 == t % 2) && true)))=_;by_cases h:s=t
 ·subst h;simp
 ·rw[decide_eq_false h,Wcu,Wei,Bool.and_eq_false_iff]
  by_cases h2:s / 2=t / 2
  ·right;simp;omega
  ·left;simpa using h2
def fBack:DSp:=λds Post=>∃(d:D) (ts:List (Int × Int)) (cs:List Int) (s:Nat),ds=[d,encRow cs,stD s]/\CrOk ts cs/\s<4*ts.length/\Post (stD (bkI cs s))
theorem Zvx (cs:List Int) (t:Nat):stD (bkI cs t)=.tup [.int ((partner (t / 2):Nat):Int),.int (1-gHand cs t)]:=by
 have:=Znj cs t;unfold stD bkI;rw[show ((t:Int) / 2).toNat=t / 2 by omega,show (2*((partner (t / 2):Nat):Int)+(1-gHand cs t)) / 2=((partner (t / 2):Nat):Int) by omega,show (2*((partner (t / 2):Nat):Int)+(1-gHand cs t)) % 2=1-gHand cs t by omega]
theorem Zug (mb:Mb mg) (C50:Callee P w K mg base 1 "hand_beyond" ["crossings","state"] (spD K fHand)) (F:Fun K "back_of" "back_of" s_back_of f fd):FnOk P w K mg base CX0 2 f fd ["web","crossings","state"] (spD K fBack):=by
 refine F.ok sc_back_of (Zbi λds Post h=>by obtain⟨_,_,_,_,rfl,_⟩:=h;rfl) (λcdv A outer s H vs Q E hr h=>?_);have hu:=Zby hr;refine⟨_,(Zah (Zax (Zct (Zaa (Zaq Zpm (Za1 (ixK K hu) (pv 2) Zag (λ_ _=>rfl)) Zag) (Zaa (Zaq Zeg Zag (Zay C50 (hr.mono (by decide)) (Zaa (pv 1) (Zaa (pv 2) Zad)))) Zad))))),Zdl (λds Post hf=>?_) h⟩;obtain⟨d,ts,cs,t,rfl,hC,ht,q⟩:=hf;refine⟨by simp,?_⟩;dsimp only[startD,Wbo,Wbm,Wba,Wag];rw[Zvx]at q;refine Za8 (Zcm (Zab (Zam (Zam (Zac rfl (Zak (Zaz (d:=.int ((t / 2:Nat):Int)) (by rw[show ((t / 2:Nat):Int)=(t:Int) / 2 by omega];rfl) (Zak (Zfj ?_)))))))));rw[Zjn];exact Zab (Zam (Zak (Zar (Zab (Zac rfl (Zab (Zac rfl (Zaf ⟨ts,cs,t,rfl,hC,ht,Zfj (Zaf ⟨Zer,q⟩)⟩))))))))
end
section
variable {n:Int}{ts:List (Int × Int)}{o:List (List Int)}{cs:List Int}
structure StB (f b:Int->Int) (m:Nat):Prop where
 one:OneOne f m
 bb:∀x,0<=x->x<(m:Int)->b (b x)=x/\0<=b x/\b x<(m:Int)
 fb:∀x,0<=x->x<(m:Int)->f (b (f x))=b x
 out:∀x,0<=x->x<(m:Int)->∀k,iter f x k≠b x
theorem Zsj (hW:WebOk n ts) (hO:OrdOk n ts o) (hC:CrOk ts cs):StB (cOn ts o cs) (bkI cs) (4*ts.length):=
 ⟨Zlk hW hO hC,λx h0 h1=>Zp3 hC h0 h1,λx h0 h1=>(Zpe hW hO hC h0 h1).1,λx h0 h1 k=>Zvi hW hO hC h0 h1 k⟩
end
def CrM (f b:Int->Int) (k:Nat) (x:Int):Prop:=∃e:Nat,e<k/\(x∈orb f (2*(e:Int))\/∃y∈orb f (2*(e:Int)),b y=x)
open Classical in
noncomputable def frB (f b:Int->Int) (k:Nat):Bool:=!decide (CrM f b k (2*(k:Int)))
noncomputable def crTo (f b:Int->Int) (k:Nat):List (List Int):=((Wai k).filter (frB f b)).map λe:Nat=>orb f (2*(e:Int))
theorem Zga {f b:Int->Int}{k:Nat}:frB f b k=true ↔ ¬ CrM f b k (2*(k:Int)):=by
 unfold frB;rw[Bool.not_eq_true',decide_eq_false_iff_not]
theorem Zfz (f b:Int->Int) (k:Nat):crTo f b (k+1)=crTo f b k++(if frB f b k=true then [orb f (2*(k:Int))] else []):=by
 unfold crTo;rw[List.range_succ,Wb1,Wax];congr 1;by_cases h:frB f b k=true
 ·rw[if_pos h,List.filter_cons_of_pos h];rfl
 ·rw[if_neg h,List.filter_cons_of_neg h];rfl
theorem Zkr (f b:Int->Int) (k:Nat):(crTo f b k).length<=k:=by
 unfold crTo;rw[Wab];exact Wbx (Wc3 _ _) (by rw[Wa7];exact Wah _)
section
variable {f b:Int->Int}{m:Nat}(S:StB f b m)
include S
theorem Zt6 {e x:Int}(h0:0<=e) (h1:e<(m:Int)) (hx:x∈orb f e):∃z∈orb f e,f z=x:=by
 obtain⟨i,hi,rfl⟩:=Zaw.mp hx;cases i with
 |zero=>
  have O:=Zc2 S.one h0 h1;have hp:=O.pos;refine⟨iter f e (per f e-1),Za6 S.one h0 h1 _,?_⟩;have:=O.back;rw[show per f e=(per f e-1)+1 by omega]at this;exact this
 |succ i=>exact⟨iter f e i,Za6 S.one h0 h1 _,rfl⟩
theorem Zls {k:Nat}(hk:2*k<=m) {x:Int}(h:CrM f b k x):0<=x/\x<(m:Int)/\CrM f b k (f x)/\CrM f b k (b x):=by
 obtain⟨e,he,h⟩:=h;have e0:(0:Int)<=2*(e:Int):=by omega
 have e1:2*(e:Int)<(m:Int):=by omega
 rcases h with h|⟨y,hy,rfl⟩
 ·obtain⟨r0,r1⟩:=Zev S.one e0 e1 h
  obtain⟨i,_,hi⟩:=Zaw.mp h;exact⟨r0,r1,⟨e,he,.inl (by rw[<- hi];exact Za6 S.one e0 e1 (i+1))⟩,⟨e,he,.inr ⟨x,h,rfl⟩⟩⟩
 ·obtain⟨z,hz,rfl⟩:=Zt6 S e0 e1 hy
  obtain⟨r0,r1⟩:=Zev S.one e0 e1 hz;obtain⟨q0,q1⟩:=Zev S.one e0 e1 hy;obtain⟨bb,b0,b1⟩:=S.bb _ q0 q1;refine⟨b0,b1,⟨e,he,.inr ⟨z,hz,(S.fb z r0 r1).symm⟩⟩,⟨e,he,.inl (by rw[bb];exact hy)⟩⟩
theorem Zh5 {k:Nat}(hk:2*k<=m) {x:Int}(h:CrM f b k x):∀j,CrM f b k (iter f x j)
 |0=>h
 |j+1=>(Zls S hk (Zh5 hk h j)).2.2.1
theorem Zk1 {k:Nat}(hk:2*k+2<=m) {x:Int}:CrM f b (k+1) x↔CrM f b k x\/(frB f b k=true/\(x∈orb f (2*(k:Int))\/∃y∈orb f (2*(k:Int)),b y=x)):=by
 constructor
 ·rintro⟨e,he,h⟩
  rcases Wc1 (Wc6 he) with c|c
  ·exact .inl ⟨e,c,h⟩
  ·subst c
   by_cases q:CrM f b e (2*(e:Int))
   ·left
    rcases h with h|⟨y,hy,rfl⟩
    ·obtain⟨i,_,rfl⟩:=Zaw.mp h
     exact Zh5 S (by omega) q i
    ·obtain⟨i,_,rfl⟩:=Zaw.mp hy
     exact(Zls S (by omega) (Zh5 S (by omega) q i)).2.2.2
   ·right
    exact⟨Zga.mpr q,h⟩
 ·rintro(⟨e,he,h⟩|⟨_,h⟩)
  ·exact⟨e,by omega,h⟩
  ·exact⟨k,by omega,h⟩
end
def stRow (s:Int):List Int:=[s / 2,s % 2]
def crD (r:List Int):D:=.tup (r.map stD)
theorem Zup (r:List Int):crD r=codD (r.map stRow):=by
 unfold crD codD;rw[Wa3];rfl
noncomputable def allC (ts:List (Int × Int)) (o:List (List Int)) (cs:List Int):List (List Int):=Wag (lone o) []++crTo (cOn ts o cs) (bkI cs) (2*ts.length)
theorem Zm7 {f b:Int->Int}{m k:Nat}(S:StB f b m) (hk:2*k<=m) {i:Nat}{r:List Int}(h:(crTo f b k)[i]?=some r):∃(e:Nat) (l:List Int),((Wai k).filter (frB f b))[i]?=some e/\e<k/\r=2*(e:Int)::l:=by
 unfold crTo at h;rw[Wad]at h;cases z:((Wai k).filter (frB f b))[i]? with
 |none=>rw[z]at h;cases h
 |some e=>
  rw[z]at h;have h:orb f (2*(e:Int))=r:=by simpa using h
  have he:=Waw.mp (Wa6.mp (Wat z)).1;obtain⟨l,hl⟩:=Zij S.one (e:=2*(e:Int)) (by omega) (by omega);exact⟨e,l,rfl,he,by rw[<- h,hl]⟩
theorem Zqn {f b:Int->Int}{m k:Nat}(S:StB f b m) (hk:2*k<=m) (z:Nat):AscC ((Wag z []++crTo f b k).map (Wbm stRow)):=by
 intro i a c ha hc;rw[Wad]at ha hc;by_cases h:i<z
 ·rw[Wa8 (by rw[Waz];exact h),Wcb,if_pos h]at ha
  left
  have:([]:List (List Int))=a:=by simpa using ha
  exact this.symm
 ·rw[Wa0 (by rw[Waz];omega),Waz]at ha hc
  cases za:(crTo f b k)[i-z]? with
  |none=>rw[za]at ha;cases ha
  |some ra=>
   cases zc:(crTo f b k)[i+1-z]? with
   |none=>rw[zc]at hc;cases hc
   |some rc=>
    rw[za]at ha;rw[zc]at hc;obtain⟨e,l,q1,q2,rfl⟩:=Zm7 S hk za;obtain⟨e',l',q3,q4,rfl⟩:=Zm7 S hk zc;have hlt:e<e':=by
     have pw:((Wai k).filter (frB f b)).Pairwise (· < ·):=List.Pairwise.filter _ Wb2;obtain⟨a1,a2⟩:=Waf.mp q1;obtain⟨b1,b2⟩:=Waf.mp q3;have:=Wbs.mp pw (i-z) (i+1-z) a1 b1 (by omega);rw[a2,b2]at this;exact this
    have ha:stRow (2*(e:Int))::l.map stRow=a:=by simpa using ha
    have hc:stRow (2*(e':Int))::l'.map stRow=c:=by simpa using hc
    refine .inr ⟨_,_,_,_,ha.symm,hc.symm,?_,?_⟩
    ·unfold stRow
     rw[show 2*(e:Int) / 2=e by omega,show 2*(e':Int) / 2=e' by omega];intro w;have:=(List.cons.inj w).1;omega
    ·unfold stRow
     rw[show 2*(e:Int) / 2=e by omega,show 2*(e':Int) / 2=e' by omega,Zes,if_neg (by omega)];exact decide_eq_false (by omega)
section
variable {n:Int}{ts:List (Int × Int)}{o:List (List Int)}{cs:List Int}
theorem Zk4 (hW:WebOk n ts) (hO:OrdOk n ts o):(allC ts o cs).length<=100:=by
 unfold allC;rw[Waq,Waz];have:=Zkr (cOn ts o cs) (bkI cs) (2*ts.length);have:=Zf1 o;have:=hO.len;have:=hW.hi;have:=hW.len;omega
theorem Zob (hW:WebOk n ts) (hO:OrdOk n ts o) (hC:CrOk ts cs):∀r∈allC ts o cs,r.length<=96:=by
 intro r hr;unfold allC at hr;rcases Wbd.mp hr with h|h
 ·rw[(Wck.mp h).2];simp
 ·unfold crTo at h
  obtain⟨e,he,rfl⟩:=Way.mp h;rw[Wa6,Waw]at he;have:=Zht (Zlk hW hO hC) (e:=2*(e:Int)) (by omega) (by omega);have:=hW.len;omega
theorem Zrv (hW:WebOk n ts) (hO:OrdOk n ts o) (hC:CrOk ts cs):AscC ((allC ts o cs).map (Wbm stRow)):=Zqn (Zsj hW hO hC) (by omega) _
end
theorem Zvg (l:List (List Int)):l.map crD=(l.map (Wbm stRow)).map codD:=by
 rw[Wa3];exact Wbw λr _=>Zup r
def prI (x:Int):Int × Int:=(x / 2,x % 2)
theorem Zs6 (x:Int):dP (prI x)=stD x:=rfl
theorem Zuh {x y:Int}(h:prI x=prI y):x=y:=by
 have h1:x / 2=y / 2:=congrArg Prod.fst h;have h2:x % 2=y % 2:=congrArg Prod.snd h;omega
structure StK (m:Nat) (ks:List (Int × Int)) (M:Int->Prop):Prop where
 nd:ks.Nodup
 rg:∀p∈ks,∃x:Nat,x<m/\p=prI (x:Int)
 mem:∀x:Nat,x<m->(prI (x:Int)∈ks↔M (x:Int))
theorem StK.len {m:Nat}{ks:List (Int × Int)}{M:Int->Prop}(h:StK m ks M):ks.length<=m:=by
 have h1:ks.length<=((Wai m).map λx:Nat=>prI (x:Int)).length:=by
  have gen:∀{ms l:List (Int × Int)},ms.Nodup->(∀x∈ms,x∈l)->ms.length<=l.length:=by
   intro ms
   induction ms with
   |nil=>intro l _ _;exact Wbl _
   |cons x ms ih=>
    intro l h1 h2;rw[Wbr]at h1;have hx:=h2 x (by simp);have:=ih (l:=l.erase x) h1.2 λy hy=>(Wdo (λz:y=x=>h1.1 (z ▸ hy))).mpr (h2 y (by simp[hy]));rw[Wdb hx]at this;have:=Wcg hx;rw[Waj];omega
  exact gen h.nd λp hp=>by
   obtain⟨x,hx,rfl⟩:=h.rg p hp;exact Way.mpr ⟨x,Waw.mpr hx,rfl⟩
 rwa [Wab,Wa7]at h1
theorem Zkn {ks:List (Int × Int)}{k q:Int × Int}:q∈addP ks k↔q∈ks\/q=k:=by
 unfold addP;split
 ·rename_i h
  exact⟨.inl,λz=>by rcases z with z|z;exact z;rw[z];exact h⟩
 ·rw[Wbd,Wbc]
theorem StK.add {m:Nat}{ks:List (Int × Int)}{M:Int->Prop}(h:StK m ks M) {x:Nat}(hx:x<m):StK m (addP ks (prI (x:Int))) λy=>M y\/y=(x:Int):=by
 refine⟨?_,λp hp=>?_,λy hy=>?_⟩
 ·unfold addP
  split
  ·exact h.nd
  ·rename_i hn
   exact Wc5.mpr ⟨h.nd,by simp,λa ha b hb=>by
    have:b=prI (x:Int):=by simpa using hb
    subst this;exact λz=>hn (z ▸ ha)⟩
 ·rcases Zkn.mp hp with hp|hp
  ·exact h.rg p hp
  ·exact⟨x,hx,hp⟩
 ·rw[Zkn,h.mem y hy]
  constructor
  ·rintro(z|z)
   ·exact .inl z
   ·exact .inr (Zuh z)
  ·rintro(z|z)
   ·exact .inl z
   ·exact .inr (by rw[z])
theorem StK.cong {m:Nat}{ks:List (Int × Int)}{M M':Int->Prop}(h:StK m ks M) (e:∀x:Nat,x<m->(M (x:Int)↔M' (x:Int))):StK m ks M':=⟨h.nd,h.rg,λx hx=>(h.mem x hx).trans (e x hx)⟩
theorem Zsp (m:Nat) {M:Int->Prop}(h:∀x:Nat,x<m->¬ M (x:Int)):StK m [] M:=⟨Wdj,(λp hp=>nomatch hp),λx hx=>⟨λz=>(nomatch z),λz=>(h x hx z).elim⟩⟩
theorem smP {T x:Nat}(hT:T<=24) (hx:x<4*T):SmP (prI (x:Int)):=by
 unfold SmP prI;simp only;omega
def fRnd:DSp:=λds Post=>∃n ts o cs,∃s:Nat,ds=[encWeb n ts,encOrd o,encRow cs,stD s]/\WebOk n ts/\OrdOk n ts o/\CrOk ts cs/\s<4*ts.length/\Post (crD (orb (cOn ts o cs) s))
def fCrF:NSp:=λds Post=>∃n ts o cs,ds=[encWeb n ts,encOrd o,encRow cs]/\WebOk n ts/\OrdOk n ts o/\CrOk ts cs/\Post ((allC ts o cs).map crD)
theorem Zrm (o:List (List Int)) (p:D->Bool) (hp:∀r:List Int,p (rowD r)=r.isEmpty) (g:D->D) (hg:∀d,g d=.tup []):((o.map rowD).filter p).map g=(Wag (lone o) ([]:List Int)).map crD:=by
 rw[Zf2 o p hp g hg];rw[Wc0,Wc0];rfl
section
variable {P:Program}{w:World}{K:W.Frag}{mg:Str->Option Value}{base:Heap}{f:Addr}{fd:FuncData}
theorem Zw6 (mb:Mb mg) (C45:Callee P w K mg base 3 "crossed_onward" ["web","order","crossings","state"] (spD K fCrOn)) (F:Fun K "round_from" "round_from" s_round_from f fd):FnOk P w K mg base CX0 4 f fd ["web","order","crossings","state"] (spD K fRnd):=by
 refine F.ok sc_round_from (Zbi λds Post h=>by obtain⟨_,_,_,_,_,rfl,_⟩:=h;rfl) (λcdv A outer s H vs Q E hr h=>?_);have hu:=Zby hr;have hv:=Zim hr;refine⟨_,(Zae (Zan (i:=4) sc_round_from.nd rfl (Or.inl rfl) (Zff (Zaa (pv 3) Zad))) (Zae (Zan (i:=5) sc_round_from.nd rfl (Or.inl rfl) (Zay C45 (hr.mono (by decide)) (Zaa (pv 0) (Zaa (pv 1) (Zaa (pv 2) (Zaa (pv 3) Zad)))))) (Zae (Zig PassesOwn.never (Za2 (neTK K hv) (pv 5) (pv 3) (nomark _)) (Zae (Zb7 (bmK K PySem.F.plainAttrs_list PySem.F.slot_list_append PySem.F.type_list_append Zb1 (pv 4) (Zaa (pv 5) Zad))) (Zah (Zan (i:=5) sc_round_from.nd rfl (Or.inl rfl) (Zay C45 (hr.mono (by decide)) (Zaa (pv 0) (Zaa (pv 1) (Zaa (pv 2) (Zaa (pv 5) Zad))))))))) (Zah (Zax (Zbr (tupK K) rfl (mb "tuple" (by decide)) Zbs (Zaa (pv 4) Zad))))))),Zdl (λds Post hf=>?_) h⟩;obtain⟨n,ts,o,cs,e,rfl,hW,hO,hC,he,q⟩:=hf;refine⟨by simp,?_⟩;dsimp only[startD,Wbo,Wbm,Wba,Wag];have O:=Zlk hW hO hC;have hw:=hW.len;have h0:(0:Int)<=(e:Int):=by omega
 have h1:(e:Int)<((4*ts.length:Nat):Int):=by omega
 refine Zaj (Zb5 (Zgq (Zab (Zac rfl (Zaf ⟨by show 1<=sizeLine;decide,?_⟩)))));refine Zaj (Zav (Zar (Zab (Zac rfl (Zab (Zac rfl (Zab (Zac rfl (Zab (Zac rfl (Zaf ⟨n,ts,o,cs,e,rfl,hW,hO,hC,he,?_⟩)))))))))));refine Zbk (λΔ=>∃k:Nat,IsOrb (cOn ts o cs) e k /\ Δ = [.val (encWeb n ts),.val (encOrd o),.val (encRow cs),.val (stD e),.own (.lst ((walkL (cOn ts o cs) e k).map stD)),.val (stD (iter (cOn ts o cs) e k))]) ?_ ?_
 ·refine Zh4 (fun μ Δ=>∃k:Nat,1<=k/\NdTo (cOn ts o cs) e k /\ μ = 4*ts.length-k /\ Δ = [.val (encWeb n ts),.val (encOrd o),.val (encRow cs),.val (stD e),.own (.lst ((walkL (cOn ts o cs) e k).map stD)),.val (stD (iter (cOn ts o cs) e k))]) ⟨_,1,Wah _,Zlo O h0 h1,rfl,rfl⟩ ?_
  rintro μ Δ1 ⟨k,hk,nd,rfl,rfl⟩;have hkm:=Zge O h0 h1 nd;have r:=Zbe O h0 h1 k;refine Zbd (Zam (Zac rfl (Zac rfl (Zwu (n:=1) (by decide) (Zwf _) (Zwf _) ⟨_,rfl,?_⟩))));show if (!(eqF 2 (stD _) (stD _)))=true then _ else _
  rw[Zvz];by_cases hb:iter (cOn ts o cs) e k=e
  ·rw[decide_eq_true hb]
   exact iteF ⟨k,⟨by omega,hb,nd⟩,rfl⟩
  ·rw[decide_eq_false hb]
   have nd2:=Zfy O h0 h1 hk nd hb;have hkm2:=Zge O h0 h1 nd2;refine iteT (Zaj (Zgl rfl rfl (Zac rfl ⟨_,_,rfl,rfl,?_,?_⟩)))
   ·rw[Wab,Zbg];exact small1000 (by omega)
   refine Zav (Zar (Zab (Zac rfl (Zab (Zac rfl (Zab (Zac rfl (Zab (Zac rfl (Zaf ⟨n,ts,o,cs,(iter (cOn ts o cs) e k).toNat,?_,hW,hO,hC,by omega,?_⟩))))))))))
   ·rw[show (((iter (cOn ts o cs) e k).toNat:Nat):Int)=iter (cOn ts o cs) e k by omega]
   refine⟨4*ts.length-(k+1),by omega,k+1,by omega,nd2,rfl,?_⟩;rw[Zez,Wax,show (((iter (cOn ts o cs) e k).toNat:Nat):Int)=iter (cOn ts o cs) e k by omega];rfl
 rintro Δ1 ⟨k,O1,rfl⟩;have hkm:=Zge O h0 h1 O1.nd;rw[O1.orb]at q;exact Za8 (Za3 (Zab (Zc9 rfl (Zaf (Zdk (Or.inl rfl) q)))))
theorem Zu8 (mb:Mb mg) (C58:Callee P w K mg base 4 "round_from" ["web","order","crossings","state"] (spD K fRnd)) (C43:Callee P w K mg base 2 "back_of" ["web","crossings","state"] (spD K fBack)) (F:Fun K "crossed_faces" "crossed_faces" s_crossed_faces f fd):FnOk P w K mg base CX0 5 f fd ["web","order","crossings"] (spN K fCrF):=by
 refine F.ok sc_crossed_faces (Zfc λds Post h=>by obtain⟨_,_,_,_,rfl,_⟩:=h;rfl) (λcdv A outer s H vs Q E hr h=>?_);have hu:=Zby hr;have hv:=Zim hr;refine⟨_,(Zae (Zdb (i:=3) ["row"] (show CompSc (defScope s_crossed_faces) ["web","order","crossings","told","gone","end","face","state"] _ [] [] from ⟨rfl,by decide +kernel,by decide +kernel,by decide +kernel,rfl,by decide +kernel⟩) rfl sc_crossed_faces.nd rfl (Or.inl rfl) (seqK K (pv 1)) (λ_ _ _ _ _=>(Zal (i:=0) (show List.Nodup (["row"]:List Str) from by decide) rfl (Or.inl rfl))) (λ_ _ _ _ _=>(Zf8 (Zeo (truK K (pv 0) (λ_=>rfl))))) (λ_ _ _ _ _=>(Zct Zad))) (Zae (Zan (i:=4) sc_crossed_faces.nd rfl (Or.inl rfl) (Zg9 Zl1 rfl (mb "set" (by decide)) Zof)) (Zae (Zcv PassesOwn.never rfl (Zbn rfl (mb "range" (by decide)) (Zaa (Zaq Zcx Zag (Zai (lenK K) rfl (mb "len" (by decide)) Zbl (Zaa (Za1 (ixK K hu) (pv 0) Zag (λ_ _=>rfl)) Zad))) Zad)) (Zal (i:=5) sc_crossed_faces.nd rfl (Or.inl rfl)) (Zah (Zc1 (Za2 (ninT hu) (Zct (Zaa (pv 5) (Zaa Zag Zad))) (pv 4) rfl) (Zae (Zan (i:=6) sc_crossed_faces.nd rfl (Or.inl rfl) (Zay C58 (hr.mono (by decide)) (Zaa (pv 0) (Zaa (pv 1) (Zaa (pv 2) (Zaa (Zct (Zaa (pv 5) (Zaa Zag Zad))) Zad)))))) (Zae (Zb7 (bmK K PySem.F.plainAttrs_list PySem.F.slot_list_append PySem.F.type_list_append Zb1 (pv 3) (Zaa (pv 6) Zad))) (Zah (Zcv PassesOwn.never rfl (seqK K (pv 6)) (Zal (i:=7) sc_crossed_faces.nd rfl (Or.inl rfl)) (Zae (Zb7 (bmS PySem.F.plainAttrs_set PySem.F.slot_set_add PySem.F.type_set_add (Zln hu) (pv 4) (Zaa (pv 7) Zad))) (Zah (Zb7 (bmS PySem.F.plainAttrs_set PySem.F.slot_set_add PySem.F.type_set_add (Zln hu) (pv 4) (Zaa (Zay C43 (hr.mono (by decide)) (Zaa (pv 0) (Zaa (pv 2) (Zaa (pv 7) Zad)))) Zad))))))))) Za7))) (Zah (Zax (Zai (sortCK K hv) rfl (mb "sorted" (by decide)) Zey (Zaa (pv 3) Zad))))))),Zmn (λds Post hf=>?_) h⟩;obtain⟨n,ts,o,cs,rfl,hW,hO,hC,q⟩:=hf;refine⟨by simp,?_⟩;dsimp only[startD,Wbo,Wbm,Wba,Wag];have S:=Zsj hW hO hC;have O:=S.one;have hw:=hW.len;have hn:=hW.hi;have ho:=hO.len;have hlone:=Zf1 o;refine Zaj (Zb5 (Zej (by decide) (Zb6 (Zac rfl ⟨_,rfl,?_,λd=>match d with|.tup ds=>ds.isEmpty|_=>false,λ_=>.tup [],λi d hd=>?_,?_⟩))))
 ·rw[Wab];exact small1000 (by omega)
 ·rw[Wad]at hd
  cases z:o[i]? with
  |none=>rw[z]at hd;cases hd
  |some r=>
   rw[z]at hd;have hd:encRow r=d:=by simpa using hd
   subst hd;refine Zd6 (Zcd (Zac rfl ⟨_,rfl,?_,?_⟩))
   ·cases r <;> rfl
   ·cases r with
    |nil=>exact iteT (Zcm (Zaf ⟨by decide,rfl,_,rfl⟩))
    |cons x t=>exact iteF ⟨_,rfl⟩
 rw[show o.map encRow=o.map rowD from rfl,Zrm o _ (λr=>by cases r <;> rfl) _ λ_=>rfl]
 refine Zaj (Zb5 (Zuv ?_));refine Zbk (λΔ=>∃(ks:List (Int × Int)) (x5 x6 x7:L2.Slot),Δ = [.val (encWeb n ts),.val (encOrd o),.val (encRow cs),.own (.lst ((allC ts o cs).map crD)),.own (stO ks),x5,x6,x7]) ?_ ?_
 ·refine Zcy (Zbm ?_)
  refine Zab (Zam (Zak (Za3 ?_)));refine Zab (Zam (Zac rfl (Zak (Zaz (d:=.tup (ts.map encTie)) rfl ?_))));refine Zaf (Zba (Or.inr rfl) ?_);rw[Wab];refine jr_I (Or.inl ⟨by omega,by omega⟩) (Zaf ⟨_,rfl,by omega,by omega,?_⟩);have eL:((2:Int)*(ts.length:Int)).toNat=2*ts.length:=by omega
  rw[eL];refine⟨λk Δ=>∃(ks:List (Int × Int)) (x5 x6 x7:L2.Slot),StK (4*ts.length) ks (CrM (cOn ts o cs) (bkI cs) k) /\ Δ = [.val (encWeb n ts),.val (encOrd o),.val (encRow cs),.own (.lst ((Wag (lone o) []++crTo (cOn ts o cs) (bkI cs) k).map crD)),.own (stO ks),x5,x6,x7],⟨[],.any,.any,.any,Zsp _ (λx _ ⟨e,he,_⟩=>absurd he (Wdu _)),?_⟩,?_,?_⟩
  ·rw[show crTo (cOn ts o cs) (bkI cs) 0=[] from rfl,Wbb];rfl
  ·rintro k d Δ2 hd ⟨ks,x5,x6,x7,hS,rfl⟩
   obtain⟨hk,rfl⟩:=Zb4 hd;rw[Wct];have fl:=Zkr (cOn ts o cs) (bkI cs) k;have e2:((2*k:Nat):Int)=2*(k:Int):=by omega
   refine Zbo (Zcq (Zbd (Zum (Zcm (Zab (Zac rfl (Zab (Zak (Zaf ⟨Zer,_,ks,prI ((2*k:Nat):Int),rfl,rfl,?_,smP hw (by omega),_,rfl,?_⟩)))))))))
   ·rw[Zs6,e2,Zqs]
   by_cases hm:CrM (cOn ts o cs) (bkI cs) k ((2*k:Nat):Int)
   ·rw[decide_eq_true ((hS.mem (2*k) (by omega)).mpr hm)]
    have hl:frB (cOn ts o cs) (bkI cs) k=false:=by
     rw[Wbt];intro z;exact Zga.mp z (e2 ▸ hm)
    refine iteF (Za4 ⟨ks,.val (.int (k:Int)),x6,x7,hS.cong λx hx=>?_,?_⟩)
    ·rw[Zk1 S (by omega),hl];simp
    ·rw[Zfz,if_neg (by rw[hl];exact Wan),Wbb];rfl
   ·rw[decide_eq_false (λz=>hm ((hS.mem (2*k) (by omega)).mp z))]
    have hl:frB (cOn ts o cs) (bkI cs) k=true:=Zga.mpr (e2 ▸ hm);have ol:=Zht O (e:=2*(k:Int)) (by omega) (by omega);refine iteT (Zaj (Zav (Zar (Zab (Zac rfl (Zab (Zac rfl (Zab (Zac rfl (Zab (Zcm (Zab (Zac rfl (Zab (Zak (Zaf ⟨Zer,Zaf ⟨n,ts,o,cs,2*k,?_,hW,hO,hC,by omega,?_⟩⟩))))))))))))))))
    ·rw[e2,Zqs]
    rw[e2];refine Zaj (Zgl rfl rfl (Zac rfl ⟨_,_,rfl,rfl,?_,?_⟩))
    ·rw[Wab,Waq,Waz];exact small1000 (by omega)
    refine Zcy (Zb6 (Zac rfl ⟨_,rfl,λi Δ=>∃(ks2:List (Int × Int)) (x7:L2.Slot),StK (4*ts.length) ks2 (λx=>CrM (cOn ts o cs) (bkI cs) k x\/x∈(orb (cOn ts o cs) (2*(k:Int))).take i\/∃y∈(orb (cOn ts o cs) (2*(k:Int))).take i,bkI cs y=x) /\ Δ = [.val (encWeb n ts),.val (encOrd o),.val (encRow cs),.own (.lst ((Wag (lone o) []++crTo (cOn ts o cs) (bkI cs) k).map crD++[crD (orb (cOn ts o cs) (2*(k:Int)))])),.own (stO ks2),.val (.int (k:Int)),.val (crD (orb (cOn ts o cs) (2*(k:Int)))),x7],⟨ks,_,hS.cong λx hx=>by rw[Wdi];simp,rfl⟩,?_,?_⟩))
    ·rintro i d Δ3 hd ⟨ks2,x7,hS2,rfl⟩
     rw[Wad]at hd;cases z:(orb (cOn ts o cs) (2*(k:Int)))[i]? with
     |none=>rw[z]at hd;cases hd
     |some y=>
      rw[z]at hd;have hd:stD y=d:=by simpa using hd
      subst hd;obtain⟨r0,r1⟩:=Zev O (by omega) (by omega) (Wat z);obtain⟨Y,rfl⟩:∃Y:Nat,y=(Y:Int):=⟨y.toNat,by omega⟩;have hY:Y<4*ts.length:=by omega
      obtain⟨_,b0,b1⟩:=S.bb _ r0 r1;obtain⟨B,hB⟩:∃B:Nat,bkI cs (Y:Int)=(B:Int):=⟨(bkI cs (Y:Int)).toNat,by omega⟩;have hB4:B<4*ts.length:=by omega
      have l2:=hS2.len;have S3:=hS2.add hY;have l3:=S3.len;refine Zbo (Zaj (Zk6 rfl rfl (Zac rfl ⟨_,ks2,prI (Y:Int),rfl,rfl,Zs6 _,smP hw hY,by omega,?_⟩)));refine Zk6 rfl rfl (Zar (Zab (Zac rfl (Zab (Zac rfl (Zab (Zac rfl (Zaf ⟨_,ts,cs,Y,rfl,hC,hY,_,_,prI (B:Int),rfl,rfl,?_,smP hw hB4,by omega,_,_,(S3.add hB4).cong λx hx=>?_,rfl⟩))))))))
      ·rw[Zs6,<- hB]
      ·rw[Wb0,z]
       simp only[Option.toList_some,Wbd,Wbc];constructor
       ·rintro((a|a)|a)
        ·rcases a with a|a|⟨y,a,b⟩
         ·exact .inl a
         ·exact .inr (.inl (.inl a))
         ·exact .inr (.inr ⟨y,.inl a,b⟩)
        ·exact .inr (.inl (.inr a))
        ·exact .inr (.inr ⟨_,.inr rfl,by rw[hB,a]⟩)
       ·rintro(a|(a|a)|⟨y,a|a,b⟩)
        ·exact .inl (.inl (.inl a))
        ·exact .inl (.inl (.inr (.inl a)))
        ·exact .inl (.inr a)
        ·exact .inl (.inl (.inr (.inr ⟨y,a,b⟩)))
        ·subst a;exact .inr (by rw[<- b,hB])
    ·rintro Δ3 ⟨ks2,x7,hS2,rfl⟩
     rw[Wab]at hS2;rw[Wby]at hS2;refine⟨ks2,.val (.int (k:Int)),.val (crD (orb (cOn ts o cs) (2*(k:Int)))),x7,hS2.cong λx hx=>?_,?_⟩
     ·rw[Zk1 S (by omega),hl];simp
     ·rw[Zfz,if_pos hl,<- Wbq,Wax (l₂:=[orb (cOn ts o cs) (2*(k:Int))])]
      rfl
  ·rintro Δ2 ⟨ks,x5,x6,x7,hS,rfl⟩
   rw[Zbc];exact⟨ks,_,_,_,rfl⟩
 rintro Δ1 ⟨ks,x5,x6,x7,rfl⟩;have al:=Zk4 (cs:=cs) hW hO;rw[Zvg]at q ⊢;exact Ze4 (Zrd (Zab (Zc9 rfl (Zaf ⟨_,rfl,by rw[Wab];omega,Zrv hW hO hC,_,rfl,q⟩))))
end
def dbl (r:List Int):List Int:=r.map λx=>2*x
section
variable {n:Int}{ts:List (Int × Int)}{o:List (List Int)}{cs:List Int}
theorem Ztg (ts:List (Int × Int)):CrOk ts (Wag ts.length 0):=⟨Waz,λc hc=>.inl (List.eq_of_mem_replicate hc)⟩
theorem Zi5 (hz:∀c∈cs,c=0) (x:Int):gHand cs x=x % 2:=by
 unfold gHand;have:cs.getD (x / 4).toNat 0=0:=by
  rw[Wae];cases h:cs[(x / 4).toNat]? with
  |none=>rfl
  |some c=>exact hz c (Wat h)
 rw[this];omega
theorem Zt8 (hz:∀c∈cs,c=0) (x:Int):cOn ts o cs (2*x)=2*onI ts o x:=by
 unfold cOn;rw[Zi5 hz,if_pos (by omega),show 2*x / 2=x by omega];rfl
theorem Zdo (hz:∀c∈cs,c=0) (x:Int):∀k,iter (cOn ts o cs) (2*x) k=2*iter (onI ts o) x k
 |0=>rfl
 |k+1=>by show cOn ts o cs (iter (cOn ts o cs) (2*x) k)=_;rw[Zdo hz x k,Zt8 hz];rfl
theorem Zhv (hW:WebOk n ts) (hO:OrdOk n ts o) (hz:∀c∈cs,c=0) {x:Int}(h0:0<=x) (h1:x<((2*ts.length:Nat):Int)):orb (cOn ts o cs) (2*x)=dbl (orb (onI ts o) x):=by
 have I:=Zc2 (Zd5 hW hO) h0 h1;have J:IsOrb (cOn ts o cs) (2*x) (per (onI ts o) x):=⟨I.pos,by rw[Zdo hz,I.back],λi j hi hj e=>I.nd i j hi hj (by rw[Zdo hz,Zdo hz]at e;omega)⟩;rw[J.orb,I.orb];unfold walkL dbl;rw[Wa3];exact Wbw λk _=>Zdo hz x k
theorem Zu4 (hz:∀c∈cs,c=0) (x:Int):bkI cs (2*x) % 2=1:=by
 unfold bkI;rw[Zi5 hz];omega
theorem Zp2 (hW:WebOk n ts) (hO:OrdOk n ts o) (hz:∀c∈cs,c=0) {k:Nat}(hk:k<=2*ts.length) (x:Int):CrM (cOn ts o cs) (bkI cs) k (2*x)↔MetTo (onI ts o) k x:=by
 constructor
 ·rintro⟨e,he,h⟩
  rw[Zhv hW hO hz (by omega) (by omega)]at h;rcases h with h|⟨y,hy,h⟩
  ·obtain⟨z,hz',e'⟩:=Way.mp h
   exact⟨e,he,by rw[show x=z by omega];exact hz'⟩
  ·obtain⟨z,_,rfl⟩:=Way.mp hy
   have:=Zu4 hz z;rw[h]at this;omega
 ·rintro⟨e,he,h⟩
  exact⟨e,he,.inl (by rw[Zhv hW hO hz (by omega) (by omega)];exact Way.mpr ⟨x,h,rfl⟩)⟩
theorem Zqk (hW:WebOk n ts) (hO:OrdOk n ts o) (hz:∀c∈cs,c=0) {k:Nat}(hk:k<2*ts.length):frB (cOn ts o cs) (bkI cs) k=leastB (onI ts o) k:=by
 have h1:=Zp2 hW hO hz (Wcd hk) (k:Int);have h2:=Zcl (Zd5 hW hO) hk;cases c:leastB (onI ts o) k with
 |true=>
  refine Zga.mpr λz=>?_;have:=h2.mp (h1.mp z);rw[c]at this;exact Bool.noConfusion this
 |false=>
  rw[Wbt];exact λz=>Zga.mp z (h1.mpr (h2.mpr c))
theorem Zi4 (hW:WebOk n ts) (hO:OrdOk n ts o) (hz:∀c∈cs,c=0):∀k,k<=2*ts.length->crTo (cOn ts o cs) (bkI cs) k=(facesTo (onI ts o) k).map dbl
 |0,_=>rfl
 |k+1,hk=>by
  rw[Zfz,Zce,Wax,Zi4 hW hO hz k (by omega),Zqk hW hO hz (by omega),Zhv hW hO hz (by omega) (by omega)];congr 1;split <;> rfl
theorem Ziu (hW:WebOk n ts) (hO:OrdOk n ts o) (hz:∀c∈cs,c=0):allC ts o cs=(allF ts o).map dbl:=by
 unfold allC allF;rw[Zi4 hW hO hz _ (Wah _),Wax,Wc0];rfl
theorem Zun (r:List Int):crD (dbl r)=.tup (r.map λe=>D.tup [.int e,.int 0]):=by
 unfold crD dbl;rw[Wa3];congr 1;exact Wbw λx _=>Zqs x
end
noncomputable def lackI (n:Int) (ts:List (Int × Int)) (o:List (List Int)) (cs:List Int) (ms:List Int):Int:=2*(ms.length:Int)-n+(ts.length:Int)-((allC ts o cs).length:Int)
def fLk:DSp:=λds Post=>∃n ts o cs,ds=[encWeb n ts,encOrd o,encRow cs]/\WebOk n ts/\OrdOk n ts o/\CrOk ts cs/\∀ms,Firsts ms (marksL n.toNat ts)->Post (.int (lackI n ts o cs ms))
section
variable {P:Program}{w:World}{K:W.Frag}{mg:Str->Option Value}{base:Heap}{f:Addr}{fd:FuncData}
theorem Zss (mb:Mb mg) (C53:Callee P w K mg base 2 "lacking" ["web","faces_many"] (spD K fLack)) (C44:Callee P w K mg base 5 "crossed_faces" ["web","order","crossings"] (spN K fCrF)) (F:Fun K "lack" "lack" s_lack f fd):FnOk P w K mg base CX0 6 f fd ["web","order","crossings"] (spD K fLk):=by
 refine F.ok sc_lack (Zbi λds Post h=>by obtain⟨_,_,_,_,rfl,_⟩:=h;rfl) (λcdv A outer s H vs Q E hr h=>?_);have hu:=Zby hr;have hv:=Zim hr;refine⟨_,(Zah (Zax (Zay C53 (hr.mono (by decide)) (Zaa (pv 0) (Zaa (Zai (lenK K) rfl (mb "len" (by decide)) Zbl (Zaa (Zay C44 (hr.mono (by decide)) (Zaa (pv 0) (Zaa (pv 1) (Zaa (pv 2) Zad)))) Zad)) Zad))))),Zdl (λds Post hf=>?_) h⟩;obtain⟨n,ts,o,cs,rfl,hW,hO,hC,q⟩:=hf;refine⟨by simp,?_⟩;dsimp only[startD,Wbo,Wbm,Wba,Wag];refine Za8 (Zar (Zab (Zac rfl (Zab (Za3 (Zab (Zbj (Zcz (Zab (Zac rfl (Zab (Zac rfl (Zab (Zac rfl (Zaf ⟨n,ts,o,cs,rfl,hW,hO,hC,_,rfl,?_⟩)))))))))))))));refine Zaf (Zba (Or.inl rfl) (Zaf ⟨n,ts,_,rfl,hW,λms hm=>?_⟩));rw[Wab];exact q ms hm
end
theorem Zu9 {l:List (List Int)}(h1:l.length<=1000) (h2:∀r∈l,r.length<=1000):Lv 4 (.lst (l.map crD)):=by
 refine⟨by rw[Wab];exact h1,λd hd=>?_⟩;obtain⟨r,hr,rfl⟩:=Way.mp hd;refine⟨by rw[Wab];exact h2 r hr,λe he=>?_⟩;obtain⟨s,_,rfl⟩:=Way.mp he;refine⟨by show 2<=1000;omega,λe he=>?_⟩;rcases Wal.mp he with z|z
 ·subst z;exact trivial
 ·rcases Wal.mp z with z|z
  ·subst z;exact trivial
  ·cases z
theorem Zrp {rs:List (List Int)}(h1:rs.length<=1000) (h2:∀r∈rs,r.length<=1000):Lv 4 (.lst (rs.map rowD)):=by
 refine⟨by rw[Wab];exact h1,λd hd=>?_⟩;obtain⟨r,hr,rfl⟩:=Way.mp hd;refine⟨by rw[Wab];exact h2 r hr,λe he=>?_⟩;obtain⟨x,_,rfl⟩:=Way.mp he
 trivial
section
variable {P:Program}{w:World}{K:W.Frag}{mg:Str->Option Value}{base:Heap}{f:Addr}{fd:FuncData}
theorem ok_law (mb:Mb mg) (C39:Callee P w K mg base 1 "_law_pen" ["_law_script"] (spN K fPen)) (C41:Callee P w K mg base 2 "_law_web" ["_law_pen_here","_law_places","_law_ties"] (spB K fWeb)) (C32:Callee P w K mg base 1 "_law_draw" ["_law_pen_here","_law_many"] (spB K fDraw)) (C30:Callee P w K mg base 3 "_law_beside" ["_law_pen_here"] (spB K fBeside))
  (C36:Callee P w K mg base 2 "_law_order" ["_law_pen_here","_law_web_here"] (spB K fOrder)) (C33:Callee P w K mg base 2 "_law_faces" ["_law_order_here"] (spN K fLFaces)) (C47:Callee P w K mg base 5 "faces" ["web","order"] (spN K fFaces)) (C44:Callee P w K mg base 5 "crossed_faces" ["web","order","crossings"] (spN K fCrF))
  (C51:Callee P w K mg base 6 "holes" ["web","order"] (spD K fHoles)) (C34:Callee P w K mg base 3 "_law_holes" ["_law_web_here","_law_order_here"] (spD K fHoles)) (C52:Callee P w K mg base 6 "lack" ["web","order","crossings"] (spD K fLk)) (C31:Callee P w K mg base 2 "_law_crossings" ["_law_pen_here","_law_web_here"] (spB K fCross))
  (C40:Callee P w K mg base 5 "_law_same" ["_law_found","_law_due"] (spD K (fSame 4)))
  (F:Fun K "law" "law" s_law f fd):FnOk P w K mg base CX0 7 f fd ["_law_script"] (spD K fLaw):=by
 refine F.ok sc_law (Zbi λds Post h=>by obtain⟨_,rfl,_⟩:=h;rfl) (λcdv A outer s H vs Q E hr h=>?_);have hu:=Zby hr;have hv:=Zim hr;refine⟨_,(Zae (Zan (i:=1) sc_law.nd rfl (Or.inl rfl) (Zay C39 (hr.mono (by decide)) (Zaa (pv 0) Zad))) (Zae (Zan (i:=2) sc_law.nd rfl (Or.inl rfl) (Zay C41 (hr.mono (by decide)) (Zaa (pv 1) (Zaa Zag (Zaa Zag Zad))))) (Zae (Zc1 (Za2 Zcg (Zay C32 (hr.mono (by decide)) (Zaa (pv 1) (Zaa Zag Zad))) Zag (nomark _)) (Zah (Zan (i:=2) sc_law.nd rfl (Or.inl rfl) (Zay C30 (hr.mono (by decide)) (Zaa (pv 1) Zad)))) Za7) (Zae (Zan (i:=3) sc_law.nd rfl (Or.inl rfl) (Zay C36 (hr.mono (by decide)) (Zaa (pv 1) (Zaa (pv 2) Zad)))) (Zae (Zan (i:=4) sc_law.nd rfl (Or.inl rfl) (Zbr (tupK K) rfl (mb "tuple" (by decide)) Zbs (Zaa (Zb8 ["_law_tie"] (show CompSc (defScope s_law) ["_law_script","_law_pen_here","_law_web_here","_law_order_here","_law_none","_law_rows","_law_due","_law_many"] _ [] [] from ⟨rfl,by decide +kernel,by decide +kernel,by decide +kernel,rfl,by decide +kernel⟩) rfl (seqK K (Za1 (ixK K hu) (pv 2) Zag (λ_ _=>rfl))) (λ_ _ _ _ _=>(Zal (i:=0) (show List.Nodup (["_law_tie"]:List Str) from by decide) rfl (Or.inl rfl))) (λ_ _ _ _ _=>Zb3) (λ_ _ _ _ _=>Zag)) Zad))) (Zae (Zan (i:=5) sc_law.nd rfl (Or.inl rfl) (Zay C33 (hr.mono (by decide)) (Zaa (pv 3) Zad))) (Zae (Zdb (i:=6) ["_law_row"] (show CompSc (defScope s_law) ["_law_script","_law_pen_here","_law_web_here","_law_order_here","_law_none","_law_rows","_law_due","_law_many"] _ [] [] from ⟨rfl,by decide +kernel,by decide +kernel,by decide +kernel,rfl,by decide +kernel⟩) rfl sc_law.nd rfl (Or.inl rfl) (seqK K (pv 5)) (λ_ _ _ _ _=>(Zal (i:=0) (show List.Nodup (["_law_row"]:List Str) from by decide) rfl (Or.inl rfl))) (λ_ _ _ _ _=>Zb3) (λ_ _ _ _ _=>(Zbr (tupK K) rfl (mb "tuple" (by decide)) Zbs (Zaa (Zb8 ["_law_end"] (show CompSc (relab (defScope s_law) _) ["_law_row"] _ [] [] from ⟨rfl,by decide +kernel,by decide +kernel,by decide +kernel,rfl,by decide +kernel⟩) rfl (seqK K (pv 0)) (λ_ _ _ _ _=>(Zal (i:=0) (show List.Nodup (["_law_end"]:List Str) from by decide) rfl (Or.inl rfl))) (λ_ _ _ _ _=>Zb3) (λ_ _ _ _ _=>(Zct (Zaa (pv 0) (Zaa Zag Zad))))) Zad)))) (Zae (Zc1 (PW.pt (pw_or (Zeo (truK K (Zay C40 (hr.mono (by decide)) (Zaa (Zay C44 (hr.mono (by decide)) (Zaa (pv 2) (Zaa (pv 3) (Zaa (pv 4) Zad)))) (Zaa (pv 6) Zad))) (λ_=>rfl))) (pw_or1 (Zeo (truK K (Zay C40 (hr.mono (by decide)) (Zaa (Zay C47 (hr.mono (by decide)) (Zaa (pv 2) (Zaa (pv 3) Zad))) (Zaa (pv 5) Zad))) (λ_=>rfl)))))) (Zah (Zax Znn)) Za7) (Zae (Zan (i:=7) sc_law.nd rfl (Or.inl rfl) (Zay C51 (hr.mono (by decide)) (Zaa (pv 2) (Zaa (pv 3) Zad)))) (Zae (Zc1 (PW.pt (pw_or (Zeo (truK K (Zay C40 (hr.mono (by decide)) (Zaa (pv 7) (Zaa (Zay C34 (hr.mono (by decide)) (Zaa (pv 2) (Zaa (pv 3) Zad))) Zad))) (λ_=>rfl))) (pw_or (Za2 Zua (pv 7) Zag (nomark _)) (pw_or1 (Zeo (truK K (Zay C40 (hr.mono (by decide)) (Zaa (Zay C52 (hr.mono (by decide)) (Zaa (pv 2) (Zaa (pv 3) (Zaa (pv 4) Zad)))) (Zaa (Zaq Zcx Zag (pv 7)) Zad))) (λ_=>rfl))))))) (Zah (Zax Znn)) Za7) (Zae (Zb7 (Zay C52 (hr.mono (by decide)) (Zaa (pv 2) (Zaa (pv 3) (Zaa (Zay C31 (hr.mono (by decide)) (Zaa (pv 1) (Zaa (pv 2) Zad))) Zad))))) (Zah (Zax (Zk9 (Zay C40 (hr.mono (by decide)) (Zaa (Zay C44 (hr.mono (by decide)) (Zaa (pv 2) (Zaa (pv 3) (Zaa (pv 4) Zad)))) (Zaa (pv 6) Zad))) (Zkt (Zay C40 (hr.mono (by decide)) (Zaa (Zay C52 (hr.mono (by decide)) (Zaa (pv 2) (Zaa (pv 3) (Zaa (pv 4) Zad)))) (Zaa (Zaq Zcx Zag (pv 7)) Zad)))))))))))))))))),Zdl (λds Post hf=>?_) h⟩;obtain⟨ns,rfl,hl,q⟩:=hf;refine⟨by simp,?_⟩;dsimp only[startD,Wbo,Wbm,Wba,Wag];refine Zaj (Zb5 (Zcz (Zab (Zac rfl (Zaf ⟨ns,rfl,hl,λps hp=>?_⟩)))));refine Zaj (Zav (Zhm rfl rfl (Zab (Zak (Zab (Zak (Zaf (Zvo rfl rfl hp (by omega) (by omega) (by omega) (by omega) λn ts ps1 hp1 hW _ _=>?_))))))));refine Zbk (λΔ=>∃(n:Int) (ts:List (Int × Int)) (psx:List D),Pen psx/\WebOk n ts /\ Δ = [.val (.scr (ns.map .int)),.own (.lst psx),.val (encWeb n ts),.any,.any,.any,.any,.any]) ?_ ?_
 ·refine Zcq (Zbd (Zam (Zcj rfl rfl (Zab (Zak (Zaf ⟨_,_,rfl,rfl,hp1,_,rfl,by omega,by omega,λr ps2 hp2 hr0 hr1=>Zak (Zef ⟨_,rfl,?_⟩)⟩))))))
  split
  ·exact Zav (Zcj rfl rfl (Zaf ⟨_,_,rfl,rfl,hp2,rfl,λn2 ts2 ps3 hp3 hW2=>⟨n2,ts2,ps3,hp3,hW2,rfl⟩⟩))
  ·exact Za4 ⟨n,ts,ps2,hp2,hW,rfl⟩
 rintro Δ1 ⟨n,ts,psx,hpx,hW,rfl⟩;refine Zaj (Zav (Zhm rfl rfl (Zab (Zac rfl (Zaf (Zq4 rfl rfl hpx hW λo ps2 hp2 hO=>?_))))));have hn0:=hW.lo;have hn1:=hW.hi;have hw:=hW.len;obtain⟨N,rfl⟩:∃N:Nat,n=(N:Int):=⟨n.toNat,by omega⟩;have hC:=Ztg ts;have hz:∀c∈Wag ts.length (0:Int),c=0:=λc hc=>List.eq_of_mem_replicate hc;refine Zaj (Zav (Za3 (Zab (Zch (by decide) (Zb6 (Zam (Zac rfl (Zak (Zaz (d:=.tup (ts.map encTie)) rfl ⟨_,rfl,?_,λ_=>true,λ_=>.int 0,λi d hd=>?_,?_⟩)))))))))
 ·rw[Wab];exact small1000 (by omega)
 ·exact Zbu ⟨rfl,Zak ⟨rfl,_,rfl⟩⟩
 have e0:((ts.map encTie).filter λ_=>true).map (λ_=>D.int 0)=(Wag ts.length (0:Int)).map D.int:=by
  rw[Wbk.mpr (by simp),Wa3,Wc0,List.eq_replicate_iff];refine⟨by rw[Wab],λb hb=>?_⟩;obtain⟨t,_,rfl⟩:=Way.mp hb;rfl
 rw[e0];refine Zaf (Zdk (Or.inl rfl) ?_);have l1:=Zfs hW hO;have r1:=Znx hW hO;refine Zaj (Zav (Zbj (Zcz (Zab (Zac rfl (Zaf ⟨(N:Int),ts,o,rfl,hW,hO,_,rfl,?_⟩))))));refine Zaj (Zav (Zch (by decide) (Zfe (Zac rfl ⟨_,Or.inl rfl,?_,λ_=>true,λd=>match d with|.tup es=>.tup (es.map λe=>D.tup [e,.int 0])|d=>d,λi d hd=>?_,?_⟩))))
 ·rw[Wab];exact small1000 (by omega)
 ·rw[Wad]at hd
  cases z:(allF ts o)[i]? with
  |none=>rw[z]at hd;cases hd
  |some r=>
   rw[z]at hd;have hd:rowD r=d:=by simpa using hd
   subst hd;have hrl:=r1 r (Wat z);refine Zbu ⟨rfl,Za3 (Zab (Zch (by decide) (Zb6 (Zac rfl ⟨_,rfl,?_,λ_=>true,λe=>D.tup [e,.int 0],λj e he=>?_,?_⟩))))⟩
   ·rw[Wab];exact small1000 (by omega)
   ·exact Zbu ⟨rfl,Zcm (Zab (Zac rfl (Zab (Zak (Zaf ⟨Zer,rfl,_,rfl⟩)))))⟩
   ·rw[Wbk.mpr (by simp)]
    exact Zaf (Zdk (Or.inl rfl) ⟨rfl,_,rfl⟩)
 have e1:(((allF ts o).map rowD).filter λ_=>true).map (λd=>match d with|.tup es=>D.tup (es.map λe=>D.tup [e,.int 0])|d=>d)=(allC ts o (Wag ts.length 0)).map crD:=by
  rw[Wbk.mpr (by simp),Ziu hW hO hz,Wa3,Wa3];refine Wbw λr _=>?_;show D.tup ((r.map D.int).map λe=>D.tup [e,.int 0])=crD (dbl r);rw[Zun,Wa3];rfl
 rw[e1];have v1:Lv 4 (.lst ((allC ts o (Wag ts.length 0)).map crD)):=Zu9 (Wbx (Zk4 hW hO) (by decide)) λr hr=>by have:=Zob hW hO hC r hr;omega
 have v2:Lv 4 (.lst ((allF ts o).map rowD)):=Zrp (by omega) λr hr=>by have:=r1 r hr;omega
 refine Zaj (Zcq (Zqp (Zd6 (Zcd (Zar (Zab (Zbj (Zcz (Zab (Zac rfl (Zab (Zac rfl (Zab (Zac rfl (Zaf ⟨(N:Int),ts,o,_,rfl,hW,hO,hC,_,rfl,?_⟩)))))))))))))));refine Zab (Zac rfl (Zaf ⟨_,rfl,v1,true,rfl,iteF ?_⟩));refine Zd6 (Zcd (Zar (Zab (Zbj (Zcz (Zab (Zac rfl (Zab (Zac rfl (Zaf ⟨(N:Int),ts,o,rfl,hW,hO,_,rfl,?_⟩))))))))));refine Zab (Zac rfl (Zaf ⟨_,rfl,v2,true,rfl,iteF (Za4 ?_)⟩));refine Zaj (Zav (Zar (Zab (Zac rfl (Zab (Zac rfl (Zaf ⟨(N:Int),ts,o,rfl,hW,hO,λms hm=>?_⟩)))))));rw[Wap]at hm;obtain⟨w1,w2⟩:=Zlh hW hO hm;have hlk:∀ms2,Firsts ms2 (marksL N ts)->lackI (N:Int) ts o (Wag ts.length 0) ms2=2*holesI (N:Int) ts o ms:=λms2 hm2=>by
  rw[hm2.uniq hm];unfold lackI;rw[Ziu hW hO hz,Wab];omega
 refine Zaj (Zcq (Zqp (Zd6 (Zcd (Zar (Zab (Zac rfl (Zab (Zar (Zab (Zac rfl (Zab (Zac rfl (Zaf ⟨(N:Int),ts,o,rfl,hW,hO,λms2 hm2=>?_⟩))))))))))))));rw[Wap]at hm2;rw[hm2.uniq hm];refine Zaf ⟨_,rfl,trivial,true,rfl,iteF ?_⟩;refine Zqp (Zbd (Zam (Zac rfl (Zak (Zq8 ⟨_,rfl,?_⟩)))));rw[decide_eq_false (by omega)];refine iteF (Zd6 (Zcd (Zar (Zab (Zar (Zab (Zac rfl (Zab (Zac rfl (Zab (Zac rfl (Zaf ⟨(N:Int),ts,o,_,rfl,hW,hO,hC,λms3 hm3=>?_⟩))))))))))));rw[Wap]at hm3;rw[hlk ms3 hm3];refine Zab (Zam (Zak (Zac rfl (jr_I (Or.inl ⟨by omega,by omega⟩) (Zaf ⟨_,rfl,trivial,true,rfl,iteF (Za4 ?_)⟩)))));refine Zaj (Ztq (Zar (Zab (Zac rfl (Zab (Zac rfl (Zab (Zcj rfl rfl (Zab (Zac rfl (Zaf ⟨_,_,rfl,rfl,hp2,(N:Int),ts,rfl,hW,λcs ps3 hp3 hC3=>?_⟩)))))))))));refine Zaf ⟨(N:Int),ts,o,cs,rfl,hW,hO,hC3,λms4 hm4=>?_⟩;refine Za8 (Zds (Zar (Zab (Zbj (Zcz (Zab (Zac rfl (Zab (Zac rfl (Zab (Zac rfl (Zaf ⟨(N:Int),ts,o,_,rfl,hW,hO,hC,_,rfl,?_⟩))))))))))));refine Zab (Zac rfl (Zaf ⟨_,rfl,v1,true,rfl,iteT ?_⟩));refine Zar (Zab (Zar (Zab (Zac rfl (Zab (Zac rfl (Zab (Zac rfl (Zaf ⟨(N:Int),ts,o,_,rfl,hW,hO,hC,λms5 hm5=>?_⟩)))))))));rw[Wap]at hm5;rw[hlk ms5 hm5];exact Zab (Zam (Zak (Zac rfl (jr_I (Or.inl ⟨by omega,by omega⟩) (Zaf ⟨_,rfl,trivial,q⟩)))))
end
theorem lenS {us:List Value}{n:Nat}(h:us.length=n+1):∃a t,us=a::t/\t.length=n:=by
 cases us with
 |nil=>exact absurd h.symm (Nat.succ_ne_zero n)
 |cons a t=>exact⟨a,t,rfl,Nat.succ.inj h⟩
theorem bK1 {α:Type _}{g r:List Value -> α}(h:∀a0,g [a0]=r [a0]) (us:List Value) (l:us.length=1):g us=r us:=by
 obtain⟨a0,u0,rfl,h0⟩:=lenS l;obtain rfl:=Wb5 h0;exact h a0
theorem bK2 {α:Type _}{g r:List Value -> α}(h:∀a0 a1,g [a0,a1]=r [a0,a1]) (us:List Value) (l:us.length=2):g us=r us:=by
 obtain⟨a0,u0,rfl,h0⟩:=lenS l;obtain⟨a1,u1,rfl,h1⟩:=lenS h0;obtain rfl:=Wb5 h1;exact h a0 a1
theorem bK3 {α:Type _}{g r:List Value -> α}(h:∀a0 a1 a2,g [a0,a1,a2]=r [a0,a1,a2]) (us:List Value) (l:us.length=3):g us=r us:=by
 obtain⟨a0,u0,rfl,h0⟩:=lenS l;obtain⟨a1,u1,rfl,h1⟩:=lenS h0;obtain⟨a2,u2,rfl,h2⟩:=lenS h1;obtain rfl:=Wb5 h2;exact h a0 a1 a2
theorem bK4 {α:Type _}{g r:List Value -> α}(h:∀a0 a1 a2 a3,g [a0,a1,a2,a3]=r [a0,a1,a2,a3]) (us:List Value) (l:us.length=4):g us=r us:=by
 obtain⟨a0,u0,rfl,h0⟩:=lenS l;obtain⟨a1,u1,rfl,h1⟩:=lenS h0;obtain⟨a2,u2,rfl,h2⟩:=lenS h1;obtain⟨a3,u3,rfl,h3⟩:=lenS h2;obtain rfl:=Wb5 h3;exact h a0 a1 a2 a3
def FnE (K:W.Frag) (x:Str) (st:Stmt):Prop:=∃(f:Addr) (fd:FuncData),W.nsIn K mainGlobals x=some (some (.ref f))/\Fun K x x st f fd
theorem fnE {K:W.Frag}{x:Str}{st:Stmt}{f:Addr}{oc kV doc pm cdv ct:Value}{od an:Option Addr}{sl:Array (Option Value)}(a:W.nsIn K mainGlobals x=some (some (.ref f))) (l:K.lookup f=some ⟨oc,od,.func (W.fnOf x x (defArgs st) (defBody st) (defScope st) .none kV doc pm an cdv ct),sl⟩) (c:W.codeIn K cdv x=true) (k:W.keepIn K (.ref f)=true):FnE K x st:=⟨f,_,a,Zvc l c k⟩
theorem Zsr {P:Program}{w:World}{K:W.Frag}{mg:Str->Option Value}{base h:Heap}(X:K.In h) (G:h.Ns mainGlobals mg) {x:Str}{st:Stmt}{ps:List Str}{lv:Nat}{sp:Sp}(e:FnE K x st) (ok:∀{f:Addr}{fd:FuncData},Fun K x x st f fd->FnOk P w K mg base CX0 lv f fd ps sp) (hb:∀(kV doc pm:Value) (an:Option Addr) (cdv ct:Value) (us:List Value),us.length=ps.length->bindArgs (W.fnOf x x (defArgs st) (defBody st) (defScope st) .none kV doc pm an cdv ct) ⟨us,[]⟩=pure (ps.zip us)):Callee P w K mg base lv x ps sp:=by
 obtain⟨f,fd,a,F⟩:=e;exact⟨⟨f,fd,ok F,F.binds hb,F.kp,W.mg_of X G a⟩⟩
theorem Zro {P:Program}{w:World}{K:W.Frag}{mg:Str->Option Value}{base h:Heap}(X:K.In h) (G:h.Ns mainGlobals mg) {x:Str}{st:Stmt}{ps:List Str}{lv:Nat}{sp:Sp}(e:FnE K x st) (ok:∀{f:Addr}{fd:FuncData},Fun K x x st f fd->Binds K fd ps []->W.keepIn K (.ref f)=true->mg x=some (.ref f)->FnOk P w K mg base CX0 lv f fd ps sp) (hb:∀(kV doc pm:Value) (an:Option Addr) (cdv ct:Value) (us:List Value),us.length=ps.length->bindArgs (W.fnOf x x (defArgs st) (defBody st) (defScope st) .none kV doc pm an cdv ct) ⟨us,[]⟩=pure (ps.zip us)):Callee P w K mg base lv x ps sp:=by
 obtain⟨f,fd,a,F⟩:=e;exact⟨⟨f,fd,ok F (F.binds hb) F.kp (W.mg_of X G a),F.binds hb,F.kp,W.mg_of X G a⟩⟩
theorem all_mk {l:PySem.W.OpenLaw}{w:World}{K:W.Frag}{h:Heap}{mg:Str->Option Value}{fa:Addr}(X:K.In h) (G:h.Ns mainGlobals mg) (hfa:mg "law" = some (.ref fa))
  (e1:FnE K "_law_draw" s_law_draw)
  (e2:FnE K "_law_pen" s_law_pen)
  (e3:FnE K "_law_web" s_law_web)
  (e4:FnE K "_law_order" s_law_order)
  (e5:FnE K "place_of" s_place_of)
  (e6:FnE K "follower" s_follower)
  (e7:FnE K "forerunner" s_forerunner)
  (e8:FnE K "hand_beyond" s_hand_beyond)
  (e9:FnE K "crossed_onward" s_crossed_onward)
  (e10:FnE K "back_of" s_back_of)
  (e11:FnE K "round_from" s_round_from)
  (e12:FnE K "crossed_faces" s_crossed_faces)
  (e13:FnE K "_law_partner" s_law_partner)
  (e14:FnE K "least_first" s_least_first)
  (e15:FnE K "onward" s_onward)
  (e16:FnE K "face_of" s_face_of)
  (e17:FnE K "faces" s_faces)
  (e18:FnE K "_law_faces" s_law_faces)
  (e19:FnE K "_law_mixed" s_law_mixed)
  (e20:FnE K "_law_beside" s_law_beside)
  (e21:FnE K "parts_of" s_parts_of)
  (e22:FnE K "_law_parts" s_law_parts)
  (e23:FnE K "lacking" s_lacking)
  (e24:FnE K "holes" s_holes)
  (e25:FnE K "_law_holes" s_law_holes)
  (e26:FnE K "lack" s_lack)
  (e27:FnE K "_law_whole" s_law_whole)
  (e28:FnE K "_law_same" s_law_same)
  (e29:FnE K "_law_crossings" s_law_crossings)
  (e30:FnE K "law" s_law)
  (z0:W.nsIn K mainGlobals "abs" = some none)
  (z1:W.nsIn K mainGlobals "all" = some none)
  (z2:W.nsIn K mainGlobals "bool" = some none)
  (z3:W.nsIn K mainGlobals "int" = some none)
  (z4:W.nsIn K mainGlobals "isinstance" = some none)
  (z5:W.nsIn K mainGlobals "len" = some none)
  (z6:W.nsIn K mainGlobals "list" = some none)
  (z7:W.nsIn K mainGlobals "max" = some none)
  (z8:W.nsIn K mainGlobals "min" = some none)
  (z9:W.nsIn K mainGlobals "range" = some none)
  (z10:W.nsIn K mainGlobals "set" = some none)
  (z11:W.nsIn K mainGlobals "sorted" = some none)
  (z12:W.nsIn K mainGlobals "tuple" = some none)
  (z13:W.nsIn K mainGlobals "zip" = some none) :
  ∃fd:FuncData,(∀(s:Shared) (v:Value),BindsTo s fd ⟨[v],[]⟩ [("_law_script",v)])/\∀base:Heap,K.In base->base.Ns mainGlobals mg->FnOk l.prog w K mg base CX0 7 fa fd ["_law_script"] (spD K fLaw):=by
 obtain⟨f,fd,a,F⟩:=e30;have e:=hfa.symm.trans (W.mg_of X G a);cases e;have mb:Mb mg:=by
  intro x hx;simp only[Wal,Wb7,or_false]at hx;rcases hx with rfl|rfl|rfl|rfl|rfl|rfl|rfl|rfl|rfl|rfl|rfl|rfl|rfl|rfl
  ·exact W.mg_none_of X G z0
  ·exact W.mg_none_of X G z1
  ·exact W.mg_none_of X G z2
  ·exact W.mg_none_of X G z3
  ·exact W.mg_none_of X G z4
  ·exact W.mg_none_of X G z5
  ·exact W.mg_none_of X G z6
  ·exact W.mg_none_of X G z7
  ·exact W.mg_none_of X G z8
  ·exact W.mg_none_of X G z9
  ·exact W.mg_none_of X G z10
  ·exact W.mg_none_of X G z11
  ·exact W.mg_none_of X G z12
  ·exact W.mg_none_of X G z13
 obtain⟨oc,od,kV,doc,pm,an,cdv,ct,osl,rfl,lk,hcd⟩:=F.ex;refine⟨W.fnOf "law" "law" (defArgs s_law) (defBody s_law) (defScope s_law) .none kV doc pm an cdv ct,λs v=>.of_eq rfl,λbase _ _=>?_⟩;have M:=@Zsr l.prog w K mg base h X G;have MR:=@Zro l.prog w K mg base h X G;have C1:=M e1 (Zus mb) λ_ _ _ _ _ _=>bK2 λ_ _=>rfl;have C2:=M e2 (Zvs mb) λ_ _ _ _ _ _=>bK1 λ_=>rfl;have C3:=M e3 (Zvw mb C1) λ_ _ _ _ _ _=>bK3 λ_ _ _=>rfl;have C4:=M e4 (Zq3 mb C1) λ_ _ _ _ _ _=>bK2 λ_ _=>rfl;have C5:=M e5 (Zqc mb) λ_ _ _ _ _ _=>bK2 λ_ _=>rfl;have C6:=M e6 (Zju mb C5) λ_ _ _ _ _ _=>bK3 λ_ _ _=>rfl;have C7:=M e7 (Zhy mb C5) λ_ _ _ _ _ _=>bK3 λ_ _ _=>rfl;have C8:=M e8 (Zud mb) λ_ _ _ _ _ _=>bK2 λ_ _=>rfl;have C9:=M e9 (Zuw mb C8 C6 C7) λ_ _ _ _ _ _=>bK4 λ_ _ _ _=>rfl;have C10:=M e10 (Zug mb C8) λ_ _ _ _ _ _=>bK3 λ_ _ _=>rfl;have C11:=M e11 (Zw6 mb C9) λ_ _ _ _ _ _=>bK4 λ_ _ _ _=>rfl;have C12:=M e12 (Zu8 mb C11 C10) λ_ _ _ _ _ _=>bK3 λ_ _ _=>rfl;have C13:=M e13 (Zmo mb) λ_ _ _ _ _ _=>bK1 λ_=>rfl;have C14:=M e14 (Zoi mb) λ_ _ _ _ _ _=>bK1 λ_=>rfl;have C15:=M e15 (Zo6 mb C6) λ_ _ _ _ _ _=>bK3 λ_ _ _=>rfl;have C16:=M e16 (Zl2 mb C15 C14) λ_ _ _ _ _ _=>bK3 λ_ _ _=>rfl;have C17:=M e17 (Zqe mb C16) λ_ _ _ _ _ _=>bK2 λ_ _=>rfl;have C18:=M e18 (Zpn mb C13) λ_ _ _ _ _ _=>bK1 λ_=>rfl;have C19:=M e19 (Zrc mb C1) λ_ _ _ _ _ _=>bK2 λ_ _=>rfl;have C20:=M e20 (Zpi mb C3 C19) λ_ _ _ _ _ _=>bK1 λ_=>rfl;have C21:=M e21 (Zjr mb) λ_ _ _ _ _ _=>bK1 λ_=>rfl;have C22:=M e22 (Znq mb) λ_ _ _ _ _ _=>bK1 λ_=>rfl;have C23:=M e23 (Zmg mb C21) λ_ _ _ _ _ _=>bK2 λ_ _=>rfl;have C24:=M e24 (Zrn mb C23 C17) λ_ _ _ _ _ _=>bK2 λ_ _=>rfl;have C25:=M e25 (Zm1 mb C22 C18) λ_ _ _ _ _ _=>bK2 λ_ _=>rfl;have C26:=M e26 (Zss mb C23 C12) λ_ _ _ _ _ _=>bK3 λ_ _ _=>rfl;have C27:=M e27 (Zo0 mb) λ_ _ _ _ _ _=>bK1 λ_=>rfl;have C28:=MR e28 (λF b k m=>Zrs mb C27 F b k m 5) λ_ _ _ _ _ _=>bK2 λ_ _=>rfl;have C29:=M e29 (Zqz mb C1) λ_ _ _ _ _ _=>bK2 λ_ _=>rfl;exact ok_law mb C2 C3 C1 C20 C4 C18 C17 C12 C24 C25 C26 C29 C28 F
end Lw
open PySem PySem.W PyProof.Rows
theorem PySem.W.Fast.te8670895264900549115:True:=trivial
def PySem.W.Fast.tw14235276044751517707:PySem.Program:=PySem.Challenge.pw_holefloor_k22_whole_none_crossed
theorem PySem.W.Fast.te14235276044751517707:PySem.Challenge.pw_holefloor_k22_whole_none_crossed=PySem.W.Fast.tw14235276044751517707:=rfl
def PySem.W.Fast.tw16704370161252482083:Unit:=()
def PySem.W.Fast.tw18209251478766771257:Unit:=()
def PySem.W.Fast.tw5692980171870100091:Unit:=()
def PySem.W.Fast.tw9068360111044573291:Unit:=()
def PySem.W.Fast.tw3553650489809564580:Unit:=()
def PySem.W.Fast.tw6549123665800383263:Unit:=()
def PySem.W.Fast.tw6699655524617342478:Unit:=()
def PySem.W.Fast.tw11358382948693988383:Unit:=()
def PySem.W.Fast.tw5952486772358326952:Unit:=()
def PySem.W.Fast.tw12858578706676202419:Unit:=()
def PySem.W.Fast.tw7504402580560511180:Unit:=()
def PySem.W.Fast.tw4023710229052157393:Unit:=()
def PySem.W.Fast.tw15615671080564978283:Unit:=()
def PySem.W.Fast.tw2245168822045284633:Unit:=()
def PySem.W.Fast.tw452046791000271805:Unit:=()
def PySem.W.Fast.tw5918397106840936722:Unit:=()
def PySem.W.Fast.tw640410415089129065:Unit:=()
def PySem.W.Fast.tw16375452656512588399:Unit:=()
def PySem.W.Fast.tw15114378808538331547:Unit:=()
def PySem.W.Fast.tw6590610416653219997:Unit:=()
def PySem.W.Fast.tw9939511020414972246:Unit:=()
def PySem.W.Fast.tw10345701795721148297:Unit:=()
def PySem.W.Fast.tw12732922482922632931:Unit:=()
def PySem.W.Fast.tw16839622845676860758:Unit:=()
def PySem.W.Fast.tw2806190374294692644:Unit:=()
set_option maxRecDepth 100000 in
set_option maxHeartbeats 0 in
theorem PySem.Challenge.cw_holefloor_k22_whole_none_crossed_holds : PySem.Challenge.rw_holefloor_k22_whole_none_crossed.Holds := by
 w_on;o_law;k_head; (case hw=>w_witness2)
 k_fill
 refine L2.walk_law (k:=7) (x:="_law_script") (l:=PySem.Challenge.rw_holefloor_k22_whole_none_crossed) ⟨rfl,by decide,by decide,rfl⟩ rfl rfl (λw h Y=>PySem.W.kIn_of Y) ?F
 case F=>
  intro w mg fa h KX G hmg;refine' Lw.all_mk KX G hmg ?e1 ?e2 ?e3 ?e4 ?e5 ?e6 ?e7 ?e8 ?e9 ?e10 ?e11 ?e12 ?e13 ?e14 ?e15 ?e16 ?e17 ?e18 ?e19 ?e20 ?e21 ?e22 ?e23 ?e24 ?e25 ?e26 ?e27 ?e28 ?e29 ?e30 ?z0 ?z1 ?z2 ?z3 ?z4 ?z5 ?z6 ?z7 ?z8 ?z9 ?z10 ?z11 ?z12 ?z13
  all_goals first|(refine' Lw.fnE ?a ?l ?c ?k; (case a=>k_is); (case l=>k_is); (case c=>k_is); (case k=>k_is))|k_is

