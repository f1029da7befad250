import PyProof.Rows.All
import Wide.All
import OpenK.AllK
import Wide.FinOn
import Lean
import PyProof.EqAt
import PyProof.EqKinds
import PyProof.TupleCall
import KE.KSortTup
import PyProof.NeKinds
import PyProof.ExcBaseAll.ValueError
import PyProof.ExcArgsOwn
import PyProof.NsDelKeeps
import PyProof.RulesAs
import PyProof.FString
import PyProof.AttrMissSeq
import PyProof.WalksS
import KE.KDictList
import KE.KDictSum
import PyProof.MinMaxWalk
import KE.KMinKey
import PyProof.Rows.CallKwBuiltin
import PyProof.Rows.RuleDivmod
import PyProof.ListMulAny
import PyProof.FactsAll.tuple
import KE.KRevIter
import PyProof.EnumMake
import KE.KMulAny
import PyProof.FactsAll.range
import PyProof.Rows.StrNews
import KE.KIntText
import PyProof.StrWalks
import KE.KLam
import KE.KNestM
import PyProof.ExcInit
import PyProof.InstStoreFacts
import PyProof.DictFindH
import PySem.Challenge.RW_holefloor_k48_too_many_orders
open List renaming getElem?_eq_getElem→Waa, length_map→Wac, getD_eq_getElem?_getD→Wad, replicate→Wae, getElem?_eq_some_iff→Wag, getElem?_map→Wah, range→Wak, size_toArray→Wan, length_append→Wao, length_replicate→Waq, mem_cons→War, getElem?_set_ne→Was, getElem?_set_self→Wat, getElem?_append_right→Wav, mem_append_right→Waw, mem_of_getElem?→Wax, mem_cons_of_mem→Way, mem_filter→Wa0, length→Wa1, length_cons→Wa2, getElem_mem→Wa4, mem_range→Wa6, getElem?_append_left→Wa9, map_map→Wba, append_nil→Wbb, mem_cons_self→Wbc, length_range→Wbd, tail→Wbf, map_append→Wbg, map→Wbh, mem_singleton→Wbi, mem_map→Wbk, getElem?_replicate→Wbm, mem_append→Wbn, filter_cons→Wbo, filter_filter→Wbp, map_congr_left→Wbq, map_cons→Wbr, length_eraseIdx_of_lt→Wbs, lookup_cons→Wbt, length_take→Wbu, eq_nil_of_length_eq_zero→Wbv, take_add_one→Wbw, take_length→Wbx, cons_append→Wby, all_eq_true→Wbz, filter_eq_self→Wb0, filter_congr→Wb5, pairwise_lt_range→Wb6, getElem_range→Wb7, getElem_toArray→Wb9, not_mem_nil→Wcb, length_pos_of_mem→Wcd, filter_append→Wce, nodup_cons→Wcg, length_singleton→Wch, flatMap_cons→Wcj, append_assoc→Wck, mem_append_left→Wcm, pairwise_iff_getElem→Wcn, getElem?_zip_eq_some→Wco, length_drop→Wcq, set_eq_of_length_le→Wcr, length_set→Wct, find?_cons→Wcu, take_of_length_le→Wcx, pairwise_map→Wcy, getElem?_set→Wcz, ext_getElem?→Wc0, mem_iff_getElem?→Wc1, getElem?_toArray→Wc2, replicate_succ→Wc3, filterMap_cons→Wc4, mem_replicate→Wc5, take_zero→Wc7, length_erase_of_mem→Wc8, getElem?_take_of_lt→Wc9, sum_cons→Wdb, any_cons→Wdc, getElem_inj→Wde, of_mem_zip→Wdf, length_filter_le→Wdg, getElem?_eq_none→Wdh, filter_map→Wdi, getElem?_range→Wdn, flatMap_append→Wdo, pairwise_cons→Wdq, map_nil→Wds, flatMap_nil→Wdu, ext_getElem→Wdv
open PySem.Heap renaming get?_push_of_some→Wab, lt_size→Wai, get?_push_size→Wam, get?_update_other→Wa3, get?_update_self→Wbl, size_push→Wb4, get?_push_ne→Wda, size_update→Wdw
open Nat renaming le_refl→Waf, ne_of_lt→Wap, lt_of_lt_of_le→Wau, le_trans→Wa8, lt_succ_of_lt→Wbe, zero_le→Wb1, lt_of_le_of_lt→Wb2, lt_irrefl→Wb3, le_of_lt→Wb8, le_succ→Wca, ne_of_gt→Wci, le_mul_of_pos_right→Wcv, le_of_eq→Wdk, pow_le_pow_right→Wdm, add_le_add_left→Wdp, mod_lt→Wdr, sub_zero→Wdt
open Int renaming toNat_natCast→Waj, zero_add→Wbj, emod_lt_of_pos→Wcf, le_refl→Wcs, emod_nonneg→Wcw, fdiv_eq_ediv_of_nonneg→Wc6, natCast_mul→Wdl
open Bool renaming false_ne_true→Wal, and_eq_true→Waz, false_eq_true→Wa7, and_false→Wcc, eq_false_iff→Wcl, false_and→Wcp, true_and→Wdd, eq_iff_iff→Wdj
open Option renaming some→Wa5
set_option Elab.async false
set_option linter.all false
set_option maxRecDepth 100000
set_option compiler.extract_closed false
namespace L2
open PySem PySem.Spec PyProof.Rows
abbrev Key:=Sum Int Str
def keyIs:Key->Value->Bool
 |.inl k,v=>Value.isInt k v
 |.inr x,v=>Value.isStrOf x v
def keyH (w:World):Key->Int
 |.inl k=>hashInt k
 |.inr x=>hashStr w x
theorem Zbf:∀{k:Key}{v:Value},keyIs k v=true->(∃i t,k=Sum.inl i/\v=Value.int i t)\/(∃x t,k=Sum.inr x/\v=Value.str x t)
 |.inl i,v,h=>by
  obtain⟨t,e⟩:=Value.isInt_shape (k:=i) (v:=v) h;exact .inl ⟨i,t,rfl,e⟩
 |.inr x,v,h=>by
  obtain⟨t,e⟩:=Value.isStrOf_shape (x:=x) (v:=v) h;exact .inr ⟨x,t,rfl,e⟩
theorem Zmg (i:Int) (t:Tok):keyIs (.inl i) (.int i t)=true:=by simp[keyIs,Value.isInt]
theorem Zns (x:Str) (t:Tok):keyIs (.inr x) (.str x t)=true:=by simp[keyIs,Value.isStrOf]
theorem Zua (a b:Int):decide ((Sum.inl a:Key)=Sum.inl b)=(a == b):=by
 by_cases e:a=b
 ·subst e;simp
 ·have h:¬ (Sum.inl a:Key)=Sum.inl b:=λq=>e (Sum.inl.inj q)
  rw[decide_eq_false h];exact(beq_eq_false_iff_ne.mpr e).symm
theorem Zwb (a b:Str):decide ((Sum.inr a:Key)=Sum.inr b)=decide (a=b):=by
 by_cases e:a=b
 ·subst e;simp
 ·have h:¬ (Sum.inr a:Key)=Sum.inr b:=λq=>e (Sum.inr.inj q)
  rw[decide_eq_false h,decide_eq_false e]
theorem Zve (a:Int) (b:Str):decide ((Sum.inl a:Key)=Sum.inr b)=false:=decide_eq_false λq=>nomatch q
theorem Zuz (a:Str) (b:Int):decide ((Sum.inr a:Key)=Sum.inl b)=false:=decide_eq_false λq=>nomatch q
def mixKind (prog:Program) (w:World):PySem.KeyKind prog w Key where
 is:=keyIs
 hash:=keyH w
 inj:=λv a b ha hb=>by
  rcases Zbf ha with ⟨i,t,rfl,rfl⟩|⟨x,t,rfl,rfl⟩
  ·rcases Zbf hb with ⟨j,u,rfl,e⟩|⟨y,u,rfl,e⟩
   ·injection e with e1 _;rw[e1]
   ·exact nomatch e
  ·rcases Zbf hb with ⟨j,u,rfl,e⟩|⟨y,u,rfl,e⟩
   ·exact nomatch e
   ·injection e with e1 _;rw[e1]
 byValue:=λk v h=>by
  rcases Zbf h with ⟨i,t,rfl,rfl⟩|⟨x,t,rfl,rfl⟩ <;> rfl
 pyHash:=λhv h=>by
  rcases Zbf hv with ⟨i,t,rfl,rfl⟩|⟨x,t,rfl,rfl⟩
  ·exact wpAny_pyHash_int h
  ·exact wpAny_pyHash_str h
 eqBool:=λhu hv h=>by
  rcases Zbf hu with ⟨i,t,rfl,rfl⟩|⟨x,t,rfl,rfl⟩
  ·rcases Zbf hv with ⟨j,u,rfl,rfl⟩|⟨y,u,rfl,rfl⟩
   ·rw[Zua]at h;exact wpAny_eqBool_int h
   ·rw[Zve]at h;exact SeqAt.EqAt.int_str i t y u _ _ _ _ h
  ·rcases Zbf hv with ⟨j,u,rfl,rfl⟩|⟨y,u,rfl,rfl⟩
   ·rw[Zuz]at h;exact SeqAt.EqAt.str_int x t j u _ _ _ _ h
   ·rw[Zwb]at h;exact wpAny_eqBool_str h
 «strs»:=λk x t v h=>by
  rcases Zbf h with ⟨i,u,rfl,e⟩|⟨y,u,rfl,e⟩
  ·exact nomatch e
  ·injection e with e1 _
   subst e1;cases v <;> rfl
theorem Zjx (prog:Program) (w:World) (i:Int) (t:Tok):(mixKind prog w).is (.inl i) (.int i t)=true:=Zmg i t
theorem Zjy (prog:Program) (w:World) (x:Str) (t:Tok):(mixKind prog w).is (.inr x) (.str x t)=true:=Zns x t
end L2
namespace L2
open PySem PySem.Spec PyProof.Rows
inductive V where
 |non|bl (b:Bool)|int (i:Int)|str (x:Str)|byt (b:Array UInt8)|flt (b:UInt64)|ref (a:Addr)|ty (n:String)
 deriving DecidableEq
def RelV:V->Value->Prop
 |.non,u=>u=Value.none
 |.bl b,u=>u=Value.bool b
 |.int i,u=>∃t,u=Value.int i t
 |.str x,u=>∃t,u=Value.str x t
 |.byt b,u=>∃t,u=Value.bytes b t
 |.flt b,u=>∃t,u=Value.float b t
 |.ref a,u=>u=Value.ref a
 |.ty n,u=>u=Value.type n
abbrev Vals:List V->List Value->Prop:=Paired RelV
theorem Vals.length {xs:List V}{us:List Value}(r:Vals xs us):xs.length=us.length:=Paired.length r
theorem Vals.get:∀{xs:List V}{us:List Value}{i:Nat}{x:V},Vals xs us->xs[i]?=some x->∃u,us[i]?=some u/\RelV x u
 |_,_,_,_,.nil,e=>by simp at e
 |_,_,0,_,.cons r _,e=>by simp at e;subst e;exact⟨_,rfl,r⟩
 |_,_,i+1,x,.cons _ t,e=>by
  obtain⟨u,h1,h2⟩:=Vals.get (i:=i) (x:=x) t (by simpa using e);exact⟨u,by simpa using h1,h2⟩
theorem Vals.set {x:V}{u:Value}(r:RelV x u):∀{xs:List V}{us:List Value}(i:Nat),Vals xs us->Vals (xs.set i x) (us.set i u)
 |_,_,_,.nil=>.nil
 |_,_,0,.cons _ t=>.cons r t
 |_,_,i+1,.cons q t=>.cons q (Vals.set r i t)
theorem Vals.append:∀{xs ys:List V}{us ws:List Value},Vals xs us->Vals ys ws->Vals (xs++ys) (us++ws)
 |_,_,_,_,.nil,s=>s
 |_,_,_,_,.cons r t,s=>.cons r (Vals.append t s)
theorem Vals.take:∀{xs:List V}{us:List Value}(n:Nat),Vals xs us->Vals (xs.take n) (us.take n)
 |_,_,0,_=>.nil
 |_,_,_+1,.nil=>.nil
 |_,_,n+1,.cons r t=>.cons r (Vals.take n t)
theorem Vals.drop:∀{xs:List V}{us:List Value}(n:Nat),Vals xs us->Vals (xs.drop n) (us.drop n)
 |_,_,0,r=>r
 |_,_,_+1,.nil=>.nil
 |_,_,n+1,.cons _ t=>Vals.drop n t
def RelO:Option V->Option Value->Prop
 |some v,some u=>RelV v u
 |none,none=>True
 |_,_=>False
def KV {κ:Type}:List (κ × V)->List (κ × Value)->Prop:=Paired λ(p:κ × V) (q:κ × Value)=>p.1=q.1/\RelV p.2 q.2
def kV:Key->V
 |.inl i=>.int i
 |.inr x=>.str x
inductive HO where
 /-- a list -/
 |lst (xs:List V)
 /-- a tuple (never changes) -/
 |tup (xs:List V)
 /-- a dict whose keys are ints and texts;one whose keys are tuples of ints and texts (the empty one is both) -/
 |dK (kvs:List (Key × V))|dT (kvs:List (List Key × V))
 /-- a set of ints: its members,its size -/
 |set (S:Int->Bool) (n:Nat)
 /-- an instance of the class at C,its dict at dx,its attributes -/
 |ins (C dx:Addr) (fs:List (Str × V))
 /-- the dict of the instance at x -/
 |own (x:Addr)
 /-- the dict of an exception -/
 |xd (fs:List (Str × V))
 /-- a bound method,f of x -/
 |met (f x:Addr)
 /-- a range object lo,lo+1,.. below hi -/
 |rng (lo hi:Int)
 /-- a thing that is known to the object (the script;a dict while a loop walks it): read,never written while it is so -/
 |frz (o:Obj) (u:HO)
 /-- a code object's table -/
 |tbl (ps:Array Value)
 /-- any other thing,by what is true of its one object (a def of one's own: SetO a S n:=HO.ext λh=>..) -/
 |ext (φ:Heap->Prop)
abbrev Hp:=Addr->Option HO
def upd (H:Hp) (a:Addr) (o:HO):Hp:=λb=>if b=a then some o else H b
theorem Zal {H:Hp}{a:Addr}{o:HO}:upd H a o a=some o:=by unfold upd;rw[if_pos rfl]
theorem Zak {H:Hp}{a b:Addr}{o:HO}(h:b≠a):upd H a o b=H b:=by unfold upd;rw[if_neg h]
theorem Zsz {H:Hp}{a:Addr}{o u:HO}:upd (upd H a o) a u=upd H a u:=by
 funext b;unfold upd;split <;> rfl
theorem Zwi {H:Hp}{a b:Addr}{o u:HO}(h:H a=some o) (h':H b=some u) (d:o≠u):a≠b:=by
 intro e;subst e;rw[h]at h';exact d<|Wa5.inj h'
theorem Zat {H:Hp}{a b:Addr}{o:HO}(h:H a=some o) (h':H b=none):a≠b:=by
 intro e;subst e;rw[h]at h';cases h'
def IsTupN (h:Heap) (a:Addr) (its:Array Value):Prop:=∃o,h.get? a=some o/\(o.cls=.type "tuple" /\ ∃n,o.data=.seq its n)/\o.dict=none
theorem IsTupN.tup {h:Heap}{a:Addr}{its:Array Value}(x:IsTupN h a its):IsTup h a its:=let ⟨o,e,c,_⟩:=x; ⟨o,e,c⟩
theorem IsTupN.new (h:Heap) (items:Array Value):IsTupN (h.push { cls:=.type "tuple",data:=.seq items }) h.objs.size items:=⟨_,Wam _ rfl,⟨rfl,_,rfl⟩,rfl⟩
section
variable (P:Program) (w:World)
def ObjOk (H:Hp) (h:Heap) (a:Addr):HO->Prop
 |.lst xs=>xs.length<=sizeLine/\∃(its:List Value) (n:Nat),Vals xs its/\h.get? a=some { cls:=.type "list",data:=.seq its.toArray n }
 |.tup xs=>xs.length<=sizeLine/\∃its:List Value,Vals xs its/\IsTupN h a its.toArray
 |.dK kvs=>kvs.length<=sizeLine/\(a == sysModules)=false/\∃vs,KV kvs vs/\h.DictOf (mixKind P w) a vs
 |.dT kvs=>kvs.length<=sizeLine/\(a == sysModules)=false/\∃xs:List (List Key × Addr × Value),
   Paired (λ(p:List Key × V) (q:List Key × Addr × Value)=>p.1=q.1/\H q.2.1=some (.tup<|p.1.map kV)/\RelV p.2 q.2.2) kvs xs ∧
   ∃o es ep,h.get? a=some o/\o.ExactDict/\o.data=.dict es ep/\es.toList=xs.map (entryOfKey<|tupleKind<|mixKind P w)/\(xs.map (·.1)).Nodup
 |.set S n=>h.SetOf (intKind P w) a S n
 |.ins C dx fs=>H dx=some (.own a)/\fs.length<=1000/\dx≠a/\h.get? a=some (PySem.W.instObj C dx) ∧
   ∃mA,h.Ns1 dx mA/\(∀f,RelO (fs.lookup f) (mA f))/\PySem.Within mA (fs.map (·.1))
 |.own _=>∃o,h.get? a=some o
 |.xd fs=>∃mA,h.Ns1 a mA/\∀f,RelO (fs.lookup f) (mA f)
 |.rng lo hi=>∃t u v,h.get? a=some { cls:=.type "range",data:=.fields #[.int lo t,.int hi u,.int 1 v] }
 |.frz o u=>h.get? a=some o/\ObjOk H h a u
 |.tbl ps=>h.get? a=some { cls:=.none,data:=.fields ps }
 |.met f x=>h.get? a=some (PySem.W.methodObj (.ref f) (.ref x))
 |.ext φ=>φ h/\(∃o,h.get? a=some o)/\∀h1 h2:Heap,φ h1->(∀o,h1.get? a=some o->h2.get? a=some o) -> φ h2
def HOk (H:Hp) (h:Heap):Prop:=∀a o,H a=some o->ObjOk P w H h a o
end
section
variable {P:Program}{w:World}{H H':Hp}{h h':Heap}{a:Addr}{o:HO}
theorem ObjOk.lt (x:ObjOk P w H h a o):a<h.objs.size:=by
 cases o with
 |lst xs=>obtain⟨_,_,_,_,e⟩:=x;exact Wai e
 |tup xs=>obtain⟨_,_,_,p⟩:=x;exact p.tup.lt
 |dK kvs=>obtain⟨_,_,_,_,o,_,_,e,_⟩:=x;exact Wai e
 |dT kvs=>obtain⟨_,_,_,_,o,_,_,e,_⟩:=x;exact Wai e
 |set S n=>obtain⟨o,_,_,_,e,_⟩:=x;exact Wai e
 |ins C dx fs=>obtain⟨_,_,_,e,_⟩:=x;exact Wai e
 |own y=>obtain⟨_,e⟩:=x;exact Wai e
 |xd fs=>obtain⟨_,⟨_,_,_,e,_⟩,_⟩:=x;exact Wai e
 |rng lo hi=>obtain⟨_,_,_,e⟩:=x;exact Wai e
 |frz ob u=>obtain⟨e,_⟩:=x;exact Wai e
 |tbl ps=>exact Wai (show h.get? a=some _ from x)
 |met f y=>exact Wai (show h.get? a=some _ from x)
 |ext φ=>obtain⟨_,⟨_,e⟩,_⟩:=x;exact Wai e
theorem Paired.mapP {α β:Type}{F G:α -> β -> Prop}:∀{l₁:List α}{l₂:List β},Paired F l₁ l₂ -> (∀a b,F a b->G a b)->Paired G l₁ l₂
 |_,_,.nil,_=>.nil
 |_,_,.cons r t,f=>.cons (f _ _ r) (Paired.mapP t f)
theorem ObjOk.stay (x:ObjOk P w H h a o) (k:∀b u,(b=a\/H b=some (.own a))->h.get? b=some u->h'.get? b=some u)
  (ho:∀b,H b=some (.own a)->H' b=some (.own a)) (ht:∀b xs,H b=some (.tup xs)->H' b=some (.tup xs)):ObjOk P w H' h' a o:=by
 induction o with
 |lst xs=>obtain⟨z,its,n,r,e⟩:=x;exact⟨z,its,n,r,k _ _ (.inl rfl) e⟩
 |tup xs=>obtain⟨z,its,r,ob,e,c⟩:=x;exact⟨z,its,r,ob,k _ _ (.inl rfl) e,c⟩
 |dK kvs=>obtain⟨z,y,vs,r,ob,es,ep,e,c⟩:=x;exact⟨z,y,vs,r,ob,es,ep,k _ _ (.inl rfl) e,c⟩
 |dT kvs=>
  obtain⟨z,y,xs,r,ob,es,ep,e,c⟩:=x;exact⟨z,y,xs,Paired.mapP r λp q z=>⟨z.1,ht _ _ z.2.1,z.2.2⟩,ob,es,ep,k _ _ (.inl rfl) e,c⟩
 |set S n=>obtain⟨ob,es,ep,t,e,c⟩:=x;exact⟨ob,es,ep,t,k _ _ (.inl rfl) e,c⟩
 |ins C dx fs=>
  obtain⟨d,z,ne,e,mA,⟨od,es,ep,e2,c⟩,r⟩:=x;exact⟨ho _ d,z,ne,k _ _ (.inl rfl) e,mA,⟨od,es,ep,k _ _ (.inr d) e2,c⟩,r⟩
 |own y=>obtain⟨ob,e⟩:=x;exact⟨ob,k _ _ (.inl rfl) e⟩
 |xd fs=>obtain⟨mA,⟨od,es,ep,e,c⟩,r⟩:=x;exact⟨mA,⟨od,es,ep,k _ _ (.inl rfl) e,c⟩,r⟩
 |rng lo hi=>obtain⟨t,u,v,e⟩:=x;exact⟨t,u,v,k _ _ (.inl rfl) e⟩
 |frz ob u ih=>obtain⟨e,q⟩:=x;exact⟨k _ _ (.inl rfl) e,ih q⟩
 |tbl ps=>
  have e:h.get? a=some { cls:=.none,data:=.fields ps }:=x;show h'.get? a=some { cls:=.none,data:=.fields ps };exact k a _ (.inl rfl) e
 |met f y=>
  have e:h.get? a=some (PySem.W.methodObj (.ref f) (.ref y)):=x;show h'.get? a=some (PySem.W.methodObj (.ref f) (.ref y));exact k a _ (.inl rfl) e
 |ext φ=>obtain⟨p,⟨o,e⟩,st⟩:=x;exact⟨st _ _ p λo q=>k _ _ (.inl rfl) q,⟨o,k _ _ (.inl rfl) e⟩,st⟩
theorem HOk.lt (x:HOk P w H h) (e:H a=some o):a<h.objs.size:=(x a o e).lt
theorem HOk.fresh (x:HOk P w H h) (e:h.objs.size<=a):H a=none:=by
 cases q:H a with
 |none=>rfl
 |some u=>exact absurd (Wau (x.lt q) e) (Wb3 _)
theorem HOk.kept (x:HOk P w H h) (k:∀b u,h.get? b=some u->h'.get? b=some u):HOk P w H h':=λa o e=>
 (x a o e).stay (λb u _ q=>k b u q) (λ_ q=>q) λ_ _ q=>q
theorem HOk.laid (x:HOk P w H h) (k:∀b u,h.get? b=some u->h'.get? b=some u) (hp:h.objs.size<=a) (new:ObjOk P w (upd H a o) h' a o):HOk P w (upd H a o) h':=λb u e=>by
 have hn:=x.fresh hp;by_cases hb:b=a
 ·subst hb;rw[Zal]at e;cases e;exact new
 ·rw[Zak hb]at e
  exact(x b u e).stay (λc v _ q=>k c v q) (λc q=>by rw[Zak (Zat q hn)];exact q) λc xs q=>by rw[Zak (Zat q hn)];exact q
end
def Rd (H:Hp) (a:Addr) (u:HO):Prop:=H a=some u\/∃o,H a=some (.frz o u)
theorem Rd.ok {P:Program}{w:World}{H:Hp}{h:Heap}{a:Addr}{u:HO}(r:Rd H a u) (x:HOk P w H h):ObjOk P w H h a u:=by
 rcases r with r|⟨o,r⟩
 ·exact x a u r
 ·obtain⟨_,q⟩:=x a _ r
  exact q
def Mut:Option HO->Prop
 |some (.lst _)=>True
 |some (.dK _)=>True
 |some (.dT _)=>True
 |some (.set _ _)=>True
 |some (.ins _ _ _)=>True
 |some (.ext _)=>True
 |_=>False
section
variable {P:Program}{w:World}{H:Hp}{h h':Heap}{x e:Addr}{o':HO}
theorem HOk.write (ok:HOk P w H h) (mu:Mut (H x)) (he:e=x\/H e=some (.own x)) (k:∀b u,b≠e->h.get? b=some u->h'.get? b=some u) (heo:∃u,h'.get? e=some u)
  (new:ObjOk P w (upd H x o') h' x o'):HOk P w (upd H x o') h':=λb u q=>by
 have nown:∀c y,H c=some (.own y)->c≠x:=λc y r z=>by subst z;rw[r]at mu;exact mu
 have ntup:∀c xs,H c=some (.tup xs)->c≠x:=λc xs r z=>by subst z;rw[r]at mu;exact mu
 by_cases hb:b=x
 ·subst hb;rw[Zal]at q;cases q;exact new
 ·rw[Zak hb]at q
  by_cases hbe:b=e
  ·have q':H b=some (.own x):=by
    rcases he with z|z
    ·exact absurd (hbe.trans z) hb
    ·rw[hbe];exact z
   rw[q]at q';cases q';obtain⟨v,hv⟩:=heo;exact⟨v,by rw[hbe];exact hv⟩
  ·refine(ok b u q).stay (λc v hc r=>k c v ?_ r) (λc r=>by rw[Zak (nown c b r)];exact r) λc xs r=>by rw[Zak (ntup c xs r)];exact r
   rcases hc with rfl|hc
   ·exact hbe
   ·rintro rfl
    rcases he with z|z
    ·exact nown c b hc z
    ·rw[hc]at z;cases z;exact hb rfl
end
structure Un (fs ex:List Addr) (H H':Hp) (h h':Heap):Prop where
 keep:∀b o,h.get? b=some o->H b=none->b ∉ fs->b ∉ ex->h'.get? b=some o
 slot:∀b o,h.get? b=some o->H b=none->b∈fs->b ∉ ex->∃sl,h'.get? b=some { o with slots:=sl }
 free:∀b o,h.get? b=some o->H b=none->b ∉ ex->H' b=none
 there:∀b o,h.get? b=some o->b ∉ ex->∃o',h'.get? b=some o'
 tups:∀b xs,H b=some (.tup xs)->H' b=some (.tup xs)
 frzs:∀b o u,H b=some (.frz o u)->H' b=some (.frz o u)
 tbls:∀b ps,H b=some (.tbl ps)->∃more,H' b=some (.tbl<|ps++more)
section
variable {fs fs' ex ex':List Addr}{H H1 H2:Hp}{h h1 h2 h':Heap}{a x e:Addr}{o:HO}
theorem Un.any (u:Un fs ex H H1 h h1) {b:Addr}{ob:Obj}(q:h.get? b=some ob) (n:H b=none) (hx:b ∉ ex):∃sl,h1.get? b=some { ob with slots:=sl }:=by
 by_cases hb:b∈fs
 ·exact u.slot b ob q n hb hx
 ·exact⟨ob.slots,u.keep b ob q n hb hx⟩
theorem Un.kept (k:∀b u,h.get? b=some u->h'.get? b=some u):Un fs ex H H h h':=
 ⟨λb ob q _ _ _=>k b ob q,λb ob q _ _ _=>⟨ob.slots,k b ob q⟩,λ_ _ _ n _=>n,λb ob q _=>⟨ob,k b ob q⟩,λ_ _ q=>q,λ_ _ _ q=>q,λ_ ps q=>⟨#[],by rw[q];simp⟩⟩
theorem Un.refl:Un fs ex H H h h:=Un.kept λ_ _ q=>q
theorem Un.laid (k:∀b u,h.get? b=some u->h'.get? b=some u) (hp:h.objs.size<=a) (hn:H a=none):Un fs ex H (upd H a o) h h' where
 keep:=λb u q _ _ _=>k b u q
 slot:=λb u q _ _ _=>⟨u.slots,k b u q⟩
 free:=λb u q n _=>by rw[Zak (Wap<|Wau (Wai q) hp)];exact n
 there:=λb u q _=>⟨u,k b u q⟩
 tups:=λb xs q=>by rw[Zak (Zat q hn)];exact q
 frzs:=λb u xs q=>by rw[Zak (Zat q hn)];exact q
 tbls:=λb ps q=>⟨#[],by rw[Zak (Zat q hn),q];simp⟩
theorem Un.write (mu:Mut (H x)) (he:e=x\/H e=some (.own x)) (k:∀b u,b≠e->h.get? b=some u->h'.get? b=some u) (heo:∃u,h'.get? e=some u):Un fs ex H (upd H x o) h h':=by
 have hx:∀b,H b=none->b≠x:=λb n z=>by subst z;rw[n]at mu;exact mu
 have hb:∀b,H b=none->b≠e:=λb n z=>by
  subst z;rcases he with r|r
  ·exact hx b n r
  ·rw[n]at r;cases r
 have hm:∀b u,H b=some u->¬ Mut (some u)->b≠x:=λb u q nm z=>by subst z;rw[q]at mu;exact nm mu
 refine⟨λb u q n _ _=>k b u (hb b n) q,λb u q n _ _=>⟨u.slots,k b u (hb b n) q⟩,λb u q n _=>by rw[Zak (hx b n)];exact n,λb u q _=>?_,
  λb xs q=>by rw[Zak (hm b _ q λz=>z)];exact q,λb u xs q=>by rw[Zak (hm b _ q λz=>z)];exact q,λb ps q=>⟨#[],by rw[Zak (hm b _ q λz=>z),q];simp⟩⟩
 by_cases hbe:b=e
 ·subst hbe;exact heo
 ·exact⟨u,k b u hbe q⟩
end
def trk (h:Heap) (H:Hp):List Addr:=(Wak h.objs.size).filter λa=>(H a).isSome
def hidT (h:Heap) (H:Hp):Heap:=PySem.W.hideAll h<|trk h H
theorem Znt (h:Heap) (H:Hp):(hidT h H).objs.size=h.objs.size:=PySem.W.hideAll_size _ _
theorem Zhb {h:Heap}{H:Hp}{b:Addr}{o:Obj}(e:h.get? b=some o) (n:H b=none):(hidT h H).get? b=some o:=
 PySem.W.hideAll_get _ e λhm=>by
  have q:(H b).isSome=true:=(Wa0.mp hm).2;rw[n]at q;simp at q
theorem Zty {h:Heap}{H:Hp}{b:Addr}{o:Obj}(e:(hidT h H).get? b=some o):h.get? b=some o/\H b=none:=by
 have e':h.get? b=some o:=PySem.W.of_hideAll (trk h H) e;refine⟨e',?_⟩;cases q:H b with
 |none=>rfl
 |some x=>
  have hm:b∈trk h H:=Wa0.mpr ⟨Wa6.mpr<|Wai e',by simp[q]⟩;have z:(hidT h H).get? b=none:=PySem.W.hideAll_none (trk h H) hm;rw[z]at e;cases e
def allNews (g h:Heap) (L:Addr):List (Addr × Obj):=(Wak h.objs.size).filterMap λa=>if a=L\/(g.get? a).isSome=true then none else (h.get? a).map λo=>(a,o)
def rest (g h:Heap) (L d:Addr):List (Addr × Obj):=(allNews g h L).filter λp=>decide<|p.1≠d
end L2
namespace L2
open PySem PySem.Spec PyProof.Rows
structure Mod (K:W.Frag) (mg:Str->Option Value) (base:Heap):Prop where
 kin:K.In base
 glob:base.Ns mainGlobals mg
 blt:∃mb,base.Ns builtinsNs mb/\∀x:Str,x ≠ "__name__" -> mb x=bootBuiltins x
 nolimit:base.NoLimit
structure Cx where
 prog:Program
 w:World
 K:W.Frag
 mg:Str->Option Value
 base:Heap
 A:Around
 N:List Str
 s₀:Shared
 H₀:Hp
 env:Env
 outer:List Env
 stack:List Env
 ex:List Addr
 fn:Str->Bool
 calm:Bool
 pn:List (Addr × Obj)
 xe:Value->Shared->Prop
def frs (l:List Env):List Addr:=l.filterMap (·.frame)
abbrev Cx.fs (X:Cx):List Addr:=frs X.outer
def Vis (sc:Scope) (x:Str):Prop:=sc.names.lookup x=some .local\/sc.names.lookup x=some .cell\/sc.names.lookup x=some .free
def Loc (sc:Scope) (x:Str):Prop:=sc.names.lookup x=some .local\/sc.names.lookup x=some .cell
def Look (env:Env) (h:Heap) (m:Str->Option Value) (x:Str) (u:Value):Prop:=
 (env.kindOf x=some .local/\m x=some u)\/((env.kindOf x=some .cell\/env.kindOf x=some .free)/\∃c,env.cells.lookup x=some c/\h.IsCell c (some u))
structure Cx.Ok (X:Cx):Prop where
 mod:Mod X.K X.mg X.base
 kind:X.env.scope.kind=.function
 glob:X.env.globals=mainGlobals
 blt:X.env.builtins=builtinsNs
 above:X.s₀.heap.objs.size<=X.env.locals
 inj:∀x y c,X.env.cells.lookup x=some c->X.env.cells.lookup y=some c->x=y
 has:∀x,(X.env.kindOf x=some .cell\/X.env.kindOf x=some .free)->∃c,X.env.cells.lookup x=some c
 cab:∀x c,X.fn x=true->X.env.cells.lookup x=some c->X.s₀.heap.objs.size<=c
 hd:X.calm=true->X.A.handled=none
 frames:X.A.frames=some X.stack
 stk:X.stack=X.outer\/(X.stack=X.env::X.outer/\X.env.frame=some X.env.locals)
 exf:∀b∈X.ex,b≠X.env.locals/\∀x c,X.env.cells.lookup x=some c->c≠b
 bs:∀b o,X.base.get? b=some o->X.s₀.heap.get? b=some o/\X.H₀ b=none
 bsz:X.base.objs.size<=X.s₀.heap.objs.size
 noex:∀b o,X.base.get? b=some o->b ∉ X.ex
 exfs:∀b∈X.ex,b ∉ X.fs
 funs:X.s₀.heap.FunFrames X.base X.outer
 frf:∀b∈X.fs,X.H₀ b=none
structure Inv (X:Cx) (pins:List (Addr × Obj)) (σ:List (Option V)) (H:Hp) (s:Shared):Prop where
 ok:X.Ok
 os:s.os=X.s₀.os
 bare:AllBare s.gens
 base:Un X.fs X.ex X.H₀ H X.s₀.heap s.heap
 loc:∃m,s.heap.Ns X.env.locals m/\∀(i:Nat) (x:Str) (v:V),X.N[i]?=some x -> σ[i]?=some (some v)->Vis X.env.scope x->∃u,RelV v u/\Look X.env s.heap m x u
 cell:∀x c,X.env.cells.lookup x=some c->∃v,s.heap.IsCell c v
 free:H X.env.locals=none
 freeC:∀x c,X.env.cells.lookup x=some c->H c=none
 pin:∀p∈X.pn++pins,s.heap.get? p.1=some p.2/\H p.1=none/\p.1≠X.env.locals/\p.1 ∉ X.fs/\∀v,p.2.data≠.cell v
 hok:HOk X.prog X.w H s.heap
 len:σ.length=X.N.length
section
variable {X:Cx}{pins:List (Addr × Obj)}{σ:List (Option V)}{H H':Hp}{s:Shared}{h':Heap}
theorem Cx.Ok.nofr (ok:X.Ok) {b:Addr}{o:Obj}(e:X.base.get? b=some o):b ∉ X.fs:=λhb=>by
 have:=(ok.funs.mem hb).1;rw[e]at this;cases this
theorem Inv.bs (I:Inv X pins σ H s):∀b o,X.base.get? b=some o->s.heap.get? b=some o/\H b=none:=λb o e=>
 ⟨I.base.keep b o (I.ok.bs b o e).1 (I.ok.bs b o e).2 (I.ok.nofr e) (I.ok.noex b o e),I.base.free b o (I.ok.bs b o e).1 (I.ok.bs b o e).2 (I.ok.noex b o e)⟩
theorem Inv.bk (I:Inv X pins σ H s):∀b o,X.base.get? b=some o->s.heap.get? b=some o:=λb o e=>(I.bs b o e).1
theorem Inv.mod (I:Inv X pins σ H s):Mod X.K X.mg X.base:=I.ok.mod
theorem Inv.kIn (I:Inv X pins σ H s):X.K.In s.heap:=I.ok.mod.kin.keeps I.bk
theorem Inv.fr (I:Inv X pins σ H s):∃m,Fr X.base X.env.locals s.heap m:=
 let ⟨m,hn,_⟩:=I.loc
 ⟨m,hn,I.bk,Wa8 I.ok.bsz I.ok.above⟩
theorem Inv.lt (I:Inv X pins σ H s):X.env.locals<s.heap.objs.size:=let ⟨_,hn,_⟩:=I.loc;hn.lt
theorem Inv.sz (I:Inv X pins σ H s):X.s₀.heap.objs.size<=s.heap.objs.size:=Wa8 I.ok.above<|Wb8 I.lt
theorem Inv.nofs (I:Inv X pins σ H s) {a:Addr}(h:s.heap.objs.size<=a):a ∉ X.fs:=λhb=>by
 obtain⟨_,o,ho,_⟩:=I.ok.funs.mem hb;exact absurd (Wau (Wai ho)<|Wa8 I.sz h)<|Wb3 _
theorem Inv.cne (I:Inv X pins σ H s):∀x c,X.env.cells.lookup x=some c->c≠X.env.locals:=λx c e z=>by
 obtain⟨v,o,ho,hd⟩:=I.cell x c e;obtain⟨m,⟨o',es,ep,ho',hd',_⟩,_⟩:=I.loc;rw[z,ho']at ho;cases ho;rw[hd']at hd;cases hd
theorem Inv.funs (I:Inv X pins σ H s):s.heap.FunFrames X.base X.outer:=by
 have all:∀(l:List Env),(∀b∈frs l,b∈X.fs)->X.s₀.heap.FunFrames X.base l->s.heap.FunFrames X.base l:=by
  intro l
  induction l with
  |nil=>intro _ _;trivial
  |cons env r ih=>
   intro hs hl;obtain⟨hk,⟨L,o,hf,hn,ho,hd⟩,hr⟩:=hl;have hL:L∈X.fs:=hs L (by unfold frs;rw[Wc4,hf];exact Wbc);obtain⟨sl,e⟩:=I.base.slot L o ho (I.ok.frf L hL) hL λz=>I.ok.exfs L z hL;exact⟨hk,⟨L,_,hf,hn,e,hd⟩,ih (λb hb=>hs b (by unfold frs;rw[Wc4,hf];exact Way _ hb)) hr⟩
 exact all X.outer (λ_ hb=>hb) I.ok.funs
theorem Inv.stack (I:Inv X pins σ H s):s.heap.FunFrames X.base X.stack:=by
 rcases I.ok.stk with e|⟨e,hf⟩
 ·rw[e];exact I.funs
 ·rw[e]
  obtain⟨m,hn,_⟩:=I.loc;refine .cons (by rw[I.ok.kind];decide) hf hn ?_ I.funs;exact Heap.get?_none_of_le<|Wa8 I.ok.bsz I.ok.above
theorem Inv.stkSub (I:Inv X pins σ H s):∀b∈frs X.stack,b∈X.env.locals::X.fs:=λb hb=>by
 rcases I.ok.stk with e|⟨e,hf⟩
 ·rw[e]at hb;exact Way _ hb
 ·rw[e]at hb
  unfold frs at hb;rw[Wc4,hf]at hb;exact hb
theorem Inv.stkFree (I:Inv X pins σ H s):∀b∈frs X.stack,H b=none:=λb hb=>by
 rcases War.mp (I.stkSub b hb) with e|hb
 ·rw[e];exact I.free
 ·obtain⟨_,o,ho,_⟩:=I.ok.funs.mem hb
  exact I.base.free b o ho (I.ok.frf b hb) λz=>I.ok.exfs b z hb
theorem Inv.step {g':Array GenState}{t':Nat}{d':Drawn}{ch:List Addr}(I:Inv X pins σ H s)
  (hch:∀b∈ch,(b∈X.ex\/X.s₀.heap.objs.size<=b)/\b≠X.env.locals/\(∀x c,X.env.cells.lookup x=some c->c≠b)/\∀p∈X.pn++pins,p.1≠b)
  (keep:∀b o,b≠X.env.locals->b ∉ X.fs->b ∉ ch->s.heap.get? b=some o->H b=none->h'.get? b=some o)
  (slot:∀b o,b≠X.env.locals->b∈X.fs->b ∉ ch->s.heap.get? b=some o->H b=none->∃sl,h'.get? b=some { o with slots:=sl }) (free:∀b o,b ∉ ch->s.heap.get? b=some o->H b=none->H' b=none)
  (there:∀b o,b ∉ ch->s.heap.get? b=some o->∃o',h'.get? b=some o')
  (tups:∀b xs,H b=some (.tup xs)->H' b=some (.tup xs)) (frzs:∀b o u,H b=some (.frz o u)->H' b=some (.frz o u)) (tbls:∀b ps,H b=some (.tbl ps)->∃more,H' b=some (.tbl<|ps++more))
  (ns:∀m,s.heap.Ns X.env.locals m->h'.Ns X.env.locals m) (hok:HOk X.prog X.w H' h') (hg:AllBare g') :
  Inv X pins σ H' { s with heap:=h',gens:=g',drawn:=d',toks:=t' }:=by
 have neL:∀b o,X.s₀.heap.get? b=some o->b≠X.env.locals:=λb o e=>Wap<|Wau (Wai e) I.ok.above;have neC:∀b o,X.s₀.heap.get? b=some o->b ∉ X.ex->b ∉ ch:=λb o e hx hb=>by
  rcases(hch b hb).1 with z|z
  ·exact hx z
  ·exact absurd (Wau (Wai e) z)<|Wb3 _
 have cellK:∀x c,X.env.cells.lookup x=some c->∀v,s.heap.IsCell c v->h'.IsCell c v:=λx c e v hq_=>by
  obtain⟨o,ho,hd⟩:=hq_;have nch:c ∉ ch:=λz=>(hch c z).2.2.1 x c e rfl;by_cases hc:c∈X.fs
  ·obtain⟨sl,q⟩:=slot c o (I.cne x c e) hc nch ho (I.freeC x c e)
   exact⟨_,q,hd⟩
  ·exact⟨o,keep c o (I.cne x c e) hc nch ho<|I.freeC x c e,hd⟩
 refine⟨I.ok,I.os,hg,⟨λb o e n hb hx=>?_,λb o e n hb hx=>?_,λb o e n hx=>?_,λb o e hx=>?_,λb xs e=>tups b xs<|I.base.tups b xs e,λb o xs e=>frzs b o xs<|I.base.frzs b o xs e,λb ps e=>?_⟩,?_,λx c e=>?_,?_,λx c e=>?_,λp hp=>?_,hok,I.len⟩
 ·exact keep b o (neL b o e) hb (neC b o e hx) (I.base.keep b o e n hb hx)<|I.base.free b o e n hx
 ·obtain⟨sl,e1⟩:=I.base.slot b o e n hb hx
  obtain⟨sl',e2⟩:=slot b _ (neL b o e) hb (neC b o e hx) e1<|I.base.free b o e n hx;exact⟨sl',e2⟩
 ·obtain⟨o',e1⟩:=I.base.there b o e hx
  exact free b o' (neC b o e hx) e1<|I.base.free b o e n hx
 ·obtain⟨o',e1⟩:=I.base.there b o e hx
  exact there b o' (neC b o e hx) e1
 ·obtain⟨m1,e1⟩:=I.base.tbls b ps e
  obtain⟨m2,e2⟩:=tbls b _ e1;exact⟨m1++m2,by rw[e2,Array.append_assoc]⟩
 ·obtain⟨m,hn,hl⟩:=I.loc
  refine⟨m,ns m hn,λi x v e1 e2 e3=>?_⟩;obtain⟨u,r,l⟩:=hl i x v e1 e2 e3;refine⟨u,r,?_⟩;rcases l with l|⟨k,c,e,z⟩
  ·exact .inl l
  ·exact .inr ⟨k,c,e,cellK x c e _ z⟩
 ·obtain⟨v,z⟩:=I.cell x c e
  exact⟨v,cellK x c e v z⟩
 ·obtain⟨m,⟨o,_,_,ho,_⟩,_⟩:=I.loc
  exact free _ o (λz=>(hch _ z).2.1 rfl) ho I.free
 ·obtain⟨v,o,ho,hd⟩:=I.cell x c e
  exact free c o (λz=>(hch c z).2.2.1 x c e rfl) ho<|I.freeC x c e
 ·obtain⟨e,n,ne,nf,d⟩:=I.pin p hp
  have nch:p.1 ∉ ch:=λz=>(hch p.1 z).2.2.2 p hp rfl;exact⟨keep p.1 p.2 ne nf nch e n,free p.1 p.2 nch e n,ne,nf,d⟩
theorem Inv.un {t':Nat}(I:Inv X pins σ H s) (u:Un X.fs [] H H' s.heap h') (hok:HOk X.prog X.w H' h'):Inv X pins σ H' { s with heap:=h',toks:=t' }:=by
 obtain⟨m,⟨o,es,ep,ho,r⟩,_⟩:=id I.loc;obtain⟨sl,hL⟩:=u.any ho I.free (by simp);exact I.step (g':=s.gens) (d':=s.drawn) (ch:=[]) (λ_ z=>nomatch z) (λb o _ hb _ e n=>u.keep b o e n hb (by simp)) (λb o _ hb _ e n=>u.slot b o e n hb (by simp)) (λb o _ e n=>u.free b o e n (by simp)) (λb o _ e=>u.there b o e (by simp)) u.tups u.frzs u.tbls (λm' hm=>by
  obtain⟨o',es',ep',ho',r'⟩:=hm;rw[ho]at ho';cases ho';exact⟨_,es',ep',hL,r'⟩) hok I.bare
theorem Inv.call {g':Array GenState}{t':Nat}{d':Drawn}{ch:List Addr}(I:Inv X pins σ H s) (u:Un (frs X.stack) ch H H' s.heap h') (hok:HOk X.prog X.w H' h') (hg:AllBare g')
  (hch:∀b∈ch,(b∈X.ex\/X.s₀.heap.objs.size<=b)/\b≠X.env.locals/\(∀x c,X.env.cells.lookup x=some c->c≠b)/\∀p∈X.pn++pins,p.1≠b) :
  Inv X pins σ H' { s with heap:=h',gens:=g',drawn:=d',toks:=t' }:=by
 obtain⟨m,⟨o,es,ep,ho,r⟩,_⟩:=id I.loc;obtain⟨sl,hL⟩:=u.any ho I.free λz=>(hch _ z).2.1 rfl;exact I.step (ch:=ch) hch (λb o hL hb hc e n=>u.keep b o e n (λz=>(War.mp (I.stkSub b z)).elim hL hb) hc) (λb o _ _ hc e n=>u.any e n hc) (λb o hc e n=>u.free b o e n hc) (λb o hc e=>u.there b o e hc) u.tups u.frzs u.tbls (λm' hm=>by
  obtain⟨o',es',ep',ho',r'⟩:=hm;rw[ho]at ho';cases ho';exact⟨_,es',ep',hL,r'⟩) hok hg
theorem Inv.turned {t':Nat}{it:Addr}(I:Inv X pins σ H s) (k:∀b o,b≠it->s.heap.get? b=some o->h'.get? b=some o) (hn:H it=none) (hL:it≠X.env.locals)
  (h1:it∈X.ex\/X.s₀.heap.objs.size<=it) (h2:∀x c,X.env.cells.lookup x=some c->c≠it) (h3:∀p∈X.pn++pins,p.1≠it):Inv X pins σ H { s with heap:=h',toks:=t' }:=by
 have nit:∀b u,H b=some u->b≠it:=λb u e z=>by rw[z,hn]at e;cases e
 refine I.step (g':=s.gens) (d':=s.drawn) (ch:=[it]) (λb hb=>?_) (λb o _ _ hc e _=>k b o (λz=>hc (by simp[z])) e) (λb o _ _ hc e _=>⟨o.slots,k b o (λz=>hc (by simp[z])) e⟩) (λ_ _ _ _ n=>n)
  (λb o hc e=>⟨o,k b o (λz=>hc (by simp[z])) e⟩) (λ_ _ e=>e) (λ_ _ _ e=>e) (λb ps e=>⟨#[],by rw[e];simp⟩) (λm hm=>?_) (λb u e=>?_) I.bare
 ·have e:b=it:=by simpa using hb
  subst e;exact⟨h1,hL,h2,h3⟩
 ·obtain⟨o,es,ep,ho,r⟩:=hm
  exact⟨o,es,ep,k _ o (Ne.symm hL) ho,r⟩
 ·refine(I.hok b u e).stay (λc v hc q=>k c v ?_ q) (λ_ q=>q) λ_ _ q=>q
  rcases hc with z|z
  ·rw[z];exact nit b u e
  ·exact nit c _ z
theorem Inv.tok (I:Inv X pins σ H s) (t:Nat):Inv X pins σ H { s with toks:=t }:=I.un (h':=s.heap) (t':=t) Un.refl I.hok
theorem Inv.kept {t':Nat}(I:Inv X pins σ H s) (k:∀b u,s.heap.get? b=some u->h'.get? b=some u):Inv X pins σ H { s with heap:=h',toks:=t' }:=I.un (Un.kept k)<|I.hok.kept k
theorem Inv.laid {a:Addr}{o:HO}{t':Nat}(I:Inv X pins σ H s) (k:∀b u,s.heap.get? b=some u->h'.get? b=some u) (hp:s.heap.objs.size<=a) (new:ObjOk X.prog X.w (upd H a o) h' a o) :
  Inv X pins σ (upd H a o) { s with heap:=h',toks:=t' }:=I.un (Un.laid k hp<|I.hok.fresh hp)<|I.hok.laid k hp new
theorem Inv.write {x e:Addr}{o:HO}{t':Nat}(I:Inv X pins σ H s) (mu:Mut (H x)) (he:e=x\/H e=some (.own x)) (k:∀b u,b≠e->s.heap.get? b=some u->h'.get? b=some u) (heo:∃u,h'.get? e=some u)
  (new:ObjOk X.prog X.w (upd H x o) h' x o):Inv X pins σ (upd H x o) { s with heap:=h',toks:=t' }:=I.un (Un.write mu he k heo)<|I.hok.write mu he k heo new
theorem Inv.weak {σ':List (Option V)}(I:Inv X pins σ H s) (hl:σ'.length = σ.length) (w:∀(i:Nat) v,σ'[i]?=some (some v) -> σ[i]?=some (some v)):Inv X pins σ' H s:=
 ⟨I.ok,I.os,I.bare,I.base,let ⟨m,hn,hl'⟩:=I.loc; ⟨m,hn,λi x v e1 e2 e3=>hl' i x v e1 (w i v e2) e3⟩,I.cell,I.free,I.freeC,I.pin,I.hok,hl.trans I.len⟩
theorem Inv.pins_of {pins':List (Addr × Obj)}(I:Inv X pins σ H s) (h:∀p∈pins',s.heap.get? p.1=some p.2/\H p.1=none/\p.1≠X.env.locals/\p.1 ∉ X.fs/\∀v,p.2.data≠.cell v):Inv X pins' σ H s:=
 ⟨I.ok,I.os,I.bare,I.base,I.loc,I.cell,I.free,I.freeC,λp hp=>(Wbn.mp hp).elim (λz=>I.pin p<|Wcm _ z) (h p),I.hok,I.len⟩
theorem Zht {N:List Str}(hN:N.Nodup) {i j:Nat}{x:Str}(a:N[i]?=some x) (b:N[j]?=some x):i=j:=by
 obtain⟨h1,e1⟩:=Wag.mp a;obtain⟨h2,e2⟩:=Wag.mp b;exact(Wde hN).mp (e1.trans e2.symm)
theorem Zee {M:Model}{A:Around}{E:Value->Shared->Prop}{i:Nat}{x:Str}{v:V}{u:Value}{Q:Unit->Shared->Prop}(I:Inv X pins σ H s) (hN:X.N.Nodup) (hi:X.N[i]?=some x) (hx:Loc X.env.scope x) (r:RelV v u)
  (h:∀s',Inv X pins (σ.set i<|some v) H s' -> (∃a,Heap.SameBut a s.heap s'.heap/\(a=X.env.locals\/X.env.cells.lookup x=some a))->Q () s') (hf:X.fn x=true\/X.env.scope.names.lookup x=some .local:=by first|exact .inl rfl|exact .inr rfl|assumption):wpAny M A (storeName X.env x u) Q E s:=by
 obtain⟨m,hn,hl⟩:=id I.loc;have hcls:(X.env.scope.kind == .class || (X.env.scope.kind == .module && X.env.locals != X.env.globals))=false:=by rw[I.ok.kind];rfl
 have hiσ:i < σ.length:=by rw[I.len];exact(Wag.mp hi).1
 have cne:=I.cne;have tracked:∀{a:Addr}{h':Heap},(∃o,s.heap.get? a=some o/\H a=none)->Heap.SameBut a s.heap h' -> HOk X.prog X.w H h':=λ{a h'} ha hs b ob e=>by
  obtain⟨_,_,hfree⟩:=ha;refine(I.hok b ob e).stay (λc w' hc q=>(hs.2 c ?_).trans q) (λ_ q=>q) λ_ _ q=>q;rintro rfl;rcases hc with rfl|hc
  ·rw[hfree]at e;cases e
  ·rw[hfree]at hc;cases hc
 rcases hx with hk|hk
 ·refine wpAny_storeName_local hk hn (λh' hn' hs=>?_) hcls
  obtain⟨oL,_,_,hoL,_⟩:=id hn;refine h _ ⟨I.ok,I.os,I.bare,⟨λb o e n hb hx=>?_,λb o e n hb hx=>?_,I.base.free,λb o e hx=>?_,I.base.tups,I.base.frzs,I.base.tbls⟩,⟨_,hn',λj y v' e1 e2 e3=>?_⟩,λy c e=>?_,I.free,I.freeC,λp hp=>?_,tracked ⟨oL,hoL,I.free⟩ hs,by simpa using I.len⟩ ⟨_,hs,.inl rfl⟩
  ·exact(hs.2 b<|Wap<|Wau (Wai e) I.ok.above).trans (I.base.keep b o e n hb hx)
  ·obtain⟨sl,e1⟩:=I.base.slot b o e n hb hx
   exact⟨sl,(hs.2 b<|Wap<|Wau (Wai e) I.ok.above).trans e1⟩
  ·obtain⟨o',e1⟩:=I.base.there b o e hx
   exact⟨o',(hs.2 b<|Wap<|Wau (Wai e) I.ok.above).trans e1⟩
  ·by_cases hj:j=i
   ·subst hj
    rw[hi]at e1;cases e1;rw[Wat hiσ]at e2;cases e2;exact⟨u,r,.inl ⟨hk,by simp⟩⟩
   ·rw[Was (Ne.symm hj)]at e2
    obtain⟨u',r',q⟩:=hl j y v' e1 e2 e3;refine⟨u',r',?_⟩;rcases q with ⟨k,e⟩|⟨k,c,e,z⟩
    ·refine .inl ⟨k,?_⟩
     have:y≠x:=λe=>hj<|Zht hN e1 (e ▸ hi);simp[this,e]
    ·exact .inr ⟨k,c,e,z.sameBut hs<|cne y c e⟩
  ·obtain⟨w',z⟩:=I.cell y c e
   exact⟨w',z.sameBut hs<|cne y c e⟩
  ·obtain⟨e,n,ne,nf,d⟩:=I.pin p hp
   exact⟨(hs.2 p.1 ne).trans e,n,ne,nf,d⟩
 ·have hfn:X.fn x=true:=by
   rcases hf with z|z
   ·exact z
   ·rw[z]at hk;cases hk
  obtain⟨c,hc⟩:=I.ok.has x (.inl hk);obtain⟨w',z⟩:=I.cell x c hc;refine wpAny_storeName_cell I.ok.kind hk hc z λh' hc' hs=>?_;obtain⟨oc,hoc,hocd⟩:=id z;refine h { s with heap:=h' } ⟨I.ok,I.os,I.bare,⟨λb o e n hb hx=>?_,λb o e n hb hx=>?_,I.base.free,λb o e hx=>?_,I.base.tups,I.base.frzs,I.base.tbls⟩,⟨m,hn.sameBut hs<|Ne.symm<|cne x c hc,λj y v' e1 e2 e3=>?_⟩,λy c' e=>?_,I.free,I.freeC,λp hp=>?_,tracked ⟨oc,hoc,I.freeC x c hc⟩ hs,by simpa using I.len⟩ ⟨c,hs,.inr hc⟩
  ·exact(hs.2 b<|Wap<|Wau (Wai e)<|I.ok.cab x c hfn hc).trans (I.base.keep b o e n hb hx)
  ·obtain⟨sl,e1⟩:=I.base.slot b o e n hb hx
   exact⟨sl,(hs.2 b<|Wap<|Wau (Wai e)<|I.ok.cab x c hfn hc).trans e1⟩
  ·obtain⟨o',e1⟩:=I.base.there b o e hx
   exact⟨o',(hs.2 b<|Wap<|Wau (Wai e)<|I.ok.cab x c hfn hc).trans e1⟩
  ·by_cases hj:j=i
   ·subst hj
    rw[hi]at e1;cases e1;rw[Wat hiσ]at e2;cases e2;exact⟨u,r,.inr ⟨.inl hk,c,hc,hc'⟩⟩
   ·rw[Was (Ne.symm hj)]at e2
    obtain⟨u',r',q⟩:=hl j y v' e1 e2 e3;refine⟨u',r',?_⟩;rcases q with q|⟨k,c',e,z'⟩
    ·exact .inl q
    ·refine .inr ⟨k,c',e,z'.sameBut hs ?_⟩
     rintro rfl;exact hj<|Zht hN e1 (I.ok.inj _ _ _ e hc ▸ hi)
  ·by_cases hcc:c'=c
   ·subst hcc;exact⟨_,hc'⟩
   ·obtain⟨w2,z2⟩:=I.cell y c' e
    exact⟨w2,z2.sameBut hs hcc⟩
  ·obtain⟨e,n,ne,nf,d⟩:=I.pin p hp
   refine⟨(hs.2 p.1 ?_).trans e,n,ne,nf,d⟩;intro q;rw[q,hoc]at e;have q':oc=p.2:=Wa5.inj e;exact d w' (by rw[<- q'];exact hocd)
theorem Zdt {M:Model}{A:Around}{E:Value->Shared->Prop}{i:Nat}{x:Str}{v:V}{u:Value}{Q:Unit->Shared->Prop}(I:Inv X pins σ H s) (hN:X.N.Nodup) (hi:X.N[i]?=some x) (hx:Loc X.env.scope x) (r:RelV v u)
  (h:∀s',Inv X pins (σ.set i<|some v) H s' -> Q () s') (hf:X.fn x=true\/X.env.scope.names.lookup x=some .local:=by first|exact .inl rfl|exact .inr rfl|assumption):wpAny M A (storeName X.env x u) Q E s:=
 Zee I hN hi hx r (λs' I' _=>h s' I') hf
theorem Inv.call' {s':Shared}{ch:List Addr}(I:Inv X pins σ H s) (ho:s'.os=s.os) (u:Un (frs X.stack) ch H H' s.heap s'.heap) (hok:HOk X.prog X.w H' s'.heap) (hg:AllBare s'.gens)
  (hch:∀b∈ch,(b∈X.ex\/X.s₀.heap.objs.size<=b)/\b≠X.env.locals/\(∀x c,X.env.cells.lookup x=some c->c≠b)/\∀p∈X.pn++pins,p.1≠b):Inv X pins σ H' s':=by
 obtain⟨h',g',d',t',o'⟩:=s';have e:o'=s.os:=ho;subst e;exact I.call (g':=g') (t':=t') (d':=d') u hok hg hch
end
abbrev XK:=Value->Option Addr->Hp->Prop
abbrev St:=List<|Option V
abbrev VK:=V->Hp->Prop
abbrev TE:=St->Hp->VK->Prop
abbrev TT:=St->Hp->(Bool->Hp->Prop)->Prop
abbrev TA:=St->Hp->(List V->Hp->Prop)->Prop
structure Ends where
 nx:St->Hp->Prop
 rt:VK
 bk:St->Hp->Prop:=λ_ _=>False
 ct:St->Hp->Prop:=λ_ _=>False
abbrev TS:=Ends->St->Hp->Prop
def EP (X:Cx) (pins:List (Addr × Obj)) (σ:St) (Q:VK) (u:Value) (s':Shared):Prop:=∃v H',Inv X pins σ H' s' /\ RelV v u/\Q v H'
def TP (X:Cx) (pins:List (Addr × Obj)) (σ:St) (Q:Bool->Hp->Prop) (b:Bool) (s':Shared):Prop:=∃H',Inv X pins σ H' s' /\ Q b H'
def AP (X:Cx) (pins:List (Addr × Obj)) (σ:St) (Q:List V->Hp->Prop) (us:List Value) (s':Shared):Prop:=∃vs H',Inv X pins σ H' s' /\ Vals vs us/\Q vs H'
def SP (X:Cx) (pins:List (Addr × Obj)) (D:Ends) (f:Flow) (s':Shared):Prop:=
 match f with
 |.next=>∃σ' H',Inv X pins σ' H' s' /\ D.nx σ' H'
 |.brk=>∃σ' H',Inv X pins σ' H' s' /\ D.bk σ' H'
 |.cont=>∃σ' H',Inv X pins σ' H' s' /\ D.ct σ' H'
 |.ret u=>∃v σ' H',Inv X pins σ' H' s' /\ RelV v u/\D.rt v H'
def PE (X:Cx) (e:Expr) (t:TE):Prop:=
 ∀(pins:List (Addr × Obj)) (s:Shared) (σ:St) (H:Hp) (Q:VK),Inv X pins σ H s->t σ H Q->wpAny (model X.prog X.w) X.A (eval e X.env) (EP X pins σ Q) X.xe s
def PT (X:Cx) (e:Expr) (t:TT):Prop:=
 ∀(pins:List (Addr × Obj)) (s:Shared) (σ:St) (H:Hp) (Q:Bool->Hp->Prop),Inv X pins σ H s->t σ H Q->wpAny (model X.prog X.w) X.A (isTrue e X.env<|eval e X.env) (TP X pins σ Q) X.xe s
def PW (X:Cx) (e:Expr) (t:TT):Prop:=
 ∀(whole:Sem Value) (pins:List (Addr × Obj)) (s:Shared) (σ:St) (H:Hp) (Q:Bool->Hp->Prop),Inv X pins σ H s->t σ H Q->wpAny (model X.prog X.w) X.A (isTrue e X.env whole) (TP X pins σ Q) X.xe s
theorem PW.pt {X:Cx}{e:Expr}{t:TT}(h:PW X e t):PT X e t:=h _
def PA (X:Cx) (es:List Expr) (t:TA):Prop:=
 ∀(pos:Pos) (pins:List (Addr × Obj)) (s:Shared) (σ:St) (H:Hp) (Q:List V->Hp->Prop),Inv X pins σ H s->t σ H Q->wpAny (model X.prog X.w) X.A (spliced<|backTo pos<|starEach es X.env) (AP X pins σ Q) X.xe s
def PS (X:Cx) (st:Stmt) (t:TS):Prop:=
 ∀(pins:List (Addr × Obj)) (s:Shared) (σ:St) (H:Hp) (D:Ends),Inv X pins σ H s->t D σ H->wpAny (model X.prog X.w) X.A (exec st X.env) (SP X pins D) X.xe s
def PSs (X:Cx) (st:List Stmt) (t:TS):Prop:=
 ∀(pins:List (Addr × Obj)) (s:Shared) (σ:St) (H:Hp) (D:Ends),Inv X pins σ H s->t D σ H->wpAny (model X.prog X.w) X.A (execs st X.env) (SP X pins D) X.xe s
theorem thn {α:Type}{t:Sem α}{Q Q':α -> Shared->Prop}{M:Model}{A:Around}{E:Value->Shared->Prop}{s:Shared}(h:wpAny M A t Q E s) (hQ:∀a s,Q a s->Q' a s):wpAny M A t Q' E s:=wpAny_mono h hQ λ_ _ x=>x
end L2
namespace L2
open PySem PySem.Spec PyProof.Rows
section
variable {X:Cx}
def tVar (i:Nat):TE:=λσ H Q=>∃v,σ[i]?=some (some v)/\Q v H
def tC (v:V):TE:=λ_ H Q=>Q v H
theorem Zoy {i:Nat}{x:Str}{pos:Pos}(hN:X.N[i]?=some x) (hv:Vis X.env.scope x) (hd:(x == ("__debug__":Str))=false:=by decide) (hcd:(x == ("__classdict__":Str))=false:=by decide):PE X (.Name x pos) (tVar i):=by
 intro pins s σ H Q I h;obtain⟨v,e,h⟩:=h;obtain⟨m,hn,hl⟩:=I.loc;obtain⟨u,r,l⟩:=hl i x v hN e hv;have fin:EP X pins σ Q u s:=⟨v,H,I,r,h⟩;rcases l with ⟨hk,hm⟩|⟨hk,c,hc,hcell⟩
 ·exact wpAny_Name (wpAny_loadName_local I.ok.kind hk hn hm fin) hd
 ·rcases hk with hk|hk
  ·exact wpAny_Name (wpAny_loadName_cell I.ok.kind hk hc hcell fin) hd
  ·exact wpAny_Name (wpAny_loadName_free I.ok.kind hk hc hcell fin hcd) hd
theorem Zaf {i j pos}:PE X (.Constant (.int i) j pos) (tC (.int i)):=λ_ _ _ H _ I h=>wpAny_Constant_int ⟨.int i,H,I.tok _,⟨_,rfl⟩,h⟩
theorem Zva {b j pos}:PE X (.Constant (.bool b) j pos) (tC (.bl b)):=λ_ _ _ H _ I h=>Constant_bool ⟨.bl b,H,I,rfl,h⟩
theorem Zvd {j pos}:PE X (.Constant .none j pos) (tC .non):=λ_ _ _ H _ I h=>Constant_none ⟨.non,H,I,rfl,h⟩
theorem Zbm {x j pos}:PE X (.Constant (.str x) j pos) (tC (.str x)):=λ_ _ _ H _ I h=>Calls.Constant_str ⟨.str x,H,I.tok _,⟨_,rfl⟩,h⟩
def Gl (X:Cx) (x:Str):Prop:=X.env.kindOf x=some .globalImplicit
theorem Zdz {E:Value->Shared->Prop}{pins:List (Addr × Obj)}{s:Shared}{σ:St}{H:Hp}{x:Str}{u:Value}{pos:Pos}{Q:Value->Shared->Prop}(I:Inv X pins σ H s) (hg:Gl X x) (hm:X.mg x=some u) (h:Q u s)
  (hd:(x == ("__debug__":Str))=false:=by decide):wpAny (model X.prog X.w) X.A (eval (.Name x pos) X.env) Q E s:=
 Calls.Name_function_global I.ok.kind hg (Calls.loadGlobal_global (by rw[I.ok.glob];exact I.mod.glob.keeps I.bk) hm h) hd
theorem Zdw {E:Value->Shared->Prop}{pins:List (Addr × Obj)}{s:Shared}{σ:St}{H:Hp}{x:Str}{u:Value}{pos:Pos}{Q:Value->Shared->Prop}(I:Inv X pins σ H s) (hg:Gl X x) (hm:X.mg x=none) (hv:bootBuiltins x=some u) (h:Q u s)
  (hn:x ≠ "__name__":=by decide) (hd:(x == ("__debug__":Str))=false:=by decide):wpAny (model X.prog X.w) X.A (eval (.Name x pos) X.env) Q E s:=by
 obtain⟨mb,h1,h2⟩:=I.mod.blt;exact Calls.Name_function_global I.ok.kind hg (Calls.loadGlobal_builtin (by rw[I.ok.glob];exact I.mod.glob.keeps I.bk) hm (by rw[I.ok.blt];exact h1.keeps I.bk) ((h2 x hn).trans hv) h) hd
theorem Za4 {x:Str}{v:V}{u:Value}{pos:Pos}(hg:Gl X x) (hm:X.mg x=some u) (r:RelV v u) (hd:(x == ("__debug__":Str))=false:=by decide):PE X (.Name x pos) (tC v):=
 λ_ _ _ H _ I h=>Zdz I hg hm ⟨v,H,I,r,h⟩ hd
theorem Ztm {x:Str}{v:V}{u:Value}{pos:Pos}(hg:Gl X x) (hm:X.mg x=none) (hv:bootBuiltins x=some u) (r:RelV v u) (hn:x ≠ "__name__":=by decide) (hd:(x == ("__debug__":Str))=false:=by decide):PE X (.Name x pos) (tC v):=
 λ_ _ _ H _ I h=>Zdw I hg hm hv ⟨v,H,I,r,h⟩ hn hd
variable {a b:Expr}{ta tb:TE}{pos:Pos}
variable {tA tB':TT}{rest:List Expr}
def tAnd (t u:TT):TT:=λσ H Q=>t σ H λc H1=>if c=true then u σ H1 Q else Q false H1
def tOr (t u:TT):TT:=λσ H Q=>t σ H λc H1=>if c=true then Q true H1 else u σ H1 Q
def tNot (t:TT):TT:=λσ H Q=>t σ H λc H1=>Q (!c) H1
theorem pw_and1 (ha:PT X a tA):PW X (.BoolOp .And [a] pos) tA:=by
 intro wh pins s σ H Q I h;refine isTrue_and (thn (ha pins s σ H Q I h) λc s1 e=>?_);cases c with
 |true=>exact isTrue_and_nil e
 |false=>exact e
theorem pw_or1 (ha:PT X a tA):PW X (.BoolOp .Or [a] pos) tA:=by
 intro wh pins s σ H Q I h;refine isTrue_or (thn (ha pins s σ H Q I h) λc s1 e=>?_);cases c with
 |false=>exact isTrue_or_nil e
 |true=>exact e
theorem pw_and (ha:PT X a tA) (hb:PW X (.BoolOp .And (b::rest) pos) tB'):PW X (.BoolOp .And (a::b::rest) pos) (tAnd tA tB'):=by
 intro wh pins s σ H Q I h;refine isTrue_and (thn (ha pins s σ H _ I h) λc s1 ⟨H1,I1,q1⟩=>?_);cases c with
 |true=>exact hb wh pins s1 σ H1 Q I1 q1
 |false=>exact⟨H1,I1,q1⟩
theorem pw_or (ha:PT X a tA) (hb:PW X (.BoolOp .Or (b::rest) pos) tB'):PW X (.BoolOp .Or (a::b::rest) pos) (tOr tA tB'):=by
 intro wh pins s σ H Q I h;refine isTrue_or (thn (ha pins s σ H _ I h) λc s1 ⟨H1,I1,q1⟩=>?_);cases c with
 |true=>exact⟨H1,I1,q1⟩
 |false=>exact hb wh pins s1 σ H1 Q I1 q1
theorem Zr3 (ha:PT X a tA):PT X (.UnaryOp .Not a pos) (tNot tA):=by
 intro pins s σ H Q I h;exact isTrue_not<|ha pins s σ H (λc H1=>Q (!c) H1) I h
def tAndV (ta tb:TE):TE:=λσ H Q=>ta σ H λx H1=>∃c,x=.bl c/\if c=true then tb σ H1 Q else Q (.bl false) H1
def tOrV (ta tb:TE):TE:=λσ H Q=>ta σ H λx H1=>∃c,x=.bl c/\if c=true then Q (.bl true) H1 else tb σ H1 Q
def tNotV (ta:TE):TE:=λσ H Q=>ta σ H λx H1=>∃c,x=.bl c/\Q (.bl (!c)) H1
theorem Zu7 {op} {t:TE}(h:PE X a t):PE X (.BoolOp op [a] pos) t:=λpins s σ H Q I hw=>BoolOp_one<|h pins s σ H Q I hw
theorem Zuo (ha:PE X a ta) (hb:PE X (.BoolOp .And (b::rest) pos) tb):PE X (.BoolOp .And (a::b::rest) pos) (tAndV ta tb):=by
 intro pins s σ H Q I h;refine BoolOp_and (thn (ha pins s σ H _ I h) λv s1 ⟨x,H1,I1,r1,q1⟩=>?_);obtain⟨c,rfl,q1⟩:=q1;cases r1;refine wpAny_truthy_bool ?_;cases c with
 |true=>exact hb pins s1 σ H1 Q I1 q1
 |false=>exact⟨.bl false,H1,I1,rfl,q1⟩
def tIf (t:TT) (ta tb:TE):TE:=λσ H Q=>t σ H λc H1=>if c=true then ta σ H1 Q else tb σ H1 Q
theorem Zp8 {c:Expr}(hc:PT X c tA) (ha:PE X a ta) (hb:PE X b tb):PE X (.IfExp c a b pos) (tIf tA ta tb):=by
 intro pins s σ H Q I h;refine wpAny_IfExp (thn (hc pins s σ H _ I h) λd s1 ⟨H1,I1,q1⟩=>?_);cases d with
 |true=>exact ha pins s1 σ H1 Q I1 q1
 |false=>exact hb pins s1 σ H1 Q I1 q1
end
end L2
namespace L2
open PySem PySem.Spec PyProof.Rows
def SqL (K:W.Frag) (H:Hp) (a:Addr) (xs:List V):Prop:=
 Rd H a (.lst xs) ∨
  ∃(o:Obj) (its:Array Value) (n:Nat),K.lookup a=some o/\o.cls=.type "list" /\ o.dict=none/\o.data=.seq its n/\its.size<=sizeLine/\Vals xs its.toList
def SqT (K:W.Frag) (H:Hp) (a:Addr) (xs:List V):Prop:=
 Rd H a (.tup xs) ∨
  ∃(o:Obj) (its:Array Value) (n:Nat),K.lookup a=some o/\o.cls=.type "tuple" /\ o.data=.seq its n/\its.size<=sizeLine/\Vals xs its.toList
def absV:Value->Option V
 |.none=>some .non
 |.bool b=>some (.bl b)
 |.int i _=>some (.int i)
 |.str x _=>some (.str x)
 |.bytes b _=>some (.byt b)
 |.float b _=>some (.flt b)
 |.ref a=>some (.ref a)
 |.type n=>some (.ty n)
 |_=>none
theorem RelV.abs {x:V}{u:Value}(r:RelV x u):absV u=some x:=by
 cases x with
 |non=>cases r;rfl
 |bl _=>cases r;rfl
 |int _=>obtain⟨t,rfl⟩:=r;rfl
 |str _=>obtain⟨t,rfl⟩:=r;rfl
 |byt _=>obtain⟨t,rfl⟩:=r;rfl
 |flt _=>obtain⟨t,rfl⟩:=r;rfl
 |ref _=>cases r;rfl
 |ty _=>cases r;rfl
theorem RelV.inj {x y:V}{u:Value}(r:RelV x u) (q:RelV y u):x=y:=Wa5.inj<|r.abs.symm.trans q.abs
theorem Vals.inj:∀{xs ys:List V}{us:List Value},Vals xs us->Vals ys us->xs=ys
 |_,_,_,.nil,.nil=>rfl
 |_,_,_,.cons r t,.cons r' t'=>by rw[r.inj r',Vals.inj t t']
section
variable {X:Cx}{pins:List (Addr × Obj)}{σ:St}{H:Hp}{s:Shared}{a:Addr}{xs ys:List V}
theorem SqL.of {K:W.Frag}(h:H a=some (.lst xs)):SqL K H a xs:=.inl (.inl h)
theorem SqT.of {K:W.Frag}(h:H a=some (.tup xs)):SqT K H a xs:=.inl (.inl h)
theorem Inv.list (I:Inv X pins σ H s) (h:SqL X.K H a xs):∃its:List Value,Vals xs its/\PlainL s.heap a its.toArray/\xs.length<=sizeLine:=by
 rcases h with h|⟨o,its,n,hk,hc,hd,hs,hz,r⟩
 ·obtain⟨z,its,n,r,e⟩:=h.ok I.hok
  exact⟨its,r,⟨_,n,e,rfl,rfl,rfl⟩,z⟩
 ·refine⟨its.toList,r,⟨o,n,I.kIn a o hk,hc,hd,by simpa using hs⟩,?_⟩
  have e:=r.length;simp only[Array.length_toList]at e;omega
theorem Inv.tuple (I:Inv X pins σ H s) (h:SqT X.K H a xs):∃its:List Value,Vals xs its/\IsTup s.heap a its.toArray/\xs.length<=sizeLine:=by
 rcases h with h|⟨o,its,n,hk,hc,hs,hz,r⟩
 ·obtain⟨z,its,r,p⟩:=h.ok I.hok
  exact⟨its,r,p.tup,z⟩
 ·refine⟨its.toList,r,⟨o,I.kIn a o hk,hc,n,by simpa using hs⟩,?_⟩
  have e:=r.length;simp only[Array.length_toList]at e;omega
theorem Inv.list_inj (I:Inv X pins σ H s) (h:SqL X.K H a xs) (h':SqL X.K H a ys):xs=ys:=by
 obtain⟨its,r,⟨o,n,e,_,_,d⟩,_⟩:=I.list h;obtain⟨its',r',⟨o',n',e',_,_,d'⟩,_⟩:=I.list h';rw[e]at e';cases e';rw[d]at d';injection d' with d1 _
 have:its=its':=by simpa using congrArg Array.toList d1
 subst this;exact r.inj r'
theorem Inv.tuple_inj (I:Inv X pins σ H s) (h:SqT X.K H a xs) (h':SqT X.K H a ys):xs=ys:=by
 obtain⟨its,r,⟨o,e,_,n,d⟩,_⟩:=I.tuple h;obtain⟨its',r',⟨o',e',_,n',d'⟩,_⟩:=I.tuple h';rw[e]at e';cases e';rw[d]at d';injection d' with d1 _
 have:its=its':=by simpa using congrArg Array.toList d1
 subst this;exact r.inj r'
end
abbrev Cx.wish (X:Cx) (E:Value->Shared->Prop):Cx:={ X with xe:=E }
abbrev Cx.nox (X:Cx):Cx:=X.wish λ_ _=>False
theorem Cx.Ok.wish {X:Cx}(ok:X.Ok) (E:Value->Shared->Prop):(X.wish E).Ok:=
 ⟨ok.mod,ok.kind,ok.glob,ok.blt,ok.above,ok.inj,ok.has,ok.cab,ok.hd,ok.frames,ok.stk,ok.exf,ok.bs,ok.bsz,ok.noex,ok.exfs,ok.funs,ok.frf⟩
theorem Cx.Ok.unwish {X:Cx}{E:Value->Shared->Prop}(ok:(X.wish E).Ok):X.Ok:=
 ⟨ok.mod,ok.kind,ok.glob,ok.blt,ok.above,ok.inj,ok.has,ok.cab,ok.hd,ok.frames,ok.stk,ok.exf,ok.bs,ok.bsz,ok.noex,ok.exfs,ok.funs,ok.frf⟩
section
variable {X:Cx}{pins:List (Addr × Obj)}{σ:St}{H:Hp}{s:Shared}{E:Value->Shared->Prop}
theorem Inv.wish (I:Inv X pins σ H s) (E:Value->Shared->Prop):Inv (X.wish E) pins σ H s:=⟨I.ok.wish E,I.os,I.bare,I.base,I.loc,I.cell,I.free,I.freeC,I.pin,I.hok,I.len⟩
theorem Inv.unwish (I:Inv (X.wish E) pins σ H s):Inv X pins σ H s:=⟨I.ok.unwish,I.os,I.bare,I.base,I.loc,I.cell,I.free,I.freeC,I.pin,I.hok,I.len⟩
theorem SP.unwish {D:Ends}{f:Flow}{s':Shared}(h:SP (X.wish E) pins D f s'):SP X pins D f s':=by
 cases f with
 |next=>obtain⟨σ',H',I,q⟩:=h;exact⟨σ',H',I.unwish,q⟩
 |brk=>obtain⟨σ',H',I,q⟩:=h;exact⟨σ',H',I.unwish,q⟩
 |cont=>obtain⟨σ',H',I,q⟩:=h;exact⟨σ',H',I.unwish,q⟩
 |ret u=>obtain⟨v,σ',H',I,r,q⟩:=h;exact⟨v,σ',H',I.unwish,r,q⟩
theorem PSs.nox {st:List Stmt}{t:TS}(h:PSs X.nox st t):PSs X st t:=λpins s σ H D I hw=>
 wpAny_mono (h pins s σ H D (I.wish _) hw) (λ_ _ q=>q.unwish) λ_ _ z=>False.elim z
end
section
variable {X:Cx}{st:Stmt}{rest:List Stmt}{t u:TS}{e:Expr}{te:TE}{pos:Pos}
def tNext:TS:=λD σ H=>D.nx σ H
def tSeq (t u:TS):TS:=λD σ H=>t { D with nx:=u D } σ H
theorem Zbi:PSs X [] tNext:=λ_ _ σ H _ I h=>wpAny_execs_nil ⟨σ,H,I,h⟩
theorem Zae (h1:PS X st t) (h2:PSs X rest u):PSs X (st::rest) (tSeq t u):=by
 intro pins s σ H D I h;refine wpAny_execs_cons (thn (h1 pins s σ H { D with nx:=u D } I h) λf s1 q=>?_);cases f with
 |next=>
  obtain⟨σ',H',I',q⟩:=q;exact h2 pins s1 σ' H' D I' q
 |ret v=>exact q
 |brk=>exact q
 |cont=>exact q
theorem Zai (h1:PS X st t):PSs X [st] t:=by
 intro pins s σ H D I h;refine wpAny_execs_cons (thn (h1 pins s σ H D I h) λf s1 q=>?_);cases f with
 |next=>exact wpAny_execs_nil q
 |ret v=>exact q
 |brk=>exact q
 |cont=>exact q
theorem Inv.quiet {pins:List (Addr × Obj)}{σ:St}{H:Hp}{s:Shared}(I:Inv X pins σ H s):interactive X.env=false:=by simp[interactive,I.ok.kind]
def tDrop (te:TE):TS:=λD σ H=>te σ H λ_ H1=>D.nx σ H1
theorem Zcb (he:PE X e te) (hs:swapsWith e none pos.line X.env=pure false:=by rfl):PS X (.Expr e pos) (tDrop te):=by
 intro pins s σ H D I h;exact wpAny_Expr_any (thn (he pins s σ H _ I h) λv s1 ⟨x,H1,I1,r1,q1⟩=>⟨σ,H1,I1,q1⟩) I.quiet hs
def tRet (te:TE):TS:=λD σ H=>te σ H D.rt
theorem Zay (he:PE X e te):PS X (.Return (some e) pos) (tRet te):=by
 intro pins s σ H D I h;exact wpAny_Return_some (thn (he pins s σ H _ I h) λv s1 ⟨x,H1,I1,r1,q1⟩=>⟨x,σ,H1,I1,r1,q1⟩)
def tIfS (c:TT) (t u:TS):TS:=λD σ H=>c σ H λb H1=>if b=true then t D σ H1 else u D σ H1
theorem Zdl {c:Expr}{a b:List Stmt}{tc:TT}(hc:PT X c tc) (ha:PSs X a t) (hb:PSs X b u):PS X (.If c a b pos) (tIfS tc t u):=by
 intro pins s σ H D I h;refine wpAny_If (thn (hc pins s σ H _ I h) λd s1 ⟨H1,I1,q1⟩=>?_);cases d with
 |true=>exact ha pins s1 σ H1 D I1 q1
 |false=>exact hb pins s1 σ H1 D I1 q1
def tNever:TS:=λ_ _ _=>False
theorem Zc4 {sts:List Stmt}:PSs X sts tNever:=λ_ _ _ _ _ _ h=>h.elim
end
abbrev TG:=V->St->Hp->(St->Hp->Prop)->Prop
abbrev TGs:=List V->St->Hp->(St->Hp->Prop)->Prop
def PG (X:Cx) (target:Expr) (t:TG):Prop:=
 ∀(pins:List (Addr × Obj)) (s:Shared) (σ:St) (H:Hp) (v:V) (u:Value) (Q:St->Hp->Prop),Inv X pins σ H s->RelV v u->t v σ H Q →
  wpAny (model X.prog X.w) X.A (assign target X.env u) (λ_ s'=>∃σ' H',Inv X pins σ' H' s' /\ Q σ' H') X.xe s
def PGs (X:Cx) (ts:List Expr) (t:TGs):Prop:=
 ∀(pins:List (Addr × Obj)) (s:Shared) (σ:St) (H:Hp) (vs:List V) (us:List Value) (Q:St->Hp->Prop),Inv X pins σ H s->Vals vs us->t vs σ H Q →
  wpAny (model X.prog X.w) X.A (assignInOrder ((assignEach ts X.env).map (·.2)) us) (λ_ s'=>∃σ' H',Inv X pins σ' H' s' /\ Q σ' H') X.xe s
abbrev TSet:=V->V->V->Hp->(Hp->Prop)->Prop
def PSet (X:Cx) (t:TSet):Prop:=
 ∀(pins:List (Addr × Obj)) (s:Shared) (σ:St) (H:Hp) (o i v:V) (ov iv u:Value) (Q:Hp->Prop),Inv X pins σ H s->RelV o ov->RelV i iv->RelV v u->t o i v H Q →
  wpAny (model X.prog X.w) X.A (setItem ov iv u) (λ_ s'=>∃H',Inv X pins σ H' s' /\ Q H') X.xe s
abbrev TIp:=V->V->Hp->VK->Prop
def PIp (X:Cx) (op:Operator) (t:TIp):Prop:=
 ∀(pins:List (Addr × Obj)) (s:Shared) (σ:St) (H:Hp) (x y:V) (v u:Value) (Q:VK),Inv X pins σ H s->RelV x v->RelV y u->t x y H Q →
  wpAny (model X.prog X.w) X.A (inplaceOp op v u) (EP X pins σ Q) X.xe s
section
variable {X:Cx}{pos:Pos}
def gName (i:Nat):TG:=λv σ H Q=>Q (σ.set i<|some v) H
theorem Zar {i:Nat}{x:Str}(hN:X.N.Nodup) (hi:X.N[i]?=some x) (hx:Loc X.env.scope x) (hf:X.fn x=true\/X.env.scope.names.lookup x=some .local:=by first|exact .inl rfl|exact .inr rfl|assumption):PG X (.Name x pos) (gName i):=by
 intro pins s σ H v u Q I r h;exact wpAny_assign_Name<|Zdt I hN hi hx r (λs' I'=>⟨_,H,I',h⟩) hf
def gNil:TGs:=λvs σ H Q=>vs=[]/\Q σ H
def gCons (t:TG) (u:TGs):TGs:=λvs σ H Q=>∃v r,vs=v::r/\t v σ H λσ' H'=>u r σ' H' Q
theorem Zet:PGs X [] gNil:=by
 intro pins s σ H vs us Q I r h;obtain⟨e,h⟩:=h;subst e;cases r;exact assignInOrder_nil ⟨σ,H,I,h⟩
theorem Zbq {e:Expr}{es:List Expr}{t:TG}{u:TGs}(h1:PG X e t) (h2:PGs X es u)
  (hs:(assignEach (e::es) X.env).map (·.2)=assign e X.env::(assignEach es X.env).map (·.2):=by rfl):PGs X (e::es) (gCons t u):=by
 intro pins s σ H vs us Q I r h;obtain⟨v,vr,e1,h⟩:=h;subst e1;cases r with
 |cons r rr=>
  rw[hs];refine assignInOrder_cons (thn (h1 pins s σ H _ _ _ I r h) λ_ s1 ⟨σ1,H1,I1,q1⟩=>?_);exact h2 pins s1 σ1 H1 _ _ Q I1 rr q1
def gTup (K:W.Frag) (n:Nat) (t:TGs):TG:=λv σ H Q=>∃a xs,v=.ref a/\SqT K H a xs/\xs.length=n/\t xs σ H Q
theorem Zun {es:List Expr}{k:Nat}{t:TGs}{n:Nat}(hc:X.calm=true) (h:PGs X es t)
  (hn:(assignEach es X.env).length=n:=by rfl) (hst:(assignEach es X.env).findIdx? (·.1)=none:=by rfl):PG X (.Tuple es k pos) (gTup X.K n t):=by
 intro pins s σ H v u Q I r hw;obtain⟨a,xs,e1,hq,hl,hw⟩:=hw;subst e1;cases r;obtain⟨its,rv,ht,hz⟩:=I.tuple hq;refine assign_Tuple_tuple (I.ok.hd hc) ht (by simp[hn,<- hl,rv.length]) hst λh' hx=>?_;have I1:Inv X pins σ H { s with heap:=h' }:=I.kept (t':=s.toks) λb o e=>hx b o (Wap<|Wai e) e;exact h pins _ σ H xs _ Q I1 (by simpa using rv) hw
def gSub (to ti:TE) (t:TSet):TG:=λv σ H Q=>to σ H λo H1=>ti σ H1 λi H2=>t o i v H2 λH3=>Q σ H3
theorem Zmy {o i:Expr}{to ti:TE}{t:TSet}(ho:PE X o to) (hi:PE X i ti) (hs:PSet X t)
  (ha:∀v,assign (.Subscript o i pos) X.env v=(do
   let ov ← holding [v] (eval o X.env)
   let iv ← holding [v,ov] (eval i X.env)
   standAt pos
   holding [v,ov,iv] (setItem ov iv v)
   release [v,ov,iv] []):=by intro _;rfl):PG X (.Subscript o i pos) (gSub to ti t):=by
 intro pins s σ H v u Q I r h;rw[ha];refine wpAny_bind<|wpAny_holding (thn (ho pins s σ H _ I h) λov s1 ⟨x,H1,I1,r1,q1⟩=>?_);refine wpAny_bind<|wpAny_holding (thn (hi pins s1 σ H1 _ I1 q1) λiv s2 ⟨y,H2,I2,r2,q2⟩=>?_);refine wpAny_bind<|wpAny_standAt<|wpAny_bind<|wpAny_holding (thn (hs pins s2 σ H2 x y v ov iv u _ I2 r1 r2 r q2) λ_ s3 ⟨H3,I3,q3⟩=>?_);exact wpAny_release ⟨σ,H3,I3,q3⟩
def tAsg (te:TE) (g:TG):TS:=λD σ H=>te σ H λx H1=>g x σ H1 D.nx
theorem Zf6 {tg e:Expr}{te:TE}{g:TG}(he:PE X e te) (hg:PG X tg g) (hs:swapsWithSole [tg] e pos.line X.env=pure false:=by rfl) (hw:swappedStores [tg] e X.env=pure none:=by rfl)
  (h1:(assignEach [tg] X.env).map (·.2)=[assign tg X.env]:=by rfl):PS X (.Assign [tg] e pos) (tAsg te g):=by
 intro pins s σ H D I h;refine wpAny_Assign_stores (thn (he pins s σ H _ I h) λv s1 ⟨x,H1,I1,r1,q1⟩=>?_) hs hw;rw[h1];exact thn (hg pins s1 σ H1 x v _ I1 r1 q1) λ_ s2 q=>q
theorem Zan {i:Nat}{x:Str}{e:Expr}{te:TE}{pos':Pos}(hN:X.N.Nodup) (hi:X.N[i]?=some x) (hx:Loc X.env.scope x) (he:PE X e te) (hs:swapsWith e (some (.Name x pos')) pos.line X.env=pure false:=by rfl) (hf:X.fn x=true\/X.env.scope.names.lookup x=some .local:=by first|exact .inl rfl|exact .inr rfl|assumption) :
  PS X (.Assign [.Name x pos'] e pos) (tAsg te<|gName i):=by
 intro pins s σ H D I h;refine wpAny_Assign_Name (thn (he pins s σ H _ I h) λv s1 ⟨y,H1,I1,r1,q1⟩=>?_) hs;exact Zdt I1 hN hi hx r1 (λs2 I2=>⟨_,H1,I2,q1⟩) hf
def tPar (i j:Nat) (ta:TA):TS:=λD σ H=>ta σ H λvs H1=>∃v w,vs=[v,w]/\D.nx ((σ.set i<|some v).set j (some w)) H1
theorem Zrs {i j:Nat}{x y:Str}{a b:Expr}{ta:TA}{px py pt:Pos}{kt k2 pt2} (hc:X.calm=true) (hN:X.N.Nodup) (hi:X.N[i]?=some x) (hj:X.N[j]?=some y) (hij:i≠j)
  (hx:X.env.scope.names.lookup x=some .local) (hy:X.env.scope.names.lookup y=some .local) (ha:PA X [a,b] ta)
  (hw:swappedStores [.Tuple [.Name x px,.Name y py] kt pt] (.Tuple [a,b] k2 pt2) X.env=pure (some [x,y]))
  (hs:swapsWithSole [.Tuple [.Name x px,.Name y py] kt pt] (.Tuple [a,b] k2 pt2) pos.line X.env=pure false:=by rfl) :
  PS X (.Assign [.Tuple [.Name x px,.Name y py] kt pt] (.Tuple [a,b] k2 pt2) pos) (tPar i j ta):=by
 intro pins s σ H D I h;rw[exec_Assign_arm];refine wpAny_bind<|wpAny_standAt ?_;rw[hs];refine wpAny_bind<|wpAny_pure ?_;rw[if_neg (by decide)];refine wpAny_bind<|Tuple_ (thn (ha _ pins s σ H _ I h) λus s1 ⟨vs,H1,I1,r1,q1⟩=>?_);obtain⟨v,w,e1,q1⟩:=q1;subst e1;obtain⟨u1,u2,rfl,rv,rw'⟩:∃u1 u2,us=[u1,u2]/\RelV v u1/\RelV w u2:=by
  cases r1 with
  |cons p q=>
   cases q with
   |cons p' q'=>
    cases q';exact⟨_,_,rfl,p,p'⟩
 refine wpAny_newObj_type ?_ (by show 2<=sizeLine;decide);have I2:Inv X pins σ H1 { s1 with heap:=s1.heap.push { cls:=.type "tuple",data:=.seq [u1,u2].toArray } }:=I1.kept (t':=s1.toks) λb o e=>Wab _ e;rw[hw];refine wpAny_bind<|wpAny_pure ?_;show wpAny (model X.prog X.w) X.A (do rule "assign.swapped-stores";let items ← unpackItems (.ref s1.heap.objs.size) 2 none;assignInOrder [λv=>bindName X.env y v,λv=>bindName X.env x v] items.reverse;pure Flow.next) _ _ _;refine wpAny_bind<|wpAny_rule<|wpAny_bind (unpackItems_tuple (items:=#[u1,u2]) (I.ok.hd hc) (IsTup.new s1.heap _) λh' hx'=>?_);have I3:=I2.kept (h':=h') (t':=s1.toks) λb o e=>hx' b o (Wap<|Wai e) e;show wpAny _ _ (assignInOrder [λv=>bindName X.env y v,λv=>bindName X.env x v] [u2,u1] >>= λ_=>pure Flow.next) _ _ _;refine wpAny_bind<|assignInOrder_cons<|wpAny_bindName<|Zdt I3 hN hj (.inl hy) rw' (λs2 I4=>?_) (.inr hy);refine assignInOrder_cons<|wpAny_bindName<|Zdt I4 hN hi (.inl hx) rv (λs3 I5=>assignInOrder_nil<|wpAny_pure ?_) (.inr hx);rw[List.set_comm _ _ (Ne.symm hij)]at I5;exact⟨_,H1,I5,q1⟩
def tAug (i:Nat) (te:TE) (ti:TIp):TS:=λD σ H=>∃x,σ[i]?=some (some x)/\te σ H λy H1=>ti x y H1 λz H2=>D.nx (σ.set i<|some z) H2
theorem Zmm {i:Nat}{x:Str}{e:Expr}{te:TE}{op:Operator}{ti:TIp}{pos':Pos}(hN:X.N.Nodup) (hi:X.N[i]?=some x) (hx:Loc X.env.scope x) (he:PE X e te) (ho:PIp X op ti) (hf:X.fn x=true\/X.env.scope.names.lookup x=some .local:=by first|exact .inl rfl|exact .inr rfl|assumption) :
  PS X (.AugAssign (.Name x pos') op e pos) (tAug i te ti):=by
 intro pins s σ H D I h;obtain⟨v,e1,h⟩:=h;obtain⟨m,hn,hl⟩:=I.loc;have vis:Vis X.env.scope x:=by rcases hx with k|k;exact .inl k;exact .inr (.inl k)
 obtain⟨u,r,l⟩:=hl i x v hi e1 vis;refine wpAny_AugAssign_Name ?_;have go:wpAny (model X.prog X.w) X.A (eval e X.env) (λw s₂=>wpAny (model X.prog X.w) X.A (inplaceOp op u w) (λr s₃=>wpAny (model X.prog X.w) X.A (storeName X.env x r) (λ_=>SP X pins D .next) X.xe s₃) X.xe s₂) X.xe s:=by
  refine thn (he pins s σ H _ I h) λw s1 ⟨y,H1,I1,r1,q1⟩=>?_;refine thn (ho pins s1 σ H1 v y u w _ I1 r r1 q1) λz s2 ⟨zv,H2,I2,r2,q2⟩=>?_;exact Zdt I2 hN hi hx r2 (λs3 I3=>⟨_,H2,I3,q2⟩) hf
 rcases l with ⟨hk,hm⟩|⟨hk,c,hc,hcell⟩
 ·exact wpAny_loadName_local I.ok.kind hk hn hm go
 ·rcases hk with hk|hk
  ·exact wpAny_loadName_cell I.ok.kind hk hc hcell go
  ·rcases hx with k|k
   ·have:X.env.scope.names.lookup x=some .free:=hk
    rw[k]at this;cases this
   ·have:X.env.scope.names.lookup x=some .free:=hk
    rw[k]at this;cases this
def tAugS (to ti te:TE) (tget:V->V->Hp->VK->Prop) (tip:TIp) (tset:TSet):TS:=λD σ H=>to σ H λo H1=>ti σ H1 λi H2=>tget o i H2 λx H3=>te σ H3 λy H4=>tip x y H4 λz H5=>tset o i z H5 λH6=>D.nx σ H6
def PGet (X:Cx) (t:V->V->Hp->VK->Prop):Prop:=
 ∀(pins:List (Addr × Obj)) (s:Shared) (σ:St) (H:Hp) (o i:V) (ov iv:Value) (Q:VK),Inv X pins σ H s->RelV o ov->RelV i iv->t o i H Q →
  wpAny (model X.prog X.w) X.A (getItem ov iv) (EP X pins σ Q) X.xe s
theorem Zsp {o i e:Expr}{to ti te:TE}{tget:V->V->Hp->VK->Prop}{tip:TIp}{tset:TSet}{op:Operator}{tpos:Pos}(ho:PE X o to) (hi:PE X i ti) (hg:PGet X tget) (he:PE X e te) (hp:PIp X op tip) (hs:PSet X tset)
  (ha:∀ov iv new,augStore i ov iv new=(do holding [new,ov,iv] (setItem ov iv new);release [new,ov,iv] [];pure .next):=by intros;rfl):PS X (.AugAssign (.Subscript o i tpos) op e pos) (tAugS to ti te tget tip tset):=by
 intro pins s σ H D I h;refine wpAny_AugAssign_SubscriptAny (thn (ho pins s σ H _ I h) λov s1 ⟨x1,H1,I1,r1,q1⟩=>?_) ha;refine thn (hi pins s1 σ H1 _ I1 q1) λiv s2 ⟨x2,H2,I2,r2,q2⟩=>?_;refine thn (hg pins s2 σ H2 x1 x2 ov iv _ I2 r1 r2 q2) λold s3 ⟨x3,H3,I3,r3,q3⟩=>?_;refine thn (he pins s3 σ H3 _ I3 q3) λv s4 ⟨x4,H4,I4,r4,q4⟩=>?_;refine thn (hp pins s4 σ H4 x3 x4 old v _ I4 r3 r4 q4) λnew s5 ⟨x5,H5,I5,r5,q5⟩=>?_;exact thn (hs pins s5 σ H5 x1 x2 x5 ov iv new _ I5 r1 r2 r5 q5) λ_ s6 ⟨H6,I6,q6⟩=>⟨σ,H6,I6,q6⟩
def ipI (f:Int->Int->Int):TIp:=λx y H Q=>∃i j,x=.int i/\y=.int j/\Q (.int<|f i j) H
theorem Zuq:PIp X .Add (ipI λi j=>i+j):=by
 intro pins s σ H x y v u Q I r1 r2 h;obtain⟨i,j,e1,e2,q⟩:=h;subst e1;subst e2;obtain⟨t,rfl⟩:=r1;obtain⟨t',rfl⟩:=r2;exact iadd_int ⟨.int _,H,I.tok _,⟨_,rfl⟩,q⟩
def tWhile (c:TT) (tb:TS):TS:=λD σ H=>∃W:Nat->St->Hp->Prop,(∃m,W m σ H)/\∀m σ H,W m σ H →
 c σ H λb H1=>if b=true then ∃N:St->Hp->Prop,(∀σ' H',N σ' H' -> ∃m',m'<m/\W m' σ' H')/\tb { D with nx:=N,ct:=N,bk:=D.nx } σ H1 else D.nx σ H1
theorem Zid {c:Expr}{body:List Stmt}{tc:TT}{tb:TS}(hp:PassesOwn (model X.prog X.w) X.A X.env X.xe) (hc:PT X c tc) (hb:PSs X body tb):PS X (.While c body [] pos) (tWhile tc tb):=by
 intro pins s σ H D I h;obtain⟨W,⟨m0,w0⟩,turn⟩:=h;refine wpAny_While<|codeAny_whileLoop (λn s'=>∃σ' H',Inv X pins σ' H' s' /\ W n σ' H') ?_ m0 ⟨σ,H,I,w0⟩;rintro n s1 ⟨σ1,H1,I1,w1⟩;refine wpAny_passesOwn hp (thn (hc pins s1 σ1 H1 _ I1<|turn n σ1 H1 w1) λb s2 ⟨H2,I2,q2⟩=>?_);cases b with
 |true=>
  obtain⟨N,hN,q2⟩:=q2;rw[if_pos rfl];refine wpAny_passesOwn hp (thn (hb pins s2 σ1 H2 _ I2 q2) λf s3 q3=>?_);cases f with
  |next=>
   obtain⟨σ3,H3,I3,n3⟩:=q3;obtain⟨m',hm,w3⟩:=hN σ3 H3 n3;exact⟨m',hm,σ3,H3,I3,w3⟩
  |cont=>
   obtain⟨σ3,H3,I3,n3⟩:=q3;obtain⟨m',hm,w3⟩:=hN σ3 H3 n3;exact⟨m',hm,σ3,H3,I3,w3⟩
  |brk=>exact q3
  |ret v=>exact q3
 |false=>
  rw[if_neg Wal];exact wpAny_execs_nil ⟨σ1,H2,I2,q2⟩
end
structure It where
 go:Nat->Hp->Prop
 yld:Nat->Hp->V->Hp->Prop
 stop:Nat->Hp->Prop
def FpOk (X:Cx) (pins:List (Addr × Obj)) (H:Hp) (b:Addr):Prop:=
 H b=none/\b≠X.env.locals/\b ∉ X.fs/\(b∈X.ex\/X.s₀.heap.objs.size<=b)/\(∀x c,X.env.cells.lookup x=some c->c≠b)/\∀p∈X.pn++pins,p.1≠b
theorem Inv.fpOk {X:Cx}{pins:List (Addr × Obj)}{σ:St}{H H':Hp}{s:Shared}{b:Addr}(I:Inv X pins σ H s) (hb:s.heap.objs.size<=b) (hn:H' b=none):FpOk X pins H' b:=by
 refine⟨hn,Wci<|Wau I.lt hb,I.nofs hb,.inr<|Wa8 I.sz hb,λx c e z=>?_,λp hp z=>?_⟩
 ·obtain⟨v,q⟩:=I.cell x c e
  exact absurd (Wau q.lt (by rw[z];exact hb))<|Wb3 _
 ·exact absurd (Wau (Wai (I.pin p hp).1) (by rw[z];exact hb))<|Wb3 _
structure TurnG (Cm:Cx->Prop) (P:Program) (w:World) (K:W.Frag) (tg:Expr) (J:It) (fp:List Addr) (it:Addr) (tn:Nat->Heap->Prop):Prop where
 mem:it∈fp
 obj:∀i h,tn i h->∀b∈fp,∃o,h.get? b=some o/\∀v,o.data≠.cell v
 keep:∀i h h',tn i h->(∀b∈fp,∀o,h.get? b=some o->h'.get? b=some o)->tn i h'
 item:∀(X:Cx),X.prog=P->X.w=w->X.K=K->Cm X->∀(i:Nat) (pins:List (Addr × Obj)) (s:Shared) (σ:St) (H:Hp) (E:Value->Shared->Prop),Inv X pins σ H s->(∀b∈fp,FpOk X pins H b)->tn i s.heap->J.go i H →
  wpAny (model P w) X.A (pyNext (.ref it)) (λr s1=>∃u,r=some u ∧
   wpAny (model P w) X.A (letOwnedTupleGo tg (.ref it) u) (λ_ s2=>∃x H',Inv X pins σ H' s2/\RelV x u/\J.yld i H x H' /\ tn (i+1) s2.heap/\∀b∈fp,H' b=none) E s1) E s
 done:∀(X:Cx),X.prog=P->X.w=w->X.K=K->Cm X->∀(i:Nat) (pins:List (Addr × Obj)) (s:Shared) (σ:St) (H:Hp) (E:Value->Shared->Prop),Inv X pins σ H s->(∀b∈fp,FpOk X pins H b)->tn i s.heap->J.stop i H →
  wpAny (model P w) X.A (pyNext (.ref it)) (λr s1=>r=none/\Inv X pins σ H s1) E s
 self:∀(A:Around) (i:Nat) (s:Shared) (Q:Value->Shared->Prop) (E:Value->Shared->Prop),tn i s.heap->Q (.ref it) s->wpAny (model P w) A (pyIter (.ref it)) Q E s
abbrev Turn:=TurnG λX=>X.calm=true
abbrev TI:=St->Hp->(It->Hp->Prop)->Prop
def PIEG (Cm:Cx->Prop) (X:Cx) (pins:List (Addr × Obj)) (σ:St) (tg:Expr) (R:It->Hp->Prop) (itv:Value) (s2:Shared):Prop:=
 ∃(it:Addr) (fp:List Addr) (tn:Nat->Heap->Prop) (J:It) (H':Hp),itv=.ref it/\Inv X pins σ H' s2/\TurnG Cm X.prog X.w X.K tg J fp it tn/\tn 0 s2.heap/\(∀b∈fp,FpOk X pins H' b)/\R J H'
def PIG (Cm:Cx->Prop) (X:Cx) (tg iter:Expr) (wi:TI):Prop:=
 ∀(pins:List (Addr × Obj)) (s:Shared) (σ:St) (H:Hp) (R:It->Hp->Prop),Inv X pins σ H s->wi σ H R →
  wpAny (model X.prog X.w) X.A (eval iter X.env) (λv s1=>wpAny (model X.prog X.w) X.A (pyIter v) (PIEG Cm X pins σ tg R) X.xe s1) X.xe s
abbrev PIE:=PIEG λX=>X.calm=true
abbrev PI:=PIG λX=>X.calm=true
theorem Zp0 {M:Model}{A:Around}{E:Value->Shared->Prop}{s:Shared}{tg:Expr}{it:Addr}{u:Value}{o:Obj}{n:String}{vs:Array Value}{Q:Unit->Shared->Prop}(ho:s.heap.get? it=some o) (hc:o.cls=.type n) (hd:o.data=.fields vs)
  (hn:["enumerate","zip","dict_itemiterator","dict_reverseitemiterator","odict_iterator","itertools.zip_longest","itertools.pairwise"].contains n=false) (hQ:Q () s):wpAny M A (letOwnedTupleGo tg (.ref it) u) Q E s:=by
 unfold letOwnedTupleGo;cases tg <;> first
  |exact wpAny_pure hQ
  | (cases u <;> first
      |exact wpAny_pure hQ
      | (refine wpAny_bind (wpAny_load ho ?_)
         rw[hc,hd];show wpAny M A (if (["enumerate","zip","dict_itemiterator","dict_reverseitemiterator","odict_iterator","itertools.zip_longest","itertools.pairwise"].contains n && vs[0]? == some (rawInt _))=true then _ else _) Q E s;rw[if_neg (by intro h;rw[hn,Wcp]at h;cases h)];exact wpAny_pure hQ))
def Itl (K:W.Frag) (a:Addr):It:=
 ⟨λi H=>∃xs x,SqL K H a xs/\xs[i]?=some x,λi H x H'=>H'=H/\∀xs,SqL K H a xs->xs[i]?=some x,λi H=>∃xs,SqL K H a xs/\xs.length<=i⟩
def Itt (K:W.Frag) (a:Addr):It:=
 ⟨λi H=>∃xs x,SqT K H a xs/\xs[i]?=some x,λi H x H'=>H'=H/\∀xs,SqT K H a xs->xs[i]?=some x,λi H=>∃xs,SqT K H a xs/\xs.length<=i⟩
def Itr (lo:Int) (n:Nat):It:=⟨λi _=>i<n,λi H x H'=>H'=H/\x=.int (lo+i),λi _=>n<=i⟩
theorem Zeh {P:Program}{w:World}{K:W.Frag}{tg:Expr}(a it:Addr):Turn P w K tg (Itl K a) [it] it (λi h=>h.IsListIter it a i) where
 mem:=by simp
 obj:=λi h st b hb=>by
  have e:b=it:=by simpa using hb
  subst e;obtain⟨o,e,c,d⟩:=st;exact⟨o,e,λv z=>by rw[d]at z;cases z⟩
 keep:=λi h h' st k=>st.at λo e=>k it (by simp) o e
 item:=by
  intro X hP hw hK hc i pins s σ H E I hf st hg;subst hP hw hK;obtain⟨xs,x,hq,hx⟩:=hg;obtain⟨its,rv,p,hz⟩:=I.list hq;obtain⟨u,hu,ru⟩:=rv.get hx;obtain⟨f0,f1,f2,f3,f4,f5⟩:=hf it (by simp);refine wpAny_pyNext_list_item st p.isList (x:=u) (by simpa using hu) λh' st' sb=>?_;have I1:Inv X pins σ H { s with heap:=h' }:=I.turned (t':=s.toks) (λb o hb e=>(sb.2 b hb).trans e) f0 f1 f3 f4 f5;obtain⟨o,e,c,d⟩:=id st';exact⟨u,rfl,Zp0 (s:={ s with heap:=h' }) e c d (by decide) ⟨x,H,I1,ru,⟨rfl,λys hy=>by rw[I.list_inj hy hq];exact hx⟩,st',λb hb=>(hf b hb).1⟩⟩
 done:=by
  intro X hP hw hK hc i pins s σ H E I hf st hg;subst hP hw hK;obtain⟨xs,hq,hx⟩:=hg;obtain⟨its,rv,p,hz⟩:=I.list hq;obtain⟨f0,f1,f2,f3,f4,f5⟩:=hf it (by simp);have hl:=rv.length;exact wpAny_pyNext_list_end (I.ok.hd hc) st p.isList (by simp;omega) λh' eb=>⟨rfl,I.turned (t':=s.toks) (λb o hb e=>eb b o hb e) f0 f1 f3 f4 f5⟩
 self:=λ_ _ _ _ _ st h=>wpAny_pyIter_listiter st h
theorem Zlz {P:Program}{w:World}{K:W.Frag}{tg:Expr}(a it:Addr):Turn P w K tg (Itt K a) [it] it (λi h=>h.IsTupleIter it a i) where
 mem:=by simp
 obj:=λi h st b hb=>by
  have e:b=it:=by simpa using hb
  subst e;obtain⟨o,e,c,d⟩:=st;exact⟨o,e,λv z=>by rw[d]at z;cases z⟩
 keep:=λi h h' st k=>st.at λo e=>k it (by simp) o e
 item:=by
  intro X hP hw hK hc i pins s σ H E I hf st hg;subst hP hw hK;obtain⟨xs,x,hq,hx⟩:=hg;obtain⟨its,rv,p,hz⟩:=I.tuple hq;obtain⟨u,hu,ru⟩:=rv.get hx;obtain⟨f0,f1,f2,f3,f4,f5⟩:=hf it (by simp);refine wpAny_pyNext_tuple_item st (show s.heap.IsTuple a its.toArray from p) (x:=u) (by simpa using hu) λh' st' sb=>?_;have I1:Inv X pins σ H { s with heap:=h' }:=I.turned (t':=s.toks) (λb o hb e=>(sb.2 b hb).trans e) f0 f1 f3 f4 f5;obtain⟨o,e,c,d⟩:=id st';exact⟨u,rfl,Zp0 (s:={ s with heap:=h' }) e c d (by decide) ⟨x,H,I1,ru,⟨rfl,λys hy=>by rw[I.tuple_inj hy hq];exact hx⟩,st',λb hb=>(hf b hb).1⟩⟩
 done:=by
  intro X hP hw hK hc i pins s σ H E I hf st hg;subst hP hw hK;obtain⟨xs,hq,hx⟩:=hg;obtain⟨its,rv,p,hz⟩:=I.tuple hq;obtain⟨f0,f1,f2,f3,f4,f5⟩:=hf it (by simp);have hl:=rv.length;exact wpAny_pyNext_tuple_end (I.ok.hd hc) st (show s.heap.IsTuple a its.toArray from p) (by simp;omega) λh' eb=>⟨rfl,I.turned (t':=s.toks) (λb o hb e=>eb b o hb e) f0 f1 f3 f4 f5⟩
 self:=λ_ _ _ _ _ st h=>wpAny_pyIter_tupleiter st h
theorem Zl5 {P:Program}{w:World}{K:W.Frag}{tg:Expr}(it:Addr) (lo:Int) (n:Nat):Turn P w K tg (Itr lo n) [it] it (λi h=>IsRangeIter h it (lo+(i:Nat)*1) ((n:Int)-(i:Nat)) 1) where
 mem:=by simp
 obj:=λi h st b hb=>by
  have e:b=it:=by simpa using hb
  subst e;exact⟨_,st,λv z=>by
   have z':Data.fields _=Data.cell v:=z;cases z'⟩
 keep:=λi h h' st k=>k it (by simp) _ st
 item:=by
  intro X hP hw hK hc i pins s σ H E I hf st hg;subst hP hw hK;obtain⟨f0,f1,f2,f3,f4,f5⟩:=hf it (by simp);have W:=Walks.range (prog:=X.prog) (w:=X.w) (I.ok.hd hc) it lo 1 n;refine W.item i s _ _ hg st λv h' tk hv st' kk=>?_;obtain⟨t,rfl⟩:=hv;have I1:Inv X pins σ H { s with heap:=h',toks:=tk }:=I.turned (λb o hb e=>kk b o (by simpa using hb) e) f0 f1 f3 f4 f5;refine⟨_,rfl,Zp0 (s:={ s with heap:=h',toks:=tk }) (n:="range_iterator") st' rfl rfl (by decide) ⟨.int<|lo+i,H,I1,⟨t,?_⟩,⟨rfl,rfl⟩,st',λb hb=>(hf b hb).1⟩⟩;rw[Int.mul_one]
 done:=by
  intro X hP hw hK hc i pins s σ H E I hf st hg;subst hP hw hK;obtain⟨f0,f1,f2,f3,f4,f5⟩:=hf it (by simp);exact wpAny_pyNext_range_end (I.ok.hd hc) st (by have:n<=i:=hg;omega) λh' eb=>⟨rfl,I.turned (t':=s.toks) (λb o hb e=>eb b o hb e) f0 f1 f3 f4 f5⟩
 self:=λ_ _ _ _ _ st h=>wpAny_pyIter_rangeiter st h
end L2
namespace L2
open PySem PySem.Spec PyProof.Rows
section
variable {X:Cx}{tg:Expr}
def iList (K:W.Frag) (tl:TE):TI:=λσ H R=>tl σ H λx H1=>∃a,x=.ref a/\(∃xs,SqL K H1 a xs)/\R (Itl K a) H1
def iTup (K:W.Frag) (tl:TE):TI:=λσ H R=>tl σ H λx H1=>∃a,x=.ref a/\(∃xs,SqT K H1 a xs)/\R (Itt K a) H1
theorem Zr6 {l:Expr}{tl:TE}(hl:PE X l tl):PI X tg l (iList X.K tl):=by
 intro pins s σ H R I h;refine thn (hl pins s σ H _ I h) λv s1 ⟨x,H1,I1,r1,q1⟩=>?_;obtain⟨a,e,⟨xs,hq⟩,q⟩:=q1;subst e;cases r1;obtain⟨its,rv,p,hz⟩:=I1.list hq;refine wpAny_pyIter_list p.isList ?_;refine⟨s1.heap.objs.size,[s1.heap.objs.size],_,_,H1,rfl,I1.kept (t':=s1.toks) λb o e=>Wab _ e,Zeh a _,⟨_,Wam _ rfl,rfl,rfl⟩,λb hb=>?_,q⟩;have e:b=s1.heap.objs.size:=by simpa using hb
 subst e;exact I1.fpOk (Waf _)<|I1.hok.fresh<|Waf _
theorem Zv7 {l:Expr}{tl:TE}(hl:PE X l tl):PI X tg l (iTup X.K tl):=by
 intro pins s σ H R I h;refine thn (hl pins s σ H _ I h) λv s1 ⟨x,H1,I1,r1,q1⟩=>?_;obtain⟨a,e,⟨xs,hq⟩,q⟩:=q1;subst e;cases r1;obtain⟨its,rv,p,hz⟩:=I1.tuple hq;refine wpAny_pyIter_tuple (show s1.heap.IsTuple a its.toArray from p) ?_;refine⟨s1.heap.objs.size,[s1.heap.objs.size],_,_,H1,rfl,I1.kept (t':=s1.toks) λb o e=>Wab _ e,Zlz a _,⟨_,Wam _ rfl,rfl,rfl⟩,λb hb=>?_,q⟩;have e:b=s1.heap.objs.size:=by simpa using hb
 subst e;exact I1.fpOk (Waf _)<|I1.hok.fresh<|Waf _
theorem range_it {pins:List (Addr × Obj)}{σ:St}{H:Hp}{s:Shared}{R:It->Hp->Prop}{E:Value->Shared->Prop}{lo hi:Int}{t u v:Tok}{tk:Nat}(I:Inv X pins σ H s) (h1:-(2 ^ 62)<=lo) (h2:lo<2 ^ 62) (h3:-(2 ^ 62)<=hi) (h4:hi<2 ^ 62)
  (q:R (Itr lo (hi-lo).toNat) H):wpAny (model X.prog X.w) X.A (pyIter (.ref s.heap.objs.size)) (PIE X pins σ tg R) E { s with heap:=s.heap.push { cls:=.type "range",data:=.fields #[.int lo t,.int hi u,.int 1 v] },toks:=tk }:=by
 refine wpAny_pyIter_range (IsRange.new ..) (small_one h1 h2 h3 h4) ?_;have I1:Inv X pins σ H { s with heap:=s.heap.push { cls:=.type "range",data:=.fields #[.int lo t,.int hi u,.int 1 v] },toks:=tk }:=I.kept λb o e=>Wab _ e;refine⟨(s.heap.push { cls:=.type "range",data:=.fields #[.int lo t,.int hi u,.int 1 v] }).objs.size,[(s.heap.push { cls:=.type "range",data:=.fields #[.int lo t,.int hi u,.int 1 v] }).objs.size],_,_,H,rfl,
  I1.kept (t':=tk) λb o e=>Wab _ e,Zl5 _ lo (hi-lo).toNat,?_,λb hb=>?_,q⟩
 ·have e1:lo+((0:Nat):Int)*1=lo:=by simp
  have e2:(((hi-lo).toNat:Nat):Int)-((0:Nat):Int)=Builtin.Range.rangeSize lo hi 1:=by rw[rangeSize_one];split <;> omega
  show IsRangeIter _ _ (lo+((0:Nat):Int)*1) ((((hi-lo).toNat:Nat):Int)-((0:Nat):Int)) 1;rw[e1,e2];exact Wam _ rfl
 ·have e:b=(s.heap.push { cls:=.type "range",data:=.fields #[.int lo t,.int hi u,.int 1 v] }).objs.size:=by simpa using hb
  subst e;exact I1.fpOk (Waf _)<|I1.hok.fresh<|Waf _
def iRng1 (ta:TA):TI:=λσ H R=>ta σ H λvs H1=>∃j:Int,vs=[.int j] /\ -(2 ^ 62)<=j/\j<2 ^ 62/\R (Itr 0 j.toNat) H1
def iRng2 (ta:TA):TI:=λσ H R=>ta σ H λvs H1=>∃i j:Int,vs=[.int i,.int j]/\(-(2 ^ 62)<=i/\i<2 ^ 62 /\ -(2 ^ 62)<=j/\j<2 ^ 62)/\R (Itr i (j-i).toNat) H1
theorem Za8 {a:Expr}{ta:TA}{p pos:Pos}(hg:Gl X "range") (hm:X.mg "range" = none) (ha:PA X [a] ta) (hs:starEach [a] X.env=[(false,eval a X.env)]:=by rfl):PI X tg (.Call (.Name "range" p) [a] [] pos) (iRng1 ta):=by
 intro pins s σ H R I h;refine Call_<|Zdw I hg hm boot_range<|PyProof.Rows.callWith_type1 (thn (ha pos pins s σ H _ I h) λus s1 ⟨vs,H1,I1,r1,q1⟩=>?_) hs rfl;obtain⟨j,e,q1,q2,q⟩:=q1;subst e;cases r1 with
 |cons r rr=>
  cases rr;obtain⟨t,rfl⟩:=r;exact call_range_1<|range_it I1 (by omega) (by omega) q1 q2 (by simpa using q)
theorem Zi6 {a b:Expr}{ta:TA}{p pos:Pos}(hg:Gl X "range") (hm:X.mg "range" = none) (ha:PA X [a,b] ta) (hs:starEach [a,b] X.env=[(false,eval a X.env),(false,eval b X.env)]:=by rfl) (hs2:starEach [b] X.env=[(false,eval b X.env)]:=by rfl) :
  PI X tg (.Call (.Name "range" p) [a,b] [] pos) (iRng2 ta):=by
 intro pins s σ H R I h;refine Call_<|Zdw I hg hm boot_range<|PyProof.Rows.callWith_type1 (thn (ha pos pins s σ H _ I h) λus s1 ⟨vs,H1,I1,r1,q1⟩=>?_) (by rw[hs,hs2]) (by rw[hs2];rfl);obtain⟨i,j,e,⟨q1,q2,q3,q4⟩,q⟩:=q1;subst e;cases r1 with
 |cons r rr=>
  cases rr with
  |cons r' rr=>
   cases rr;obtain⟨t,rfl⟩:=r;obtain⟨t',rfl⟩:=r';exact call_range_2<|range_it I1 q1 q2 q3 q4 q
def tFor (wi:TI) (g:TG) (tb:TS):TS:=λD σ H=>wi σ H λJ H1=>∃W:Nat->Nat->St->Hp->Prop,(∃m,W 0 m σ H1)/\∀i m σ H,W i m σ H →
 (J.stop i H/\D.nx σ H)\/(J.go i H/\∃N:St->Hp->Prop,(∀σ' H',N σ' H' -> ∃m',m'<m/\W (i+1) m' σ' H')/\∀x H',J.yld i H x H' -> g x σ H' λσ2 H2=>tb { D with nx:=N,ct:=N,bk:=D.nx } σ2 H2)
def pinsAt (fp:List Addr) (h:Heap):List (Addr × Obj):=fp.filterMap λb=>(h.get? b).map λo=>(b,o)
theorem Zb0 {fp:List Addr}{h:Heap}{b:Addr}{o:Obj}(hb:b∈fp) (e:h.get? b=some o):(b,o)∈pinsAt fp h:=List.mem_filterMap.mpr ⟨b,hb,by rw[e];rfl⟩
theorem Zn5 {fp:List Addr}{h:Heap}{p:Addr × Obj}(hp:p∈pinsAt fp h):p.1∈fp/\h.get? p.1=some p.2:=by
 obtain⟨b,hb,e⟩:=List.mem_filterMap.mp hp;cases q:h.get? b with
 |none=>rw[q]at e;cases e
 |some o=>
  rw[q]at e;have e':(b,o)=p:=Wa5.inj e;subst e';exact⟨hb,q⟩
theorem Inv.pinned {pins:List (Addr × Obj)}{σ:St}{H:Hp}{s:Shared}{fp:List Addr}(I:Inv X pins σ H s) (hf:∀b∈fp,FpOk X pins H b) (ho:∀b∈fp,∃o,s.heap.get? b=some o/\∀v,o.data≠.cell v):Inv X (pins++pinsAt fp s.heap) σ H s:=
 I.pins_of λp hp=>(Wbn.mp hp).elim (λz=>I.pin p<|Waw _ z) λz=>by
  obtain⟨hb,e⟩:=Zn5 z;obtain⟨f0,f1,f2,_⟩:=hf p.1 hb;obtain⟨o,e',d⟩:=ho p.1 hb;rw[e]at e';cases e';exact⟨e,f0,f1,f2,d⟩
theorem Inv.unpinned {pins pl:List (Addr × Obj)}{σ:St}{H:Hp}{s:Shared}(I:Inv X (pins++pl) σ H s):Inv X pins σ H s:=I.pins_of λp hp=>I.pin p<|Waw _<|Wcm _ hp
theorem Zc1 {iter:Expr}{body:List Stmt}{wi:TI}{g:TG}{tb:TS}{pos:Pos}(hp:PassesOwn (model X.prog X.w) X.A X.env X.xe) (hc:X.calm=true) (hi:PI X tg iter wi) (hg:PG X tg g) (hb:PSs X body tb)
  (hs:∀x,foldedSetIterable iter X.env x=pure x:=by intro _;rfl):PS X (.For tg iter body [] pos) (tFor wi g tb):=by
 intro pins s σ H D I h;refine wpAny_For (thn (hi pins s σ H _ I h) λv s1 h1=>thn h1 λitv s2 h2=>?_) hs;obtain⟨it,fp,tn,J,H2,e,I2,T,st2,f2,W,⟨m0,w0⟩,turn⟩:=h2;subst e
 -- what stays true of the iterator's objects through the loop
 have stat:∀{H':Hp},(∀b∈fp,H' b=none)->∀b∈fp,FpOk X pins H' b:=λhn b hb=>⟨hn b hb,(f2 b hb).2⟩;refine codeAny_forLoop_any (λn s'=>∃i σ' H',Inv X pins σ' H' s' /\ tn i s'.heap/\(∀b∈fp,H' b=none)/\W i n σ' H') ?_ m0 ⟨0,σ,H2,I2,st2,λb hb=>(f2 b hb).1,w0⟩;rintro n s3 ⟨i,σ3,H3,I3,st3,fr3,w3⟩;rcases turn i n σ3 H3 w3 with ⟨stop,qn⟩|⟨go,N,hN,step⟩
 ·refine wpAny_passesOwn hp (thn (T.done X rfl rfl rfl hc i pins s3 σ3 H3 X.xe I3 (stat fr3) st3 stop) λr s4 ⟨hr,I4⟩=>?_)
  subst hr;exact wpAny_execs_nil ⟨σ3,H3,I4,qn⟩
 ·refine wpAny_passesOwn hp (thn (T.item X rfl rfl rfl hc i pins s3 σ3 H3 X.xe I3 (stat fr3) st3 go) λr s4 ⟨u,hr,h4⟩=>?_)
  subst hr;refine wpAny_passesOwn hp (thn h4 λ_ s5 ⟨x,H5,I5,r5,y5,st5,fr5⟩=>?_);have I5':=I5.pinned (stat fr5)<|T.obj _ _ st5;refine wpAny_passesOwn hp (thn (hg _ s5 σ3 H5 x u _ I5' r5<|step x H5 y5) λ_ s6 ⟨σ6,H6,I6,q6⟩=>?_);refine wpAny_passesOwn hp (thn (hb _ s6 σ6 H6 _ I6 q6) λf s7 q7=>?_);have again:∀{σ7:St}{H7:Hp},Inv X (pins++pinsAt fp s5.heap) σ7 H7 s7->N σ7 H7->∃m,m<n/\∃i σ' H',Inv X pins σ' H' s7/\tn i s7.heap/\(∀b∈fp,H' b=none)/\W i m σ' H':=λ{σ7 H7} I7 n7=>by
   obtain⟨m',hm,w7⟩:=hN σ7 H7 n7;refine⟨m',hm,i+1,σ7,H7,I7.unpinned,T.keep _ _ _ st5 λb hb o e=>(I7.pin (b,o)<|Waw _<|Waw _<|Zb0 hb e).1,λb hb=>?_,w7⟩;obtain⟨o,e,d⟩:=T.obj _ _ st5 b hb;exact(I7.pin (b,o)<|Waw _<|Waw _<|Zb0 hb e).2.1
  cases f with
  |next=>obtain⟨σ7,H7,I7,n7⟩:=q7;exact again I7 n7
  |cont=>obtain⟨σ7,H7,I7,n7⟩:=q7;exact again I7 n7
  |brk=>obtain⟨σ7,H7,I7,q7⟩:=q7;exact⟨σ7,H7,I7.unpinned,q7⟩
  |ret v=>obtain⟨x7,σ7,H7,I7,r7,q7⟩:=q7;exact⟨x7,σ7,H7,I7.unpinned,r7,q7⟩
end
end L2
namespace L2
open PySem PySem.Spec PyProof.Rows
abbrev R2:=V->V->Hp->VK->Prop
def OpR (X:Cx) (f:Value->Value->Sem Value) (r:R2):Prop:=
 ∀(pins:List (Addr × Obj)) (s:Shared) (σ:St) (H:Hp) (x y:V) (v u:Value) (Q:VK),Inv X pins σ H s->RelV x v->RelV y u->r x y H Q →
  wpAny (model X.prog X.w) X.A (f v u) (EP X pins σ Q) X.xe s
def CallR (X:Cx) (f:Value) (r:List V->Hp->VK->Prop):Prop:=
 ∀(pins:List (Addr × Obj)) (s:Shared) (σ:St) (H:Hp) (xs:List V) (us:List Value) (Q:VK),Inv X pins σ H s->Vals xs us->r xs H Q →
  wpAny (model X.prog X.w) X.A (call f us) (EP X pins σ Q) X.xe s
def TruR (X:Cx) (r:V->Hp->(Bool->Hp->Prop)->Prop):Prop:=
 ∀(pins:List (Addr × Obj)) (s:Shared) (σ:St) (H:Hp) (x:V) (v:Value) (Q:Bool->Hp->Prop),Inv X pins σ H s->RelV x v->r x H Q →
  wpAny (model X.prog X.w) X.A (truthy v) (TP X pins σ Q) X.xe s
def tOp (r:R2) (ta tb:TE):TE:=λσ H Q=>ta σ H λx H1=>tb σ H1 λy H2=>r x y H2 Q
def tUn (r:V->Hp->VK->Prop) (ta:TE):TE:=λσ H Q=>ta σ H λx H1=>r x H1 Q
def rI (C:Int->Int->Prop) (g:Int->Int->V):R2:=λx y H Q=>∃i j,x=.int i/\y=.int j/\C i j/\Q (g i j) H
def rI0 (g:Int->Int->V):R2:=λx y H Q=>∃i j,x=.int i/\y=.int j/\Q (g i j) H
section
variable {X:Cx}{a b c:Expr}{ta tb tc:TE}{pos:Pos}
theorem binT (ha:PE X a ta) (hb:PE X b tb) {pins:List (Addr × Obj)}{s:Shared}{σ:St}{H:Hp}{R:V->V->Hp->Prop}(I:Inv X pins σ H s)
  (h:ta σ H λx H1=>tb σ H1 λy H2=>R x y H2) {Q:Value->Shared->Prop}{f:Value->Value->Sem Value}
  (hf:∀v u s2 x y H2,Inv X pins σ H2 s2->RelV x v->RelV y u->R x y H2->wpAny (model X.prog X.w) X.A (f v u) Q X.xe s2) :
  wpAny (model X.prog X.w) X.A (eval a X.env) (λv s₁=>wpAny (model X.prog X.w) X.A (eval b X.env) (λu s₂=>wpAny (model X.prog X.w) X.A (f v u) Q X.xe s₂) X.xe s₁) X.xe s:=by
 refine thn (ha pins s σ H _ I h) λv s1 ⟨x,H1,I1,r1,q1⟩=>?_;refine thn (hb pins s1 σ H1 _ I1 q1) λu s2 ⟨y,H2,I2,r2,q2⟩=>?_;exact hf v u s2 x y H2 I2 r1 r2 q2
theorem Zaw {op:Operator}{r:R2}(ho:OpR X (binaryOp op) r) (ha:PE X a ta) (hb:PE X b tb):PE X (.BinOp a op b pos) (tOp r ta tb):=by
 intro pins s σ H Q I h;exact wpAny_BinOp (binT ha hb I h λv u s2 x y H2 I2 rx ry q=>ho pins s2 σ H2 x y v u Q I2 rx ry q)
theorem opI {f:Value->Value->Sem Value}{C:Int->Int->Prop}{g:Int->Int->Int}
  (rule:∀(i j:Int) (t u:Tok) (s:Shared) (Q:Value->Shared->Prop) (E:Value->Shared->Prop),C i j->Q (.int (g i j) s.toks) { s with toks:=s.toks+1 } -> wpAny (model X.prog X.w) X.A (f (.int i t) (.int j u)) Q E s) :
  OpR X f (rI C λi j=>.int<|g i j):=by
 intro pins s σ H x y v u Q I rx ry h;obtain⟨i,j,rfl,rfl,hc,q⟩:=h;obtain⟨t,rfl⟩:=rx;obtain⟨t',rfl⟩:=ry;exact rule i j t t' s _ _ hc ⟨.int<|g i j,H,I.tok _,⟨_,rfl⟩,q⟩
theorem opI0 {f:Value->Value->Sem Value}{g:Int->Int->Int}
  (rule:∀(i j:Int) (t u:Tok) (s:Shared) (Q:Value->Shared->Prop) (E:Value->Shared->Prop),Q (.int (g i j) s.toks) { s with toks:=s.toks+1 } -> wpAny (model X.prog X.w) X.A (f (.int i t) (.int j u)) Q E s) :
  OpR X f (rI0 λi j=>.int<|g i j):=by
 intro pins s σ H x y v u Q I rx ry h;obtain⟨i,j,rfl,rfl,q⟩:=h;obtain⟨t,rfl⟩:=rx;obtain⟨t',rfl⟩:=ry;exact rule i j t t' s _ _ ⟨.int<|g i j,H,I.tok _,⟨_,rfl⟩,q⟩
theorem opB0 {f:Value->Value->Sem Value}{g:Int->Int->Bool}
  (rule:∀(i j:Int) (t u:Tok) (s:Shared) (Q:Value->Shared->Prop) (E:Value->Shared->Prop),Q (.bool<|g i j) s->wpAny (model X.prog X.w) X.A (f (.int i t) (.int j u)) Q E s) :
  OpR X f (rI0 λi j=>.bl<|g i j):=by
 intro pins s σ H x y v u Q I rx ry h;obtain⟨i,j,rfl,rfl,q⟩:=h;obtain⟨t,rfl⟩:=rx;obtain⟨t',rfl⟩:=ry;exact rule i j t t' s _ _ ⟨.bl<|g i j,H,I,rfl,q⟩
def CDiv (i j:Int):Prop:=0<j/\j<1073741824
def CPow (i j:Int):Prop:=0<=j/\j<=1000000/\i.natAbs<2 ^ 64
def CMul (i j:Int):Prop:=(-(2 ^ 64)<i/\i<2 ^ 64)\/(-(2 ^ 64)<j/\j<2 ^ 64)
theorem CMul.ok {i j:Int}(h:CMul i j):IntMulOk i j:=by
 rcases h with ⟨h1,h2⟩|⟨h1,h2⟩
 ·exact .of_left<|intBits_le_64 h1 h2
 ·exact .of_right<|intBits_le_64 h1 h2
theorem Zuf:OpR X (binaryOp .Add) (rI0 λi j=>.int<|i+j):=opI0 λ_ _ _ _ _ _ _ q=>add_int q
theorem Zj5:OpR X (binaryOp .Sub) (rI0 λi j=>.int<|i-j):=opI0 λ_ _ _ _ _ _ _ q=>sub_int q
theorem Zdo:OpR X (binaryOp .Mult) (rI CMul λi j=>.int<|i*j):=opI λ_ _ _ _ _ _ _ hc q=>mul_int q hc.ok
theorem Zhm:OpR X (binaryOp .FloorDiv) (rI CDiv λi j=>.int<|i / j):=opI λi j _ _ _ _ _ hc q=>by
 have h1:(0:Int)<j:=hc.1;have h2:j<1073741824:=hc.2;exact floordiv_int (by omega) (by rw[Wc6 i (by omega)];exact q) (.inl<|PyProof.noPylong_small (by omega))
theorem Zck:OpR X (binaryOp .Mod) (rI (λ_ j=>0<j) λi j=>.int<|i % j):=opI λi j _ _ _ _ _ hc q=>by
 have h1:(0:Int)<j:=hc;exact mod_int' (by omega) (by rw[Int.fmod_eq_emod_of_nonneg i (by omega)];exact q)
theorem Zud:OpR X (binaryOp .Pow) (rI CPow λi j=>.int<|i ^ j.toNat):=opI λ_ _ _ _ _ _ _ hc q=>pow_int_small hc.1 hc.2.1 hc.2.2 q
theorem Zvt:OpR X (binaryOp .BitXor) (rI0 λi j=>.int<|Builtin.bitXor i j):=opI0 λ_ _ _ _ _ _ _ q=>xor_int q
end
def scal:V->V->Bool
 |.non,.non=>true|.non,.int _=>true|.int _,.non=>true|.non,.bl _=>true|.bl _,.non=>true|.non,.str _=>true|.str _,.non=>true
 |.int _,.int _=>true|.bl _,.bl _=>true|.str _,.str _=>true|.byt _,.byt _=>true
 |.int _,.str _=>true|.str _,.int _=>true|.bl _,.str _=>true|.str _,.bl _=>true
 |_,_=>false
def rEq:R2:=λx y H Q=>scal x y=true/\Q (.bl<|decide (x=y)) H
def rNe:R2:=λx y H Q=>scal x y=true/\Q (.bl (!decide (x=y))) H
theorem Zhz {i j:Int}:decide (V.int i=V.int j)=(i == j):=by
 rw[Wdj];simp
theorem Zrb {i j:Bool}:decide (V.bl i=V.bl j)=(i == j):=by
 rw[Wdj];simp
theorem Znx {i j:Str}:decide (V.str i=V.str j)=(i == j):=by
 rw[Wdj];simp
theorem Zm3 {i j:Array UInt8}:decide (V.byt i=V.byt j)=(i.toList == j.toList):=by
 rw[Wdj];cases i;cases j;simp
section
variable {X:Cx}{a b c:Expr}{ta tb tc:TE}{pos:Pos}
theorem Za3 {pins:List (Addr × Obj)}{σ:St}{H:Hp}{s:Shared}{Q:VK}{k k':Bool}(I:Inv X pins σ H s) (q:Q (.bl k) H) (e:k=k'):EP X pins σ Q (.bool k') s:=by
 subst e;exact⟨.bl k,H,I,rfl,q⟩
theorem Zwl:OpR X (compareOp .Eq) rEq:=by
 intro pins s σ H x y v u Q I rx ry h;obtain⟨hs,q⟩:=h;cases x with
 |non=>
  cases rx;cases y with
  |non=>cases ry;exact PySem.EqNone.eq_none_none (Za3 I q (by simp))
  |bl j=>cases ry;exact PySem.EqNone.eq_none_bool (Za3 I q (by simp))
  |int j=>obtain⟨t',rfl⟩:=ry;exact PySem.EqNone.eq_none_int (Za3 I q (by simp))
  |str j=>obtain⟨t',rfl⟩:=ry;exact PySem.EqNone.eq_none_str (Za3 I q (by simp))
  |_=>exact absurd (show false=true from hs) Wal
 |bl i=>
  cases rx;cases y with
  |non=>cases ry;exact PySem.EqNone.eq_bool_none (Za3 I q (by simp))
  |bl j=>cases ry;exact eq_bool (Za3 I q Zrb)
  |str j=>obtain⟨t',rfl⟩:=ry;exact PySem.EqMixed.eq_bool_str (Za3 I q (by simp))
  |_=>exact absurd (show false=true from hs) Wal
 |int i=>
  obtain⟨t,rfl⟩:=rx;cases y with
  |non=>cases ry;exact PySem.EqNone.eq_int_none (Za3 I q (by simp))
  |int j=>obtain⟨t',rfl⟩:=ry;exact eq_int (Za3 I q Zhz)
  |str j=>obtain⟨t',rfl⟩:=ry;exact PySem.EqMixed.eq_int_str (Za3 I q (by simp))
  |_=>exact absurd (show false=true from hs) Wal
 |str i=>
  obtain⟨t,rfl⟩:=rx;cases y with
  |non=>cases ry;exact PySem.EqNone.eq_str_none (Za3 I q (by simp))
  |bl j=>cases ry;exact PySem.EqMixed.eq_str_bool (Za3 I q (by simp))
  |int j=>obtain⟨t',rfl⟩:=ry;exact PySem.EqMixed.eq_str_int (Za3 I q (by simp))
  |str j=>obtain⟨t',rfl⟩:=ry;exact eq_str (Za3 I q Znx)
  |_=>exact absurd (show false=true from hs) Wal
 |byt i=>
  obtain⟨t,rfl⟩:=rx;cases y with
  |byt j=>obtain⟨t',rfl⟩:=ry;exact PySem.W.eq_bytes (Za3 I q Zm3)
  |_=>exact absurd (show false=true from hs) Wal
 |_=>cases y <;> exact absurd (show false=true from hs) Wal
theorem Zwr:OpR X (compareOp .NotEq) rNe:=by
 intro pins s σ H x y v u Q I rx ry h;obtain⟨hs,q⟩:=h;cases x with
 |non=>
  cases rx;cases y with
  |non=>cases ry;exact PySem.EqNone.ne_none_none (Za3 I q (by simp))
  |bl j=>cases ry;exact PySem.EqNone.ne_none_bool (Za3 I q (by simp))
  |int j=>obtain⟨t',rfl⟩:=ry;exact PySem.EqNone.ne_none_int (Za3 I q (by simp))
  |str j=>obtain⟨t',rfl⟩:=ry;exact PySem.EqNone.ne_none_str (Za3 I q (by simp))
  |_=>exact absurd (show false=true from hs) Wal
 |bl i=>
  cases rx;cases y with
  |non=>cases ry;exact PySem.EqNone.ne_bool_none (Za3 I q (by simp))
  |bl j=>cases ry;exact ne_bool (Za3 I q (congrArg not Zrb))
  |str j=>obtain⟨t',rfl⟩:=ry;exact PySem.EqMixed.ne_bool_str (Za3 I q (by simp))
  |_=>exact absurd (show false=true from hs) Wal
 |int i=>
  obtain⟨t,rfl⟩:=rx;cases y with
  |non=>cases ry;exact PySem.EqNone.ne_int_none (Za3 I q (by simp))
  |int j=>obtain⟨t',rfl⟩:=ry;exact ne_int (Za3 I q (congrArg not Zhz))
  |str j=>obtain⟨t',rfl⟩:=ry;exact PySem.EqMixed.ne_int_str (Za3 I q (by simp))
  |_=>exact absurd (show false=true from hs) Wal
 |str i=>
  obtain⟨t,rfl⟩:=rx;cases y with
  |non=>cases ry;exact PySem.EqNone.ne_str_none (Za3 I q (by simp))
  |bl j=>cases ry;exact PySem.EqMixed.ne_str_bool (Za3 I q (by simp))
  |int j=>obtain⟨t',rfl⟩:=ry;exact PySem.EqMixed.ne_str_int (Za3 I q (by simp))
  |str j=>obtain⟨t',rfl⟩:=ry;exact ne_str (Za3 I q (congrArg not Znx))
  |_=>exact absurd (show false=true from hs) Wal
 |byt i=>
  obtain⟨t,rfl⟩:=rx;cases y with
  |byt j=>obtain⟨t',rfl⟩:=ry;exact PySem.W.ne_bytes (Za3 I q (congrArg not Zm3))
  |_=>exact absurd (show false=true from hs) Wal
 |_=>cases y <;> exact absurd (show false=true from hs) Wal
theorem Zwk:OpR X (compareOp .Lt) (rI0 λi j=>.bl<|decide (i<j)):=opB0 λ_ _ _ _ _ _ _ q=>lt_int q
theorem Zwp:OpR X (compareOp .LtE) (rI0 λi j=>.bl<|decide (i<=j)):=opB0 λ_ _ _ _ _ _ _ q=>le_int q
theorem Zlc:OpR X (compareOp .Gt) (rI0 λi j=>.bl<|decide (j<i)):=opB0 λ_ _ _ _ _ _ _ q=>gt_int q
theorem Zw0:OpR X (compareOp .GtE) (rI0 λi j=>.bl<|decide (j<=i)):=opB0 λ_ _ _ _ _ _ _ q=>ge_int q
theorem OpR.or {f:Value->Value->Sem Value}{r r':R2}(h:OpR X f r) (h':OpR X f r'):OpR X f (λx y H Q=>r x y H Q\/r' x y H Q):=by
 intro pins s σ H x y v u Q I rx ry q;rcases q with q|q
 ·exact h pins s σ H x y v u Q I rx ry q
 ·exact h' pins s σ H x y v u Q I rx ry q
theorem nomark (b:Expr) {op:CmpOp}(h:op≠.In:=by decide) (h2:op≠.NotIn:=by decide):behindInMarks op b=false:=by
 have e1:(op == CmpOp.In)=false:=by cases op <;> first|rfl|exact absurd rfl h
 have e2:(op == CmpOp.NotIn)=false:=by cases op <;> first|rfl|exact absurd rfl h2
 cases b <;> simp[behindInMarks,e1,e2]
theorem Zmk {op:CmpOp}{r:R2}(ho:OpR X (compareOp op) r) (ha:PE X a ta) (hb:PE X b tb) (hm:behindInMarks op b=false):PE X (.Compare a [op] [b] pos) (tOp r ta tb):=by
 intro pins s σ H Q I h;exact wpAny_Compare1 (binT ha hb I h λv u s2 x y H2 I2 rx ry q=>ho pins s2 σ H2 x y v u Q I2 rx ry q) hm
def tTest (t:TE):TT:=λσ H Q=>t σ H λx H'=>∃k,x=.bl k/\Q k H'
theorem Za0 {op:CmpOp}{r:R2}(ho:OpR X (compareOp op) r) (ha:PE X a ta) (hb:PE X b tb) (hm:behindInMarks op b=false):PT X (.Compare a [op] [b] pos) (tTest<|tOp r ta tb):=by
 intro pins s σ H Q I h;refine wpAny_isTrue_Compare1 (thn (ha pins s σ H _ I h) λv s1 ⟨x,H1,I1,r1,q1⟩=>thn (hb pins s1 σ H1 _ I1 q1) λu s2 ⟨y,H2,I2,r2,q2⟩=>
  thn (ho pins s2 σ H2 x y v u _ I2 r1 r2 q2) λc s3 ⟨z,H3,I3,r3,k,e,q3⟩=>?_) hm
 subst e;cases r3;exact wpAny_truthy_bool ⟨H3,I3,q3⟩
def TruV (K:W.Frag) (x:V) (H:Hp) (k:Bool):Prop:=
 match x with
 |.non=>k=false
 |.bl b=>k=b
 |.int i=>k=(i != 0)
 |.str y=>y.length<=sizeLine/\k=((y.length:Int) != 0)
 |.byt y=>y.size<=sizeLine/\k=((y.size:Int) != 0)
 |.ref p=>(∃xs,SqL K H p xs/\k = !xs.isEmpty)\/(∃xs,SqT K H p xs/\k = !xs.isEmpty)\/∃kvs,H p=some (.dK kvs)/\k = !kvs.isEmpty
 |_=>False
theorem Zl9 {κ:Type}{kvs:List (κ × V)}{vs:List (κ × Value)}(r:KV kvs vs):(!vs.isEmpty) = !kvs.isEmpty:=by
 cases r <;> rfl
theorem Zg4 {xs:List V}{its:List Value}(r:Vals xs its):(!its.toArray.isEmpty) = !xs.isEmpty:=by
 cases r <;> simp
theorem line63:(sizeLine:Nat)<2 ^ 63:=by rw[sizeLine_eq];decide
theorem Zv1:TruR X (λx H Q=>∃k,TruV X.K x H k/\Q k H):=by
 intro pins s σ H x v Q I rx h;obtain⟨k,e,q⟩:=h;have hl:=line63;have hs:sizeLine=16777216:=sizeLine_eq;cases x with
 |non=>
  cases rx;have e':k=false:=e;subst e';exact truthy_none ⟨H,I,q⟩
 |bl b=>
  cases rx;have e':k=b:=e;subst e';exact wpAny_truthy_bool ⟨H,I,q⟩
 |int i=>
  obtain⟨t,rfl⟩:=rx;have e':k=(i != 0):=e;subst e';exact PySem.P.truthy_int ⟨H,I,q⟩
 |str y=>
  obtain⟨t,rfl⟩:=rx;obtain⟨hy,e'⟩:y.length<=sizeLine/\k=((y.length:Int) != 0):=e;subst e';exact PySem.P.truthy_str (by omega) ⟨H,I.tok _,q⟩
 |byt y=>
  obtain⟨t,rfl⟩:=rx;obtain⟨hy,e'⟩:y.size<=sizeLine/\k=((y.size:Int) != 0):=e;subst e';exact PySem.W.truthy_bytes (by omega) ⟨H,I.tok _,q⟩
 |ref p=>
  cases rx;have e':(∃xs,SqL X.K H p xs/\k = !xs.isEmpty)\/(∃xs,SqT X.K H p xs/\k = !xs.isEmpty)\/∃kvs,H p=some (.dK kvs)/\k = !kvs.isEmpty:=e;rcases e' with ⟨xs,hx,e'⟩|⟨xs,hx,e'⟩|⟨kvs,hx,e'⟩
  ·subst e'
   obtain⟨its,r,pl,hz⟩:=I.list hx;have hlen:=r.length;exact wpAny_truthy_list pl.isList (by simp only[Wan];omega) ⟨H,I.tok _,by rw[Zg4 r];exact q⟩
  ·subst e'
   obtain⟨its,r,pl,hz⟩:=I.tuple hx;have hlen:=r.length;exact truthy_tuple pl (by simp only[Wan];omega) ⟨H,I.tok _,by rw[Zg4 r];exact q⟩
  ·subst e'
   obtain⟨hz,hS,vs,r,m⟩:kvs.length<=sizeLine/\(p == sysModules)=false/\∃vs,KV kvs vs/\s.heap.DictOf (mixKind X.prog X.w) p vs:=I.hok p _ hx;have hlen:kvs.length=vs.length:=Paired.length r;exact wpAny_truthy_dict hS m (by omega) ⟨H,I.tok _,by rw[Zl9 r];exact q⟩
 |_=>exact(show False from e).elim
theorem Zpk (ha:PE X a ta) (he:∀whole,isTrue a X.env whole=(do let v ← whole;standAt a.pos;holding [v] (truthy v))) :
  PT X a (λσ H Q=>ta σ H λx H'=>∃k,TruV X.K x H' k/\Q k H'):=by
 intro pins s σ H Q I h;exact isTrue_plain (thn (ha pins s σ H _ I h) λv s1 ⟨x,H1,I1,r1,q1⟩=>Zv1 pins s1 σ H1 x v Q I1 r1 q1)<|he _
theorem vals1 {x:V}{us:List Value}(r:Vals [x] us):∃u,us=[u]/\RelV x u:=by
 cases r with
 |cons r1 r2=>cases r2;exact⟨_,rfl,r1⟩
theorem vals2 {x y:V}{us:List Value}(r:Vals [x,y] us):∃u w',us=[u,w']/\RelV x u/\RelV y w':=by
 cases r with
 |cons r1 r2=>
  cases r2 with
  |cons r3 r4=>cases r4;exact⟨_,_,rfl,r1,r3⟩
theorem Zhd:CallR X (.builtin "abs") (λxs H Q=>∃i,xs=[.int i]/\Q (.int (if i<0 then -i else i)) H):=by
 intro pins s σ H xs us Q I r h;obtain⟨i,rfl,q⟩:=h;obtain⟨u,rfl,t,rfl⟩:=vals1 r;exact call_abs_int λu tk=>⟨.int (if i<0 then -i else i),H,I.tok _,⟨_,rfl⟩,q⟩
theorem Znw (hc:X.calm=true):CallR X (.builtin "max") (λxs H Q=>∃i j,xs=[.int i,.int j]/\Q (.int (if j > i then j else i)) H):=by
 intro pins s σ H xs us Q I r h;obtain⟨i,j,rfl,q⟩:=h;obtain⟨u,w',rfl,⟨t,rfl⟩,⟨t',rfl⟩⟩:=vals2 r;refine max_two_ints (I.ok.hd hc) λh' tk k=>⟨_,H,I.kept k,?_,q⟩;by_cases hj:j > i
 ·rw[if_pos hj,if_pos hj];exact⟨_,rfl⟩
 ·rw[if_neg hj,if_neg hj];exact⟨_,rfl⟩
theorem Zil (hc:X.calm=true):CallR X (.builtin "min") (λxs H Q=>∃i j,xs=[.int i,.int j]/\Q (.int (if j<i then j else i)) H):=by
 intro pins s σ H xs us Q I r h;obtain⟨i,j,rfl,q⟩:=h;obtain⟨u,w',rfl,⟨t,rfl⟩,⟨t',rfl⟩⟩:=vals2 r;refine min_two_ints (I.ok.hd hc) λh' tk k=>⟨_,H,I.kept k,?_,q⟩;by_cases hj:j<i
 ·rw[if_pos hj,if_pos hj];exact⟨_,rfl⟩
 ·rw[if_neg hj,if_neg hj];exact⟨_,rfl⟩
end
end L2
namespace L2
open PySem PySem.Spec PyProof.Rows
theorem RelO.some_of {v:V}{o:Option Value}(r:RelO (some v) o):∃u,o=some u/\RelV v u:=by
 cases o with
 |none=>exact(show False from r).elim
 |some u=>exact⟨u,rfl,r⟩
section
variable {X:Cx}{pins:List (Addr × Obj)}{σ:St}{H:Hp}{s:Shared}{a C dx:Addr}{fs:List (Str × V)}{f:Str}{v:V}{A:Around}{E:Value->Shared->Prop}
end
section
variable {X:Cx}{pins:List (Addr × Obj)}{σ:St}{H:Hp}{s:Shared}{A:Around}{E:Value->Shared->Prop}{Q:Value->Shared->Prop}{c:Value}{b:Bool}
end
end L2
namespace L2
open PySem PySem.Spec PyProof.Rows
structure Room (k:Nat) (A:Around):Prop where
 hd:A.handled=none
 dp:A.depth+3*k+5<recursionLimit
 un:A.units+16*k+200<cLine
 gd:A.guards=some []
theorem Room.mono {j k:Nat}{A:Around}(r:Room k A) (h:j<=k):Room j A:=⟨r.hd,by have:=r.dp;omega,by have:=r.un;omega,r.gd⟩
theorem Room.deeper {k:Nat}{A:Around}(r:Room (k+1) A) (env:Env):Room k (A.deeper env):=
 ⟨r.hd,by have:=r.dp;show A.depth+1+3*k+5<_;omega,by have:=r.un;show A.units+3+16*k+200<_;omega,r.gd⟩
theorem Room.depth {k:Nat}{A:Around}(r:Room k A):A.depth<recursionLimit:=by have:=r.dp;omega
theorem Room.units {k:Nat}{A:Around}(r:Room k A):A.units+64<cLine:=by have:=r.un;omega
def tNil:TA:=λ_ H Q=>Q [] H
def tCons (ta:TE) (tr:TA):TA:=λσ H Q=>ta σ H λx H1=>tr σ H1 λxs H2=>Q (x::xs) H2
section
variable {X:Cx}{e:Expr}{es:List Expr}{te:TE}{t:TA}{pos:Pos}
theorem Zab:PA X [] tNil:=λ_ _ _ _ H Q I h=>Calls.spliced_nil ⟨[],H,I,.nil,h⟩
theorem Zaa (ha:PE X e te) (hr:PA X es t) (hs:starEach (e::es) X.env=(false,eval e X.env)::starEach es X.env:=by rfl):PA X (e::es) (tCons te t):=by
 intro pos pins s σ H Q I h;rw[hs];show wpAny _ _ (spliced ((false,eval e X.env)::backTo pos (starEach es X.env))) _ _ s;refine Calls.spliced_cons (thn (ha pins s σ H _ I h) λu s1 ⟨x,H1,I1,r1,q1⟩=>?_);exact thn (hr pos pins s1 σ H1 _ I1 q1) λus s2 ⟨xs,H2,I2,r2,q2⟩=>⟨x::xs,H2,I2,.cons r1 r2,q2⟩
def tTup (t:TA):TE:=λσ H Q=>t σ H λxs H1=>xs.length<=sizeLine/\∀p,H1 p=none->Q (.ref p) (upd H1 p (.tup xs))
def tLst (t:TA):TE:=λσ H Q=>t σ H λxs H1=>xs.length<=sizeLine/\∀p,H1 p=none->Q (.ref p) (upd H1 p (.lst xs))
theorem Zam {x1} (h:PA X es t):PE X (.Tuple es x1 pos) (tTup t):=by
 intro pins s σ H Q I hq;refine wpAny_Tuple_spliced (thn (h pos pins s σ H _ I hq) λus s1 ⟨xs,H1,I1,r,z,q⟩=>⟨by rw[<- r.length];exact z,?_⟩);have hf:H1 s1.heap.objs.size=none:=I1.hok.fresh<|Waf _;refine⟨.ref s1.heap.objs.size,upd H1 s1.heap.objs.size (.tup xs),I1.laid (t':=s1.toks) (λb u e=>Wab _ e) (Waf _) ?_,rfl,q _ hf⟩;exact⟨z,us,r,⟨_,Wam _ rfl,⟨rfl,_,rfl⟩,rfl⟩⟩
theorem Zcq (h:PA X es t):PE X (.List es pos) (tLst t):=by
 intro pins s σ H Q I hq;refine wpAny_List_spliced (thn (h pos pins s σ H _ I hq) λus s1 ⟨xs,H1,I1,r,z,q⟩=>⟨by rw[<- r.length];exact z,?_⟩);have hf:H1 s1.heap.objs.size=none:=I1.hok.fresh<|Waf _;refine⟨.ref s1.heap.objs.size,upd H1 s1.heap.objs.size (.lst xs),I1.laid (t':=s1.toks) (λb u e=>Wab _ e) (Waf _) ?_,rfl,q _ hf⟩;exact⟨z,us,0,r,Wam _ rfl⟩
end
abbrev Sp:=List V->Hp->VK->XK->Prop
abbrev CXT:=List Env->Hp->Shared->XK->Value->Shared->Prop
structure Env0 (P:Program) (w:World) (K:W.Frag) (mg:Str->Option Value) (base:Heap) (A:Around) (outer:List Env) (s:Shared) (H:Hp):Prop where
 frames:A.frames=some outer
 mod:Mod K mg base
 bs:∀b o,base.get? b=some o->s.heap.get? b=some o/\H b=none
 bsz:base.objs.size<=s.heap.objs.size
 funs:s.heap.FunFrames base outer
 frf:∀b∈frs outer,H b=none
 hok:HOk P w H s.heap
 bare:AllBare s.gens
def CE (outer:List Env) (P:Program) (w:World) (H:Hp) (s:Shared) (Q:VK) (u:Value) (s':Shared):Prop:=
 ∃v H',s'.os=s.os/\AllBare s'.gens/\Un (frs outer) [] H H' s.heap s'.heap/\HOk P w H' s'.heap/\RelV v u/\Q v H'
def CR (CX:CXT) (outer:List Env) (P:Program) (w:World) (H:Hp) (s:Shared) (Q:VK) (E:XK) (r:Result) (s':Shared):Prop:=
 match r with
 |.ok (.ret u)=>CE outer P w H s Q u s'
 |.ok _=>False
 |.error e=>CX outer H s E e s'
structure FnOk (P:Program) (w:World) (K:W.Frag) (mg:Str->Option Value) (base:Heap) (CX:CXT) (k:Nat) (f:Addr) (fd:FuncData) (ps:List Str) (sp:Sp):Prop where
 len:∀vs H Q E,sp vs H Q E->vs.length=ps.length
 run:∀(A:Around) (outer:List Env) (s:Shared) (H:Hp) (args:Args) (us:List Value) (vs:List V) (Q:VK) (E:XK),Room k A->Env0 P w K mg base A outer s H->BindsTo s fd args (ps.zip us)->Vals vs us->sp vs H Q E →
  codeAny (model P w) A (.call (.ref f) args) (CR CX outer P w H s Q E) s
section
variable {X:Cx}{pins:List (Addr × Obj)}{σ:St}{H:Hp}{s s':Shared}
theorem Inv.env0 (I:Inv X pins σ H s):Env0 X.prog X.w X.K X.mg X.base X.A X.stack s H:=
 ⟨I.ok.frames,I.ok.mod,I.bs,Wa8 I.ok.bsz I.sz,I.stack,I.stkFree,I.hok,I.bare⟩
theorem Inv.after {Q:VK}{u:Value}(I:Inv X pins σ H s) (h:CE X.stack X.prog X.w H s Q u s'):EP X pins σ Q u s':=by
 obtain⟨v,H',os,bare,un,hok,r,q⟩:=h;obtain⟨hh,g,d,t,os'⟩:=s';obtain rfl:os'=s.os:=os;exact⟨v,H',I.call (h':=hh) (g':=g) (d':=d) (t':=t) (ch:=[]) un hok bare (λb z=>absurd z<|by simp),r,q⟩
end
def tCall (sp:Sp) (dvs:List V) (E:XK) (t:TA):TE:=λσ H Q=>t σ H λvs H1=>sp (vs++dvs) H1 Q E
def Binds (K:W.Frag) (fd:FuncData) (ps:List Str) (ds:List Value):Prop:=
 ∀(s:Shared) (us:List Value),K.In s.heap->(us++ds).length=ps.length->BindsTo s fd ⟨us,[]⟩ (ps.zip<|us++ds)
theorem Binds.all {K:W.Frag}{fd:FuncData}{ps:List Str}(h:∀us:List Value,us.length=ps.length->bindArgs fd ⟨us,[]⟩=pure (ps.zip us)):Binds K fd ps []:=λs us _ hl=>by
 rw[Wbb]at hl ⊢;exact .of_eq<|h us hl
def Passes (CX:CXT) (X:Cx) (E:XK):Prop:=∀(pins:List (Addr × Obj)) (σ:St) (H:Hp) (s:Shared) (e:Value) (s':Shared),Inv X pins σ H s->CX X.stack H s E e s' -> X.xe e s'
section
variable {X:Cx}{CX:CXT}{k:Nat}{f C:Addr}{fd:FuncData}{ps:List Str}{sp:Sp}{dvs:List V}{ds:List Value}{E:XK}{x m:Str}{p pos apos:Pos}{e o:Expr}{es:List Expr}{ta:TE}{t:TA}
theorem Zrn {pins:List (Addr × Obj)}{σ:St}{H:Hp}{s:Shared}{Q:VK}{us:List Value}{vs:List V}(F:FnOk X.prog X.w X.K X.mg X.base CX k f fd ps sp) (hr:Room k X.A) (hb:Binds X.K fd ps ds) (hd:Vals dvs ds) (hx:Passes CX X E)
  (I:Inv X pins σ H s) (r:Vals vs us) (h:sp (vs++dvs) H Q E):wpAny (model X.prog X.w) X.A (call (.ref f) us) (EP X pins σ Q) X.xe s:=by
 have r2:Vals (vs++dvs) (us++ds):=r.append hd;have hl:(us++ds).length=ps.length:=by rw[<- r2.length];exact F.len _ _ _ _ h
 refine wpAny_call (codeAny_mono (F.run X.A X.stack s H ⟨us,[]⟩ (us++ds) (vs++dvs) Q E hr I.env0 (hb s us I.kIn hl) r2 h) λr s' hq=>?_);cases r with
 |error e=>exact hx pins σ H s e s' I hq
 |ok fl=>
  cases fl with
  |ret u=>exact I.after hq
  |next=>exact False.elim hq
  |brk=>exact False.elim hq
  |cont=>exact False.elim hq
theorem Zoj (F:FnOk X.prog X.w X.K X.mg X.base CX k f fd ps sp) (hr:Room k X.A) (hg:Gl X x) (hm:X.mg x=some (.ref f)) (hk:W.keepIn X.K (.ref f)=true) (hb:Binds X.K fd ps ds) (hd:Vals dvs ds) (hx:Passes CX X E)
  (ha:PA X (e::es) t) (hdb:(x == ("__debug__":Str))=false:=by decide) (he:starEach (e::es) X.env=(false,eval e X.env)::starEach es X.env:=by rfl) (hpl:(backTo pos<|starEach es X.env).any (·.1)=false:=by rfl) :
  PE X (.Call (.Name x p) (e::es) [] pos) (tCall sp dvs E t):=by
 intro pins s σ H Q I h;refine wpAny_Call_Name_kw<|Zdz I hg hm ?_ hdb;refine PySem.W.callWith_K (h₀:=X.base) I.ok.mod.kin hk (thn (ha pos pins s σ H _ I h) λus s1 ⟨vs,H1,I1,r,q⟩=>⟨I1.kIn,?_⟩) he hpl;exact Zrn F hr hb hd hx I1 r q
end
section
variable {X:Cx}{CX:CXT}{k:Nat}{f C:Addr}{fd:FuncData}{ps ks:List Str}{sp:Sp}{E:XK}{x m:Str}{p pos apos kpos:Pos}{e o:Expr}{es:List Expr}{kws:List Keyword}{te ta:TE}{t tk:TA}{nm:Option Str}
variable {g:List Value->List Value->List Value}{gV:List V->List V->List V}
end
structure FnScope (N P:List Str) (sc:Scope):Prop where
 kind:sc.kind=.function
 co:sc.isCoroutine=false
 gen:sc.isGenerator=false
 nd:N.Nodup
 pre:N.take P.length=P
 par:∀x∈P,sc.names.lookup x=some .local\/sc.names.lookup x=some .cell
 nofree:∀y∈sc.names,y.2≠.free
theorem Ziq {kindOf:Str->Option NameKind}{x:Str}:∀{binds:List (Str × Value)}{m:Str->Option Value},(∀v,(x,v) ∉ binds)->bindL kindOf binds m x=m x
 |[],_,_=>rfl
 | (n,v)::r,m,h=>by
  unfold bindL;rw[Ziq λw hw=>h w (Way _ hw)];split
  ·have:x≠n:=by rintro rfl;exact h v Wbc
   simp[this]
  ·rfl
theorem Zjb {kindOf:Str->Option NameKind}{x:Str}:∀{binds:List (Str × Value)}{m:Str->Option Value},(∀v,(x,v) ∉ binds)->bindC kindOf binds m x=m x
 |[],_,_=>rfl
 | (n,v)::r,m,h=>by
  unfold bindC;rw[Zjb λw hw=>h w (Way _ hw)];split
  ·rfl
  ·have:x≠n:=by rintro rfl;exact h v Wbc
   simp[this]
theorem Zfe {kindOf:Str->Option NameKind}{x:Str}{v:Value}:∀{P:List Str}{vs:List Value}{i:Nat}{m:Str->Option Value},P.Nodup->P[i]?=some x->vs[i]?=some v->kindOf x=some .local →
  bindL kindOf (P.zip vs) m x=some v
 |[],_,_,_,_,h,_,_=>by simp at h
 |_::_,[],_,_,_,_,h,_=>by simp at h
 |p::P,w::vs,0,m,nd,h1,h2,hk=>by
  simp at h1 h2;subst h1;subst h2;show bindL kindOf ((p,w)::P.zip vs) m p=_;unfold bindL;rw[Ziq λv hv=>(Wcg.mp nd).1 (Wdf hv).1,if_pos hk];simp
 |p::P,w::vs,i+1,m,nd,h1,h2,hk=>by
  show bindL kindOf ((p,w)::P.zip vs) m x=_;unfold bindL;exact Zfe (i:=i) (Wcg.mp nd).2 (by simpa using h1) (by simpa using h2) hk
theorem Zf5 {kindOf:Str->Option NameKind}{x:Str}{v:Value}:∀{P:List Str}{vs:List Value}{i:Nat}{m:Str->Option Value},P.Nodup->P[i]?=some x->vs[i]?=some v->kindOf x≠some .local →
  bindC kindOf (P.zip vs) m x=some v
 |[],_,_,_,_,h,_,_=>by simp at h
 |_::_,[],_,_,_,_,h,_=>by simp at h
 |p::P,w::vs,0,m,nd,h1,h2,hk=>by
  simp at h1 h2;subst h1;subst h2;show bindC kindOf ((p,w)::P.zip vs) m p=_;unfold bindC;rw[Zjb λv hv=>(Wcg.mp nd).1 (Wdf hv).1,if_neg hk];simp
 |p::P,w::vs,i+1,m,nd,h1,h2,hk=>by
  show bindC kindOf ((p,w)::P.zip vs) m x=_;unfold bindC;exact Zf5 (i:=i) (Wcg.mp nd).2 (by simpa using h1) (by simpa using h2) hk
def start (N:List Str) (vs:List V):St:=vs.map some++Wae (N.length-vs.length) none
def cxOf (CX:CXT) (P:Program) (w:World) (K:W.Frag) (mg:Str->Option Value) (base:Heap) (N:List Str) (qual:Str) (scope:Scope) (f:Addr) (cd:Value) (A:Around) (outer:List Env) (s:Shared) (H:Hp) (E:XK):Cx where
 prog:=P
 w:=w
 K:=K
 mg:=mg
 base:=base
 A:=A.deeper<|envOfC qual scope s.heap.objs.size f cd
 N:=N
 s₀:=s
 H₀:=H
 env:=envOfC qual scope s.heap.objs.size f cd
 outer:=outer
 stack:=envOfC qual scope s.heap.objs.size f cd::outer
 ex:=[]
 calm:=true
 fn:=λ_=>true
 pn:=[]
 xe:=λe s'=>wpAny (model P w) (A.deeper<|envOfC qual scope s.heap.objs.size f cd) (leaving (envOfC qual scope s.heap.objs.size f cd) e) (λ_ s''=>CX outer H s E e s'') (λe' s''=>CX outer H s E e' s'') s'
theorem Ze8 {sc:Scope}{n:Nat}{x:Str}(h:sc.names.lookup x=some .cell):∃c,(cellsFrom n sc.names []).lookup x=some c:=by
 have q:=PySem.W.cellsFrom_some sc.names n [] (.inl h);exact Option.isSome_iff_exists.mp q
theorem Znc {CX:CXT}{P:Program}{w:World}{K:W.Frag}{mg:Str->Option Value}{base:Heap}{N ps:List Str}{qual:Str}{scope:Scope}{f:Addr}{cd:Value}{A:Around}{outer:List Env}{s s1:Shared}{H:Hp}{E:XK}{us:List Value}{vs:List V}
  (S:FnScope N ps scope) (hd:A.handled=none) (e0:Env0 P w K mg base A outer s H) (hl:vs.length=ps.length) (r:Vals vs us)
  (x:InCallC s s.heap.objs.size (bindL (envOfC qual scope s.heap.objs.size f cd).kindOf (ps.zip us) λ_=>none) (cellsFrom (s.heap.objs.size+1) scope.names []) (bindC (envOfC qual scope s.heap.objs.size f cd).kindOf (ps.zip us) λ_=>none) s1) :
  Inv (cxOf CX P w K mg base N qual scope f cd A outer s H E) [] (start N vs) H s1:=by
 have hpl:ps.length<=N.length:=by have:=congrArg Wa1 S.pre;rw[Wbu]at this;omega
 obtain⟨h1,tk,rfl,hk⟩:=x.done;have noA:∀b:Addr,b ∉ (cxOf CX P w K mg base N qual scope f cd A outer s H E).ex:=λb z=>absurd (show b∈([]:List Addr) from z) (by simp);refine⟨⟨e0.mod,S.kind,rfl,rfl,Waf _,λy z c h1 h2=>?_,λy hy=>?_,λy c _ h=>?_,λ_=>hd,Around.frames_deeper e0.frames,.inr ⟨rfl,rfl⟩,λb z=>absurd z (noA b),e0.bs,e0.bsz,λb _ _=>noA b,λb z=>absurd z (noA b),e0.funs,e0.frf⟩,
  rfl,e0.bare,Un.kept hk,⟨_,x.toInCall.ns,λi y v h1 h2 h3=>?_⟩,λy c h=>⟨_,x.cell y c h⟩,e0.hok.fresh (Waf _),λy c h=>?_,λp hp=>absurd (show p∈([]:List (Addr × Obj)) from hp) (by simp),e0.hok.kept hk,?_⟩
 ·exact name_of_addr x.apart (PySem.mem_of_lookup h1)<|PySem.mem_of_lookup h2
 ·have hy:scope.names.lookup y=some .cell\/scope.names.lookup y=some .free:=hy
  rcases hy with hy|hy
  ·exact Ze8 hy
  ·exact absurd rfl<|S.nofree _<|PySem.mem_of_lookup hy
 ·exact Wb8<|x.above y c<|PySem.mem_of_lookup h
 ·have hi:i<vs.length:=by
   unfold start at h2;by_cases hi:i<vs.length
   ·exact hi
   ·rw[Wav (by simpa using hi)]at h2
    rw[Wbm]at h2;split at h2 <;> cases h2
  have ha:vs[i]?=some v:=by
   unfold start at h2;rw[Wa9 (by simpa using hi),Wah]at h2;cases e:vs[i]? with
   |none=>rw[e]at h2;cases h2
   |some a=>rw[e]at h2;cases h2;rfl
  obtain⟨u,hu,rv⟩:=r.get ha;have hp:ps[i]?=some y:=by
   rw[<- S.pre,Wc9 (by omega)];exact h1
  have ndP:ps.Nodup:=by rw[<- S.pre];exact S.nd.sublist<|List.take_sublist _ _
  refine⟨u,rv,?_⟩;rcases S.par y (Wax hp) with k|k
  ·exact .inl ⟨k,Zfe ndP hp hu k⟩
  ·obtain⟨c,e⟩:=Ze8 (n:=s.heap.objs.size+1) k
   refine .inr ⟨.inl k,c,e,?_⟩;have q:=x.cell y c e;rw[Zf5 ndP hp hu (by show scope.names.lookup y≠_;rw[k];decide)]at q;exact q
 ·exact e0.hok.fresh<|Wb8<|x.above y c<|PySem.mem_of_lookup h
 ·unfold start
  show _=N.length;rw[Wao,Wac,Waq];omega
theorem Zr5 {CX:CXT}{P:Program}{w:World}{K:W.Frag}{mg:Str->Option Value}{base:Heap}{k:Nat}{f:Addr}{name qual:Str}{params:Arguments}{body:List Stmt}{scope:Scope}{dV kV doc pm cdv ct oc:Value}{an od:Option Addr}
  {osl:Array (Option Value)}{N ps:List Str}{sp:Sp}(lk:K.lookup f=some ⟨oc,od,.func<|W.fnOf name qual params body scope dV kV doc pm an cdv ct,osl⟩) (hcd:W.codeIn K cdv qual=true) (S:FnScope N ps scope)
  (len:∀vs H Q E,sp vs H Q E->vs.length=ps.length)
  (hbody:∀(A:Around) (outer:List Env) (s:Shared) (H:Hp) (vs:List V) (Q:VK) (E:XK),Room k (A.deeper (envOfC qual scope s.heap.objs.size f cdv))->sp vs H Q E →
   ∃t,PSs (cxOf CX P w K mg base N qual scope f cdv A outer s H E) body t/\t { nx:=λ_ H'=>Q .non H',rt:=Q } (start N vs) H) :
  FnOk P w K mg base CX (k+1) f (W.fnOf name qual params body scope dV kV doc pm an cdv ct) ps sp:=by
 refine⟨len,λA outer s H args us vs Q E hr e0 hb r hsp=>?_⟩;have hl:=len _ _ _ _ hsp;have KX:K.In s.heap:=e0.mod.kin.keeps λb o e=>(e0.bs b o e).1;have lim:s.heap.NoLimit:=e0.mod.nolimit.keeps λb o e=>(e0.bs b o e).1;have hkind:∀y∈ps.zip us,scope.names.lookup y.1=some .local\/(scope.names.lookup y.1=some .cell/\((cellsFrom (s.heap.objs.size+1) scope.names []).lookup y.1).isSome=true):=λ⟨n,v⟩ hy=>by
  rcases S.par n (Wdf hy).1 with q|q
  ·exact .inl q
  ·exact .inr ⟨q,PySem.W.cellsFrom_some _ _ _ (.inl q)⟩
 refine codeAny_call_function hr.depth (KX _ _ lk) rfl S.co S.gen rfl (PySem.W.codeRec_of KX hcd)<|hb _ _ _ _ ?_;refine wpAny_newFunctionEnv_cells S.kind hkind λenv he s1 x=>?_;subst he;refine⟨lim.keeps x.toInCall.keep,codeAny_func ?_⟩;obtain⟨t,ht,hq⟩:=hbody A outer s H vs Q E (hr.deeper _) hsp;have I:Inv (cxOf CX P w K mg base N qual scope f cdv A outer s H E) [] (start N vs) H s1:=Znc S hr.hd e0 hl r x;refine wpAny_mono (ht [] s1 (start N vs) H _ I hq) (λfl s' hs=>?_) λe s' hs=>hs;have fin:∀{σ':St}{H':Hp}{v:V}{u:Value},Inv (cxOf CX P w K mg base N qual scope f cdv A outer s H E) [] σ' H' s' -> RelV v u->Q v H' -> CE outer P w H s Q u s':=
  λ{σ' H' v u} J rv q=>⟨v,H',J.os,J.bare,J.base,J.hok,rv,q⟩
 cases fl with
 |ret u=>
  obtain⟨v,σ',H',J,rv,q⟩:=hs;exact fin J rv q
 |next=>
  obtain⟨σ',H',J,q⟩:=hs;exact fin (v:=V.non) (u:=Value.none) J rfl q
 |brk=>
  obtain⟨_,_,_,q⟩:=hs;exact False.elim q
 |cont=>
  obtain⟨_,_,_,q⟩:=hs;exact False.elim q
end L2
namespace L2
open PySem PySem.Spec PyProof.Rows
section
variable {X:Cx}{x:Str}{p pos:Pos}{e:Expr}{es:List Expr}{t:TA}{id T:String}{r:List V->Hp->VK->Prop}
def tCB (r:List V->Hp->VK->Prop) (t:TA):TE:=λσ H Q=>t σ H λvs H1=>r vs H1 Q
theorem Zaj (hc:CallR X (.builtin id) r) (hg:Gl X x) (hm:X.mg x=none) (hv:bootBuiltins x=some (.builtin id)) (ha:PA X (e::es) t) (hn:x ≠ "__name__":=by decide) (hdb:(x == ("__debug__":Str))=false:=by decide)
  (he:starEach (e::es) X.env=(false,eval e X.env)::starEach es X.env:=by rfl) (hpl:(backTo pos<|starEach es X.env).any (·.1)=false:=by rfl):PE X (.Call (.Name x p) (e::es) [] pos) (tCB r t):=by
 intro pins s σ H Q I h;refine wpAny_Call_Name_kw<|Zdw I hg hm hv ?_ hn hdb;exact PyProof.Rows.callWith_builtin1 (thn (ha pos pins s σ H _ I h) λus s1 ⟨vs,H1,I1,r1,q1⟩=>hc pins s1 σ H1 vs us Q I1 r1 q1) he hpl
theorem Zde (hc:CallR X (.type T) r) (hg:Gl X x) (hm:X.mg x=none) (hv:bootBuiltins x=some (.type T)) (ha:PA X (e::es) t) (hn:x ≠ "__name__":=by decide) (hdb:(x == ("__debug__":Str))=false:=by decide)
  (he:starEach (e::es) X.env=(false,eval e X.env)::starEach es X.env:=by rfl) (hpl:(backTo pos<|starEach es X.env).any (·.1)=false:=by rfl):PE X (.Call (.Name x p) (e::es) [] pos) (tCB r t):=by
 intro pins s σ H Q I h;refine wpAny_Call_Name_kw<|Zdw I hg hm hv ?_ hn hdb;exact PyProof.Rows.callWith_type1 (thn (ha pos pins s σ H _ I h) λus s1 ⟨vs,H1,I1,r1,q1⟩=>hc pins s1 σ H1 vs us Q I1 r1 q1) he hpl
theorem Zla (hc:CallR X (.type T) r) (hg:Gl X x) (hm:X.mg x=none) (hv:bootBuiltins x=some (.type T)) (hn:x ≠ "__name__":=by decide) (hdb:(x == ("__debug__":Str))=false:=by decide) :
  PE X (.Call (.Name x p) [] [] pos) (tCB r tNil):=by
 intro pins s σ H Q I h;refine wpAny_Call_Name_kw<|Zdw I hg hm hv ?_ hn hdb;exact PyProof.Rows.callWith_type0<|hc pins s σ H [] [] Q I .nil h
end
end L2
namespace HT
open PySem PyProof.Rows
section
open PySem.SeqAt
open PySem.AutoSeq1 (wpAny_loadPart')
open PySem.MeetsSeq PySem.MeetsSeq2 PySem.MeetsSeq3
end
section
variable {prog:Program}{w:World}{A:Around}{E:Value->Shared->Prop}{s:Shared}
theorem cat_tup {t b:Addr}{vs ws:List Value}{Q:Value->Shared->Prop}(ht:IsTup s.heap t vs.toArray) (hb:IsTup s.heap b ws.toArray) (hv:vs≠[])
  (h1:ws=[]->Q (.ref t) s) (h2:ws≠[]->Q (.ref s.heap.objs.size) { s with heap:=s.heap.push { cls:=.type "tuple",data:=.seq (vs++ws).toArray } })
  (hsz:vs.length+ws.length<=sizeLine):wpAny (model prog w) A (binaryOp .Add (.ref t) (.ref b)) Q E s:=by
 obtain⟨⟨cls,dd,data,sl⟩,ho,hc,n,hd⟩:=id ht;obtain⟨⟨cls2,dd2,data2,sl2⟩,ho2,hc2,n2,hd2⟩:=id hb;simp only at hc hd hc2 hd2;subst hc hd hc2 hd2;have e:vs.toArray++ws.toArray=(vs++ws).toArray:=by simp
 by_cases hw:ws=[]
 ·exact concat_meets ⟨_,ho,rfl⟩ ⟨_,ho2,rfl⟩ noFill_tuple_add seq_tuple_add PySem.F.slot_tuple_add PySem.F.entry_tuple_add (PySem.F.args_tuple_add_2 _ _)
   (tuple_addW1 t b vs.toArray ws.toArray n n2 dd dd2 sl sl2 (by simpa using hv) (by simp[hw])) ⟨ho,ho2,h1 hw⟩
 ·refine concat_meets ⟨_,ho,rfl⟩ ⟨_,ho2,rfl⟩ noFill_tuple_add seq_tuple_add PySem.F.slot_tuple_add PySem.F.entry_tuple_add (PySem.F.args_tuple_add_2 _ _)
   (tuple_addW2 t b vs.toArray ws.toArray n n2 dd dd2 sl sl2 (by simpa using hv) (by simpa using hw) (by rw[Wan,Wan];exact hsz)) ⟨ho,ho2,?_⟩
  rw[e];exact h2 hw
def sIx (n d:Nat):Option Int->Nat
 |none=>d
 |some v=>if v<0 then (v+(n:Int)).toNat else min v.toNat n
theorem sIx_none (n d:Nat):sIx n d none=d:=rfl
theorem sIx_nat (n d k:Nat):sIx n d (some (k:Int))=min k n:=by
 show (if (k:Int)<0 then ((k:Int)+(n:Int)).toNat else min (k:Int).toNat n)=min k n;rw[if_neg (by omega),Waj]
theorem Zvf (n d:Nat) (hd:d<=n) (o:Option Int):sIx n d o<=n:=by
 cases o with
 |none=>exact hd
 |some v=>
  show (if v<0 then (v+(n:Int)).toNat else min v.toNat n)<=n;by_cases hv:v<0
  ·rw[if_pos hv];omega
  ·rw[if_neg hv];exact Nat.min_le_right _ _
theorem Zo8 (v:Int) (n d:Nat):(if v<0 then max (v+(n:Int)) 0 else min v (n:Int))=((sIx n d (some v):Nat):Int):=by
 show (if v<0 then max (v+(n:Int)) 0 else min v (n:Int))=(((if v<0 then (v+(n:Int)).toNat else min v.toNat n):Nat):Int);by_cases hv:v<0
 ·simp only[if_pos hv];omega
 ·simp only[if_neg hv];omega
theorem Zl7 (lo hi:Option Int) (n:Nat):Builtin.Slice.sliceAdjust lo hi 1 (n:Int)=(((sIx n 0 lo:Nat):Int),((sIx n n hi:Nat):Int)):=by
 have h1:¬ ((1:Int)<0):=by omega
 unfold Builtin.Slice.sliceAdjust;simp only[h1,if_false];refine Prod.ext ?_ ?_
 ·cases lo with
  |none=>rfl
  |some v=>exact Zo8 v n 0
 ·cases hi with
  |none=>rfl
  |some v=>exact Zo8 v n n
theorem Zlf (i j:Nat):Builtin.Slice.slicePlaces (i:Int) (j:Int) 1=j-i:=by
 unfold Builtin.Slice.slicePlaces;have h1:(1:Int) > 0:=by omega
 simp only[h1,if_true,Int.ediv_one];split <;> omega
theorem Zg8 {v:Value}{o:Option Int}{Q:Option Int->Shared->Prop}(p:IsPart v o) (h:Q o s):wpAny (model prog w) A (Builtin.Slice.slicePartIndex v) Q E s:=by
 cases p with
 |none=>exact slicePart_none h
 |int i t=>exact slicePart_int h
theorem Zdb {sl:Addr}{vl vu:Value}{lo hi:Option Int}{n:Nat}{Q:Int × Int × Nat->Shared->Prop}(hs:s.heap.IsSliceOf sl vl vu .none) (pl:IsPart vl lo) (pu:IsPart vu hi)
  (h:Q (((sIx n 0 lo:Nat):Int),1,sIx n n hi-sIx n 0 lo) s):wpAny (model prog w) A (Builtin.Slice.sliceApplied (.ref sl)<|pure (n:Int)) Q E s:=by
 obtain⟨os,hos,hcs,hds⟩:=id hs;unfold Builtin.Slice.sliceApplied Builtin.Slice.sliceFields;refine wpAny_bind<|wpAny_bind<|wpAny_field hos hds (x:=vl) rfl<|wpAny_bind<|wpAny_field hos hds (x:=vu) rfl<|wpAny_bind<|wpAny_field hos hds (x:=.none) rfl<|wpAny_pure ?_;refine wpAny_bind<|slicePart_none ?_;show wpAny _ _ (if ((1:Int) == 0)=true then _ else _) _ _ s;rw[if_neg (by decide)];refine wpAny_bind<|Zg8 pl<|wpAny_bind<|Zg8 pu<|wpAny_bind<|wpAny_pure ?_;show wpAny _ _ (match Builtin.Slice.sliceAdjust lo hi 1 (n:Int) with|(lo,hi)=>pure (lo,(1:Int),Builtin.Slice.slicePlaces lo hi 1)) _ _ s;rw[Zl7 lo hi n];show wpAny _ _ (pure (((sIx n 0 lo:Nat):Int),(1:Int),Builtin.Slice.slicePlaces ((sIx n 0 lo:Nat):Int) ((sIx n n hi:Nat):Int) 1)) _ _ s;rw[Zlf];exact wpAny_pure h
theorem Zqg (xs:Array Value) (i k:Nat):((Wak k).filterMap λ(m:Nat)=>xs[((i:Int)+(m:Int)*1).toNat]?).toArray=((xs.toList.drop i).take k).toArray:=by
 have e:(λ(m:Nat)=>xs[((i:Int)+(m:Int)*1).toNat]?)=λm=>xs[i+m]?:=by
  funext m
  have:((i:Int)+(m:Int)*1).toNat=i+m:=by omega
  rw[this]
 rw[e];have:=pick_run xs i k;rw[List.filterMap_map]at this;have e2:((λx=>xs[x]?)∘λx=>i+x)=λm=>xs[i+m]?:=rfl;rw[e2]at this;rw[this]
theorem getItem_tuple_cut {t sl:Addr}{items:Array Value}{vl vu:Value}{lo hi:Option Int}{Q:Value->Shared->Prop}(ht:IsTup s.heap t items) (hs:s.heap.IsSliceOf sl vl vu .none) (pl:IsPart vl lo) (pu:IsPart vu hi)
  (hw:¬ (sIx items.size 0 lo=0/\sIx items.size items.size hi=items.size))
  (h:Q (.ref s.heap.objs.size) { s with heap:=s.heap.push { cls:=.type "tuple",data:=.seq ((items.toList.drop<|sIx items.size 0 lo).take (sIx items.size items.size hi-sIx items.size 0 lo)).toArray } })
  (hsz:items.size<=sizeLine):wpAny (model prog w) A (getItem (.ref t) (.ref sl)) Q E s:=by
 have htake:sizeOk (.seq ((items.toList.drop<|sIx items.size 0 lo).take (sIx items.size items.size hi-sIx items.size 0 lo)).toArray):=by
  show ((items.toList.drop<|sIx items.size 0 lo).take (sIx items.size items.size hi-sIx items.size 0 lo)).toArray.size<=sizeLine;rw[Wan,Wbu,Wcq,Array.length_toList];omega
 have hj:sIx items.size items.size hi<=items.size:=Zvf _ _ (Waf _) hi;obtain⟨os,hos,hcs,hds⟩:=id hs;have hTs:s.TypeIs (.ref sl) "slice":=⟨os,hos,hcs⟩;unfold getItem
 try with_reducible refine wpAny_holding ?_
 first|refine wpAny_bind (wpAny_pure ?_)|skip
 refine wpAny_bind (wpAny_sequenceKey ht.typeIs (by decide) ?_);refine wpAny_bind (wpAny_callSpecial?_slot (name:=Str.ofString "__getitem__") ht.typeIs PyProof.Rows.slot_tuple_getitem
  (wpAny_call_entry PyProof.Rows.slot_tuple_getitem ht.typeIs entry_tuple_getitem ?_ (args_tuple_getitem _ _)))
 show wpAny _ _ (Builtin.Tuple.tupleItemsOf (.ref t) >>= _) _ _ s;refine wpAny_bind<|tupleItemsOf_ ht ?_;refine wpAny_bind<|wpAny_typeOf hTs ?_;rw[if_pos (by decide)];refine wpAny_bind<|Zdb hs pl pu ?_;have hno:¬ ((((sIx items.size 0 lo:Nat):Int) == 0 && (1:Int) == 1 && (sIx items.size items.size hi-sIx items.size 0 lo) == items.size)=true):=by
  intro q;rw[Waz,Waz]at q;have q1:((sIx items.size 0 lo:Nat):Int)=0:=eq_of_beq q.1.1;have q2:sIx items.size items.size hi-sIx items.size 0 lo=items.size:=eq_of_beq q.2;exact hw ⟨by omega,by omega⟩
 show wpAny _ _ (if (((sIx items.size 0 lo:Nat):Int) == 0 && (1:Int) == 1 && (sIx items.size items.size hi-sIx items.size 0 lo) == items.size)=true then _ else _) _ _ s;rw[if_neg hno,Zqg]
 first
  |exact wpAny_bind (m:=Builtin.Tuple.tupleExact _) (wpAny_newObj_type (wpAny_pure ⟨_,rfl,wpAny_pure h⟩) htake)
  |exact wpAny_bind (m:=Builtin.Tuple.tupleExact _) (wpAny_newObj_type (wpAny_bind (wpAny_pure (wpAny_pure ⟨_,rfl,wpAny_pure h⟩))) htake)
  |exact wpAny_bind (wpAny_bind (m:=Builtin.Tuple.tupleExact _) (wpAny_newObj_type (wpAny_pure (wpAny_pure ⟨_,rfl,wpAny_pure h⟩)) htake))
  |exact wpAny_bind (wpAny_bind (m:=Builtin.Tuple.tupleExact _) (wpAny_newObj_type (wpAny_pure ⟨_,rfl,wpAny_pure h⟩) htake))
end
end HT
namespace L2
open PySem PySem.Spec PyProof.Rows
abbrev TO:=St->Hp->(Option Int->Hp->Prop)->Prop
def PO (X:Cx) (e:Option Expr) (t:TO):Prop:=
 ∀(pins:List (Addr × Obj)) (s:Shared) (σ:St) (H:Hp) (Q:Option Int->Hp->Prop),Inv X pins σ H s->t σ H Q →
  wpAny (model X.prog X.w) X.A (evalPart e X.env) (λu s'=>∃o H',Inv X pins σ H' s' /\ IsPart u o/\Q o H') X.xe s
def tNoPart:TO:=λ_ H Q=>Q none H
def tPart (t:TE):TO:=λσ H Q=>t σ H λx H1=>∃i,x=.int i/\Q (some i) H1
theorem Zcy {ns:List Int}:∀{us:List Value},Vals (ns.map V.int) us->IntsAre us ns:=by
 induction ns with
 |nil=>intro us r;rw[Wds]at r;cases r;exact .nil
 |cons n ns ih=>
  intro us r;rw[Wbr]at r;cases r with
  |cons r1 r2=>
   obtain⟨t,e⟩:=r1;subst e;exact .cons n t<|ih r2
section
variable {X:Cx}{e:Expr}{te:TE}{lo hi:Option Expr}{tl th:TO}{pos p2:Pos}
theorem Zf1:PO X none tNoPart:=by
 intro pins s σ H Q I h;rw[evalPart_none];exact wpAny_pure ⟨none,H,I,.none,h⟩
theorem Zfk (h:PE X e te):PO X (some e) (tPart te):=by
 intro pins s σ H Q I hw;rw[evalPart_some];refine thn (h pins s σ H _ I hw) λu s1 ⟨x,H1,I1,r1,q1⟩=>?_;obtain⟨i,rfl,q⟩:=q1;obtain⟨t,rfl⟩:=r1;exact⟨some i,H1,I1,.int i t,q⟩
def SlR (X:Cx) (r:V->Option Int->Option Int->Hp->VK->Prop):Prop:=
 ∀(pins:List (Addr × Obj)) (s:Shared) (σ:St) (H:Hp) (x:V) (v vl vu:Value) (lo hi:Option Int) (sl:Addr) (Q:VK),Inv X pins σ H s->RelV x v->s.heap.IsSliceOf sl vl vu .none->IsPart vl lo->IsPart vu hi->r x lo hi H Q →
  ∃T id,typeLookup (.type T) "__getitem__" = pure (some (.builtin id))/\s.TypeIs v T/\wpAny (model X.prog X.w) X.A (getItem v (.ref sl)) (EP X pins σ Q) X.xe s
theorem SlR.or {r r':V->Option Int->Option Int->Hp->VK->Prop}(h:SlR X r) (h':SlR X r'):SlR X (λx lo hi H Q=>r x lo hi H Q\/r' x lo hi H Q):=by
 intro pins s σ H x v vl vu lo hi sl Q I rx hs pl pu q;rcases q with q|q
 ·exact h pins s σ H x v vl vu lo hi sl Q I rx hs pl pu q
 ·exact h' pins s σ H x v vl vu lo hi sl Q I rx hs pl pu q
def tSl (r:V->Option Int->Option Int->Hp->VK->Prop) (te:TE) (tl th:TO):TE:=λσ H Q=>te σ H λx H1=>tl σ H1 λl H2=>th σ H2 λu H3=>r x l u H3 Q
theorem Zef {r:V->Option Int->Option Int->Hp->VK->Prop}(hr:SlR X r) (he:PE X e te) (hl:PO X lo tl) (hu:PO X hi th):PE X (.Subscript e (.Slice lo hi none p2) pos) (tSl r te tl th):=by
 intro pins s σ H Q I h;refine Subscript_ (thn (he pins s σ H _ I h) λv s1 ⟨x,H1,I1,r1,q1⟩=>?_);refine wpAny_Slice (thn (hl pins s1 σ H1 _ I1 q1) λvl s2 ⟨l,H2,I2,pl,q2⟩=>thn (hu pins s2 σ H2 _ I2 q2) λvu s3 ⟨u,H3,I3,pu,q3⟩=>?_);rw[evalPart_none];refine wpAny_pure ?_;have I4:Inv X pins σ H3 { s3 with heap:=s3.heap.push { cls:=.type "slice",data:=.fields #[vl,vu,.none] } }:=I3.kept (t':=s3.toks) λb ob q=>Wab _ q;obtain⟨T,id,hT,ht,hg⟩:=hr pins { s3 with heap:=s3.heap.push { cls:=.type "slice",data:=.fields #[vl,vu,.none] } } σ H3 x v vl vu l u s3.heap.objs.size Q I4 r1 (Heap.IsSliceOf.new ..) pl pu q3;show wpAny (model X.prog X.w) X.A (subscriptTail e (.Slice lo hi none p2) v (.ref s3.heap.objs.size)) (EP X pins σ Q) X.xe { s3 with heap:=s3.heap.push { cls:=.type "slice",data:=.fields #[vl,vu,.none] } };exact tail_any (ops:=[.ref s3.heap.objs.size,v]) ht hT hg (by with_unfolding_all rfl)
def cutV (xs:List V) (lo hi:Option Int):List V:=(xs.drop<|HT.sIx xs.length 0 lo).take (HT.sIx xs.length xs.length hi-HT.sIx xs.length 0 lo)
theorem Zfm (xs:List V) (lo hi:Option Int):(cutV xs lo hi).length<=xs.length:=by
 unfold cutV;rw[Wbu,Wcq];omega
def rSlT (K:W.Frag):V->Option Int->Option Int->Hp->VK->Prop:=λx lo hi H Q=>∃a xs,x=.ref a/\SqT K H a xs ∧
 ¬ (HT.sIx xs.length 0 lo=0/\HT.sIx xs.length xs.length hi=xs.length)/\∀p,H p=none->Q (.ref p) (upd H p (.tup<|cutV xs lo hi))
theorem Zwh:SlR X (rSlT X.K):=by
 intro pins s σ H x v vl vu lo hi sl Q I rx hs pl pu h;obtain⟨a,xs,rfl,hx,hw,q⟩:=h;cases rx;obtain⟨its,r,ht,hz⟩:=I.tuple hx;have hlen:its.toArray.size=xs.length:=by rw[Wan];exact r.length.symm
 refine⟨"tuple",_,PyProof.Rows.slot_tuple_getitem.lookup,ht.typeIs,?_⟩;refine HT.getItem_tuple_cut ht hs pl pu (by rw[hlen];exact hw) ?_ (by rw[hlen];exact hz);rw[hlen];refine⟨.ref s.heap.objs.size,_,I.laid (t':=s.toks) (o:=.tup<|cutV xs lo hi) (λb ob q=>Wab _ q) (Waf _) ?_,rfl,q _<|I.hok.fresh<|Waf _⟩;exact⟨Wa8 (Zfm xs lo hi) hz,_,(r.drop<|HT.sIx xs.length 0 lo).take (HT.sIx xs.length xs.length hi-HT.sIx xs.length 0 lo),IsTupN.new _ _⟩
def rCatT (K:W.Frag):R2:=λx y H Q=>∃a b xs ys,x=.ref a/\y=.ref b/\SqT K H a xs/\SqT K H b ys/\xs≠[]/\xs.length+ys.length<=sizeLine ∧
 (ys=[]->Q (.ref a) H)/\(ys≠[]->∀p,H p=none->Q (.ref p) (upd H p (.tup<|xs++ys)))
theorem Vals.nil_iff {xs:List V}{us:List Value}(r:Vals xs us):us=[]↔xs=[]:=by
 cases r with
 |nil=>simp
 |cons _ _=>simp
theorem Zsj:OpR X (binaryOp .Add) (rCatT X.K):=by
 intro pins s σ H x y v u Q I rx ry h;obtain⟨a,b,xs,ys,rfl,rfl,ha,hb,hx,hz,q1,q2⟩:=h;cases rx;cases ry;obtain⟨its,r1,p1,_⟩:=I.tuple ha;obtain⟨its2,r2,p2,_⟩:=I.tuple hb;refine HT.cat_tup p1 p2 (λz=>hx<|r1.nil_iff.mp z) (λz=>⟨.ref a,H,I,rfl,q1<|r2.nil_iff.mp z⟩) (λz=>?_) (by rw[<- r1.length,<- r2.length];exact hz);refine⟨.ref s.heap.objs.size,_,I.laid (t':=s.toks) (o:=.tup<|xs++ys) (λb ob q=>Wab _ q) (Waf _) ?_,rfl,q2 (λw=>z<|r2.nil_iff.mpr w) _<|I.hok.fresh<|Waf _⟩;exact⟨by rw[Wao];exact hz,_,r1.append r2,IsTupN.new _ _⟩
end
end L2
namespace L2
open PySem PySem.Spec PyProof.Rows
def ixN (n:Nat) (i:Int):Option Nat:=if 0<=i then (if i<n then some i.toNat else none) else if -(n:Int)<=i then some (i+n).toNat else none
def atI {α:Type}(xs:List α) (i:Int):Option α:=(ixN xs.length i).bind λj=>xs[j]?
theorem Zod {n:Nat}{i:Int}{j:Nat}(h:ixN n i=some j):seqIndex? i n=some j/\j<n /\ -(n:Int)<=i/\i<n:=by
 unfold ixN at h;by_cases h0:0<=i
 ·rw[if_pos h0]at h
  by_cases h1:i<n
  ·rw[if_pos h1]at h
   have e:i.toNat=j:=Wa5.inj h;exact⟨by rw[seqIndex_of h0 h1,e],by omega,by omega,h1⟩
  ·rw[if_neg h1]at h;cases h
 ·rw[if_neg h0]at h
  by_cases h1:-(n:Int)<=i
  ·rw[if_pos h1]at h
   have e:(i+n).toNat=j:=Wa5.inj h;exact⟨by rw[seqIndex_neg (by omega) h1,e],by omega,h1,by omega⟩
  ·rw[if_neg h1]at h;cases h
theorem Zjf {α:Type}{xs:List α}{i:Int}{v:α}(h:atI xs i=some v):∃j,seqIndex? i xs.length=some j/\xs[j]?=some v/\j<xs.length /\ -(xs.length:Int)<=i/\i<xs.length:=by
 unfold atI at h;cases e:ixN xs.length i with
 |none=>rw[e]at h;cases h
 |some j=>
  rw[e]at h;obtain⟨h1,h2,h3,h4⟩:=Zod e;exact⟨j,h1,h,h2,h3,h4⟩
theorem Zdn {α:Type}{xs:List α}{j:Nat}{v:α}(h:xs[j]?=some v):atI xs (j:Int)=some v:=by
 have hj:j<xs.length:=(Wag.mp h).1;have e:ixN xs.length (j:Int)=some j:=by
  unfold ixN;rw[if_pos (by omega),if_pos (by omega)];simp
 unfold atI;rw[e];exact h
def PlainIx (b:Expr):Prop:=∀o i,subscripted b false o i=operate [o,i] (getItem o i)
def IxR (X:Cx) (r:R2):Prop:=
 ∀(value slice:Expr) (pins:List (Addr × Obj)) (s:Shared) (σ:St) (H:Hp) (x y:V) (v u:Value) (Q:VK),Inv X pins σ H s->RelV x v->RelV y u->r x y H Q →
  subscripted slice false v u=operate [v,u] (getItem v u)->wpAny (model X.prog X.w) X.A (subscriptTail value slice v u) (EP X pins σ Q) X.xe s
def MtR (X:Cx) (id:String) (r:V->List V->Hp->VK->Prop):Prop:=
 ∀(pins:List (Addr × Obj)) (s:Shared) (σ:St) (H:Hp) (x:V) (xs:List V) (v:Value) (us:List Value) (Q:VK),Inv X pins σ H s->RelV x v->Vals xs us->r x xs H Q →
  wpAny (model X.prog X.w) X.A (call (.builtin id) (v::us)) (EP X pins σ Q) X.xe s
section
variable {X:Cx}{a b:Expr}{ta tb:TE}{pos:Pos}
theorem IxR.or {r r':R2}(h:IxR X r) (h':IxR X r'):IxR X (λx y H Q=>r x y H Q\/r' x y H Q):=by
 intro value slice pins s σ H x y v u Q I rx ry q hs;rcases q with q|q
 ·exact h value slice pins s σ H x y v u Q I rx ry q hs
 ·exact h' value slice pins s σ H x y v u Q I rx ry q hs
theorem Zbv {r:R2}(hr:IxR X r) (ha:PE X a ta) (hb:PE X b tb) (hs:PlainIx b):PE X (.Subscript a b pos) (tOp r ta tb):=by
 intro pins s σ H Q I h;exact Subscript_ (binT ha hb I h λv u s2 x y H2 I2 rx ry q=>hr a b pins s2 σ H2 x y v u Q I2 rx ry q<|hs _ _)
def rIxL (K:W.Frag):R2:=λx y H Q=>∃p xs i v,x=.ref p/\y=.int i/\SqL K H p xs/\atI xs i=some v/\Q v H
def rIxT (K:W.Frag):R2:=λx y H Q=>∃p xs i v,x=.ref p/\y=.int i/\SqT K H p xs/\atI xs i=some v/\Q v H
def rIxS:R2:=λx y H Q=>∃z i c,x=.str z/\y=.int i/\z.length<=sizeLine/\atI z.cps.toList i=some c/\Q (.str ⟨#[c]⟩) H
theorem Zsa:IxR X (rIxL X.K):=by
 intro value slice pins s σ H x y v u Q I rx ry h hs;obtain⟨p,xs,i,z,rfl,rfl,hq,he,q⟩:=h;cases rx;obtain⟨t,rfl⟩:=ry;obtain⟨its,r,pl,hz⟩:=I.list hq;obtain⟨j,h1,h2,h3,h4,h5⟩:=Zjf he;obtain⟨w,ew,rw'⟩:=r.get h2;have hl:=r.length;have hn:=line63;have fin:EP X pins σ Q w s:=⟨z,H,I,rw',q⟩;by_cases h0:0<=i
 ·have hj:i.toNat=j:=by
   rw[seqIndex_of h0 h5]at h1;exact Wa5.inj h1
  exact item_listR pl.isList h0 (by omega) (by rw[hj];simpa using ew) fin hs
 ·have hj:(i+(its.toArray.size:Int)).toNat=j:=by
   rw[seqIndex_neg (by omega) h4]at h1;rw[Wan,<- hl];exact Wa5.inj h1
  exact subscriptTail_builtinR (x:=w) pl.isList.typeIs slot_list_getitem.lookup
   (wpAny_getItem_list_neg (Q:=λr s'=>r=w/\EP X pins σ Q r s') pl.isList (by omega) (by rw[Wan] <;> omega) (by omega) (by rw[hj];simpa using ew) ⟨rfl,fin⟩) hs
theorem Zu2:IxR X (rIxT X.K):=by
 intro value slice pins s σ H x y v u Q I rx ry h hs;obtain⟨p,xs,i,z,rfl,rfl,hq,he,q⟩:=h;cases rx;obtain⟨t,rfl⟩:=ry;obtain⟨its,r,pl,hz⟩:=I.tuple hq;obtain⟨j,h1,h2,h3,h4,h5⟩:=Zjf he;obtain⟨w,ew,rw'⟩:=r.get h2;have hl:=r.length;have hn:=line63;have fin:EP X pins σ Q w s:=⟨z,H,I,rw',q⟩;exact subscriptTail_builtinR (x:=w) pl.typeIs slot_tuple_getitem.lookup
  (getItem_tuple (j:=j) (Q:=λr s'=>r=w/\EP X pins σ Q r s') pl (by omega) (by omega) (by rw[Wan,<- hl];exact h1) (by simpa using ew) ⟨rfl,fin⟩) hs
theorem Zv0:IxR X rIxS:=by
 intro value slice pins s σ H x y v u Q I rx ry h hs;obtain⟨z,i,c,rfl,rfl,hz,he,q⟩:=h;obtain⟨t,rfl⟩:=rx;obtain⟨t',rfl⟩:=ry;obtain⟨j,h1,h2,h3,h4,h5⟩:=Zjf he;have hl:z.cps.toList.length=z.length:=by simp[Str.length]
 rw[hl]at h1 h4 h5;have hn:=line63;exact tail_any (typeIs_str s z t) slot_str_getitem.lookup (getItem_str (c:=c) (by
  have e1:decide (i < -(2 ^ 63:Int))=false:=decide_eq_false (by omega);have e2:decide (i ≥ 2 ^ 63)=false:=decide_eq_false (by omega);rw[e1,e2,Bool.or_false]) (by rw[h1];simpa using h2) ⟨.str ⟨#[c]⟩,H,I.tok _,⟨_,rfl⟩,q⟩) hs
def rIx (K:W.Frag):R2:=λx y H Q=>rIxL K x y H Q\/rIxT K x y H Q\/rIxS x y H Q
theorem Zvy:IxR X (rIx X.K):=Zsa.or<|Zu2.or Zv0
theorem Zlr (its:List Value) (n j:Nat) (u:Value):Obj.mapSeq (·.setIfInBounds j u) { cls:=.type "list",data:=.seq its.toArray n } = { cls:=.type "list",data:=.seq (its.set j u).toArray n }:=by
 simp[Obj.mapSeq]
theorem Inv.lst {pins:List (Addr × Obj)}{σ:St}{H:Hp}{s:Shared}{p:Addr}{xs:List V}(I:Inv X pins σ H s) (h:H p=some (.lst xs)) :
  ∃(its:List Value) (n:Nat),Vals xs its/\s.heap.get? p=some { cls:=.type "list",data:=.seq its.toArray n } /\ xs.length<=sizeLine:=by
 obtain⟨z,its,n,r,e⟩:=I.hok p _ h;exact⟨its,n,r,e,z⟩
theorem Inv.lstUpd {pins:List (Addr × Obj)}{σ:St}{H:Hp}{s:Shared}{p:Addr}{xs ys:List V}{its its':List Value}{n n':Nat}{f:Obj->Obj}(I:Inv X pins σ H s) (h:H p=some (.lst xs))
  (ho:s.heap.get? p=some { cls:=.type "list",data:=.seq its.toArray n }) (hf:f { cls:=.type "list",data:=.seq its.toArray n } = { cls:=.type "list",data:=.seq its'.toArray n' }) (r:Vals ys its') (hz:ys.length<=sizeLine) (t:Nat) :
  Inv X pins σ (upd H p (.lst ys)) { s with heap:=s.heap.update p f,toks:=t }:=by
 have e:(s.heap.update p f).get? p=some { cls:=.type "list",data:=.seq its'.toArray n' }:=by
  rw[Wbl f ho (by rw[hf] <;> rfl),hf]
 refine I.write (x:=p) (e:=p) (by rw[h];trivial) (.inl rfl) (λb u hb q=>(Wa3 _ _<|Ne.symm hb).trans q) ⟨_,e⟩ ?_;exact⟨hz,its',n',r,e⟩
def rSetL:V->V->V->Hp->(Hp->Prop)->Prop:=λo i v H Q=>∃p xs k j,o=.ref p/\i=.int k/\H p=some (.lst xs)/\ixN xs.length k=some j/\Q (upd H p (.lst<|xs.set j v))
theorem Zqk:PSet X rSetL:=by
 intro pins s σ H o i v ov iv u Q I ro ri rv h;obtain⟨p,xs,k,j,rfl,rfl,hp,hj,q⟩:=h;cases ro;obtain⟨t,rfl⟩:=ri;obtain⟨its,n,r,ho,hz⟩:=I.lst hp;obtain⟨h1,h2,h3,h4⟩:=Zod hj;have hl:=r.length;have hn:=line63;have I':Inv X pins σ (upd H p (.lst<|xs.set j v)) { s with heap:=s.heap.update p (Obj.mapSeq (·.setIfInBounds j u)) }:=
  I.lstUpd hp ho (Zlr its n j u) (r.set rv j) (by rw[Wct];exact hz) s.toks
 by_cases h0:0<=k
 ·have hk:k.toNat=j:=by
   rw[seqIndex_of h0 h4]at h1;exact Wa5.inj h1
  exact PySem.W.ki_setAt ho h0 (by omega) (by rw[Wan,<- hl];exact h4) (by rw[hk];exact⟨_,I',q⟩)
 ·have hk:(k+(its.toArray.size:Int)).toNat=j:=by
   rw[seqIndex_neg (by omega) h3]at h1;rw[Wan,<- hl];exact Wa5.inj h1
  exact PySem.W.ki_setBack ho (by omega) (by rw[Wan,<- hl];exact h3) (by omega) (by rw[hk];exact⟨_,I',q⟩)
theorem Zi5 (lo hi:Option Int) (n:Nat):(sliceBounds lo hi none n).1=((HT.sIx n 0 lo:Nat):Int)/\(sliceBounds lo hi none n).2.1=((HT.sIx n n hi:Nat):Int)/\(sliceBounds lo hi none n).2.2=1:=by
 refine⟨?_,?_,rfl⟩
 ·cases lo with
  |none=>simp[sliceBounds,HT.sIx]
  |some i=>
   simp only[sliceBounds,HT.sIx,Option.getD_none,show (1:Int) > 0 by decide,if_true];by_cases h:i<0
   ·simp only[h,if_true] <;> omega
   ·simp only[h,if_false] <;> omega
 ·cases hi with
  |none=>simp[sliceBounds,HT.sIx]
  |some i=>
   simp only[sliceBounds,HT.sIx,Option.getD_none,show (1:Int) > 0 by decide,if_true];by_cases h:i<0
   ·simp only[h,if_true] <;> omega
   ·simp only[h,if_false] <;> omega
theorem Zhk (its:List Value) (lo hi:Option Int):slicePick its.toArray lo hi none=((its.drop<|HT.sIx its.length 0 lo).take (HT.sIx its.length its.length hi-HT.sIx its.length 0 lo)).toArray:=by
 obtain⟨h1,h2,h3⟩:=Zi5 lo hi its.toArray.size;unfold slicePick;rw[h1,h2,h3];simp only[sliceRange_one,pick_run,Wan] <;> rfl
def rSlL (K:W.Frag):V->Option Int->Option Int->Hp->VK->Prop:=λx lo hi H Q=>∃a xs,x=.ref a/\SqL K H a xs/\∀p,H p=none->Q (.ref p) (upd H p (.lst<|cutV xs lo hi))
theorem Zt6:SlR X (rSlL X.K):=by
 intro pins s σ H x v vl vu lo hi sl Q I rx hs pl pu h;obtain⟨a,xs,rfl,hx,q⟩:=h;cases rx;obtain⟨its,r,ht,hz⟩:=I.list hx;have hlen:=r.length;refine⟨"list",_,slot_list_getitem.lookup,ht.isList.typeIs,?_⟩;refine wpAny_getItem_list_slice ht.isList hs pl pu .none (by simp) ?_ (by rw[Wan] <;> omega)
 rw[Zhk,<- hlen];refine⟨.ref s.heap.objs.size,_,I.laid (t':=s.toks) (o:=.lst<|cutV xs lo hi) (λb ob q=>Wab _ q) (Waf _) ?_,rfl,q _<|I.hok.fresh<|Waf _⟩;exact⟨Wa8 (Zfm xs lo hi) hz,_,0,(r.drop<|HT.sIx xs.length 0 lo).take (HT.sIx xs.length xs.length hi-HT.sIx xs.length 0 lo),Wam _ rfl⟩
def flatV:V->Bool
 |.non=>true
 |.bl _=>true
 |.int _=>true
 |.str _=>true
 |_=>false
def eqV:V->V->Bool
 |.non,.non=>true
 |.bl a,.bl b=>a == b
 |.bl a,.int b=>(if a then 1 else 0) == b
 |.int a,.bl b=>a == (if b then 1 else 0)
 |.int a,.int b=>a == b
 |.str a,.str b=>a == b
 |_,_=>false
theorem Zru {A:Around}{s:Shared}{y x:V}{u v:Value}(ry:RelV y u) (rx:RelV x v) (fy:flatV y=true) (fx:flatV x=true):SeqAt.EqAt A s u v (eqV y x):=by
 cases y with
 |non=>
  cases ry;cases x with
  |non=>cases rx;exact SeqAt.EqAt.same _
  |bl b=>cases rx;exact SeqAt.EqAt.none_bool b
  |int b=>obtain⟨t,rfl⟩:=rx;exact SeqAt.EqAt.none_int b t
  |str b=>obtain⟨t,rfl⟩:=rx;exact SeqAt.EqAt.none_str b t
  |_=>exact absurd (show false=true from fx) Wal
 |bl a=>
  cases ry;cases x with
  |non=>cases rx;exact SeqAt.EqAt.bool_none a
  |bl b=>cases rx;exact SeqAt.EqAt.bool_bool a b
  |int b=>obtain⟨t,rfl⟩:=rx;exact SeqAt.EqAt.bool_int a b t
  |str b=>obtain⟨t,rfl⟩:=rx;exact SeqAt.EqAt.bool_str a b t
  |_=>exact absurd (show false=true from fx) Wal
 |int a=>
  obtain⟨t',rfl⟩:=ry;cases x with
  |non=>cases rx;exact SeqAt.EqAt.int_none a t'
  |bl b=>cases rx;exact SeqAt.EqAt.int_bool a t' b
  |int b=>obtain⟨t,rfl⟩:=rx;exact SeqAt.EqAt.int_int a t' b t
  |str b=>obtain⟨t,rfl⟩:=rx;exact SeqAt.EqAt.int_str a t' b t
  |_=>exact absurd (show false=true from fx) Wal
 |str a=>
  obtain⟨t',rfl⟩:=ry;cases x with
  |non=>cases rx;exact SeqAt.EqAt.str_none a t'
  |bl b=>cases rx;exact SeqAt.EqAt.str_bool a t' b
  |int b=>obtain⟨t,rfl⟩:=rx;exact SeqAt.EqAt.str_int a t' b t
  |str b=>obtain⟨t,rfl⟩:=rx;exact SeqAt.EqAt.str_str a t' b t
  |_=>exact absurd (show false=true from fx) Wal
 |_=>exact absurd (show false=true from fy) Wal
def eqU (x:V) (u:Value):Bool:=match u with
 |.none=>eqV .non x
 |.bool b=>eqV (.bl b) x
 |.int i _=>eqV (.int i) x
 |.str z _=>eqV (.str z) x
 |_=>false
theorem Zkf {x y:V}{u:Value}(r:RelV y u) (f:flatV y=true):eqU x u=eqV y x:=by
 cases y with
 |non=>cases r;rfl
 |bl b=>cases r;rfl
 |int i=>obtain⟨t,rfl⟩:=r;rfl
 |str z=>obtain⟨t,rfl⟩:=r;rfl
 |_=>exact absurd (show false=true from f) Wal
theorem Zjk {x:V}:∀{xs:List V}{us:List Value},Vals xs us->xs.all flatV=true->us.any (eqU x)=xs.any λy=>eqV y x
 |_,_,.nil,_=>rfl
 |y::xs,u::us,.cons r t,f=>by
  rw[List.all_cons,Waz]at f;rw[Wdc,Wdc,Zkf r f.1,Zjk t f.2]
theorem Zhl {A:Around}{s:Shared}{x:V}{v:Value}(rx:RelV x v) (fx:flatV x=true):∀{xs:List V}{us:List Value},Vals xs us->xs.all flatV=true->∀u∈us,SeqAt.EqAt A s u v (eqU x u)
 |_,_,.nil,_=>λu hu=>by cases hu
 |y::xs,u::us,.cons r t,f=>λu' hu=>by
  rw[List.all_cons,Waz]at f;rcases War.mp hu with rfl|hu
  ·rw[Zkf r f.1];exact Zru r rx f.1 fx
  ·exact Zhl rx fx t f.2 u' hu
def inV (x:V) (xs:List V):Bool:=xs.any λy=>eqV y x
def rIn (K:W.Frag) (neg:Bool):R2:=λx y H Q=>∃p xs,y=.ref p/\(SqL K H p xs\/SqT K H p xs)/\flatV x=true/\xs.all flatV=true/\Q (.bl (if neg then !inV x xs else inV x xs)) H
theorem Zii:OpR X (compareOp .NotIn) (rIn X.K true):=by
 intro pins s σ H x y v u Q I rx ry h;obtain⟨p,xs,rfl,hq,fx,fs,q⟩:=h;cases ry;rcases hq with hq|hq
 ·obtain⟨its,r,pl,hz⟩:=I.list hq
  refine SeqAt.notIn_listAt (eqU x) pl.isList (λw hw=>Zhl rx fx r fs w (by simpa using hw)) ⟨.bl _,H,I,rfl,?_⟩;rw[show its.toArray.any (eqU x)=its.any (eqU x) by simp,Zjk r fs];exact q
 ·obtain⟨its,r,pl,hz⟩:=I.tuple hq
  refine SeqAt.notIn_tupleAt (eqU x) pl (λw hw=>Zhl rx fx r fs w (by simpa using hw)) ⟨.bl _,H,I,rfl,?_⟩;rw[show its.toArray.any (eqU x)=its.any (eqU x) by simp,Zjk r fs];exact q
theorem Zin:CallR X (.builtin "len") (λxs H Q=>∃p ys,xs=[.ref p]/\(SqL X.K H p ys\/SqT X.K H p ys)/\Q (.int ys.length) H):=by
 intro pins s σ H xs us Q I r h;obtain⟨p,ys,rfl,hq,q⟩:=h;obtain⟨u,rfl,rx⟩:=vals1 r;cases rx;have hn:=line63;rcases hq with hq|hq
 ·obtain⟨its,r',pl,hz⟩:=I.list hq
  have hlen:=r'.length;exact Calls.call_len_list pl.isList (by simp only[Wan] <;> omega) ⟨.int ys.length,H,I.tok _,⟨s.toks+1,by rw[Wan,hlen]⟩,q⟩
 ·obtain⟨its,r',pl,hz⟩:=I.tuple hq
  have hlen:=r'.length;exact len_tuple pl (by simp only[Wan] <;> omega) ⟨.int ys.length,H,I.tok _,⟨s.toks+1,by rw[Wan,hlen]⟩,q⟩
theorem CallR.or {f:Value}{r r':List V->Hp->VK->Prop}(h:CallR X f r) (h':CallR X f r'):CallR X f (λxs H Q=>r xs H Q\/r' xs H Q):=by
 intro pins s σ H xs us Q I rs q;rcases q with q|q
 ·exact h pins s σ H xs us Q I rs q
 ·exact h' pins s σ H xs us Q I rs q
theorem Zhg:CallR X (.type "tuple") (λxs H Q=>∃p ys,xs=[.ref p]/\((SqL X.K H p ys/\∀l,H l=none->Q (.ref l) (upd H l (.tup ys)))\/(SqT X.K H p ys/\Q (.ref p) H))):=by
 intro pins s σ H xs us Q I r h;obtain⟨p,ys,rfl,h⟩:=h;obtain⟨u,rfl,rx⟩:=vals1 r;cases rx;rcases h with ⟨hq,q⟩|⟨hq,q⟩
 ·obtain⟨its,r',pl,hz⟩:=I.list hq
  have hlen:=r'.length;refine call_tuple_list pl.isList (λh' kp=>?_) (by simp only[Wan] <;> omega)
  have I1:Inv X pins σ H { s with heap:=h' }:=I.kept (t':=s.toks) kp;have I2:Inv X pins σ (upd H h'.objs.size (.tup ys)) { s with heap:=h'.push { cls:=.type "tuple",data:=.seq its.toArray } }:=
   I1.laid (t':=s.toks) (λb o e=>Wab _ e) (Waf _) (show ObjOk X.prog X.w _ _ _ (.tup ys) from ⟨hz,its,r',IsTupN.new _ _⟩)
  exact⟨.ref h'.objs.size,_,I2,rfl,q _<|I1.hok.fresh<|Waf _⟩
 ·obtain⟨its,r',pl,hz⟩:=I.tuple hq
  exact call_tuple_same pl ⟨.ref p,H,I,rfl,q⟩
def tyV (K:W.Frag) (T:String) (x:V) (H:Hp):Prop:=match x with
 |.str _=>T = "str"
 |.int _=>T = "int"
 |.ref p=>(T = "list" /\ ∃xs,SqL K H p xs)\/(T = "tuple" /\ ((∃o,K.lookup p=some o/\o.cls=.type "tuple" /\ o.dict=none)\/∃xs,H p=some (.tup xs))) ∨
   (T = "dict" /\ ((∃kvs,H p=some (.dK kvs))\/∃kvs,H p=some (.dT kvs)))\/(T = "set" /\ ∃S n,H p=some (.set S n))
 |_=>False
theorem Zus {pins:List (Addr × Obj)}{σ:St}{H:Hp}{s:Shared}{T:String}{x:V}{v:Value}(I:Inv X pins σ H s) (r:RelV x v) (ty:tyV X.K T x H) :
  s.TypeIs v T/\∀a,v=.ref a->∃ob,s.heap.get? a=some ob/\ob.dict=none:=by
 cases x with
 |str z=>
  obtain⟨t,rfl⟩:=r;cases (show T = "str" from ty);exact⟨typeIs_str s z t,λ_ e=>nomatch e⟩
 |int i=>
  obtain⟨t,rfl⟩:=r;cases (show T = "int" from ty);exact⟨typeIs_int s i t,λ_ e=>nomatch e⟩
 |ref p=>
  cases r;rcases ty with ⟨rfl,xs,hq⟩|⟨rfl,(⟨o,hk,hc,hd⟩|⟨xs,hk⟩)⟩|⟨rfl,hk⟩|⟨rfl,S,n,hk⟩
  ·obtain⟨its,_,pl,_⟩:=I.list hq
   refine⟨pl.isList.typeIs,λa e=>?_⟩;cases e;obtain⟨o,n,e,c,hd,_⟩:=pl;exact⟨o,e,hd⟩
  ·refine⟨⟨o,I.kIn p o hk,hc⟩,λa e=>?_⟩
   cases e;exact⟨o,I.kIn _ o hk,hd⟩
  ·obtain⟨_,_,_,o,e,⟨hc,_⟩,hd⟩:=I.hok p _ hk
   refine⟨⟨o,e,hc⟩,λa e2=>?_⟩;cases e2;exact⟨o,e,hd⟩
  ·have z:∃o,s.heap.get? p=some o/\o.ExactDict:=by
    rcases hk with ⟨kvs,hk⟩|⟨kvs,hk⟩
    ·obtain⟨_,_,_,_,o,_,_,e,ex,_⟩:=I.hok p _ hk
     exact⟨o,e,ex⟩
    ·obtain⟨_,_,_,_,o,_,_,e,ex,_⟩:=I.hok p _ hk
     exact⟨o,e,ex⟩
   obtain⟨o,e,ex⟩:=z;refine⟨⟨o,e,ex.1⟩,λa e2=>?_⟩;cases e2;exact⟨o,e,ex.2.1⟩
  ·obtain⟨o,_,_,_,e,ex,_⟩:=I.hok p _ hk
   refine⟨⟨o,e,ex.1⟩,λa e2=>?_⟩;cases e2;exact⟨o,e,ex.2.1⟩
 |_=>exact False.elim ty
def tBM (K:W.Frag) (T:String) (r:V->List V->Hp->VK->Prop) (to:TE) (t:TA):TE:=λσ H Q=>to σ H λx H1=>tyV K T x H1/\t σ H1 λxs H2=>r x xs H2 Q
variable {o e:Expr}{es:List Expr}{to:TE}{t:TA}{name:Str}{apos cpos:Pos}{T id:String}{r:V->List V->Hp->VK->Prop}
theorem Zwv (pa:PlainAttrs T) (slot:Slot T name id) (hty:typeOf (.builtin id)=pure (.type "method_descriptor")) (hm:MtR X id r) (ho:PE X o to) (ha:PA X (e::es) t)
  (hbase:attributeBase o name X.env (eval o X.env)=eval o X.env:=by rfl)
  (hfew:((backTo cpos (starEach (e::es) X.env)).all (λx=>!x.1) && (backToKw cpos (keywordEach [] X.env)).all (λx=>x.1.isSome)
   && decide ((e::es).length+([]:List Keyword).length+(if ([]:List Keyword).isEmpty then 0 else 1)<30))=true:=by rfl)
  (hline:(apos.endLine == cpos.line)=true:=by rfl) (hs:starEach (e::es) X.env=(false,eval e X.env)::starEach es X.env:=by rfl) (hplain:(backTo cpos<|starEach es X.env).any (·.1)=false:=by rfl) :
  PE X (.Call (.Attribute o name apos) (e::es) [] cpos) (tBM X.K T r to t):=by
 intro pins s σ H Q I h;refine wpAny_Call_method_late hbase hfew hline rfl (thn (ho pins s σ H _ I h) λv s1 ⟨x,H1,I1,r1,ty,q1⟩=>?_);obtain⟨h1,h2⟩:=Zus I1 r1 ty;refine⟨T,id,pa,slot,hty,h1,h2,?_⟩;have hA:=ha cpos pins s1 σ H1 _ I1 q1;rw[hs]at hA ⊢;refine Calls.callWith_builtin (by show (false || (backTo cpos<|starEach es X.env).any (·.1))=false;rw[hplain] <;> rfl)<|Calls.evalArgs_plain ?_
 exact thn hA λus s2 ⟨vs,H2,I2,r2,q2⟩=>hm pins s2 σ H2 x vs v us Q I2 r1 r2 q2
end
end L2
namespace L2
open PySem PySem.Spec PyProof.Rows
def MtM (X:Cx) (id:String) (r:V->List V->Hp->VK->Prop):Prop:=
 ∀(pins:List (Addr × Obj)) (s:Shared) (σ:St) (H:Hp) (x:V) (xs:List V) (v:Value) (us:List Value) (Q:VK),Inv X pins σ H s->RelV x v->Vals xs us->r x xs H Q →
  wpAny (model X.prog X.w) X.A (call (.builtin id) (v::us)) (EP X pins σ Q) X.xe s
theorem Vals.one:∀{x:V}{us:List Value},Vals [x] us->∃u,us=[u]/\RelV x u:=by
 intro x us h;cases h with|cons r t=>cases t;exact⟨_,rfl,r⟩
theorem Vals.eraseIdx:∀{xs:List V}{us:List Value}(i:Nat),Vals xs us->Vals (xs.eraseIdx i) (us.eraseIdx i)
 |_,_,_,.nil=>.nil
 |_,_,0,.cons _ t=>t
 |_,_,i+1,.cons r t=>.cons r (Vals.eraseIdx i t)
theorem Zix {α:Type}:∀(l:List α) (i:Nat),(l.eraseIdx i).length<=l.length
 |[],_=>Waf _
 |_::_,0=>Wca _
 |_::r,i+1=>Nat.succ_le_succ (Zix r i)
section
variable {X:Cx}{pins:List (Addr × Obj)}{σ:St}{H:Hp}{s:Shared}{l b:Addr}{xs ys zs:List V}
theorem Inv.lset {its its':List Value}{n:Nat}{f:Array Value->Array Value}{t':Nat}(I:Inv X pins σ H s) (hH:H l=some (.lst xs))
  (e:s.heap.get? l=some { cls:=.type "list",data:=.seq its.toArray n }) (hf:f its.toArray=its'.toArray) (hv:Vals ys its') (hz:ys.length<=sizeLine) :
  Inv X pins σ (upd H l (.lst ys)) { s with heap:=s.heap.update l<|Obj.mapSeq f,toks:=t' }:=by
 have q:=PySem.IsL.update e f;rw[hf]at q;refine I.write (x:=l) (e:=l) (by rw[hH];exact trivial) (.inl rfl) (λb' u hb hu=>(Wa3 s.heap (Obj.mapSeq f)<|Ne.symm hb).trans hu) ⟨_,q⟩ ?_;exact⟨hz,its',_,hv,q⟩
theorem Inv.lnew {its:List Value}{t':Nat}(I:Inv X pins σ H s) (hv:Vals ys its) (hz:ys.length<=sizeLine) :
  Inv X pins σ (upd H s.heap.objs.size (.lst ys)) { s with heap:=s.heap.push { cls:=.type "list",data:=.seq its.toArray },toks:=t' }:=
 I.laid (λ_ _ q=>Wab _ q) (Waf _) ⟨hz,its,0,hv,Wam _ rfl⟩
theorem Inv.fresh (I:Inv X pins σ H s):H s.heap.objs.size=none:=I.hok.fresh<|Waf _
theorem Inv.lstM (I:Inv X pins σ H s) (hH:H l=some (.lst xs)):xs.length<=sizeLine/\∃(its:List Value) (n:Nat),Vals xs its/\xs.length=its.length/\s.heap.get? l=some { cls:=.type "list",data:=.seq its.toArray n }:=by
 obtain⟨z,its,n,r,e⟩:=I.hok l _ hH;exact⟨z,its,n,r,r.length,e⟩
end
section
variable {X:Cx}
def rAppend:V->List V->Hp->VK->Prop:=λx vs H Q=>∃l xs y,x=.ref l/\vs=[y]/\H l=some (.lst xs)/\xs.length<sizeLine/\Q .non (upd H l (.lst<|xs++[y]))
theorem Zbc:MtM X "list.append" rAppend:=by
 intro pins s σ H x vs v us Q I rx rv h;obtain⟨l,xs,y,rfl,rfl,hH,hz,q⟩:=h;cases rx;obtain⟨u,rfl,ru⟩:=rv.one;obtain⟨z,its,n,r,hl,e⟩:=I.lstM hH;refine call_meets F.slot_list_append ⟨_,e,rfl⟩ F.entry_list_append (F.args_list_append_2 _ _) (PySem.list_append l its.toArray n u (by rw[Wan];omega)) ⟨e,?_⟩;refine⟨.non,_,I.lset (its':=its++[u]) hH e (by simp) (r.append (.cons ru .nil)) ?_,rfl,q⟩;rw[Wao,Wch];omega
def rPopAt:V->List V->Hp->VK->Prop:=λx vs H Q=>∃l xs i k y,x=.ref l/\vs=[.int i]/\H l=some (.lst xs) /\ -(2 ^ 63)<=i/\i<2 ^ 63/\seqIndex? i xs.length=some k/\xs[k]?=some y/\Q y (upd H l (.lst<|xs.eraseIdx k))
theorem Zqu:MtM X "list.pop" rPopAt:=by
 intro pins s σ H x vs v us Q I rx rv h;obtain⟨l,xs,i,k,y,rfl,rfl,hH,h1,h2,hk,hy,q⟩:=h;cases rx;obtain⟨u,rfl,ru⟩:=rv.one;obtain⟨t,rfl⟩:=ru;obtain⟨z,its,n,r,hl,e⟩:=I.lstM hH;obtain⟨w,hw,rw'⟩:=r.get hy;refine call_meets F.slot_list_pop ⟨_,e,rfl⟩ F.entry_list_pop (F.args_list_pop_2 _ _)
  (MeetsSeq.list_pop_at l its.toArray n i t k w (fitsIndex_both h1 h2) (by rw[Wan,<- hl];exact hk) (by rw[<- Array.getElem?_toList];exact hw) (by rw[Wan];omega)) ⟨e,?_⟩
 refine⟨y,_,I.lset (its':=its.eraseIdx k) hH e ?_ (r.eraseIdx k) ?_,rw',q⟩
 ·show its.toArray.eraseIdxIfInBounds k=(its.eraseIdx k).toArray
  rw[List.eraseIdxIfInBounds_toArray]
 ·have:=Zix xs k
  omega
def rCat:R2:=λx y H Q=>∃l b xs zs,x=.ref l/\y=.ref b/\H l=some (.lst xs)/\H b=some (.lst zs)/\xs.length+zs.length<=sizeLine/\∀p,H p=none->Q (.ref p) (upd H p (.lst<|xs++zs))
theorem Zv9:OpR X (binaryOp .Add) rCat:=by
 intro pins s σ H x y v u Q I rx ry h;obtain⟨l,b,xs,zs,rfl,rfl,hH,hB,hz,q⟩:=h;cases rx;cases ry;obtain⟨z,its,n,r,hl,e⟩:=I.lstM hH;obtain⟨z2,its2,n2,r2,hl2,e2⟩:=I.lstM hB;refine PySem.P.add_list e e2 ?_ (by rw[Wan,Wan];omega);have ea:its.toArray++its2.toArray=(its++its2).toArray:=by simp
 rw[ea];exact⟨.ref _,_,I.lnew (t':=s.toks) (r.append r2) (by rw[Wao];omega),rfl,q _ I.fresh⟩
end
end L2
namespace Att
open PySem PySem.W PySem.Calls PyProof.Rows
theorem Zf9 {P:Params}{h:Heap}:∀(ns:List Int) (vs:List Value),WellAll P h vs (ns.map WData.int)->IntsAre vs ns:=by
 intro ns
 induction ns with
 |nil=>
  intro vs w;rw[Wds]at w;cases w;exact .nil
 |cons n ns ih=>
  intro vs w;rw[Wbr]at w;cases w with
  |cons a b=>
   cases a;exact .cons _ _<|ih _ b
theorem Zpb {l:OpenLaw}{n:Nat}(hn:l.most=some n) {P:Params}{h:Heap}{args:List WData}{vals:List Value}
  (hpre:l.row.toRowW.claim.pre args=true) (hwl:WellAll P h vals args) :
  ∃a vs ns,vals=[Value.ref a]/\args=[WData.list (ns.map WData.int)]/\h.get? a=some { cls:=.type "list",data:=.seq vs.toArray } /\ IntsAre vs ns/\ns.length<=n:=by
 have hsh:WShape.hasAll [] args [.list .int]=true:=(pre_splitW hpre).1;have hc:l.pre.holds [] { args:=args } = true:=(pre_splitW hpre).2;obtain⟨d,r,rfl,h1,h2⟩:=hasAllW_cons hsh;obtain rfl:=hasAllW_nil h2;obtain⟨xs,rfl,h3⟩:=hasW_list h1;obtain⟨ns,rfl⟩:=items_int h3;have hlen:ns.length<=n:=by
  unfold OpenLaw.pre at hc;have h4:(WTm.not (.lt (.lit (.int (n:Int))) (.len (.arg 0)))).holds [] { args:=[.list (ns.map .int)] } = true:=by
   have h4:=(holds_andW hc).1;rw[hn]at h4;exact h4
  have h5:=condW_of h4<|w_not<|w_lt w_lit<|w_len_list<|w_arg rfl;rw[Wac]at h5;refine Nat.le_of_not_lt λq=>?_;have q':(n:Int)<((ns.length:Nat):Int):=by omega
  first
   | (rw[decide_eq_true q']at h5;exact absurd h5 (by decide))
   | (simp at h5;omega)
 cases hwl with
 |cons w1 w2=>
  cases w2;cases w1 with
  |list ho hall=>exact⟨_,_,ns,rfl,rfl,ho,Zf9 ns _ hall,hlen⟩
theorem Zoq (l:OpenLaw) (args:List WData):l.row.toRowW.claim.post args (.bool true) args=true:=
 postW_of (r:=l.row.toRowW) (X:=(true == true))
  (show WShape.has [] (.bool true) .bool=true by first|rfl|decide|simp[WShape.has,WShape.arms,WShape.armsAll])
  (show (WTm.eq .res (.lit (.bool true))).value [] { args:=args,res:=some (.bool true),after:=args } = some (.bool (true == true)) from w_eq_bool (w_res rfl) w_lit) rfl
theorem attach_call {l:OpenLaw}{n:Nat}{q:Program}{loose:List Str}{XP:(Str->Option Value)->Heap->Prop}{YP:World->Heap->Prop}{d:DefRec}
  (hn:l.most=some n) (hdf:d.params.defaults=[])
  (call:∀(w:World) (s₀ s₁:Shared) (mg mb:Str->Option Value) (fa:Addr) (o:Obj) (pm cd doc:Value) (a:Addr) (vs:List Value) (ns:List Int),
   Ground q loose [] XP w s₀ mg mb s₁.heap->YP w s₁.heap →
   s₁.heap.get? fa=some o->o.data=.func (docDef d.name d.params d.body d.scope pm cd doc)->s₁.heap.CodeRec cd d.name->mg d.name=some (.ref fa) →
   s₁.heap.get? a=some { cls:=.type "list",data:=.seq vs.toArray } -> IntsAre vs ns->ns.length<=n->s₁.gens = #[] →
   codeAny (model l.prog w) callerA (.call (.ref fa) ⟨[.ref a],[]⟩) (λr s'=>r=.ok (.ret (.bool true))/\OldK s₁.heap s'.heap/\s'.os=s₁.os/\AllBare s'.gens) s₁) :
  WalkO q loose XP YP l.row.toRowW d [] (λf vs=>PySem.call f vs):=by
 intro w s₀ s₁ mg mb G Y fa o pm cd doc dV kV ho hd hcd hD hmg hg args vals as hpre hlay hrd hwl hlo;obtain rfl:dV=.none:=Dflts.none hD hdf;obtain rfl:kV=.none:=Dflts.noKw hD;obtain⟨a,vs,ns,rfl,rfl,hobj,hints,hlen⟩:=Zpb hn hpre hwl;refine enter_call (codeAny_mono (call w s₀ s₁ mg mb fa o pm cd doc a vs ns G Y ho (fd_plain hd) hcd hmg hobj hints hlen hg) λr s' hq=>?_);obtain⟨rfl,h2,h3,h4⟩:=hq;exact⟨.inl ⟨.bool true,.bool true,[],rfl,λ_=>rfl,.bool true,Zoq l _,λ_=>⟨List.Pairwise.nil,λ_ hm=>(nomatch hm)⟩⟩,h2,h3,h4⟩
section
variable {prog:Program}{w:World}{A:Around}{E:Value->Shared->Prop}{s:Shared}{K:Frag}
def noObjs (h:Heap):Heap:={ h with objs:=#[] }
end
end Att
namespace L2
open PySem PySem.Spec PyProof.Rows
theorem Zej:∀{vs:List Value}{ns:List Int},IntsAre vs ns->Vals (ns.map V.int) vs
 |_,_,.nil=>.nil
 |_,_,.cons n t h=>.cons ⟨t,rfl⟩ (Zej h)
end L2
namespace L2
open PySem PySem.Spec PyProof.Rows
end L2
namespace L2
open PySem PySem.Spec PyProof.Rows
def defArgs (s:Stmt):Arguments:=match s with
 |.FunctionDef _ a _ _ _ _ _ _ _ _=>a
 |_=>{ posonlyargs:=[],args:=[],vararg:=none,kwonlyargs:=[],kw_defaults:=[],kwarg:=none,defaults:=[] }
def defBody (s:Stmt):List Stmt:=match s with
 |.FunctionDef _ _ b _ _ _ _ _ _ _=>b
 |_=>[]
def defScope (s:Stmt):Scope:=match s with
 |.FunctionDef _ _ _ _ _ _ sc _ _ _=>sc
 |_=>{ kind:=.function,names:=[],isGenerator:=false,isCoroutine:=false }
abbrev CX0:CXT:=λ_ _ _ _ _ _=>False
abbrev E0:XK:=λ_ _ _=>False
theorem pass0 {X:Cx}:Passes CX0 X E0:=λ_ _ _ _ _ _ _ h=>h.elim
structure Fun (K:W.Frag) (x qual:Str) (st:Stmt) (f:Addr) (fd:FuncData):Prop where
 ex:∃(oc:Value) (od:Option Addr) (kV doc pm:Value) (an:Option Addr) (cdv ct:Value) (osl:Array (Option Value)),
  fd=W.fnOf x qual (defArgs st) (defBody st) (defScope st) .none kV doc pm an cdv ct/\K.lookup f=some ⟨oc,od,.func fd,osl⟩ /\ W.codeIn K cdv qual=true
 kp:W.keepIn K (.ref f)=true
section
variable {P:Program}{w:World}{K:W.Frag}{mg:Str->Option Value}{base:Heap}
theorem Fun.ok {x qual:Str}{st:Stmt}{f:Addr}{fd:FuncData}{N ps:List Str}{k:Nat}{sp:Sp}(F:Fun K x qual st f fd) (S:FnScope N ps (defScope st)) (len:∀vs H Q E,sp vs H Q E->vs.length=ps.length)
  (hbody:∀(cdv:Value) (A:Around) (outer:List Env) (s:Shared) (H:Hp) (vs:List V) (Q:VK) (E:XK),Room k (A.deeper (envOfC qual (defScope st) s.heap.objs.size f cdv))->sp vs H Q E →
   ∃t,PSs (cxOf CX0 P w K mg base N qual (defScope st) f cdv A outer s H E).nox (defBody st) t/\t { nx:=λ_ H'=>Q .non H',rt:=Q } (start N vs) H):FnOk P w K mg base CX0 (k+1) f fd ps sp:=by
 obtain⟨oc,od,kV,doc,pm,an,cdv,ct,osl,rfl,lk,hcd⟩:=F.ex;refine Zr5 lk hcd S len λA outer s H vs Q E hr hsp=>?_;obtain⟨t,h,q⟩:=hbody cdv A outer s H vs Q E hr hsp;exact⟨t,h.nox,q⟩
theorem Fun.binds {x qual:Str}{st:Stmt}{f:Addr}{fd:FuncData}{ps:List Str}(F:Fun K x qual st f fd)
  (h:∀(kV doc pm:Value) (an:Option Addr) (cdv ct:Value) (us:List Value),us.length=ps.length->bindArgs (W.fnOf x qual (defArgs st) (defBody st) (defScope st) .none kV doc pm an cdv ct) ⟨us,[]⟩=pure (ps.zip us)):Binds K fd ps []:=by
 obtain⟨oc,od,kV,doc,pm,an,cdv,ct,osl,rfl,lk,hcd⟩:=F.ex;exact .all<|h kV doc pm an cdv ct
theorem Zvz {x qual:Str}{st:Stmt}{f:Addr}{oc:Value}{od an:Option Addr}{osl:Array (Option Value)}{kV doc pm cdv ct:Value}(l:K.lookup f=some ⟨oc,od,.func<|W.fnOf x qual (defArgs st) (defBody st) (defScope st) .none kV doc pm an cdv ct,osl⟩)
  (c:W.codeIn K cdv qual=true) (k:W.keepIn K (.ref f)=true):Fun K x qual st f (W.fnOf x qual (defArgs st) (defBody st) (defScope st) .none kV doc pm an cdv ct):=⟨⟨oc,od,kV,doc,pm,an,cdv,ct,osl,rfl,l,c⟩,k⟩
end
theorem Zbn {A:Around}{k:Nat}(hr:Room k A):A.units+1<cLine:=Wb2 (Wdp (by decide:1<=64) _) hr.units
theorem small1000 {n:Nat}(h:n<=1000):n<sizeLine:=Wb2 h (by decide)
section
variable {X:Cx}
theorem pv (i:Nat) {x:Str}{pos:Pos}(hN:X.N[i]?=some x:=by rfl) (hv:Vis X.env.scope x:=by first|exact Or.inl rfl|exact Or.inr (Or.inl rfl)|exact Or.inr<|Or.inr rfl) (hd:(x == ("__debug__":Str))=false:=by decide)
  (hcd:(x == ("__classdict__":Str))=false:=by decide):PE X (.Name x pos) (tVar i):=Zoy hN hv hd hcd
end
theorem iteF {A B:Prop}(h:B):if false=true then A else B:=by
 rw[if_neg Wal];exact h
theorem iteT {A B:Prop}(h:A):if true=true then A else B:=by
 rw[if_pos rfl];exact h
theorem ite2 {c A B:Prop}[Decidable c] (h1:c->A) (h2:¬ c->B):if c then A else B:=by
 by_cases h:c
 ·rw[if_pos h]
  exact h1 h
 ·rw[if_neg h]
  exact h2 h
def Same (H H':Hp):Prop:=∀b o,H b=some o->H' b=some o
theorem Same.refl (H:Hp):Same H H:=λ_ _ h=>h
theorem Same.trans {H H1 H2:Hp}(a:Same H H1) (b:Same H1 H2):Same H H2:=λc o h=>b c o<|a c o h
theorem Same.seq {K:W.Frag}{H H':Hp}{a:Addr}{xs:List V}(e:Same H H') (h:SqL K H a xs):SqL K H' a xs:=by
 rcases h with (h|⟨o,h⟩)|h
 ·exact .inl (.inl<|e _ _ h)
 ·exact .inl (.inr ⟨o,e _ _ h⟩)
 ·exact .inr h
end L2
namespace L2
open PySem PySem.Spec PyProof.Rows
section
variable {κ:Type}[DecidableEq κ]
def valV (kvs:List (κ × V)) (k:κ):Option V:=(kvs.find? λkv=>decide (kv.1=k)).map (·.2)
def putK (kvs:List (κ × V)) (k:κ) (v:V):List (κ × V):=
 if (kvs.any λkv=>decide (kv.1=k))=true then kvs.map (λkv=>if kv.1=k then (kv.1,v) else kv) else kvs++[(k,v)]
theorem Zhy {p:κ × V}{r:List (κ × V)}{k:κ}(e:p.1=k):valV (p::r) k=some p.2:=by simp[valV,Wcu,e]
theorem Zh7 {p:κ × V}{r:List (κ × V)}{k:κ}(e:¬ p.1=k):valV (p::r) k=valV r k:=by simp[valV,Wcu,e]
theorem Zkk (k:κ):∀kvs:List (κ × V),(kvs.any λkv=>decide (kv.1=k))=(valV kvs k).isSome
 |[]=>rfl
 |p::r=>by
  rw[Wdc];by_cases e:p.1=k
  ·simp only[Zhy e,decide_eq_true e,Bool.true_or,Option.isSome_some]
  ·rw[Zh7 e,decide_eq_false e,Bool.false_or];exact Zkk k r
theorem Zfr (kvs:List (κ × V)) (k:κ) (v:V):(putK kvs k v).length<=kvs.length+1:=by
 unfold putK;split
 ·rw[Wac];omega
 ·rw[Wao,Wa2,List.length_nil];omega
theorem RelO.isSome_eq {o:Option V}{u:Option Value}(r:RelO o u):o.isSome=u.isSome:=by
 cases o with
 |none=>cases u with
  |none=>rfl
  |some _=>exact(show False from r).elim
 |some _=>cases u with
  |none=>exact(show False from r).elim
  |some _=>rfl
theorem KV.val {kvs:List (κ × V)}{vs:List (κ × Value)}(r:KV kvs vs) (k:κ):RelO (valV kvs k) (valueAt vs k):=by
 unfold KV at r
 induction r with
 |nil=>exact True.intro
 |@cons p q ps qs h t ih=>
  obtain⟨h1,h2⟩:=h;by_cases e:p.1=k
  ·have e':q.1=k:=h1.symm.trans e
   have b:valueAt (q::qs) k=some q.2:=by simp[valueAt,Wcu,e']
   rw[Zhy e,b];exact h2
  ·have e':¬ q.1=k:=λz=>e (h1.trans z)
   have b:valueAt (q::qs) k=valueAt qs k:=by simp[valueAt,Wcu,e']
   rw[Zh7 e,b];exact ih
theorem KV.any {kvs:List (κ × V)}{vs:List (κ × Value)}(r:KV kvs vs) (k:κ):(kvs.any λkv=>decide (kv.1=k))=vs.any λkv=>decide (kv.1=k):=by
 unfold KV at r
 induction r with
 |nil=>rfl
 |cons h t ih=>rw[Wdc,Wdc,ih,h.1]
theorem KV.repl {kvs:List (κ × V)}{vs:List (κ × Value)}(r:KV kvs vs) (k:κ) {y:V}{u:Value}(ry:RelV y u) :
  KV (kvs.map λkv=>if kv.1=k then (kv.1,y) else kv) (vs.map λkv=>if kv.1=k then (kv.1,u) else kv):=by
 unfold KV at r ⊢
 induction r with
 |nil=>exact .nil
 |@cons p q ps qs h t ih=>
  rw[Wbr,Wbr];refine .cons ?_ ih;obtain⟨h1,h2⟩:=h;by_cases e:p.1=k
  ·rw[if_pos e,if_pos (h1.symm.trans e)];exact⟨h1,ry⟩
  ·rw[if_neg e,if_neg (λz=>e<|h1.trans z)];exact⟨h1,h2⟩
theorem KV.put {kvs:List (κ × V)}{vs:List (κ × Value)}(r:KV kvs vs) (k:κ) {y:V}{u:Value}(ry:RelV y u):KV (putK kvs k y) (stored vs k u):=by
 unfold putK stored;rw[r.any k];by_cases e:(vs.any λkv=>decide (kv.1=k))=true
 ·rw[if_pos e,if_pos e];exact r.repl k ry
 ·rw[if_neg e,if_neg e];exact Paired.snoc r ⟨rfl,ry⟩
theorem KV.length {kvs:List (κ × V)}{vs:List (κ × Value)}(r:KV kvs vs):kvs.length=vs.length:=Paired.length r
end
theorem Zpo {P:Program}{w:World}{k:Key}{u:Value}(r:RelV (kV k) u):(mixKind P w).is k u=true:=by
 cases k with
 |inl i=>obtain⟨t,e⟩:=(show ∃t,u=Value.int i t from r);subst e;exact Zjx P w i t
 |inr x=>obtain⟨t,e⟩:=(show ∃t,u=Value.str x t from r);subst e;exact Zjy P w x t
theorem Zig {P:Program}{w:World}:∀{ks:List Key}{us:List Value},Vals (ks.map kV) us->ItemsAre (mixKind P w) ks us
 |[],_,r=>by rw[Wds]at r;cases r;exact .nil
 |k::ks,_,r=>by
  rw[Wbr]at r;cases r with
  |cons h t=>exact .cons (Zpo h) (Zig t)
abbrev KT (H:Hp):List (List Key × V)->List (List Key × Addr × Value)->Prop:=Paired λp q=>p.1=q.1/\H q.2.1=some (.tup<|p.1.map kV)/\RelV p.2 q.2.2
theorem KT.val {H:Hp}{kvs:List (List Key × V)}{xs:List (List Key × Addr × Value)}(r:KT H kvs xs) (k:List Key):RelO (valV kvs k) ((atKey xs k).map (·.2)):=by
 induction r with
 |nil=>exact True.intro
 |@cons p q ps qs h t ih=>
  obtain⟨h1,_,h2⟩:=h;by_cases e:p.1=k
  ·have e':q.1=k:=h1.symm.trans e
   have b:atKey (q::qs) k=some q.2:=by simp[atKey,Wcu,e']
   rw[Zhy e,b];exact h2
  ·have e':¬ q.1=k:=λz=>e (h1.trans z)
   have b:atKey (q::qs) k=atKey qs k:=by simp[atKey,Wcu,e']
   rw[Zh7 e,b];exact ih
theorem KT.repl {H:Hp}{kvs:List (List Key × V)}{xs:List (List Key × Addr × Value)}(r:KT H kvs xs) (k:List Key) {y:V}{u:Value}(ry:RelV y u) :
  KT H (kvs.map λkv=>if kv.1=k then (kv.1,y) else kv) (xs.map<|putAt k u):=by
 induction r with
 |nil=>exact .nil
 |@cons p q ps qs h t ih=>
  rw[Wbr,Wbr];refine .cons ?_ ih;obtain⟨h1,h2,h3⟩:=h;unfold putAt;by_cases e:p.1=k
  ·rw[if_pos e,if_pos (h1.symm.trans e)];exact⟨h1,h2,ry⟩
  ·rw[if_neg e,if_neg (λz=>e<|h1.trans z)];exact⟨h1,h2,h3⟩
theorem KT.put {H:Hp}{kvs:List (List Key × V)}{xs:List (List Key × Addr × Value)}(r:KT H kvs xs) (k:List Key) {b:Addr}{y:V}{u:Value}(hb:H b=some (.tup<|k.map kV)) (ry:RelV y u) :
  KT H (putK kvs k y) (storedH xs k b u):=by
 have e:(kvs.any λkv=>decide (kv.1=k))=(atKey xs k).isSome:=by
  rw[Zkk,(r.val k).isSome_eq,Option.isSome_map]
 unfold putK storedH;rw[e];by_cases q:(atKey xs k).isSome=true
 ·rw[if_pos q,if_pos q];exact r.repl k ry
 ·rw[if_neg q,if_neg q];exact Paired.snoc r ⟨rfl,hb,ry⟩
theorem KT.keeps {H H':Hp}{kvs:List (List Key × V)}{xs:List (List Key × Addr × Value)}(r:KT H kvs xs) (ht:∀b ys,H b=some (.tup ys)->H' b=some (.tup ys)):KT H' kvs xs:=
 Paired.mapP r λ_ _ z=>⟨z.1,ht _ _ z.2.1,z.2.2⟩
section
variable {P:Program}{w:World}{H:Hp}{h:Heap}{a:Addr}
theorem Zut {u:HO}(ok:HOk P w H h) (e:Rd H a u):ObjOk P w H h a u:=e.ok ok
theorem Zo3 {kvs:List (Key × V)}(ok:HOk P w H h) (e:Rd H a (.dK kvs)):kvs.length<=sizeLine/\(a == sysModules)=false/\∃vs,KV kvs vs/\h.DictOf (mixKind P w) a vs:=
 show ObjOk P w H h a (.dK kvs) from Zut ok e
theorem Zwx {kvs:List (Key × V)}(ok:HOk P w H h) (e:H a=some (.dK kvs)):kvs.length<=sizeLine/\(a == sysModules)=false/\∃vs,KV kvs vs/\h.DictOf (mixKind P w) a vs:=Zo3 ok (.inl e)
theorem Zko {ks:List Key}(ok:HOk P w H h) (e:H a=some (.tup<|ks.map kV)):(tupleKind<|mixKind P w).is h ks a:=by
 obtain⟨_,its,r,o,h1,⟨h2,n,h3⟩,_⟩:=(show ObjOk P w H h a (.tup<|ks.map kV) from ok a _ e);exact⟨o,its.toArray,n,h1,h2,h3,by simpa using Zig r⟩
theorem Zp4 {kvs:List (List Key × V)}(ok:HOk P w H h) (e:Rd H a (.dT kvs)):kvs.length<=sizeLine/\(a == sysModules)=false ∧
  ∃xs,KT H kvs xs/\h.DictOfH (tupleKind<|mixKind P w) a xs:=by
 obtain⟨z,y,xs,r,o,es,ep,h1,h2,h3,h4,h5⟩:=(show ObjOk P w H h a (.dT kvs) from Zut ok e);refine⟨z,y,xs,r,o,es,ep,h1,h2,h3,h4,λx hx=>?_,h5⟩;have all:∀{l:List (List Key × V)}{m:List (List Key × Addr × Value)},KT H l m->∀x∈m,(tupleKind<|mixKind P w).is h x.1 x.2.1:=by
  intro l m q
  induction q with
  |nil=>intro x hx;exact nomatch hx
  |@cons p q ps qs hq t ih=>
   intro x hx;rcases War.mp hx with e|hx
   ·subst e
    exact Zko ok (by rw[<- hq.1];exact hq.2.1)
   ·exact ih x hx
 exact all r x hx
theorem Zwj {kvs:List (List Key × V)}(ok:HOk P w H h) (e:H a=some (.dT kvs)):kvs.length<=sizeLine/\(a == sysModules)=false ∧
  ∃xs,KT H kvs xs/\h.DictOfH (tupleKind<|mixKind P w) a xs:=Zp4 ok (.inl e)
end
def DGet (H:Hp) (a:Addr) (y:V) (r:Option V):Prop:=
 (∃kvs k,Rd H a (.dK kvs)/\y=kV k/\r=valV kvs k)\/∃kvs k b,Rd H a (.dT kvs)/\y=.ref b/\H b=some (.tup<|k.map kV)/\r=valV kvs k
def DPut (H:Hp) (a:Addr) (y v:V) (H':Hp):Prop:=
 (∃kvs k,H a=some (.dK kvs)/\y=kV k/\kvs.length<sizeLine/\H'=upd H a (.dK<|putK kvs k v)) ∨
 ∃kvs k b,H a=some (.dT kvs)/\y=.ref b/\H b=some (.tup<|k.map kV)/\kvs.length<sizeLine/\H'=upd H a (.dT<|putK kvs k v)
section
variable {X:Cx}{pins:List (Addr × Obj)}{σ:St}{H:Hp}{s:Shared}{a:Addr}{y v:V}{u r:Value}{o:Option V}{A:Around}{E:Value->Shared->Prop}
theorem Zny {Q:Value->Shared->Prop}(hu:A.units+1<cLine) (I:Inv X pins σ H s) (g:DGet H a y (some v)) (ry:RelV y u) (h:∀w' s',Inv X pins σ H s' -> RelV v w' -> Q w' s') :
  wpAny (model X.prog X.w) A (getItem (.ref a) u) Q E s:=by
 rcases g with ⟨kvs,k,e,ey,l⟩|⟨kvs,k,b,e,ey,eb,l⟩
 ·subst ey
  obtain⟨z,hd,vs,rel,dd⟩:=Zo3 I.hok e;obtain⟨w',hw,rw'⟩:=RelO.some_of (v:=v) (o:=valueAt vs k) (by rw[l];exact rel.val k);exact wpAny_getItem_of (Zpo ry) dd.mapOf hw<|h w' _ (I.tok _) rw'
 ·subst ey
  cases (show u=Value.ref b from ry);obtain⟨z,hd,xs,rel,dd⟩:=Zp4 I.hok e;obtain⟨w',hw,rw'⟩:=RelO.some_of (v:=v) (o:=(atKey xs k).map (·.2)) (by rw[l];exact rel.val k);obtain⟨p,hp,hp2⟩:=Option.map_eq_some_iff.mp hw;refine wpAny_getItem_heap (tupleKind_room_in1 hu) (Zko I.hok eb) dd hp ?_;rw[hp2];exact h w' _ (I.tok _) rw'
theorem Zsb {Q:Value->Shared->Prop}(hu:A.units+1<cLine) (I:Inv X pins σ H s) (g:DGet H a y o) (ry:RelV y u) (h:∀s',Inv X pins σ H s' -> Q (.bool (!o.isSome)) s') :
  wpAny (model X.prog X.w) A (compareOp .NotIn u (.ref a)) Q E s:=by
 rcases g with ⟨kvs,k,e,ey,l⟩|⟨kvs,k,b,e,ey,eb,l⟩
 ·subst ey
  obtain⟨z,hd,vs,rel,dd⟩:=Zo3 I.hok e;refine wpAny_notIn_of (Zpo ry) hd dd.mapOf ?_;rw[<- (rel.val k).isSome_eq,<- l];exact h _<|I.tok _
 ·subst ey
  cases (show u=Value.ref b from ry);obtain⟨z,hd,xs,rel,dd⟩:=Zp4 I.hok e;refine wpAny_notIn_heap (tupleKind_room_in1 hu) (Zko I.hok eb) hd dd ?_;have q:=(rel.val k).isSome_eq;rw[Option.isSome_map]at q;rw[<- q,<- l];exact h _<|I.tok _
theorem Zjl {h':Heap}{t':Nat}{ob:HO}(I:Inv X pins σ H s) (mu:Mut (H a)) (hs:Heap.SameBut a s.heap h') (he:∃q,h'.get? a=some q) (new:ObjOk X.prog X.w (upd H a ob) h' a ob) :
  Inv X pins σ (upd H a ob) { s with heap:=h',toks:=t' }:=
 I.write (x:=a) (e:=a) mu (.inl rfl) (λb q hb z=>(hs.2 b hb).trans z) he new
theorem Zvi {P:Program}{w:World}{H':Hp}{h':Heap}{kvs:List (Key × V)}{vs:List (Key × Value)}(z:kvs.length<=sizeLine) (hd:(a == sysModules)=false) (rel:KV kvs vs) (dd:h'.DictOf (mixKind P w) a vs) :
  ObjOk P w H' h' a (.dK kvs):=⟨z,hd,vs,rel,dd⟩
theorem Zn8 {H':Hp}{Q:Unit->Shared->Prop}(hu:A.units+1<cLine) (I:Inv X pins σ H s) (g:DPut H a y v H') (ry:RelV y u) (rv:RelV v r) (h:∀s',Inv X pins σ H' s' -> Q () s') :
  wpAny (model X.prog X.w) A (setItem (.ref a) u r) Q E s:=by
 rcases g with ⟨kvs,k,e,ey,l,eH⟩|⟨kvs,k,b,e,ey,eb,l,eH⟩
 ·subst ey eH
  obtain⟨z,hd,vs,rel,dd⟩:=Zwx I.hok e;have hz:vs.length<=sizeLine:=by rw[<- rel.length];exact z
  have hl:(putK kvs k v).length<=sizeLine:=by have:=Zfr kvs k v;omega
  refine wpAny_setItem_pairs (hsz:=hz) (Zpo ry) dd λh' dd' hs=>h _ ?_;have he:∃q,h'.get? a=some q:=let ⟨q,_,_,hq,_⟩:=dd'; ⟨q,hq⟩
  exact Zjl I (by rw[e];exact True.intro) hs he<|Zvi hl hd (rel.put k rv) dd'
 ·subst ey eH
  cases (show u=Value.ref b from ry);obtain⟨z,hd,xs,rel,dd⟩:=Zwj I.hok e;have hz:xs.length<=sizeLine:=by rw[<- Paired.length rel];exact z
  have hl:(putK kvs k v).length<=sizeLine:=by have:=Zfr kvs k v;omega
  refine wpAny_setItem_heap (hsz:=hz) (tupleKind_room_in1 hu) (Zko I.hok eb) dd λh' dd' hs=>h _ ?_;obtain⟨q,es,ep,hq,h2,h3,h4,_,h5⟩:=dd';refine Zjl I (by rw[e];exact True.intro) hs ⟨q,hq⟩ ⟨hl,hd,_,(rel.put k eb rv).keeps λc ys ec=>?_,q,es,ep,hq,h2,h3,h4,h5⟩;rw[Zak (Zwi ec e λz=>nomatch z)];exact ec
end
section
variable {X:Cx}{pins:List (Addr × Obj)}{σ:St}{H:Hp}{s:Shared}{a:Addr}{kvs:List (Key × V)}{k:Key}{u:Value}{A:Around}{E:Value->Shared->Prop}
theorem Zwo {Q:Value->Shared->Prop}(I:Inv X pins σ H s) (e:Rd H a (.dK kvs)) (h:∀t s',Inv X pins σ H s' -> Q (.int kvs.length t) s'):wpAny (model X.prog X.w) A (call (.builtin "len") [.ref a]) Q E s:=by
 obtain⟨z,hd,vs,rel,dd⟩:=Zo3 I.hok e;refine call_len_dict hd dd (by rw[<- rel.length];rw[sizeLine_eq]at z;omega) ?_;rw[<- rel.length];exact h _ _<|I.tok _
end
theorem Zjo {X:Cx}{pins:List (Addr × Obj)}{σ:St}{H:Hp}{s:Shared}{a:Addr}{y:V}{o:Option V}(I:Inv X pins σ H s) (g:DGet H a y o):s.TypeIs (.ref a) "dict":=by
 rcases g with ⟨kvs,k,e,_,_⟩|⟨kvs,k,b,e,_,_,_⟩
 ·obtain⟨_,_,vs,_,dd⟩:=Zo3 I.hok e
  exact dd.typeIs
 ·obtain⟨_,_,xs,_,dd⟩:=Zp4 I.hok e
  exact dd.typeIs
section
variable {X:Cx}{pos:Pos}
end
section
variable {X:Cx}{o e f:Expr}{apos cpos:Pos}{td ty tx:TE}
end
section
variable {X:Cx}{pins:List (Addr × Obj)}{σ:St}{H:Hp}{s:Shared}{a:Addr}{y:V}{u:Value}{A:Around}{E:Value->Shared->Prop}
end
end L2
namespace L2
open PySem PySem.Spec PyProof.Rows
section
variable {X:Cx}
theorem Zng:CallR X (.builtin "len") (λxs H Q=>∃a kvs,xs=[V.ref a]/\H a=some (.dK kvs)/\Q (.int kvs.length) H):=by
 intro pins s σ H xs us Q I r h;obtain⟨a,kvs,rfl,ha,q⟩:=h;obtain⟨u,rfl,ru⟩:=vals1 r;cases ru;exact Zwo I (.inl ha) λt s' I'=>⟨.int kvs.length,H,I',⟨t,rfl⟩,q⟩
end
def clOf (env:Env):List (Str × NameKind)->List (Str × Addr)->List (Str × Addr)
 |[],cs=>cs
 | (n,k)::r,cs=>if k == .free then (match env.cells.lookup n with
     |some a=>clOf env r ((n,a)::cs)
     |none=>clOf env r cs) else clOf env r cs
theorem Zf8 {env:Env}:∀(names:List (Str × NameKind)) (cs:List (Str × Addr)),(∀n,(n,NameKind.free)∈names->∃a,env.cells.lookup n=some a) →
  (forIn names cs λ(x:Str × NameKind) (cs:List (Str × Addr))=>if (x.2 == .free)=true then (do let a ← cellOf env x.1;pure (ForInStep.yield ((x.1,a)::cs))) else pure (ForInStep.yield cs):Sem (List<|Str × Addr))=pure (clOf env names cs)
 |[],cs,_=>rfl
 | (n,k)::r,cs,h=>by
  rw[List.forIn_cons];have hr:∀m,(m,NameKind.free)∈r->∃a,env.cells.lookup m=some a:=λm hm=>h m<|Way _ hm;cases hk:k == NameKind.free with
  |false=>
   have e:clOf env ((n,k)::r) cs=clOf env r cs:=by simp[clOf,hk]
   rw[e,<- Zf8 r cs hr];simp only[hk,Wa7,if_false];rfl
  |true=>
   have hk':k=.free:=by simpa using hk
   subst hk';obtain⟨a,ha⟩:=h n Wbc;have e:clOf env ((n,.free)::r) cs=clOf env r ((n,a)::cs):=by simp[clOf,ha]
   have ec:cellOf env n=pure a:=by simp[cellOf,ha]
   rw[e,<- Zf8 r ((n,a)::cs) hr];simp only[hk,if_true,ec];rfl
theorem Zbd {env:Env}{scope:Scope}(h:∀n,(n,NameKind.free)∈scope.names->∃a,env.cells.lookup n=some a):closureFor scope env=pure (clOf env scope.names []):=by
 rw[<- Zf8 scope.names [] h];simp only[closureFor];exact Eq.trans (bind_pure _) rfl
theorem Za5 {env:Env}:∀(names:List (Str × NameKind)) (cs:List (Str × Addr)) {x:Str}{c:Addr},(∀y d,cs.lookup y=some d->env.cells.lookup y=some d)->(clOf env names cs).lookup x=some c->env.cells.lookup x=some c
 |[],cs,x,c,h,e=>h x c e
 | (n,k)::r,cs,x,c,h,e=>by
  unfold clOf at e;split at e
  ·split at e
   ·rename_i a ha
    refine Za5 r ((n,a)::cs) (λy d q=>?_) e;rw[Wbt]at q;split at q
    ·rename_i hy
     have hy':y=n:=by simpa using hy
     cases q;rw[hy'];exact ha
    ·exact h y d q
   ·exact Za5 r cs h e
  ·exact Za5 r cs h e
theorem Zed {env:Env}:∀(names:List (Str × NameKind)) (cs:List (Str × Addr)) {x:Str},(∃c,cs.lookup x=some c)->∃c,(clOf env names cs).lookup x=some c
 |[],cs,x,h=>h
 | (n,k)::r,cs,x,h=>by
  have h2:∀a,∃c,((n,a)::cs).lookup x=some c:=λa=>by
   rw[Wbt];split
   ·exact⟨_,rfl⟩
   ·exact h
  unfold clOf;split
  ·split
   ·exact Zed r _<|h2 _
   ·exact Zed r cs h
  ·exact Zed r cs h
theorem Zcm {env:Env}:∀(names:List (Str × NameKind)) (cs:List (Str × Addr)) {x:Str},(x,NameKind.free)∈names->(∃a,env.cells.lookup x=some a)->∃c,(clOf env names cs).lookup x=some c
 |[],_,_,h,_=>by simp at h
 | (n,k)::r,cs,x,h,⟨a,ha⟩=>by
  rcases War.mp h with e|hm
  ·have e1:n=x:=(congrArg Prod.fst e).symm
   have e2:k=.free:=(congrArg Prod.snd e).symm;subst e1;subst e2;have e:clOf env ((n,.free)::r) cs=clOf env r ((n,a)::cs):=by simp[clOf,ha]
   rw[e];exact Zed r _ ⟨a,by simp⟩
  ·unfold clOf
   split
   ·split
    ·exact Zcm r _ hm ⟨a,ha⟩
    ·exact Zcm r _ hm ⟨a,ha⟩
   ·exact Zcm r _ hm ⟨a,ha⟩
def relab (osc scope:Scope):Scope:=
 { scope with names:=scope.names.map λ(n,k)=>if (k == .free && osc.kind == .function && osc.names.lookup n == some .cell) then (n,.cell) else (n,k) }
theorem Zi2 {osc scope:Scope}{x:Str}{k:NameKind}(hk:k=.cell\/k=.free) (hc:∀y∈scope.names,y.2≠.cell) (h:(relab osc scope).names.lookup x=some k):(x,NameKind.free)∈scope.names:=by
 have hm:=PySem.mem_of_lookup h;obtain⟨⟨n,j⟩,hy,e⟩:=Wbk.mp hm;dsimp only at e;split at e
 ·rename_i hj
  have e1:n=x:=congrArg Prod.fst e;have hj':j=.free:=by
   simp only[Waz,beq_iff_eq]at hj;exact hj.1.1
  rw[<- e1,<- hj'];exact hy
 ·have e1:n=x:=congrArg Prod.fst e
  have e2:j=k:=congrArg Prod.snd e;rcases hk with z|z
  ·exact absurd (show ((n,j):Str × NameKind).2=.cell from e2.trans z)<|hc _ hy
  ·rw[<- e1,<- z,<- e2];exact hy
theorem Zeq {osc:Scope}{x:Str}:∀{names:List (Str × NameKind)},names.lookup x=some .free →
  (names.map λ(n,k)=>if (k == NameKind.free && osc.kind == .function && osc.names.lookup n == some .cell) then (n,NameKind.cell) else (n,k)).lookup x=some .cell ∨
  (names.map λ(n,k)=>if (k == NameKind.free && osc.kind == .function && osc.names.lookup n == some .cell) then (n,NameKind.cell) else (n,k)).lookup x=some .free
 |[],h=>by simp at h
 | (n,k)::r,h=>by
  have ih:=@Zeq osc x r;rw[Wbr];cases hx:x == n with
  |true=>
   simp only[Wbt,hx]at h;cases h;dsimp only;split
   ·left;simp[Wbt,hx]
   ·right;simp[Wbt,hx]
  |false=>
   simp only[Wbt,hx]at h;dsimp only;split
   ·simpa only[Wbt,hx] using ih h
   ·simpa only[Wbt,hx] using ih h
structure CompSc (osc:Scope) (oN:List Str) (scope:Scope) (fvs:List Str) (sel:List Nat):Prop where
 kind:scope.kind=.function
 nocell:∀y∈scope.names,y.2≠.cell
 names:∀y∈scope.names,y.2=.local->scope.names.lookup y.1=some .local
 free:∀y∈scope.names,y.2=.free->osc.names.lookup y.1=some .cell\/osc.names.lookup y.1=some .free
 len:fvs.length=sel.length
 fv:∀p∈fvs.zip sel,oN[p.2]?=some p.1/\scope.names.lookup p.1=some .free
def compCx (X:Cx) (scope:Scope) (N:List Str) (C:Addr) (s:Shared) (H:Hp) (ex:List Addr) (pn:List (Addr × Obj)):Cx where
 prog:=X.prog
 w:=X.w
 K:=X.K
 mg:=X.mg
 base:=X.base
 A:=X.A
 N:=N
 s₀:=s
 H₀:=H
 env:=compEnvC scope (clOf X.env scope.names []) C X.env
 outer:=X.stack
 stack:=X.stack
 ex:=ex
 fn:=λ_=>false
 calm:=X.calm
 pn:=pn
 xe:=λ_ _=>False
def compSt (n:Nat) (sel:List Nat) (σ:St):St:=Wae n none++sel.map λi=>(σ[i]?).getD none
section
variable {X:Cx}{pins:List (Addr × Obj)}{σ:St}{H:Hp}{s:Shared}{fp:List Addr}{scope:Scope}{tgs fvs:List Str}{sel:List Nat}
theorem Zc6 (S:CompSc X.env.scope X.N scope fvs sel) (ok:X.Ok):∀n,(n,NameKind.free)∈scope.names->∃a,X.env.cells.lookup n=some a:=λn hn=>
 ok.has n (S.free _ hn rfl)
theorem Zsk (S:CompSc X.env.scope X.N scope fvs sel) (N:List Str) (I:Inv X pins σ H s) (hf:∀b∈fp,FpOk X pins H b) (hlt:∀b∈fp,b<s.heap.objs.size):(compCx X scope N s.heap.objs.size s H fp<|X.pn++pins).Ok where
 mod:=I.ok.mod
 kind:=S.kind
 glob:=I.ok.glob
 blt:=I.ok.blt
 above:=Waf _
 inj:=λx y c h1 h2=>I.ok.inj x y c (Za5 _ _ (λ_ _ z=>by simp at z) h1)<|Za5 _ _ (λ_ _ z=>by simp at z) h2
 has:=λx hx=>by
  have hm:(x,NameKind.free)∈scope.names:=by
   rcases hx with z|z
   ·exact Zi2 (osc:=X.env.scope) (.inl rfl) S.nocell z
   ·exact Zi2 (osc:=X.env.scope) (.inr rfl) S.nocell z
  exact Zcm scope.names [] hm<|Zc6 S I.ok x hm
 cab:=λx c h _=>by cases h
 hd:=I.ok.hd
 frames:=I.ok.frames
 stk:=.inl rfl
 exf:=λb hb=>⟨Wap<|hlt b hb,λx c e=>(hf b hb).2.2.2.2.1 x c (Za5 _ _ (λ_ _ z=>by simp at z) e)⟩
 bs:=I.bs
 bsz:=Wa8 I.ok.bsz I.sz
 noex:=λb o e hb=>by
  rcases(hf b hb).2.2.2.1 with z|z
  ·exact I.ok.noex b o e z
  ·exact absurd (Wau (Wai e)<|Wa8 I.ok.bsz z)<|Wb3 _
 exfs:=λb hb z=>by
  rcases War.mp (I.stkSub b z) with e|z
  ·exact(hf b hb).2.1 e
  ·exact(hf b hb).2.2.1 z
 funs:=I.stack
 frf:=I.stkFree
theorem Zk6 (S:CompSc X.env.scope X.N scope fvs sel) (I:Inv X pins σ H s) (hf:∀b∈fp,FpOk X pins H b) (hlt:∀b∈fp,b<s.heap.objs.size) {h':Heap}{tk:Nat}{m:Str->Option Value}
  (hns:h'.Ns s.heap.objs.size m) (old:∀b o,s.heap.get? b=some o->h'.get? b=some o) :
  Inv (compCx X scope (tgs++fvs) s.heap.objs.size s H fp<|X.pn++pins) [] (compSt tgs.length sel σ) H { s with heap:=h',toks:=tk } where
 ok:=Zsk S _ I hf hlt
 os:=rfl
 bare:=I.bare
 base:=Un.kept old
 loc:=by
  refine⟨m,hns,λi x v h1 h2 h3=>?_⟩;have h1:(tgs++fvs)[i]?=some x:=h1;unfold compSt at h2;by_cases hi:i<tgs.length
  ·rw[Wa9 (by simpa using hi),Wbm,if_pos hi]at h2
   cases h2
  ·have hi':tgs.length<=i:=Nat.le_of_not_lt hi
   rw[Wav (by simpa using hi'),Wah,Waq]at h2;rw[Wav hi']at h1;cases hj:sel[i-tgs.length]? with
   |none=>rw[hj]at h2;cases h2
   |some j=>
    rw[hj]at h2;have h2:(σ[j]?).getD none=some v:=by simpa using h2
    have hz:(x,j)∈fvs.zip sel:=by
     refine Wax (i:=i-tgs.length) ?_;rw[Wco];exact⟨h1,hj⟩
    obtain⟨hN,hfr⟩:=S.fv _ hz;have hσ:σ[j]?=some (some v):=by
     cases q:σ[j]? with
     |none=>rw[q]at h2;cases h2
     |some o=>rw[q]at h2;exact congrArg some h2
    have hko:X.env.scope.names.lookup x=some .cell\/X.env.scope.names.lookup x=some .free:=S.free (x,.free) (PySem.mem_of_lookup hfr) rfl;obtain⟨m0,hn0,hl0⟩:=I.loc;obtain⟨u,r,l⟩:=hl0 j x v hN hσ (.inr hko);refine⟨u,r,.inr ⟨Zeq hfr,?_⟩⟩;rcases l with ⟨hk,_⟩|⟨_,c,hc,hcell⟩
    ·have hk:X.env.scope.names.lookup x=some .local:=hk
     rcases hko with z|z <;> (rw[hk]at z;cases z)
    ·obtain⟨c',hc'⟩:=Zcm scope.names [] (PySem.mem_of_lookup hfr) ⟨c,hc⟩
     have e:=Za5 scope.names [] (λ_ _ z=>by simp at z) hc';rw[hc]at e;cases e;obtain⟨o,ho,hd⟩:=hcell;exact⟨c,hc',o,old _ _ ho,hd⟩
 cell:=λx c e=>by
  obtain⟨v,o,ho,hd⟩:=I.cell x c<|Za5 _ _ (λ_ _ z=>by simp at z) e;exact⟨v,o,old _ _ ho,hd⟩
 free:=I.hok.fresh<|Waf _
 freeC:=λx c e=>I.freeC x c<|Za5 _ _ (λ_ _ z=>by simp at z) e
 pin:=λp hp=>by
  have hp:p∈(X.pn++pins)++[]:=hp;rw[Wbb]at hp;obtain⟨e,n,ne,nf,d⟩:=I.pin p hp;refine⟨old _ _ e,n,Wap<|Wai e,λz=>?_,d⟩;rcases War.mp (I.stkSub p.1 z) with q|q
  ·exact ne q
  ·exact nf q
 hok:=I.hok.kept old
 len:=by
  unfold compSt;show _=(tgs++fvs).length;rw[Wao,Wao,Waq,Wac,S.len]
theorem Zi1 {N:List Str}{σ':St}{H':Hp}{s':Shared}{h':Heap}(I:Inv X pins σ H s) (hf:∀b∈fp,FpOk X pins H b)
  (J:Inv (compCx X scope N s.heap.objs.size s H fp<|X.pn++pins) [] σ' H' s') (sb:Heap.SameBut s.heap.objs.size s'.heap h'):Inv X pins σ H' { s' with heap:=h' }:=by
 have B:Un (frs X.stack) fp H H' s.heap s'.heap:=J.base;have ne:∀b o,s.heap.get? b=some o->b≠s.heap.objs.size:=λb o e=>Wap<|Wai e;have fr:H' s.heap.objs.size=none:=J.free;refine I.call' (s':={ s' with heap:=h' }) (ch:=fp) J.os ⟨λb o e n h1 h2=>?_,λb o e n h1 h2=>?_,B.free,λb o e h2=>?_,B.tups,B.frzs,B.tbls⟩ (λb ob e=>?_) J.bare λb hb=>?_
 ·exact(sb.2 b<|ne b o e).trans (B.keep b o e n h1 h2)
 ·obtain⟨sl,q⟩:=B.slot b o e n h1 h2
  exact⟨sl,(sb.2 b<|ne b o e).trans q⟩
 ·obtain⟨o',q⟩:=B.there b o e h2
  exact⟨o',(sb.2 b<|ne b o e).trans q⟩
 ·refine(J.hok b ob e).stay (λc w' hc q=>(sb.2 c ?_).trans q) (λ_ q=>q) λ_ _ q=>q
  intro z;rcases hc with hc|hc
  ·rw[<- hc,z,fr]at e;cases e
  ·rw[z,fr]at hc;cases hc
 ·exact⟨(hf b hb).2.2.2.1,(hf b hb).2.1,(hf b hb).2.2.2.2.1,(hf b hb).2.2.2.2.2⟩
end
def PTs (X:Cx) (ifs:List Expr) (t:TT):Prop:=
 ∀(pins:List (Addr × Obj)) (s:Shared) (σ:St) (H:Hp) (Q:Bool->Hp->Prop),Inv X pins σ H s->t σ H Q →
  wpAny (model X.prog X.w) X.A (forIn ifs true λc r=>if r=true then do let ok ← isTrue c X.env (eval c X.env);pure (ForInStep.yield ok) else pure (ForInStep.yield r)) (TP X pins σ Q) X.xe s
def tTrue:TT:=λ_ H Q=>Q true H
theorem Zdk {X:Cx}:PTs X [] tTrue:=λpins s σ H Q I h=>wpAny_tests_nil ⟨H,I,h⟩
theorem Zfo {X:Cx}{c:Expr}{t:TT}(h:PT X c t):PTs X [c] t:=λpins s σ H Q I hq=>wpAny_tests_one<|h pins s σ H Q I hq
def tComp (n:Nat) (sel:List Nat) (wi:TI) (g:TG) (tc:TT) (te:TE):TE:=λσ H Q=>wi σ H λJ H1=>∀acc,H1 acc=none->∃W:Nat->Nat->St->Hp->Prop,
 (∃m,W 0 m (compSt n sel σ) (upd H1 acc (.lst [])))/\∀i m σ' H',W i m σ' H' →
  (J.stop i H' /\ Q (.ref acc) H')\/(J.go i H' /\ ∃N:St->Hp->Prop,(∀σ2 H2,N σ2 H2->∃m',m'<m/\W (i+1) m' σ2 H2) ∧
   ∀x H2,J.yld i H' x H2->g x σ' H2 λσ2 H3=>tc σ2 H3 λb H4=>if b=true then te σ2 H4 λy H5=>∃ys,H5 acc=some (.lst ys)/\ys.length<sizeLine/\N σ2 (upd H5 acc (.lst (ys++[y]))) else N σ2 H4)
section
variable {X:Cx}
theorem Zff {elt tg iter:Expr}{ifs:List Expr}{scope:Scope}{pos:Pos}{tgs fvs:List Str}{sel:List Nat}{g:TG}{tc:TT}{te:TE}(S:CompSc X.env.scope X.N scope fvs sel) {Cm:Cx->Prop}(hc:∀C s H ex pn,Cm (compCx X scope (tgs++fvs) C s H ex pn))
  (hg:∀C s H ex pn,PG (compCx X scope (tgs++fvs) C s H ex pn) tg g) (ht:∀C s H ex pn,PTs (compCx X scope (tgs++fvs) C s H ex pn) ifs tc) (he:∀C s H ex pn,PE (compCx X scope (tgs++fvs) C s H ex pn) elt te)
  {pins:List (Addr × Obj)}{σ:St}{s:Shared}{itv:Value}{Q:VK}{E:Value->Shared->Prop}{RR:Value->Addr->Result->Shared->Prop}
  (h2:PIEG Cm X pins σ tg (λJ H1=>∀acc,H1 acc=none->∃W:Nat->Nat->St->Hp->Prop,
   (∃m,W 0 m (compSt tgs.length sel σ) (upd H1 acc (.lst [])))/\∀i m σ' H',W i m σ' H' →
   (J.stop i H' /\ Q (.ref acc) H')\/(J.go i H' /\ ∃N:St->Hp->Prop,(∀σ2 H2,N σ2 H2->∃m',m'<m/\W (i+1) m' σ2 H2) ∧
   ∀x H2,J.yld i H' x H2->g x σ' H2 λσ2 H3=>tc σ2 H3 λb H4=>if b=true then te σ2 H4 λy H5=>∃ys,H5 acc=some (.lst ys)/\ys.length<sizeLine/\N σ2 (upd H5 acc (.lst (ys++[y]))) else N σ2 H4)) itv s)
  (fin:∀(s':Shared) (C acc:Addr) (H':Hp) (m:Str->Option Value),s'.heap.Ns C m->FpOk X pins H' C->(∀h',Heap.SameBut C s'.heap h' -> Inv X pins σ H' { s' with heap:=h' })->Q (.ref acc) H' -> RR (.ref acc) C (.ok .next) s') :
  wpAny (model X.prog X.w) X.A (newList []) (λacc s3=>wpAny (model X.prog X.w) X.A (newFunctionEnv scope X.env.globals (clOf X.env scope.names []) [] X.env.qual none .none (some X.env)) (λcenv s4=>
   codeAny (model X.prog X.w) X.A (.compStart (.ListComp elt [⟨tg,iter,ifs,0⟩] scope pos) 0 itv acc { cenv with scope:=relabel scope X.env }) (RR acc cenv.locals) s4) E s3) E s:=by
 obtain⟨it,fp,tn,J,H1,e,I,T,st,f2,h2⟩:=h2;subst e;have hlt:∀b∈fp,b<s.heap.objs.size:=λb hb=>let ⟨o,ho,_⟩:=T.obj 0 _ st b hb; Wai ho
 refine wpAny_newObj_type<|wpAny_newFunctionEnv S.nocell (by intro y hy;simp at hy) (λh1 hns hsb=>?_) S.kind;dsimp only at hns hsb ⊢;have I3:Inv X pins σ (upd H1 s.heap.objs.size (.lst [])) { s with heap:=s.heap.push { cls:=.type "list",data:=.seq ([]:List Value).toArray },toks:=s.toks }:=I.lnew (its:=[]) .nil (by decide);have hacc:H1 s.heap.objs.size=none:=I.hok.fresh<|Waf _;obtain⟨W,⟨m0,w0⟩,turn⟩:=h2 s.heap.objs.size hacc;generalize hs3:({ s with heap:=s.heap.push { cls:=.type "list",data:=.seq ([]:List Value).toArray },toks:=s.toks }:Shared)=s3 at I3;have hh3:s3.heap=s.heap.push { cls:=.type "list",data:=.seq ([]:List Value).toArray }:=by rw[<- hs3]
 have old3:∀b o,s.heap.get? b=some o->s3.heap.get? b=some o:=λb o q=>by rw[hh3];exact Wab _ q
 have hf3:∀b∈fp,FpOk X pins (upd H1 s.heap.objs.size (.lst [])) b:=λb hb=>⟨by rw[Zak (Wap<|hlt b hb)];exact(f2 b hb).1,(f2 b hb).2⟩;have hlt3:∀b∈fp,b<s3.heap.objs.size:=λb hb=>by rw[hh3,Wb4];exact Wbe<|hlt b hb
 have tn3:tn 0 s3.heap:=T.keep 0 _ _ st λb hb o q=>old3 b o q;have old4:∀b o,s3.heap.get? b=some o->h1.get? b=some o:=λb o q=>by
  have hb:b≠s3.heap.objs.size:=Wap<|Wai q;rw[hh3]at hb q;exact(hsb.2 b hb).trans (Wab _ q)
 have tn4:tn 0 h1:=T.keep 0 _ _ tn3 λb hb o q=>old4 b o q;have hC:(s.heap.push { cls:=.type "list",data:=.seq ([]:List Value).toArray }).objs.size=s3.heap.objs.size:=by rw[hh3]
 rw[hC]at hns;have J0:=Zk6 (tgs:=tgs) (tk:=s.toks+([]:List (Str × Value)).length) S I3 hf3 hlt3 hns old4;have es:({ s3 with heap:=h1,toks:=s.toks+([]:List (Str × Value)).length }:Shared) = { s with heap:=h1,toks:=s.toks+([]:List (Str × Value)).length }:=by rw[<- hs3]
 rw[es]at J0;generalize hY:compCx X scope (tgs++fvs) s3.heap.objs.size s3 (upd H1 s.heap.objs.size (.lst [])) fp (X.pn++pins)=Y at J0;have hYp:Y.prog=X.prog:=by rw[<- hY];rfl
 have hYw:Y.w=X.w:=by rw[<- hY];rfl
 have hYK:Y.K=X.K:=by rw[<- hY];rfl
 have hYA:Y.A=X.A:=by rw[<- hY];rfl
 have hYc:Cm Y:=by rw[<- hY];exact hc _ _ _ _ _
 have hYx:Y.xe=λ_ _=>False:=by rw[<- hY];rfl
 have hYe:Y.env=compEnvC scope (clOf X.env scope.names []) s3.heap.objs.size X.env:=by rw[<- hY];rfl
 have stat:∀{H':Hp},(∀b∈fp,H' b=none)->∀b∈fp,FpOk Y [] H' b:=λhn b hb=>by
  rw[<- hY];refine⟨hn b hb,Wap<|hlt3 b hb,λz=>?_,.inl hb,λx c e=>?_,λp hp z=>?_⟩
  ·rcases War.mp (I3.stkSub b z) with q|q
   ·exact(hf3 b hb).2.1 q
   ·exact(hf3 b hb).2.2.1 q
  ·exact(hf3 b hb).2.2.2.2.1 x c (Za5 _ _ (λ_ _ z=>by simp at z) e)
  ·have hp:p∈(X.pn++pins)++[]:=hp
   rw[Wbb]at hp;exact(hf3 b hb).2.2.2.2.2 p hp z
 have loop:codeAny (model X.prog X.w) X.A (.compLoop (.ListComp elt [⟨tg,iter,ifs,0⟩] scope pos) 0 (.ref it) (.ref s.heap.objs.size) Y.env) (RR (.ref s.heap.objs.size) s3.heap.objs.size)
   { s with heap:=h1,toks:=s.toks+([]:List (Str × Value)).length }:=by
  refine codeAny_loop rfl (λn s'=>∃i σ' H',Inv Y [] σ' H' s' /\ tn i s'.heap/\(∀b∈fp,H' b=none)/\W i n σ' H') ?_ m0 ⟨0,_,_,J0,tn4,λb hb=>(hf3 b hb).1,w0⟩;rintro n s5 ⟨i,σ5,H5,I5,st5,fr5,w5⟩;show wpAny _ X.A ((compTurn (.ListComp elt [⟨tg,iter,ifs,0⟩] scope pos) 0 (.ref it) (.ref s.heap.objs.size) Y.env).onRaise (λx=>do noteFrame x Y.env;theTreesLotGoes x)) _ _ s5;refine wpAny_noted (wpAny_mono (E:=λ_ _=>False) ?_ (λ_ _ q=>q) λ_ _ z=>z.elim);rw[compTurn_list];refine wpAny_bind<|wpAny_standAt<|wpAny_bind ?_;rcases turn i n σ5 H5 w5 with ⟨stop,qn⟩|⟨go,N,hN,step⟩
  ·have D:=T.done Y hYp hYw hYK hYc i [] s5 σ5 H5 (λ_ _=>False) I5 (stat fr5) st5 stop
   rw[hYA]at D;refine thn D λr s6 ⟨hr,I6⟩=>?_;subst hr;refine wpAny_pure ?_;obtain⟨m6,hn6,_⟩:=I6.loc;rw[hYe]at hn6;refine fin s6 _ _ H5 m6 hn6 (I3.fpOk (Waf _) (by have z:=I6.free;rw[hYe]at z;exact z)) (λh' sb=>?_) qn;have I6':Inv (compCx X scope (tgs++fvs) s3.heap.objs.size s3 (upd H1 s.heap.objs.size (.lst [])) fp<|X.pn++pins) [] σ5 H5 s6:=by rw[hY];exact I6
   exact Zi1 I3 hf3 I6' sb
  ·have D:=T.item Y hYp hYw hYK hYc i [] s5 σ5 H5 (λ_ _=>False) I5 (stat fr5) st5 go
   rw[hYA]at D;refine thn D λr s6 ⟨u,hr,h6⟩=>?_;subst hr;refine wpAny_bind (thn h6 λ_ s7 ⟨x,H7,I7,r7,y7,st7,fr7⟩=>?_);have I7':=I7.pinned (stat fr7)<|T.obj _ _ st7;have G:=hg s3.heap.objs.size s3 (upd H1 s.heap.objs.size (.lst [])) fp<|X.pn++pins;have TT:=ht s3.heap.objs.size s3 (upd H1 s.heap.objs.size (.lst [])) fp<|X.pn++pins;have EE:=he s3.heap.objs.size s3 (upd H1 s.heap.objs.size (.lst [])) fp<|X.pn++pins;rw[hY]at G TT EE;have G1:=G _ s7 σ5 H7 x u _ I7' r7<|step x H7 y7;rw[hYp,hYw,hYA,hYx]at G1;refine wpAny_bind (thn G1 λ_ s8 ⟨σ8,H8,I8,q8⟩=>?_);have T1:=TT _ s8 σ8 H8 _ I8 q8;rw[hYp,hYw,hYA,hYx]at T1;refine wpAny_bind (thn T1 λok s9 ⟨H9,I9,q9⟩=>?_);have again:∀{s':Shared}{σ':St}{H':Hp},Inv Y ([]++pinsAt fp s7.heap) σ' H' s' -> N σ' H' -> ∃m,m<n/\∃i σ' H',Inv Y [] σ' H' s' /\ tn i s'.heap/\(∀b∈fp,H' b=none)/\W i m σ' H':=λ{s' σ' H'} K7 n7=>by
    obtain⟨m',hm,w7⟩:=hN σ' H' n7;refine⟨m',hm,i+1,σ',H',K7.unpinned,T.keep _ _ _ st7 λb hb o e=>(K7.pin (b,o)<|Waw _<|Waw _<|Zb0 hb e).1,λb hb=>?_,w7⟩;obtain⟨o,e,d⟩:=T.obj _ _ st7 b hb;exact(K7.pin (b,o)<|Waw _<|Waw _<|Zb0 hb e).2.1
   cases ok with
   |false=>
    have q9:N σ8 H9:=q9;exact wpAny_pure ⟨by rw[hYe],again I9 q9⟩
   |true=>
    have q9:te σ8 H9 λy H5=>∃ys,H5 s.heap.objs.size=some (.lst ys)/\ys.length<sizeLine/\N σ8 (upd H5 s.heap.objs.size (.lst<|ys++[y])):=q9;have E1:=EE _ s9 σ8 H9 _ I9 q9;rw[hYp,hYw,hYA,hYx]at E1;refine wpAny_bind<|wpAny_bind (thn E1 λv sa ⟨y,Ha,Ia,ra,ys,ea,za,na⟩=>?_);have M:=Zbc (X:=Y) _ sa σ8 Ha (.ref s.heap.objs.size) [y] (.ref s.heap.objs.size) [v] (λ_ H=>N σ8 H) Ia rfl (.cons ra .nil) ⟨_,ys,y,rfl,rfl,ea,za,na⟩;rw[hYp,hYw,hYA,hYx]at M;refine wpAny_bind (thn M λ_ sb ⟨_,Hb,Ib,_,nb⟩=>wpAny_pure<|wpAny_pure ⟨by rw[hYe],again Ib nb⟩)
 have hcs:(relabel scope X.env)=(relabel scope X.env):=rfl;have loop':=loop;rw[hYe]at loop';show codeAny (model X.prog X.w) X.A (.compStart (.ListComp elt [⟨tg,iter,ifs,0⟩] scope pos) 0 (.ref it) (.ref s.heap.objs.size)<|compEnvC scope (clOf X.env scope.names []) (s.heap.push { cls:=.type "list",data:=.seq ([]:List Value).toArray }).objs.size X.env) (RR (.ref s.heap.objs.size) (s.heap.push { cls:=.type "list",data:=.seq ([]:List Value).toArray }).objs.size) _;rw[hC];exact codeAny_compStart_list loop'<|T.self _ 0 _ _ _ tn4 loop'
theorem Zcc {elt tg iter:Expr}{ifs:List Expr}{scope:Scope}{pos:Pos}{fvs:List Str}{sel:List Nat}{wi:TI}{g:TG}{tc:TT}{te:TE}(tgs:List Str) (S:CompSc X.env.scope X.N scope fvs sel) (hc:X.calm=true)
  (hi:PI X tg iter wi) (hg:∀C s H ex pn,PG (compCx X scope (tgs++fvs) C s H ex pn) tg g) (ht:∀C s H ex pn,PTs (compCx X scope (tgs++fvs) C s H ex pn) ifs tc) (he:∀C s H ex pn,PE (compCx X scope (tgs++fvs) C s H ex pn) elt te)
  (hs:∀x,foldedSetIterable iter X.env x=pure x:=by intro _;rfl) :
  PE X (.ListComp elt [⟨tg,iter,ifs,0⟩] scope pos) (tComp tgs.length sel wi g tc te):=by
 intro pins s σ H Q I h;rw[eval_ListComp];refine wpAny_comprehension_free (use:=none) rfl hs (Zbd<|Zc6 S I.ok) S.kind S.names (thn (hi pins s σ H _ I h) λv s1 h1=>thn h1 λitv s2 h2=>?_);refine Zff (Cm:=λX=>X.calm=true) S (λ_ _ _ _ _=>hc) hg ht he (RR:=λacc C=>compPost (model X.prog X.w) X.A X.xe none (EP X pins σ Q) acc C) (Q:=Q) h2 ?_;intro s' C acc H' m hn _ hI q;exact⟨m,hn,λh' sb=>⟨.ref acc,H',hI h' sb,rfl,q⟩⟩
theorem Zqh {elt tg iter:Expr}{ifs:List Expr}{scope:Scope}{pos spos py:Pos}{fvs:List Str}{sel:List Nat}{wi:TI}{g:TG}{tc:TT}{te:TE}{i:Nat}{y:Str}(tgs:List Str) (S:CompSc X.env.scope X.N scope fvs sel) (hc:X.calm=true)
  (hN:X.N.Nodup) (hiy:X.N[i]?=some y) (hx:Loc X.env.scope y)
  (hi:PI X tg iter wi) (hg:∀C s H ex pn,PG (compCx X scope (tgs++fvs) C s H ex pn) tg g) (ht:∀C s H ex pn,PTs (compCx X scope (tgs++fvs) C s H ex pn) ifs tc) (he:∀C s H ex pn,PE (compCx X scope (tgs++fvs) C s H ex pn) elt te)
  (hs:∀x,foldedSetIterable iter X.env x=pure x:=by intro _;rfl) (hsw:swapsWith (.ListComp elt [⟨tg,iter,ifs,0⟩] scope pos) (some (.Name y py)) spos.line X.env=pure true:=by rfl)
  (hf:X.fn y=true\/X.env.scope.names.lookup y=some .local:=by first|exact .inl rfl|exact .inr rfl|assumption) :
  PS X (.Assign [.Name y py] (.ListComp elt [⟨tg,iter,ifs,0⟩] scope pos) spos) (tAsg (tComp tgs.length sel wi g tc te)<|gName i):=by
 intro pins s σ H D I h;rw[exec_Assign_Name_used _ _ _ _ hsw];refine wpAny_bind (wpAny_standAt (wpAny_bind ?_));show wpAny _ X.A (do let _ ← comprehension (.ListComp elt [⟨tg,iter,ifs,0⟩] scope pos) scope X.env _ (newList []) false (eval iter X.env) (some (assign (.Name y py) X.env))) _ _ s;refine wpAny_bind (wpAny_mono (wpAny_comprehension_free (use:=some (assign (.Name y py) X.env)) (Q:=λ_ s'=>SP X pins D .next s') rfl hs (Zbd (Zc6 S I.ok)) S.kind S.names
  (thn (hi pins s σ H _ I h) λv s1 h1=>thn h1 λitv s2 h2=>?_)) (λ_ s' hq=>wpAny_pure (wpAny_pure hq)) λ_ _ e=>e)
 refine Zff (Cm:=λX=>X.calm=true) S (λ_ _ _ _ _=>hc) hg ht he (RR:=λacc C=>compPost (model X.prog X.w) X.A X.xe (some<|assign (.Name y py) X.env) (λ_ s'=>SP X pins D .next s') acc C) (Q:=λv H'=>D.nx (σ.set i<|some v) H') h2 ?_;intro s' C acc H' m hn fp hI q;have I0:Inv X pins σ H' s':=hI s'.heap (.refl ..);show wpAny _ X.A (assign (.Name y py) X.env (.ref acc)) _ _ _;refine wpAny_assign_Name<|Zee (v:=.ref acc) I0 hN hiy hx rfl (λs2 I2 hsb=>?_) hf;obtain⟨a,sb,ha⟩:=hsb;have hCa:C≠a:=by
  rcases ha with z|z
  ·rw[z];exact fp.2.1
  ·exact Ne.symm<|fp.2.2.2.2.1 y a z
 refine⟨m,hn.sameBut sb hCa,λh' sb'=>?_⟩;obtain⟨f0,f1,f2,f3,f4,f5⟩:=fp;exact⟨_,H',I2.turned (t':=s2.toks) (it:=C) (λb o hb e=>(sb'.2 b hb).trans e) f0 f1 f3 f4 f5,q⟩
end
def InsC (a C:Addr) (h:Heap):Prop:=∃ox vs,h.get? a=some ox/\ox.cls=.ref C/\ox.data=.fields vs/\vs[2]?=some .none
def InsR (a C dx:Addr) (h:Heap):Prop:=∃ox vs,h.get? a=some ox/\ox.cls=.ref C/\ox.data=.fields vs/\vs[2]?=some .none/\ox.dict=some dx
inductive D where
 |non|bl (b:Bool)|int (i:Int)|str (x:Str)|ty (n:String)|tup (ds:List D)|lst (ds:List D)|scr (ds:List D)|adr (a:Addr)|dct (ks:List Key) (ds:List D)|exc (a C:Addr)|excR (a C:Addr) (i:Int)
mutual
inductive Rep (K:W.Frag) (G:Hp):V->D->Prop
 |non:Rep K G .non .non
 |bl (b:Bool):Rep K G (.bl b) (.bl b)
 |int (i:Int):Rep K G (.int i) (.int i)
 |str (x:Str):Rep K G (.str x) (.str x)
 |ty (n:String):Rep K G (.ty n) (.ty n)
 |tup {a:Addr}{vs:List V}{ds:List D}:G a=some (.tup vs)->Reps K G vs ds->Rep K G (.ref a) (.tup ds)
 |lst {a:Addr}{vs:List V}{ds:List D}:G a=some (.lst vs)->Reps K G vs ds->Rep K G (.ref a) (.lst ds)
 |scr {a:Addr}{vs:List V}{ds:List D}:SqL K G a vs->Reps K G vs ds->Rep K G (.ref a) (.scr ds)
 |adr (a:Addr):Rep K G (.ref a) (.adr a)
 |dct {a:Addr}{ks:List Key}{vs:List V}{ds:List D}:G a=some (.dK (ks.zip vs))->ks.length=vs.length->Reps K G vs ds->Rep K G (.ref a) (.dct ks ds)
 |exc {a C:Addr}:G a=some (.ext (InsC a C))->Rep K G (.ref a) (.exc a C)
 |excR {a C dx:Addr}{i:Int}:G a=some (.ext (InsR a C dx))->G dx=some (.xd [("row",.int i)])->Rep K G (.ref a) (.excR a C i)
inductive Reps (K:W.Frag) (G:Hp):List V->List D->Prop
 |nil:Reps K G [] []
 |cons {v:V}{d:D}{vs:List V}{ds:List D}:Rep K G v d->Reps K G vs ds->Reps K G (v::vs) (d::ds)
end
def RepI (K:W.Frag) (G:Hp) (v:V):D->Prop
 |.non=>v=.non
 |.bl b=>v=.bl b
 |.int i=>v=.int i
 |.str x=>v=.str x
 |.ty n=>v=.ty n
 |.tup ds=>∃a vs,v=.ref a/\G a=some (.tup vs)/\Reps K G vs ds
 |.lst ds=>∃a vs,v=.ref a/\G a=some (.lst vs)/\Reps K G vs ds
 |.scr ds=>∃a vs,v=.ref a/\SqL K G a vs/\Reps K G vs ds
 |.adr a=>v=.ref a
 |.dct ks ds=>∃a vs,v=.ref a/\G a=some (.dK (ks.zip vs))/\ks.length=vs.length/\Reps K G vs ds
 |.exc a C=>v=.ref a/\G a=some (.ext (InsC a C))
 |.excR a C i=>v=.ref a/\∃dx,G a=some (.ext (InsR a C dx))/\G dx=some (.xd [("row",.int i)])
theorem Rep.inv {K:W.Frag}{G:Hp}{v:V}{d:D}(r:Rep K G v d):RepI K G v d:=by
 cases r with
 |tup h r=>exact⟨_,_,rfl,h,r⟩
 |lst h r=>exact⟨_,_,rfl,h,r⟩
 |scr h r=>exact⟨_,_,rfl,h,r⟩
 |dct h l r=>exact⟨_,_,rfl,h,l,r⟩
 |exc h=>exact⟨rfl,h⟩
 |excR h h2=>exact⟨rfl,_,h,h2⟩
 |_=>rfl
def RepsI (K:W.Frag) (G:Hp) (vs:List V):List D->Prop
 |[]=>vs=[]
 |d::ds=>∃v ws,vs=v::ws/\Rep K G v d/\Reps K G ws ds
theorem Reps.inv {K:W.Frag}{G:Hp}{vs:List V}{ds:List D}(r:Reps K G vs ds):RepsI K G vs ds:=by
 cases r with
 |nil=>rfl
 |cons a b=>exact⟨_,_,rfl,a,b⟩
section
variable {K:W.Frag}{G G' H H':Hp}
mutual
theorem Rep.mono (s:Same G G'):∀{v:V}{d:D},Rep K G v d->Rep K G' v d
 |_,_,.non=>.non
 |_,_,.bl b=>.bl b
 |_,_,.int i=>.int i
 |_,_,.str x=>.str x
 |_,_,.ty n=>.ty n
 |_,_,.tup h r=>.tup (s _ _ h) (Reps.mono s r)
 |_,_,.lst h r=>.lst (s _ _ h) (Reps.mono s r)
 |_,_,.scr h r=>.scr (s.seq h) (Reps.mono s r)
 |_,_,.adr a=>.adr a
 |_,_,.dct h l r=>.dct (s _ _ h) l (Reps.mono s r)
 |_,_,.exc h=>.exc (s _ _ h)
 |_,_,.excR h h2=>.excR (s _ _ h) (s _ _ h2)
theorem Reps.mono (s:Same G G'):∀{vs:List V}{ds:List D},Reps K G vs ds->Reps K G' vs ds
 |_,_,.nil=>.nil
 |_,_,.cons h r=>.cons (Rep.mono s h) (Reps.mono s r)
end
theorem Reps.length:∀{vs:List V}{ds:List D},Reps K G vs ds->vs.length=ds.length
 |_,_,.nil=>rfl
 |_,_,.cons _ r=>by rw[Wa2,Wa2,r.length]
theorem Reps.get:∀{vs:List V}{ds:List D}{i:Nat}{d:D},Reps K G vs ds->ds[i]?=some d->∃v,vs[i]?=some v/\Rep K G v d
 |_,_,_,_,.nil,e=>by simp at e
 |_,_,0,_,.cons r _,e=>by simp at e;subst e;exact⟨_,rfl,r⟩
 |_,_,i+1,d,.cons _ t,e=>by
  obtain⟨u,h1,h2⟩:=Reps.get (i:=i) (d:=d) t (by simpa using e);exact⟨u,by simpa using h1,h2⟩
theorem Reps.append:∀{vs ws:List V}{ds es:List D},Reps K G vs ds->Reps K G ws es->Reps K G (vs++ws) (ds++es)
 |_,_,_,_,.nil,s=>s
 |_,_,_,_,.cons r t,s=>.cons r (Reps.append t s)
theorem Reps.take:∀{vs:List V}{ds:List D}(n:Nat),Reps K G vs ds->Reps K G (vs.take n) (ds.take n)
 |_,_,0,_=>.nil
 |_,_,_+1,.nil=>.nil
 |_,_,n+1,.cons r t=>.cons r (Reps.take n t)
theorem Reps.drop:∀{vs:List V}{ds:List D}(n:Nat),Reps K G vs ds->Reps K G (vs.drop n) (ds.drop n)
 |_,_,0,r=>r
 |_,_,_+1,.nil=>.nil
 |_,_,n+1,.cons _ t=>Reps.drop n t
theorem Reps.reverse {vs:List V}{ds:List D}(h:Reps K G vs ds):Reps K G vs.reverse ds.reverse:=by
 induction vs generalizing ds with
 |nil=>cases h;exact .nil
 |cons v vs ih=>
  cases h with
  |cons r t=>rw[List.reverse_cons,List.reverse_cons];exact(ih t).append (.cons r .nil)
theorem Reps.set:∀{vs:List V}{ds:List D}{v:V}{d:D}(i:Nat),Reps K G vs ds->Rep K G v d->Reps K G (vs.set i v) (ds.set i d)
 |_,_,_,_,_,.nil,_=>.nil
 |_,_,_,_,0,.cons _ t,q=>.cons q t
 |_,_,_,_,i+1,.cons r t,q=>.cons r (Reps.set i t q)
theorem Reps.eraseIdx:∀{vs:List V}{ds:List D}(i:Nat),Reps K G vs ds->Reps K G (vs.eraseIdx i) (ds.eraseIdx i)
 |_,_,_,.nil=>.nil
 |_,_,0,.cons _ t=>t
 |_,_,i+1,.cons r t=>.cons r (Reps.eraseIdx i t)
theorem Reps.ints {vs:List V}:∀{ns:List Int},Reps K G vs (ns.map D.int)->vs=ns.map V.int:=by
 induction vs with
 |nil=>intro ns h;cases ns with
  |nil=>rfl
  |cons n ns=>cases h
 |cons v vs ih=>intro ns h;cases ns with
  |nil=>cases h
  |cons n ns=>
   cases h with
   |cons r t=>cases r.inv;rw[ih t];rfl
theorem Reps.ofInts:∀(ns:List Int),Reps K G (ns.map V.int) (ns.map D.int)
 |[]=>.nil
 |n::ns=>.cons (.int n) (Reps.ofInts ns)
theorem Zhr {vs:List V}{ds:List D}{i:Int}{d:D}(r:Reps K G vs ds) (h:atI ds i=some d):∃v,atI vs i=some v/\Rep K G v d:=by
 unfold atI at h ⊢;rw[<- r.length]at h;cases e:ixN vs.length i with
 |none=>rw[e]at h;cases h
 |some j=>rw[e]at h;exact r.get h
end
inductive OD where
 |lst (ds:List D)|dct (kvs:List (Key × D))|set (S:Int->Bool) (n:Nat)|dtt (kvs:List (List Key × D))|ext (R:Hp->(Heap->Prop)->Prop)
def OwnRep (K:W.Frag) (G:Hp):HO->OD->Prop
 |.lst vs,.lst ds=>Reps K G vs ds
 |.dK kvs,.dct kds=>Paired (λ(p:Key × V) (q:Key × D)=>p.1=q.1/\Rep K G p.2 q.2) kvs kds
 |.set S n,.set S' n'=>S=S' /\ n=n'
 |.dT kvs,.dtt kds=>Paired (λ(p:List Key × V) (q:List Key × D)=>p.1=q.1/\Rep K G p.2 q.2) kvs kds
 |.ext φ,.ext R=>∃G0,Same G0 G/\R G0 φ
 |_,_=>False
theorem OwnRep.mono {K:W.Frag}{G G':Hp}(s:Same G G') {o:HO}{od:OD}(h:OwnRep K G o od):OwnRep K G' o od:=by
 cases o <;> cases od <;> first
  |exact h.elim
  |exact Reps.mono s h
  |exact Paired.mapP h λ_ _ z=>⟨z.1,z.2.mono s⟩
  |exact(let ⟨g0,s0,r⟩:=h; ⟨g0,s0.trans s,r⟩)
  |exact h
inductive Slot where
 |any|val (d:D)|own (o:OD)|bor (o:OD)|ownA (a:Addr) (o:OD)
abbrev Evt:=List Slot
def Slot.od:Slot->Option OD
 |.own o=>some o
 |.bor o=>some o
 |.ownA _ o=>some o
 |_=>none
structure Gm where
 B:Addr->Prop
 F:Hp
 Hz:Hp
 Xo:Hp
def SlotAt (g:Gm) (x:Slot) (a:Addr):Prop:=match x with
 |.own _=>g.Hz a=none
 |.bor _=>g.B a
 |.ownA b _=>b=a/\g.Hz a=none
 |_=>True
structure Ok (K:W.Frag) (g:Gm) (G H:Hp) (σ:St) (Δ:Evt):Prop where
 same:∀b o,¬ g.B b->g.Hz b=some o->H b=some o
 lent:∀b,g.B b->H b≠none
 sub:Same g.F G
 frz:∀b o,G b=some o->H b=some o/\(g.Hz b=none\/g.F b=some o)
 ext:∀b o,g.Xo b=some o->H b=some o/\G b=none/\∀(i:Nat) x od,Δ[i]?=some x->x.od=some od -> σ[i]?≠some (some (.ref b))
 len:Δ.length = σ.length
 val:∀(i:Nat) d,Δ[i]?=some (.val d)->∃v,σ[i]?=some (some v)/\Rep K G v d
 own:∀(i:Nat) x od,Δ[i]?=some x->x.od=some od->∃a o,σ[i]?=some (some (.ref a))/\H a=some o/\OwnRep K G o od/\G a=none/\SlotAt g x a
 dis:∀(i j:Nat) x y od od' a,Δ[i]?=some x->x.od=some od -> Δ[j]?=some y->y.od=some od' -> σ[i]?=some (some (.ref a)) -> σ[j]?=some (some (.ref a))->i=j
section
variable {K:W.Frag}{g:Gm}{G H G' H':Hp}{σ:St}{Δ:Evt}
theorem Ok.live (k:Ok K g G H σ Δ):Same G H:=λb o e=>(k.frz b o e).1
theorem Ok.there (k:Ok K g G H σ Δ) {b:Addr}(h:H b=none):g.Hz b=none:=by
 cases e:g.Hz b with
 |none=>rfl
 |some o=>
  by_cases hb:g.B b
  ·exact absurd h<|k.lent b hb
  ·have:=k.same b o hb e
   rw[h]at this;cases this
theorem Ok.grow (k:Ok K g G H σ Δ) (sg:Same G G') (sh:Same H H') (hg:∀b o,G' b=some o->H' b=some o/\(G b=some o\/H b=none)):Ok K g G' H' σ Δ where
 same:=λb o hb e=>sh b o<|k.same b o hb e
 lent:=λb hb z=>by
  cases e:H b with
  |none=>exact k.lent b hb e
  |some o=>rw[sh b o e]at z;cases z
 sub:=k.sub.trans sg
 frz:=λb o e=>by
  obtain⟨h1,h2⟩:=hg b o e;refine⟨h1,?_⟩;rcases h2 with z|z
  ·exact(k.frz b o z).2
  ·exact .inl<|k.there z
 ext:=λb o e=>by
  obtain⟨h1,h2,h3⟩:=k.ext b o e;refine⟨sh b o h1,?_,h3⟩;cases q:G' b with
  |none=>rfl
  |some o'=>
   rcases(hg b o' q).2 with z|z
   ·rw[h2]at z;cases z
   ·rw[h1]at z;cases z
 len:=k.len
 val:=λi d e=>by
  obtain⟨v,h1,h2⟩:=k.val i d e;exact⟨v,h1,h2.mono sg⟩
 own:=λi x od e1 e2=>by
  obtain⟨a,o,h1,h2,h3,h4,h5⟩:=k.own i x od e1 e2;refine⟨a,o,h1,sh a o h2,h3.mono sg,?_,h5⟩;cases q:G' a with
  |none=>rfl
  |some o'=>
   rcases(hg a o' q).2 with z|z
   ·rw[h4]at z;cases z
   ·rw[h2]at z;cases z
 dis:=k.dis
theorem Ok.laid (k:Ok K g G H σ Δ) {p:Addr}(hp:H p=none) (o:HO):Ok K g (upd G p o) (upd H p o) σ Δ /\ Same G (upd G p o):=by
 have hG:G p=none:=by
  cases e:G p with
  |none=>rfl
  |some u=>rw[k.live p u e]at hp;cases hp
 have sg:Same G (upd G p o):=λb u e=>by rw[Zak (Zat e hG)];exact e
 refine⟨k.grow sg (λb u e=>by rw[Zak (Zat e hp)];exact e) λb u e=>?_,sg⟩;by_cases hb:b=p
 ·subst hb;rw[Zal]at e ⊢;exact⟨e,.inr hp⟩
 ·rw[Zak hb]at e ⊢;exact⟨k.live b u e,.inl e⟩
theorem Ok.lt (k:Ok K g G H σ Δ) {i:Nat}{x:Slot}(h:Δ[i]?=some x):i < σ.length:=by
 rw[<- k.len];exact(Wag.mp h).1
def Pend (K:W.Frag) (g:Gm) (G H:Hp) (σ:St) (Δ:Evt) (a:Addr) (od:OD):Prop:=
 ∃o,H a=some o/\OwnRep K G o od/\G a=none/\g.Hz a=none/\g.Xo a=none/\∀(i:Nat) x od',Δ[i]?=some x->x.od=some od' -> σ[i]?≠some (some (.ref a))
theorem Ok.setVal (k:Ok K g G H σ Δ) {v:V}{d:D}{i:Nat}(hi:i < Δ.length) (r:Rep K G v d):Ok K g G H (σ.set i<|some v) (Δ.set i (.val d)):=by
 have hs:i < σ.length:=by rw[<- k.len];exact hi
 have old:∀(j:Nat) x od,(Δ.set i (.val d))[j]?=some x->x.od=some od->j≠i /\ Δ[j]?=some x/\(σ.set i<|some v)[j]? = σ[j]?:=λj x od e1 e2=>by
  by_cases hj:j=i
  ·subst hj
   rw[Wat hi]at e1;cases e1;cases e2
  ·rw[Was (Ne.symm hj)]at e1
   exact⟨hj,e1,Was<|Ne.symm hj⟩
 refine⟨k.same,k.lent,k.sub,k.frz,λb o e=>?_,by simp[k.len],λj e h=>?_,λj x od e1 e2=>?_,λj l x y od od' a e1 e2 e3 e4 e5 e6=>?_⟩
 ·obtain⟨h1,h2,h3⟩:=k.ext b o e
  refine⟨h1,h2,λj x od e1 e2=>?_⟩;obtain⟨_,q1,q2⟩:=old j x od e1 e2;rw[q2];exact h3 j x od q1 e2
 ·by_cases hj:j=i
  ·subst hj
   rw[Wat hi]at h;cases h;exact⟨v,Wat hs,r⟩
  ·rw[Was (Ne.symm hj)]at h ⊢
   exact k.val j e h
 ·obtain⟨_,q1,q2⟩:=old j x od e1 e2
  rw[q2];exact k.own j x od q1 e2
 ·obtain⟨_,q1,q2⟩:=old j x od e1 e2
  obtain⟨_,q3,q4⟩:=old l y od' e3 e4;rw[q2]at e5;rw[q4]at e6;exact k.dis j l x y od od' a q1 e2 q3 e4 e5 e6
theorem Ok.setOwn (k:Ok K g G H σ Δ) {a:Addr}{od:OD}{i:Nat}(hi:i < Δ.length) (p:Pend K g G H σ Δ a od):Ok K g G H (σ.set i<|some (.ref a)) (Δ.set i (.own od)):=by
 obtain⟨o,p1,p2,p3,p4,p5,p6⟩:=p;have hs:i < σ.length:=by rw[<- k.len];exact hi
 have old:∀(j:Nat) x,j≠i->(Δ.set i (.own od))[j]?=some x -> Δ[j]?=some x/\(σ.set i<|some (.ref a))[j]? = σ[j]?:=λj x hj e1=>by
  rw[Was (Ne.symm hj)]at e1;exact⟨e1,Was<|Ne.symm hj⟩
 refine⟨k.same,k.lent,k.sub,k.frz,λb ob e=>?_,by simp[k.len],λj e h=>?_,λj x od' e1 e2=>?_,λj l x y od1 od2 c e1 e2 e3 e4 e5 e6=>?_⟩
 ·obtain⟨h1,h2,h3⟩:=k.ext b ob e
  refine⟨h1,h2,λj x od' e1 e2=>?_⟩;by_cases hj:j=i
  ·subst hj
   rw[Wat hs];intro z;cases z;rw[p5]at e;cases e
  ·obtain⟨q1,q2⟩:=old j x hj e1
   rw[q2];exact h3 j x od' q1 e2
 ·by_cases hj:j=i
  ·subst hj
   rw[Wat hi]at h;cases h
  ·rw[Was (Ne.symm hj)]at h ⊢
   exact k.val j e h
 ·by_cases hj:j=i
  ·subst hj
   rw[Wat hi]at e1;cases e1;cases e2;exact⟨a,o,Wat hs,p1,p2,p3,p4⟩
  ·obtain⟨q1,q2⟩:=old j x hj e1
   rw[q2];exact k.own j x od' q1 e2
 ·by_cases hj:j=i
  ·by_cases hl:l=i
   ·rw[hj,hl]
   ·obtain⟨q3,q4⟩:=old l y hl e3
    rw[q4]at e6;rw[hj,Wat hs]at e5;cases e5;exact absurd e6<|p6 l y od2 q3 e4
  ·obtain⟨q1,q2⟩:=old j x hj e1
   rw[q2]at e5;by_cases hl:l=i
   ·rw[hl,Wat hs]at e6
    cases e6;exact absurd e5<|p6 j x od1 q1 e2
   ·obtain⟨q3,q4⟩:=old l y hl e3
    rw[q4]at e6;exact k.dis j l x y od1 od2 c q1 e2 q3 e4 e5 e6
def Slot.put:Slot->OD->Slot
 |.own _,o=>.own o
 |.bor _,o=>.bor o
 |.ownA a _,o=>.ownA a o
 |x,_=>x
theorem SlotAt.put {g:Gm}{x:Slot}{a:Addr}{o:OD}(h:SlotAt g x a):SlotAt g (x.put o) a:=by cases x <;> exact h
theorem SlotAt.free {g:Gm}{x:Slot}{a:Addr}{od:OD}(h:SlotAt g x a) (ho:x.od=some od):g.Hz a=none\/g.B a:=by
 cases x with
 |any=>cases ho
 |val d=>cases ho
 |own o=>exact .inl h
 |bor o=>exact .inr h
 |ownA b o=>exact .inl h.2
theorem Slot.put_od {x:Slot}{od o:OD}(h:x.od=some od):(x.put o).od=some o:=by cases x <;> cases h <;> rfl
theorem Ok.write (k:Ok K g G H σ Δ) {a:Addr}{od od':OD}{x:Slot}{i:Nat}{o':HO}(hx:Δ[i]?=some x) (hod:x.od=some od) (ha:σ[i]?=some (some (.ref a))) (r:OwnRep K G o' od'):Ok K g G (upd H a o') σ (Δ.set i<|x.put od'):=by
 obtain⟨a',o,q1,q2,q3,q4,q5⟩:=k.own i x od hx hod;rw[ha]at q1;cases q1;have hi:i < Δ.length:=(Wag.mp hx).1;have other:∀(j:Nat) y od2,(Δ.set i<|x.put od')[j]?=some y->y.od=some od2->j≠i -> Δ[j]?=some y:=λj y od2 e1 e2 hj=>by
  rw[Was (Ne.symm hj)]at e1;exact e1
 have anyOd:∀(j:Nat) y od2,(Δ.set i<|x.put od')[j]?=some y->y.od=some od2->∃y' od3,Δ[j]?=some y' /\ y'.od=some od3:=λj y od2 e1 e2=>by
  by_cases hj:j=i
  ·subst hj;exact⟨x,od,hx,hod⟩
  ·exact⟨y,od2,other j y od2 e1 e2 hj,e2⟩
 refine⟨λb u hb e=>?_,λb hb=>?_,k.sub,λb u e=>?_,λb u e=>?_,by simp[k.len],λj e h=>?_,λj y od2 e1 e2=>?_,λj l y z od1 od2 c e1 e2 e3 e4 e5 e6=>?_⟩
 ·have hba:b≠a:=by
   intro z;subst z;rcases q5.free hod with z|z
   ·rw[z]at e;cases e
   ·exact hb z
  rw[Zak hba];exact k.same b u hb e
 ·by_cases hba:b=a
  ·subst hba;rw[Zal];intro z;cases z
  ·rw[Zak hba];exact k.lent b hb
 ·have hba:b≠a:=by intro z;subst z;rw[q4]at e;cases e
  rw[Zak hba];exact k.frz b u e
 ·obtain⟨h1,h2,h3⟩:=k.ext b u e
  have hba:b≠a:=by intro z;subst z;exact h3 i x od hx hod ha
  rw[Zak hba];refine⟨h1,h2,λj y od2 e1 e2=>?_⟩;obtain⟨y',od3,z1,z2⟩:=anyOd j y od2 e1 e2;exact h3 j y' od3 z1 z2
 ·by_cases hj:j=i
  ·subst hj
   rw[Wat hi]at h;cases x <;> cases hod <;> cases h
  ·rw[Was (Ne.symm hj)]at h
   exact k.val j e h
 ·by_cases hj:j=i
  ·subst hj
   rw[Wat hi]at e1;cases e1;rw[Slot.put_od hod]at e2;cases e2;exact⟨a,o',ha,Zal,r,q4,q5.put⟩
  ·have e1':=other j y od2 e1 e2 hj
   obtain⟨c,oc,w1,w2,w3,w4,w5⟩:=k.own j y od2 e1' e2;have hca:c≠a:=by
    intro z;subst z;exact hj<|k.dis j i y x od2 od c e1' e2 hx hod w1 ha
   exact⟨c,oc,w1,by rw[Zak hca];exact w2,w3,w4,w5⟩
 ·obtain⟨y',od3,z1,z2⟩:=anyOd j y od1 e1 e2
  obtain⟨y'',od4,z3,z4⟩:=anyOd l z od2 e3 e4;exact k.dis j l y' y'' od3 od4 c z1 z2 z3 z4 e5 e6
theorem Ok.freeze (k:Ok K g G H σ Δ) {a:Addr}{ds:List D}{vs:List V}(p:Pend K g G H σ Δ a (.lst ds)) (hv:H a=some (.lst vs)):Ok K g (upd G a (.lst vs)) H σ Δ /\ Same G (upd G a (.lst vs))/\Rep K (upd G a (.lst vs)) (.ref a) (.lst ds):=by
 obtain⟨o,p1,p2,p3,p4,p5,p6⟩:=p;rw[hv]at p1;cases p1;have p2:Reps K G vs ds:=p2;have sg:Same G (upd G a (.lst vs)):=λb u e=>by rw[Zak (Zat e p3)];exact e
 refine⟨⟨k.same,k.lent,k.sub.trans sg,λb u e=>?_,λb u e=>?_,k.len,λj d h=>?_,λj x od e1 e2=>?_,k.dis⟩,sg,.lst Zal<|p2.mono sg⟩
 ·by_cases hb:b=a
  ·subst hb;rw[Zal]at e;cases e;exact⟨hv,.inl p4⟩
  ·rw[Zak hb]at e;exact k.frz b u e
 ·obtain⟨h1,h2,h3⟩:=k.ext b u e
  have hb:b≠a:=by intro z;subst z;rw[p5]at e;cases e
  exact⟨h1,by rw[Zak hb];exact h2,h3⟩
 ·obtain⟨v,h1,h2⟩:=k.val j d h
  exact⟨v,h1,h2.mono sg⟩
 ·obtain⟨c,o,w1,w2,w3,w4,w5⟩:=k.own j x od e1 e2
  have hc:c≠a:=by intro z;subst z;exact p6 j x od e1 e2 w1
  exact⟨c,o,w1,w2,w3.mono sg,by rw[Zak hc];exact w4,w5⟩
theorem Ok.drop (k:Ok K g G H σ Δ) (i:Nat):Ok K g G H σ (Δ.set i .any):=by
 have old:∀(j:Nat) x,(Δ.set i .any)[j]?=some x->x=.any\/(Δ[j]?=some x/\j≠i):=λj x e1=>by
  by_cases hj:j=i
  ·subst hj
   rw[Wcz]at e1;simp at e1;exact .inl e1.2.symm
  ·rw[Was (Ne.symm hj)]at e1
   exact .inr ⟨e1,hj⟩
 have oldO:∀(j:Nat) x od,(Δ.set i .any)[j]?=some x->x.od=some od -> Δ[j]?=some x:=λj x od e1 e2=>by
  rcases old j x e1 with z|z
  ·subst z;cases e2
  ·exact z.1
 refine⟨k.same,k.lent,k.sub,k.frz,λb o e=>?_,by simp[k.len],λj e h=>?_,λj x od e1 e2=>k.own j x od (oldO j x od e1 e2) e2,λj l x y od od' a e1 e2 e3 e4=>k.dis j l x y od od' a (oldO j x od e1 e2) e2 (oldO l y od' e3 e4) e4⟩
 ·obtain⟨h1,h2,h3⟩:=k.ext b o e
  exact⟨h1,h2,λj x od e1 e2=>h3 j x od (oldO j x od e1 e2) e2⟩
 ·rcases old j _ h with z|z
  ·cases z
  ·exact k.val j e z.1
theorem Ok.take (k:Ok K g G H σ Δ) {i:Nat}{od:OD}(h:Δ[i]?=some (.own od)):∃a,σ[i]?=some (some (.ref a))/\Pend K g G H σ (Δ.set i .any) a od:=by
 obtain⟨a,o,h1,h2,h3,h4,h5⟩:=k.own i _ od h rfl;have h5:g.Hz a=none:=h5;refine⟨a,h1,o,h2,h3,h4,h5,?_,λj x od' e1 e2 e3=>?_⟩
 ·cases q:g.Xo a with
  |none=>rfl
  |some u=>exact absurd h1 ((k.ext a u q).2.2 i _ od h rfl)
 ·by_cases hj:j=i
  ·subst hj
   rw[Wcz]at e1;simp at e1;obtain⟨_,e1⟩:=e1;subst e1;cases e2
  ·rw[Was (Ne.symm hj)]at e1
   exact hj<|k.dis j i x _ od' od a e1 e2 h rfl e3 h1
end
def Cont (K:W.Frag) (g:Gm) (G:Hp) (σ:St) (P:D->Evt->Prop) (Q:VK):Prop:=
 ∀v d G' H' Δ',Ok K g G' H' σ Δ' -> Same G G' -> Rep K G' v d->P d Δ' -> Q v H'
def JE (K:W.Frag) (t:TE) (Δ:Evt) (P:D->Evt->Prop):Prop:=
 ∀g G H σ Q,Ok K g G H σ Δ -> Cont K g G σ P Q->t σ H Q
def JT (K:W.Frag) (t:TT) (Δ:Evt) (P:Bool->Evt->Prop):Prop:=
 ∀g G H σ Q,Ok K g G H σ Δ -> (∀b G' H' Δ',Ok K g G' H' σ Δ' -> Same G G' -> P b Δ' -> Q b H')->t σ H Q
def JA (K:W.Frag) (t:TA) (Δ:Evt) (P:List D->Evt->Prop):Prop:=
 ∀g G H σ Q,Ok K g G H σ Δ -> (∀vs ds G' H' Δ',Ok K g G' H' σ Δ' -> Same G G' -> Reps K G' vs ds->P ds Δ' -> Q vs H')->t σ H Q
def JO (K:W.Frag) (t:TE) (Δ:Evt) (P:OD->Evt->Prop):Prop:=
 ∀g G H σ Q,Ok K g G H σ Δ -> (∀a od G' H' Δ',Ok K g G' H' σ Δ' -> Same G G' -> Pend K g G' H' σ Δ' a od->P od Δ' -> Q (.ref a) H')->t σ H Q
def JR2 (K:W.Frag) (r:R2) (d e:D) (Δ:Evt) (P:D->Evt->Prop):Prop:=
 ∀g G H σ Q x y,Ok K g G H σ Δ -> Rep K G x d->Rep K G y e->Cont K g G σ P Q->r x y H Q
def JR1 (K:W.Frag) (r:V->Hp->VK->Prop) (d:D) (Δ:Evt) (P:D->Evt->Prop):Prop:=
 ∀g G H σ Q x,Ok K g G H σ Δ -> Rep K G x d->Cont K g G σ P Q->r x H Q
def JC (K:W.Frag) (r:List V->Hp->VK->Prop) (ds:List D) (Δ:Evt) (P:D->Evt->Prop):Prop:=
 ∀g G H σ Q vs,Ok K g G H σ Δ -> Reps K G vs ds->Cont K g G σ P Q->r vs H Q
structure Pst where
 nx:Evt->Prop
 rt:D->Evt->Prop
 bk:Evt->Prop:=λ_=>False
 ct:Evt->Prop:=λ_=>False
 ro:OD->Evt->Prop:=λ_ _=>False
structure SCont (K:W.Frag) (g:Gm) (P:Pst) (E:Ends):Prop where
 nx:∀σ G H Δ,Ok K g G H σ Δ -> P.nx Δ -> E.nx σ H
 rt:∀v d σ G H Δ,Ok K g G H σ Δ -> Rep K G v d->P.rt d Δ -> E.rt v H
 bk:∀σ G H Δ,Ok K g G H σ Δ -> P.bk Δ -> E.bk σ H
 ct:∀σ G H Δ,Ok K g G H σ Δ -> P.ct Δ -> E.ct σ H
 ro:∀a od σ G H Δ,Ok K g G H σ Δ -> Pend K g G H σ Δ a od->P.ro od Δ -> E.rt (.ref a) H
def JS (K:W.Frag) (t:TS) (Δ:Evt) (P:Pst):Prop:=
 ∀g G H σ E,Ok K g G H σ Δ -> SCont K g P E->t E σ H
def JG (K:W.Frag) (t:TG) (d:D) (Δ:Evt) (P:Evt->Prop):Prop:=
 ∀g G H σ v (R:St->Hp->Prop),Ok K g G H σ Δ -> Rep K G v d->(∀σ' G' H' Δ',Ok K g G' H' σ' Δ' -> Same G G' -> P Δ' -> R σ' H')->t v σ H R
def JGs (K:W.Frag) (t:TGs) (ds:List D) (Δ:Evt) (P:Evt->Prop):Prop:=
 ∀g G H σ vs (R:St->Hp->Prop),Ok K g G H σ Δ -> Reps K G vs ds->(∀σ' G' H' Δ',Ok K g G' H' σ' Δ' -> Same G G' -> P Δ' -> R σ' H')->t vs σ H R
section
variable {K:W.Frag}{Δ:Evt}
theorem Cont.up {g:Gm}{G G1:Hp}{σ:St}{P:D->Evt->Prop}{Q:VK}(c:Cont K g G σ P Q) (s:Same G G1):Cont K g G1 σ P Q:=
 λv d G' H' Δ' k s' r p=>c v d G' H' Δ' k (s.trans s') r p
theorem JE.mono {t:TE}{P P':D->Evt->Prop}(h:JE K t Δ P) (hp:∀d Δ,P d Δ -> P' d Δ):JE K t Δ P':=
 λg G H σ Q k c=>h g G H σ Q k λv d G' H' Δ' k' s r p=>c v d G' H' Δ' k' s r<|hp d Δ' p
theorem JS.mono {t:TS}{P P':Pst}(h:JS K t Δ P) (hn:∀Δ,P.nx Δ -> P'.nx Δ) (hr:∀d Δ,P.rt d Δ -> P'.rt d Δ) (hb:∀Δ,P.bk Δ -> P'.bk Δ) (hc:∀Δ,P.ct Δ -> P'.ct Δ) (ho:∀od Δ,P.ro od Δ -> P'.ro od Δ):JS K t Δ P':=
 λg G H σ E k c=>h g G H σ E k ⟨λσ' G' H' Δ' k' p=>c.nx σ' G' H' Δ' k'<|hn _ p,λv d σ' G' H' Δ' k' r p=>c.rt v d σ' G' H' Δ' k' r<|hr _ _ p,λσ' G' H' Δ' k' p=>c.bk σ' G' H' Δ' k'<|hb _ p,λσ' G' H' Δ' k' p=>c.ct σ' G' H' Δ' k'<|hc _ p,λa od σ' G' H' Δ' k' r p=>c.ro a od σ' G' H' Δ' k' r<|ho _ _ p⟩
theorem Zad {i:Nat}{d:D}{P:D->Evt->Prop}(h:Δ[i]?=some (.val d)) (p:P d Δ):JE K (tVar i) Δ P:=λg G H σ Q k c=>by
 obtain⟨v,h1,h2⟩:=k.val i d h;exact⟨v,h1,c v d G H Δ k (Same.refl _) h2 p⟩
theorem Zhi {i:Nat}{ds:List D}{P:D->Evt->Prop}(h:Δ[i]?=some (.own (.lst ds))) (p:P (.lst ds) (Δ.set i (.val (.lst ds)))):JE K (tVar i) Δ P:=λg G H σ Q k c=>by
 obtain⟨a,h1,pd⟩:=k.take h;obtain⟨o,q1,q2,_⟩:=id pd;cases o with
 |lst vs=>
  obtain⟨k2,sg,r⟩:=(k.drop i).freeze pd q1;have k3:=k2.setVal (i:=i) (by simpa using (Wag.mp h).1) r;have e1:σ.set i (some (.ref a)) = σ:=by
   apply Wc0;intro j;by_cases hj:j=i
   ·subst hj;rw[Wat (k.lt h),h1]
   ·rw[Was (Ne.symm hj)]
  rw[e1,List.set_set]at k3;exact⟨.ref a,h1,c _ _ _ H _ k3 sg r p⟩
 |_=>exact absurd q2 (λz=>z)
theorem Zao {i:Int}{P:D->Evt->Prop}(p:P (.int i) Δ):JE K (tC (.int i)) Δ P:=λg G H σ Q k c=>c _ _ G H Δ k (Same.refl _) (.int i) p
theorem Zwt {b:Bool}{P:D->Evt->Prop}(p:P (.bl b) Δ):JE K (tC (.bl b)) Δ P:=λg G H σ Q k c=>c _ _ G H Δ k (Same.refl _) (.bl b) p
theorem Zvb {P:D->Evt->Prop}(p:P .non Δ):JE K (tC .non) Δ P:=λg G H σ Q k c=>c _ _ G H Δ k (Same.refl _) .non p
theorem Zgv {x:Str}{P:D->Evt->Prop}(p:P (.str x) Δ):JE K (tC (.str x)) Δ P:=λg G H σ Q k c=>c _ _ G H Δ k (Same.refl _) (.str x) p
theorem Zv8 {x:String}{P:D->Evt->Prop}(p:P (.ty x) Δ):JE K (tC (.ty x)) Δ P:=λg G H σ Q k c=>c _ _ G H Δ k (Same.refl _) (.ty x) p
theorem Zas {r:R2}{ta tb:TE}{P:D->Evt->Prop}(h:JE K ta Δ λd Δ1=>JE K tb Δ1 λe Δ2=>JR2 K r d e Δ2 P):JE K (tOp r ta tb) Δ P:=λg G H σ Q k c=>
 h g G H σ _ k λx d G1 H1 Δ1 k1 s1 r1 p1=>p1 g G1 H1 σ _ k1 λy e G2 H2 Δ2 k2 s2 r2 p2=>p2 g G2 H2 σ Q x y k2 (r1.mono s2) r2<|c.up<|s1.trans s2
theorem Zws {r:V->Hp->VK->Prop}{ta:TE}{P:D->Evt->Prop}(h:JE K ta Δ λd Δ1=>JR1 K r d Δ1 P):JE K (tUn r ta) Δ P:=λg G H σ Q k c=>
 h g G H σ _ k λx d G1 H1 Δ1 k1 s1 r1 p1=>p1 g G1 H1 σ Q x k1 r1<|c.up s1
theorem Zag {P:List D->Evt->Prop}(p:P [] Δ):JA K tNil Δ P:=λg G H σ Q k c=>c [] [] G H Δ k (Same.refl _) .nil p
theorem Zac {ta:TE}{tr:TA}{P:List D->Evt->Prop}(h:JE K ta Δ λd Δ1=>JA K tr Δ1 λds Δ2=>P (d::ds) Δ2):JA K (tCons ta tr) Δ P:=λg G H σ Q k c=>
 h g G H σ _ k λx d G1 H1 Δ1 k1 s1 r1 p1=>p1 g G1 H1 σ _ k1 λvs ds G2 H2 Δ2 k2 s2 r2 p2=>c _ _ G2 H2 Δ2 k2 (s1.trans s2) (.cons (r1.mono s2) r2) p2
theorem Zb1 {r:List V->Hp->VK->Prop}{ta:TA}{P:D->Evt->Prop}(h:JA K ta Δ λds Δ1=>JC K r ds Δ1 P):JE K (tCB r ta) Δ P:=λg G H σ Q k c=>
 h g G H σ _ k λvs ds G1 H1 Δ1 k1 s1 r1 p1=>p1 g G1 H1 σ Q vs k1 r1<|c.up s1
theorem Zb7 {ta:TA}{P:D->Evt->Prop}(h:JA K ta Δ λds Δ1=>ds.length<=sizeLine/\P (.tup ds) Δ1):JE K (tTup ta) Δ P:=λg G H σ Q k c=>
 h g G H σ _ k λvs ds G1 H1 Δ1 k1 s1 r1 ⟨z,p1⟩=>⟨by rw[r1.length];exact z,λp hp=>by
  obtain⟨k2,sg⟩:=k1.laid hp (.tup vs);exact c _ _ _ _ Δ1 k2 (s1.trans sg) (.tup Zal (r1.mono sg)) p1⟩
theorem Zei {ta:TA}{P:D->Evt->Prop}(h:JA K ta Δ λds Δ1=>ds.length<=sizeLine/\P (.lst ds) Δ1):JE K (tLst ta) Δ P:=λg G H σ Q k c=>
 h g G H σ _ k λvs ds G1 H1 Δ1 k1 s1 r1 ⟨z,p1⟩=>⟨by rw[r1.length];exact z,λp hp=>by
  obtain⟨k2,sg⟩:=k1.laid hp (.lst vs);exact c _ _ _ _ Δ1 k2 (s1.trans sg) (.lst Zal (r1.mono sg)) p1⟩
theorem Ok.fresh {g:Gm}{G H:Hp}{σ:St}(k:Ok K g G H σ Δ) {p:Addr}{o:HO}{od:OD}(hp:H p=none) (r:OwnRep K G o od):Ok K g G (upd H p o) σ Δ /\ Pend K g G (upd H p o) σ Δ p od:=by
 have hG:G p=none:=by
  cases e:G p with
  |none=>rfl
  |some u=>rw[k.live p u e]at hp;cases hp
 refine⟨k.grow (Same.refl _) (λb u e=>by rw[Zak (Zat e hp)];exact e) λb u e=>⟨?_,.inl e⟩,o,Zal,r,hG,k.there hp,?_,λj x od' e1 e2 e3=>?_⟩
 ·have hb:b≠p:=by intro z;subst z;rw[hG]at e;cases e
  rw[Zak hb];exact k.live b u e
 ·cases q:g.Xo p with
  |none=>rfl
  |some u=>have z:=(k.ext p u q).1;rw[hp]at z;cases z
 ·obtain⟨a,oo,w1,w2,_⟩:=k.own j x od' e1 e2
  rw[e3]at w1;cases w1;rw[hp]at w2;cases w2
theorem Zgr {ta:TA}{P:OD->Evt->Prop}(h:JA K ta Δ λds Δ1=>ds.length<=sizeLine/\P (.lst ds) Δ1):JO K (tLst ta) Δ P:=λg G H σ Q k c=>
 h g G H σ _ k λvs ds G1 H1 Δ1 k1 s1 r1 ⟨z,p1⟩=>⟨by rw[r1.length];exact z,λp hp=>by
  obtain⟨k2,pd⟩:=k1.fresh (od:=.lst ds) hp (show OwnRep K G1 (.lst vs) (.lst ds) from r1);exact c p _ G1 _ Δ1 k2 s1 pd p1⟩
theorem Zbt {t:TE}{P:D->Evt->Prop}(h:JO K t Δ λod Δ1=>∃ds,od=.lst ds/\P (.lst ds) Δ1):JE K t Δ P:=λg G H σ Q k c=>
 h g G H σ Q k λa od G1 H1 Δ1 k1 s1 pd hq_=>by
  obtain⟨ds,e,p1⟩:=hq_;subst e;obtain⟨o,q1,q2,_⟩:=id pd;cases o with
  |lst vs=>
   obtain⟨k2,sg,r⟩:=k1.freeze pd q1;exact c _ _ _ H1 Δ1 k2 (s1.trans sg) r p1
  |_=>exact absurd q2 (λz=>z)
theorem Zqs {c:TT}{ta tb:TE}{P:D->Evt->Prop}(h:JT K c Δ λb Δ1=>if b=true then JE K ta Δ1 P else JE K tb Δ1 P):JE K (tIf c ta tb) Δ P:=λg G H σ Q k q=>
 h g G H σ _ k λb G1 H1 Δ1 k1 s1 p1=>by
  cases b with
  |true=>exact(show JE K ta Δ1 P from p1) g G1 H1 σ Q k1 (q.up s1)
  |false=>exact(show JE K tb Δ1 P from p1) g G1 H1 σ Q k1 (q.up s1)
theorem Zbg {t:TE}{P:Bool->Evt->Prop}(h:JE K t Δ λd Δ1=>∃b,d=.bl b/\P b Δ1):JT K (tTest t) Δ P:=λg G H σ Q k c=>
 h g G H σ _ k λv d G1 H1 Δ1 k1 s1 r1 hq_=>by obtain⟨b,e,p1⟩:=hq_;subst e;cases r1.inv;exact⟨b,rfl,c b G1 H1 Δ1 k1 s1 p1⟩
theorem Zos {a b:TT}{P:Bool->Evt->Prop}(h:JT K a Δ λx Δ1=>if x=true then JT K b Δ1 P else P false Δ1):JT K (tAnd a b) Δ P:=λg G H σ Q k c=>
 h g G H σ _ k λx G1 H1 Δ1 k1 s1 p1=>by
  cases x with
  |true=>exact(show JT K b Δ1 P from p1) g G1 H1 σ _ k1 λy G2 H2 Δ2 k2 s2 p2=>c y G2 H2 Δ2 k2 (s1.trans s2) p2
  |false=>exact c false G1 H1 Δ1 k1 s1 p1
theorem Zuv {a b:TT}{P:Bool->Evt->Prop}(h:JT K a Δ λx Δ1=>if x=true then P true Δ1 else JT K b Δ1 P):JT K (tOr a b) Δ P:=λg G H σ Q k c=>
 h g G H σ _ k λx G1 H1 Δ1 k1 s1 p1=>by
  cases x with
  |true=>exact c true G1 H1 Δ1 k1 s1 p1
  |false=>exact(show JT K b Δ1 P from p1) g G1 H1 σ _ k1 λy G2 H2 Δ2 k2 s2 p2=>c y G2 H2 Δ2 k2 (s1.trans s2) p2
theorem Zm7 {a:TT}{P:Bool->Evt->Prop}(h:JT K a Δ λx Δ1=>P (!x) Δ1):JT K (tNot a) Δ P:=λg G H σ Q k c=>
 h g G H σ _ k λx G1 H1 Δ1 k1 s1 p1=>c (!x) G1 H1 Δ1 k1 s1 p1
theorem Zdm {P:Bool->Evt->Prop}(p:P true Δ):JT K tTrue Δ P:=λg G H σ Q k c=>c true G H Δ k (Same.refl _) p
theorem Zth {P:Pst}(p:P.nx Δ):JS K tNext Δ P:=λg G H σ E k c=>c.nx σ G H Δ k p
theorem Zrv {t u:TS}{P:Pst}(h:JS K t Δ { P with nx:=λΔ1=>JS K u Δ1 P }):JS K (tSeq t u) Δ P:=λg G H σ E k c=>
 h g G H σ _ k ⟨λσ1 G1 H1 Δ1 k1 p1=>p1 g G1 H1 σ1 E k1 c,c.rt,c.bk,c.ct,c.ro⟩
theorem Zvv {te:TE}{P:Pst}(h:JE K te Δ P.rt):JS K (tRet te) Δ P:=λg G H σ E k c=>
 h g G H σ _ k λv d G1 H1 Δ1 k1 s1 r1 p1=>c.rt v d σ G1 H1 Δ1 k1 r1 p1
theorem Ztl {te:TE}{P:Pst}(h:JO K te Δ P.ro):JS K (tRet te) Δ P:=λg G H σ E k c=>
 h g G H σ _ k λa od G1 H1 Δ1 k1 s1 pd p1=>c.ro a od σ G1 H1 Δ1 k1 pd p1
theorem Zwg {i:Nat}{od:OD}{P:OD->Evt->Prop}(h:Δ[i]?=some (.own od)) (p:P od (Δ.set i .any)):JO K (tVar i) Δ P:=λg G H σ Q k c=>by
 obtain⟨a,h1,pd⟩:=k.take h;exact⟨.ref a,h1,c a od G H _ (k.drop i) (Same.refl _) pd p⟩
theorem Zsc {te:TE}{P:Pst}(h:JE K te Δ λ_ Δ1=>P.nx Δ1):JS K (tDrop te) Δ P:=λg G H σ E k c=>
 h g G H σ _ k λv d G1 H1 Δ1 k1 s1 r1 p1=>c.nx σ G1 H1 Δ1 k1 p1
theorem Zwn {c:TT}{t u:TS}{P:Pst}(h:JT K c Δ λb Δ1=>if b=true then JS K t Δ1 P else JS K u Δ1 P):JS K (tIfS c t u) Δ P:=λg G H σ E k q=>
 h g G H σ _ k λb G1 H1 Δ1 k1 s1 p1=>by
  cases b with
  |true=>exact(show JS K t Δ1 P from p1) g G1 H1 σ E k1 q
  |false=>exact(show JS K u Δ1 P from p1) g G1 H1 σ E k1 q
theorem Zvk {te:TE}{t:TG}{P:Pst}(h:JE K te Δ λd Δ1=>JG K t d Δ1 P.nx):JS K (tAsg te t) Δ P:=λg G H σ E k c=>
 h g G H σ _ k λv d G1 H1 Δ1 k1 s1 r1 p1=>p1 g G1 H1 σ v _ k1 r1 λσ2 G2 H2 Δ2 k2 s2 p2=>c.nx σ2 G2 H2 Δ2 k2 p2
theorem Zf0 {P:Evt->Prop}(p:P Δ):JGs K gNil [] Δ P:=λg G H σ vs R k r c=>by cases r;exact⟨rfl,c σ G H Δ k (Same.refl _) p⟩
theorem Zcd {t:TG}{u:TGs}{d:D}{ds:List D}{P:Evt->Prop}(h:JG K t d Δ λΔ1=>JGs K u ds Δ1 P):JGs K (gCons t u) (d::ds) Δ P:=λg G H σ vs R k r c=>by
 obtain⟨_,_,rfl,r1,rr⟩:=r.inv
 next=>exact⟨_,_,rfl,h g G H σ _ _ k r1 λσ1 G1 H1 Δ1 k1 s1 p1=>p1 g G1 H1 σ1 _ R k1 (rr.mono s1) λσ2 G2 H2 Δ2 k2 s2 p2=>c σ2 G2 H2 Δ2 k2 (s1.trans s2) p2⟩
theorem Zie {n:Nat}{t:TGs}{ds:List D}{P:Evt->Prop}(hl:ds.length=n) (h:JGs K t ds Δ P):JG K (gTup K n t) (.tup ds) Δ P:=λg G H σ v R k r c=>by
 obtain⟨_,_,rfl,ha,rs⟩:=r.inv
 next=>exact⟨_,_,rfl,SqT.of<|k.live _ _ ha,by rw[rs.length];exact hl,h g G H σ _ R k rs c⟩
def ItOk (K:W.Frag) (G:Hp) (J:It) (ds:List D):Prop:=
 ∀G1 H1,Same G G1->Same G1 H1->J.stop ds.length H1/\∀(i:Nat) d,ds[i]?=some d->J.go i H1/\∀x H2,J.yld i H1 x H2->∃G2,Same G1 G2/\Same H1 H2/\(∀b o,G2 b=some o->H2 b=some o/\(G1 b=some o\/H1 b=none))/\Rep K G2 x d
def JI (K:W.Frag) (wi:TI) (Δ:Evt) (P:List D->Evt->Prop):Prop:=
 ∀g G H σ (R:It->Hp->Prop),Ok K g G H σ Δ -> (∀J ds G' H' Δ',Ok K g G' H' σ Δ' -> Same G G' -> ItOk K G' J ds->P ds Δ' -> R J H')->wi σ H R
theorem Zvh {tl:TE}{P:List D->Evt->Prop}(h:JE K tl Δ λd Δ1=>∃ds,d=.tup ds/\P ds Δ1):JI K (iTup K tl) Δ P:=λg G H σ R k c=>
 h g G H σ _ k λv d G1 H1 Δ1 k1 s1 r1 hq_=>by
  obtain⟨ds,e,p1⟩:=hq_;subst e;obtain⟨a,vs,rfl,ha,rs⟩:=r1.inv
  next=>
   refine⟨a,rfl,⟨vs,SqT.of<|k1.live _ _ ha⟩,c _ ds G1 H1 Δ1 k1 s1 (λG2 H2 sg sh=>⟨⟨vs,SqT.of<|sh _ _<|sg _ _ ha,by rw[rs.length];exact Waf _⟩,λi d e=>?_⟩) p1⟩;obtain⟨v,hv,rv⟩:=rs.get e;refine⟨⟨vs,v,SqT.of<|sh _ _<|sg _ _ ha,hv⟩,λx H3 ⟨e3,y3⟩=>⟨G2,Same.refl _,by rw[e3];exact Same.refl _,λb o q=>⟨by rw[e3];exact sh b o q,.inl q⟩,?_⟩⟩;have:=y3 vs<|SqT.of<|sh _ _<|sg _ _ ha;rw[hv]at this;cases this;exact rv.mono sg
theorem Ztd {tl:TE}{P:List D->Evt->Prop}(h:JE K tl Δ λd Δ1=>∃ds,(d=.lst ds\/d=.scr ds)/\P ds Δ1):JI K (iList K tl) Δ P:=λg G H σ R k c=>
 h g G H σ _ k λv d G1 H1 Δ1 k1 s1 r1 hq_=>by
  obtain⟨ds,e,p1⟩:=hq_;obtain⟨a,vs,ea,hs,rs⟩:∃a vs,v=.ref a/\SqL K G1 a vs/\Reps K G1 vs ds:=by
   rcases e with e|e
   ·subst e;cases r1 with|lst ha rs=>exact⟨_,_,rfl,SqL.of ha,rs⟩
   ·subst e;cases r1 with|scr ha rs=>exact⟨_,_,rfl,ha,rs⟩
  subst ea;refine⟨a,rfl,⟨vs,k1.live.seq hs⟩,c _ ds G1 H1 Δ1 k1 s1 (λG2 H2 sg sh=>⟨⟨vs,sh.seq<|sg.seq hs,by rw[rs.length];exact Waf _⟩,λi d e=>?_⟩) p1⟩;obtain⟨v,hv,rv⟩:=rs.get e;refine⟨⟨vs,v,sh.seq<|sg.seq hs,hv⟩,λx H3 ⟨e3,y3⟩=>⟨G2,Same.refl _,by rw[e3];exact Same.refl _,λb o q=>⟨by rw[e3];exact sh b o q,.inl q⟩,?_⟩⟩;have:=y3 vs<|sh.seq<|sg.seq hs;rw[hv]at this;cases this;exact rv.mono sg
def rngD (lo:Int) (n:Nat):List D:=(Wak n).map λi:Nat=>D.int<|lo+(i:Int)
theorem Za7 (lo:Int) (n:Nat):(rngD lo n).length=n:=by simp[rngD]
theorem Za6 {lo:Int}{n i:Nat}{d:D}(h:(rngD lo n)[i]?=some d):i<n/\d=.int (lo+(i:Int)):=by
 unfold rngD at h;rw[Wah]at h;cases e:(Wak n)[i]? with
 |none=>rw[e]at h;cases h
 |some j=>
  rw[e]at h;obtain⟨h1,h2⟩:=Wag.mp e;rw[Wb7]at h2;subst h2;exact⟨by simpa using h1,(Wa5.inj h).symm⟩
theorem Zj9 {G:Hp}(lo:Int) (n:Nat):ItOk K G (Itr lo n) (rngD lo n):=λG1 H1 sg sh=>by
 refine⟨by show n<=(rngD lo n).length;rw[Za7];exact Waf _,λi d e=>?_⟩;obtain⟨h1,h2⟩:=Za6 e;subst h2;refine⟨h1,λx H2 ⟨e2,y2⟩=>⟨G1,Same.refl _,by rw[e2];exact Same.refl _,λb o q=>⟨by rw[e2];exact sh b o q,.inl q⟩,?_⟩⟩;subst y2;exact .int _
theorem Zba {ta:TA}{P:List D->Evt->Prop}(h:JA K ta Δ λds Δ1=>∃n:Int,ds=[.int n] /\ -(2 ^ 62)<=n/\n<2 ^ 62/\P (rngD 0 n.toNat) Δ1):JI K (iRng1 ta) Δ P:=λg G H σ R k c=>
 h g G H σ _ k λvs ds G1 H1 Δ1 k1 s1 r1 hq_=>by
  obtain⟨n,e,h1,h2,p1⟩:=hq_;subst e;obtain⟨_,_,rfl,ra,rr⟩:=r1.inv
  next=>
   cases rr.inv;cases ra.inv;exact⟨n,rfl,h1,h2,c _ _ G1 H1 Δ1 k1 s1 (Zj9 0 _) p1⟩
theorem Zjd {ta:TA}{P:List D->Evt->Prop}(h:JA K ta Δ λds Δ1=>∃m n:Int,ds=[.int m,.int n]/\(-(2 ^ 62)<=m/\m<2 ^ 62 /\ -(2 ^ 62)<=n/\n<2 ^ 62)/\P (rngD m (n-m).toNat) Δ1):JI K (iRng2 ta) Δ P:=λg G H σ R k c=>
 h g G H σ _ k λvs ds G1 H1 Δ1 k1 s1 r1 hq_=>by
  obtain⟨m,n,e,h1,p1⟩:=hq_;subst e;obtain⟨_,_,rfl,ra,rr⟩:=r1.inv
  next=>
   obtain⟨_,_,rfl,rb,rr⟩:=rr.inv
   next=>
    cases rr.inv;cases ra.inv;cases rb.inv;exact⟨m,n,rfl,h1,c _ _ G1 H1 Δ1 k1 s1 (Zj9 m _) p1⟩
theorem Zvx {wi:TI}{t:TG}{tb:TS}{P:Pst}(h:JI K wi Δ λds Δ1=>∃I:Nat->Evt->Prop,I 0 Δ1/\(∀i d Δ2,ds[i]?=some d->I i Δ2->JG K t d Δ2 λΔ3=>JS K tb Δ3 ⟨I<|i+1,P.rt,P.nx,I<|i+1,P.ro⟩)/\∀Δ2,I ds.length Δ2->P.nx Δ2) :
  JS K (tFor wi t tb) Δ P:=λg G H σ E k c=>
 h g G H σ _ k λJ ds G1 H1 Δ1 k1 s1 it hq_=>by
  obtain⟨I,h0,ht,he⟩:=hq_;refine⟨λi m σ H=>m=ds.length-i/\i<=ds.length/\∃G Δ,Ok K g G H σ Δ /\ Same G1 G/\I i Δ,⟨ds.length,by simp,Wb1 _,G1,Δ1,k1,Same.refl _,h0⟩,?_⟩;rintro i m σ2 H2 ⟨rfl,hi,G2,Δ2,k2,s2,h2⟩;obtain⟨stop,go⟩:=it G2 H2 s2 k2.live;by_cases hlt:i<ds.length
  ·obtain⟨g1,g2⟩:=go i _ (Waa hlt)
   refine .inr ⟨g1,λσ' H'=>i+1<=ds.length/\∃G Δ,Ok K g G H' σ' Δ /\ Same G1 G/\I (i+1) Δ,λσ' H' p'=>⟨ds.length-(i+1),by omega,rfl,p'.1,p'.2⟩,λx H3 y=>?_⟩;obtain⟨G3,a1,a2,a3,a4⟩:=g2 x H3 y;have k3:=k2.grow a1 a2 a3;refine ht i _ Δ2 (Waa hlt) h2 { g with F:=G3,Xo:=g.Xo } G3 H3 σ2 x _ ?_ a4 λσ4 G4 H4 Δ4 k4 s4 p4=>?_
   ·exact⟨k3.same,k3.lent,Same.refl _,λb o q=>⟨(k3.frz b o q).1,.inr q⟩,k3.ext,k3.len,k3.val,k3.own,k3.dis⟩
   ·have cv:∀{G5 H5:Hp}{σ5:St}{Δ5:Evt},Ok K { g with F:=G3,Xo:=g.Xo } G5 H5 σ5 Δ5->Ok K g G5 H5 σ5 Δ5/\Same G1 G5:=λ{G5 H5 σ5 Δ5} k5=>
     ⟨⟨k5.same,k5.lent,k3.sub.trans k5.sub,λb o q=>by
      obtain⟨q1,q2⟩:=k5.frz b o q;refine⟨q1,?_⟩;rcases q2 with z|z
      ·exact .inl z
      ·exact(k3.frz b o z).2,k5.ext,k5.len,k5.val,k5.own,k5.dis⟩,s2.trans (a1.trans k5.sub)⟩
    refine p4 _ G4 H4 σ4 _ k4 ⟨λσ5 G5 H5 Δ5 k5 p5=>?_,λv d σ5 G5 H5 Δ5 k5 r5 p5=>?_,λσ5 G5 H5 Δ5 k5 p5=>?_,λσ5 G5 H5 Δ5 k5 p5=>?_,λa od σ5 G5 H5 Δ5 k5 pd5 p5=>?_⟩
    ·exact⟨hlt,G5,Δ5,(cv k5).1,(cv k5).2,p5⟩
    ·exact c.rt v d σ5 G5 H5 Δ5 (cv k5).1 r5 p5
    ·exact c.nx σ5 G5 H5 Δ5 (cv k5).1 p5
    ·exact⟨hlt,G5,Δ5,(cv k5).1,(cv k5).2,p5⟩
    ·exact c.ro a od σ5 G5 H5 Δ5 (cv k5).1 pd5 p5
  ·have e:i=ds.length:=by omega
   subst e;exact .inl ⟨stop,c.nx σ2 G2 H2 Δ2 k2<|he Δ2 h2⟩
theorem Zpu {c:TT}{tb:TS}{P:Pst}(I:Nat->Evt->Prop) (h0:∃m,I m Δ) (ht:∀m Δ1,I m Δ1->JT K c Δ1 λb Δ2=>if b=true then JS K tb Δ2 ⟨λΔ3=>∃m',m'<m/\I m' Δ3,P.rt,P.nx,λΔ3=>∃m',m'<m/\I m' Δ3,P.ro⟩ else P.nx Δ2) :
  JS K (tWhile c tb) Δ P:=λg G H σ E k q=>by
 obtain⟨m,h0⟩:=h0;refine⟨λm σ H=>∃G Δ,Ok K g G H σ Δ /\ I m Δ,⟨m,G,Δ,k,h0⟩,?_⟩;rintro m σ1 H1 ⟨G1,Δ1,k1,h1⟩;refine ht m Δ1 h1 g G1 H1 σ1 _ k1 λb G2 H2 Δ2 k2 s2 p2=>?_;cases b with
 |true=>
  refine⟨λσ' H'=>∃m',m'<m/\∃G Δ,Ok K g G H' σ' Δ /\ I m' Δ,λσ' H' ⟨m',hm,z⟩=>⟨m',hm,z⟩,?_⟩;refine(show JS K tb Δ2 _ from p2) g G2 H2 σ1 _ k2 ⟨λσ5 G5 H5 Δ5 k5 ⟨m',hm,p5⟩=>⟨m',hm,G5,Δ5,k5,p5⟩,q.rt,q.nx,λσ5 G5 H5 Δ5 k5 ⟨m',hm,p5⟩=>⟨m',hm,G5,Δ5,k5,p5⟩,q.ro⟩
 |false=>exact q.nx σ1 G2 H2 Δ2 k2 p2
end
section
variable {K:W.Frag}{Δ:Evt}{P:D->Evt->Prop}
theorem jr_I {C:Int->Int->Prop}{f:Int->Int->Int}{i j:Int}(hc:C i j) (p:P (.int<|f i j) Δ):JR2 K (rI C λi j=>.int<|f i j) (.int i) (.int j) Δ P:=λg G H σ Q x y k rx ry c=>by
 cases rx.inv;cases ry.inv;exact⟨i,j,rfl,rfl,hc,c _ _ G H Δ k (Same.refl _) (.int _) p⟩
theorem Zll {f:Int->Int->Int}{i j:Int}(p:P (.int<|f i j) Δ):JR2 K (rI0 λi j=>.int<|f i j) (.int i) (.int j) Δ P:=λg G H σ Q x y k rx ry c=>by
 cases rx.inv;cases ry.inv;exact⟨i,j,rfl,rfl,c _ _ G H Δ k (Same.refl _) (.int _) p⟩
theorem Zlb {f:Int->Int->Bool}{i j:Int}(p:P (.bl<|f i j) Δ):JR2 K (rI0 λi j=>.bl<|f i j) (.int i) (.int j) Δ P:=λg G H σ Q x y k rx ry c=>by
 cases rx.inv;cases ry.inv;exact⟨i,j,rfl,rfl,c _ _ G H Δ k (Same.refl _) (.bl _) p⟩
theorem Zgn {i j:Int}(p:P (.bl<|decide (i=j)) Δ):JR2 K rEq (.int i) (.int j) Δ P:=λg G H σ Q x y k rx ry c=>by
 cases rx.inv;cases ry.inv;refine⟨rfl,?_⟩;have e:decide (V.int i=V.int j)=decide (i=j):=by rw[Zhz];exact(Bool.beq_eq_decide_eq i j)
 rw[e];exact c _ _ G H Δ k (Same.refl _) (.bl _) p
theorem Zs7 {i j:Int}(p:P (.bl (!decide (i=j))) Δ):JR2 K rNe (.int i) (.int j) Δ P:=λg G H σ Q x y k rx ry c=>by
 cases rx.inv;cases ry.inv;refine⟨rfl,?_⟩;have e:decide (V.int i=V.int j)=decide (i=j):=by rw[Zhz];exact(Bool.beq_eq_decide_eq i j)
 rw[e];exact c _ _ G H Δ k (Same.refl _) (.bl _) p
theorem Zvs {ds:List D}{i:Int}{d:D}(h:atI ds i=some d) (p:P d Δ):JR2 K (rIxT K) (.tup ds) (.int i) Δ P:=λg G H σ Q x y k rx ry c=>by
 obtain⟨_,_,rfl,ha,rs⟩:=rx.inv
 next=>
  cases ry.inv;obtain⟨v,h1,h2⟩:=Zhr rs h;exact⟨_,_,i,v,rfl,rfl,SqT.of<|k.live _ _ ha,h1,c v d G H Δ k (Same.refl _) h2 p⟩
theorem Zvj {ds:List D}{i:Int}{d:D}(h:atI ds i=some d) (p:P d Δ):JR2 K (rIxL K) (.lst ds) (.int i) Δ P:=λg G H σ Q x y k rx ry c=>by
 obtain⟨_,_,rfl,ha,rs⟩:=rx.inv
 next=>
  cases ry.inv;obtain⟨v,h1,h2⟩:=Zhr rs h;exact⟨_,_,i,v,rfl,rfl,SqL.of<|k.live _ _ ha,h1,c v d G H Δ k (Same.refl _) h2 p⟩
theorem Zov {n:Nat}{te:TE}{Pp:Pst}{x:Slot}{od:OD}(hx:Δ[n]?=some x) (ho:x.od=some od) (hod:∃ds,od=.lst ds)
  (h:JE K te Δ λd Δ1=>∃y ds,Δ1[n]?=some y/\y.od=some (.lst ds)/\ds.length<sizeLine/\Pp.nx (Δ1.set n<|y.put (.lst<|ds++[d]))) :
  JS K (tDrop<|tBM K "list" rAppend (tVar n)<|tCons te tNil) Δ Pp:=λg G H σ E k c=>by
 obtain⟨a,o,h1,h2,h3,h4,h5⟩:=k.own n x _ hx ho;obtain⟨ds0,hod⟩:=hod;subst hod;cases o with
 |lst vs0=>
  refine⟨.ref a,h1,.inl ⟨rfl,_,SqL.of h2⟩,h g G H σ _ k λv d G1 H1 Δ1 k1 s1 r1 ⟨y,ds,q1,q2,q3,p⟩=>?_⟩;obtain⟨a',o',w1,w2,w3,w4,w5⟩:=k1.own n y _ q1 q2;rw[h1]at w1;cases w1;cases o' with
  |lst vs=>
   have w3:Reps K G1 vs ds:=w3;exact⟨a,vs,v,rfl,rfl,w2,by rw[w3.length];exact q3,c.nx σ G1 _ _ (k1.write q1 q2 h1 (show OwnRep K G1 (.lst<|vs++[v]) (.lst<|ds++[d]) from w3.append (.cons r1 .nil))) p⟩
  |_=>exact absurd w3 (λz=>z)
 |_=>exact absurd h3 (λz=>z)
theorem Zu4 {ds es:List D}(he:ds=[.lst es]\/ds=[.tup es]) (p:P (.int es.length) Δ) :
  JC K (λxs H Q=>∃p ys,xs=[.ref p]/\(SqL K H p ys\/SqT K H p ys)/\Q (.int ys.length) H) ds Δ P:=λg G H σ Q vs k rs c=>by
 rcases he with he|he <;> subst he
 ·obtain⟨_,_,rfl,r,t⟩:=rs.inv
  next=>
   cases t.inv;obtain⟨_,_,rfl,ha,rs⟩:=r.inv
   next=>
    refine⟨_,_,rfl,.inl<|SqL.of<|k.live _ _ ha,?_⟩;rw[rs.length];exact c _ _ G H Δ k (Same.refl _) (.int _) p
 ·obtain⟨_,_,rfl,r,t⟩:=rs.inv
  next=>
   cases t.inv;obtain⟨_,_,rfl,ha,rs⟩:=r.inv
   next=>
    refine⟨_,_,rfl,.inr<|SqT.of<|k.live _ _ ha,?_⟩;rw[rs.length];exact c _ _ G H Δ k (Same.refl _) (.int _) p
theorem Ztg {n:Nat}{x:Slot}{ds:List D}(hx:Δ[n]?=some x) (ho:x.od=some (.lst ds)) (p:P (.int ds.length) Δ) :
  JE K (tCB (λxs H Q=>∃p ys,xs=[.ref p]/\(SqL K H p ys\/SqT K H p ys)/\Q (.int ys.length) H)<|tCons (tVar n) tNil) Δ P:=λg G H σ Q k c=>by
 obtain⟨a,o,h1,h2,h3,h4,h5⟩:=k.own n x _ hx ho;cases o with
 |lst vs=>
  have h3:Reps K G vs ds:=h3;refine⟨.ref a,h1,a,vs,rfl,.inl<|SqL.of h2,?_⟩;rw[h3.length];exact c _ _ G H Δ k (Same.refl _) (.int _) p
 |_=>exact absurd h3 (λz=>z)
theorem Zub {i:Int}(p:P (.int (if i<0 then -i else i)) Δ):JC K (λxs H Q=>∃i,xs=[.int i]/\Q (.int (if i<0 then -i else i)) H) [.int i] Δ P:=λg G H σ Q vs k rs c=>by
 obtain⟨_,_,rfl,r,t⟩:=rs.inv
 next=>cases t.inv;cases r.inv;exact⟨i,rfl,c _ _ G H Δ k (Same.refl _) (.int _) p⟩
theorem Zj7 {f:Int->Int->Int}{i j:Int}(p:P (.int<|f i j) Δ):JC K (λxs H Q=>∃i j,xs=[.int i,.int j]/\Q (.int<|f i j) H) [.int i,.int j] Δ P:=λg G H σ Q vs k rs c=>by
 obtain⟨_,_,rfl,r,t⟩:=rs.inv
 next=>
  obtain⟨_,_,rfl,r',t⟩:=t.inv
  next=>cases t.inv;cases r.inv;cases r'.inv;exact⟨i,j,rfl,c _ _ G H Δ k (Same.refl _) (.int _) p⟩
theorem Zpn {ds es:List D}(he:ds=[.lst es]\/ds=[.tup es]) (p:P (.tup es) Δ) :
  JC K (λxs H Q=>∃p ys,xs=[.ref p]/\((SqL K H p ys/\∀l,H l=none->Q (.ref l) (upd H l (.tup ys)))\/(SqT K H p ys/\Q (.ref p) H))) ds Δ P:=λg G H σ Q vs k rs c=>by
 rcases he with he|he <;> subst he
 ·obtain⟨_,_,rfl,r,t⟩:=rs.inv
  next=>
   cases t.inv;obtain⟨_,_,rfl,ha,rs⟩:=r.inv
   next=>
    refine⟨_,_,rfl,.inl ⟨SqL.of<|k.live _ _ ha,λl hl=>?_⟩⟩;obtain⟨k2,sg⟩:=k.laid hl (.tup _);exact c _ _ _ _ Δ k2 sg (.tup Zal<|rs.mono sg) p
 ·obtain⟨_,_,rfl,r,t⟩:=rs.inv
  next=>
   cases t.inv;obtain⟨_,_,rfl,ha,rs⟩:=r.inv
   next=>exact⟨_,_,rfl,.inr ⟨SqT.of<|k.live _ _ ha,c _ _ G H Δ k (Same.refl _) (.tup ha rs) p⟩⟩
def glue (F H H':Hp):Hp:=λb=>match H b with
 |none=>H' b
 |some _=>F b
theorem Zcl {F H H':Hp}{b:Addr}(h:H b=none):glue F H H' b=H' b:=by unfold glue;rw[h]
theorem Zb5 {F H H':Hp}{b:Addr}{o:HO}(h:H b=some o):glue F H H' b=F b:=by unfold glue;rw[h]
theorem Zds {G H H':Hp}(l:Same G H):Same G (glue G H H'):=λb o e=>by rw[Zb5 (l b o e)];exact e
theorem Zd1 {G H H':Hp}(l:Same G H) (sh:∀b o,G b=some o->H b=some o->H' b=some o):∀b o,glue G H H' b=some o->H' b=some o/\(G b=some o\/H b=none):=λb o e=>by
 cases q:H b with
 |none=>rw[Zcl q]at e;exact⟨e,.inr rfl⟩
 |some u=>rw[Zb5 q]at e;exact⟨sh b o e (l b o e),.inl e⟩
abbrev DSp:=List D->(D->Prop)->Prop
def spD (K:W.Frag) (f:DSp):Sp:=λvs H Q _=>∃F ds Post,Same F H/\Reps K F vs ds/\f ds Post/\∀r H' d,Same H H' -> Rep K (glue F H H') r d->Post d->Q r H'
theorem Zaz {f:DSp}{ta:TA}{E:XK}(h:JA K ta Δ λds Δ1=>f ds λd=>P d Δ1):JE K (tCall (spD K f) [] E ta) Δ P:=λg G H σ Q k c=>
 h g G H σ _ k λvs ds G1 H1 Δ1 k1 s1 r1 p1=>by
  show spD K f (vs++[]) H1 Q E;rw[Wbb];refine⟨G1,ds,_,k1.live,r1,p1,λr H' d sh rr pd=>?_⟩;have sg:=Zds (H':=H') k1.live;exact c r d _ H' Δ1 (k1.grow sg sh (Zd1 k1.live λb o _ e=>sh b o e)) (s1.trans sg) rr pd
abbrev BSp:=List D->List D->(D->List D->Prop)->Prop
def spB (K:W.Frag) (f:BSp):Sp:=λvs H Q _=>∃F a us ws ps ds Post,vs=.ref a::ws/\Same F H/\F a=none/\H a=some (.lst us)/\Reps K F us ps/\Reps K F ws ds/\f ps ds Post ∧
 ∀r H' us' ps' d,(∀b o,b≠a->H b=some o->H' b=some o)->H' a=some (.lst us')->Reps K (glue F H H') us' ps' -> Rep K (glue F H H') r d->Post d ps' -> Q r H'
theorem Ok.lend {g:Gm}{G H H':Hp}{σ:St}(k:Ok K g G H σ Δ) {i:Nat}{x:Slot}{ps ps':List D}{us':List V}{a:Addr}(hx:Δ[i]?=some x) (ho:x.od=some (.lst ps)) (ha:σ[i]?=some (some (.ref a)))
  (sh:∀b o,b≠a->H b=some o->H' b=some o) (hn:H' a=some (.lst us')) (r:Reps K (glue G H H') us' ps'):Ok K g (glue G H H') H' σ (Δ.set i<|x.put (.lst ps'))/\Same G (glue G H H'):=by
 obtain⟨a',o,h1,h2,h3,h4,h5⟩:=k.own i x _ hx ho;rw[ha]at h1;cases h1;have sg:=Zds (H':=H') k.live;have k2:Ok K g (glue G H H') (upd H' a o) σ Δ:=by
  refine k.grow sg (λb u e=>?_) λb u e=>?_
  ·by_cases hb:b=a
   ·subst hb;rw[Zal,<- h2];exact e
   ·rw[Zak hb];exact sh b u hb e
  ·have hb:b≠a:=by intro z;subst z;rw[Zb5 h2,h4]at e;cases e
   rw[Zak hb];exact Zd1 k.live (λc w e1 e2=>sh c w (λz=>by subst z;rw[h4]at e1;cases e1) e2) b u e
 have k3:=k2.write hx ho ha (show OwnRep K (glue G H H') (.lst us') (.lst ps') from r);rw[Zsz]at k3;have e:upd H' a (.lst us')=H':=by
  funext b
  by_cases hb:b=a
  ·subst hb;rw[Zal,hn]
  ·rw[Zak hb]
 rw[e]at k3;exact⟨k3,sg⟩
theorem Znn {f:BSp}{ta:TA}{E:XK}{i:Nat}{x:Slot}{od:OD}(hx:Δ[i]?=some x) (ho:x.od=some od) (h:JA K ta Δ λds Δ1=>∃y ps,Δ1[i]?=some y/\y.od=some (.lst ps)/\f ps ds λd ps'=>P d (Δ1.set i<|y.put (.lst ps'))) :
  JE K (tCall (spB K f) [] E<|tCons (tVar i) ta) Δ P:=λg G H σ Q k c=>by
 obtain⟨a,o,h1,h2,h3,h4,h5⟩:=k.own i x _ hx ho;refine⟨.ref a,h1,h g G H σ _ k λvs ds G1 H1 Δ1 k1 s1 r1 ⟨y,ps,q1,q2,p1⟩=>?_⟩;show spB K f ((.ref a::vs)++[]) H1 Q E;rw[Wbb];obtain⟨a',o',w1,w2,w3,w4,w5⟩:=k1.own i y _ q1 q2;rw[h1]at w1;cases w1;cases o' with
 |lst us=>
  refine⟨G1,a,us,vs,ps,ds,_,rfl,k1.live,w4,w2,w3,r1,p1,λr H' us' ps' d sh hn rr rd pd=>?_⟩;obtain⟨k2,sg⟩:=k1.lend q1 q2 h1 sh hn rr;exact c r d _ H' _ k2 (s1.trans sg) rd pd
 |_=>exact absurd w3 (λz=>z)
abbrev NSp:=List D->(List D->Prop)->Prop
def spN (K:W.Frag) (f:NSp):Sp:=λvs H Q _=>∃F ds Post,Same F H/\Reps K F vs ds/\f ds Post ∧
 ∀a H' us ps,Same H H' -> H a=none->H' a=some (.lst us)->Reps K (λb=>if b=a then none else glue F H H' b) us ps->Post ps->Q (.ref a) H'
theorem Zcx {f:NSp}{ta:TA}{E:XK}{Po:OD->Evt->Prop}(h:JA K ta Δ λds Δ1=>f ds λps=>Po (.lst ps) Δ1):JO K (tCall (spN K f) [] E ta) Δ Po:=λg G H σ Q k c=>
 h g G H σ _ k λvs ds G1 H1 Δ1 k1 s1 r1 p1=>by
  show spN K f (vs++[]) H1 Q E;rw[Wbb];refine⟨G1,ds,_,k1.live,r1,p1,λa H' us ps sh ha hn rr pd=>?_⟩;have sg:Same G1 (λb=>if b=a then none else glue G1 H1 H' b):=λb o e=>by
   have hb:b≠a:=by intro z;subst z;rw[k1.live _ _ e]at ha;cases ha
   try dsimp only
   rw[if_neg hb];exact Zds k1.live b o e
  have k2:Ok K g (λb=>if b=a then none else glue G1 H1 H' b) H' σ Δ1:=k1.grow sg sh λb o e=>by
   try dsimp only at e
   by_cases hb:b=a
   ·rw[if_pos hb]at e;cases e
   ·rw[if_neg hb]at e;exact Zd1 k1.live (λb o _ e=>sh b o e) b o e
  refine c a _ _ H' Δ1 k2 (s1.trans sg) ⟨.lst us,hn,(show OwnRep K _ (.lst us) (.lst ps) from rr),by simp,k1.there ha,?_,λj x od' e1 e2 e3=>?_⟩ pd
  ·cases q:g.Xo a with
   |none=>rfl
   |some u=>have z:=(k1.ext a u q).1;rw[ha]at z;cases z
  ·obtain⟨b,oo,w1,w2,_⟩:=k1.own j x od' e1 e2
   rw[e3]at w1;cases w1;rw[ha]at w2;cases w2
end
def startD (N:List Str) (ds:List D):Evt:=ds.map .val++Wae (N.length-ds.length) .any
section
variable {K:W.Frag}
theorem Zc9 {g:Gm}{G H:Hp}{N:List Str}{vs:List V}{ds:List D}(rs:Reps K G vs ds) (hl:ds.length<=N.length) (same:∀b o,¬ g.B b->g.Hz b=some o->H b=some o) (lent:∀b,g.B b->H b≠none) (sub:Same g.F G)
  (frz:∀b o,G b=some o->H b=some o/\(g.Hz b=none\/g.F b=some o)) (ext:∀b,g.Xo b=none):Ok K g G H (start N vs) (startD N ds):=by
 have noOd:∀(i:Nat) x od,(startD N ds)[i]?=some x->x.od=some od->False:=λi x od e1 e2=>by
  have hm:=Wax e1;rcases Wbn.mp hm with z|z
  ·obtain⟨d,_,rfl⟩:=Wbk.mp z;cases e2
  ·rw[Wc5]at z;rw[z.2]at e2;cases e2
 refine⟨same,lent,sub,frz,λb o e=>(by rw[ext b]at e;cases e),?_,λi d e=>?_,λi x od e1 e2=>(noOd i x od e1 e2).elim,λi j x y od od' a e1 e2=>(noOd i x od e1 e2).elim⟩
 ·unfold start startD
  rw[Wao,Wao,Wac,Wac,Waq,Waq,rs.length]
 ·unfold startD at e
  unfold start;by_cases hi:i<ds.length
  ·rw[Wa9 (by simpa using hi),Wah]at e
   cases q:ds[i]? with
   |none=>rw[q]at e;cases e
   |some d'=>
    rw[q]at e;have e:Slot.val d'=Slot.val d:=by simpa using e
    cases e;obtain⟨v,h1,h2⟩:=rs.get q;refine⟨v,?_,h2⟩;rw[Wa9 (by rw[Wac,rs.length];exact hi),Wah,h1];rfl
  ·rw[Wav (by simpa using hi),Wbm]at e
   split at e <;> cases e
theorem Zdj {f:DSp}{t:TS}{N:List Str}{vs:List V}{H:Hp}{Q:VK}{E:XK}(ht:∀ds Post,f ds Post->ds.length<=N.length/\JS K t (startD N ds) ⟨λ_=>Post .non,λd _=>Post d,λ_=>False,λ_=>False,λ_ _=>False⟩) (h:spD K f vs H Q E) :
  t { nx:=λ_ H'=>Q .non H',rt:=Q } (start N vs) H:=by
 obtain⟨F,ds,Post,l,rs,hf,q⟩:=h;obtain⟨hl,hj⟩:=ht ds Post hf;have fin:∀{v:V}{d:D}{σ:St}{G H':Hp}{Δ:Evt},Ok K ⟨λ_=>False,F,H,λ_=>none⟩ G H' σ Δ -> Rep K G v d->Post d->Q v H':=λ{v d σ G H' Δ} k r p=>by
  refine q v H' d (λb o e=>k.same b o (λz=>z) e) (r.mono λb o e=>?_) p;obtain⟨e1,e2⟩:=k.frz b o e;rcases e2 with z|z
  ·rw[Zcl z];exact e1
  ·rw[Zb5 (l b o z)];exact z
 refine hj ⟨λ_=>False,F,H,λ_=>none⟩ F H (start N vs) _ (Zc9 rs hl (λ_ _ _ e=>e) (λ_ z=>z.elim) (Same.refl _) (λb o e=>⟨l b o e,.inr e⟩) λ_=>rfl) ⟨λσ G H' Δ k p=>fin k .non p,λv d σ G H' Δ k r p=>fin k r p,λ_ _ _ _ _ z=>z.elim,λ_ _ _ _ _ z=>z.elim,λ_ _ _ _ _ _ _ _ z=>z.elim⟩
theorem Zma {f:NSp}{t:TS}{N:List Str}{vs:List V}{H:Hp}{Q:VK}{E:XK}(ht:∀ds Post,f ds Post->ds.length<=N.length/\JS K t (startD N ds) ⟨λ_=>False,λ_ _=>False,λ_=>False,λ_=>False,λod _=>∃ps,od=.lst ps/\Post ps⟩) (h:spN K f vs H Q E) :
  t { nx:=λ_ H'=>Q .non H',rt:=Q } (start N vs) H:=by
 obtain⟨F,ds,Post,l,rs,hf,q⟩:=h;obtain⟨hl,hj⟩:=ht ds Post hf;refine hj ⟨λ_=>False,F,H,λ_=>none⟩ F H (start N vs) _ (Zc9 rs hl (λ_ _ _ e=>e) (λ_ z=>z.elim) (Same.refl _) (λb o e=>⟨l b o e,.inr e⟩) λ_=>rfl) ⟨λ_ _ _ _ _ z=>z.elim,λ_ _ _ _ _ _ _ _ z=>z.elim,λ_ _ _ _ _ z=>z.elim,λ_ _ _ _ _ z=>z.elim,λa od σ G H' Δ k pd ⟨ps,e,p⟩=>?_⟩;subst e;obtain⟨o,h1,h2,h3,h4,h5,h6⟩:=pd;cases o with
 |lst us=>
  refine q a H' us ps (λb o e=>k.same b o (λz=>z) e) h4 h1 (Reps.mono (λb o e=>?_) (show Reps K G us ps from h2)) p;have hb:b≠a:=by intro z;subst z;rw[h3]at e;cases e
  try dsimp only
  rw[if_neg hb];obtain⟨e1,e2⟩:=k.frz b o e;rcases e2 with z|z
  ·rw[Zcl z];exact e1
  ·rw[Zb5 (l b o z)];exact z
 |_=>exact absurd h2 (λz=>z)
theorem Zqp {f:BSp}{t:TS}{N:List Str}{vs:List V}{H:Hp}{Q:VK}{E:XK}(ht:∀ps ds Post,f ps ds Post->ds.length+1<=N.length/\JS K t (.bor (.lst ps)::startD N.tail ds) ⟨λΔ=>∃ps',Δ[0]?=some (.bor (.lst ps'))/\Post .non ps',λd Δ=>∃ps',Δ[0]?=some (.bor (.lst ps'))/\Post d ps',λ_=>False,λ_=>False,λ_ _=>False⟩) (h:spB K f vs H Q E) :
  t { nx:=λ_ H'=>Q .non H',rt:=Q } (start N vs) H:=by
 obtain⟨F,a,us,ws,ps,ds,Post,rfl,l,fa,ha,ru,rs,hf,q⟩:=h;obtain⟨hl,hj⟩:=ht ps ds Post hf;have fin:∀{v:V}{d:D}{σ:St}{G H':Hp}{Δ:Evt}{ps':List D},Ok K ⟨λb=>b=a,F,H,λ_=>none⟩ G H' σ Δ -> Δ[0]?=some (.bor (.lst ps'))->Rep K G v d->Post d ps' -> Q v H':=λ{v d σ G H' Δ ps'} k e0 r p=>by
  obtain⟨a',o,h1,h2,h3,h4,h5⟩:=k.own 0 _ _ e0 rfl;have ea:a'=a:=h5;subst ea;cases o with
  |lst us'=>
   have up:Same G (glue F H H'):=λb o e=>by
    obtain⟨e1,e2⟩:=k.frz b o e;rcases e2 with z|z
    ·rw[Zcl z];exact e1
    ·rw[Zb5 (l b o z)];exact z
   exact q v H' us' ps' d (λb o hb e=>k.same b o hb e) h2 (Reps.mono up (show Reps K G us' ps' from h3)) (r.mono up) p
  |_=>exact absurd h3 (λz=>z)
 cases N with
 |nil=>simp at hl
 |cons n0 N=>
  have hl':ds.length<=N.length:=by simpa using hl
  have k0:=Zc9 (K:=K) (H:=H) (g:=⟨λb=>b=a,F,H,λ_=>none⟩) (N:=N) rs hl' (λ_ _ _ e=>e) (λb z=>by subst z;rw[ha];intro w;cases w) (Same.refl _) (λb o e=>⟨l b o e,.inr e⟩) λ_=>rfl;have e1:start (n0::N) (.ref a::ws)=some (.ref a)::start N ws:=by
   unfold start;rw[Wbr,Wa2,Wa2,Nat.add_sub_add_right];rfl
  rw[e1];have noOd:∀(i:Nat) x od,(startD N ds)[i]?=some x->x.od=some od->False:=λi x od e1 e2=>by
   have hm:=Wax e1;rcases Wbn.mp hm with z|z
   ·obtain⟨d,_,rfl⟩:=Wbk.mp z;cases e2
   ·rw[Wc5]at z;rw[z.2]at e2;cases e2
  have k1:Ok K ⟨λb=>b=a,F,H,λ_=>none⟩ F H (some (.ref a)::start N ws) (.bor (.lst ps)::startD N ds):=by
   refine⟨k0.same,k0.lent,k0.sub,k0.frz,λb o e=>(by cases e),(by rw[Wa2,Wa2,k0.len]),λi d e=>?_,λi x od e1 e2=>?_,λi j x y od od' c e1 e2 e3 e4 _ _=>?_⟩
   ·cases i with
    |zero=>cases e
    |succ i=>exact k0.val i d e
   ·cases i with
    |zero=>cases e1;cases e2;exact⟨a,.lst us,rfl,ha,ru,fa,rfl⟩
    |succ i=>exact(noOd i x od e1 e2).elim
   ·cases i with
    |zero=>cases j with
     |zero=>rfl
     |succ j=>exact(noOd j y od' e3 e4).elim
    |succ i=>exact(noOd i x od e1 e2).elim
  exact hj _ F H _ _ k1 ⟨λσ G H' Δ k ⟨ps',e,p⟩=>fin k e .non p,λv d σ G H' Δ k r ⟨ps',e,p⟩=>fin k e r p,λ_ _ _ _ _ z=>z.elim,λ_ _ _ _ _ z=>z.elim,λ_ _ _ _ _ _ _ _ z=>z.elim⟩
theorem Zbk {f:DSp}{n:Nat}(h:∀ds Post,f ds Post->ds.length=n):∀vs H Q E,spD K f vs H Q E->vs.length=n:=λvs H Q E hq_=>by obtain⟨F,ds,Post,l,rs,hf,q⟩:=hq_;rw[rs.length];exact h ds Post hf
theorem Zeo {f:NSp}{n:Nat}(h:∀ds Post,f ds Post->ds.length=n):∀vs H Q E,spN K f vs H Q E->vs.length=n:=λvs H Q E hq_=>by obtain⟨F,ds,Post,l,rs,hf,q⟩:=hq_;rw[rs.length];exact h ds Post hf
theorem Zib {f:BSp}{n:Nat}(h:∀ps ds Post,f ps ds Post->ds.length+1=n):∀vs H Q E,spB K f vs H Q E->vs.length=n:=λvs H Q E hq_=>by obtain⟨F,a,us,ws,ps,ds,Post,e,l,fa,ha,ru,rs,hf,q⟩:=hq_;rw[e,Wa2,rs.length];exact h ps ds Post hf
end
def JGn (K:W.Frag) (n:Nat) (t:TG) (d:D) (Δ:Evt) (P:Evt->Prop):Prop:=
 ∀g G H σ v (R:St->Hp->Prop),Ok K g G H σ Δ -> Rep K G v d->(∀σ' G' H' Δ',Ok K g G' H' σ' Δ' -> Same G G' -> (∀j,n<=j -> σ'[j]? = σ[j]?)->P Δ' -> R σ' H')->t v σ H R
def JGsn (K:W.Frag) (n:Nat) (t:TGs) (ds:List D) (Δ:Evt) (P:Evt->Prop):Prop:=
 ∀g G H σ vs (R:St->Hp->Prop),Ok K g G H σ Δ -> Reps K G vs ds->(∀σ' G' H' Δ',Ok K g G' H' σ' Δ' -> Same G G' -> (∀j,n<=j -> σ'[j]? = σ[j]?)->P Δ' -> R σ' H')->t vs σ H R
section
variable {K:W.Frag}{Δ:Evt}
theorem Zqe {n:Nat}{P:Evt->Prop}(p:P Δ):JGsn K n gNil [] Δ P:=λg G H σ vs R k r c=>by cases r;exact⟨rfl,c σ G H Δ k (Same.refl _) (λ_ _=>rfl) p⟩
theorem Ziu {n:Nat}{t:TG}{u:TGs}{d:D}{ds:List D}{P:Evt->Prop}(h:JGn K n t d Δ λΔ1=>JGsn K n u ds Δ1 P):JGsn K n (gCons t u) (d::ds) Δ P:=λg G H σ vs R k r c=>by
 obtain⟨_,_,rfl,r1,rr⟩:=r.inv
 next=>exact⟨_,_,rfl,h g G H σ _ _ k r1 λσ1 G1 H1 Δ1 k1 s1 e1 p1=>p1 g G1 H1 σ1 _ R k1 (rr.mono s1) λσ2 G2 H2 Δ2 k2 s2 e2 p2=>c σ2 G2 H2 Δ2 k2 (s1.trans s2) (λj hj=>(e2 j hj).trans (e1 j hj)) p2⟩
theorem Zsw {n m:Nat}{t:TGs}{ds:List D}{P:Evt->Prop}(hl:ds.length=m) (h:JGsn K n t ds Δ P):JGn K n (gTup K m t) (.tup ds) Δ P:=λg G H σ v R k r c=>by
 obtain⟨_,_,rfl,ha,rs⟩:=r.inv
 next=>exact⟨_,_,rfl,SqT.of<|k.live _ _ ha,by rw[rs.length];exact hl,h g G H σ _ R k rs c⟩
end
def compD (n:Nat) (sel:List Nat) (Δ:Evt):Evt:=Wae n .any++sel.map λi=>(Δ[i]?).getD .any
def backAt (n:Nat) (sel:List Nat) (Δi:Evt) (i:Nat) (x:Slot):Slot:=match x with
 |.val d=>.val d
 |.any=>.any
 |x=>match sel.idxOf? i with
  |none=>x
  |some j=>match Δi[n+j]? with
   |some (.own o)=>.own o
   |some (.bor o)=>.bor o
   |some (.ownA a o)=>.ownA a o
   |_=>.any
def backD (n:Nat) (sel:List Nat) (Δi:Evt):Nat->Evt->Evt
 |_,[]=>[]
 |i,x::r=>backAt n sel Δi i x::backD n sel Δi (i+1) r
theorem Zc0 (n:Nat) (sel:List Nat) (Δi:Evt):∀(Δ:Evt) (k i:Nat),(backD n sel Δi k Δ)[i]?=(Δ[i]?).map (backAt n sel Δi<|k+i)
 |[],k,i=>by simp[backD]
 |x::r,k,0=>by simp[backD]
 |x::r,k,i+1=>by
  have:=Zc0 n sel Δi r (k+1) i;simp only[backD,List.getElem?_cons_succ];rw[this,show k+1+i=k+(i+1) by omega]
theorem Zij (n:Nat) (sel:List Nat) (Δi:Evt):∀(Δ:Evt) (k:Nat),(backD n sel Δi k Δ).length = Δ.length
 |[],k=>rfl
 |x::r,k=>by simp[backD,Zij n sel Δi r (k+1)]
theorem Zd5 {sel:List Nat}{i j:Nat}(h:sel.idxOf? i=some j):sel[j]?=some i:=by
 have h2:=List.idxOf?_eq_some_iff.mp h;obtain⟨hj,e,_⟩:=h2;rw[Waa hj,e]
theorem Zni {n:Nat}{sel:List Nat}{Δi:Evt}{i:Nat}{x y:Slot}{od:OD}(h:backAt n sel Δi i x=y) (ho:y.od=some od) :
  (x=y/\sel.idxOf? i=none)\/∃j,sel[j]?=some i /\ Δi[n+j]?=some y/\∃od',x.od=some od':=by
 unfold backAt at h;cases x with
 |any=>subst h;cases ho
 |val d=>subst h;cases ho
 |own o=>
  dsimp only at h;cases q:sel.idxOf? i with
  |none=>rw[q]at h;exact .inl ⟨h,rfl⟩
  |some j=>
   rw[q]at h;dsimp only at h;refine .inr ⟨j,Zd5 q,?_,o,rfl⟩;cases e:Δi[n+j]? with
   |none=>rw[e]at h;subst h;cases ho
   |some z=>rw[e]at h;cases z <;> (subst h;first|rfl|cases ho)
 |ownA a o=>
  dsimp only at h;cases q:sel.idxOf? i with
  |none=>rw[q]at h;exact .inl ⟨h,rfl⟩
  |some j=>
   rw[q]at h;dsimp only at h;refine .inr ⟨j,Zd5 q,?_,o,rfl⟩;cases e:Δi[n+j]? with
   |none=>rw[e]at h;subst h;cases ho
   |some z=>rw[e]at h;cases z <;> (subst h;first|rfl|cases ho)
 |bor o=>
  dsimp only at h;cases q:sel.idxOf? i with
  |none=>rw[q]at h;exact .inl ⟨h,rfl⟩
  |some j=>
   rw[q]at h;dsimp only at h;refine .inr ⟨j,Zd5 q,?_,o,rfl⟩;cases e:Δi[n+j]? with
   |none=>rw[e]at h;subst h;cases ho
   |some z=>rw[e]at h;cases z <;> (subst h;first|rfl|cases ho)
section
variable {K:W.Frag}{Δ:Evt}
open Classical in
noncomputable def aside (g:Gm) (sel:List Nat) (σ:St) (Δ:Evt) (H:Hp) (acc:Addr) (ys:List V):Hp:=λb=>
 if b=acc then some (.lst ys) else if ∃(i:Nat) (x:Slot) (od:OD),Δ[i]?=some x/\x.od=some od/\i ∉ sel /\ σ[i]?=some (some (.ref b)) then H b else g.Xo b
theorem Zc2 {n:Nat}{sel:List Nat}{σ:St}{j i:Nat}(h:sel[j]?=some i):(compSt n sel σ)[n+j]?=some ((σ[i]?).getD none):=by
 unfold compSt;rw[Wav (by rw[Waq];omega),Waq,Nat.add_sub_cancel_left,Wah,h];rfl
theorem Zb2 {n:Nat}{sel:List Nat}{Δ:Evt}{k:Nat}{x:Slot}(h:(compD n sel Δ)[k]?=some x):x=.any\/∃j i,k=n+j/\sel[j]?=some i /\ Δ[i]?=some x:=by
 unfold compD at h;by_cases hk:k<n
 ·rw[Wa9 (by simpa using hk),Wbm,if_pos hk]at h
  exact .inl (Wa5.inj h).symm
 ·rw[Wav (by simpa using hk),Waq,Wah]at h
  cases e:sel[k-n]? with
  |none=>rw[e]at h;cases h
  |some i=>
   rw[e]at h;have h:(Δ[i]?).getD .any=x:=by simpa using h
   cases q:Δ[i]? with
   |none=>rw[q]at h;exact .inl h.symm
   |some y=>rw[q]at h;cases h;exact .inr ⟨k-n,i,by omega,e,q⟩
theorem Zlj {g:Gm}{G1 H1:Hp}{σ:St}{Δ1:Evt}{n:Nat}{sel:List Nat}{acc:Addr}{X0:Hp}(hsel:sel.Nodup) (k1:Ok K g G1 H1 σ Δ1) (hacc:H1 acc=none)
  (hX:∀b o,X0 b=some o->(b=acc/\o=.lst [])\/(b≠acc/\(((∃(i:Nat) (x:Slot) (od:OD),Δ1[i]?=some x/\x.od=some od/\i ∉ sel /\ σ[i]?=some (some (.ref b)))/\H1 b=some o)\/g.Xo b=some o))):Ok K ⟨g.B,G1,g.Hz,X0⟩ G1 (upd H1 acc (.lst [])) (compSt n sel σ) (compD n sel Δ1):=by
 have hsl:∀{j j' i:Nat},sel[j]?=some i->sel[j']?=some i->j=j':=λ{j j' i} a b=>by
  obtain⟨h1,e1⟩:=Wag.mp a;obtain⟨h2,e2⟩:=Wag.mp b;exact(Wde hsel).mp (e1.trans e2.symm)
 have hGa:G1 acc=none:=by
  cases e:G1 acc with
  |none=>rfl
  |some u=>rw[k1.live _ _ e]at hacc;cases hacc
 have cs:∀{j i:Nat}{a:Addr},sel[j]?=some i->(compSt n sel σ)[n+j]?=some (some (.ref a)) -> σ[i]?=some (some (.ref a)):=λ{j i a} ej e3=>by
  rw[Zc2 ej]at e3;cases q:σ[i]? with
  |none=>rw[q]at e3;cases e3
  |some w=>rw[q]at e3;cases e3;rfl
 have oldH:∀b o,H1 b=some o->(upd H1 acc (.lst [])) b=some o:=λb o e=>by rw[Zak (Zat e hacc)];exact e
 refine⟨λb o hb e=>oldH b o<|k1.same b o hb e,λb hb z=>?_,Same.refl _,λb o e=>⟨oldH b o<|k1.live b o e,.inr e⟩,λb o e=>?_,?_,λi d e=>?_,λi x od e1 e2=>?_,λi j x y od od' a e1 e2 e3 e4 e5 e6=>?_⟩
 ·cases q:H1 b with
  |none=>exact k1.lent b hb q
  |some u=>rw[oldH b u q]at z;cases z
 ·rcases hX b o e with ⟨rfl,rfl⟩|⟨hb,⟨⟨i0,x0,od0,f1,f2,f3,f4⟩,e⟩|e⟩
  ·refine⟨Zal,hGa,λi x od e1 e2 e3=>?_⟩
   rcases Zb2 e1 with z|⟨j,i',ei,ej,z⟩
   ·subst z;cases e2
   ·subst ei
    obtain⟨a,o,w1,w2,_⟩:=k1.own i' x od z e2;rw[cs ej e3]at w1;cases w1;rw[hacc]at w2;cases w2
  ·obtain⟨a,oo,w1,w2,w3,w4,w5⟩:=k1.own i0 x0 od0 f1 f2
   rw[f4]at w1;cases w1;refine⟨oldH b o e,w4,λi x od e1 e2 e3=>?_⟩;rcases Zb2 e1 with z|⟨j,i',ei,ej,z⟩
   ·subst z;cases e2
   ·subst ei
    have:=k1.dis i0 i' x0 x od0 od b f1 f2 z e2 f4<|cs ej e3;subst this;exact f3<|Wax ej
  ·obtain⟨w1,w2,w3⟩:=k1.ext b o e
   refine⟨oldH b o w1,w2,λi x od e1 e2 e3=>?_⟩;rcases Zb2 e1 with z|⟨j,i',ei,ej,z⟩
   ·subst z;cases e2
   ·subst ei;exact w3 i' x od z e2<|cs ej e3
 ·unfold compD compSt
  simp
 ·rcases Zb2 e with z|⟨j,i',ei,ej,z⟩
  ·cases z
  ·subst ei
   obtain⟨v,w1,w2⟩:=k1.val i' d z;exact⟨v,by rw[Zc2 ej,w1];rfl,w2⟩
 ·rcases Zb2 e1 with z|⟨j,i',ei,ej,z⟩
  ·subst z;cases e2
  ·subst ei
   obtain⟨a,o,w1,w2,w3,w4,w5⟩:=k1.own i' x od z e2;exact⟨a,o,by rw[Zc2 ej,w1];rfl,oldH a o w2,w3,w4,w5⟩
 ·rcases Zb2 e1 with z|⟨j1,i1,ei,ej,z⟩
  ·subst z;cases e2
  ·rcases Zb2 e3 with z'|⟨j2,i2,ei',ej',z'⟩
   ·subst z';cases e4
   ·subst ei;subst ei'
    have:=k1.dis i1 i2 x y od od' a z e2 z' e4 (cs ej e5)<|cs ej' e6;subst this;rw[hsl ej ej']
theorem Zk5 {σ σ2:St}{Δ1 Δ2:Evt}{n:Nat}{sel:List Nat}(hσ:∀j,n<=j -> σ2[j]?=(compSt n sel σ)[j]?) (i:Nat) (y:Slot) (od:OD) (e1:(backD n sel Δ2 0 Δ1)[i]?=some y) (e2:y.od=some od) :
  ∃x od',Δ1[i]?=some x/\x.od=some od' /\ ((x=y/\i ∉ sel)\/∃j,sel[j]?=some i /\ Δ2[n+j]?=some y /\ σ2[n+j]?=some ((σ[i]?).getD none)):=by
 rw[Zc0]at e1;cases q:Δ1[i]? with
 |none=>rw[q]at e1;cases e1
 |some x=>
  rw[q]at e1;have e1:backAt n sel Δ2 i x=y:=by simpa using e1
  rcases Zni e1 e2 with ⟨z1,z2⟩|⟨j,z1,z2,od',z3⟩
  ·refine⟨x,od,rfl,by rw[z1];exact e2,.inl ⟨z1,λhm=>?_⟩⟩
   rw[List.idxOf?_eq_none_iff]at z2;exact z2 hm
  ·exact⟨x,od',rfl,z3,.inr ⟨j,z1,z2,by rw[hσ (n+j) (by omega)];exact Zc2 z1⟩⟩
theorem Zjr {g:Gm}{G1 H1 G2 H2 Xv:Hp}{σ σ2:St}{Δ1 Δ2:Evt}{n:Nat}{sel:List Nat}{acc:Addr}(k1:Ok K g G1 H1 σ Δ1) (hacc:H1 acc=none) (k2:Ok K ⟨g.B,G1,g.Hz,Xv⟩ G2 H2 σ2 Δ2) (hσ:∀j,n<=j -> σ2[j]?=(compSt n sel σ)[j]?)
  (hX:∀b o,b≠acc->(∃(i:Nat) (x:Slot) (od:OD),Δ1[i]?=some x/\x.od=some od/\i ∉ sel /\ σ[i]?=some (some (.ref b)))->H1 b=some o->Xv b=some o) (hY:∀b o,b≠acc->¬ (∃(i:Nat) (x:Slot) (od:OD),Δ1[i]?=some x/\x.od=some od/\i ∉ sel /\ σ[i]?=some (some (.ref b)))->g.Xo b=some o->Xv b=some o):Ok K g G2 H2 σ (backD n sel Δ2 0 Δ1):=by
 have s2:Same G1 G2:=k2.sub;have src:=Zk5 (Δ1:=Δ1) (Δ2:=Δ2) hσ;refine⟨k2.same,k2.lent,k1.sub.trans s2,λb o e=>?_,λb o e=>?_,by rw[Zij,k1.len],λi d e=>?_,λi y od e1 e2=>?_,λi j x y od od' a e1 e2 e3 e4 e5 e6=>?_⟩
 ·obtain⟨q1,q2⟩:=k2.frz b o e
  refine⟨q1,?_⟩;rcases q2 with z|z
  ·exact .inl z
  ·exact(k1.frz b o z).2
 ·obtain⟨w1,w2,w3⟩:=k1.ext b o e
  have hne:b≠acc:=by intro z;subst z;rw[hacc]at w1;cases w1
  obtain⟨u1,u2,u3⟩:=k2.ext b o<|hY b o hne (λ⟨i,x,od,f1,f2,f3,f4⟩=>w3 i x od f1 f2 f4) e;refine⟨u1,u2,λi y od e1 e2 e3=>?_⟩;obtain⟨x,od',f1,f2,_⟩:=src i y od e1 e2;exact w3 i x od' f1 f2 e3
 ·rw[Zc0]at e
  cases q:Δ1[i]? with
  |none=>rw[q]at e;cases e
  |some x=>
   rw[q]at e;have e:backAt n sel Δ2 (0+i) x=.val d:=by simpa using e
   have ex:x=.val d:=by
    unfold backAt at e;cases x with
    |any=>cases e
    |val d'=>exact e
    |own o=>dsimp only at e;split at e <;> first|cases e|(split at e <;> cases e)
    |bor o=>dsimp only at e;split at e <;> first|cases e|(split at e <;> cases e)
    |ownA a o=>dsimp only at e;split at e <;> first|cases e|(split at e <;> cases e)
   subst ex;obtain⟨v,w1,w2⟩:=k1.val i d q;exact⟨v,w1,w2.mono s2⟩
 ·obtain⟨x,od',f1,f2,f3⟩:=src i y od e1 e2
  rcases f3 with ⟨f3,f4⟩|⟨j,f3,f4,f5⟩
  ·subst f3
   obtain⟨a,o,w1,w2,w3,w4,w5⟩:=k1.own i x od f1 e2;have hne:a≠acc:=by intro z;subst z;rw[hacc]at w2;cases w2
   obtain⟨u1,u2,u3⟩:=k2.ext a o<|hX a o hne ⟨i,x,od,f1,e2,f4,w1⟩ w2;exact⟨a,o,w1,u1,w3.mono s2,u2,w5⟩
  ·obtain⟨a,o,w1,w2,w3,w4,w5⟩:=k2.own (n+j) y od f4 e2
   obtain⟨a0,o0,v1,_⟩:=k1.own i x od' f1 f2;rw[f5,v1]at w1;have ea:a0=a:=by cases w1;rfl
   subst ea;exact⟨a0,o,v1,w2,w3,w4,w5⟩
 ·obtain⟨x',od1,f1,f2,_⟩:=src i x od e1 e2
  obtain⟨y',od2,f3,f4,_⟩:=src j y od' e3 e4;exact k1.dis i j x' y' od1 od2 a f1 f2 f3 f4 e5 e6
theorem Ok.base {g:Gm}{G1 F X G5 H5:Hp}{σ5:St}{Δ5:Evt}(sF:Same G1 F) (hF:∀b o,F b=some o->(g.Hz b=none\/G1 b=some o)) (k5:Ok K ⟨g.B,F,g.Hz,X⟩ G5 H5 σ5 Δ5):Ok K ⟨g.B,G1,g.Hz,X⟩ G5 H5 σ5 Δ5:=
 ⟨k5.same,k5.lent,sF.trans k5.sub,λb o q=>by
  obtain⟨q1,q2⟩:=k5.frz b o q;refine⟨q1,?_⟩;rcases q2 with z|z
  ·exact .inl z
  ·exact hF b o z,k5.ext,k5.len,k5.val,k5.own,k5.dis⟩
theorem Zo6 {n:Nat}{sel:List Nat}{wi:TI}{t:TG}{tc:TT}{te:TE}{P:OD->Evt->Prop}(hsel:sel.Nodup)
  (h:JI K wi Δ λds Δ1=>ds.length<sizeLine/\∃I:Nat->List D->Evt->Prop,I 0 [] (compD n sel Δ1) ∧
   (∀i d ys Δ2,ds[i]?=some d->I i ys Δ2->JGn K n t d Δ2 λΔ3=>JT K tc Δ3 λb Δ4=>if b=true then JE K te Δ4 λe Δ5=>I (i+1) (ys++[e]) Δ5 else I (i+1) ys Δ4) ∧
   ∀ys Δ2,I ds.length ys Δ2->P (.lst ys) (backD n sel Δ2 0 Δ1)):JO K (tComp n sel wi t tc te) Δ P:=λg G H σ Q k c=>
 h g G H σ _ k λJ ds G1 H1 Δ1 k1 s1 it ⟨hz,I,h0,ht,he⟩ acc hacc=>by
  have nacc:∀(i:Nat) x od,Δ1[i]?=some x->x.od=some od -> σ[i]?≠some (some (.ref acc)):=λi x od e1 e2 e3=>by
   obtain⟨a,o,w1,w2,_⟩:=k1.own i x od e1 e2;rw[e3]at w1;cases w1;rw[hacc]at w2;cases w2
  -- the word at each turn
  let Wd:Nat->St->Hp->Prop:=λi σ' H'=>i<=ds.length/\(∀j,n<=j -> σ'[j]?=(compSt n sel σ)[j]?)/\∃G ys vs Δi,ys.length<=i/\Reps K G vs ys/\Ok K ⟨g.B,G1,g.Hz,aside g sel σ Δ1 H1 acc vs⟩ G H' σ' Δi/\I i ys Δi
  refine⟨λi m σ' H'=>m=ds.length-i/\Wd i σ' H',⟨ds.length,by simp,Wb1 _,λ_ _=>rfl,G1,[],[],compD n sel Δ1,Waf _,.nil,?_,h0⟩,?_⟩
  ·refine Zlj hsel k1 hacc λb o e=>?_
   have e:aside g sel σ Δ1 H1 acc [] b=some o:=e;unfold aside at e;by_cases hb:b=acc
   ·rw[if_pos hb]at e;cases e;exact .inl ⟨hb,rfl⟩
   ·rw[if_neg hb]at e
    split at e
    case isTrue hx=>exact .inr ⟨hb,.inl ⟨hx,e⟩⟩
    case isFalse hx=>exact .inr ⟨hb,.inr e⟩
  ·rintro i m σ2 H2 ⟨rfl,hi,hσ,G2,ys,vs,Δ2,hy,ry,k2,h2⟩
   have s2:Same G1 G2:=k2.sub;obtain⟨stop,go⟩:=it G2 H2 s2 k2.live;have hacc2:∀{G' H':Hp}{σ':St}{Δ':Evt}{vs:List V}{F:Hp},Ok K ⟨g.B,F,g.Hz,aside g sel σ Δ1 H1 acc vs⟩ G' H' σ' Δ' -> H' acc=some (.lst vs)/\G' acc=none/\∀(i:Nat) x od,Δ'[i]?=some x->x.od=some od -> σ'[i]?≠some (some (.ref acc)):=λ{G' H' σ' Δ' vs F} kk=>
    kk.ext acc (.lst vs) (by show aside g sel σ Δ1 H1 acc vs acc=_;unfold aside;rw[if_pos rfl])
   by_cases hlt:i<ds.length
   ·obtain⟨g1,g2⟩:=go i _ (Waa hlt)
    refine .inr ⟨g1,λσ' H'=>Wd (i+1) σ' H',λσ' H' p'=>⟨ds.length-(i+1),by omega,rfl,p'⟩,λx H3 y=>?_⟩;obtain⟨G3,a1,a2,a3,a4⟩:=g2 x H3 y;have k3:=k2.grow a1 a2 a3;have hG3:∀b o,G3 b=some o->(g.Hz b=none\/G1 b=some o):=λb o q=>(k3.frz b o q).2;have k3':Ok K ⟨g.B,G3,g.Hz,aside g sel σ Δ1 H1 acc vs⟩ G3 H3 σ2 Δ2:=⟨k3.same,k3.lent,Same.refl _,λb o q=>⟨(k3.frz b o q).1,.inr q⟩,k3.ext,k3.len,k3.val,k3.own,k3.dis⟩;have ry3:Reps K G3 vs ys:=ry.mono a1;have s13:Same G1 G3:=s2.trans a1;refine ht i _ ys Δ2 (Waa hlt) h2 ⟨g.B,G3,g.Hz,aside g sel σ Δ1 H1 acc vs⟩ G3 H3 σ2 x _ k3' a4 λσ4 G4 H4 Δ4 k4 s4 e4 p4=>?_;have hσ4:∀j,n<=j -> σ4[j]?=(compSt n sel σ)[j]?:=λj hj=>(e4 j hj).trans (hσ j hj);refine p4 _ G4 H4 σ4 _ k4 λb G5 H5 Δ5 k5 s5 p5=>?_;cases b with
    |false=>exact⟨hlt,hσ4,G5,ys,vs,Δ5,by omega,ry3.mono (s4.trans s5),k5.base s13 hG3,p5⟩
    |true=>
     refine(show JE K te Δ5 _ from p5) _ G5 H5 σ4 _ k5 λv d G6 H6 Δ6 k6 s6 r6 p6=>?_;have ry6:Reps K G6 vs ys:=ry3.mono<|s4.trans<|s5.trans s6;obtain⟨b1,b2,b3⟩:=hacc2 k6;refine⟨vs,b1,by rw[ry6.length];omega,hlt,hσ4,G6,ys++[d],vs++[v],Δ6,by rw[Wao,Wch];omega,ry6.append (.cons r6 .nil),?_,p6⟩;have k7:=k6.base s13 hG3;have oldH:∀b o,b≠acc->H6 b=some o->(upd H6 acc (.lst<|vs++[v])) b=some o:=λb o hb e=>by rw[Zak hb];exact e
     have aNe:∀b o,b≠acc->aside g sel σ Δ1 H1 acc (vs++[v]) b=some o->aside g sel σ Δ1 H1 acc vs b=some o:=λb o hb e=>by
      unfold aside at e ⊢;rw[if_neg hb]at e ⊢;exact e
     refine⟨λb o hb e=>?_,λb hb=>?_,k7.sub,λb o e=>?_,λb o e=>?_,k7.len,k7.val,λi x od e1 e2=>?_,k7.dis⟩
     ·have hne:b≠acc:=by
       intro z;subst z;have e:g.Hz b=some o:=e;rw[k1.there hacc]at e;cases e
      exact oldH b o hne<|k7.same b o hb e
     ·by_cases hne:b=acc
      ·subst hne;rw[Zal];intro z;cases z
      ·rw[Zak hne];exact k7.lent b hb
     ·have hne:b≠acc:=by intro z;subst z;rw[b2]at e;cases e
      exact⟨oldH b o hne (k7.frz b o e).1,(k7.frz b o e).2⟩
     ·by_cases hne:b=acc
      ·subst hne
       have e:aside g sel σ Δ1 H1 b (vs++[v]) b=some o:=e;unfold aside at e;rw[if_pos rfl]at e;cases e;exact⟨Zal,b2,b3⟩
      ·obtain⟨w1,w2,w3⟩:=k7.ext b o (aNe b o hne e)
       exact⟨oldH b o hne w1,w2,w3⟩
     ·obtain⟨a,o,w1,w2,w3,w4,w5⟩:=k7.own i x od e1 e2
      have hne:a≠acc:=by intro z;subst z;exact b3 i x od e1 e2 w1
      exact⟨a,o,w1,oldH a o hne w2,w3,w4,w5⟩
   ·have e:i=ds.length:=by omega
    subst e;refine .inl ⟨stop,?_⟩;obtain⟨b1,b2,b3⟩:=hacc2 k2;have src:=Zk5 (Δ1:=Δ1) (Δ2:=Δ2) hσ;have k9:Ok K g G2 H2 σ (backD n sel Δ2 0 Δ1):=Zjr k1 hacc k2 hσ (λb o hb hx e=>by show aside g sel σ Δ1 H1 acc vs b=_;unfold aside;rw[if_neg hb,if_pos hx];exact e) (λb o hb hx e=>by show aside g sel σ Δ1 H1 acc vs b=_;unfold aside;rw[if_neg hb,if_neg hx];exact e);refine c acc _ G2 H2 _ k9 (s1.trans s2) ⟨.lst vs,b1,(show OwnRep K G2 (.lst vs) (.lst ys) from ry),b2,k1.there hacc,?_,λi y od e1 e2 e3=>?_⟩<|he ys Δ2 h2
    ·cases q:g.Xo acc with
     |none=>rfl
     |some u=>have z:=(k1.ext acc u q).1;rw[hacc]at z;cases z
    ·obtain⟨x',od1,f1,f2,_⟩:=src i y od e1 e2
     exact nacc i x' od1 f1 f2 e3
theorem Zt3 {n:Nat}{sel:List Nat}{wi:TI}{t:TG}{tc:TT}{te:TE}{P:D->Evt->Prop}(hsel:sel.Nodup)
  (h:JI K wi Δ λds Δ1=>ds.length<sizeLine/\∃I:Nat->List D->Evt->Prop,I 0 [] (compD n sel Δ1) ∧
   (∀i d ys Δ2,ds[i]?=some d->I i ys Δ2->JGn K n t d Δ2 λΔ3=>JT K tc Δ3 λb Δ4=>if b=true then JE K te Δ4 λe Δ5=>I (i+1) (ys++[e]) Δ5 else I (i+1) ys Δ4) ∧
   ∀ys Δ2,I ds.length ys Δ2->P (.lst ys) (backD n sel Δ2 0 Δ1)):JE K (tComp n sel wi t tc te) Δ P:=
 Zbt (Zo6 hsel λg G H σ R k c=>h g G H σ R k λJ ds G' H' Δ' k' s' it ⟨z,I,h0,ht,he⟩=>c J ds G' H' Δ' k' s' it ⟨z,I,h0,ht,λys Δ2 q=>⟨ys,rfl,he ys Δ2 q⟩⟩)
theorem Zkh {n:Nat}{sel:List Nat}{wi:TI}{t:TG}{tc:TT}{te:TE}{P:D->Evt->Prop}(hsel:sel.Nodup)
  (h:JI K wi Δ λds Δ1=>ds.length<sizeLine/\∃(fix:Evt) (p:D->Bool) (f:D->D),compD n sel Δ1=Wae n .any++fix ∧
   (∀(i:Nat) d (ts:Evt),ds[i]?=some d->ts.length=n->JGn K n t d (ts++fix) λΔ3=>JT K tc Δ3 λb Δ4=>b=p d/\if b=true then JE K te Δ4 λe Δ5=>e=f d/\∃ts',ts'.length=n /\ Δ5=ts'++fix else ∃ts',ts'.length=n /\ Δ4=ts'++fix) ∧
   P (.lst ((ds.filter p).map f)) (backD n sel (Wae n .any++fix) 0 Δ1)):JE K (tComp n sel wi t tc te) Δ P:=by
 refine Zt3 hsel λg G H σ R k c=>h g G H σ R k λJ ds G' H' Δ' k' s' it ⟨z,fix,p,f,e0,ht,he⟩=>c J ds G' H' Δ' k' s' it ⟨z,λi ys Δ=>ys=((ds.take i).filter p).map f/\∃ts:Evt,ts.length=n /\ Δ = ts++fix,?_,?_,?_⟩
 ·exact⟨by simp,_,by simp,e0⟩
 ·rintro i d ys Δ2 hd ⟨rfl,ts,hts,rfl⟩
  have tk:ds.take (i+1)=ds.take i++[d]:=by
   rw[Wbw,hd];rfl
  intro g G H σ v R k r c;refine ht i d ts hd hts g G H σ v R k r λσ' G' H' Δ' k' s' e' q=>c σ' G' H' Δ' k' s' e' λg G H σ Q k c=>q g G H σ Q k λb G' H' Δ' k' s' ⟨eb,q⟩=>c b G' H' Δ' k' s' ?_;cases b with
  |true=>
   rw[if_pos rfl]at q ⊢;refine q.mono λe Δ5 ⟨e1,ts',h1,h2⟩=>⟨?_,ts',h1,h2⟩;rw[tk,Wce,Wbg,Wbo,<- eb,e1];rfl
  |false=>
   rw[if_neg Wal]at q ⊢;obtain⟨ts',h1,h2⟩:=q;refine⟨?_,ts',h1,h2⟩;rw[tk,Wce,Wbg,Wbo,<- eb];simp
 ·rintro ys Δ2 ⟨rfl,ts,hts,rfl⟩
  rw[Wbx];have e:backD n sel (ts++fix) 0 Δ'=backD n sel (Wae n .any++fix) 0 Δ':=by
   apply Wc0;intro i;rw[Zc0,Zc0];congr 1
   funext x
   unfold backAt;have e2:∀j,(ts++fix)[n+j]?=(Wae n Slot.any++fix)[n+j]?:=λj=>by
    rw[Wav (by omega),Wav (by simp),hts,Waq]
   simp only[e2]
  rw[e];exact he
end
end L2
set_option Elab.async false
set_option linter.all false
set_option maxRecDepth 100000
namespace HT
open PySem PyProof.Rows
section
variable {prog:Program}{w:World}{A:Around}{E:Value->Shared->Prop}{s:Shared}
theorem getItem_tuple_whole {t sl:Addr}{items:Array Value}{vl vu:Value}{lo hi:Option Int}{Q:Value->Shared->Prop}(ht:IsTup s.heap t items) (hs:s.heap.IsSliceOf sl vl vu .none) (pl:IsPart vl lo) (pu:IsPart vu hi)
  (hw:sIx items.size 0 lo=0/\sIx items.size items.size hi=items.size) (h:Q (.ref t) s):wpAny (model prog w) A (getItem (.ref t) (.ref sl)) Q E s:=by
 obtain⟨os,hos,hcs,hds⟩:=id hs;have hTs:s.TypeIs (.ref sl) "slice":=⟨os,hos,hcs⟩;unfold getItem
 try with_reducible refine wpAny_holding ?_
 first|refine wpAny_bind (wpAny_pure ?_)|skip
 refine wpAny_bind (wpAny_sequenceKey ht.typeIs (by decide) ?_);refine wpAny_bind (wpAny_callSpecial?_slot (name:=Str.ofString "__getitem__") ht.typeIs PyProof.Rows.slot_tuple_getitem
  (wpAny_call_entry PyProof.Rows.slot_tuple_getitem ht.typeIs entry_tuple_getitem ?_ (args_tuple_getitem _ _)))
 show wpAny _ _ (Builtin.Tuple.tupleItemsOf (.ref t) >>= _) _ _ s;refine wpAny_bind<|tupleItemsOf_ ht ?_;refine wpAny_bind<|wpAny_typeOf hTs ?_;rw[if_pos (by decide)];refine wpAny_bind<|Zdb hs pl pu ?_;have hyes:(((sIx items.size 0 lo:Nat):Int) == 0 && (1:Int) == 1 && (sIx items.size items.size hi-sIx items.size 0 lo) == items.size)=true:=by
  rw[hw.1,hw.2];simp
 show wpAny _ _ (if (((sIx items.size 0 lo:Nat):Int) == 0 && (1:Int) == 1 && (sIx items.size items.size hi-sIx items.size 0 lo) == items.size)=true then _ else _) _ _ s;rw[if_pos hyes]
 first
  |exact wpAny_pure ⟨_,rfl,wpAny_pure h⟩
  |exact wpAny_pure ⟨_,rfl,h⟩
  |exact wpAny_bind (wpAny_pure (wpAny_pure ⟨_,rfl,wpAny_pure h⟩))
  | (refine wpAny_bind (wpAny_bind (wpAny_typeOf ht.typeIs (wpAny_pure ?_)))
     rw[if_pos (by decide)];exact wpAny_bind (wpAny_rule (wpAny_pure ⟨_,rfl,wpAny_pure h⟩)))
theorem tuple_index {t:Addr}{items:Array Value}{x:Value}{e:Value->Bool}{j:Nat}{Q:Value->Shared->Prop}(ht:IsTup s.heap t items) (he:∀y∈items,PySem.SeqAt.EqAt A.in1 s y x (e y)) (hj:j<items.size)
  (hit:e items[j]=true) (hno:∀m (hm:m<items.size),m<j->e items[m]=false) (h:Q (.int j s.toks) { s with toks:=s.toks+1 }) :
  wpAny (model prog w) A (call (.builtin "tuple.index") [.ref t,x]) Q E s:=by
 refine wpAny_call_entry PySem.F.slot_tuple_index ht.typeIs PySem.F.entry_tuple_index ?_<|PySem.F.args_tuple_index_2 _ _;show wpAny _ _ (Builtin.Tuple.tupleItemsOf (.ref t) >>= _) _ _ s;refine wpAny_bind<|tupleItemsOf_ ht ?_;refine wpAny_bind<|wpAny_pure<|wpAny_bind<|wpAny_pure<|wpAny_bind ?_;rw[Nat.min_self];simp only[Std.Legacy.Range.forIn_eq_forIn_range',Std.Legacy.Range.size,Wdt,Nat.add_sub_cancel,Nat.div_one];refine wpAny_mono (Q:=λb s'=>s' = { s with toks:=s.toks+1 } /\ b.1=some (Fin.done (.ret (.int j s.toks)))) ?_ (λb s' hb=>?_) λ_ _ z=>z;refine wpAny_forIn_list _ (λl b s'=>s'=s/\∃i,l=List.range' i (items.size-i)/\i<=j) _ ?_ ?_ _ _ ⟨rfl,0,rfl,Wb1 _⟩
 ·rintro i rest b s' ⟨rfl,k,hl,hk⟩
  have hk2:items.size-k=(items.size-k-1)+1:=by omega
  rw[hk2,List.range'_succ]at hl;injection hl with hl1 hl2
  subst hl1;have hi:i<items.size:=by omega
  rw[Array.getElem?_eq_getElem hi];refine wpAny_bind<|he _ (Array.getElem_mem hi) prog w _ _ ?_;by_cases hij:i=j
  ·subst hij
   rw[hit,if_pos rfl];exact wpAny_bind<|wpAny_bind<|wpAny_mkInt<|wpAny_pure<|wpAny_pure ⟨rfl,rfl⟩
  ·rw[hno i hi (by omega),if_neg Wal]
   exact wpAny_pure ⟨rfl,i+1,by rw[hl2,show items.size-i-1=items.size-(i+1) by omega],by omega⟩
 ·rintro b s' ⟨rfl,k,hl,hk⟩
  have:=congrArg Wa1 hl;simp at this;omega
 ·obtain⟨rfl,e1⟩:=hb
  obtain⟨b1,b2⟩:=b;dsimp only at e1;subst e1;exact wpAny_pure ⟨_,rfl,h⟩
end
end HT
namespace L2
open PySem PySem.Spec PyProof.Rows
section
variable {X:Cx}
def rSlT' (K:W.Frag):V->Option Int->Option Int->Hp->VK->Prop:=λx lo hi H Q=>∃a xs,x=.ref a/\SqT K H a xs ∧
 ((HT.sIx xs.length 0 lo=0/\HT.sIx xs.length xs.length hi=xs.length)->Q (.ref a) H) ∧
 (¬ (HT.sIx xs.length 0 lo=0/\HT.sIx xs.length xs.length hi=xs.length)->∀p,H p=none->Q (.ref p) (upd H p (.tup<|cutV xs lo hi)))
theorem Zs6:SlR X (rSlT' X.K):=by
 intro pins s σ H x v vl vu lo hi sl Q I rx hs pl pu h;obtain⟨a,xs,rfl,hx,q1,q2⟩:=h;by_cases hw:HT.sIx xs.length 0 lo=0/\HT.sIx xs.length xs.length hi=xs.length
 ·cases rx
  obtain⟨its,r,ht,hz⟩:=I.tuple hx;have hlen:its.toArray.size=xs.length:=by rw[Wan];exact r.length.symm
  exact⟨"tuple",_,PyProof.Rows.slot_tuple_getitem.lookup,ht.typeIs,HT.getItem_tuple_whole ht hs pl pu (by rw[hlen];exact hw) ⟨.ref a,H,I,rfl,q1 hw⟩⟩
 ·exact Zwh pins s σ H (.ref a) v vl vu lo hi sl Q I rx hs pl pu ⟨a,xs,rfl,hx,hw,q2 hw⟩
def rSlU (K:W.Frag):V->Option Int->Option Int->Hp->VK->Prop:=λx lo hi H Q=>rSlL K x lo hi H Q\/rSlT' K x lo hi H Q
theorem slU:SlR X (rSlU X.K):=Zt6.or Zs6
def tSlR (K:W.Frag) (te:TE):TE:=λσ H Q=>te σ H λx H1=>∃a xs,x=.ref a/\SqT K H1 a xs/\∀p,H1 p=none->Q (.ref p) (upd H1 p (.tup xs.reverse))
def rCatT' (K:W.Frag):R2:=λx y H Q=>∃a b xs ys,x=.ref a/\y=.ref b/\SqT K H a xs/\SqT K H b ys/\xs.length+ys.length<=sizeLine ∧
 (xs=[]->Q (.ref b) H)/\(xs≠[]->ys=[]->Q (.ref a) H)/\(xs≠[]->ys≠[]->∀p,H p=none->Q (.ref p) (upd H p (.tup<|xs++ys)))
theorem Zqz:OpR X (binaryOp .Add) (rCatT' X.K):=by
 intro pins s σ H x y v u Q I rx ry h;obtain⟨a,b,xs,ys,rfl,rfl,ha,hb,hz,q0,q1,q2⟩:=h;by_cases hx:xs=[]
 ·cases rx
  cases ry;obtain⟨its,r1,p1,_⟩:=I.tuple ha;obtain⟨its2,r2,p2,_⟩:=I.tuple hb;obtain⟨⟨cls,dd,data,sl⟩,ho,hc,n,hd⟩:=id p1;obtain⟨⟨cls2,dd2,data2,sl2⟩,ho2,hc2,n2,hd2⟩:=id p2;simp only at hc hd hc2 hd2;subst hc hd hc2 hd2;exact concat_meets ⟨_,ho,rfl⟩ ⟨_,ho2,rfl⟩ noFill_tuple_add seq_tuple_add PySem.F.slot_tuple_add PySem.F.entry_tuple_add (PySem.F.args_tuple_add_2 _ _)
   (tuple_addW0 a b its.toArray its2.toArray n n2 dd dd2 sl sl2 (by simp[r1.nil_iff.mpr hx])) ⟨ho,ho2,⟨.ref b,H,I,rfl,q0 hx⟩⟩
 ·exact Zsj pins s σ H (.ref a) (.ref b) v u Q I rx ry ⟨a,b,xs,ys,rfl,rfl,ha,hb,hx,hz,q1 hx,q2 hx⟩
def rAddU (K:W.Frag):R2:=λx y H Q=>rI0 (λi j=>.int<|i+j) x y H Q\/(rCatT' K x y H Q\/rCat x y H Q)
theorem Zsf:OpR X (binaryOp .Add) (rAddU X.K):=Zuf.or<|Zqz.or Zv9
theorem Zc3:OpR X (compareOp .Eq) rEq:=Zwl
theorem Zrm:OpR X (compareOp .NotEq) rNe:=Zwr
def rIxD:R2:=λx y H Q=>∃a v,x=.ref a/\DGet H a y (some v)/\Q v H
theorem Zt5 (hu:X.A.units+1<cLine):IxR X rIxD:=by
 intro value slice pins s σ H x y v u Q I rx ry h hs;obtain⟨a,w',rfl,g,q⟩:=h;cases rx;exact tail_any (Zjo I g) PySem.F.slot_dict_getitem.lookup (Zny hu I g ry λw2 s3 I3 rw'=>⟨w',H,I3,rw',q⟩) hs
def rIxU (K:W.Frag):R2:=λx y H Q=>rIx K x y H Q\/rIxD x y H Q
theorem ixU (hu:X.A.units+1<cLine):IxR X (rIxU X.K):=Zvy.or<|Zt5 hu
def rSetD:V->V->V->Hp->(Hp->Prop)->Prop:=λo i v H Q=>∃a H',o=.ref a/\DPut H a i v H' /\ Q H'
theorem Zpq (hu:X.A.units+1<cLine):PSet X rSetD:=by
 intro pins s σ H o i v ov iv u Q I ro ri rv h;obtain⟨a,H',rfl,g,q⟩:=h;cases ro;exact Zn8 hu I g ri rv λs' I'=>⟨H',I',q⟩
theorem PSet.or {t t':TSet}(h:PSet X t) (h':PSet X t'):PSet X (λo i v H Q=>t o i v H Q\/t' o i v H Q):=by
 intro pins s σ H o i v ov iv u Q I ro ri rv q;rcases q with q|q
 ·exact h pins s σ H o i v ov iv u Q I ro ri rv q
 ·exact h' pins s σ H o i v ov iv u Q I ro ri rv q
def rSetU:V->V->V->Hp->(Hp->Prop)->Prop:=λo i v H Q=>rSetL o i v H Q\/rSetD o i v H Q
theorem setU (hu:X.A.units+1<cLine):PSet X rSetU:=Zqk.or<|Zpq hu
def rLenU (K:W.Frag):List V->Hp->VK->Prop:=λxs H Q=>(∃p ys,xs=[.ref p]/\(SqL K H p ys\/SqT K H p ys)/\Q (.int ys.length) H)\/∃a kvs,xs=[V.ref a]/\H a=some (.dK kvs)/\Q (.int kvs.length) H
theorem Znb:CallR X (.builtin "len") (rLenU X.K):=Zin.or Zng
def rIndexT (K:W.Frag):V->List V->Hp->VK->Prop:=λx vs H Q=>∃a xs y j,x=.ref a/\vs=[y]/\SqT K H a xs/\flatV y=true/\xs.all flatV=true/\j<xs.length ∧
 (∃z,xs[j]?=some z/\eqV z y=true)/\(∀m z,m<j->xs[m]?=some z->eqV z y=false)/\Q (.int j) H
theorem Zgm:MtM X "tuple.index" (rIndexT X.K):=by
 intro pins s σ H x vs v us Q I rx rv h;obtain⟨a,xs,y,j,rfl,rfl,hx,fy,fx,hj,⟨z,hz1,hz2⟩,hno,q⟩:=h;cases rx;obtain⟨u,rfl,ru⟩:=rv.one;obtain⟨its,r,ht,hz⟩:=I.tuple hx;have hl:its.length=xs.length:=r.length.symm;have key:∀w∈its.toArray,SeqAt.EqAt X.A.in1 s w u (eqU y w):=λw hw=>by
  have hw:w∈its:=by simpa using hw
  obtain⟨k,hk,e⟩:=List.mem_iff_getElem.mp hw;have hk':k<xs.length:=by omega
  obtain⟨w',hw',rw'⟩:=r.get<|Waa hk';have ew:w'=w:=by
   rw[Waa hk]at hw';exact(Wa5.inj hw').symm.trans e
  subst ew;have fk:flatV xs[k]=true:=Wbz.mp fx _<|Wa4 hk';rw[Zkf rw' fk];exact Zru rw' ru fk fy
 have at_:∀(k:Nat) (hk:k<its.toArray.size) (z:V),xs[k]?=some z->eqU y its.toArray[k]=eqV z y:=λk hk z e=>by
  obtain⟨w',hw',rw'⟩:=r.get e;have hk2:k<its.length:=by simpa using hk
  rw[Waa hk2]at hw';have ew:its.toArray[k]=w':=by simpa using Wa5.inj hw'
  rw[ew];exact Zkf rw'<|Wbz.mp fx _<|Wax e
 have hj':j<its.toArray.size:=by simpa [hl] using hj
 refine HT.tuple_index ht key hj' (by rw[at_ j hj' z hz1];exact hz2) (λm hm hmj=>?_) ⟨.int j,H,I.tok _,⟨_,rfl⟩,q⟩;have hm2:m<xs.length:=by simpa [hl] using hm
 rw[at_ m hm _ (Waa hm2)];exact hno m _ hmj<|Waa hm2
end
end L2
namespace L2
open PySem PySem.Spec PyProof.Rows
section
variable {X:Cx}
theorem PI.or {tg iter:Expr}{w w':TI}(h:PI X tg iter w) (h':PI X tg iter w'):PI X tg iter (λσ H R=>w σ H R\/w' σ H R):=by
 intro pins s σ H R I q;rcases q with q|q
 ·exact h pins s σ H R I q
 ·exact h' pins s σ H R I q
def iSeq (K:W.Frag) (tl:TE):TI:=λσ H R=>iList K tl σ H R\/iTup K tl σ H R
theorem Zwf {tg l:Expr}{tl:TE}(hl:PE X l tl):PI X tg l (iSeq X.K tl):=(Zr6 hl).or (Zv7 hl)
def tTru (K:W.Frag) (ta:TE):TT:=λσ H Q=>ta σ H λx H'=>∃k,TruV K x H' k/\Q k H'
theorem Zuy {a:Expr}{ta:TE}(ha:PE X a ta) (he:∀whole,isTrue a X.env whole=(do let v ← whole;standAt a.pos;holding [v] (truthy v))):PT X a (tTru X.K ta):=Zpk ha he
end
section
variable {K:W.Frag}{Δ:Evt}{P:D->Evt->Prop}
theorem Zb6 {i j:Int}(p:P (.int<|i+j) Δ):JR2 K (rAddU K) (.int i) (.int j) Δ P:=λg G H σ Q x y k rx ry c=>by
 cases rx.inv;cases ry.inv;exact .inl ⟨i,j,rfl,rfl,c _ _ G H Δ k (Same.refl _) (.int _) p⟩
theorem Zs3 {ds es:List D}(hz:ds.length+es.length<=sizeLine) (p:P (.tup<|ds++es) Δ):JR2 K (rAddU K) (.tup ds) (.tup es) Δ P:=λg G H σ Q x y k rx ry c=>by
 cases rx with
 |tup ha ra=>
  cases ry with
  |tup hb rb=>
   refine .inr (.inl ⟨_,_,_,_,rfl,rfl,SqT.of<|k.live _ _ ha,SqT.of<|k.live _ _ hb,by rw[ra.length,rb.length];exact hz,λe=>?_,λ_ e=>?_,λ_ _ q hq=>?_⟩)
   ·subst e;cases ra;exact c _ _ G H Δ k (Same.refl _) (.tup hb rb) p
   ·subst e;cases rb;rw[Wbb]at p;exact c _ _ G H Δ k (Same.refl _) (.tup ha ra) p
   ·obtain⟨k2,sg⟩:=k.laid hq (.tup _)
    exact c _ _ _ _ Δ k2 sg (.tup Zal ((ra.append rb).mono sg)) p
theorem Zd2 {ds es:List D}(hz:ds.length+es.length<=sizeLine) (p:P (.lst<|ds++es) Δ):JR2 K (rAddU K) (.lst ds) (.lst es) Δ P:=λg G H σ Q x y k rx ry c=>by
 obtain⟨_,_,rfl,ha,ra⟩:=rx.inv
 next=>
  obtain⟨_,_,rfl,hb,rb⟩:=ry.inv
  next=>
   refine .inr (.inr ⟨_,_,_,_,rfl,rfl,k.live _ _ ha,k.live _ _ hb,by rw[ra.length,rb.length];exact hz,λq hq=>?_⟩);obtain⟨k2,sg⟩:=k.laid hq (.lst _);exact c _ _ _ _ Δ k2 sg (.lst Zal ((ra.append rb).mono sg)) p
theorem Zca {ds:List D}{i:Int}{d:D}(h:atI ds i=some d) (p:P d Δ):JR2 K (rIxU K) (.tup ds) (.int i) Δ P:=λg G H σ Q x y k rx ry c=>
 .inl (.inr (.inl<|Zvs h p g G H σ Q x y k rx ry c))
theorem Zci {ds:List D}{i:Int}{d:D}(h:atI ds i=some d) (p:P d Δ):JR2 K (rIxU K) (.lst ds) (.int i) Δ P:=λg G H σ Q x y k rx ry c=>
 .inl (.inl<|Zvj h p g G H σ Q x y k rx ry c)
theorem Ztj {n:Nat}{tb:TE}{x:Slot}{ds:List D}(hx:Δ[n]?=some x) (ho:x.od=some (.lst ds)) (h:JE K tb Δ λe Δ1=>∃y es i d,Δ1[n]?=some y/\y.od=some (.lst es)/\e=.int i/\atI es i=some d/\P d Δ1):JE K (tOp (rIxU K) (tVar n) tb) Δ P:=λg G H σ Q k c=>by
 obtain⟨a,o,h1,h2,h3,h4,h5⟩:=k.own n x _ hx ho;refine⟨.ref a,h1,h g G H σ _ k λv e G1 H1 Δ1 k1 s1 r1 ⟨y,es,i,d,q1,q2,q3,q4,p⟩=>?_⟩;subst q3;cases r1.inv;obtain⟨a',o',w1,w2,w3,w4,w5⟩:=k1.own n y _ q1 q2;rw[h1]at w1;cases w1;cases o' with
 |lst vs=>
  obtain⟨u,z1,z2⟩:=Zhr (show Reps K G1 vs es from w3) q4;exact .inl (.inl ⟨a,vs,i,u,rfl,rfl,SqL.of w2,z1,c u d G1 H1 Δ1 k1 s1 z2 p⟩)
 |_=>exact absurd w3 (λz=>z)
theorem Zox {n:Nat}{ti te:TE}{Pp:Pst}(h:JE K te Δ λd Δ1=>(∃x od,Δ1[n]?=some x/\x.od=some od)/\JE K ti Δ1 λe Δ2=>∃x ds i j,Δ2[n]?=some x/\x.od=some (.lst ds)/\e=.int i/\ixN ds.length i=some j/\Pp.nx (Δ2.set n<|x.put (.lst<|ds.set j d))) :
  JS K (tAsg te<|gSub (tVar n) ti rSetU) Δ Pp:=λg G H σ E k c=>
 h g G H σ _ k λv d G1 H1 Δ1 k1 s1 r1 hq_=>by
  obtain⟨⟨x,od,hx,ho⟩,p1⟩:=hq_;obtain⟨a,o,h1,h2,h3,h4,h5⟩:=k1.own n x _ hx ho;refine⟨.ref a,h1,p1 g G1 H1 σ _ k1 λu e G2 H2 Δ2 k2 s2 r2 ⟨y,ds,i,j,q1,q2,q3,q4,p⟩=>?_⟩;subst q3;cases r2.inv;obtain⟨a',o',w1,w2,w3,w4,w5⟩:=k2.own n y _ q1 q2;rw[h1]at w1;cases w1;cases o' with
  |lst vs=>
   have w3:Reps K G2 vs ds:=w3;exact .inl ⟨a,vs,i,j,rfl,rfl,w2,by rw[w3.length];exact q4,c.nx σ G2 _ _ (k2.write q1 q2 h1 (show OwnRep K G2 (.lst<|vs.set j v) (.lst<|ds.set j d) from w3.set j (r1.mono s2))) p⟩
  |_=>exact absurd w3 (λz=>z)
theorem Zbo {ds es:List D}(he:ds=[.lst es]\/ds=[.tup es]) (p:P (.int es.length) Δ):JC K (rLenU K) ds Δ P:=λg G H σ Q vs k rs c=>.inl<|Zu4 he p g G H σ Q vs k rs c
theorem Zh9 {n:Nat}{x:Slot}{ds:List D}(hx:Δ[n]?=some x) (ho:x.od=some (.lst ds)) (p:P (.int ds.length) Δ):JE K (tCB (rLenU K)<|tCons (tVar n) tNil) Δ P:=λg G H σ Q k c=>by
 obtain⟨v,h1,h2⟩:=Ztg hx ho p g G H σ Q k c;exact⟨v,h1,.inl h2⟩
def cutD (ds:List D) (lo hi:Option Int):List D:=(ds.drop<|HT.sIx ds.length 0 lo).take (HT.sIx ds.length ds.length hi-HT.sIx ds.length 0 lo)
theorem Znp {α:Type}(xs:List α) (lo hi:Option Int) (h:HT.sIx xs.length 0 lo=0/\HT.sIx xs.length xs.length hi=xs.length):(xs.drop<|HT.sIx xs.length 0 lo).take (HT.sIx xs.length xs.length hi-HT.sIx xs.length 0 lo)=xs:=by
 rw[h.1,h.2];simp
def JO2 (t:TO) (Δ:Evt) (K:W.Frag) (P:Option Int->Evt->Prop):Prop:=
 ∀g G H σ (Q:Option Int->Hp->Prop),Ok K g G H σ Δ -> (∀o G' H' Δ',Ok K g G' H' σ Δ' -> Same G G' -> P o Δ' -> Q o H')->t σ H Q
theorem Zfh {P:Option Int->Evt->Prop}(p:P none Δ):JO2 tNoPart Δ K P:=λg G H σ Q k c=>c none G H Δ k (Same.refl _) p
theorem Zf7 {te:TE}{P:Option Int->Evt->Prop}(h:JE K te Δ λd Δ1=>∃i,d=.int i/\P (some i) Δ1):JO2 (tPart te) Δ K P:=λg G H σ Q k c=>
 h g G H σ _ k λv d G1 H1 Δ1 k1 s1 r1 hq_=>by obtain⟨i,e,p⟩:=hq_;subst e;cases r1.inv;exact⟨i,rfl,c (some i) G1 H1 Δ1 k1 s1 p⟩
def slD (d:D) (lo hi:Option Int):Option D:=match d with
 |.lst ds=>some (.lst (cutD ds lo hi))
 |.scr ds=>some (.lst (cutD ds lo hi))
 |.tup ds=>some (.tup (cutD ds lo hi))
 |_=>none
theorem Ztn {te:TE}{tl th:TO}(h:JE K te Δ λd Δ1=>JO2 tl Δ1 K λlo Δ2=>JO2 th Δ2 K λhi Δ3=>∃e,slD d lo hi=some e/\P e Δ3):JE K (tSl (rSlU K) te tl th) Δ P:=λg G H σ Q k c=>
 h g G H σ _ k λv d G1 H1 Δ1 k1 s1 r1 p1=>p1 g G1 H1 σ _ k1 λlo G2 H2 Δ2 k2 s2 p2=>p2 g G2 H2 σ _ k2 λhi G3 H3 Δ3 k3 s3 hq_=>by
  obtain⟨e,he,p⟩:=hq_;have r3:=r1.mono<|s2.trans s3;have cc:=c.up<|s1.trans<|s2.trans s3;cases r3 with
  |lst ha rs=>
   cases he;refine .inl ⟨_,_,rfl,SqL.of<|k3.live _ _ ha,λq hq=>?_⟩;obtain⟨k4,sg⟩:=k3.laid hq (.lst _);refine cc _ _ _ _ Δ3 k4 sg (.lst Zal<|Reps.mono sg ?_) p;unfold cutV cutD;rw[rs.length];exact(rs.drop _).take _
  |scr ha rs=>
   cases he;refine .inl ⟨_,_,rfl,k3.live.seq ha,λq hq=>?_⟩;obtain⟨k4,sg⟩:=k3.laid hq (.lst _);refine cc _ _ _ _ Δ3 k4 sg (.lst Zal<|Reps.mono sg ?_) p;unfold cutV cutD;rw[rs.length];exact(rs.drop _).take _
  |tup ha rs=>
   cases he;refine .inr ⟨_,_,rfl,SqT.of<|k3.live _ _ ha,λhw=>?_,λhw q hq=>?_⟩
   ·rw[rs.length]at hw
    refine cc _ _ _ _ Δ3 k3 (Same.refl _) (.tup ha ?_) p;unfold cutD;rw[Znp _ _ _ hw];exact rs
   ·obtain⟨k4,sg⟩:=k3.laid hq (.tup _)
    refine cc _ _ _ _ Δ3 k4 sg (.tup Zal<|Reps.mono sg ?_) p;unfold cutV cutD;rw[rs.length];exact(rs.drop _).take _
  |_=>cases he
theorem Zue {te:TE}(h:JE K te Δ λd Δ1=>∃ds,d=.tup ds/\P (.tup ds.reverse) Δ1):JE K (tSlR K te) Δ P:=λg G H σ Q k c=>
 h g G H σ _ k λv d G1 H1 Δ1 k1 s1 r1 hq_=>by
  obtain⟨ds,e,p⟩:=hq_;subst e;obtain⟨_,_,rfl,ha,rs⟩:=r1.inv
  next=>
   refine⟨_,_,rfl,SqT.of<|k1.live _ _ ha,λq hq=>?_⟩;obtain⟨k4,sg⟩:=k1.laid hq (.tup _);exact c _ _ _ _ Δ1 k4 (s1.trans sg) (.tup Zal<|rs.reverse.mono sg) p
theorem Ze0 {tl:TE}{P:List D->Evt->Prop}(h:JE K tl Δ λd Δ1=>∃ds,(d=.lst ds\/d=.scr ds)/\P ds Δ1):JI K (iSeq K tl) Δ P:=λg G H σ R k c=>.inl<|Ztd h g G H σ R k c
theorem Zjg {tl:TE}{P:List D->Evt->Prop}(h:JE K tl Δ λd Δ1=>∃ds,d=.tup ds/\P ds Δ1):JI K (iSeq K tl) Δ P:=λg G H σ R k c=>.inr<|Zvh h g G H σ R k c
def truD:D->Option Bool
 |.non=>some false
 |.bl b=>some b
 |.int i=>some (i != 0)
 |.lst ds=>some !ds.isEmpty
 |.tup ds=>some !ds.isEmpty
 |_=>none
theorem Reps.isEmpty {G:Hp}{vs:List V}{ds:List D}(r:Reps K G vs ds):vs.isEmpty=ds.isEmpty:=by cases r <;> rfl
theorem Zfi {t:TE}{Pb:Bool->Evt->Prop}(h:JE K t Δ λd Δ1=>∃b,truD d=some b/\Pb b Δ1):JT K (tTru K t) Δ Pb:=λg G H σ Q k c=>
 h g G H σ _ k λv d G1 H1 Δ1 k1 s1 r1 hq_=>by
  obtain⟨b,e,p1⟩:=hq_;refine⟨b,?_,c b G1 H1 Δ1 k1 s1 p1⟩;cases r1 with
  |non=>cases e;rfl
  |bl b=>cases e;rfl
  |int i=>cases e;rfl
  |str x=>cases e
  |ty n=>cases e
  |scr ha rs=>cases e
  |adr a=>cases e
  |dct ha hl rs=>cases e
  |exc ha=>cases e
  |excR ha hb=>cases e
  |lst ha rs=>cases e;exact .inl ⟨_,SqL.of (k1.live _ _ ha),by rw[rs.isEmpty]⟩
  |tup ha rs=>cases e;exact .inr (.inl ⟨_,SqT.of (k1.live _ _ ha),by rw[rs.isEmpty]⟩)
theorem Zoe {ta tb:TE}(h:JE K ta Δ λd Δ1=>∃b,d=.bl b/\if b=true then JE K tb Δ1 P else P (.bl false) Δ1):JE K (tAndV ta tb) Δ P:=λg G H σ Q k c=>
 h g G H σ _ k λv d G1 H1 Δ1 k1 s1 r1 hq_=>by
  obtain⟨b,e,p1⟩:=hq_;subst e;cases r1.inv;refine⟨b,rfl,?_⟩;cases b with
  |true=>exact(show JE K tb Δ1 P from p1) g G1 H1 σ Q k1 (c.up s1)
  |false=>exact c _ _ G1 H1 Δ1 k1 s1 (.bl false) p1
theorem Zuc {ta tb:TE}(h:JE K ta Δ λd Δ1=>∃b,d=.bl b/\if b=true then P (.bl true) Δ1 else JE K tb Δ1 P):JE K (tOrV ta tb) Δ P:=λg G H σ Q k c=>
 h g G H σ _ k λv d G1 H1 Δ1 k1 s1 r1 hq_=>by
  obtain⟨b,e,p1⟩:=hq_;subst e;cases r1.inv;refine⟨b,rfl,?_⟩;cases b with
  |false=>exact(show JE K tb Δ1 P from p1) g G1 H1 σ Q k1 (c.up s1)
  |true=>exact c _ _ G1 H1 Δ1 k1 s1 (.bl true) p1
theorem Zt7 {ta:TE}(h:JE K ta Δ λd Δ1=>∃b,d=.bl b/\P (.bl !b) Δ1):JE K (tNotV ta) Δ P:=λg G H σ Q k c=>
 h g G H σ _ k λv d G1 H1 Δ1 k1 s1 r1 hq_=>by
  obtain⟨b,e,p1⟩:=hq_;subst e;cases r1.inv;exact⟨b,rfl,c _ _ G1 H1 Δ1 k1 s1 (.bl !b) p1⟩
theorem Zkr {to te:TE}(h:JE K to Δ λd Δ1=>∃ns:List Int,d=.tup (ns.map D.int)/\JE K te Δ1 λe Δ2=>∃i j,e=.int i/\ns[j]?=some i/\(∀m,m<j->ns[m]?≠some i)/\P (.int (j:Nat)) Δ2) :
  JE K (tBM K "tuple" (rIndexT K) to<|tCons te tNil) Δ P:=λg G H σ Q k c=>
 h g G H σ _ k λv d G1 H1 Δ1 k1 s1 r1 hq_=>by
  obtain⟨ns,e,p1⟩:=hq_;subst e;obtain⟨a,vs,rfl,ha,rs⟩:=r1.inv
  next=>
   refine⟨.inr (.inl ⟨rfl,.inr ⟨_,k1.live _ _ ha⟩⟩),p1 g G1 H1 σ _ k1 λu e G2 H2 Δ2 k2 s2 r2 ⟨i,j,q1,q2,q3,p⟩=>?_⟩;subst q1;cases r2.inv;have ev:vs=ns.map V.int:=rs.ints;subst ev;have hj:j<ns.length:=(Wag.mp q2).1;refine⟨a,_,.int i,j,rfl,rfl,SqT.of<|k2.live _ _<|s2 _ _ ha,rfl,?_,by simpa using hj,⟨.int i,by rw[Wah,q2];rfl,by simp[eqV]⟩,λm z hm hz=>?_,c _ _ G2 H2 Δ2 k2 (s1.trans s2) (.int _) p⟩
   ·rw[List.all_map];exact Wbz.mpr λ_ _=>rfl
   ·rw[Wah]at hz
    cases e:ns[m]? with
    |none=>rw[e]at hz;cases hz
    |some w=>
     rw[e]at hz;have hz:V.int w=z:=by simpa using hz
     subst hz;have hne:w≠i:=λq=>q3 m hm (by rw[e,q]);show (w == i)=false;exact beq_eq_false_iff_ne.mpr hne
end
section
variable {K:W.Frag}{g:Gm}{G H:Hp}{σ:St}{Δ:Evt}
theorem Ok.setVal' (k:Ok K g G H σ Δ) {v:V}{d:D}(i:Nat) (r:Rep K G v d):Ok K g G H (σ.set i<|some v) (Δ.set i (.val d)):=by
 by_cases hi:i < Δ.length
 ·exact k.setVal hi r
 ·have hl:=k.len
  rw[Wcr (l:=σ) (by omega),Wcr (l:=Δ) (by omega)];exact k
theorem Ok.setOwn' (k:Ok K g G H σ Δ) {a:Addr}{od:OD}(i:Nat) (p:Pend K g G H σ Δ a od):Ok K g G H (σ.set i<|some (.ref a)) (Δ.set i (.own od)):=by
 by_cases hi:i < Δ.length
 ·exact k.setOwn hi p
 ·have hl:=k.len
  rw[Wcr (l:=σ) (by omega),Wcr (l:=Δ) (by omega)];exact k
theorem Zum {te:TE}{i:Nat}{P:Pst}(h:JE K te Δ λd Δ1=>P.nx (Δ1.set i (.val d))):JS K (tAsg te<|gName i) Δ P:=λg G H σ E k c=>
 h g G H σ _ k λv d G1 H1 Δ1 k1 s1 r1 p1=>c.nx _ G1 H1 _ (k1.setVal' i r1) p1
theorem Zta {te:TE}{i:Nat}{P:Pst}(h:JO K te Δ λod Δ1=>P.nx (Δ1.set i (.own od))):JS K (tAsg te<|gName i) Δ P:=λg G H σ E k c=>
 h g G H σ _ k λa od G1 H1 Δ1 k1 s1 pd p1=>c.nx _ G1 H1 _ (k1.setOwn' i pd) p1
theorem Zsm {i j:Nat}{ta:TA}{P:Pst}(h:JA K ta Δ λds Δ1=>∃d e,ds=[d,e]/\P.nx ((Δ1.set i (.val d)).set j (.val e))):JS K (tPar i j ta) Δ P:=λg G H σ E k c=>
 h g G H σ _ k λvs ds G1 H1 Δ1 k1 s1 r1 hq_=>by
  obtain⟨d,e,hd,p1⟩:=hq_;subst hd;obtain⟨_,_,rfl,ra,rr⟩:=r1.inv
  next=>
   obtain⟨_,_,rfl,rb,rr⟩:=rr.inv
   next=>
    cases rr.inv;exact⟨_,_,rfl,c.nx _ G1 H1 _ ((k1.setVal' i ra).setVal' j rb) p1⟩
theorem Zbh {i:Nat}{d:D}{P:Evt->Prop}(p:P (Δ.set i (.val d))):JG K (gName i) d Δ P:=λg G H σ v R k r c=>c _ G H _ (k.setVal' i r) (Same.refl _) p
theorem Zhh {n i:Nat}{d:D}{P:Evt->Prop}(hn:i<n) (p:P (Δ.set i (.val d))):JGn K n (gName i) d Δ P:=λg G H σ v R k r c=>
 c _ G H _ (k.setVal' i r) (Same.refl _) (λj hj=>Was<|by omega) p
theorem Zvr {n:Nat}{te:TE}{Pp:Pst}{x:Slot}{ds0:List D}(hx:Δ[n]?=some x) (ho:x.od=some (.lst ds0))
  (h:JE K te Δ λd Δ1=>∃y ds,Δ1[n]?=some y/\y.od=some (.lst ds)/\ds.length<sizeLine/\Pp.nx (Δ1.set n<|y.put (.lst<|ds++[d]))) :
  JS K (tDrop<|tBM K "list" rAppend (tVar n)<|tCons te tNil) Δ Pp:=Zov hx ho ⟨_,rfl⟩ h
end
section
variable {K:W.Frag}{Δ:Evt}{nx bk ct:Evt->Prop}{rt:D->Evt->Prop}{ro:OD->Evt->Prop}
theorem Zb9 (p:nx Δ):JS K tNext Δ ⟨nx,rt,bk,ct,ro⟩:=Zth p
theorem Zaq {t u:TS}(h:JS K t Δ ⟨λΔ1=>JS K u Δ1 ⟨nx,rt,bk,ct,ro⟩,rt,bk,ct,ro⟩):JS K (tSeq t u) Δ ⟨nx,rt,bk,ct,ro⟩:=Zrv h
theorem Zbb {t u:TS}(I:Evt->Prop) (h1:JS K t Δ ⟨I,rt,bk,ct,ro⟩) (h2:∀Δ1,I Δ1->JS K u Δ1 ⟨nx,rt,bk,ct,ro⟩):JS K (tSeq t u) Δ ⟨nx,rt,bk,ct,ro⟩:=
 Zrv (h1.mono h2 (λ_ _ z=>z) (λ_ z=>z) (λ_ z=>z) λ_ _ z=>z)
theorem Zbp {te:TE}(h:JE K te Δ rt):JS K (tRet te) Δ ⟨nx,rt,bk,ct,ro⟩:=Zvv h
theorem Zen {te:TE}(h:JO K te Δ ro):JS K (tRet te) Δ ⟨nx,rt,bk,ct,ro⟩:=Ztl h
theorem Zt1 {te:TE}(h:JE K te Δ λ_ Δ1=>nx Δ1):JS K (tDrop te) Δ ⟨nx,rt,bk,ct,ro⟩:=Zsc h
theorem Zer {c:TT}{t u:TS}(h:JT K c Δ λb Δ1=>if b=true then JS K t Δ1 ⟨nx,rt,bk,ct,ro⟩ else JS K u Δ1 ⟨nx,rt,bk,ct,ro⟩):JS K (tIfS c t u) Δ ⟨nx,rt,bk,ct,ro⟩:=Zwn h
theorem Zax {te:TE}{i:Nat}(h:JE K te Δ λd Δ1=>nx (Δ1.set i (.val d))):JS K (tAsg te<|gName i) Δ ⟨nx,rt,bk,ct,ro⟩:=Zum h
theorem Zcp {te:TE}{i:Nat}(h:JO K te Δ λod Δ1=>nx (Δ1.set i (.own od))):JS K (tAsg te<|gName i) Δ ⟨nx,rt,bk,ct,ro⟩:=Zta h
theorem Zju {i j:Nat}{ta:TA}(h:JA K ta Δ λds Δ1=>∃d e,ds=[d,e]/\nx ((Δ1.set i (.val d)).set j (.val e))):JS K (tPar i j ta) Δ ⟨nx,rt,bk,ct,ro⟩:=Zsm h
theorem Zku {te:TE}{t:TG}(h:JE K te Δ λd Δ1=>JG K t d Δ1 nx):JS K (tAsg te t) Δ ⟨nx,rt,bk,ct,ro⟩:=Zvk h
theorem Zdy {n:Nat}{te:TE}{x:Slot}{ds0:List D}(hx:Δ[n]?=some x) (ho:x.od=some (.lst ds0))
  (h:JE K te Δ λd Δ1=>∃y ds,Δ1[n]?=some y/\y.od=some (.lst ds)/\ds.length<sizeLine/\nx (Δ1.set n<|y.put (.lst<|ds++[d]))) :
  JS K (tDrop<|tBM K "list" rAppend (tVar n)<|tCons te tNil) Δ ⟨nx,rt,bk,ct,ro⟩:=Zvr hx ho h
theorem Zqr {n:Nat}{ti te:TE}(h:JE K te Δ λd Δ1=>(∃x ds,Δ1[n]?=some x/\x.od=some (.lst ds))/\JE K ti Δ1 λe Δ2=>∃x ds i j,Δ2[n]?=some x/\x.od=some (.lst ds)/\e=.int i/\ixN ds.length i=some j/\nx (Δ2.set n<|x.put (.lst<|ds.set j d))) :
  JS K (tAsg te<|gSub (tVar n) ti rSetU) Δ ⟨nx,rt,bk,ct,ro⟩:=Zox (h.mono λd Δ1 ⟨⟨x,ds,h1,h2⟩,h3⟩=>⟨⟨x,_,h1,h2⟩,h3⟩)
theorem Zdd {wi:TI}{t:TG}{tb:TS}(h:JI K wi Δ λds Δ1=>∃I:Nat->Evt->Prop,I 0 Δ1/\(∀i d Δ2,ds[i]?=some d->I i Δ2->JG K t d Δ2 λΔ3=>JS K tb Δ3 ⟨I<|i+1,rt,nx,I<|i+1,ro⟩)/\∀Δ2,I ds.length Δ2->nx Δ2) :
  JS K (tFor wi t tb) Δ ⟨nx,rt,bk,ct,ro⟩:=Zvx h
theorem Zic {c:TT}{tb:TS}(I:Nat->Evt->Prop) (h0:∃m,I m Δ) (ht:∀m Δ1,I m Δ1->JT K c Δ1 λb Δ2=>if b=true then JS K tb Δ2 ⟨λΔ3=>∃m',m'<m/\I m' Δ3,rt,nx,λΔ3=>∃m',m'<m/\I m' Δ3,ro⟩ else nx Δ2) :
  JS K (tWhile c tb) Δ ⟨nx,rt,bk,ct,ro⟩:=Zpu I h0 ht
end
theorem Zse {α β:Type}{f:α -> β}{xs:List α}{i:Int}(h0:0<=i) (h1:i<(xs.length:Int)):∃c,xs[i.toNat]?=some c/\atI (xs.map f) i=some (f c):=by
 have hk:i.toNat<xs.length:=by omega
 have e:i=((i.toNat:Nat):Int):=by omega
 have q:xs[i.toNat]?=some xs[i.toNat]:=Waa hk;generalize xs[i.toNat]=c at q;refine⟨c,q,?_⟩;have z:atI (xs.map f) ((i.toNat:Nat):Int)=some (f c):=Zdn (by rw[Wah,q];rfl);rw[<- e]at z;exact z
theorem Zpa:bootBuiltins "abs" = some (.builtin "abs"):=by decide +kernel
theorem Zb4:bootBuiltins "len" = some (.builtin "len"):=by decide +kernel
theorem Zn7:bootBuiltins "min" = some (.builtin "min"):=by decide +kernel
theorem Zvw:bootBuiltins "max" = some (.builtin "max"):=by decide +kernel
theorem Zap:bootBuiltins "isinstance" = some (.builtin "isinstance"):=by decide +kernel
theorem Zm6:bootBuiltins "sum" = some (.builtin "sum"):=by decide +kernel
theorem Zi8:bootBuiltins "sorted" = some (.builtin "sorted"):=by decide +kernel
theorem Zmz:bootBuiltins "divmod" = some (.builtin "divmod"):=by decide +kernel
theorem Zd9:bootBuiltins "tuple" = some (.type "tuple"):=by decide +kernel
theorem Zt0:bootBuiltins "list" = some (.type "list"):=by decide +kernel
theorem Zry:bootBuiltins "set" = some (.type "set"):=by decide +kernel
structure Callee (P:Program) (w:World) (K:W.Frag) (mg:Str->Option Value) (base:Heap) (k:Nat) (x:Str) (ps:List Str) (sp:Sp):Prop where
 ex:∃(f:Addr) (fd:FuncData),FnOk P w K mg base CX0 k f fd ps sp/\Binds K fd ps []/\W.keepIn K (.ref f)=true/\mg x=some (.ref f)
section
variable {X:Cx}{k:Nat}{x:Str}{ps:List Str}{sp:Sp}{e:Expr}{es:List Expr}{t:TA}{p pos:Pos}
theorem Za1 (C:Callee X.prog X.w X.K X.mg X.base k x ps sp) (hr:Room k X.A) (ha:PA X (e::es) t) (hg:Gl X x:=by rfl) (hdb:(x == ("__debug__":Str))=false:=by decide)
  (he:starEach (e::es) X.env=(false,eval e X.env)::starEach es X.env:=by rfl) (hpl:(backTo pos<|starEach es X.env).any (·.1)=false:=by rfl):PE X (.Call (.Name x p) (e::es) [] pos) (tCall sp [] E0 t):=by
 obtain⟨f,fd,F,b,kp,m⟩:=C.ex;exact Zoj F hr hg m kp b .nil pass0 ha hdb he hpl
end
def fixD (sel:List Nat) (Δ:Evt):Evt:=sel.map λi=>(Δ[i]?).getD .any
theorem Zep {n:Nat}{sel:List Nat}{ts Δ:Evt}(ht:ts.length=n):backD n sel (ts++fixD sel Δ) 0 Δ = Δ:=by
 apply Wc0;intro i;rw[Zc0];cases q:Δ[i]? with
 |none=>rfl
 |some x=>
  show some (backAt n sel (ts++fixD sel Δ) (0+i) x)=some x;congr 1;rw[Nat.zero_add];have key:∀j,sel.idxOf? i=some j->(ts++fixD sel Δ)[n+j]?=some x:=λj hj=>by
   rw[Wav (by omega),ht,Nat.add_sub_cancel_left];unfold fixD;rw[Wah,Zd5 hj];show some ((Δ[i]?).getD .any)=_;rw[q];rfl
  unfold backAt;cases x with
  |any=>rfl
  |val d=>rfl
  |own o=>
   dsimp only;cases e:sel.idxOf? i with
   |none=>rfl
   |some j=>dsimp only;rw[key j e]
  |bor o=>
   dsimp only;cases e:sel.idxOf? i with
   |none=>rfl
   |some j=>dsimp only;rw[key j e]
  |ownA a o=>
   dsimp only;cases e:sel.idxOf? i with
   |none=>rfl
   |some j=>dsimp only;rw[key j e]
section
variable {K:W.Frag}{Δ:Evt}{P:D->Evt->Prop}
theorem Zcv {sel:List Nat}{wi:TI}{tc:TT}{te:TE}(hsel:sel.Nodup)
  (h:JI K wi Δ λds Δ1=>ds.length<sizeLine/\∃(p:D->Bool) (f:D->D),
   (∀(i:Nat) d,ds[i]?=some d->JT K tc (.val d::fixD sel Δ1) λb Δ4=>b=p d/\if b=true then JE K te Δ4 λe Δ5=>e=f d/\∃x,Δ5=x::fixD sel Δ1 else ∃x,Δ4=x::fixD sel Δ1) ∧
   P (.lst ((ds.filter p).map f)) Δ1):JE K (tComp 1 sel wi (gName 0) tc te) Δ P:=by
 refine Zkh hsel λg G H σ R k c=>h g G H σ R k λJ ds G' H' Δ' k' s' it ⟨z,p,f,ht,he⟩=>c J ds G' H' Δ' k' s' it ⟨z,fixD sel Δ',p,f,rfl,λi d ts hd hts=>?_,?_⟩
 ·refine Zhh (by decide) ?_
  obtain⟨x,rfl⟩:∃x,ts=[x]:=by
   match ts,hts with
   |[x],_=>exact⟨x,rfl⟩
  intro g G H σ Q k c;refine ht i d hd g G H σ Q k λb G1 H1 Δ1 k1 s1 ⟨e1,q⟩=>c b G1 H1 Δ1 k1 s1 ⟨e1,?_⟩;cases b with
  |true=>
   rw[if_pos rfl]at q ⊢;exact q.mono λe Δ5 ⟨e2,x,e3⟩=>⟨e2,[x],rfl,e3⟩
  |false=>
   rw[if_neg Wal]at q ⊢;obtain⟨x,e3⟩:=q;exact⟨[x],rfl,e3⟩
 ·rw[Zep (by simp)];exact he
theorem Zfb {sel:List Nat}{wi:TI}{tc:TT}{te:TE}{Po:OD->Evt->Prop}(hsel:sel.Nodup)
  (h:JI K wi Δ λds Δ1=>ds.length<sizeLine/\∃(p:D->Bool) (f:D->D),
   (∀(i:Nat) d,ds[i]?=some d->JT K tc (.val d::fixD sel Δ1) λb Δ4=>b=p d/\if b=true then JE K te Δ4 λe Δ5=>e=f d/\∃x,Δ5=x::fixD sel Δ1 else ∃x,Δ4=x::fixD sel Δ1) ∧
   Po (.lst ((ds.filter p).map f)) Δ1):JO K (tComp 1 sel wi (gName 0) tc te) Δ Po:=by
 refine Zo6 hsel λg G H σ R k c=>h g G H σ R k λJ ds G' H' Δ' k' s' it ⟨z,p,f,ht,he⟩=>c J ds G' H' Δ' k' s' it ⟨z,λi ys Δ=>ys=((ds.take i).filter p).map f/\∃x,Δ = x::fixD sel Δ',⟨by simp,.any,rfl⟩,?_,?_⟩
 ·rintro i d ys Δ2 hd ⟨rfl,x,rfl⟩
  have tk:ds.take (i+1)=ds.take i++[d]:=by
   rw[Wbw,hd];rfl
  refine Zhh (by decide) ?_;intro g G H σ Q k c;refine ht i d hd g G H σ Q k λb G1 H1 Δ1 k1 s1 ⟨e1,q⟩=>c b G1 H1 Δ1 k1 s1 ?_;cases b with
  |true=>
   rw[if_pos rfl]at q ⊢;refine q.mono λe Δ5 ⟨e2,x,e3⟩=>⟨?_,x,e3⟩;rw[tk,Wce,Wbg,Wbo,<- e1,e2];rfl
  |false=>
   rw[if_neg Wal]at q ⊢;obtain⟨x,e3⟩:=q;refine⟨?_,x,e3⟩;rw[tk,Wce,Wbg,Wbo,<- e1];simp
 ·rintro ys Δ2 ⟨rfl,x,rfl⟩
  rw[Wbx,show (x::fixD sel Δ')=[x]++fixD sel Δ' from rfl,Zep (by simp)];exact he
theorem Zpl {sel:List Nat}{wi:TI}{tc:TT}{te:TE}(hsel:sel.Nodup)
  (h:JI K wi Δ λds Δ1=>ds.length<sizeLine/\∃(p:D->Bool) (f:D->D),
   (∀(i:Nat) d,ds[i]?=some d->∃a b,d=.tup [a,b]/\JT K tc (.val a::.val b::fixD sel Δ1) λt Δ4=>t=p d/\if t=true then JE K te Δ4 λe Δ5=>e=f d/\∃x y,Δ5=x::y::fixD sel Δ1 else ∃x y,Δ4=x::y::fixD sel Δ1) ∧
   P (.lst ((ds.filter p).map f)) Δ1):JE K (tComp 2 sel wi (gTup K 2 (gCons (gName 0) (gCons (gName 1) gNil))) tc te) Δ P:=by
 refine Zkh hsel λg G H σ R k c=>h g G H σ R k λJ ds G' H' Δ' k' s' it ⟨z,p,f,ht,he⟩=>c J ds G' H' Δ' k' s' it ⟨z,fixD sel Δ',p,f,rfl,λi d ts hd hts=>?_,?_⟩
 ·obtain⟨a,b,rfl,hj⟩:=ht i d hd
  refine Zsw rfl<|Ziu<|Zhh (by decide)<|Ziu<|Zhh (by decide)<|Zqe ?_;obtain⟨x,y,rfl⟩:∃x y,ts=[x,y]:=by
   match ts,hts with
   |[x,y],_=>exact⟨x,y,rfl⟩
  intro g G H σ Q k c;refine hj g G H σ Q k λb G1 H1 Δ1 k1 s1 ⟨e1,q⟩=>c b G1 H1 Δ1 k1 s1 ⟨e1,?_⟩;cases b with
  |true=>
   rw[if_pos rfl]at q ⊢;exact q.mono λe Δ5 ⟨e2,x,y,e3⟩=>⟨e2,[x,y],rfl,e3⟩
  |false=>
   rw[if_neg Wal]at q ⊢;obtain⟨x,y,e3⟩:=q;exact⟨[x,y],rfl,e3⟩
 ·rw[Zep (by simp)];exact he
end
section
variable {K:W.Frag}{Δ:Evt}
theorem JS.conv {t:TS}{Δ':Evt}{P:Pst}(hc:∀g G H σ,Ok K g G H σ Δ -> ∃G',Same G G' /\ Ok K g G' H σ Δ') (h:JS K t Δ' P):JS K t Δ P:=λg G H σ E k c=>by
 obtain⟨G',s,k'⟩:=hc g G H σ k;exact h g G' H σ E k' c
end
section
variable {X:Cx}(K:W.Frag)
theorem ixK (hu:X.A.units+1<cLine) (hK:X.K=K:=by rfl):IxR X (rIxU K):=hK ▸ ixU hu
theorem slK (hK:X.K=K:=by rfl):SlR X (rSlU K):=hK ▸ slU
theorem addK (hK:X.K=K:=by rfl):OpR X (binaryOp .Add) (rAddU K):=hK ▸ Zsf
theorem lenK (hK:X.K=K:=by rfl):CallR X (.builtin "len") (rLenU K):=hK ▸ Znb
def rTup (K:W.Frag):List V->Hp->VK->Prop:=λxs H Q=>∃p ys,xs=[.ref p]/\((SqL K H p ys/\∀l,H l=none->Q (.ref l) (upd H l (.tup ys)))\/(SqT K H p ys/\Q (.ref p) H))
theorem tupK (hK:X.K=K:=by rfl):CallR X (.type "tuple") (rTup K):=hK ▸ Zhg
def rLst (K:W.Frag):List V->Hp->VK->Prop:=λxs H Q=>∃p ys,xs=[.ref p]/\(SqL K H p ys\/SqT K H p ys)/\∀l,H l=none->Q (.ref l) (upd H l (.lst ys))
theorem idxK (hK:X.K=K:=by rfl):MtM X "tuple.index" (rIndexT K):=hK ▸ Zgm
theorem seqK {tg l:Expr}{tl:TE}(hl:PE X l tl) (hK:X.K=K:=by rfl):PI X tg l (iSeq K tl):=hK ▸ Zwf hl
theorem truK {a:Expr}{ta:TE}(ha:PE X a ta) (he:∀whole,isTrue a X.env whole=(do let v ← whole;standAt a.pos;holding [v] (truthy v))) (hK:X.K=K:=by rfl):PT X a (tTru K ta):=hK ▸ Zuy ha he
theorem gtupK {es:List Expr}{k:Nat}{t:TGs}{n:Nat}{pos:Pos}(hc:X.calm=true) (h:PGs X es t)
  (hn:(assignEach es X.env).length=n:=by rfl) (hst:(assignEach es X.env).findIdx? (·.1)=none:=by rfl) (hK:X.K=K:=by rfl):PG X (.Tuple es k pos) (gTup K n t):=hK ▸ Zun hc h hn hst
variable {o e:Expr}{es:List Expr}{to:TE}{t:TA}{name:Str}{apos cpos:Pos}{T id:String}{r:V->List V->Hp->VK->Prop}
theorem bmK (pa:PlainAttrs T) (slot:PySem.Slot T name id) (hty:typeOf (.builtin id)=pure (.type "method_descriptor")) (hm:MtR X id r) (ho:PE X o to) (ha:PA X (e::es) t)
  (hbase:attributeBase o name X.env (eval o X.env)=eval o X.env:=by rfl)
  (hfew:((backTo cpos (starEach (e::es) X.env)).all (λx=>!x.1) && (backToKw cpos (keywordEach [] X.env)).all (λx=>x.1.isSome)
   && decide ((e::es).length+([]:List Keyword).length+(if ([]:List Keyword).isEmpty then 0 else 1)<30))=true:=by rfl)
  (hline:(apos.endLine == cpos.line)=true:=by rfl) (hs:starEach (e::es) X.env=(false,eval e X.env)::starEach es X.env:=by rfl) (hplain:(backTo cpos<|starEach es X.env).any (·.1)=false:=by rfl) (hK:X.K=K:=by rfl) :
  PE X (.Call (.Attribute o name apos) (e::es) [] cpos) (tBM K T r to t):=hK ▸ Zwv pa slot hty hm ho ha hbase hfew hline hs hplain
end
section
variable {K:W.Frag}{Δ:Evt}{P:D->Evt->Prop}
theorem Zfq {ds es:List D}(he:ds=[.lst es]\/ds=[.tup es]) (p:P (.tup es) Δ):JC K (rTup K) ds Δ P:=Zpn he p
theorem Zr4 {ds es:List D}(he:ds=[.lst es]\/ds=[.tup es]) (p:P (.lst es) Δ):JC K (rLst K) ds Δ P:=λg G H σ Q vs k rs c=>by
 rcases he with he|he <;> subst he
 ·obtain⟨_,_,rfl,r,t⟩:=rs.inv
  next=>
   cases t.inv;obtain⟨_,_,rfl,ha,rs⟩:=r.inv
   next=>
    refine⟨_,_,rfl,.inl<|SqL.of<|k.live _ _ ha,λl hl=>?_⟩;obtain⟨k2,sg⟩:=k.laid hl (.lst _);exact c _ _ _ _ Δ k2 sg (.lst Zal<|rs.mono sg) p
 ·obtain⟨_,_,rfl,r,t⟩:=rs.inv
  next=>
   cases t.inv;obtain⟨_,_,rfl,ha,rs⟩:=r.inv
   next=>
    refine⟨_,_,rfl,.inr<|SqT.of<|k.live _ _ ha,λl hl=>?_⟩;obtain⟨k2,sg⟩:=k.laid hl (.lst _);exact c _ _ _ _ Δ k2 sg (.lst Zal<|rs.mono sg) p
end
def fLaw:DSp:=λds Post=>∃ns:List Int,ds=[.scr (ns.map .int)]/\ns.length<=63/\Post (.bl true)
def SqB (b:Bool) (K:W.Frag) (H:Hp) (a:Addr) (xs:List V):Prop:=match b with|true=>SqT K H a xs|false=>SqL K H a xs
def HsB (b:Bool) (h:Heap) (a:Addr) (ws:Array Value):Prop:=match b with|true=>h.IsTuple a ws|false=>h.IsList a ws
theorem HsB.lt {b:Bool}{h:Heap}{a:Addr}{ws:Array Value}(x:HsB b h a ws):a<h.objs.size:=by
 cases b <;> (obtain⟨o,q,r⟩:=x;exact Wai q)
theorem Inv.seqB {X:Cx}{pins:List (Addr × Obj)}{σ:St}{H:Hp}{s:Shared}{b:Bool}{a:Addr}{xs:List V}(I:Inv X pins σ H s) (h:SqB b X.K H a xs):∃its:List Value,Vals xs its/\HsB b s.heap a its.toArray:=by
 cases b
 ·obtain⟨its,r,p,_⟩:=I.list h
  exact⟨its,r,p.isList⟩
 ·obtain⟨its,r,p,_⟩:=I.tuple h
  exact⟨its,r,p⟩
section
variable {prog:Program}{w:World}{A:Around}{E:Value->Shared->Prop}{s:Shared}
end
section
variable {K:W.Frag}{Δ:Evt}
end
section
variable {X:Cx}
def rMin1 (K:W.Frag):List V->Hp->VK->Prop:=λxs H Q=>∃(b:Bool) (p:Addr) (ns:List Int),xs=[.ref p]/\SqB b K H p (ns.map V.int)/\0<ns.length/\∀m,m∈ns->(∀a∈ns,m<=a)->Q (.int m) H
theorem minK (K:W.Frag) (hc:X.calm=true) (hK:X.K=K:=by rfl):CallR X (.builtin "min") (rMin1 K):=by
 subst hK;intro pins s σ H xs us Q I r h;obtain⟨b,p,ns,rfl,hx,hne,q⟩:=h;obtain⟨u,rfl,ru⟩:=vals1 r;cases (show u=Value.ref p from ru);obtain⟨its,w1,p1⟩:=I.seqB hx;have hlt:=p1.lt;have hl:=w1.length;rw[Wac]at hl;have hv:∀(i:Nat) v,its.toArray[i]?=some v->∃t,v=Value.int (ns.getD i 0) t:=λi v e=>by
  have hi:i<its.length:=by simpa using (Array.getElem?_eq_some_iff.mp e).1
  obtain⟨v',e1,t,e2⟩:=w1.get (i:=i) (x:=.int<|ns.getD i 0) (by rw[Wah,Wad,Waa (by omega)];rfl);rw[Wc2,e1]at e;cases e;exact⟨t,e2⟩
 have fin:∀{h':Heap}{tk:Nat}{v:Value},its.toArray[argBest (λi j=>decide (ns.getD i 0<ns.getD j 0)) (its.toArray.size-1)]?=some v->(∀c o,s.heap.get? c=some o->h'.get? c=some o)->EP X pins σ Q v { s with heap:=h',toks:=tk }:=λ{h' tk v} hP hk=>by
  obtain⟨t,rfl⟩:=hv _ _ hP;obtain⟨h1,h2⟩:=argBest_lt (λi=>ns.getD i 0)<|its.toArray.size-1;have hz:its.toArray.size=ns.length:=by simp[hl]
  rw[hz]at h1 h2 ⊢;refine⟨.int<|ns.getD (argBest (λi j=>decide (ns.getD i 0<ns.getD j 0))<|ns.length-1) 0,H,I.kept hk,⟨_,rfl⟩,q _ ?_ λa ha=>?_⟩
  ·rw[Wad,Waa (by omega)];exact Wa4 _
  ·obtain⟨j,hj,rfl⟩:=List.mem_iff_getElem.mp ha
   have:=h2 j (by omega);rw[Wad (l:=ns) (i:=j),Waa hj]at this;exact this
 have old:∀{o:Obj}{h':Heap},(∀c u,c ∉ [s.heap.objs.size]->(s.heap.push o).get? c=some u->h'.get? c=some u)->∀c u,s.heap.get? c=some u->h'.get? c=some u:=λhk c u e=>hk c u (λhm=>by
  have:c=s.heap.objs.size:=by simpa using hm
  exact absurd (this ▸ Wai e) (Wb3 _)) (Wab _ e)
 have fp:∀o:Obj,∀c∈[s.heap.objs.size,p],c<(s.heap.push o).objs.size:=λo c hc=>by
  rw[Wb4];simp only[War,Wcb,or_false]at hc;rcases hc with rfl|rfl
  ·exact Nat.lt_succ_self _
  ·exact Wbe hlt
 cases b
 ·refine call_min_walk (wpAny_pyIter_list p1 ?_)
  exact⟨_,_,_,_,_,_,_,rfl,Walks.list (A:=X.A.in1) (I.ok.hd hc) _ p (Wap hlt) its.toArray,⟨⟨_,Wam _ rfl,rfl,rfl⟩,Heap.IsList.push p1 _⟩,fp _,by simp;omega,CmpOf.ints_lt (λi=>ns.getD i 0) hv,λv h' tk hP hk=>fin hP<|old hk⟩
 ·refine call_min_walk (wpAny_pyIter_tuple p1 ?_)
  exact⟨_,_,_,_,_,_,_,rfl,Walks.tuple (A:=X.A.in1) (I.ok.hd hc) _ p (Wap hlt) its.toArray,⟨⟨_,Wam _ rfl,rfl,rfl⟩,Heap.IsTuple.push p1 _⟩,fp _,by simp;omega,CmpOf.ints_lt (λi=>ns.getD i 0) hv,λv h' tk hP hk=>fin hP<|old hk⟩
end
section
variable {K:W.Frag}{Δ:Evt}
theorem Zsg {ns:List Int}{m:Int}{d:D}{P:D->Evt->Prop}(hd:d=.lst (ns.map .int)\/d=.tup (ns.map .int)) (hm:m∈ns) (hle:∀a∈ns,m<=a) (p:P (.int m) Δ):JC K (rMin1 K) [d] Δ P:=λg G H σ Q vs k rs c=>by
 have fin:∀m',m'∈ns->(∀a∈ns,m' <= a)->Q (.int m') H:=λm' h1 h2=>by
  have:m'=m:=Int.le_antisymm (h2 m hm)<|hle m' h1;subst this;exact c _ _ G H Δ k (Same.refl _) (.int _) p
 have pos:0<ns.length:=Wcd hm;obtain⟨_,_,rfl,r,t⟩:=rs.inv
 next=>
  cases t.inv;rcases hd with hd|hd <;> subst hd
  ·obtain⟨_,_,rfl,ha,rs⟩:=r.inv
   next=>have:=rs.ints;subst this;exact⟨false,_,ns,rfl,SqL.of<|k.live _ _ ha,pos,fin⟩
  ·obtain⟨_,_,rfl,ha,rs⟩:=r.inv
   next=>have:=rs.ints;subst this;exact⟨true,_,ns,rfl,SqT.of<|k.live _ _ ha,pos,fin⟩
end
open PySem PySem.Spec PyProof.Rows PySem.SeqAt
theorem Zmc (l b:Addr) (items items2:Array Value) (n n2:Nat) (dd dd2:Option Addr) (sl sl2:Array (Option Value)) :
  Meets (Builtin.«tuple.__lt__» ⟨[.ref l,.ref b],[]⟩)
   (λA R s=>s.heap.get? l=some { cls:=.type "tuple",dict:=dd,data:=.seq items n,slots:=sl } /\ s.heap.get? b=some { cls:=.type "tuple",dict:=dd2,data:=.seq items2 n2,slots:=sl2 } ∧
    (items2.size=0\/∃(y x:Int) (ty tx:Tok) (ys xs:List Value),items.toList=.int y ty::ys/\items2.toList=.int x tx::xs/\x<y) ∧
    R (.ok (.ret (.bool false))) s):=
 .of_wp λprog w A R s h=>by
  obtain⟨hp,g,d,tk,os⟩:=s;obtain⟨hl,hb,he,h⟩:=h;have f2:=AutoSeq1.sub_tuple_tuple
  wp_walk using wpAny_loadPart' hl,wpAny_loadPart' hb,wpAny_forIn_list _ (λrest b s'=>b.1=none/\s'=⟨hp,g,d,tk,os⟩ /\ rest=items.toList.zip items2.toList) _
  case turn=>
   rintro⟨y,x⟩ rest b s' ⟨hb',rfl,hz⟩;rcases he with he|⟨y',x',ty,tx,ys,xs,e1,e2,hlt⟩
   ·have:items2.toList=[]:=by rw[Array.toList_eq_nil_iff];exact Array.eq_empty_of_size_eq_zero he
    rw[this,List.zip_nil_right]at hz;cases hz
   ·rw[e1,e2,List.zip_cons_cons]at hz
    injection hz with hz1 hz2
    injection hz1 with hy hx
    subst hy hx;refine wpAny_bind<|EqAt.int_int y' ty x' tx prog w _ _ ?_;have e:(y' == x')=false:=by rw[beq_eq_false_iff_ne];omega
    rw[e];simp only[Bool.not_false,if_true];refine wpAny_bind<|wpAny_rule<|wpAny_bind ?_;refine PyProof.Rows.lt_int ?_;rw[decide_eq_false (show ¬ y'<x' by omega)];exact wpAny_bind<|wpAny_pure<|wpAny_pure<|wpAny_pure ⟨_,rfl,h⟩
  case fin=>
   rintro⟨b1,b2⟩ s' ⟨hb',rfl,hz⟩;simp only at hb';subst hb';have hz2:items2.size=0:=by
    rcases he with he|⟨y',x',ty,tx,ys,xs,e1,e2,hlt⟩
    ·exact he
    ·rw[e1,e2,List.zip_cons_cons]at hz;cases hz
   refine wpAny_pure ⟨_,rfl,?_⟩;rw[hz2];exact h
  case h=>
   exact⟨rfl,rfl,rfl⟩
theorem Zn6:∀n:Nat,n<200->minRun' n n 0<=n:=by decide +kernel
section
variable {prog:Program}{w:World}{A:Around}{E:Value->Shared->Prop}{s:Shared}
theorem Zt8 {st:SortSt}{nrem a:Nat}{Q:AscSt->SortSt->Prop}(hc:∀i,1<=i->i<nrem->∀Q:Option Bool->SortSt->Prop,Q (some false) st->wpS (model prog w) A E s (ltAt' i<|i-1) Q st) (ha:1<=a) (han:a<=nrem) (h:Q (none,nrem) st) :
  wpS (model prog w) A E s (ascLoop a nrem) Q st:=by
 unfold ascLoop;refine wpS_forRange (I:=λx c st'=>st'=st/\c=(none,x)) ?step ?fin ⟨rfl,rfl⟩
 case fin=>
  rintro c st' ⟨rfl,rfl⟩;rw[show max a nrem=nrem by omega];exact h
 case step=>
  rintro x c st' hax hxn ⟨rfl,rfl⟩;dsimp only;refine wpS_bind<|hc x (by omega) hxn _ ?_;simp only[Wa7,if_false];exact wpS_pure ⟨rfl,rfl⟩
theorem Zp2 {st:SortSt}{n:Nat}{Q:Unit->SortSt->Prop}(hs:(arrOf st).size=n) (hp:pendingOf st = #[]) (h2:2<=n) (hn:n<200) (hc:∀i,1<=i->i<n->∀Q:Option Bool->SortSt->Prop,Q (some false) st->wpS (model prog w) A E s (ltAt' i<|i-1) Q st)
  (h:∀st',arrOf st'=arrOf st->failedOf st'=failedOf st->Q () st'):wpS (model prog w) A E s sortRuns' Q st:=by
 have hmr:=Zn6 n hn;rw[sortRuns'_eq];refine wpS_bind (wpS_get ?_);dsimp only;simp only[hs];refine wpS_bind (wpS_mono (wpS_forRange
  (I:=λx c st'=>(x=0/\c=(none,0)/\st'=st)\/(1<=x/\c=(none,n)/\st'=setPending st #[(0,n,0)]))
  (Q:=λc st'=>c=(none,n)/\st'=setPending st #[(0,n,0)]) ?step ?fin (.inl ⟨rfl,rfl,rfl⟩)) ?post)
 case fin=>
  rintro c st' (⟨hx,_,_⟩|⟨_,hc,hD⟩)
  ·omega
  ·exact⟨hc,hD⟩
 case step=>
  rintro x c st' _ hx (⟨rfl,rfl,rfl⟩|⟨hx1,rfl,rfl⟩)
  ·dsimp only
   rw[if_neg (by omega)];simp only[Wdt,Nat.zero_add];rw[countRun0_eq];refine wpS_bind<|wpS_bind<|Zt8 hc (Waf 1) (by omega) ?_;dsimp only;rw[if_pos (by simp)];refine wpS_pure ?_;dsimp only;rw[if_neg (by omega)];refine wpS_bind<|wpS_get ?_;rw[hp];refine wpS_bind<|wpS_modify<|wpS_pure (.inr ⟨by omega,rfl,?_⟩);rw[hp];rfl
  ·dsimp only
   rw[if_pos (Waf _)];exact wpS_pure ⟨rfl,rfl⟩
 case post=>
  rintro c st' ⟨rfl,rfl⟩;dsimp only;refine wpS_bind<|wpS_mono (wpS_forRange (I:=λ_ c st''=>st''=setPending st #[(0,n,0)]/\c=(none,())) (Q:=λc st''=>st''=setPending st #[(0,n,0)]/\c=(none,())) ?_ (λ_ _ hh=>hh) ⟨rfl,rfl⟩) ?_
  ·rintro x c st'' _ _ ⟨rfl,rfl⟩
   refine wpS_bind<|wpS_get ?_;rw[if_pos (show (pendingOf<|setPending st #[(0,n,0)]).size<=1 from Waf 1)];exact wpS_pure ⟨rfl,rfl⟩
  ·rintro c st'' ⟨rfl,rfl⟩
   exact wpS_pure<|h _ rfl rfl
def KeepBut (a:Addr) (h h':Heap):Prop:=∀b o,b≠a->h.get? b=some o->h'.get? b=some o
theorem Zhq {a:Addr}{vs:List Value}{n:Nat}{κ:SortKind}{P:Fin->Shared->Prop}(ho:s.heap.get? a=some (seqObj "list" vs.toArray n)) (hz:vs.length<200)
  (hk:2<=vs.length->∀h',KeepBut a s.heap h' -> ∀Q:SortKind->Shared->Prop,Q κ { s with heap:=h' } -> wpAny (model prog w) A (keyKind' vs.toArray) Q E { s with heap:=h' })
  (hc:∀h',KeepBut a s.heap h' -> ∀i,1<=i->i<vs.length->∀(E:Value->Shared->Prop) (Q:Bool->Shared->Prop),Q false { s with heap:=h' } -> wpAny (model prog w) A (keyLt' κ (vs.getD i .none)<|vs.getD (i-1) .none) Q E { s with heap:=h' })
  (h:P (.done (.ret .none)) { s with heap:=sortedHeap s.heap a vs vs.toArray }):wpAny (model prog w) A (Builtin.«list.sort» ⟨[.ref a],[]⟩) P E s:=by
 rw[list_sort_plain];have ha:a<s.heap.objs.size:=Wai ho;have hsz:vs.toArray.size=vs.length:=by simp
 have hline:vs.length<=sizeLine:=by rw[sizeLine_eq];omega
 refine wpAny_bind<|listItems_at ho rfl ?_;refine wpAny_bind<|listUpdate_at ho rfl ?_ (by rw[hsz];exact hline)<|Wb1 _;obtain⟨e1,ho1⟩:∃e1,(s.heap.update a (Obj.mapSeq λ_=>#[])).get? a=some (seqObj "list" #[] e1):=⟨_,get?_update_seq ho λ_=>#[]⟩;refine wpAny_bind<|seqEpoch_at ho1 rfl ?_;refine wpAny_bind<|wpAny_newTuple ?_ hline;refine wpAny_bind<|wpAny_newList ?_<|Wb1 _;refine wpAny_holding ?_;have ho6:(((s.heap.update a (Obj.mapSeq λ_=>#[])).push (seqObj "tuple" vs.toArray 0)).push (seqObj "list" #[] 0)).get? a=some (seqObj "list" #[] e1):=by
  rw[Wda _ _ _ (by rw[size_push',Wdw];exact Wap<|Wbe ha),Wda _ _ _ (by rw[Wdw];exact Wap ha)];exact ho1
 have keep:KeepBut a s.heap (((s.heap.update a (Obj.mapSeq λ_=>#[])).push (seqObj "tuple" vs.toArray 0)).push (seqObj "list" #[] 0)):=λb o hb q=>
  Wab _ (Wab _ ((Heap.get?_update_ne _ _ _ _ hb).trans q))
 show wpAny (model prog w) A _ P E { s with heap:=((s.heap.update a (Obj.mapSeq λ_=>#[])).push (seqObj "tuple" vs.toArray 0)).push (seqObj "list" #[] 0) };dsimp only;have out:((vs.toArray.zip vs.toArray).map (·.2))=vs.toArray:=by
  apply Array.toList_inj.mp;rw[Array.toList_map,Array.toList_zip];exact List.map_snd_zip<|Waf _
 by_cases h2:vs.toArray.size<2
 ·rw[if_pos h2,if_pos h2]
  refine wpAny_bind<|wpAny_pure ?_;rw[StateT.run_pure];refine wpAny_bind<|wpAny_pure ?_;dsimp only;refine wpAny_bind<|seqEpoch_at ho6 rfl ?_;rw[show arrOf (SortSt.mk' general' (vs.toArray.zip vs.toArray) #[] 7 none)=vs.toArray.zip vs.toArray from rfl,out];refine wpAny_bind<|listUpdate_at ho6 rfl ?_ (Wb1 _) (by rw[hsz];exact Nat.le_succ_of_le hline);simp only[bne_self_eq_false,Wa7,if_false];exact wpAny_pure h
 ·rw[if_neg h2,if_neg h2]
  refine wpAny_bind<|hk (by omega) _ keep _ ?_;refine wpAny_bind (wpAny_mono (Zp2 (n:=vs.length) (st:=SortSt.mk' κ (vs.toArray.zip vs.toArray) #[] 7 none) (Q:=λ_ st'=>arrOf st'=vs.toArray.zip vs.toArray/\failedOf st'=none) ?_ rfl (by omega) hz ?_ ?_) ?_ λ_ _ e=>e)
  ·show (vs.toArray.zip vs.toArray).size=_
   rw[Array.size_zip,hsz,Nat.min_self]
  ·intro i h1 hi Q hq
   have g:∀j,j<vs.length->(arrOf<|SortSt.mk' κ (vs.toArray.zip vs.toArray) #[] 7 none)[j]?=some (vs.getD j .none,vs.getD j .none):=λj hj=>by
    show (vs.toArray.zip vs.toArray)[j]?=_;rw[<- Array.getElem?_toList,Array.toList_zip];show (vs.zip vs)[j]?=_;rw[Wco,Wad,Waa hj];exact⟨rfl,rfl⟩
   rw[ltAt'_eq];refine wpS_bind<|wpS_get ?_;show wpS _ _ _ _ (do let x ← elem' (arrOf<|SortSt.mk' κ (vs.toArray.zip vs.toArray) #[] 7 none) i;let y ← elem' (arrOf<|SortSt.mk' κ (vs.toArray.zip vs.toArray) #[] 7 none) (i-1);lt' x y) Q _;rw[elem'_eq,elem'_eq,g i hi,g (i-1) (by omega)];refine wpS_bind<|wpS_pure<|wpS_bind<|wpS_pure ?_;rw[lt'_eq];refine wpS_bind<|wpS_get ?_;refine wpS_bind<|wpS_lift<|wpAny_attempt<|hc _ keep i h1 hi _ _ ⟨rfl,?_⟩;exact wpS_pure hq
  ·exact λst' a1 a2=>⟨a1,a2⟩
  rintro⟨⟨⟩,st'⟩ s' ⟨rfl,har,hf⟩;dsimp only;refine wpAny_bind<|seqEpoch_at ho6 rfl ?_;rw[har,out];refine wpAny_bind<|listUpdate_at ho6 rfl ?_ (Wb1 _) (by rw[hsz];exact Nat.le_succ_of_le hline);rw[hf];simp only[bne_self_eq_false,Wa7,if_false];exact wpAny_pure h
theorem Zgs {l:Addr}{vs:List Value}{κ:SortKind}{Q:Value->Shared->Prop}(hl:s.heap.IsList l vs.toArray) (hz:vs.length<200)
  (hk:2<=vs.length->∀h',(∀b o,s.heap.get? b=some o->h'.get? b=some o)->∀(E:Value->Shared->Prop) (Q:SortKind->Shared->Prop),Q κ { s with heap:=h' } -> wpAny (model prog w) A.in1.in1 (keyKind' vs.toArray) Q E { s with heap:=h' })
  (hc:∀h',(∀b o,s.heap.get? b=some o->h'.get? b=some o)->∀i,1<=i->i<vs.length->∀(E:Value->Shared->Prop) (Q:Bool->Shared->Prop),Q false { s with heap:=h' } -> wpAny (model prog w) A.in1.in1 (keyLt' κ (vs.getD i .none)<|vs.getD (i-1) .none) Q E { s with heap:=h' })
  (h:Q (.ref<|s.heap.objs.size+1) { s with heap:=sortedAll s.heap vs vs.toArray }):wpAny (model prog w) A (call (.builtin "sorted") [.ref l]) Q E s:=by
 have hline:vs.length<=sizeLine:=by rw[sizeLine_eq];omega
 refine Calls.call_function_entry kind_sorted plain_sorted entry_sorted (args_sorted1 _) ?_;unfold Builtin.«sorted»;refine wpAny_bind (m:=checkCount "sorted" 1 1 _)<|wpAny_pure ?_;refine wpAny_bind<|collect_list hl ?_ hline;refine wpAny_bind<|wpAny_newList ?_ hline;have hsz:((s.heap.push<|seqObj "list" #[] 0).update s.heap.objs.size (Obj.mapSeq (· ++ vs.toArray))).objs.size=s.heap.objs.size+1:=by
  rw[Wdw,size_push']
 have hoL:(((s.heap.push<|seqObj "list" #[] 0).update s.heap.objs.size (Obj.mapSeq (· ++ vs.toArray))).push (seqObj "list" vs.toArray 0)).get? (s.heap.objs.size+1)=some (seqObj "list" vs.toArray 0):=by
  rw[<- hsz];exact Wam _ rfl
 have keep:∀b o,s.heap.get? b=some o->(((s.heap.push<|seqObj "list" #[] 0).update s.heap.objs.size (Obj.mapSeq (· ++ vs.toArray))).push (seqObj "list" vs.toArray 0)).get? b=some o:=λb o q=>by
  have hlt:b<s.heap.objs.size:=Wai q;rw[Wda _ _ _ (by rw[hsz];exact Wap<|Wbe hlt),Heap.get?_update_ne _ _ _ _ (Wap hlt),Wda _ _ _ (Wap hlt)];exact q
 have up:∀h',KeepBut (s.heap.objs.size+1) (((s.heap.push<|seqObj "list" #[] 0).update s.heap.objs.size (Obj.mapSeq (· ++ vs.toArray))).push (seqObj "list" vs.toArray 0)) h' -> ∀b o,s.heap.get? b=some o->h'.get? b=some o:=λh' k b o q=>
  k b o (Wap<|Wbe<|Wai q) (keep b o q)
 show wpAny _ _ _ _ _ { s with heap:=((s.heap.push<|seqObj "list" #[] 0).update s.heap.objs.size (Obj.mapSeq (· ++ vs.toArray))).push (seqObj "list" vs.toArray 0) };rw[hsz];refine wpAny_bind<|wpAny_holding<|wpAny_call_entry slot_list_sort ⟨_,hoL,rfl⟩ entry_list_sort (Zhq (κ:=κ) hoL hz (λh2 h' k Q q=>hk h2 h' (up h' k) _ Q q) (λh' k i h1 hi E Q q=>hc h' (up h' k) i h1 hi E Q q) ⟨_,rfl,?_⟩)<|args_list_sort _;exact wpAny_pure ⟨_,rfl,h⟩
end
def rowLe (a b:List Int):Prop:=a=[]\/∃x y s t,a=x::s/\b=y::t/\x<y
def Asc (rs:List (List Int)):Prop:=∀i a b,rs[i]?=some a->rs[i+1]?=some b->rowLe a b
def RowAt (h:Heap) (v:Value) (r:List Int):Prop:=∃(a:Addr) (its:List Value),v=.ref a/\IsTup h a its.toArray/\IntsAre its r
theorem RowAt.keep {h h':Heap}{v:Value}{r:List Int}(x:RowAt h v r) (k:∀b o,h.get? b=some o->h'.get? b=some o):RowAt h' v r:=by
 obtain⟨a,its,e,⟨o,ho,hc⟩,i⟩:=x;exact⟨a,its,e,⟨o,k a o ho,hc⟩,i⟩
theorem Zby {its:List Value}{x:Int}{r:List Int}(h:IntsAre its (x::r)):∃t us,its=.int x t::us/\IntsAre us r:=by
 cases its with
 |nil=>have:=h.length;simp at this
 |cons v us=>
  cases h with
  |cons _ _ b=>exact⟨_,_,rfl,b⟩
theorem Zfl {its:List Value}(h:IntsAre its []):its=[]:=by
 cases its with
 |nil=>rfl
 |cons v us=>have:=h.length;simp at this
section
variable {prog:Program}{w:World}{A:Around}{E:Value->Shared->Prop}{s:Shared}
theorem Zf3:∀(vs:List Value) (rs:List (List Int)) {Q:List (Option Value)->Shared->Prop},Paired (RowAt s.heap) vs rs →
  (∀fs:List (Option Value),Paired (λ(f:Option Value) (r:List Int)=>(r=[]/\f=none)\/∃x t l,r=x::l/\f=some (.int x t)) fs rs->Q fs s)->wpAny (model prog w) A (vs.mapM firstOfTuple') Q E s
 |[],[],_,_,h=>by rw[List.mapM_nil];exact wpAny_pure (h [] .nil)
 |v::vs,r::rs,Q,.cons p t,h=>by
  obtain⟨a,its,rfl,⟨o,ho,hc,n,hd⟩,hi⟩:=p;rw[List.mapM_cons];refine wpAny_bind ?_;rw[PySem.W.kas_first_eq];refine wpAny_bind<|PySem.W.Looks.here (show PySem.W.Looks (model prog w) s.heap (typeOf (.ref a)) o.cls from (PySem.W.Looks.ld ho).andThen .now) ?_;rw[hc,if_neg (by first|decide|simp)];refine wpAny_bind<|listItems_at ho hd<|wpAny_pure ?_;refine wpAny_bind (Zf3 vs rs (Q:=λbs s'=>wpAny _ A (pure (its.toArray[0]?::bs)) Q E s') t λfs pf=>wpAny_pure<|h _ (.cons ?_ pf));cases r with
  |nil=>rw[Zfl hi];exact .inl ⟨rfl,rfl⟩
  |cons x l=>
   obtain⟨t,us,rfl,_⟩:=Zby hi;exact .inr ⟨x,t,l,rfl,by simp⟩
theorem Zlu {vs:List Value}{rs:List (List Int)}(p:Paired (RowAt s.heap) vs rs):∀v∈vs,PySem.W.Looks (model prog w) s.heap (typeOf v) (.type "tuple"):=by
 intro v hv
 induction p with
 |nil=>cases hv
 |cons q t ih=>
  rcases War.mp hv with e|hv
  ·subst e
   obtain⟨a,its,rfl,⟨o,ho,hc,_⟩,_⟩:=q;have z:PySem.W.Looks (model prog w) s.heap (typeOf (.ref a)) o.cls:=(PySem.W.Looks.ld ho).andThen .now;rw[hc]at z;exact z
  ·exact ih hv
theorem Zlx {vs:List Value}{rs:List (List Int)}{Q:SortKind->Shared->Prop}(p:Paired (RowAt s.heap) vs ([]::rs)) (h:Q oneType' s):wpAny (model prog w) A (keyKind' vs.toArray) Q E s:=by
 have hT:=Zlu (prog:=prog) (w:=w) p;rw[keyKind'_eq,List.mapM_toArray,map_eq_pure_bind];refine wpAny_bind<|wpAny_bind (Zf3 vs _ p λfs pf=>wpAny_pure ?_);cases pf with
 |@cons f _ fs _ hf _=>
  have hf:f=none:=by
   rcases hf with z|⟨x,t,l,z,_⟩
   ·exact z.2
   ·cases z
  subst hf;rw[if_neg (by simp),if_neg (by simp)];rw[oneTypeOnly'_eq,List.mapM_toArray,map_eq_pure_bind];refine wpAny_bind<|wpAny_bind<|wpAny_bind<|PySem.W.kas_mapM (r:=.type "tuple") _ (λv hv Q' hq=>(hT v hv).here hq)<|wpAny_pure ?_;cases p with
  |@cons v _ vs _ _ _=>
   have hall:((Wbh (λ_=>Value.type "tuple") (v::vs)).toArray.all λx=>x == Value.type "tuple")=true:=by
    simp only[List.all_toArray,List.all_map,Wbz];intro _ _;exact(by decide:(Value.type "tuple" == Value.type "tuple")=true)
   have h0:(Wbh (λ_=>Value.type "tuple") (v::vs)).toArray[0]?=some (Value.type "tuple"):=by simp
   rw[h0];simp only[hall,if_true];exact wpAny_pure<|wpAny_pure h
theorem Zlv {vs:List Value}{rs:List (List Int)}{Q:SortKind->Shared->Prop}(p:Paired (RowAt s.heap) vs rs) (hne:∀r∈rs,r≠[]) (h1:rs≠[]) (h:Q (tuples' true) s):wpAny (model prog w) A (keyKind' vs.toArray) Q E s:=by
 have ex:∃fs:List Value,PySem.W.KatTups s.heap vs fs/\fs.length=rs.length/\∀v∈fs,PySem.W.Looks (model prog w) s.heap (typeOf v) (.type "int"):=by
  clear h h1
  induction p with
  |nil=>exact⟨[],trivial,rfl,λ_ h=>nomatch h⟩
  |@cons v r vs rs q t ih=>
   obtain⟨fs,k1,k2,k3⟩:=ih λr hr=>hne r<|Way _ hr;obtain⟨a,its,rfl,⟨o,ho,hc,n,hd⟩,hi⟩:=q;cases r with
   |nil=>exact absurd rfl (hne [] Wbc)
   |cons x l=>
    obtain⟨tk,us,rfl,_⟩:=Zby hi;refine⟨.int x tk::fs,.cons ho hc hd (by simp) k1,by rw[Wa2,Wa2,k2],λv hv=>?_⟩;rcases War.mp hv with e|hv
    ·subst e;exact .now
    ·exact k3 v hv
 obtain⟨fs,k1,k2,k3⟩:=ex;have hpos:0<rs.length:=List.length_pos_iff.mpr h1;exact PySem.W.kat_kind k1 (by omega) k3 (by decide) h
theorem Zq6 {v u:Value}{a b:List Int}{Q:Bool->Shared->Prop}(hu:A.units<cLine) (pa:RowAt s.heap u a) (pb:RowAt s.heap v b) (hle:rowLe a b) (h:Q false s):wpAny (model prog w) A (keyLt' oneType' v u) Q E s:=by
 obtain⟨l,its,rfl,⟨⟨c1,d1,dt1,sl1⟩,ho,hc,n,hd⟩,hi⟩:=pb;obtain⟨k,its2,rfl,⟨⟨c2,d2,dt2,sl2⟩,ho2,hc2,n2,hd2⟩,hi2⟩:=pa;simp only at hc hd hc2 hd2;subst hc hd hc2 hd2;rw[keyLt'_oneType,oneLt'_eq];simp only[if_true];refine wpAny_bind<|wpAny_cRoomFor hu ?_;refine wpAny_bind<|wpAny_callSpecialIfBound?_slot (T:="tuple") ⟨_,ho,rfl⟩ F.slot_tuple_lt<|call_meets F.slot_tuple_lt ⟨_,ho,rfl⟩ F.entry_tuple_lt (F.args_tuple_lt_2 _ _) (Zmc l k its.toArray its2.toArray n n2 d1 d2 sl1 sl2) ⟨ho,ho2,?_,?_⟩
 ·rcases hle with z|⟨x,y,s',t',rfl,rfl,hlt⟩
  ·subst z;rw[Zfl hi2];exact .inl rfl
  ·obtain⟨t1,us1,rfl,_⟩:=Zby hi
   obtain⟨t2,us2,rfl,_⟩:=Zby hi2;exact .inr ⟨y,x,t1,t2,us1,us2,rfl,rfl,hlt⟩
 ·exact wpAny_truthy_bool h
theorem Zq9 {v u:Value}{a b:List Int}{Q:Bool->Shared->Prop}(pa:RowAt s.heap u a) (pb:RowAt s.heap v b) (hne:a≠[]) (hle:rowLe a b) (h:Q false s):wpAny (model prog w) A (keyLt' (tuples' true) v u) Q E s:=by
 obtain⟨l,its,rfl,⟨o1,ho,hc,n,hd⟩,hi⟩:=pb;obtain⟨k,its2,rfl,⟨o2,ho2,hc2,n2,hd2⟩,hi2⟩:=pa;rcases hle with z|⟨x,y,s',t',rfl,rfl,hlt⟩
 ·exact absurd z hne
 ·obtain⟨t1,us1,rfl,_⟩:=Zby hi
  obtain⟨t2,us2,rfl,_⟩:=Zby hi2;refine PySem.W.kat_lt ho hd ho2 hd2 ?_;show PySem.W.KatLex prog w A true _ Q ((Value.int y t1,Value.int x t2)::us1.zip us2) 0 s;refine PySem.W.kat_cons<|EqAt.int_int y t1 x t2 prog w _ _ ?_;have e:(y == x)=false:=by rw[beq_eq_false_iff_ne];omega
  rw[e];refine PySem.W.kat_no ?_;refine oneLt_int ?_;rw[decide_eq_false (show ¬ y<x by omega)];exact h
end
section
variable {X:Cx}
def rInU (K:W.Frag) (neg:Bool):R2:=λx y H Q=>rIn K neg x y H Q\/(∃a o,y=.ref a/\DGet H a x o/\Q (.bl (if neg then !o.isSome else o.isSome)) H) ∨
 ∃a S n i,y=.ref a/\x=.int i/\H a=some (.set S n)/\Q (.bl (if neg then !S i else S i)) H
theorem notinK (K:W.Frag) (hu:X.A.units+1<cLine) (hK:X.K=K:=by rfl):OpR X (compareOp .NotIn) (rInU K true):=by
 subst hK;intro pins s σ H x y v u Q I rx ry h;rcases h with h|⟨a,o,rfl,hd,q⟩|⟨a,S,n,i,rfl,rfl,hs,q⟩
 ·exact Zii pins s σ H x y v u Q I rx ry h
 ·cases ry
  exact Zsb hu I hd rx λs' I'=>⟨.bl _,H,I',rfl,q⟩
 ·cases ry
  obtain⟨t,rfl⟩:=rx;exact wpAny_notInSet_of (knd:=intKind X.prog X.w) (k:=i) (by simp[intKind,Value.isInt]) rfl (I.hok a _ hs) ⟨.bl _,H,I.tok _,rfl,q⟩
def rSet0:List V->Hp->VK->Prop:=λxs H Q=>xs=[]/\∀p,H p=none->Q (.ref p) (upd H p (.set (λ_=>false) 0))
theorem Zoo:CallR X (.type "set") rSet0:=by
 intro pins s σ H xs us Q I r h;obtain⟨rfl,q⟩:=h;cases r;refine call_set_0 λled=>⟨.ref s.heap.objs.size,_,I.laid (t':=s.toks) (λ_ _ z=>Wab _ z) (Waf _) ?_,rfl,q _<|I.hok.fresh<|Waf _⟩;exact(setObjOf_fresh (knd:=intKind X.prog X.w) led).setOf (Wam _ rfl) (by decide)
def rSAdd:V->List V->Hp->VK->Prop:=λx vs H Q=>∃a S n i,x=.ref a/\vs=[.int i]/\H a=some (.set S n)/\n+1<4096/\Q .non (upd H a (.set (λk=>S k || decide (k=i)) (if S i then n else n+1)))
theorem Zsx:MtM X "set.add" rSAdd:=by
 intro pins s σ H x vs v us Q I rx rv h;obtain⟨a,S,n,i,rfl,rfl,hs,hn,q⟩:=h;cases rx;obtain⟨u,rfl,ru⟩:=rv.one;obtain⟨t,rfl⟩:=ru;have hS:s.heap.SetOf (intKind X.prog X.w) a S n:=I.hok a _ hs;refine call_set_add (knd:=intKind X.prog X.w) (k:=i) (by simp[intKind,Value.isInt]) rfl hS hn λh' sb hS'=>?_;refine⟨.non,_,Zjl I (by rw[hs];trivial) sb ?_ ?_,rfl,q⟩
 ·obtain⟨o,_,_,_,ho,_⟩:=hS';exact⟨o,ho⟩
 ·exact hS'
def rIndexL (K:W.Frag):V->List V->Hp->VK->Prop:=λx vs H Q=>∃(a:Addr) (ns:List Int) (i:Int),x=.ref a/\vs=[.int i]/\SqL K H a (ns.map V.int)/\ns.length<=1000/\i∈ns/\Q (.int (ns.idxOf i:Nat)) H
theorem idxLK (K:W.Frag) (hK:X.K=K:=by rfl):MtM X "list.index" (rIndexL K):=by
 subst hK;intro pins s σ H x vs v us Q I rx rv h;obtain⟨a,ns,i,rfl,rfl,hx,hl,hm,q⟩:=h;cases rx;obtain⟨u,rfl,ru⟩:=rv.one;obtain⟨t,rfl⟩:=ru;obtain⟨its,r,pl,hz⟩:=I.list hx;have hi:=Zcy r;have hlen:=hi.length;obtain⟨⟨cls,dd,data,sl⟩,ho,hc,n,hd⟩:=pl.isList;simp only at hc hd;subst hc hd;have hj:ns.idxOf i<ns.length:=List.idxOf_lt_length_iff.mpr hm;refine call_meets PySem.F.slot_list_index ⟨_,ho,rfl⟩ PySem.F.entry_list_index (PySem.F.args_list_index_2 _ _)
  (list_indexAt a its.toArray n dd sl (.int i t) (isInt i) (ns.idxOf i) (by simpa [hlen] using hj) (by omega) ?_ ?_) ⟨ho,λy hy=>(eq_isInt i t hi y (by simpa using hy)).at _ _,⟨.int _,H,I.tok _,⟨_,rfl⟩,q⟩⟩
 ·show isInt i its[ns.idxOf i]=true
  rw[isInt_at i hi _ (by omega) hj];simpa using List.getElem_idxOf hj
 ·intro j hjs hlt
  show isInt i its[j]=false;rw[isInt_at i hi j (by simpa using hjs) (by omega)];exact ne_of_lt_idxOf hlt _
def rSortR (K:W.Frag):List V->Hp->VK->Prop:=λxs H Q=>∃p us rs,xs=[.ref p]/\SqL K H p us/\us.length<200/\Paired (λ(u:V) (r:List Int)=>∃a,u=.ref a/\SqT K H a (r.map V.int)) us rs/\Asc rs/\∀l,H l=none->Q (.ref l) (upd H l (.lst us))
theorem Zoa {pins:List (Addr × Obj)}{σ:St}{H:Hp}{s:Shared}(I:Inv X pins σ H s):∀{us:List V}{its:List Value}{rs:List (List Int)},Vals us its->Paired (λ(u:V) (r:List Int)=>∃a,u=.ref a/\SqT X.K H a (r.map V.int)) us rs->Paired (RowAt s.heap) its rs
 |_,_,_,.nil,.nil=>.nil
 |_,_,_,.cons r t,.cons p q=>by
  obtain⟨a,rfl,hs⟩:=p;cases r;obtain⟨its,r',pl,_⟩:=I.tuple hs;exact .cons ⟨a,its,rfl,pl,Zcy r'⟩<|Zoa I t q
theorem Paired.getD {R:Value->List Int->Prop}:∀{vs:List Value}{rs:List (List Int)}{i:Nat},Paired R vs rs->i<vs.length->∃r,rs[i]?=some r/\R (vs.getD i .none) r
 |_,_,0,.cons p _,_=>⟨_,rfl,p⟩
 |_,_,i+1,.cons _ t,h=>by
  obtain⟨r,h1,h2⟩:=Paired.getD (i:=i) t (by simpa using h);exact⟨r,by simpa using h1,by simpa using h2⟩
theorem Paired.len {R:Value->List Int->Prop}:∀{vs:List Value}{rs:List (List Int)},Paired R vs rs->vs.length=rs.length
 |_,_,.nil=>rfl
 |_,_,.cons _ t=>by rw[Wa2,Wa2,Paired.len t]
theorem Paired.up {R R':Value->List Int->Prop}(f:∀v r,R v r->R' v r):∀{vs:List Value}{rs:List (List Int)},Paired R vs rs->Paired R' vs rs
 |_,_,.nil=>.nil
 |_,_,.cons p t=>.cons (f _ _ p) (Paired.up f t)
theorem Zwd {rs:List (List Int)}(h:Asc rs) (h0:∀r,rs[0]?=some r->r≠[]):∀r∈rs,r≠[]:=by
 have all:∀(i:Nat) r,rs[i]?=some r->r≠[]:=by
  intro i
  induction i with
  |zero=>exact h0
  |succ i ih=>
   intro b hb;have hi:i<rs.length:=by have:=(Wag.mp hb).1;omega
   have ha:=Waa hi;rcases h i _ b ha hb with z|⟨x,y,s,t,_,e,_⟩
   ·exact absurd z<|ih _ ha
   ·rw[e];exact List.cons_ne_nil _ _
 intro r hr;obtain⟨i,hi⟩:=Wc1.mp hr;exact all i r hi
theorem sortRK (K:W.Frag) (hu:X.A.units+8<cLine) (hK:X.K=K:=by rfl):CallR X (.builtin "sorted") (rSortR K):=by
 subst hK;intro pins s σ H xs us Q I r h;obtain⟨p,ys,rs,rfl,hx,hl,hp,ha,q⟩:=h;obtain⟨u,rfl,ru⟩:=vals1 r;cases (show u=Value.ref p from ru);obtain⟨its,w1,p1,hz⟩:=I.list hx;have pr:=Zoa I w1 hp;have hlen:=w1.length;have hrl:=Paired.len pr;have fin:EP X pins σ Q (.ref<|s.heap.objs.size+1) { s with heap:=sortedAll s.heap its its.toArray }:=by
  obtain⟨e,he⟩:=sortedAll_at s.heap its its.toArray;refine⟨.ref<|s.heap.objs.size+1,_,I.laid (t':=s.toks) (λ_ _ z=>sortedAll_old z) (Wca _) (show ObjOk X.prog X.w _ _ _ (.lst ys) from ⟨hz,its,e,w1,he⟩),rfl,q _<|I.hok.fresh<|Wca _⟩
 have hu2:X.A.in1.in1.units<cLine:=Wb2 (by show X.A.units+1+1<=X.A.units+8;omega) hu;have cmp:∀i,1<=i->i<its.length->∃a b,rs[i-1]?=some a/\RowAt s.heap (its.getD (i-1) .none) a/\RowAt s.heap (its.getD i .none) b/\rowLe a b:=λi h1 hi=>by
  obtain⟨a,ha1,ha2⟩:=Paired.getD (i:=i-1) pr (by omega);obtain⟨b,hb1,hb2⟩:=Paired.getD (i:=i) pr hi;exact⟨a,b,ha1,ha2,hb2,ha (i-1) a b ha1 (by rw[show i-1+1=i by omega];exact hb1)⟩
 by_cases h0:rs[0]?=some []
 ·refine Zgs (κ:=oneType') p1.isList (by omega) (λ_ h' k E Q hq=>?_) (λh' k i h1 hi E Q hq=>?_) fin
  ·cases rs with
   |nil=>cases h0
   |cons r0 rs=>
    have:r0=[]:=by simpa using h0
    subst this;exact Zlx (s:={ s with heap:=h' }) (Paired.up (λv r z=>z.keep k) pr) hq
  ·obtain⟨a,b,_,c1,c2,c3⟩:=cmp i h1 hi
   exact Zq6 (s:={ s with heap:=h' }) hu2 (c1.keep k) (c2.keep k) c3 hq
 ·have hne:∀r∈rs,r≠[]:=Zwd ha λr hr e=>h0 (by rw[hr,e])
  refine Zgs (κ:=tuples' true) p1.isList (by omega) (λh2 h' k E Q hq=>?_) (λh' k i h1 hi E Q hq=>?_) fin
  ·exact Zlv (s:={ s with heap:=h' }) (Paired.up (λv r z=>z.keep k) pr) hne (by intro z;subst z;rw[List.length_nil]at hrl;omega) hq
  ·obtain⟨a,b,c0,c1,c2,c3⟩:=cmp i h1 hi
   exact Zq9 (s:={ s with heap:=h' }) (c1.keep k) (c2.keep k) (hne a<|Wax c0) c3 hq
end
section
variable {K:W.Frag}{Δ:Evt}{P:D->Evt->Prop}
theorem Zul {neg:Bool}{n:Nat}{ta:TE}(h:JE K ta Δ λd Δ1=>∃x S m i,Δ1[n]?=some x/\x.od=some (.set S m)/\d=.int i/\P (.bl (if neg then !S i else S i)) Δ1):JE K (tOp (rInU K neg) ta<|tVar n) Δ P:=λg G H σ Q k c=>
 h g G H σ _ k λv d G1 H1 Δ1 k1 s1 r1 hq_=>by
  obtain⟨x,S,m,i,q1,q2,q3,p⟩:=hq_;subst q3;cases r1.inv;obtain⟨a,o,w1,w2,w3,w4,w5⟩:=k1.own n x _ q1 q2;cases o with
  |set S' m'=>
   obtain⟨e1,e2⟩:S'=S/\m'=m:=w3;subst e1 e2;exact⟨.ref a,w1,.inr (.inr ⟨a,S',m',i,rfl,rfl,w2,c _ _ G1 H1 Δ1 k1 s1 (.bl _) p⟩)⟩
  |_=>exact absurd w3 (λz=>z)
theorem Zt2 {Po:OD->Evt->Prop}(p:Po (.set (λ_=>false) 0) Δ):JO K (tCB rSet0 tNil) Δ Po:=λg G H σ Q k c=>by
 refine⟨rfl,λl hl=>?_⟩;obtain⟨k2,pd⟩:=k.fresh (od:=.set (λ_=>false) 0) hl (show OwnRep K G (.set (λ_=>false) 0) (.set (λ_=>false) 0) from ⟨rfl,rfl⟩);exact c l _ G _ Δ k2 (Same.refl _) pd p
theorem Ztx {n:Nat}{te:TE}{x:Slot}{S0:Int->Bool}{n0:Nat}{nx bk ct:Evt->Prop}{rt:D->Evt->Prop}{ro:OD->Evt->Prop}(hx:Δ[n]?=some x) (ho:x.od=some (.set S0 n0))
  (h:JE K te Δ λd Δ1=>∃y S m i,Δ1[n]?=some y/\y.od=some (.set S m)/\d=.int i/\m+1<4096/\nx (Δ1.set n<|y.put (.set (λk=>S k || decide (k=i)) (if S i then m else m+1)))) :
  JS K (tDrop<|tBM K "set" rSAdd (tVar n)<|tCons te tNil) Δ ⟨nx,rt,bk,ct,ro⟩:=λg G H σ E k c=>by
 obtain⟨a,o,h1,h2,h3,h4,h5⟩:=k.own n x _ hx ho;cases o with
 |set S1 n1=>
  refine⟨.ref a,h1,.inr (.inr (.inr ⟨rfl,_,_,h2⟩)),h g G H σ _ k λv d G1 H1 Δ1 k1 s1 r1 ⟨y,S,m,i,q1,q2,q3,q4,p⟩=>?_⟩;subst q3;cases r1.inv;obtain⟨a',o',w1,w2,w3,w4,w5⟩:=k1.own n y _ q1 q2;rw[h1]at w1;cases w1;cases o' with
  |set S' m'=>
   obtain⟨e1,e2⟩:S'=S/\m'=m:=w3;subst e1 e2;exact⟨a,S',m',i,rfl,rfl,w2,q4,c.nx σ G1 _ _ (k1.write q1 q2 h1 (show OwnRep K G1 (.set _ _) (.set _ _) from ⟨rfl,rfl⟩)) p⟩
  |_=>exact absurd w3 (λz=>z)
 |_=>exact absurd h3 (λz=>z)
theorem Zo5 {to te:TE}(h:JE K to Δ λd Δ1=>∃ns:List Int,d=.lst (ns.map D.int)/\ns.length<=1000/\JE K te Δ1 λe Δ2=>∃i,e=.int i/\i∈ns/\P (.int (ns.idxOf i:Nat)) Δ2) :
  JE K (tBM K "list" (rIndexL K) to<|tCons te tNil) Δ P:=λg G H σ Q k c=>
 h g G H σ _ k λv d G1 H1 Δ1 k1 s1 r1 hq_=>by
  obtain⟨ns,e,hl,p1⟩:=hq_;subst e;obtain⟨a,vs,rfl,ha,rs⟩:=r1.inv
  next=>
   refine⟨.inl ⟨rfl,_,SqL.of<|k1.live _ _ ha⟩,p1 g G1 H1 σ _ k1 λu e G2 H2 Δ2 k2 s2 r2 ⟨i,q1,q2,p⟩=>?_⟩;subst q1;cases r2.inv;have ev:vs=ns.map V.int:=rs.ints;subst ev;exact⟨a,ns,i,rfl,rfl,SqL.of<|k2.live _ _<|s2 _ _ ha,hl,q2,c _ _ G2 H2 Δ2 k2 (s1.trans s2) (.int _) p⟩
def rowD (r:List Int):D:=.tup<|r.map D.int
theorem Zkq {G H:Hp}(l:Same G H):∀{vs:List V}{rs:List (List Int)},Reps K G vs (rs.map rowD)->Paired (λ(u:V) (r:List Int)=>∃a,u=.ref a/\SqT K H a (r.map V.int)) vs rs
 |[],[],_=>.nil
 |[],_::_,h=>by cases h
 |_::_,[],h=>by cases h
 |v::vs,r::rs,h=>by
  cases h with
  |cons r1 t=>
   obtain⟨a,us,rfl,ha,rr⟩:=r1.inv
   next=>
    have ev:=rr.ints;subst ev;exact .cons ⟨a,rfl,SqT.of<|l _ _ ha⟩<|Zkq l t
theorem Zqn {ta:TA}{Po:OD->Evt->Prop}(h:JA K ta Δ λds Δ1=>∃rs:List (List Int),ds=[.lst (rs.map rowD)]/\rs.length<200/\Asc rs/\Po (.lst<|rs.map rowD) Δ1):JO K (tCB (rSortR K) ta) Δ Po:=λg G H σ Q k c=>
 h g G H σ _ k λvs ds G1 H1 Δ1 k1 s1 r1 hq_=>by
  obtain⟨rs,e,hl,ha,p⟩:=hq_;subst e;obtain⟨_,_,rfl,r,t⟩:=r1.inv
  next=>
   cases t.inv;obtain⟨a,us,rfl,ha',rr⟩:=r.inv
   next=>
    have hlen:=rr.length;rw[Wac]at hlen;refine⟨a,us,rs,rfl,SqL.of<|k1.live _ _ ha',by omega,Zkq k1.live rr,ha,λl hl=>?_⟩;obtain⟨k2,pd⟩:=k1.fresh (od:=.lst<|rs.map rowD) hl (show OwnRep K G1 (.lst us) (.lst<|rs.map rowD) from rr);exact c l _ G1 _ Δ1 k2 s1 pd p
end
theorem Ztw {A:Around}{k:Nat}(hr:Room k A):A.units+8<cLine:=Wb2 (Wdp (by decide:8<=64) _) hr.units
open PySem PySem.Spec PyProof.Rows PySem.SeqAt
section
variable {X:Cx}
theorem Zdx:∀{vs:List Value}{ns:List Int},vs.length=ns.length->(∀(i:Nat) v,vs[i]?=some v->∃t,v=.int (ns.getD i 0) t)->IntsAre vs ns
 |[],[],_,_=>.nil
 |[],_::_,h,_=>by simp at h
 |_::_,[],h,_=>by simp at h
 |v::vs,n::ns,h,g=>by
  obtain⟨t,rfl⟩:=g 0 v rfl;exact .cons n t (Zdx (by simpa using h) λi u e=>by simpa using g (i+1) u (by simpa using e))
def tLR (ta:TA):TE:=λσ H Q=>ta σ H λvs H1=>∃n:Nat,vs=[.int (n:Int)]/\n<=1000/\∀l,H1 l=none->Q (.ref l) (upd H1 l (.lst ((Wak n).map λi:Nat=>V.int (i:Int))))
theorem Zi4 {a:Expr}{ta:TA}{p p2 pos pos2:Pos}(hc:X.calm=true) (hgL:Gl X "list") (hmL:X.mg "list" = none) (hgR:Gl X "range") (hmR:X.mg "range" = none) (ha:PA X [a] ta) (hs:starEach [a] X.env=[(false,eval a X.env)]:=by rfl)
  (he:starEach [.Call (.Name "range" p2) [a] [] pos2] X.env=[(false,eval (.Call (.Name "range" p2) [a] [] pos2) X.env)]:=by rfl) :
  PE X (.Call (.Name "list" p) [.Call (.Name "range" p2) [a] [] pos2] [] pos) (tLR ta):=by
 intro pins s σ H Q I h;refine wpAny_Call_Name_kw<|Zdw I hgL hmL Zt0 ?_;refine PyProof.Rows.callWith_type1 ?_ he rfl;rw[he];show wpAny _ _ (spliced ((false,eval (.Call (.Name "range" p2) [a] [] pos2) X.env)::backTo pos [])) _ _ s;refine Calls.spliced_cons ?_;refine Call_<|Zdw I hgR hmR boot_range<|PyProof.Rows.callWith_type1 (thn (ha pos2 pins s σ H _ I h) λus s1 ⟨vs,H1,I1,r1,q1⟩=>?_) hs rfl;obtain⟨n,e,hn,q⟩:=q1;subst e;cases r1 with
 |cons r rr=>
  cases rr;obtain⟨t,rfl⟩:=r;refine call_range_1<|Calls.spliced_nil ?_;have I2:Inv X pins σ H1 { s1 with heap:=s1.heap.push { cls:=.type "range",data:=.fields #[.int 0 s1.toks,.int (n:Int) t,.int 1 (s1.toks+1)] },toks:=s1.toks+1+1 }:=I1.kept λb o e=>Wab _ e;refine call_list_range (a:=0) (b:=(n:Int)) (c:=1) (n:=n) (I1.ok.hd hc) (IsRange.new ..) (small_one (by decide) (by decide) (by omega)<|by omega) (by rw[rangeSize_one];split <;> omega) (by omega) λh' tk acc c' hk hD hI=>?_
  have hl:acc.size=n:=hI.1;refine⟨.ref _,_,I2.laid (t':=tk) hk (Waf _) (show ObjOk X.prog X.w _ h' _ (.lst ((Wak n).map λi:Nat=>V.int (i:Int))) from ⟨?_,acc.toList,c',?_,?_⟩),rfl,q _<|I2.hok.fresh<|Waf _⟩
  ·rw[Wac,Wbd];exact Wb8<|small1000 hn
  ·have:IntsAre acc.toList ((Wak n).map λi:Nat=>(i:Int)):=by
    refine Zdx (by rw[Array.length_toList,hl,Wac,Wbd]) λi v e=>?_;have hi:i<n:=by
     have:=(Wag.mp e).1;rw[Array.length_toList,hl]at this;exact this
    obtain⟨t',rfl⟩:=hI.2 i v (by rw[<- Array.getElem?_toList];exact e);refine⟨t',?_⟩;rw[Wad,Wah,Wdn hi];show Value.int (0+(i:Int)*1) t'=Value.int (i:Int) t';rw[Wbj,Int.mul_one]
   have:=Zej this;rw[Wba]at this;exact this
  ·rw[Array.toArray_toList];exact hD
end
section
variable {K:W.Frag}{Δ:Evt}{P:D->Evt->Prop}
theorem Zwu {ta:TA}{Po:OD->Evt->Prop}(h:JA K ta Δ λds Δ1=>∃n:Nat,ds=[.int (n:Int)]/\n<=1000/\Po (.lst ((Wak n).map λi:Nat=>D.int (i:Int))) Δ1):JO K (tLR ta) Δ Po:=λg G H σ Q k c=>
 h g G H σ _ k λvs ds G1 H1 Δ1 k1 s1 r1 hq_=>by
  obtain⟨n,e,hl,p⟩:=hq_;subst e;obtain⟨_,_,rfl,r,t⟩:=r1.inv
  next=>
   cases t.inv;cases r.inv;refine⟨n,rfl,hl,λl hl=>?_⟩;obtain⟨k2,pd⟩:=k1.fresh (od:=.lst ((Wak n).map λi:Nat=>D.int (i:Int))) hl (show OwnRep K G1 (.lst ((Wak n).map λi:Nat=>V.int (i:Int))) (.lst ((Wak n).map λi:Nat=>D.int (i:Int))) from by
    have:=Reps.ofInts (K:=K) (G:=G1) ((Wak n).map λi:Nat=>(i:Int));rw[Wba,Wba]at this;exact this)
   exact c l _ G1 _ Δ1 k2 s1 pd p
end
open PySem PySem.Spec PyProof.Rows PySem.SeqAt
def Ris (xs:Array Nat):Prop:=∀(i j a b:Nat),i<j->xs[i]?=some a->xs[j]?=some b->a<b
theorem Zhu (xs:Array Nat) (R:Ris xs) (j:Nat):∀(fuel lo hi:Nat),hi-lo<=fuel->lo<=hi->hi<=xs.size->(∀(i a:Nat),i<lo->xs[i]?=some a->a<j)->(∀(i a:Nat),hi<=i->xs[i]?=some a->j<=a) →
  SetTable.below.go xs j fuel lo hi<=xs.size/\(∀(i a:Nat),i<SetTable.below.go xs j fuel lo hi->xs[i]?=some a->a<j)/\∀(i a:Nat),SetTable.below.go xs j fuel lo hi<=i->xs[i]?=some a->j<=a
 |0,lo,hi,h1,h2,h3,h4,h5=>by
  have:lo=hi:=by omega
  subst this;show lo<=xs.size/\_;exact⟨h3,h4,h5⟩
 |fuel+1,lo,hi,h1,h2,h3,h4,h5=>by
  unfold SetTable.below.go;by_cases hlt:lo<hi
  ·rw[if_pos hlt]
   dsimp only;have hm:(lo+hi) / 2<xs.size:=by omega
   have hg:xs.getD ((lo+hi) / 2) j=xs[(lo+hi) / 2]:=by simp[Array.getD,hm]
   by_cases hc:xs.getD ((lo+hi) / 2) j<j
   ·rw[if_pos hc]
    refine Zhu xs R j fuel _ _ (by omega) (by omega) h3 (λi a hi' e=>?_) h5;by_cases hi2:i=(lo+hi) / 2
    ·subst hi2
     rw[Array.getElem?_eq_getElem hm]at e;cases e;omega
    ·have:=R i ((lo+hi) / 2) a _ (by omega) e (Array.getElem?_eq_getElem hm)
     omega
   ·rw[if_neg hc]
    refine Zhu xs R j fuel _ _ (by omega) (by omega) (by omega) h4 λi a hi' e=>?_;by_cases hi2:i=(lo+hi) / 2
    ·subst hi2
     rw[Array.getElem?_eq_getElem hm]at e;cases e;omega
    ·have:=R ((lo+hi) / 2) i _ a (by omega) (Array.getElem?_eq_getElem hm) e
     omega
  ·rw[if_neg hlt]
   have:lo=hi:=by omega
   subst this;exact⟨h3,h4,h5⟩
theorem Zgu {xs:Array Nat}(R:Ris xs) (j:Nat):SetTable.below xs j<=xs.size/\(∀(i a:Nat),i<SetTable.below xs j->xs[i]?=some a->a<j)/\∀(i a:Nat),SetTable.below xs j<=i->xs[i]?=some a->j<=a:=
 Zhu xs R j xs.size 0 xs.size (by omega) (Wb1 _) (Waf _) (λi a h=>by omega) λi a h e=>by
  have:=(Array.getElem?_eq_some_iff.mp e).1;omega
theorem Zhc {α:Type}(xs:Array α) (p:Nat) (x:α) (h:p<=xs.size):(SetTable.insertAt xs p x).toList=xs.toList.take p++x::xs.toList.drop p:=by
 unfold SetTable.insertAt;rw[Array.toList_append,Array.toList_push,Array.toList_extract,Array.toList_extract];simp[List.extract_eq_take_drop,Wck];rw[Wcx (by simp)]
theorem Zi3 {α:Type}(xs:Array α) (p:Nat) (x:α) (h:p<=xs.size) (i:Nat):(SetTable.insertAt xs p x)[i]?=if i<p then xs[i]? else if i=p then some x else xs[i-1]?:=by
 rw[<- Array.getElem?_toList,Zhc xs p x h];by_cases h1:i<p
 ·rw[if_pos h1,Wa9 (by rw[Wbu,Array.length_toList];omega),Wc9 h1,Array.getElem?_toList]
 ·rw[if_neg h1,Wav (by rw[Wbu,Array.length_toList];omega),Wbu,Array.length_toList,Nat.min_eq_left h]
  by_cases h2:i=p
  ·rw[if_pos h2,h2,Nat.sub_self];rfl
  ·rw[if_neg h2,show i-p=(i-1-p)+1 by omega,List.getElem?_cons_succ,List.getElem?_drop,Array.getElem?_toList,show p+(i-1-p)=i-1 by omega]
theorem Zs4 {xs:Array Nat}(R:Ris xs) {j:Nat}(hj:xs[SetTable.below xs j]?≠some j):Ris (SetTable.insertAt xs (SetTable.below xs j) j):=by
 obtain⟨b1,b2,b3⟩:=Zgu R j;have b4:∀(i a:Nat),SetTable.below xs j<=i->xs[i]?=some a->j<a:=λi a h e=>by
  have h1:=b3 i a h e;by_cases hi:i=SetTable.below xs j
  ·subst hi
   rcases Nat.lt_or_eq_of_le h1 with z|z
   ·exact z
   ·subst z;exact absurd e hj
  ·obtain⟨s1,s2⟩:=Array.getElem?_eq_some_iff.mp e
   have hlt:SetTable.below xs j<xs.size:=by omega
   have h2:=b3 _ _ (Waf _)<|Array.getElem?_eq_getElem hlt;have:=R (SetTable.below xs j) i _ a (by omega) (Array.getElem?_eq_getElem hlt) e;omega
 intro i k a b hik ha hb;rw[Zi3 _ _ _ b1]at ha hb;split at ha
 ·split at hb
  ·exact R i k a b hik ha hb
  ·split at hb
   ·cases hb;exact b2 i a (by omega) ha
   ·exact R i (k-1) a b (by omega) ha hb
 ·split at ha
  ·cases ha
   rw[if_neg (by omega),if_neg (by omega)]at hb;exact b4 (k-1) b (by omega) hb
  ·rw[if_neg (by omega),if_neg (by omega)]at hb
   exact R (i-1) (k-1) a b (by omega) ha hb
theorem Ztf:Ris #[]:=λi j a b _ e=>by simp at e
theorem Zn2 (n:Nat):Ris (Array.range n):=λi j a b h e1 e2=>by
 simp[Array.getElem?_range]at e1 e2;omega
structure TabOk (led:Bool) (t:SetTable):Prop where
 led:t.led=led
 dum:t.dummies = #[]
 ris:Ris t.place
theorem TabOk.fresh (led:Bool):TabOk led (SetTable.fresh 0 0 led):=⟨rfl,rfl,Ztf⟩
theorem TabOk.standIn {led:Bool}{t:SetTable}(h:TabOk led t) (n:Nat):TabOk led (t.standIn n):=⟨h.led,rfl,Zn2 n⟩
theorem Zm4 (j:Nat):SetTable.has #[] j=false:=by unfold SetTable.has;simp
theorem Zfw {t:SetTable}(hd:t.dummies = #[]) {hashAt:Nat->Int}{h:Int}:∀(fuel:Nat) (p:SetTable.Probe) {j:Nat}{dm:Option Nat},p.dummy=none->SetTable.probe.go t hashAt h fuel p=some (.empty j dm)->dm=none/\t.place[SetTable.below t.place j]?≠some j
 |0,_,_,_,_,e=>by cases e
 |fuel+1,p,j,dm,hp,e=>by
  unfold SetTable.probe.go at e;have adv:(t.advance p).dummy=none:=by unfold SetTable.advance;split <;> exact hp
  unfold SetTable.slot at e;dsimp only at e;by_cases hl:(t.place[SetTable.below t.place p.j]? == some p.j)=true
  ·rw[if_pos hl]at e
   dsimp only at e;split at e
   ·cases e
   ·exact Zfw hd fuel _ adv e
  ·rw[if_neg hl,hd,Zm4]at e
   simp only[Wa7,if_false]at e;injection e with e
   injection e with e1 e2
   subst e1 e2;exact⟨hp,λz=>hl (by rw[z];simp)⟩
theorem TabOk.put {led:Bool}{t:SetTable}(h:TabOk led t) {j:Nat}(hj:t.place[SetTable.below t.place j]?≠some j):TabOk led (t.put j).1:=by
 refine⟨h.led,?_,Zs4 h.ris hj⟩;show (if SetTable.has t.dummies j=true then _ else t.dummies) = #[];rw[h.dum,Zm4];rfl
theorem TabOk.layNew {led:Bool}{t:SetTable}(h:TabOk led t) (es:Array (Int × Value)) (hs:Int) (x:Value):TabOk led (layNew t es hs x).2.1:=by
 unfold PySem.layNew;unfold SetTable.freeSlot;cases q:t.probe (λ_=>hs+1) hs (t.probeStart hs) with
 |none=>exact h.standIn _
 |some m=>
  cases m with
  |candidate j i p=>exact h.standIn _
  |empty j dm=>
   obtain⟨e1,e2⟩:=Zfw h.dum _ (t.probeStart hs) rfl (show SetTable.probe.go t (λ_=>hs+1) hs (10*SetTable.turns t.mask) (t.probeStart hs)=some (.empty j dm) from q);subst e1;show TabOk led ((t.put j).1.orStandIn _);unfold SetTable.orStandIn;split
   ·exact h.put e2
   ·exact(h.put e2).standIn _
theorem Zqc (owner:Array (Option Nat)) (m:Nat):Ris ((((Wak m).filterMap λj=>(owner.getD j none).map (j,·)).map (·.1)).toArray):=by
 have pw:((Wak m).filterMap λj=>(owner.getD j none).map (j,·)).Pairwise (λa b=>a.1<b.1):=by
  rw[List.pairwise_filterMap];refine List.Pairwise.imp ?_ Wb6;intro a b hab c hc d hd;cases qa:owner.getD a none with
  |none=>rw[qa]at hc;cases hc
  |some k=>
   cases qb:owner.getD b none with
   |none=>rw[qb]at hd;cases hd
   |some l=>
    rw[qa]at hc;rw[qb]at hd;have hc:(a,k)=c:=by simpa using hc
    have hd:(b,l)=d:=by simpa using hd
    subst hc hd;exact hab
 intro i j a b hij ea eb;rw[Wc2,Wah]at ea eb;cases qa:((Wak m).filterMap λj=>(owner.getD j none).map (j,·))[i]? with
 |none=>rw[qa]at ea;cases ea
 |some c=>
  cases qb:((Wak m).filterMap λj=>(owner.getD j none).map (j,·))[j]? with
  |none=>rw[qb]at eb;cases eb
  |some d=>
   rw[qa]at ea;rw[qb]at eb;have ea:c.1=a:=by simpa using ea
   have eb:d.1=b:=by simpa using eb
   subst ea eb;obtain⟨i1,i2⟩:=Wag.mp qa;obtain⟨j1,j2⟩:=Wag.mp qb;have:=Wcn.mp pw i j i1 j1 hij;rw[i2,j2]at this;exact this
theorem TabOk.relay {led:Bool}{t:SetTable}(h:TabOk led t) (es:Array (Int × Value)) (wanted:Nat):TabOk led (relayAll t es wanted).2.1:=by
 unfold PySem.relayAll;cases q:t.relaid (es.map (·.1)) wanted with
 |none=>exact h.standIn _
 |some r=>
  obtain⟨t',order⟩:=r;dsimp only;split
  ·unfold SetTable.relaid SetTable.laid at q
   cases q2:SetTable.layClean (SetTable.sizeAbove wanted-1) (es.map (·.1)) with
   |none=>rw[q2]at q;cases q
   |some owner=>
    rw[q2]at q;have q:_=some (t',order):=q;have e:=congrArg Prod.fst<|Wa5.inj q;dsimp only at e;rw[<- e];exact⟨h.led,rfl,Zqc owner _⟩
  ·exact h.standIn _
def numOf:Value->Int
 |.int i _=>i
 |_=>0
section
variable {prog:Program}{w:World}
def byTextB (w:World):Bool:=w.params.followText "set-order"
structure SetG (prog:Program) (w:World) (h:Heap) (a:Addr) (o:Obj) (es:Array (Int × Value)) (ep:Nat) (t:SetTable) (ks:List Int):Prop where
 get:h.get? a=some o
 ex:o.ExactSet
 dat:o.data=.set es ep t
 el:ElemsOf (intKind prog w) es.toList
 room:es.size<scanBound
 fit:t.fits es.size=true
 tab:TabOk (!byTextB w) t
 perm:(es.toList.map λe=>numOf e.2).Perm ks
 nd:ks.Nodup
def SetI (prog:Program) (w:World) (h:Heap) (a:Addr) (ks:List Int):Prop:=∃o es ep t,SetG prog w h a o es ep t ks
theorem SetI.keep {h h':Heap}{a:Addr}{ks:List Int}(x:SetI prog w h a ks) (k:∀o,h.get? a=some o->h'.get? a=some o):SetI prog w h' a ks:=by
 obtain⟨o,es,ep,t,g⟩:=x;exact⟨o,es,ep,t,k _ g.get,g.ex,g.dat,g.el,g.room,g.fit,g.tab,g.perm,g.nd⟩
theorem SetG.size {h:Heap}{a:Addr}{o:Obj}{es:Array (Int × Value)}{ep:Nat}{t:SetTable}{ks:List Int}(g:SetG prog w h a o es ep t ks):es.size=ks.length:=by
 have:=g.perm.length_eq;rw[Wac,Array.length_toList]at this;exact this
theorem Zif {k:Int}{v:Value}(h:(intKind prog w).is k v=true):numOf v=k/\∃t,v=.int k t:=by
 obtain⟨t,rfl⟩:=Value.isInt_shape (show Value.isInt k v=true from h);exact⟨rfl,t,rfl⟩
theorem Zkz {es:List (Int × Value)}(h:ElemsOf (intKind prog w) es) {e:Int × Value}(he:e∈es):∃t,e.2=.int (numOf e.2) t:=by
 obtain⟨⟨k,hk,_⟩,_⟩:=h e he;obtain⟨h1,t,h2⟩:=Zif hk;exact⟨t,by rw[h2];rfl⟩
theorem Zml {es:List (Int × Value)}(h:ElemsOf (intKind prog w) es) {k:Int}:(∃e∈es,(intKind prog w).is k e.2=true)↔k∈es.map λe=>numOf e.2:=by
 rw[Wbk];constructor
 ·rintro⟨e,he,hp⟩;exact⟨e,he,(Zif hp).1⟩
 ·rintro⟨e,he,rfl⟩
  obtain⟨t,ht⟩:=Zkz h he;exact⟨e,he,by rw[ht];exact intKind_is _ _ _ _⟩
section
variable {A:Around}{E:Value->Shared->Prop}{s:Shared}
theorem SetG.store {h:Heap}{a:Addr}{o:Obj}{es:Array (Int × Value)}{ep:Nat}{t:SetTable}{ks:List Int}(g:SetG prog w h a o es ep t ks) {es':Array (Int × Value)}{t':SetTable}{ks':List Int}
  (hel:ElemsOf (intKind prog w) es'.toList) (hb:es'.size<scanBound) (hf:t'.fits es'.size=true) (ht:TabOk (!byTextB w) t') (hp:(es'.toList.map λe=>numOf e.2).Perm ks') (hn:ks'.Nodup) :
  SetG prog w (h.update a<|Obj.putSet es' t') a { o with data:=.set es' (ep+1) t' } es' (ep+1) t' ks':=by
 have hg:(h.update a<|Obj.putSet es' t').get? a=some { o with data:=.set es' (ep+1) t' }:=by
  have:=Wbl (Obj.putSet es' t') g.get (by rw[putSet_of es' t' g.dat];rfl);rw[putSet_of es' t' g.dat]at this;exact this
 exact⟨hg,g.ex,rfl,hel,hb,hf,ht,hp,hn⟩
def addE (ks:List Int) (k:Int):List Int:=if k∈ks then ks else ks++[k]
theorem Zqa {a:Addr}{ks:List Int}{k:Int}{tk:Tok}{Q:Bool->Shared->Prop}(hS:SetI prog w s.heap a ks) (hroom:ks.length+1<scanBound)
  (h:∀b h',Heap.SameBut a s.heap h' -> SetI prog w h' a (addE ks k)->Q b { s with heap:=h' }) :
  wpAny (model prog w) A (setAddHashed a (.int k tk)<|hashInt k) Q E s:=by
 obtain⟨o,es,ep,t,g⟩:=hS;have hsz:=g.size;have hkey:(intKind prog w).is k (.int k tk)=true:=intKind_is _ _ _ _;unfold setAddHashed setAddHashedIn;refine wpAny_holding<|wpAny_bind<|wpAny_setState_of g.get g.dat g.fit ?_;dsimp only;rw[byScan_of (knd:=intKind prog w) rfl g.room g.el];simp only[↓reduceIte];unfold setAddByScan;refine wpAny_bind ?_;refine wpAny_bind<|wpAny_rule ?_;refine wpAny_bind<|wpAny_setScan_of (knd:=intKind prog w) (k:=k) hkey g.get g.dat g.fit g.el ?_;cases hr:List.findIdx? (λe=>(intKind prog w).is k e.2) es.toList with
 |some j=>
  dsimp only;obtain⟨hj,hpj,_⟩:=List.findIdx?_eq_some_iff_getElem.mp hr;have hk:k∈ks:=g.perm.mem_iff.mp ((Zml g.el).mp ⟨es.toList[j],Wa4 hj,hpj⟩);refine wpAny_pure<|wpAny_pure ?_;have e:s = { s with heap:=s.heap }:=by cases s;rfl
  rw[e];refine h _ s.heap (Heap.SameBut.refl a s.heap) ?_;unfold addE;rw[if_pos hk];exact⟨o,es,ep,t,g⟩
 |none=>
  dsimp only;have hk:k ∉ ks:=λz=>by
   obtain⟨e,he,hp⟩:=(Zml g.el).mpr (g.perm.mem_iff.mpr z);have:=List.findIdx?_eq_none_iff.mp hr e he;rw[hp]at this;cases this
  have hgw:∀(b:Bool) {s₁:Shared}{Q':Unit->Shared->Prop},Q' () s₁ -> wpAny (model prog w) A (match b with|true=>rule "set.scan.the-table-gave-way" |false=>pure ()) Q' E s₁:=
   λb s₁ Q' hq=>by cases b <;> first|exact wpAny_pure hq|exact wpAny_rule hq
  have hperm:=layNew_perm t es (hashInt k) (.int k tk);have hfits:=layNew_fits t es (hashInt k) (.int k tk);have htab:=g.tab.layNew es (hashInt k) (.int k tk);generalize hL:layNew t es (hashInt k) (.int k tk)=L at hperm hfits htab ⊢;obtain⟨es1,t1,wasDummy,gave⟩:=L;dsimp only at hperm hfits htab ⊢;rw[Array.toList_push]at hperm;have hel1:ElemsOf (intKind prog w) es1.toList:=(g.el.push (k:=k) hkey rfl).perm hperm;have hsz1:es1.size=es.size+1:=by rw[<- Array.length_toList,hperm.length_eq,Wao,Array.length_toList];rfl
  have hb1:es1.size<scanBound:=by omega
  have hp1:(es1.toList.map λe=>numOf e.2).Perm (ks++[k]):=by
   refine(hperm.map _).trans ?_;rw[Wbg];exact List.Perm.append_right _ g.perm
  have hnd1:(ks++[k]).Nodup:=by
   rw[List.nodup_append];refine⟨g.nd,by simp,λa ha b hb e=>?_⟩;rw[Wbi.mp hb]at e;exact hk (e ▸ ha)
  have eadd:addE ks k=ks++[k]:=by unfold addE;rw[if_neg hk]
  refine wpAny_bind<|hgw _ ?_;have tail:∀(Q2:Option Bool->Shared->Prop),(∀h',Heap.SameBut a s.heap h' -> SetI prog w h' a (ks++[k])->Q2 (some true) { s with heap:=h' })->∀(g0:Bool->Sem Unit),(∀(b:Bool) (s₁:Shared) (Q':Unit->Shared->Prop),Q' () s₁ -> wpAny (model prog w) A (g0 b) Q' E s₁) →
    wpAny (model prog w) A (do
     storeSet a es1 t1
     if (!wasDummy && t1.tooFull)=true then do
       g0 (relayAll t1 es1<|SetTable.grown es1.size).2.2
       storeSet a (relayAll t1 es1<|SetTable.grown es1.size).1 (relayAll t1 es1<|SetTable.grown es1.size).2.1
       pure (some true)
      else pure (some true)) Q2 E s:=by
   intro Q2 hq g0 hg0;refine wpAny_bind<|wpAny_storeSet_of g.get g.dat ?_<|fits_of_scanBound hb1;have g1:=g.store (es':=es1) (t':=t1) hel1 hb1 hfits htab hp1 hnd1;have sb1:=Heap.SameBut.update s.heap a<|Obj.putSet es1 t1;split
   ·have hp:=relayAll_perm t1 es1 (SetTable.grown es1.size)
    have hfr:=relayAll_fits t1 es1<|SetTable.grown es1.size;have htr:=htab.relay es1<|SetTable.grown es1.size;generalize hRl:relayAll t1 es1 (SetTable.grown es1.size)=Rl at hp hfr htr ⊢;obtain⟨es2,t3,gave2⟩:=Rl;dsimp only at hp hfr htr ⊢;have hsz2:es2.size=es1.size:=by rw[<- Array.length_toList,hp.length_eq,Array.length_toList]
    refine wpAny_bind<|hg0 _ _ _ ?_;refine wpAny_bind (wpAny_storeSet_of g1.get rfl ?_<|fits_of_scanBound (by omega));have g2:=g1.store (es':=es2) (t':=t3) (hel1.perm hp) (by omega) hfr htr ((hp.map _).trans hp1) hnd1;exact wpAny_pure<|hq _ (sb1.trans<|Heap.SameBut.update _ a _) ⟨_,_,_,_,g2⟩
   ·exact wpAny_pure<|hq _ sb1 ⟨_,_,_,_,g1⟩
  have hgv:∀(b:Bool) (s₁:Shared) (Q':Unit->Shared->Prop),Q' () s₁ -> wpAny (model prog w) A (match b with|true=>rule "set.scan.the-table-gave-way" |false=>pure ()) Q' E s₁:=λb s₁ Q' hq=>hgw b hq;split
  ·refine wpAny_bind ?_
   rw[hashByValue_scannable 8 (x:=.int k tk) rfl];refine wpAny_pure ?_;simp only[plainKind,if_true];exact tail _ (λh' sb hS'=>by dsimp only;exact wpAny_pure<|h _ h' sb (by rw[eadd];exact hS')) _ hgv
  ·refine wpAny_bind (wpAny_pure ?_)
   simp only[↓reduceIte];exact tail _ (λh' sb hS'=>by dsimp only;exact wpAny_pure<|h _ h' sb (by rw[eadd];exact hS')) _ hgv
end
end
def metK (val:Nat->Int):Nat->List Int
 |0=>[]
 |i+1=>addE (metK val i) (val i)
theorem Zkc (val:Nat->Int) (i:Nat):(metK val i).length<=i:=by
 induction i with
 |zero=>exact Waf _
 |succ i ih=>
  show (addE (metK val i)<|val i).length<=i+1;unfold addE;split
  ·omega
  ·rw[Wao,Wch];omega
theorem Zp3 {val:Nat->Int}{i:Nat}{x:Int}:x∈metK val i ↔ ∃j,j<i/\val j=x:=by
 induction i with
 |zero=>simp[metK]
 |succ i ih=>
  show x∈addE (metK val i) (val i)↔_;unfold addE;constructor
  ·intro h
   split at h
   ·obtain⟨j,hj,e⟩:=ih.mp h;exact⟨j,by omega,e⟩
   ·rcases Wbn.mp h with h|h
    ·obtain⟨j,hj,e⟩:=ih.mp h;exact⟨j,by omega,e⟩
    ·exact⟨i,by omega,(Wbi.mp h).symm⟩
  ·rintro⟨j,hj,rfl⟩
   by_cases hji:j=i
   ·subst hji
    split
    ·assumption
    ·exact Waw _ (by simp)
   ·have:=ih.mpr ⟨j,by omega,rfl⟩
    split
    ·exact this
    ·exact Wcm _ this
section
variable {prog:Program}{w:World}{A:Around}{R:Result->Shared->Prop}{I:Addr}{fp wr:List Addr}{G:Array GenState->Array GenState->Prop}{n:Nat}{P:Nat->Value->Prop}{St:Nat->Shared->Prop}
theorem Zjw (W:WalksS prog w A.in1 I fp wr G n P St) (S:Addr) (hSf:S ∉ fp)
  (val:Nat->Int) (hval:∀i v,P i v->∃t,v=.int (val i) t) (hb:n+1<scanBound) :
  ∀(k i:Nat) (s:Shared),n-i=k->i<=n->St i s->SetI prog w s.heap S (metK val i) →
   (∀s',Moved (S::wr) G s s' -> SetI prog w s'.heap S (metK val n)->R (.ok (.ret .none)) s') →
   codeAny (model prog w) A (.builtin "set.update.loop" ⟨[.ref S,.ref I],[]⟩) R s:=by
 have hSw:S ∉ wr:=λh=>hSf<|W.sub _ h;have hsub:∀b∈wr,b∈S::wr:=λb hb=>Way _ hb;intro k
 induction k with
 |zero=>
  intro i s hk hi hst hS hR;have hin:i=n:=by omega
  subst hin;refine codeAny_builtin F.entry_set_update_loop ?_;rw[Around.under_plainId F.plain_set_update_loop _];show wpAny _ A.in1 (pyNext (.ref I) >>= _) _ _ s;refine wpAny_bind (W.done s _ _ hst λs' hm=>?_);show wpAny _ A.in1 (ret Value.none) _ _ s';exact wpAny_pure<|hR s' (hm.mono hsub) (hS.keep λo e=>hm.heap S o hSw e)
 |succ k ih=>
  intro i s hk hi hst hS hR;have hlt:i<n:=by omega
  refine codeAny_builtin F.entry_set_update_loop ?_;rw[Around.under_plainId F.plain_set_update_loop _];show wpAny _ A.in1 (pyNext (.ref I) >>= _) _ _ s;refine wpAny_bind (W.item i s _ _ hlt hst λv s' hP hst' hm=>?_);obtain⟨t,rfl⟩:=hval i v hP;have hS':SetI prog w s'.heap S (metK val i):=hS.keep λo e=>hm.heap S o hSw e;show wpAny _ A.in1 (holding [Value.int (val i) t] (setAdd S (.int (val i) t)) >>= _) _ _ s';refine wpAny_bind<|wpAny_holding ?_;unfold setAdd;refine wpAny_holding ?_;refine wpAny_bind ((intKind prog w).pyHash (k:=val i) (intKind_is _ _ _ _) ?_);have hroom:(metK val i).length+1<scanBound:=by have:=Zkc val i;omega
  refine Zqa (s:={ s' with toks:=s'.toks+1 }) hS' hroom λb h' hsb hS2=>?_;refine wpAny_pure ⟨plainId_quiet F.plain_set_update_loop _,ih (i+1) _ (by omega) hlt (W.frame _ s' _ _ hst' (Wca _) λb hb o e=>?_) hS2 λs'' hm'' hS''=>?_⟩
  ·rw[hsb.2 b (λh:b=S=>hSf (by rw[<- h];exact hb))];exact e
  ·refine hR s'' (Moved.trans W.gtrans ((hm.mono hsub).then_heap (Wca _) λb o hb e=>?_) hm'') hS''
   rw[hsb.2 b (λh:b=S=>hb (by rw[h];exact Wbc))];exact e
end
section
variable {prog:Program}{w:World}{A:Around}{E:Value->Shared->Prop}{s:Shared}
abbrev set0 (w:World):Obj:={ cls:=.type "set",dict:=none,data:=.set #[] 0 (.fresh 0 0 (!byTextB w)) }
theorem Zqt (x:Value) {N:Value->Shared->Prop}(h:N (.ref s.heap.objs.size) { s with heap:=s.heap.push (set0 w) }) :
  codeAny (model prog w) A (.call (.builtin "set.__new__") ⟨[.type "set",x],[]⟩) (wants N E) s:=
 codeAny_of_tree (by
  have su:=sub_set_self;obtain⟨hp,g,d,tk,os⟩:=s;refine wpAny_bind (m:=checkBuiltinCall "set.__new__" ⟨[.type "set",x],[]⟩)<|wpAny_of_eq (F.newCall_set_1 x)<|wpAny_pure ⟨plainId_quiet F.plain_set_new _,codeAny_builtin F.entry_set_new ?_⟩;rw[Around.under_plainId F.plain_set_new _];unfold Builtin.«set.__new__» Builtin.Frozenset.newClass
  wp_walk
  refine wpAny_askSetting (wpAny_pure ?_);simp only[newObj];exact wpAny_bind (wpAny_alloc (wpAny_pure (wpAny_pure h))))
theorem Zot {S l:Addr}{its:Array Value}{ns:List Int}{N:Result->Shared->Prop}(hh:A.handled=none) (hS:s.heap.get? S=some (set0 w)) (hl:s.heap.IsList l its) (hi:IntsAre its.toList ns) (hb:its.size+1<scanBound)
  (q:∀h' tk,SetI prog w h' S (metK (λi=>ns.getD i 0) its.size)->(∀b o,b≠S->s.heap.get? b=some o->h'.get? b=some o)->N (.ok (.ret .none)) { s with heap:=h',toks:=tk }) :
  wpAny (model prog w) A.in1 (Builtin.«set.__init__» ⟨[.ref S,.ref l],[]⟩) (λfin s'=>match fin with|.done f=>N (.ok f) s'|.again c=>c.quiet=true/\codeAny (model prog w) A c N s') (λe s'=>N (.error e) s') s:=by
 have lS:l≠S:=by
  obtain⟨o,e,c,_⟩:=hl;intro z;subst z;rw[hS]at e;cases e;exact absurd (show Value.type "set" = Value.type "list" from c) (by decide)
 have lt:l<s.heap.objs.size:=by obtain⟨o,e,_⟩:=hl;exact Wai e
 have ltS:S<s.heap.objs.size:=Wai hS;obtain⟨⟨c0,d0,dt0,sl0⟩,e0,hc0,n0,hd0⟩:=id hl;simp only at hc0 hd0;subst hc0 hd0;have hT:s.TypeIs (.ref S) "set":=⟨_,hS,rfl⟩;have k1:=F.sub_list_set;have k2:=F.sub_list_frozenset;have k3:(Value.type "list" == Value.type "dict")=false:=by decide
 unfold Builtin.«set.__init__» noKeywords Builtin.Frozenset.updateFrom;generalize hPI:pyIter=PI
 wp_walk
 subst hPI;refine wpAny_pyIter_list hl<|wpAny_bind<|wpAny_runValue ?_;have ne1:l≠s.heap.objs.size:=Wap lt;have ne2:S ∉ [s.heap.objs.size,l]:=by
  simp only[War,Wcb,or_false,not_or];exact⟨Wap ltS,Ne.symm lS⟩
 refine Zjw (Walks.list (by simp[hh]) _ l ne1 its).toS S ne2 (λi=>ns.getD i 0) (λi v e=>IntsAre.int_at hi i v (by rw[Array.getElem?_toList];exact e)) hb its.size 0 _ (by omega) (Wb1 _) ⟨⟨_,Wam _ rfl,rfl,rfl⟩,hl.push _⟩ ?_ λs2 mv fin=>?_
 ·exact⟨_,#[],0,_,Wab _ hS,⟨rfl,rfl,rfl⟩,rfl,λe he=>by simp at he,by decide,by rfl,TabOk.fresh _,List.Perm.refl _,List.nodup_nil⟩
 ·rw[Moved.eq_with mv]
  refine wpAny_pure<|wpAny_pure (q _ _ fin λb o hb e=>mv.heap b o ?_<|Wab _ e);simp only[War,Wcb,or_false,not_or];exact⟨hb,Wap<|Wai e⟩
set_option maxHeartbeats 3200000 in
theorem Znu {l:Addr}{its:Array Value}{ns:List Int}{Q:Value->Shared->Prop}(hh:A.handled=none) (hl:s.heap.IsList l its) (hi:IntsAre its.toList ns) (hb:its.size+1<scanBound)
  (q:∀(h':Heap) (tk:Nat),SetI prog w h' s.heap.objs.size (metK (λi=>ns.getD i 0) its.size)->(∀b o,s.heap.get? b=some o->h'.get? b=some o)->Q (.ref s.heap.objs.size) { s with heap:=h',toks:=tk }) :
  wpAny (model prog w) A (call (.type "set") [.ref l]) Q E s:=by
 have ft:=F.called_set;obtain⟨c,tl,e1⟩:=ft.mro;have e2:=ft.made;have e3:=ft.sub;have e4:=ft.notType;have e5:=ft.canCreate;have e6:=F.typeCall_set_1 (.ref l);refine wpAny_call<|codeAny_of_tree (show wpAny _ _ (callAny (.type "set") _) _ _ _ from wpAny_pure ⟨Code.quiet_builtin _ (by decide +kernel),codeAny_builtin F.entry_type_call ?_⟩);rw[Around.under_plain (weight_type_call_type _ _ _) rfl]
 repeat (any_goals (first|assumption|wp_step))
 refine codeAny_mono (Zqt (.ref l) (E:=E) (N:=λv s1=>v=.ref s.heap.objs.size/\s1 = { s with heap:=s.heap.push (set0 w) }) ⟨rfl,rfl⟩) λr s1 hr=>?_;cases r with
 |error e=>exact hr
 |ok fl=>
  cases fl with
  |ret v=>
   obtain⟨rfl,rfl⟩:=hr;have hS:(s.heap.push<|set0 w).get? s.heap.objs.size=some (set0 w):=Wam _ rfl;have hT:Shared.TypeIs { s with heap:=s.heap.push (set0 w) } (.ref s.heap.objs.size) "set":=⟨_,hS,rfl⟩;have f1:=ft.init.lookup;have f2:=ft.init.bind (.ref s.heap.objs.size)
   repeat (any_goals (first|assumption|wp_step))
   refine codeAny_mono (codeAny_call_builtin (R:=wants (λr s2=>r=.none/\Q (.ref s.heap.objs.size) s2) E) ft.init.plain F.entry_set_init<|check_set_init_1 hT (Zot (by simp[hh]) hS (hl.push _) hi hb λh' tk z1 z2=>⟨rfl,q h' tk z1 λb o e=>z2 b o (Wap<|Wai e)<|Wab _ e⟩)) λr2 s2 hr2=>?_;cases r2 with
   |error e=>exact hr2
   |ok fl2=>
    cases fl2 with
    |ret r=>
     obtain⟨rfl,hq⟩:=hr2
     repeat (any_goals (first|assumption|wp_step))
    |_=>exact hr2.elim
  |_=>exact hr.elim
end
end L2
namespace L2
open PySem PySem.Spec PyProof.Rows PySem.SeqAt
theorem Zav:PySem.Slot "set_iterator" "__next__" "set_iterator.__next__":=
 .of (owner:="set_iterator") (n:="__next__") (by rw[typeLookup_type,builtinLookup_eq_fast];kernel_rfl) (by decide +kernel) (by decide +kernel) (by decide +kernel)
  (by first|exact .inl (by decide +kernel)|exact .inr (by decide +kernel)) (by rw[isSubtype_type];kernel_rfl)
theorem Zbr:entryFor table "set_iterator.__next__" = some Builtin.«set_iterator.__next__»:=entryFor_of_tree (by kernel_rfl)
theorem Zgl:entryFor table "set.__iter__" = some Builtin.«frozenset.__iter__»:=entryFor_alias (id':="frozenset.__iter__") (by kernel_rfl) rfl (by decide +kernel) (by kernel_rfl)
theorem Zb3 (a:Value):argsOk "set_iterator.__next__" ⟨[a],[]⟩:=by
 unfold argsOk;kernel_rfl
abbrev setItO (first:Value) (i:Nat) (a:Addr) (n ep:Nat):Obj:={ cls:=.type "set_iterator",dict:=none,data:=.fields #[first,.int i 0,.ref a,.int n 0,.int ep 0],slots:=#[] }
section
variable {prog:Program}{w:World}{A:Around}{E:Value->Shared->Prop}{s:Shared}
theorem Zlh {I a:Addr}{slot i next:Nat}{x:Value}{o:Obj}{es:Array (Int × Value)}{ep:Nat}{t:SetTable}{ks:List Int}{Q:Option Value->Shared->Prop}(hI:s.heap.get? I=some (setItO (.int slot 0) i a es.size ep)) (g:SetG prog w s.heap a o es ep t ks)
  (hn:∀(A:Around) (E:Value->Shared->Prop) (Q':Option (Value × Nat)->Shared->Prop),Q' (some (x,next)) s->wpAny (model prog w) A (setNext a slot i ep) Q' E s)
  (q:∀h',h'.get? I=some (setItO (.int next 0) (i+1) a es.size ep)->Heap.SameBut I s.heap h' -> Q (some x) { s with heap:=h' }):wpAny (model prog w) A (pyNext (.ref I)) Q E s:=by
 have hT:s.TypeIs (.ref I) "set_iterator":=⟨_,hI,rfl⟩;unfold pyNext;refine wpAny_bind<|wpAny_attempt<|wpAny_callSpecial?_slot (name:=Str.ofString "__next__") hT Zav<|wpAny_call_entry Zav hT Zbr ?_<|Zb3 _;refine wpAny_bind<|wpAny_pure ?_;refine wpAny_bind<|wpAny_fieldsOf hI rfl ?_;refine wpAny_bind<|wpAny_setEntries_of g.get g.dat g.fit ?_;rw[if_neg (by simp)];refine wpAny_bind<|hn _ _ _ ?_;refine wpAny_bind (wpAny_setField_rec hI (by simp) λh1 e1 sb1=>?_);refine wpAny_bind (wpAny_setField_rec (s:={ s with heap:=h1 }) e1 (by simp) λh2 e2 sb2=>?_);exact wpAny_pure ⟨_,rfl,wpAny_pure<|q h2 (by rw[e2];rfl)<|sb1.trans sb2⟩
theorem Zlk {I a:Addr}{slot i:Nat}{o:Obj}{es:Array (Int × Value)}{ep:Nat}{t:SetTable}{ks:List Int}{Q:Option Value->Shared->Prop}(hh:A.handled=none) (hI:s.heap.get? I=some (setItO (.int slot 0) i a es.size ep)) (g:SetG prog w s.heap a o es ep t ks)
  (hn:∀(A:Around) (E:Value->Shared->Prop) (Q':Option (Value × Nat)->Shared->Prop),Q' none s->wpAny (model prog w) A (setNext a slot i ep) Q' E s)
  (q:∀h',Heap.ExtBut I s.heap h' -> Q none { s with heap:=h' }):wpAny (model prog w) A (pyNext (.ref I)) Q E s:=by
 have hT:s.TypeIs (.ref I) "set_iterator":=⟨_,hI,rfl⟩;unfold pyNext;refine wpAny_bind<|wpAny_attempt<|wpAny_callSpecial?_slot (name:=Str.ofString "__next__") hT Zav<|wpAny_call_entry Zav hT Zbr ?_<|Zb3 _;refine wpAny_bind<|wpAny_pure ?_;refine wpAny_bind<|wpAny_fieldsOf hI rfl ?_;refine wpAny_bind<|wpAny_setEntries_of g.get g.dat g.fit ?_;rw[if_neg (by simp)];refine wpAny_bind<|hn _ _ _ ?_;refine wpAny_bind (wpAny_setField_rec hI (by simp) λh1 e1 sb1=>wpAny_bind ?_);simp only[newExc,newTuple];refine wpAny_bind<|wpAny_newObj_type ?_ (by size_fits);refine wpAny_bind (m:=firstArgMember _ _)<|wpAny_of_eq (a:=Value.none) (by first|rfl|(simp only[firstArgMember];rfl)) ?_;refine wpAny_newObj_type ?_ (by size_fits);simp only[raiseNew];refine wpAny_bind<|wpAny_handled ?_;rw[show A.in1.handled=none from hh];refine wpAny_bind<|wpAny_pure<|wpAny_throw ?_;refine wpAny_bind<|wpAny_isInstance (T:="StopIteration") (b:=true) ⟨_,Wam _ rfl,rfl⟩ isSubtype_stop ?_;exact wpAny_pure<|q _ ((sb1.extBut.push _).push _)
theorem Zjv {I a T:Addr}{i k:Nat}{e:Int × Value}{o:Obj}{es:Array (Int × Value)}{ep:Nat}{t:SetTable}{ks:List Int}{pl:List Nat}{Q:Option Value->Shared->Prop}(hI:s.heap.get? I=some (setItO (.ref T) i a es.size ep)) (g:SetG prog w s.heap a o es ep t ks)
  (hT:s.heap.get? T=some { cls:=.type "tuple",data:=.seq (pl.map λj:Nat=>rawInt (j:Int)).toArray }) (hk:pl[i]?=some k) (he:es[k]?=some e)
  (q:∀h',h'.get? I=some (setItO (.ref T) (i+1) a es.size ep)->Heap.SameBut I s.heap h' -> Q (some e.2) { s with heap:=h' }):wpAny (model prog w) A (pyNext (.ref I)) Q E s:=by
 have hTy:s.TypeIs (.ref I) "set_iterator":=⟨_,hI,rfl⟩;unfold pyNext;refine wpAny_bind<|wpAny_attempt<|wpAny_callSpecial?_slot (name:=Str.ofString "__next__") hTy Zav<|wpAny_call_entry Zav hTy Zbr ?_<|Zb3 _;refine wpAny_bind<|wpAny_pure ?_;refine wpAny_bind<|wpAny_fieldsOf hI rfl ?_;refine wpAny_bind<|wpAny_setEntries_of g.get g.dat g.fit ?_;rw[if_neg (by simp)];refine wpAny_bind<|wpAny_seqItems hT rfl ?_;have e1:(pl.map λj:Nat=>rawInt (j:Int)).toArray[(i:Int).toNat]?=some (.int (k:Int) 0):=by
  rw[Waj,Wc2,Wah,hk];rfl
 dsimp only;rw[e1];dsimp only;unfold setNextDrawn;refine wpAny_bind<|wpAny_bind<|wpAny_setState_of g.get g.dat g.fit ?_;dsimp only;rw[if_neg (by simp)];rw[show es[(k:Int).toNat]?=some e from by rw[Waj];exact he];obtain⟨e1,e2⟩:=e;refine wpAny_pure ?_;refine wpAny_bind (wpAny_setField_rec hI (by simp) λh2 e2' sb2=>?_);exact wpAny_pure ⟨_,rfl,wpAny_pure<|q h2 (by rw[e2'];rfl) sb2⟩
theorem Zgi {I a T:Addr}{i:Nat}{o:Obj}{es:Array (Int × Value)}{ep:Nat}{t:SetTable}{ks:List Int}{pl:List Nat}{Q:Option Value->Shared->Prop}(hh:A.handled=none) (hI:s.heap.get? I=some (setItO (.ref T) i a es.size ep)) (g:SetG prog w s.heap a o es ep t ks)
  (hT:s.heap.get? T=some { cls:=.type "tuple",data:=.seq (pl.map λj:Nat=>rawInt (j:Int)).toArray }) (hk:pl[i]?=none)
  (q:∀h',Heap.ExtBut I s.heap h' -> Q none { s with heap:=h' }):wpAny (model prog w) A (pyNext (.ref I)) Q E s:=by
 have hTy:s.TypeIs (.ref I) "set_iterator":=⟨_,hI,rfl⟩;unfold pyNext;refine wpAny_bind<|wpAny_attempt<|wpAny_callSpecial?_slot (name:=Str.ofString "__next__") hTy Zav<|wpAny_call_entry Zav hTy Zbr ?_<|Zb3 _;refine wpAny_bind<|wpAny_pure ?_;refine wpAny_bind<|wpAny_fieldsOf hI rfl ?_;refine wpAny_bind<|wpAny_setEntries_of g.get g.dat g.fit ?_;rw[if_neg (by simp)];refine wpAny_bind<|wpAny_seqItems hT rfl ?_;have e1:(pl.map λj:Nat=>rawInt (j:Int)).toArray[(i:Int).toNat]?=none:=by
  rw[Waj,Wc2,Wah,hk];rfl
 dsimp only;rw[e1];dsimp only;refine wpAny_bind (wpAny_setField_rec hI (by simp) λh1 e1 sb1=>?_);refine wpAny_bind (wpAny_setField_rec (s:={ s with heap:=h1 }) e1 (by simp) λh2 e2 sb2=>wpAny_bind ?_);simp only[newExc,newTuple];refine wpAny_bind<|wpAny_newObj_type ?_ (by size_fits);refine wpAny_bind (m:=firstArgMember _ _)<|wpAny_of_eq (a:=Value.none) (by first|rfl|(simp only[firstArgMember];rfl)) ?_;refine wpAny_newObj_type ?_ (by size_fits);simp only[raiseNew];refine wpAny_bind<|wpAny_handled ?_;rw[show A.in1.handled=none from hh];refine wpAny_bind<|wpAny_pure<|wpAny_throw ?_;refine wpAny_bind<|wpAny_isInstance (T:="StopIteration") (b:=true) ⟨_,Wam _ rfl,rfl⟩ isSubtype_stop ?_;exact wpAny_pure<|q _ (((sb1.trans sb2).extBut.push _).push _)
theorem Zg1 (a:Addr) (slot given ep:Nat):setNext a slot given ep=(do
  let (es,epoch,t) ← setState a
  if ← setsByText then
   if epoch != ep then unsupported "set_iterator.__next__:elements-changed"
   return ((← setWalk a)[given]?).map λe=>(e.2,slot)
  if !t.plain && es.size > 1 then unsupported "set_iterator.__next__:the-table-is-plain-no-more"
  let _ ← (if !t.led && !es.isEmpty then unsupported "set:maker-not-led" else pure ():Sem Unit)
  let i:=SetTable.below t.place slot
  return match es[i]?,t.place[i]? with
   |some (_,x),some j=>some (x,j+1)
   |_,_=>none):=rfl
theorem Zld (a:Addr):setWalk a=(do
  let (es,epoch,t) ← setState a
  if ← setsByText then return pickOrder ((← ask).params.setOrder a epoch) es
  if !t.plain && es.size > 1 then return (← drawOrder es.size es.toList).toArray
  let _ ← (if !t.led && es.size > 1 then unsupported "set:maker-not-led" else pure ():Sem Unit)
  return es):=rfl
theorem Zji (a:Addr):setDrawn a=(do
  let (es,_,t) ← setState a
  let byText ← setsByText
  return !byText && (!t.plain && es.size > 1)):=rfl
end
end L2
namespace L2
open PySem PySem.Spec PyProof.Rows PySem.SeqAt
theorem Zdh:PySem.Slot "set_iterator" "__iter__" "set_iterator.__iter__":=
 .of (owner:="set_iterator") (n:="__iter__") (by rw[typeLookup_type,builtinLookup_eq_fast];kernel_rfl) (by decide +kernel) (by decide +kernel) (by decide +kernel)
  (by first|exact .inl (by decide +kernel)|exact .inr (by decide +kernel)) (by rw[isSubtype_type];kernel_rfl)
theorem Ze7:entryFor table "set_iterator.__iter__" = some Builtin.«dict_keyiterator.__iter__»:=entryFor_alias (id':="dict_keyiterator.__iter__") (by kernel_rfl) rfl (by decide +kernel) (by kernel_rfl)
theorem Zfy (a:Value):argsOk "set_iterator.__iter__" ⟨[a],[]⟩:=by unfold argsOk;kernel_rfl
section
variable {prog:Program}{w:World}{A:Around}{E:Value->Shared->Prop}{s:Shared}
theorem Zgx {I:Addr}{first:Value}{i n ep:Nat}{a:Addr}{Q:Value->Shared->Prop}(hI:s.heap.get? I=some (setItO first i a n ep)) (q:Q (.ref I) s):wpAny (model prog w) A (pyIter (.ref I)) Q E s:=by
 have hT:s.TypeIs (.ref I) "set_iterator":=⟨_,hI,rfl⟩;refine wpAny_pyIter_slot hT Zdh<|wpAny_call_entry Zdh hT Ze7 ?_<|Zfy _;show wpAny _ _ (ret (.ref I)) _ _ s;exact wpAny_pure ⟨_,rfl,"set_iterator",_,hT,Zav.lookup,q⟩
theorem Zd4 {Q:Bool->Shared->Prop}(q:Q (byTextB w) s):wpAny (model prog w) A setsByText Q E s:=by
 unfold setsByText;exact wpAny_bind<|wpAny_askSetting<|wpAny_pure q
theorem Ziz {a:Addr}{slot given ep:Nat}{o:Obj}{es:Array (Int × Value)}{t:SetTable}{ks:List Int}{Q:Option (Value × Nat)->Shared->Prop}(hb:byTextB w=true) (g:SetG prog w s.heap a o es ep t ks)
  (q:Q (((pickOrder (w.params.setOrder a ep) es)[given]?).map λe=>(e.2,slot)) s):wpAny (model prog w) A (setNext a slot given ep) Q E s:=by
 rw[Zg1];refine wpAny_bind<|wpAny_setState_of g.get g.dat g.fit<|wpAny_bind<|Zd4 ?_;rw[hb];simp only[if_true];rw[if_neg (by simp),Zld];refine wpAny_bind<|wpAny_bind<|wpAny_setState_of g.get g.dat g.fit<|wpAny_bind<|Zd4 ?_;rw[hb];simp only[if_true];exact wpAny_bind<|wpAny_askSetting<|wpAny_pure<|wpAny_pure q
theorem Zgw {a:Addr}{slot given ep:Nat}{o:Obj}{es:Array (Int × Value)}{t:SetTable}{ks:List Int}{Q:Option (Value × Nat)->Shared->Prop}(hb:byTextB w=false) (g:SetG prog w s.heap a o es ep t ks) (hd:(!t.plain && decide (es.size > 1))=false)
  (q:Q (match es[SetTable.below t.place slot]?,t.place[SetTable.below t.place slot]? with|some (_,x),some j=>some (x,j+1)|_,_=>none) s):wpAny (model prog w) A (setNext a slot given ep) Q E s:=by
 have hl:t.led=true:=by rw[g.tab.led,hb];rfl
 rw[Zg1];refine wpAny_bind<|wpAny_setState_of g.get g.dat g.fit<|wpAny_bind<|Zd4 ?_;rw[hb];simp only[Wa7,if_false,hd,hl,Bool.not_true,Wcp];exact wpAny_bind<|wpAny_pure<|wpAny_pure q
theorem Zew {α:Type}:∀{l:List α}{i:Nat}(h:i<l.length),(l[i]::l.eraseIdx i).Perm l
 |x::l,0,_=>List.Perm.refl _
 |x::l,i+1,h=>by
  have h':i<l.length:=by simpa using h
  show (l[i]::x::l.eraseIdx i).Perm (x::l);exact(List.Perm.swap _ _ _).trans (List.Perm.cons _<|Zew h')
theorem Zmq {α:Type}(next:Nat->Nat):∀(fuel k:Nat) (left:List α) (out:Array α),left.length=fuel->(pickOrder.go next fuel k left out).toList.Perm (out.toList++left)
 |0,k,left,out,h=>by
  have:left=[]:=Wbv h;subst this;unfold pickOrder.go;rw[Wbb]
 |fuel+1,k,left,out,h=>by
  unfold pickOrder.go;have hi:next k % left.length<left.length:=Wdr _ (by omega)
  rw[Waa hi];dsimp only;refine(Zmq next fuel (k+1) _ _ (by rw[Wbs hi];omega)).trans ?_;rw[Array.toList_push,Wck];refine List.Perm.append_left _ ?_;exact Zew hi
theorem Zpi {α:Type}(next:Nat->Nat) (xs:Array α):(pickOrder next xs).toList.Perm xs.toList:=by
 unfold pickOrder;exact Zmq next xs.size 0 xs.toList #[] (by simp)
def slotAt (pl:Array Nat):Nat->Nat
 |0=>0
 |j+1=>pl.getD j 0+1
theorem Zez {pl:Array Nat}(R:Ris pl) {j:Nat}(hj:j<=pl.size):SetTable.below pl (slotAt pl j)=j:=by
 obtain⟨b1,b2,b3⟩:=Zgu R<|slotAt pl j;cases j with
 |zero=>
  apply Classical.byContradiction;intro h;have hlt:0<pl.size:=by omega
  have:=b2 0 _ (by omega)<|Array.getElem?_eq_getElem hlt;exact absurd this (by show ¬ _<0;omega)
 |succ j=>
  have hlt:j<pl.size:=by omega
  have hg:pl.getD j 0=pl[j]:=by simp[Array.getD,hlt]
  have es:slotAt pl (j+1)=pl[j]+1:=by show pl.getD j 0+1=_;rw[hg]
  rw[es]at b1 b2 b3 ⊢;rcases Nat.lt_trichotomy (SetTable.below pl<|pl[j]+1) (j+1) with z|z|z
  ·have:=b3 j _ (by omega) (Array.getElem?_eq_getElem hlt)
   omega
  ·exact z
  ·have hlt2:j+1<pl.size:=by omega
   have h1:=b2 (j+1) _ z<|Array.getElem?_eq_getElem hlt2;have h2:=R j (j+1) _ _ (by omega) (Array.getElem?_eq_getElem hlt)<|Array.getElem?_eq_getElem hlt2;omega
theorem SetG.keep {h h':Heap}{a:Addr}{o:Obj}{es:Array (Int × Value)}{ep:Nat}{t:SetTable}{ks:List Int}(g:SetG prog w h a o es ep t ks) (k:∀o,h.get? a=some o->h'.get? a=some o):SetG prog w h' a o es ep t ks:=
 ⟨k _ g.get,g.ex,g.dat,g.el,g.room,g.fit,g.tab,g.perm,g.nd⟩
theorem Zgy (hh:A.handled=none) {I a:Addr}(hne:a≠I) {o:Obj}{es:Array (Int × Value)}{ep:Nat}{t:SetTable}{ks:List Int}(sl:Nat->Nat) (L:List (Int × Value))
  (hs:∀(s:Shared) j e,SetG prog w s.heap a o es ep t ks->L[j]?=some e->∀(A:Around) (E:Value->Shared->Prop) (Q':Option (Value × Nat)->Shared->Prop),Q' (some (e.2,sl (j+1))) s->wpAny (model prog w) A (setNext a (sl j) j ep) Q' E s)
  (hd:∀(s:Shared),SetG prog w s.heap a o es ep t ks->∀(A:Around) (E:Value->Shared->Prop) (Q':Option (Value × Nat)->Shared->Prop),Q' none s->wpAny (model prog w) A (setNext a (sl L.length) L.length ep) Q' E s) :
  Walks prog w A I [I,a] [I] L.length (λj v=>∃e,L[j]?=some e/\v=e.2) (λj h=>h.get? I=some (setItO (.int (sl j) 0) j a es.size ep)/\SetG prog w h a o es ep t ks) where
 sub:=λb hb=>by simp at hb;simp[hb]
 frame:=λ_ _ _ st hk=>⟨hk I (by simp) _ st.1,st.2.keep λo e=>hk a (by simp) o e⟩
 item:=λi s Q E hi st hQ=>by
  refine Zlh st.1 st.2 (hs s i _ st.2<|Waa hi) λh' e sb=>?_;refine hQ _ h' s.toks ⟨_,Waa hi,rfl⟩ ⟨e,st.2.keep λo q=>(sb.2 a hne).trans q⟩ λb o hb q=>(sb.2 b λz=>hb (by simp[z])).trans q
 done:=λs Q E st hQ=>Zlk hh st.1 st.2 (hd s st.2) λh' eb=>hQ h' s.toks λb o hb e=>eb b o (λz=>hb (by simp[z])) e
 self:=λ_ _ _ _ st hQ=>Zgx st.1 hQ
theorem Zjm (hh:A.handled=none) {I a T:Addr}(hne:a≠I) (hnt:T≠I) {o:Obj}{es:Array (Int × Value)}{ep:Nat}{t:SetTable}{ks:List Int}(pl:List Nat) (L:List (Int × Value)) (hl:L.length=pl.length) (hs:∀(j k:Nat) e,pl[j]?=some k->L[j]?=some e->es[k]?=some e) :
  Walks prog w A I [I,a,T] [I] L.length (λj v=>∃e,L[j]?=some e/\v=e.2) (λj h=>h.get? I=some (setItO (.ref T) j a es.size ep)/\SetG prog w h a o es ep t ks/\h.get? T=some { cls:=.type "tuple",data:=.seq (pl.map λj:Nat=>rawInt (j:Int)).toArray }) where
 sub:=λb hb=>by simp at hb;simp[hb]
 frame:=λ_ _ _ st hk=>⟨hk I (by simp) _ st.1,st.2.1.keep λo e=>hk a (by simp) o e,hk T (by simp) _ st.2.2⟩
 item:=λi s Q E hi st hQ=>by
  have hp:i<pl.length:=by omega
  refine Zjv st.1 st.2.1 st.2.2 (Waa hp) (hs i _ _ (Waa hp)<|Waa hi) λh' e sb=>?_;refine hQ _ h' s.toks ⟨_,Waa hi,rfl⟩ ⟨e,st.2.1.keep λo q=>(sb.2 a hne).trans q,(sb.2 T hnt).trans st.2.2⟩ λb o hb q=>(sb.2 b λz=>hb (by simp[z])).trans q
 done:=λs Q E st hQ=>Zgi hh st.1 st.2.1 st.2.2 (Wdh<|by omega) λh' eb=>hQ h' s.toks λb o hb e=>eb b o (λz=>hb (by simp[z])) e
 self:=λ_ _ _ _ st hQ=>Zgx st.1 hQ
theorem Zo7 {src:Source}{n:Nat}{Q:Nat->Shared->Prop}(hn:n≠0) (q:∀k dr,k<n->Q k { s with drawn:=dr }):wpAny (model prog w) A (choose src n) Q E s:=by
 intro Γ p _;unfold choose;rw[Sem.wp_choose];refine⟨hn,?_⟩;show Sem.wp _ _ (Sem.pure _) _ _ _ _
 first|rw[Sem.wp_pure]|simp only[Sem.wp]
 exact q _ _<|Wdr _<|Nat.pos_of_ne_zero hn
theorem Znr:∀(n:Nat) {s:Shared}{xs:List Nat}{Q:List Nat->Shared->Prop},xs.length=n->(∀ys dr,ys.Perm xs->Q ys { s with drawn:=dr })->wpAny (model prog w) A (drawOrder n xs) Q E s
 |0,s,xs,Q,h,q=>by
  have:xs=[]:=Wbv h;subst this;unfold drawOrder;exact wpAny_pure<|q [] s.drawn<|List.Perm.refl _
 |n+1,s,[],Q,h,q=>by simp at h
 |n+1,s,x::xs,Q,h,q=>by
  unfold drawOrder;refine wpAny_bind (Zo7 (by simp) λk dr hk=>?_);rw[Waa hk];refine wpAny_bind (Znr n (by rw[Wbs hk];omega) λys dr' hy=>wpAny_pure<|q _ dr' ?_);exact(List.Perm.cons _ hy).trans (Zew hk)
end
end L2
namespace L2
open PySem PySem.Spec PyProof.Rows PySem.SeqAt
section
variable {prog:Program}{w:World}{A:Around}{E:Value->Shared->Prop}{s:Shared}
structure SWalk (prog:Program) (w:World) (A:Around) (a:Addr) (es:Array (Int × Value)) (s s1:Shared) (I:Addr) where
 fp:List Addr
 L:List (Int × Value)
 St:Nat->Heap->Prop
 old:∀b o,s.heap.get? b=some o->s1.heap.get? b=some o
 new:s.heap.objs.size<=I
 fpo:∀b∈fp,b=a\/s.heap.objs.size<=b
 perm:L.Perm es.toList
 W:Walks prog w A I fp [I] L.length (λj v=>∃e,L[j]?=some e/\v=e.2) St
 st:St 0 s1.heap
theorem Zel (es:Array (Int × Value)):(Wak es.size).map (λk=>es.getD k (0,.none))=es.toList:=by
 apply Wdv
 ·simp
 ·intro i h1 h2
  simp only[List.getElem_map,Wb7,Array.getElem_toList];simp only[Array.length_toList]at h2;simp[Array.getD,h2]
theorem set_iter {a:Addr}{o:Obj}{es:Array (Int × Value)}{ep:Nat}{t:SetTable}{ks:List Int}{Q:Value->Shared->Prop}(hh:A.handled=none) (g:SetG prog w s.heap a o es ep t ks)
  (q:∀(h1:Heap) dr (I:Addr),Nonempty (SWalk prog w A a es s { s with heap:=h1,drawn:=dr } I)->Q (.ref I) { s with heap:=h1,drawn:=dr }):wpAny (model prog w) A (pyIter (.ref a)) Q E s:=by
 have hT:s.TypeIs (.ref a) "set":=⟨o,g.get,g.ex.1⟩;have hlt:a<s.heap.objs.size:=Wai g.get;have hne1:a≠s.heap.objs.size:=Wap hlt;have hne2:a≠s.heap.objs.size+1:=Wap<|Wbe hlt;have hroom:es.size<=sizeLine:=by
  have:=g.room;rw[sizeLine_eq];unfold scanBound at this;omega
 refine wpAny_pyIter_slot hT F.slot_set_iter<|wpAny_call_entry F.slot_set_iter hT Zgl ?_<|F.args_set_iter_1 _;unfold Builtin.«frozenset.__iter__» Builtin.Frozenset.slot0 slotArgs;simp only[List.isEmpty_nil,Bool.not_true,Wa7,↓reduceIte,bind_assoc,List.length_nil,bne_self_eq_false];unfold Builtin.Frozenset.addrOf Builtin.Frozenset.sizeOf;refine wpAny_bind<|wpAny_pure ?_
 try dsimp only
 refine wpAny_bind<|wpAny_pure ?_;refine wpAny_bind<|wpAny_bind<|wpAny_setEntries_of g.get g.dat g.fit<|wpAny_pure ?_;rw[Zji];refine wpAny_bind<|wpAny_bind<|wpAny_setState_of g.get g.dat g.fit<|wpAny_bind<|Zd4<|wpAny_pure ?_;by_cases hd:(!byTextB w && (!t.plain && decide (es.size > 1)))=true
 ·have hd2:=hd
  rw[if_pos hd];refine wpAny_bind (Znr es.size (by simp) λys dr hy=>?_);have hyl:=hy.length_eq;rw[Wbd]at hyl;refine wpAny_bind<|wpAny_newTuple ?_ (by rw[Wac,hyl];exact hroom);have g1:=g.keep (h':=s.heap.push<|seqObj "tuple" (ys.map λi:Nat=>rawInt (i:Int)).toArray 0) λo e=>Wab _ e;refine wpAny_bind<|wpAny_setEpoch_of g1.get g1.dat g1.fit ?_;refine wpAny_bind<|wpAny_newObj_type ?_ (by size_fits);have hsz:(s.heap.push<|seqObj "tuple" (ys.map λi:Nat=>rawInt (i:Int)).toArray 0).objs.size=s.heap.objs.size+1:=size_push' _ _;have hI:((s.heap.push<|seqObj "tuple" (ys.map λi:Nat=>rawInt (i:Int)).toArray 0).push (setItO (.ref s.heap.objs.size) 0 a es.size ep)).get? (s.heap.objs.size+1)=some (setItO (.ref s.heap.objs.size) 0 a es.size ep):=by
   rw[<- hsz];exact Wam _ rfl
  have hTu:((s.heap.push<|seqObj "tuple" (ys.map λi:Nat=>rawInt (i:Int)).toArray 0).push (setItO (.ref s.heap.objs.size) 0 a es.size ep)).get? s.heap.objs.size=some { cls:=.type "tuple",data:=.seq (ys.map λj:Nat=>rawInt (j:Int)).toArray }:=
   Wab _ (Wam _ rfl)
  show wpAny _ _ (ret (.ref (s.heap.push<|seqObj "tuple" (ys.map λi:Nat=>rawInt (i:Int)).toArray 0).objs.size)) _ _ { s with heap:=(s.heap.push<|seqObj "tuple" (ys.map λi:Nat=>rawInt (i:Int)).toArray 0).push (setItO (.ref s.heap.objs.size) 0 a es.size ep),drawn:=dr };rw[hsz];refine wpAny_pure ⟨_,rfl,"set_iterator",_,⟨_,hI,rfl⟩,Zav.lookup,?_⟩;have hin:∀k∈ys,k<es.size:=λk hk=>Wa6.mp<|hy.mem_iff.mp hk;have hL:(ys.map λk=>es.getD k (0,.none)).length=ys.length:=Wac _;refine q _ dr (s.heap.objs.size+1) ⟨⟨[s.heap.objs.size+1,a,s.heap.objs.size],ys.map λk=>es.getD k (0,.none),_,λb o e=>Wab _<|Wab _ e,Wca _,?_,?_,Zjm hh hne2 (Wap<|Nat.lt_succ_self _) ys _ hL ?_,hI,g1.keep λo e=>Wab _ e,hTu⟩⟩
  ·intro b hb
   simp only[War,Wcb,or_false]at hb;rcases hb with h|h|h
   ·exact .inr (by rw[h];exact Wca _)
   ·exact .inl h
   ·exact .inr<|Wdk h.symm
  ·exact(hy.map _).trans (List.Perm.of_eq<|Zel es)
  ·intro j k e h1 h2
   rw[Wah,h1]at h2;cases h2;have:=hin k<|Wax h1;simp[Array.getD,this]
 ·rw[if_neg hd]
  refine wpAny_bind<|wpAny_pure ?_;refine wpAny_bind<|wpAny_setEpoch_of g.get g.dat g.fit ?_;refine wpAny_bind<|wpAny_newObj_type ?_ (by size_fits);have hI:(s.heap.push<|setItO (.int 0 0) 0 a es.size ep).get? s.heap.objs.size=some (setItO (.int 0 0) 0 a es.size ep):=Wam _ rfl;refine wpAny_pure ⟨_,rfl,"set_iterator",_,⟨_,hI,rfl⟩,Zav.lookup,?_⟩;have g1:=g.keep (h':=s.heap.push<|setItO (.int 0 0) 0 a es.size ep) λo e=>Wab _ e;have fpo:∀b∈[s.heap.objs.size,a],b=a\/s.heap.objs.size<=b:=λb hb=>by
   simp at hb;rcases hb with h|h
   ·right;omega
   ·exact .inl h
  cases hb:byTextB w with
  |true=>
   refine q _ s.drawn s.heap.objs.size ⟨⟨[s.heap.objs.size,a],(pickOrder (w.params.setOrder a ep) es).toList,_,λb o e=>Wab _ e,Waf _,fpo,Zpi _ _,Zgy hh hne1 (λ_=>0) _ ?_ ?_,hI,g1⟩⟩
   ·intro s j e g he A E Q' hq
    refine Ziz hb g ?_;rw[Array.getElem?_toList]at he;rw[he];exact hq
   ·intro s g A E Q' hq
    refine Ziz hb g ?_;rw[Array.getElem?_eq_none (by simp)];exact hq
  |false=>
   have hd':(!t.plain && decide (es.size > 1))=false:=by
    rw[hb]at hd;simpa using hd
   have hps:t.place.size=es.size:=by
    have:=g.fit;unfold SetTable.fits at this;simp only[Waz,beq_iff_eq]at this;exact this.1
   refine q _ s.drawn s.heap.objs.size ⟨⟨[s.heap.objs.size,a],es.toList,_,λb o e=>Wab _ e,Waf _,fpo,List.Perm.refl _,Zgy hh hne1 (slotAt t.place) _ ?_ ?_,hI,g1⟩⟩
   ·intro s j e g he A E Q' hq
    refine Zgw hb g hd' ?_;rw[Array.getElem?_toList]at he;have hj:=(Array.getElem?_eq_some_iff.mp he).1;rw[Zez g.tab.ris (by omega),he,Array.getElem?_eq_getElem (by omega)];have:slotAt t.place (j+1)=t.place[j]+1:=by
     show t.place.getD j 0+1=_;simp[Array.getD,show j<t.place.size by omega]
    rw[this]at hq;exact hq
   ·intro s g A E Q' hq
    refine Zgw hb g hd' ?_;rw[Array.length_toList,Zez g.tab.ris (Wdk hps.symm),Array.getElem?_eq_none (Waf _)];exact hq
end
end L2
namespace L2
open PySem PySem.Spec PyProof.Rows PySem.SeqAt
section
variable {prog:Program}{w:World}{A:Around}{E:Value->Shared->Prop}{s:Shared}
theorem Zq5 {r:Addr}{Q:Bool->Shared->Prop}(hT:s.TypeIs (.ref r) "set") (h:Q false s):wpAny (model prog w) A (Builtin.List.listLengthHint (.ref r)) Q E s:=by
 unfold Builtin.List.listLengthHint;refine wpAny_bind<|wpAny_specialOf hT F.slot_set_len.lookup ?_;generalize hid:("set.__len__":String)=nm
 wp_delta
 rw[show splitId nm=some ("set","__len__") by subst hid;decide +kernel];subst hid;refine wpAny_bind<|wpAny_isInstance (T:="set") (b:=true) hT (by rw[isSubtype_type];kernel_rfl) ?_;refine wpAny_ite_split (λz=>absurd z<|by decide) λ_=>?_;refine wpAny_ite_split (λ_=>wpAny_bind<|wpAny_typeOf hT<|wpAny_pure h) λz=>absurd (by decide +kernel) z
theorem Zjs {L:List (Int × Value)}{acc:Array Value}(h:ItemsOf (λj v=>∃e,L[j]?=some e/\v=e.2) acc L.length):acc.toList=L.map (·.2):=by
 obtain⟨h1,h2⟩:=h;apply Wc0;intro i;rw[Array.getElem?_toList,Wah];by_cases hi:i<acc.size
 ·obtain⟨e,e1,e2⟩:=h2 i _ (Array.getElem?_eq_getElem hi)
  rw[e1,Array.getElem?_eq_getElem hi,e2];rfl
 ·rw[Array.getElem?_eq_none (by omega),Wdh (by omega)];rfl
theorem Zl1 {R:Result->Shared->Prop}{a S:Addr}{o:Obj}{es:Array (Int × Value)}{ep c₀:Nat}{t:SetTable}{ks:List Int}(hh:A.handled=none) (g:SetG prog w s.heap a o es ep t ks) (hSa:S≠a) (res:Value) (hS:s.heap.get? S=some { cls:=.type "list",data:=.seq #[] c₀ })
  (hR:∀h' tk dr c' (L:List (Int × Value)),(∀b o,b≠S->s.heap.get? b=some o->h'.get? b=some o)->L.Perm es.toList->h'.get? S=some { cls:=.type "list",dict:=none,data:=.seq (L.map (·.2)).toArray c',slots:=#[] } -> R (.ok (.ret res)) { s with heap:=h',toks:=tk,drawn:=dr }) :
  wpAny (model prog w) A.in1 (Builtin.List.listExtendWith (.ref S) (.ref a) res)
   (λfin s'=>match fin with|.done f=>R (.ok f) s'|.again c'=>c'.quiet=true/\codeAny (model prog w) A c' R s') (λe s'=>R (.error e) s') s:=by
 have hT:s.TypeIs (.ref a) "set":=⟨o,g.get,g.ex.1⟩;have hSl:S<s.heap.objs.size:=Wai hS;unfold Builtin.List.listExtendWith;refine wpAny_bind<|wpAny_typeOf (T:="set") hT ?_;have h1:Builtin.List.listSameRef (.ref S) (.ref a)=false:=by simp[Builtin.List.listSameRef,hSa]
 have h2:(Value.type "set" == Value.type "list")=false:=by decide +kernel
 have h3:(Value.type "set" == Value.type "tuple")=false:=by decide +kernel
 simp only[h1,h2,h3,Bool.or_false,Wa7,if_false];refine wpAny_bind (set_iter hh g λh1 dr I ⟨K⟩=>?_);have hK:=K.perm.length_eq;have hn:K.L.length<=sizeLine:=by
  have:=g.room;rw[hK,Array.length_toList,sizeLine_eq];unfold scanBound at this;omega
 have hSf:S ∉ K.fp:=λz=>by
  rcases K.fpo S z with z|z
  ·exact hSa z
  ·exact absurd hSl<|Nat.not_lt.mpr z
 have key:∀(h:Heap) (c₁ tk:Nat),K.St 0 h->(∀b o,b≠S->s.heap.get? b=some o->h.get? b=some o) →
   h.get? S=some { cls:=.type "list",data:=.seq #[] c₁ } -> codeAny (model prog w) A (.builtin "list.extend.loop" ⟨[.ref S,.ref I,res],[]⟩) R { s with heap:=h,toks:=tk,drawn:=dr }:=by
  intro h c₁ tk hst hk hS₁;refine codeAny_extend_loopS K.W.toS hn S hSf res _ 0 _ #[] c₁ rfl (Wb1 _) hst hS₁ (ItemsOf.nil _) λs' acc' c' hm hS' hacc=>?_;rw[Moved.eq_with hm];have ea:=Zjs hacc;refine hR s'.heap s'.toks dr c' K.L (λb o hb e=>hm.heap b o (λhmem=>?_)<|hk b o hb e) K.perm ?_
  ·rcases War.mp hmem with e'|hmem
   ·exact hb e'
   ·exact absurd (Wai e) (by rw[Wbi.mp hmem];exact Nat.not_lt.mpr K.new)
  ·rw[<- ea,Array.toArray_toList];exact hS'
 have hS₁:=K.old _ _ hS;refine wpAny_bind<|wpAny_holding<|Zq5 ⟨o,K.old _ _ g.get,g.ex.1⟩ ?_;refine wpAny_ite_split (λ_=>?_) λ_=>wpAny_pure ⟨plainId_quiet F.plain_extend_loop _,key _ c₀ _ K.st (λb o _ e=>K.old _ _ e) hS₁⟩;refine wpAny_bind<|wpAny_rule ?_;refine wpAny_bind ?_;show wpAny _ _ (updateSeq S (·.push .none) >>= λ_=>updateSeq S (·.pop)) _ _ _;refine wpAny_bind<|wpAny_updateSeq hS₁ rfl ?_;have hS₂:=Wbl (Obj.mapSeq (·.push Value.none)) hS₁ rfl;refine wpAny_updateSeq (hz:=by seq_fits) hS₂ rfl ?_;have hS₃:=Wbl (Obj.mapSeq (·.pop)) hS₂ rfl;refine wpAny_pure ⟨plainId_quiet F.plain_extend_loop _,key _ _ _ ?_ (λb o hb e=>?_) hS₃⟩
 ·refine K.W.frame 0 _ _ K.st λb hb o e=>?_
  have hbS:S≠b:=λh=>hSf (h ▸ hb);exact(Wa3 _ _ hbS).trans ((Wa3 _ _ hbS).trans e)
 ·exact(Wa3 _ _<|Ne.symm hb).trans ((Wa3 _ _<|Ne.symm hb).trans (K.old _ _ e))
theorem Zjq {R:List Value->Shared->Prop}{a:Addr}{o:Obj}{es:Array (Int × Value)}{ep:Nat}{t:SetTable}{ks:List Int}(hh:A.handled=none) (g:SetG prog w s.heap a o es ep t ks)
  (h:∀(h':Heap) (tk:Nat) dr (L:List (Int × Value)),(∀b o,s.heap.get? b=some o->h'.get? b=some o)->s.heap.objs.size<h'.objs.size->L.Perm es.toList->R (L.map (·.2)) { s with heap:=h',toks:=tk,drawn:=dr }) :
  wpAny (model prog w) A (collect (.ref a)) R E s:=by
 have hlt:a<s.heap.objs.size:=Wai g.get;unfold collect;refine wpAny_bind<|wpAny_runValue<|codeAny_builtin entry_proto_collect' ?_;rw[Around.under_plainId F.plain_proto_collect _];show wpAny _ A.in1 (newList [] >>= λl=>again (.builtin "list.__iadd__" ⟨[l,.ref a],[]⟩)) _ _ s;refine wpAny_bind<|wpAny_newList ?_;refine wpAny_pure ⟨plainId_quiet F.plain_list_iadd _,codeAny_builtin entry_list_iadd' ?_⟩;rw[Around.under_plainId F.plain_list_iadd _];show wpAny _ A.in1 (Builtin.List.listExtendWith (.ref s.heap.objs.size) (.ref a) (.ref s.heap.objs.size)) _ _ _;have hS₁:(s.heap.push<|seqObj "list" ([]:List Value).toArray 0).get? s.heap.objs.size=some { cls:=.type "list",data:=.seq #[] 0 }:=Wam _ rfl;have z:=Zl1 (A:=A) (s:={ s with heap:=s.heap.push (seqObj "list" ([]:List Value).toArray 0) })
  (R:=λ(q:Result) (s':Shared)=>∃(h':Heap) (tk:Nat) (dr:_) (c':Nat) (L:List (Int × Value)),q=.ok (.ret (.ref s.heap.objs.size))/\s' = { s with heap:=h',toks:=tk,drawn:=dr } ∧
   (∀b o,s.heap.get? b=some o->h'.get? b=some o)/\L.Perm es.toList/\h'.get? s.heap.objs.size=some { cls:=.type "list",dict:=none,data:=.seq (L.map (·.2)).toArray c',slots:=#[] })
  hh (g.keep λo e=>Wab _ e) (Wci hlt) (.ref s.heap.objs.size) hS₁
  λh' tk dr c' L hk hp hS'=>⟨h',tk,dr,c',L,rfl,rfl,λb o e=>hk b o (Wap<|Wai e)<|Wab _ e,hp,hS'⟩
 refine wpAny_mono z (λfin s' x=>?_) λe s' x=>?_
 ·cases fin with
  |done f=>
   obtain⟨h',tk,dr,c',L,e,rfl,hk,hp,hS'⟩:=x;cases e;show wpAny _ A (load s.heap.objs.size >>= _) _ _ _;refine wpAny_bind<|wpAny_load hS' ?_;exact wpAny_pure<|h h' tk dr L hk (Wai hS') hp
  |again c₁=>
   refine⟨x.1,codeAny_mono x.2 λq s₂ y=>?_⟩;obtain⟨h',tk,dr,c',L,rfl,rfl,hk,hp,hS'⟩:=y;show wpAny _ A (load s.heap.objs.size >>= _) _ _ _;refine wpAny_bind<|wpAny_load hS' ?_;exact wpAny_pure<|h h' tk dr L hk (Wai hS') hp
 ·obtain⟨h',tk,dr,c',L,e,_⟩:=x
  cases e
theorem Zgd:∀{vs:List Value},(∀v∈vs,∃t,v=.int (numOf v) t)->IntsAre vs (vs.map numOf)
 |[],_=>.nil
 |v::vs,h=>by
  obtain⟨t,e⟩:=h v (by simp);have:=Zgd (vs:=vs) λu hu=>h u<|Way _ hu;rw[Wbr];generalize numOf v=n at e ⊢;subst e;exact .cons _ t this
theorem Zlq {a:Addr}{ks:List Int}{Q:Value->Shared->Prop}(hh:A.handled=none) (hS:SetI prog w s.heap a ks) (h64:ks.length<64)
  (h:∀(h':Heap) (tk:Nat) dr (l:Addr) (out:List Value) (ms:List Int) (c:Nat),(∀b o,s.heap.get? b=some o->h'.get? b=some o)->s.heap.objs.size<=l->h'.get? l=some (seqObj "list" out.toArray c)->IntsAre out ms->ms.Perm ks->ms.Pairwise (· <= ·)->Q (.ref l) { s with heap:=h',toks:=tk,drawn:=dr }) :
  wpAny (model prog w) A (call (.builtin "sorted") [.ref a]) Q E s:=by
 obtain⟨o,es,ep,t,g⟩:=hS;refine Calls.call_function_entry kind_sorted plain_sorted entry_sorted (args_sorted1 _) ?_;unfold Builtin.«sorted»;refine wpAny_bind (m:=checkCount "sorted" 1 1 _)<|wpAny_pure ?_;refine wpAny_bind (Zjq hh g λh' tk dr L hk hsz hp=>?_);have hI:IntsAre (L.map (·.2)) ((L.map (·.2)).map numOf):=Zgd λv hv=>by
  obtain⟨e,he,rfl⟩:=Wbk.mp hv;exact Zkz g.el<|hp.mem_iff.mp he
 have hpk:((L.map (·.2)).map numOf).Perm ks:=by
  rw[Wba];exact(hp.map _).trans g.perm
 have hlen:(L.map (·.2)).length<64:=by
  have:=hpk.length_eq;rw[Wac]at this;omega
 refine wpAny_bind<|wpAny_newList ?_ (by rw[sizeLine_eq];omega);have hoL:(h'.push<|seqObj "list" (L.map (·.2)).toArray 0).get? h'.objs.size=some (seqObj "list" (L.map (·.2)).toArray 0):=Wam _ rfl;refine wpAny_bind<|wpAny_holding<|wpAny_call_entry slot_list_sort ⟨_,hoL,rfl⟩ entry_list_sort (list_sort_tree hoL hI hlen λout ms a1 a2 a3=>⟨_,rfl,?_⟩)<|args_list_sort _;obtain⟨c,hc⟩:=sortedHeap_at (out:=out) hoL;refine wpAny_pure ⟨_,rfl,h _ tk dr _ out.toList ms c (λb o e=>?_) (Wb8 hsz) (by rw[Array.toArray_toList];exact hc) a1 (a2.trans hpk) a3⟩;have hb:=hk b o e;have hbl:=Wai hb;rw[sortedHeap_old (Wap hbl) (by rw[size_push'];exact Wbe hbl)];exact Wab _ hb
end
end L2
namespace L2
open PySem PySem.Spec PyProof.Rows PySem.SeqAt
section
variable {X:Cx}
theorem Inv.drew {pins:List (Addr × Obj)}{σ:List (Option V)}{H:Hp}{s:Shared}(I:Inv X pins σ H s) (dr:_):Inv X pins σ H { s with drawn:=dr }:=
 ⟨I.ok,I.os,I.bare,I.base,I.loc,I.cell,I.free,I.freeC,I.pin,I.hok,I.len⟩
theorem Zob {ms:List Int}(h1:ms.Pairwise (· <= ·)) (h2:ms.Nodup):ms.Pairwise (· < ·):=by
 have:=List.Pairwise.and h1 h2;exact this.imp λhq_=>by obtain⟨a,b⟩:=hq_;omega
theorem Zh4 {ns:List Int}{x:Int}:x∈metK (λi=>ns.getD i 0) ns.length↔x∈ns:=by
 rw[Zp3];constructor
 ·rintro⟨j,hj,rfl⟩
  rw[Wad,Waa hj];exact Wa4 hj
 ·intro h
  obtain⟨j,hj,rfl⟩:=List.getElem_of_mem h;exact⟨j,hj,by rw[Wad,Waa hj];rfl⟩
def tSS (K:W.Frag) (ta:TA):TE:=λσ H Q=>ta σ H λvs H1=>∃(p:Addr) (ns:List Int),vs=[.ref p]/\SqL K H1 p (ns.map V.int)/\ns.length<64/\∀(l:Addr) (ms:List Int),ms.Pairwise (· < ·)->(∀x,x∈ms↔x∈ns)->H1 l=none->Q (.ref l) (upd H1 l (.lst<|ms.map V.int))
theorem Zl6 {a:Expr}{ta:TA}{p p2 pos pos2:Pos}{K:W.Frag}(hK:X.K=K) (hc:X.calm=true) (hgL:Gl X "sorted") (hmL:X.mg "sorted" = none) (hgR:Gl X "set") (hmR:X.mg "set" = none) (ha:PA X [a] ta) (hs:starEach [a] X.env=[(false,eval a X.env)]:=by rfl)
  (he:starEach [.Call (.Name "set" p2) [a] [] pos2] X.env=[(false,eval (.Call (.Name "set" p2) [a] [] pos2) X.env)]:=by rfl) :
  PE X (.Call (.Name "sorted" p) [.Call (.Name "set" p2) [a] [] pos2] [] pos) (tSS K ta):=by
 subst hK;intro pins s σ H Q I h;refine wpAny_Call_Name_kw<|Zdw I hgL hmL Zi8 ?_;refine PyProof.Rows.callWith_builtin1 ?_ he rfl;rw[he];show wpAny _ _ (spliced ((false,eval (.Call (.Name "set" p2) [a] [] pos2) X.env)::backTo pos [])) _ _ s;refine Calls.spliced_cons ?_;refine wpAny_Call_Name_kw<|Zdw I hgR hmR Zry ?_;refine PyProof.Rows.callWith_type1 (thn (ha pos2 pins s σ H _ I h) λus s1 ⟨vs,H1,I1,r1,q1⟩=>?_) hs rfl;obtain⟨p,ns,e,hx,hl,q⟩:=q1;subst e;obtain⟨u,rfl,ru⟩:=vals1 r1;cases (show u=Value.ref p from ru);obtain⟨its,w1,p1,hz⟩:=I1.list hx;have hi:=Zcy w1;have hlen:=hi.length;refine Znu (I1.ok.hd hc) p1.isList (by simpa using hi) (by rw[Wan];unfold scanBound;omega) λh' tk hS hk=>?_;rw[show its.toArray.size=ns.length by rw[Wan];exact hlen]at hS;refine Calls.spliced_nil ?_;have I2:Inv X pins σ H1 { s1 with heap:=h',toks:=tk }:=I1.kept hk;have hm:=Zkc (λi=>ns.getD i 0) ns.length;refine Zlq (s:={ s1 with heap:=h',toks:=tk }) (I1.ok.hd hc) hS (by omega) λh2 tk2 dr l out ms c k2 hl2 ho2 hi2 hp2 hs2=>?_;have hml:=hp2.length_eq;have nd:ms.Nodup:=by
  obtain⟨_,_,_,_,g⟩:=hS;exact hp2.nodup_iff.mpr g.nd
 have I3:=(I2.laid (t':=tk2) k2 hl2 (show ObjOk X.prog X.w _ h2 l (.lst<|ms.map V.int) from ⟨by rw[Wac];exact Wb8 (small1000<|by omega),out,c,Zej hi2,ho2⟩)).drew dr;exact⟨.ref l,_,I3,rfl,q l ms (Zob hs2 nd) (λx=>hp2.mem_iff.trans Zh4)<|I2.hok.fresh hl2⟩
end
section
variable {K:W.Frag}{Δ:Evt}
theorem Zwq {ta:TA}{Po:OD->Evt->Prop}(h:JA K ta Δ λds Δ1=>∃ns:List Int,ds=[.lst (ns.map .int)]/\ns.length<64/\∀ms:List Int,ms.Pairwise (· < ·)->(∀x,x∈ms↔x∈ns)->Po (.lst<|ms.map .int) Δ1):JO K (tSS K ta) Δ Po:=λg G H σ Q k c=>
 h g G H σ _ k λvs ds G1 H1 Δ1 k1 s1 r1 hq_=>by
  obtain⟨ns,e,hl,p⟩:=hq_;subst e;obtain⟨_,_,rfl,r,t⟩:=r1.inv
  next=>
   cases t.inv;obtain⟨a,us,rfl,ha,rr⟩:=r.inv
   next=>
    have ev:=rr.ints;subst ev;refine⟨a,ns,rfl,SqL.of<|k1.live _ _ ha,hl,λl ms o1 o2 hl=>?_⟩;obtain⟨k2,pd⟩:=k1.fresh (od:=.lst<|ms.map .int) hl (show OwnRep K G1 (.lst<|ms.map V.int) (.lst<|ms.map .int) from Reps.ofInts ms);exact c l _ G1 _ Δ1 k2 s1 pd<|p ms o1 o2
end
structure CompScK (osc:Scope) (oN:List Str) (y:Str) (scope:Scope) (fvs:List Str) (sel:List Nat):Prop where
 kind:scope.kind=.function
 one:scope.names.filter (λz=>z.2 == .cell)=[(y,.cell)]
 own:∀z∈scope.names,z.1=y->z.2=.cell
 names:∀z∈scope.names,z.2=.local->scope.names.lookup z.1=some .local
 free:∀z∈scope.names,z.2=.free->osc.names.lookup z.1=some .cell\/osc.names.lookup z.1=some .free
 len:fvs.length=sel.length
 fv:∀p∈fvs.zip sel,oN[p.2]?=some p.1/\scope.names.lookup p.1=some .free
def compCxK (X:Cx) (y:Str) (scope:Scope) (N:List Str) (C:Addr) (s:Shared) (H:Hp) (ex:List Addr) (pn:List (Addr × Obj)):Cx:=
 { compCx X scope N C s H ex pn with env:=compEnvC scope ((y,C+1)::clOf X.env scope.names []) C X.env,fn:=λx=>x == y }
theorem Zc7 {y:Str}:∀(names:List (Str × NameKind)) (n:Nat) (acc:List (Str × Addr)),(names.filter (λz=>z.2 == .cell)=[]->cellsFrom n names acc=acc)/\(names.filter (λz=>z.2 == .cell)=[(y,.cell)]->cellsFrom n names acc=(y,n)::acc)
 |[],n,acc=>⟨λ_=>rfl,λh=>by simp at h⟩
 | (x,k)::r,n,acc=>by
  unfold cellsFrom;rw[Wbo];cases hk:k == NameKind.cell with
  |true=>
   simp only[hk,if_true];refine⟨λh=>by simp at h,λh=>?_⟩;have h1:=(List.cons.inj h).1;have h2:=(List.cons.inj h).2;cases h1;exact(Zc7 (y:=y) r (n+1) _).1 h2
  |false=>
   simp only[hk,Wa7,if_false];exact Zc7 r n acc
theorem Zc8 {y:Str}:∀(names:List (Str × NameKind)) (h:Heap),(names.filter (λz=>z.2 == .cell)=[]->pushCells h names=h)/\(names.filter (λz=>z.2 == .cell)=[(y,.cell)]->pushCells h names=h.push { cls:=.type "cell",data:=.cell none })
 |[],h=>⟨λ_=>rfl,λh=>by simp at h⟩
 | (x,k)::r,h=>by
  unfold pushCells;rw[Wbo];cases hk:k == NameKind.cell with
  |true=>
   simp only[hk,if_true];exact⟨λh=>by simp at h,λe=>(Zc8 (y:=y) r _).1 (List.cons.inj e).2⟩
  |false=>
   simp only[hk,Wa7,if_false];exact Zc8 r h
section
variable {X:Cx}{pins:List (Addr × Obj)}{σ:St}{H:Hp}{s:Shared}{fp:List Addr}{scope:Scope}{tgs fvs:List Str}{sel:List Nat}{y:Str}
theorem newEnvK {M:Model}{A:Around}{E:Value->Shared->Prop}{osc:Scope}{oN:List Str}{g:Addr}{cl:List (Str × Addr)}{qual:Str}{env:Env}{Q:Env->Shared->Prop}(S:CompScK osc oN y scope fvs sel)
  (q:∀h',h'.Ns s.heap.objs.size (λ_=>none)->h'.IsCell (s.heap.objs.size+1) none->(∀b o,s.heap.get? b=some o->h'.get? b=some o) →
   Q { scope,locals:=s.heap.objs.size,globals:=g,cells:=(y,s.heap.objs.size+1)::cl,qual,func:=none,code:=env.code,frame:=env.frame,builtins:=env.builtins } { s with heap:=h' }) :
  wpAny M A (newFunctionEnv scope g cl [] qual none .none<|some env) Q E s:=by
 simp only[newFunctionEnv,Option.isSome_some,if_true];refine wpAny_bind<|wpAny_alloc ?_;refine wpAny_bind<|wpAny_layCells _ (λname kind cells=>by cases hkc:kind == NameKind.cell <;> simp[hkc]) _ _ _ _ ?_
 have hsz:(s.heap.push { cls:=.type "dict",data:=.dict #[] }).objs.size=s.heap.objs.size+1:=Wb4 ..;rw[(Zc7 (y:=y) _ _ _).2 S.one,(Zc8 (y:=y) _ _).2 S.one];show wpAny M A _ Q E { s with heap:=(s.heap.push { cls:=.type "dict",data:=.dict #[] }).push { cls:=.type "cell",data:=.cell none } };refine wpAny_bind<|wpAny_pure<|wpAny_pure ?_;have hc:((s.heap.push { cls:=.type "dict",data:=.dict #[] }).push { cls:=.type "cell",data:=.cell none }).get? (s.heap.objs.size+1)=some { cls:=.type "cell",data:=.cell none }:=by
  rw[<- hsz];exact Wam _ rfl
 have z:=q _ ((Heap.Ns.new s.heap (.type "dict")).keeps λb o e=>Wab { cls:=.type "cell",data:=.cell none } e) ⟨_,hc,rfl⟩ λb o e=>Wab _<|Wab _ e;rw[<- hsz]at z;exact z
theorem ownK {env:Env}{names:List (Str × NameKind)}{n:Nat}{x:Str}{c:Addr}(e:((y,n)::clOf env names []).lookup x=some c):(x=y/\c=n)\/env.cells.lookup x=some c:=by
 rw[Wbt]at e;split at e
 ·rename_i h
  cases e;exact .inl ⟨by simpa using h,rfl⟩
 ·exact .inr<|Za5 _ _ (λ_ _ z=>by simp at z) e
theorem Zfx (S:CompScK X.env.scope X.N y scope fvs sel) (ok:X.Ok):∀n,(n,NameKind.free)∈scope.names->∃a,X.env.cells.lookup n=some a:=λn hn=>
 ok.has n (S.free _ hn rfl)
theorem Zpr (S:CompScK X.env.scope X.N y scope fvs sel) (N:List Str) (I:Inv X pins σ H s) (hf:∀b∈fp,FpOk X pins H b) (hlt:∀b∈fp,b<s.heap.objs.size):(compCxK X y scope N s.heap.objs.size s H fp<|X.pn++pins).Ok where
 mod:=I.ok.mod
 kind:=S.kind
 glob:=I.ok.glob
 blt:=I.ok.blt
 above:=Waf _
 inj:=λx z c h1 h2=>by
  have old:∀x,X.env.cells.lookup x=some c->c≠s.heap.objs.size+1:=λx e=>by
   obtain⟨v,q⟩:=I.cell x c e;exact Wap<|Wbe q.lt
  rcases ownK h1 with ⟨a,b⟩|a
  ·rcases ownK h2 with ⟨a',b'⟩|a'
   ·rw[a,a']
   ·exact absurd b<|old _ a'
  ·rcases ownK h2 with ⟨a',b'⟩|a'
   ·exact absurd b'<|old _ a
   ·exact I.ok.inj x z c a a'
 has:=λx hx=>by
  by_cases hxy:x=y
  ·subst hxy
   exact⟨s.heap.objs.size+1,by show ((x,_)::clOf X.env scope.names []).lookup x=_;simp⟩
  have hm:(x,NameKind.free)∈scope.names:=by
   have key:∀k,(k=.cell\/k=.free)->(relab X.env.scope scope).names.lookup x=some k->(x,NameKind.free)∈scope.names:=λk hk h=>by
    obtain⟨⟨n,j⟩,hy,e⟩:=Wbk.mp<|PySem.mem_of_lookup h;dsimp only at e;split at e
    ·rename_i hj
     have e1:n=x:=congrArg Prod.fst e;have hj':j=.free:=by
      simp only[Waz,beq_iff_eq]at hj;exact hj.1.1
     rw[<- e1,<- hj'];exact hy
    ·have e1:n=x:=congrArg Prod.fst e
     have e2:j=k:=congrArg Prod.snd e;rcases hk with z|z
     ·have hin:((n,j):Str × NameKind)∈scope.names.filter (λz=>z.2 == .cell):=Wa0.mpr ⟨hy,by rw[e2,z];rfl⟩
      rw[S.one,Wbi]at hin;exact absurd (e1.symm.trans<|congrArg Prod.fst hin) hxy
     ·rw[<- e1,<- z,<- e2];exact hy
   rcases hx with z|z
   ·exact key _ (.inl rfl) z
   ·exact key _ (.inr rfl) z
  obtain⟨c,hc⟩:=Zcm scope.names [] hm (Zfx S I.ok x hm);exact⟨c,by
   show ((y,_)::clOf X.env scope.names []).lookup x=_;rw[Wbt,show (x == y)=false from by simpa using hxy];exact hc⟩
 cab:=λx c h e=>by
  rcases ownK e with ⟨_,z⟩|z
  ·rw[z];exact Wca _
  ·have hx:x=y:=by simpa using (show (x == y)=true from h)
   subst hx;have:((x,s.heap.objs.size+1)::clOf X.env scope.names []).lookup x=some c:=e;simp at this;rw[<- this];exact Wca _
 hd:=I.ok.hd
 frames:=I.ok.frames
 stk:=.inl rfl
 exf:=λb hb=>⟨Wap (hlt b hb),λx c e=>by
  rcases ownK e with ⟨_,z⟩|z
  ·rw[z];exact Wci<|Wbe<|hlt b hb
  ·exact(hf b hb).2.2.2.2.1 x c z⟩
 bs:=I.bs
 bsz:=Wa8 I.ok.bsz I.sz
 noex:=λb o e hb=>by
  rcases(hf b hb).2.2.2.1 with z|z
  ·exact I.ok.noex b o e z
  ·exact absurd (Wau (Wai e)<|Wa8 I.ok.bsz z)<|Wb3 _
 exfs:=λb hb z=>by
  rcases War.mp (I.stkSub b z) with e|z
  ·exact(hf b hb).2.1 e
  ·exact(hf b hb).2.2.1 z
 funs:=I.stack
 frf:=I.stkFree
theorem Zme (S:CompScK X.env.scope X.N y scope fvs sel) (I:Inv X pins σ H s) (hf:∀b∈fp,FpOk X pins H b) (hlt:∀b∈fp,b<s.heap.objs.size) {h':Heap}{tk:Nat}{m:Str->Option Value}
  (hns:h'.Ns s.heap.objs.size m) (hcl:h'.IsCell (s.heap.objs.size+1) none) (old:∀b o,s.heap.get? b=some o->h'.get? b=some o) :
  Inv (compCxK X y scope (tgs++fvs) s.heap.objs.size s H fp<|X.pn++pins) [] (compSt tgs.length sel σ) H { s with heap:=h',toks:=tk } where
 ok:=Zpr S _ I hf hlt
 os:=rfl
 bare:=I.bare
 base:=Un.kept old
 loc:=by
  refine⟨m,hns,λi x v h1 h2 h3=>?_⟩;have h1:(tgs++fvs)[i]?=some x:=h1;unfold compSt at h2;by_cases hi:i<tgs.length
  ·rw[Wa9 (by simpa using hi),Wbm,if_pos hi]at h2
   cases h2
  ·have hi':tgs.length<=i:=Nat.le_of_not_lt hi
   rw[Wav (by simpa using hi'),Wah,Waq]at h2;rw[Wav hi']at h1;cases hj:sel[i-tgs.length]? with
   |none=>rw[hj]at h2;cases h2
   |some j=>
    rw[hj]at h2;have h2:(σ[j]?).getD none=some v:=by simpa using h2
    have hz:(x,j)∈fvs.zip sel:=by
     refine Wax (i:=i-tgs.length) ?_;rw[Wco];exact⟨h1,hj⟩
    obtain⟨hN,hfr⟩:=S.fv _ hz;have hσ:σ[j]?=some (some v):=by
     cases q:σ[j]? with
     |none=>rw[q]at h2;cases h2
     |some o=>rw[q]at h2;exact congrArg some h2
    have hko:X.env.scope.names.lookup x=some .cell\/X.env.scope.names.lookup x=some .free:=S.free (x,.free) (PySem.mem_of_lookup hfr) rfl;obtain⟨m0,hn0,hl0⟩:=I.loc;obtain⟨u,r,l⟩:=hl0 j x v hN hσ (.inr hko);refine⟨u,r,.inr ⟨Zeq hfr,?_⟩⟩;rcases l with ⟨hk,_⟩|⟨_,c,hc,hcell⟩
    ·have hk:X.env.scope.names.lookup x=some .local:=hk
     rcases hko with z|z <;> (rw[hk]at z;cases z)
    ·obtain⟨c',hc'⟩:=Zcm scope.names [] (PySem.mem_of_lookup hfr) ⟨c,hc⟩
     have e:=Za5 scope.names [] (λ_ _ z=>by simp at z) hc';rw[hc]at e;cases e;obtain⟨o,ho,hd⟩:=hcell;have hxy:(x == y)=false:=by
      cases q:x == y with
      |false=>rfl
      |true=>
       have:x=y:=by simpa using q
       have:=S.own (x,.free) (PySem.mem_of_lookup hfr) this;cases this
     exact⟨c,by show ((y,s.heap.objs.size+1)::clOf X.env scope.names []).lookup x=some c;rw[Wbt,hxy];exact hc',o,old _ _ ho,hd⟩
 cell:=λx c e=>by
  rcases ownK e with ⟨_,z⟩|z
  ·rw[z];exact⟨none,hcl⟩
  ·obtain⟨v,o,ho,hd⟩:=I.cell x c z
   exact⟨v,o,old _ _ ho,hd⟩
 free:=I.hok.fresh<|Waf _
 freeC:=λx c e=>by
  rcases ownK e with ⟨_,z⟩|z
  ·rw[z];exact I.hok.fresh<|Wca _
  ·exact I.freeC x c z
 pin:=λp hp=>by
  have hp:p∈(X.pn++pins)++[]:=hp;rw[Wbb]at hp;obtain⟨e,n,ne,nf,d⟩:=I.pin p hp;refine⟨old _ _ e,n,Wap<|Wai e,λz=>?_,d⟩;rcases War.mp (I.stkSub p.1 z) with q|q
  ·exact ne q
  ·exact nf q
 hok:=I.hok.kept old
 len:=by
  unfold compSt;show _=(tgs++fvs).length;rw[Wao,Wao,Waq,Wac,S.len]
theorem Zl3 {N:List Str}{σ':St}{H':Hp}{s':Shared}{h':Heap}(I:Inv X pins σ H s) (hf:∀b∈fp,FpOk X pins H b)
  (J:Inv (compCxK X y scope N s.heap.objs.size s H fp<|X.pn++pins) [] σ' H' s') (sb:Heap.SameBut s.heap.objs.size s'.heap h'):Inv X pins σ H' { s' with heap:=h' }:=by
 have B:Un (frs X.stack) fp H H' s.heap s'.heap:=J.base;have ne:∀b o,s.heap.get? b=some o->b≠s.heap.objs.size:=λb o e=>Wap<|Wai e;have fr:H' s.heap.objs.size=none:=J.free;refine I.call' (s':={ s' with heap:=h' }) (ch:=fp) J.os ⟨λb o e n h1 h2=>?_,λb o e n h1 h2=>?_,B.free,λb o e h2=>?_,B.tups,B.frzs,B.tbls⟩ (λb ob e=>?_) J.bare λb hb=>?_
 ·exact(sb.2 b<|ne b o e).trans (B.keep b o e n h1 h2)
 ·obtain⟨sl,q⟩:=B.slot b o e n h1 h2
  exact⟨sl,(sb.2 b<|ne b o e).trans q⟩
 ·obtain⟨o',q⟩:=B.there b o e h2
  exact⟨o',(sb.2 b<|ne b o e).trans q⟩
 ·refine(J.hok b ob e).stay (λc w' hc q=>(sb.2 c ?_).trans q) (λ_ q=>q) λ_ _ q=>q
  intro z;rcases hc with hc|hc
  ·rw[<- hc,z,fr]at e;cases e
  ·rw[z,fr]at hc;cases hc
 ·exact⟨(hf b hb).2.2.2.1,(hf b hb).2.1,(hf b hb).2.2.2.2.1,(hf b hb).2.2.2.2.2⟩
end
section
variable {X:Cx}
theorem Zl4 {y:Str}{elt tg iter:Expr}{ifs:List Expr}{scope:Scope}{pos:Pos}{tgs fvs:List Str}{sel:List Nat}{g:TG}{tc:TT}{te:TE}(S:CompScK X.env.scope X.N y scope fvs sel) (hc:X.calm=true)
  (hg:∀C s H ex pn,PG (compCxK X y scope (tgs++fvs) C s H ex pn) tg g) (ht:∀C s H ex pn,PTs (compCxK X y scope (tgs++fvs) C s H ex pn) ifs tc) (he:∀C s H ex pn,PE (compCxK X y scope (tgs++fvs) C s H ex pn) elt te)
  {pins:List (Addr × Obj)}{σ:St}{s:Shared}{itv:Value}{Q:VK}{E:Value->Shared->Prop}{RR:Value->Addr->Result->Shared->Prop}
  (h2:PIE X pins σ tg (λJ H1=>∀acc,H1 acc=none->∃W:Nat->Nat->St->Hp->Prop,
   (∃m,W 0 m (compSt tgs.length sel σ) (upd H1 acc (.lst [])))/\∀i m σ' H',W i m σ' H' →
   (J.stop i H' /\ Q (.ref acc) H')\/(J.go i H' /\ ∃N:St->Hp->Prop,(∀σ2 H2,N σ2 H2->∃m',m'<m/\W (i+1) m' σ2 H2) ∧
   ∀x H2,J.yld i H' x H2->g x σ' H2 λσ2 H3=>tc σ2 H3 λb H4=>if b=true then te σ2 H4 λy H5=>∃ys,H5 acc=some (.lst ys)/\ys.length<sizeLine/\N σ2 (upd H5 acc (.lst (ys++[y]))) else N σ2 H4)) itv s)
  (fin:∀(s':Shared) (C acc:Addr) (H':Hp) (m:Str->Option Value),s'.heap.Ns C m->FpOk X pins H' C->(∀h',Heap.SameBut C s'.heap h' -> Inv X pins σ H' { s' with heap:=h' })->Q (.ref acc) H' -> RR (.ref acc) C (.ok .next) s') :
  wpAny (model X.prog X.w) X.A (newList []) (λacc s3=>wpAny (model X.prog X.w) X.A (newFunctionEnv scope X.env.globals (clOf X.env scope.names []) [] X.env.qual none .none (some X.env)) (λcenv s4=>
   codeAny (model X.prog X.w) X.A (.compStart (.ListComp elt [⟨tg,iter,ifs,0⟩] scope pos) 0 itv acc { cenv with scope:=relabel scope X.env }) (RR acc cenv.locals) s4) E s3) E s:=by
 obtain⟨it,fp,tn,J,H1,e,I,T,st,f2,h2⟩:=h2;subst e;have hlt:∀b∈fp,b<s.heap.objs.size:=λb hb=>let ⟨o,ho,_⟩:=T.obj 0 _ st b hb; Wai ho
 refine wpAny_newObj_type (newEnvK S λh1 hns hcl old=>?_);dsimp only at hns hcl old ⊢;have I3:Inv X pins σ (upd H1 s.heap.objs.size (.lst [])) { s with heap:=s.heap.push { cls:=.type "list",data:=.seq ([]:List Value).toArray },toks:=s.toks }:=I.lnew (its:=[]) .nil (by decide);have hacc:H1 s.heap.objs.size=none:=I.hok.fresh<|Waf _;obtain⟨W,⟨m0,w0⟩,turn⟩:=h2 s.heap.objs.size hacc;generalize hs3:({ s with heap:=s.heap.push { cls:=.type "list",data:=.seq ([]:List Value).toArray },toks:=s.toks }:Shared)=s3 at I3;have hh3:s3.heap=s.heap.push { cls:=.type "list",data:=.seq ([]:List Value).toArray }:=by rw[<- hs3]
 have old3:∀b o,s.heap.get? b=some o->s3.heap.get? b=some o:=λb o q=>by rw[hh3];exact Wab _ q
 have hf3:∀b∈fp,FpOk X pins (upd H1 s.heap.objs.size (.lst [])) b:=λb hb=>⟨by rw[Zak (Wap<|hlt b hb)];exact(f2 b hb).1,(f2 b hb).2⟩;have hlt3:∀b∈fp,b<s3.heap.objs.size:=λb hb=>by rw[hh3,Wb4];exact Wbe<|hlt b hb
 have tn3:tn 0 s3.heap:=T.keep 0 _ _ st λb hb o q=>old3 b o q;have old4:∀b o,s3.heap.get? b=some o->h1.get? b=some o:=λb o q=>by
  rw[hh3]at q;exact old b o q
 have tn4:tn 0 h1:=T.keep 0 _ _ tn3 λb hb o q=>old4 b o q;have hC:(s.heap.push { cls:=.type "list",data:=.seq ([]:List Value).toArray }).objs.size=s3.heap.objs.size:=by rw[hh3]
 rw[hC]at hns hcl;have J0:=Zme (tgs:=tgs) (tk:=s.toks) S I3 hf3 hlt3 hns hcl old4;have es:({ s3 with heap:=h1,toks:=s.toks }:Shared) = { s with heap:=h1,toks:=s.toks }:=by rw[<- hs3]
 rw[es]at J0;generalize hY:compCxK X y scope (tgs++fvs) s3.heap.objs.size s3 (upd H1 s.heap.objs.size (.lst [])) fp (X.pn++pins)=Y at J0;have hYp:Y.prog=X.prog:=by rw[<- hY];rfl
 have hYw:Y.w=X.w:=by rw[<- hY];rfl
 have hYK:Y.K=X.K:=by rw[<- hY];rfl
 have hYA:Y.A=X.A:=by rw[<- hY];rfl
 have hYc:Y.calm=true:=by rw[<- hY];exact hc
 have hYx:Y.xe=λ_ _=>False:=by rw[<- hY];rfl
 have hYe:Y.env=compEnvC scope ((y,s3.heap.objs.size+1)::clOf X.env scope.names []) s3.heap.objs.size X.env:=by rw[<- hY];rfl
 have stat:∀{H':Hp},(∀b∈fp,H' b=none)->∀b∈fp,FpOk Y [] H' b:=λhn b hb=>by
  rw[<- hY];refine⟨hn b hb,Wap<|hlt3 b hb,λz=>?_,.inl hb,λx c e=>?_,λp hp z=>?_⟩
  ·rcases War.mp (I3.stkSub b z) with q|q
   ·exact(hf3 b hb).2.1 q
   ·exact(hf3 b hb).2.2.1 q
  ·rcases ownK e with ⟨_,z⟩|z
   ·rw[z];exact Wci<|Wbe<|hlt3 b hb
   ·exact(hf3 b hb).2.2.2.2.1 x c z
  ·have hp:p∈(X.pn++pins)++[]:=hp
   rw[Wbb]at hp;exact(hf3 b hb).2.2.2.2.2 p hp z
 have loop:codeAny (model X.prog X.w) X.A (.compLoop (.ListComp elt [⟨tg,iter,ifs,0⟩] scope pos) 0 (.ref it) (.ref s.heap.objs.size) Y.env) (RR (.ref s.heap.objs.size) s3.heap.objs.size)
   { s with heap:=h1,toks:=s.toks }:=by
  refine codeAny_loop rfl (λn s'=>∃i σ' H',Inv Y [] σ' H' s' /\ tn i s'.heap/\(∀b∈fp,H' b=none)/\W i n σ' H') ?_ m0 ⟨0,_,_,J0,tn4,λb hb=>(hf3 b hb).1,w0⟩;rintro n s5 ⟨i,σ5,H5,I5,st5,fr5,w5⟩;show wpAny _ X.A ((compTurn (.ListComp elt [⟨tg,iter,ifs,0⟩] scope pos) 0 (.ref it) (.ref s.heap.objs.size) Y.env).onRaise (λx=>do noteFrame x Y.env;theTreesLotGoes x)) _ _ s5;refine wpAny_noted (wpAny_mono (E:=λ_ _=>False) ?_ (λ_ _ q=>q) λ_ _ z=>z.elim);rw[compTurn_list];refine wpAny_bind<|wpAny_standAt<|wpAny_bind ?_;rcases turn i n σ5 H5 w5 with ⟨stop,qn⟩|⟨go,N,hN,step⟩
  ·have D:=T.done Y hYp hYw hYK hYc i [] s5 σ5 H5 (λ_ _=>False) I5 (stat fr5) st5 stop
   rw[hYA]at D;refine thn D λr s6 ⟨hr,I6⟩=>?_;subst hr;refine wpAny_pure ?_;obtain⟨m6,hn6,_⟩:=I6.loc;rw[hYe]at hn6;refine fin s6 _ _ H5 m6 hn6 (I3.fpOk (Waf _) (by have z:=I6.free;rw[hYe]at z;exact z)) (λh' sb=>?_) qn;have I6':Inv (compCxK X y scope (tgs++fvs) s3.heap.objs.size s3 (upd H1 s.heap.objs.size (.lst [])) fp<|X.pn++pins) [] σ5 H5 s6:=by rw[hY];exact I6
   exact Zl3 I3 hf3 I6' sb
  ·have D:=T.item Y hYp hYw hYK hYc i [] s5 σ5 H5 (λ_ _=>False) I5 (stat fr5) st5 go
   rw[hYA]at D;refine thn D λr s6 ⟨u,hr,h6⟩=>?_;subst hr;refine wpAny_bind (thn h6 λ_ s7 ⟨x,H7,I7,r7,y7,st7,fr7⟩=>?_);have I7':=I7.pinned (stat fr7)<|T.obj _ _ st7;have G:=hg s3.heap.objs.size s3 (upd H1 s.heap.objs.size (.lst [])) fp<|X.pn++pins;have TT:=ht s3.heap.objs.size s3 (upd H1 s.heap.objs.size (.lst [])) fp<|X.pn++pins;have EE:=he s3.heap.objs.size s3 (upd H1 s.heap.objs.size (.lst [])) fp<|X.pn++pins;rw[hY]at G TT EE;have G1:=G _ s7 σ5 H7 x u _ I7' r7<|step x H7 y7;rw[hYp,hYw,hYA,hYx]at G1;refine wpAny_bind (thn G1 λ_ s8 ⟨σ8,H8,I8,q8⟩=>?_);have T1:=TT _ s8 σ8 H8 _ I8 q8;rw[hYp,hYw,hYA,hYx]at T1;refine wpAny_bind (thn T1 λok s9 ⟨H9,I9,q9⟩=>?_);have again:∀{s':Shared}{σ':St}{H':Hp},Inv Y ([]++pinsAt fp s7.heap) σ' H' s' -> N σ' H' -> ∃m,m<n/\∃i σ' H',Inv Y [] σ' H' s' /\ tn i s'.heap/\(∀b∈fp,H' b=none)/\W i m σ' H':=λ{s' σ' H'} K7 n7=>by
    obtain⟨m',hm,w7⟩:=hN σ' H' n7;refine⟨m',hm,i+1,σ',H',K7.unpinned,T.keep _ _ _ st7 λb hb o e=>(K7.pin (b,o)<|Waw _<|Waw _<|Zb0 hb e).1,λb hb=>?_,w7⟩;obtain⟨o,e,d⟩:=T.obj _ _ st7 b hb;exact(K7.pin (b,o)<|Waw _<|Waw _<|Zb0 hb e).2.1
   cases ok with
   |false=>
    have q9:N σ8 H9:=q9;exact wpAny_pure ⟨by rw[hYe],again I9 q9⟩
   |true=>
    have q9:te σ8 H9 λy H5=>∃ys,H5 s.heap.objs.size=some (.lst ys)/\ys.length<sizeLine/\N σ8 (upd H5 s.heap.objs.size (.lst<|ys++[y])):=q9;have E1:=EE _ s9 σ8 H9 _ I9 q9;rw[hYp,hYw,hYA,hYx]at E1;refine wpAny_bind<|wpAny_bind (thn E1 λv sa ⟨y,Ha,Ia,ra,ys,ea,za,na⟩=>?_);have M:=Zbc (X:=Y) _ sa σ8 Ha (.ref s.heap.objs.size) [y] (.ref s.heap.objs.size) [v] (λ_ H=>N σ8 H) Ia rfl (.cons ra .nil) ⟨_,ys,y,rfl,rfl,ea,za,na⟩;rw[hYp,hYw,hYA,hYx]at M;refine wpAny_bind (thn M λ_ sb ⟨_,Hb,Ib,_,nb⟩=>wpAny_pure<|wpAny_pure ⟨by rw[hYe],again Ib nb⟩)
 have hcs:(relabel scope X.env)=(relabel scope X.env):=rfl;have loop':=loop;rw[hYe]at loop';show codeAny (model X.prog X.w) X.A (.compStart (.ListComp elt [⟨tg,iter,ifs,0⟩] scope pos) 0 (.ref it) (.ref s.heap.objs.size)<|compEnvC scope ((y,(s.heap.push { cls:=.type "list",data:=.seq ([]:List Value).toArray }).objs.size+1)::clOf X.env scope.names []) (s.heap.push { cls:=.type "list",data:=.seq ([]:List Value).toArray }).objs.size X.env) (RR (.ref s.heap.objs.size) (s.heap.push { cls:=.type "list",data:=.seq ([]:List Value).toArray }).objs.size) _;rw[hC];exact codeAny_compStart_list loop'<|T.self _ 0 _ _ _ tn4 loop'
theorem Zn0 {y:Str}{elt tg iter:Expr}{ifs:List Expr}{scope:Scope}{pos:Pos}{fvs:List Str}{sel:List Nat}{wi:TI}{g:TG}{tc:TT}{te:TE}(tgs:List Str) (S:CompScK X.env.scope X.N y scope fvs sel) (hc:X.calm=true)
  (hi:PI X tg iter wi) (hg:∀C s H ex pn,PG (compCxK X y scope (tgs++fvs) C s H ex pn) tg g) (ht:∀C s H ex pn,PTs (compCxK X y scope (tgs++fvs) C s H ex pn) ifs tc) (he:∀C s H ex pn,PE (compCxK X y scope (tgs++fvs) C s H ex pn) elt te)
  (hs:∀x,foldedSetIterable iter X.env x=pure x:=by intro _;rfl) :
  PE X (.ListComp elt [⟨tg,iter,ifs,0⟩] scope pos) (tComp tgs.length sel wi g tc te):=by
 intro pins s σ H Q I h;rw[eval_ListComp];refine wpAny_comprehension_free (use:=none) rfl hs (Zbd<|Zfx S I.ok) S.kind S.names (thn (hi pins s σ H _ I h) λv s1 h1=>thn h1 λitv s2 h2=>?_);refine Zl4 S hc hg ht he (RR:=λacc C=>compPost (model X.prog X.w) X.A X.xe none (EP X pins σ Q) acc C) (Q:=Q) h2 ?_;intro s' C acc H' m hn _ hI q;exact⟨m,hn,λh' sb=>⟨.ref acc,H',hI h' sb,rfl,q⟩⟩
end
open PySem PySem.Spec PyProof.Rows PySem.SeqAt
section
variable {X:Cx}
theorem intsAt {its:List Value}{ns:List Int}(hi:IntsAre its ns):∀j (h:j<its.length),∃t,its[j]=.int (ns.getD j 0) t:=by
 induction hi with
 |nil=>intro j h;simp at h
 |cons n t _ ih=>
  intro j h;cases j with
  |zero=>exact⟨t,rfl⟩
  |succ j=>simpa using ih j (by simpa using h)
theorem Zfn (ns:List Int):∀k,k<=ns.length->preSum (λi=>ns.getD i 0) k=(ns.take k).sum
 |0,_=>by rw[Wc7];rfl
 |k+1,hk=>by
  show preSum _ k+ns.getD k 0=_;have e:ns.take (k+1)=ns.take k++[ns[k]]:=by rw[Wbw,Waa (by omega:k<ns.length)];rfl
  rw[Zfn ns k (by omega),e,List.sum_append,Wad,Waa (by omega:k<ns.length)];show _+ns[k]=_+(ns[k]+0);rw[Int.add_zero]
def rSum (K:W.Frag):List V->Hp->VK->Prop:=λxs H Q=>∃(p:Addr) (ns:List Int),xs=[.ref p]/\SqL K H p (ns.map V.int)/\Q (.int ns.sum) H
theorem sumK (K:W.Frag) (hc:X.calm=true) (hK:X.K=K:=by rfl):CallR X (.builtin "sum") (rSum K):=by
 subst hK;intro pins s σ H xs us Q I r h;obtain⟨p,ns,rfl,hx,q⟩:=h;obtain⟨u,rfl,ru⟩:=vals1 r;cases (show u=Value.ref p from ru);obtain⟨its,w1,p1,_⟩:=I.list hx;have hi:=Zcy w1;have hlen:=hi.length;have hlt:p<s.heap.objs.size:=by obtain⟨o,e,_⟩:=p1.isList;exact Wai e
 refine call_sum_walkG<|wpAny_pyIter_list p1.isList ?_;refine⟨s.heap.objs.size,_,_,_,_,_,λi=>ns.getD i 0,rfl,Walks.list (prog:=X.prog) (w:=X.w) (A:=X.A.in1) (show X.A.in1.handled=none from I.ok.hd hc) s.heap.objs.size p (Wap hlt) its.toArray,⟨⟨_,Wam _ rfl,rfl,rfl⟩,p1.isList.push _⟩,?_,?_,λh' tk t' hk=>?_⟩
 ·intro b hb
  show b<(s.heap.push _).objs.size;rw[size_push'];simp only[War,Wcb,or_false]at hb;rcases hb with z|z
  ·rw[z];exact Nat.lt_succ_self _
  ·rw[z];exact Wbe hlt
 ·intro i v hv
  have hv:its[i]?=some v:=by simpa using (show its.toArray[i]?=some v from hv)
  obtain⟨h1,h2⟩:=Wag.mp hv;obtain⟨t,e⟩:=intsAt hi i h1;exact⟨t,by rw[<- h2,e]⟩
 ·have e:preSum (λi=>ns.getD i 0) its.toArray.size=ns.sum:=by
   rw[Wan,show its.length=ns.length by omega,Zfn ns _ (Waf _),Wbx]
  rw[e];have I0:Inv X pins σ H { s with heap:=s.heap.push { cls:=.type "list_iterator",data:=.fields #[.ref p,.int 0 0] },toks:=s.toks }:=I.kept λb o e=>Wab _ e;have fp:=I.fpOk (b:=s.heap.objs.size) (H':=H) (Waf _)<|I.hok.fresh<|Waf _;exact⟨.int ns.sum,H,I0.turned (it:=s.heap.objs.size) (λb o hb e=>hk b o (by simpa using hb) e) (I.hok.fresh<|Waf _) (Wci I.lt) (.inr I.sz) fp.2.2.2.2.1 fp.2.2.2.2.2,⟨_,rfl⟩,q⟩
end
section
variable {K:W.Frag}{Δ:Evt}{P:D->Evt->Prop}
theorem Zpj {ns:List Int}(p:P (.int ns.sum) Δ):JC K (rSum K) [.lst (ns.map D.int)] Δ P:=λg G H σ Q vs k rs c=>by
 obtain⟨_,_,rfl,r,t⟩:=rs.inv
 next=>
  cases t.inv;obtain⟨a,us,rfl,ha,rr⟩:=r.inv
  next=>
   have ev:=rr.ints;subst ev;exact⟨a,ns,rfl,SqL.of<|k.live _ _ ha,c _ _ G H Δ k (Same.refl _) (.int _) p⟩
end
section
variable {K:W.Frag}{Δ:Evt}
theorem Zne {j n:Nat}(h:j<n):seqIndex? (j:Int) n=some j:=by
 unfold seqIndex?;simp;omega
theorem Zmr {i:Nat}{te:TE}{ti:TIp}{d:D}{nx bk ct:Evt->Prop}{rt:D->Evt->Prop}{ro:OD->Evt->Prop}(hx:Δ[i]?=some (.val d)) (h:JE K te Δ λe Δ1=>Δ1[i]?=some (.val d)/\JR2 K ti d e Δ1 λz Δ2=>nx (Δ2.set i (.val z))):JS K (tAug i te ti) Δ ⟨nx,rt,bk,ct,ro⟩:=λg G H σ E k c=>by
 obtain⟨v,h1,h2⟩:=k.val i d hx;refine⟨v,h1,h g G H σ _ k λu e G1 H1 Δ1 k1 s1 r1 ⟨_,p1⟩=>p1 g G1 H1 σ _ v u k1 (h2.mono s1) r1 λz dz G2 H2 Δ2 k2 s2 r2 p2=>?_⟩;exact c.nx _ G2 H2 _ (k2.setVal' i r2) p2
end
open PySem PySem.Spec PyProof.Rows PySem.SeqAt
section
variable {K:W.Frag}{Δ:Evt}{P:D->Evt->Prop}
end
section
variable {K:W.Frag}{Δ:Evt}
end
section
variable {X:Cx}
end
section
variable {K:W.Frag}{Δ:Evt}{P:D->Evt->Prop}
theorem Ztz {n:Nat}{te:TE}{x:Slot}{ds0:List D}(hx:Δ[n]?=some x) (ho:x.od=some (.lst ds0))
  (h:JE K te Δ λe Δ1=>∃y ds,∃j:Nat,∃d,Δ1[n]?=some y/\y.od=some (.lst ds)/\e=.int j/\ds[j]?=some d/\ds.length<=1000/\P d (Δ1.set n<|y.put (.lst<|ds.eraseIdx j))) :
  JE K (tBM K "list" rPopAt (tVar n)<|tCons te tNil) Δ P:=λg G H σ Q k c=>by
 obtain⟨a,o,h1,h2,h3,h4,h5⟩:=k.own n x _ hx ho;cases o with
 |lst vs0=>
  refine⟨.ref a,h1,.inl ⟨rfl,_,SqL.of h2⟩,h g G H σ _ k λv e G1 H1 Δ1 k1 s1 r1 ⟨y,ds,j,d,q1,q2,q3,q4,q5,p⟩=>?_⟩;subst q3;cases r1.inv;obtain⟨a',o',w1,w2,w3,w4,w5⟩:=k1.own n y _ q1 q2;rw[h1]at w1;cases w1;cases o' with
  |lst vs=>
   have w3:Reps K G1 vs ds:=w3;obtain⟨u,z1,z2⟩:=w3.get q4;have hj:j<vs.length:=(Wag.mp z1).1;have hl:=w3.length;refine⟨a,vs,j,j,u,rfl,rfl,w2,by omega,by omega,Zne hj,z1,c u d G1 _ _ (k1.write q1 q2 h1 (show OwnRep K G1 (.lst<|vs.eraseIdx j) (.lst<|ds.eraseIdx j) from w3.eraseIdx j)) s1 z2 p⟩
  |_=>exact absurd w3 (λz=>z)
 |_=>exact absurd h3 (λz=>z)
end
section
variable {X:Cx}
end
abbrev TB:=St->Hp->(St->Hp->Prop)->Prop
def LoopR (g:TG) (tb:TB) (R:St->Hp->Prop) (σ0:St):It->Hp->Prop:=λJ H1=>∃W:Nat->Nat->St->Hp->Prop,(∃m,W 0 m σ0 H1)/\∀i m σ H,W i m σ H →
 (J.stop i H/\R σ H)\/(J.go i H/\∃N:St->Hp->Prop,(∀σ' H',N σ' H' -> ∃m',m'<m/\W (i+1) m' σ' H')/\∀x H',J.yld i H x H' -> g x σ H' λσ2 H2=>tb σ2 H2 N)
def tLoop (wi:TI) (g:TG) (tb:TB):TB:=λσ H R=>wi σ H<|LoopR g tb R σ
def PB (Y:Cx) (body:Sem Unit) (tb:TB):Prop:=∀(pins:List (Addr × Obj)) (s:Shared) (σ:St) (H:Hp) (N:St->Hp->Prop),Inv Y pins σ H s->tb σ H N →
 wpAny (model Y.prog Y.w) Y.A body (λ_ s'=>∃σ' H',Inv Y pins σ' H' s' /\ N σ' H') (λ_ _=>False) s
def PBT (Y:Cx) (rest:Sem Fin) (c:Code) (tb:TB):Prop:=∀(pins:List (Addr × Obj)) (s:Shared) (σ:St) (H:Hp) (N:St->Hp->Prop),Inv Y pins σ H s->tb σ H N →
 wpAny (model Y.prog Y.w) Y.A rest (λf s'=>f=.again c/\∃σ' H',Inv Y pins σ' H' s' /\ N σ' H') (λ_ _=>False) s
theorem PB.rest {Y:Cx}{body:Sem Unit}{c:Code}{tb:TB}(h:PB Y body tb):PBT Y (do body;again c) c tb:=λpins s σ H N I q=>
 wpAny_bind (thn (h pins s σ H N I q) λ_ s' z=>wpAny_pure ⟨rfl,z⟩)
structure Plain (e:Expr):Prop where
 tu:∀(P:Program) (w:World) (A:Around) (d:Nat) (it acc:Value) (env:Env),A.under (.compLoop e d it acc env)=A/\(model P w).den (.compLoop e d it acc env)=(compTurn e d it acc env).onRaise (λx=>do noteFrame x env;theTreesLotGoes x)
 su:∀(P:Program) (w:World) (A:Around) (d:Nat) (it acc:Value) (env:Env),A.under (.compStart e d it acc env)=A/\(model P w).den (.compStart e d it acc env)=(compStart e d it acc env).onRaise (λx=>do noteFrame x env;standAt theWindowsPlace)
theorem Zg2 (elt:Expr) (gs:List Comprehension) (sc:Scope) (pos:Pos):Plain (.ListComp elt gs sc pos):=⟨λ_ _ _ _ _ _ _=>⟨rfl,rfl⟩,λ_ _ _ _ _ _ _=>⟨rfl,rfl⟩⟩
theorem Zir {Y:Cx}{e tg:Expr}{d:Nat}{p:Pos}{acc:Value}{rest:Value->Sem Fin}{g:TG}{tb:TB}(hpl:Plain e) (hc:Y.calm=true) (hx:Y.xe=λ_ _=>False)
  (hct:∀it,compTurn e d it acc Y.env=(do
   standAt p
   match ← pyNext it with
   |none=>pure (.done .next)
   |some v=>
    letOwnedTupleGo tg it v
    assign tg Y.env v
    rest it))
  (hg:PG Y tg g) (hb:∀it,PBT Y (rest it) (.compLoop e d it acc Y.env) tb) {pins:List (Addr × Obj)}{σ:St}{s:Shared}{itv:Value}{R:St->Hp->Prop}(h:PIE Y pins σ tg (LoopR g tb R σ) itv s) :
  codeAny (model Y.prog Y.w) Y.A (.compLoop e d itv acc Y.env) (λr s'=>r=.ok .next/\∃σ' H',Inv Y pins σ' H' s' /\ R σ' H') s:=by
 obtain⟨it,fp,tn,J,H2,e0,I2,T,st2,f2,W,⟨m0,w0⟩,turn⟩:=h;subst e0;have stat:∀{H':Hp},(∀b∈fp,H' b=none)->∀b∈fp,FpOk Y pins H' b:=λhn b hb=>⟨hn b hb,(f2 b hb).2⟩;refine codeAny_loop rfl (λn s'=>∃i σ' H',Inv Y pins σ' H' s' /\ tn i s'.heap/\(∀b∈fp,H' b=none)/\W i n σ' H') ?_ m0 ⟨0,σ,H2,I2,st2,λb hb=>(f2 b hb).1,w0⟩;rintro n s3 ⟨i,σ3,H3,I3,st3,fr3,w3⟩;obtain⟨z1,z2⟩:=hpl.tu Y.prog Y.w Y.A d (.ref it) acc Y.env;rw[z1,z2];refine wpAny_noted (wpAny_mono (E:=λ_ _=>False) ?_ (λ_ _ q=>q) λ_ _ z=>z.elim);rw[hct];refine wpAny_bind<|wpAny_standAt<|wpAny_bind ?_;rcases turn i n σ3 H3 w3 with ⟨stop,qn⟩|⟨go,N,hN,step⟩
 ·refine thn (T.done Y rfl rfl rfl hc i pins s3 σ3 H3 (λ_ _=>False) I3 (stat fr3) st3 stop) λr s4 ⟨hr,I4⟩=>?_
  subst hr;exact wpAny_pure ⟨rfl,σ3,H3,I4,qn⟩
 ·refine thn (T.item Y rfl rfl rfl hc i pins s3 σ3 H3 (λ_ _=>False) I3 (stat fr3) st3 go) λr s4 ⟨u,hr,h4⟩=>?_
  subst hr;refine wpAny_bind (thn h4 λ_ s5 ⟨x,H5,I5,r5,y5,st5,fr5⟩=>?_);have I5':=I5.pinned (stat fr5)<|T.obj _ _ st5;have G1:=hg _ s5 σ3 H5 x u _ I5' r5<|step x H5 y5;rw[hx]at G1;refine wpAny_bind (thn G1 λ_ s6 ⟨σ6,H6,I6,q6⟩=>?_);refine thn (hb _ _ s6 σ6 H6 N I6 q6) λfn s7 ⟨hfn,σ7,H7,I7,n7⟩=>?_;subst hfn;refine⟨rfl,?_⟩;obtain⟨m',hm,w7⟩:=hN σ7 H7 n7;refine⟨m',hm,i+1,σ7,H7,I7.unpinned,T.keep _ _ _ st5 λb hb o e=>(I7.pin (b,o)<|Waw _<|Waw _<|Zb0 hb e).1,λb hb=>?_,w7⟩;obtain⟨o,e,_⟩:=T.obj _ _ st5 b hb;exact(I7.pin (b,o)<|Waw _<|Waw _<|Zb0 hb e).2.1
theorem Zgz {Y:Cx}{e tg it0:Expr}{ifs:List Expr}{d:Nat}{acc:Value}{pins:List (Addr × Obj)}{σ:St}{s:Shared}{itv:Value}{RR:It->Hp->Prop}{R:Result->Shared->Prop}(hpl:Plain e) (hcl:(clausesOf e)[d]?=some ⟨tg,it0,ifs,0⟩)
  (h:PIE Y pins σ tg RR itv s) (h0:codeAny (model Y.prog Y.w) Y.A (.compLoop e d itv acc Y.env) R s):codeAny (model Y.prog Y.w) Y.A (.compStart e d itv acc Y.env) R s:=by
 obtain⟨it,fp,tn,J,H2,e0,I2,T,st2,f2,_⟩:=h;subst e0;refine codeAny_of_tree ?_;obtain⟨z1,z2⟩:=hpl.su Y.prog Y.w Y.A d (.ref it) acc Y.env;rw[z1,z2];refine wpAny_notedAt ?_;unfold compStart;rw[hcl];show wpAny _ _ (ask >>= _) _ _ s;refine wpAny_bind<|wpAny_askSetting<|wpAny_ite ?_;split
 ·first
   |exact wpAny_bind (wpAny_pure (wpAny_pure (And.intro rfl h0)))
   |exact wpAny_pure (And.intro rfl h0)
 ·refine wpAny_bind (wpAny_rule ?_)
  show wpAny _ _ (standAt it0.pos >>= _) _ _ s;exact wpAny_bind<|wpAny_standAt<|wpAny_bind<|T.self _ 0 _ _ _ st2<|wpAny_pure<|And.intro rfl h0
theorem Zps {Y:Cx}{e tg it2:Expr}{acc:Value}{wi:TI}{g:TG}{tb:TB}{rest:Value->Sem Fin}{c:Code}(hpl:Plain e) (hc:Y.calm=true) (hx:Y.xe=λ_ _=>False) (hcl:(clausesOf e)[1]?=some ⟨tg,it2,[],0⟩)
  (hct:∀it,compTurn e 1 it acc Y.env=(do
   standAt it2.pos
   match ← pyNext it with
   |none=>pure (.done .next)
   |some v=>
    letOwnedTupleGo tg it v
    assign tg Y.env v
    rest it))
  (hi:PI Y tg it2 wi) (hg:PG Y tg g) (hb:∀it,PBT Y (rest it) (.compLoop e 1 it acc Y.env) tb) (hs:∀x,foldedSetIterable it2 Y.env x=pure x) :
  PBT Y (do
   let x ← eval it2 Y.env
   standAt it2.pos
   let x ← foldedSetIterable it2 Y.env x
   let _ ← runOwn (.compStart e 1 (← holding [x] (pyIter x)) acc Y.env) Y.env
   again c) c (tLoop wi g tb):=λpins s σ H N I h=>by
 have h1:=hi pins s σ H _ I h;rw[hx]at h1;refine wpAny_bind (thn h1 λv s1 h2=>wpAny_bind<|wpAny_standAt<|wpAny_bind<|wpAny_of_eq (hs v)<|wpAny_bind<|wpAny_holding (thn h2 λitv s2 h3=>?_));refine wpAny_bind<|wpAny_runOwn ?_;refine codeAny_mono (Zgz hpl hcl h3<|Zir hpl hc hx hct hg hb h3) λr s' ⟨hr,q⟩=>?_;subst hr;exact wpAny_pure ⟨rfl,q⟩
section
variable {X:Cx}
def tComp2 (n:Nat) (sel:List Nat) (wi1:TI) (g1:TG) (wi2:TI) (g2:TG) (ho:HO) (tem:Addr->TB):TE:=λσ H Q=>wi1 σ H λJ H1=>∀acc,H1 acc=none->LoopR g1 (tLoop wi2 g2<|tem acc) (λ_ H'=>Q (.ref acc) H') (compSt n sel σ) J (upd H1 acc ho)
end
section
variable {K:W.Frag}{Δ:Evt}
end
section
variable {K:W.Frag}{Δ:Evt}{P:D->Evt->Prop}
end
theorem ObjOk.has {P:Program}{w:World}{H:Hp}{h:Heap}{a:Addr}{o:HO}(x:ObjOk P w H h a o):∃ob,h.get? a=some ob:=by
 cases o with
 |lst xs=>obtain⟨_,_,_,_,e⟩:=x;exact⟨_,e⟩
 |tup xs=>obtain⟨_,_,_,o,e,_⟩:=x;exact⟨_,e⟩
 |dK kvs=>obtain⟨_,_,_,_,o,_,_,e,_⟩:=x;exact⟨_,e⟩
 |dT kvs=>obtain⟨_,_,_,_,o,_,_,e,_⟩:=x;exact⟨_,e⟩
 |set S n=>obtain⟨o,_,_,_,e,_⟩:=x;exact⟨_,e⟩
 |ins C dx fs=>obtain⟨_,_,_,e,_⟩:=x;exact⟨_,e⟩
 |own y=>exact x
 |xd fs=>obtain⟨_,⟨_,_,_,e,_⟩,_⟩:=x;exact⟨_,e⟩
 |rng lo hi=>obtain⟨_,_,_,e⟩:=x;exact⟨_,e⟩
 |frz ob u=>obtain⟨e,_⟩:=x;exact⟨_,e⟩
 |tbl ps=>exact⟨_,x⟩
 |met f y=>exact⟨_,x⟩
 |ext φ=>exact x.2.1
theorem HOk.noneAt {P:Program}{w:World}{H:Hp}{h:Heap}{a:Addr}(x:HOk P w H h) (e:h.get? a=none):H a=none:=by
 cases q:H a with
 |none=>rfl
 |some o=>obtain⟨ob,z⟩:=(x a o q).has;rw[e]at z;cases z
structure Nw (X:Cx) (pins:List (Addr × Obj)) (H:Hp) (b:Addr):Prop where
 old:X.s₀.heap.get? b=none
 trk:H b=none
 loc:b≠X.env.locals
 cel:∀x c,X.env.cells.lookup x=some c->c≠b
 pin:∀p∈X.pn++pins,p.1≠b
section
variable {X:Cx}{pins:List (Addr × Obj)}{σ:St}{H H':Hp}{s:Shared}{h':Heap}{b:Addr}
theorem Nw.of (I:Inv X pins σ H s) (hex:X.ex=[]) (e:s.heap.get? b=none):Nw X pins H b where
 old:=by
  cases q:X.s₀.heap.get? b with
  |none=>rfl
  |some o=>obtain⟨o',z⟩:=I.base.there b o q (by rw[hex];simp);rw[e]at z;cases z
 trk:=I.hok.noneAt e
 loc:=by rintro rfl;obtain⟨m,⟨o,_,_,ho,_⟩,_⟩:=I.loc;rw[e]at ho;cases ho
 cel:=λx c hc z=>by subst z;obtain⟨v,o,ho,_⟩:=I.cell x c hc;rw[e]at ho;cases ho
 pin:=λp hp z=>by have:=(I.pin p hp).1;rw[z,e]at this;cases this
theorem Nw.at (n:Nw X pins H b) (h:H' b=none):Nw X pins H' b:=⟨n.old,h,n.loc,n.cel,n.pin⟩
theorem Inv.moved {hid:List Addr}(I:Inv X pins σ H s) (hex:X.ex=[]) (new:∀b∈hid,Nw X pins H b) (kp:∀b o,s.heap.get? b=some o->b ∉ hid->b ∉ frs X.stack->h'.get? b=some o) (up:s.heap.UpToSlots h'):Inv X pins σ H { s with heap:=h' }:=by
 have nst:∀b,b≠X.env.locals->b ∉ X.fs->b ∉ frs X.stack:=λb h1 h2 z=>(War.mp<|I.stkSub b z).elim h1 h2;have neL:∀b o,X.s₀.heap.get? b=some o->b≠X.env.locals:=λb o e=>Wap<|Wau (Wai e) I.ok.above;have nhd:∀b o,X.s₀.heap.get? b=some o->b ∉ hid:=λb o e z=>by rw[(new b z).old]at e;cases e
 have nx:∀b,b ∉ X.ex:=λb=>by rw[hex];simp
 have cellK:∀c v,s.heap.IsCell c v->h'.IsCell c v:=λc v hq=>by
  obtain⟨o,ho,hd⟩:=hq;obtain⟨sl,e⟩:=up c o ho (λvs q=>by rw[hd]at q;cases q);exact⟨_,e,hd⟩
 refine⟨I.ok,I.os,I.bare,⟨λb o e n hb hx=>?_,λb o e n hb hx=>?_,I.base.free,λb o e hx=>?_,I.base.tups,I.base.frzs,I.base.tbls⟩,?_,λx c e=>?_,I.free,I.freeC,λp hp=>?_,λb u e=>?_,I.len⟩
 ·exact kp b o (I.base.keep b o e n hb hx) (nhd b o e)<|nst b (neL b o e) hb
 ·obtain⟨sl,e1⟩:=I.base.slot b o e n hb hx
  obtain⟨_,o',ho',hd⟩:=I.funs.mem hb;rw[e1]at ho';cases ho';obtain⟨sl',e2⟩:=up b _ e1 hd;exact⟨sl',e2⟩
 ·obtain⟨o',e1⟩:=I.base.there b o e hx
  by_cases hb:b∈frs X.stack
  ·obtain⟨_,o2,ho',hd⟩:=I.stack.mem hb
   obtain⟨sl',e2⟩:=up b _ ho' hd;exact⟨_,e2⟩
  ·exact⟨o',kp b o' e1 (nhd b o e) hb⟩
 ·obtain⟨m,hn,hl⟩:=I.loc
  refine⟨m,up.ns hn,λi x v e1 e2 e3=>?_⟩;obtain⟨u,r,l⟩:=hl i x v e1 e2 e3;refine⟨u,r,?_⟩;rcases l with l|⟨k,c,e,z⟩
  ·exact .inl l
  ·exact .inr ⟨k,c,e,cellK c _ z⟩
 ·obtain⟨v,z⟩:=I.cell x c e
  exact⟨v,cellK c v z⟩
 ·obtain⟨e,n,ne,nf,d⟩:=I.pin p hp
  exact⟨kp p.1 p.2 e (λz=>(new _ z).pin p hp rfl)<|nst _ ne nf,n,ne,nf,d⟩
 ·refine(I.hok b u e).stay (λc v hc q=>kp c v q (λz=>?_) λz=>?_) (λ_ q=>q) λ_ _ q=>q
  ·have n:=(new c z).trk
   rcases hc with rfl|hc
   ·rw[e]at n;cases n
   ·rw[hc]at n;cases n
  ·have n:=I.stkFree c z
   rcases hc with rfl|hc
   ·rw[e]at n;cases n
   ·rw[hc]at n;cases n
end
def Trc (h:Heap) (a C T:Addr):Prop:=
 ∃oe vs oT ts,h.get? a=some oe/\oe.cls=.ref C/\oe.data=.fields vs/\vs[1]?=some (.ref T)/\vs[2]?=some .none/\T≠a/\h.get? T=some oT/\oT.data=.fields ts/\ts[3]?=some .none
section
variable {M:Model}{A:Around}{E:Value->Shared->Prop}{s:Shared}{Q:Unit->Shared->Prop}{env:Env}{outer:List Env}{base:Heap}{L e:Addr}{oe:Obj}{vs:Array Value}
theorem Zwe (hl:s.heap.FunFrames base (env::outer)) (he:s.heap.get? e=some oe) (hd:oe.data=.fields vs):e ∉ frs (env::outer):=λhm=>by
 obtain⟨_,o,ho,hn⟩:=hl.mem hm;rw[he]at ho;exact hn vs (Wa5.inj ho ▸ hd)
structure Noted (h h':Heap) (l:List Env) (e:Addr) (oe:Obj) (T:Addr):Prop where
 keep:∀b o,h.get? b=some o->b≠e->b ∉ frs l->h'.get? b=some o
 up:∀b o,h.get? b=some o->b≠e->(∀ws,o.data≠.fields ws)->∃sl,h'.get? b=some { o with slots:=sl }
 new:h.get? T=none
 exc:h'.get? e=some (oe.mapFields (·.setIfInBounds 1 (.ref T)))
 tb:∃oT ts,h'.get? T=some oT/\oT.data=.fields ts/\3<ts.size
theorem entryX {head:Value}{hadNext:Bool}(hfr:A.frames=some (env::outer)) (hl:s.heap.FunFrames base (env::outer)) (hf:env.frame=some L) (he:s.heap.get? e=some oe) (hd:oe.data=.fields vs) (hsz:1<vs.size)
  (h:∀h' T,Noted s.heap h' (env::outer) e oe T->Q () { s with heap:=h' }) :
  wpAny M A (do let a ← frameOf env;let pl ← entryPlaceOf L hadNext;let b ← EntryCells.newEntry head a .none (rawInt L) .none pl;setField (.ref e) 1 b) Q E s:=by
 have hene:=Zwe hl he hd;refine wpAny_bind (wpAny_frameOf_fun hfr hl hf λg1 hg=>?_);refine wpAny_bind (wpAny_entryPlaceOf λpl hp=>?_);unfold EntryCells.newEntry newFields;refine wpAny_bind<|wpAny_newObj_type ?_<|hp.sizeOk5 _ _ _ _ _;have he1:g1.get? e=some oe:=(hg.2.1 e hene).trans he;have he2:=Wab (h:=g1) { cls:=.type "traceback",dict:=none,data:=.fields ([head,.ref L,.none,rawInt L,.none]++(if pl.isEmpty then Wae 6 Value.none else pl)).toArray } he1;refine wpAny_setField he2 hd hsz<|h _ g1.objs.size ?_;have nT:g1.objs.size≠e:=Wci<|Wai he1;have hd3:=Obj.data_mapFields hd (·.setIfInBounds 1 (Value.ref g1.objs.size));have hT3:=(Wa3 (g1.push { cls:=.type "traceback",dict:=none,data:=.fields ([head,.ref L,.none,rawInt L,.none]++(if pl.isEmpty then Wae 6 Value.none else pl)).toArray }) (Obj.mapFields (·.setIfInBounds 1 (Value.ref g1.objs.size)))<|Ne.symm nT).trans (Wam g1 rfl);refine⟨λb o hb h1 h2=>?_,λb o hb h1 hn=>?_,?_,?_,⟨_,_,hT3,rfl,?_⟩⟩
 ·rw[Wa3 _ _ (Ne.symm h1)]
  exact Wab _ ((hg.2.1 b h2).trans hb)
 ·obtain⟨sl,q⟩:=hg.2.2 b o hb
  exact⟨sl,by rw[Wa3 _ _ (Ne.symm h1)];exact Wab _ q⟩
 ·exact Heap.get?_none_of_le (by rw[hg.1];exact Waf _)
 ·exact Wbl _ he2<|Obj.isFreed_of_fields hd3
 ·rw[Wan,Wao,Wa2,Wa2,Wa2,Wa2]
  omega
theorem noteN (hfr:A.frames=some (env::outer)) (hl:s.heap.FunFrames base (env::outer)) (hf:env.frame=some L) (he:s.heap.get? e=some oe) (hd:oe.data=.fields vs) (h1:vs[1]?=some .none)
  (h:∀h' T,Noted s.heap h' (env::outer) e oe T->Q () { s with heap:=h' }):wpAny M A (noteFrame (.ref e) env) Q E s:=by
 unfold noteFrame;simp only[hf];refine wpAny_bind<|wpAny_field he hd h1 ?_;rw[if_neg (by decide)];exact entryX hfr hl hf he hd (Array.getElem?_eq_some_iff.mp h1).1 h
theorem noteT {T:Addr}{oT:Obj}{ts:Array Value}(hfr:A.frames=some (env::outer)) (hl:s.heap.FunFrames base (env::outer)) (hf:env.frame=some L) (he:s.heap.get? e=some oe) (hd:oe.data=.fields vs) (h1:vs[1]?=some (.ref T)) (hTe:T≠e)
  (hT:s.heap.get? T=some oT) (hdT:oT.data=.fields ts) (h3:ts[3]?=some .none) (h:∀h' T',Noted (s.heap.update T<|Obj.mapFields (·.setIfInBounds 3 .none)) h' (env::outer) e oe T' -> Q () { s with heap:=h' }):wpAny M A (noteFrame (.ref e) env) Q E s:=by
 unfold noteFrame;simp only[hf];refine wpAny_bind<|wpAny_field he hd h1 ?_;rw[if_pos (show (Value.ref T != Value.none)=true from by simp)];refine wpAny_bind<|wpAny_field hT hdT h3 ?_;rw[if_neg (show ¬ ((Value.none == rawInt L)=true) from by simp[rawInt])];refine wpAny_bind<|wpAny_setField hT hdT (Array.getElem?_eq_some_iff.mp h3).1 ?_;have ot:∀b,b≠T->(s.heap.update T<|Obj.mapFields (·.setIfInBounds 3 Value.none)).get? b=s.heap.get? b:=λb hb=>Wa3 _ _<|Ne.symm hb;refine entryX (s:={ s with heap:=s.heap.update T (Obj.mapFields (·.setIfInBounds 3 .none)) }) hfr (hl.of_keeps λb o hb hn=>⟨o,(ot b λq=>?_).trans hb,rfl⟩) hf ((ot e<|Ne.symm hTe).trans he) hd (Array.getElem?_eq_some_iff.mp h1).1 λh' T' n=>h h' T' n;rw[q,hT]at hb;exact hn ts (Wa5.inj hb ▸ hdT)
end
section
variable {X:Cx}{pins:List (Addr × Obj)}{σ:St}{H H':Hp}{s:Shared}{h':Heap}{a C T:Addr}
theorem Inv.noted {h0:Heap}{oe:Obj}{vs:Array Value}{hid:List Addr}{T':Addr}(I:Inv X pins σ H s) (hex:X.ex=[]) (na:Nw X pins H a) (new:∀b∈hid,Nw X pins H b) (he:s.heap.get? a=some oe) (hc:oe.cls=.ref C) (hd:oe.data=.fields vs) (h2:vs[2]?=some .none)
  (k0:∀b,b ∉ hid->h0.get? b=s.heap.get? b) (hf0:∀b∈hid,∀o,s.heap.get? b=some o->∃ws,o.data=.fields ws) (hn0:∀b,h0.get? b=none->s.heap.get? b=none) (n:Noted h0 h' X.stack a oe T') {h3:Heap}(e3:h3=h'.update T' (Obj.mapFields (·.setIfInBounds 3 .none))) :
  Inv X pins σ H { s with heap:=h3 } /\ Trc h3 a C T' /\ Nw X pins H T':=by
 subst e3;have nT:=Nw.of I hex<|hn0 _ n.new;have ot:∀b,b≠T' -> (h'.update T'<|Obj.mapFields (·.setIfInBounds 3 Value.none)).get? b=h'.get? b:=λb hb=>Wa3 _ _<|Ne.symm hb;have hTa:T'≠a:=by rintro rfl;have z:=hn0 _ n.new;rw[he]at z;cases z
 have ne:∀b o,s.heap.get? b=some o->b≠T':=λb o e z=>by subst z;rw[hn0 _ n.new]at e;cases e
 have fl:∀b,b∈a::hid->∀o,s.heap.get? b=some o->∃ws,o.data=.fields ws:=λb hb o e=>by
  rcases War.mp hb with rfl|hb
  ·rw[he]at e;cases e;exact⟨vs,hd⟩
  ·exact hf0 b hb o e
 refine⟨I.moved (hid:=a::hid) hex (λb hb=>(War.mp hb).elim (λz=>by subst z;exact na) (new b)) (λb o e h1 h2=>?_) λb o e hnf=>?_,?_,nT⟩
 ·have h1a:b≠a:=λz=>h1 (by simp[z])
  have h1b:b ∉ hid:=λz=>h1<|Way _ z;rw[ot b (ne b o e)];exact n.keep b o ((k0 b h1b).trans e) h1a h2
 ·have hb:b ∉ a::hid:=λz=>by obtain⟨ws,q⟩:=fl b z o e;exact hnf ws q
  have h1a:b≠a:=λz=>hb (by simp[z]);have h1b:b ∉ hid:=λz=>hb<|Way _ z;obtain⟨sl,q⟩:=n.up b o ((k0 b h1b).trans e) h1a hnf;exact⟨sl,(ot b<|ne b o e).trans q⟩
 ·obtain⟨oT,ts,t1,t2,t3⟩:=n.tb
  have sz:2<vs.size:=(Array.getElem?_eq_some_iff.mp h2).1;refine⟨_,_,_,_,(ot a<|Ne.symm hTa).trans n.exc,(Obj.cls_mapFields _ _).trans hc,Obj.data_mapFields hd _,?_,?_,hTa,Wbl _ t1<|Obj.isFreed_of_fields<|Obj.data_mapFields t2 _,Obj.data_mapFields t2 _,?_⟩
  ·simp[show 1<vs.size by omega]
  ·rw[Array.getElem?_setIfInBounds_ne (by decide)];exact h2
  ·simp[t3]
variable {M:Model}{E:Value->Shared->Prop}{Q:Unit->Shared->Prop}
theorem Zkw {h h':Heap}{l:List Env}{e T:Addr}{oe:Obj}{vs:Array Value}{A:Around}{s:Shared}(hd:oe.data=.fields vs) (sz:1<vs.size) (n:Noted h h' l e oe T) (h:Q () { s with heap:=h'.update T (Obj.mapFields (·.setIfInBounds 3 .none)) }) :
  wpAny M A (setFlight (.ref e) none) Q E { s with heap:=h' }:=by
 obtain⟨oT,ts,t1,t2,t3⟩:=n.tb;exact wpAny_setFlight_none (s:={ s with heap:=h' }) n.exc (Obj.data_mapFields hd _) (by simp[sz]) t1 t2 t3 h
theorem Zoc (I:Inv X pins σ H s) (hex:X.ex=[]) (hst:X.stack=X.env::X.outer) (hf:X.env.frame=some X.env.locals) (tr:Trc s.heap a C T) (na:Nw X pins H a) (nT:Nw X pins H T)
  (h:∀h' T',Inv X pins σ H { s with heap:=h' } -> Trc h' a C T' -> Nw X pins H T' -> Q () { s with heap:=h' }):wpAny M X.A (noteFrame (.ref a) X.env) (λ_ s2=>wpAny M X.A (setFlight (.ref a) none) Q E s2) E s:=by
 obtain⟨oe,vs,oT,ts,h1,h2,h3,h4,h5,h6,h7,h8,h9⟩:=tr;have hfr:=I.ok.frames;have hl:=I.stack;rw[hst]at hfr hl;have ot:∀b,b≠T->(s.heap.update T (Obj.mapFields (·.setIfInBounds 3 Value.none))).get? b=s.heap.get? b:=λb hb=>Wa3 _ _ (Ne.symm hb);refine noteT hfr hl hf h1 h3 h4 h6 h7 h8 h9 λh' T' n=>?_;refine Zkw h3 (Array.getElem?_eq_some_iff.mp h4).1 n ?_;rw[<- hst]at n;obtain⟨J,t1,t2⟩:=I.noted (hid:=[T]) hex na (λb hb=>by rcases War.mp hb with rfl|hb;exact nT;cases hb) h1 h2 h3 h5 (λb hb=>ot b (by simpa using hb)) (λb hb o e=>by
  have hb:b=T:=by simpa using hb
  subst hb;rw[h7]at e;cases e;exact⟨ts,h8⟩) (λb e=>by
   by_cases hb:b=T
   ·subst hb
    rw[Wbl _ h7 (Obj.isFreed_of_fields<|Obj.data_mapFields h8 _)]at e;cases e
   ·exact(ot b hb).symm.trans e) n rfl
 exact h _ T' J t1 t2
theorem Zj4 (I:Inv X pins σ H s) (hex:X.ex=[]) (hst:X.stack=X.env::X.outer) (hf:X.env.frame=some X.env.locals) (tr:Trc s.heap a C T) (na:Nw X pins H a) (nT:Nw X pins H T)
  (h:∀h' T',Inv X pins σ H { s with heap:=h' } -> Trc h' a C T' -> Nw X pins H T' -> Q () { s with heap:=h' }):wpAny M X.A (leaving X.env (.ref a)) Q E s:=by
 unfold leaving;exact wpAny_bind<|Zoc I hex hst hf tr na nT h
theorem Zmu {h1:Heap}{args:List Value}(I:Inv X pins σ H s) (hex:X.ex=[]) (hst:X.stack=X.env::X.outer) (hf:X.env.frame=some X.env.locals) (hm:Heap.MadeExcOf s.heap h1 a (.ref C) args)
  (h:∀h' T',Inv X pins σ H { s with heap:=h' } -> Trc h' a C T' -> Nw X pins H a->Nw X pins H T' -> Q () { s with heap:=h' }):wpAny M X.A (leaving X.env (.ref a)) Q E { s with heap:=h1 }:=by
 have J:Inv X pins σ H { s with heap:=h1 }:=I.kept (t':=s.toks) hm.keeps;have na:=Nw.of I hex hm.new;obtain⟨t,he,_,_⟩:=hm.there;have hfr:=J.ok.frames;have hl:=J.stack;rw[hst]at hfr hl;unfold leaving;refine wpAny_bind (noteN (s:={ s with heap:=h1 }) hfr hl hf he rfl rfl λh' T' n=>?_);refine Zkw (vs:=#[.ref t,.none,.none,.none,.bool false,.none]) (s:={ s with heap:=h1 }) rfl (show 1<6 by decide) n ?_;rw[<- hst]at n;obtain⟨J2,t1,t2⟩:=J.noted (hid:=[]) hex na (λb hb=>by cases hb) he rfl rfl rfl (λb _=>rfl) (λb hb=>by cases hb) (λb e=>e) n rfl;exact h _ T' J2 t1 na t2
theorem Zqw {A:Around}(I:Inv X pins σ H s) (hex:X.ex=[]) (tr:Trc s.heap a C T) (na:Nw X pins H a) (nT:Nw X pins H T)
  (h:∀h' T',Inv X pins σ H { s with heap:=h' } -> Trc h' a C T' -> Nw X pins H T' -> Q () { s with heap:=h' }):wpAny M A (setFlight (.ref a) none) Q E s:=by
 obtain⟨oe,vs,oT,ts,h1,h2,h3,h4,h5,h6,h7,h8,h9⟩:=tr;have sz:=(Array.getElem?_eq_some_iff.mp h9).1;have ot:∀b,b≠T->(s.heap.update T<|Obj.mapFields (·.setIfInBounds 3 Value.none)).get? b=s.heap.get? b:=λb hb=>Wa3 _ _<|Ne.symm hb;refine wpAny_setFlight_none h1 h3 h4 h7 h8 sz<|h _ T ?_ ?_ nT
 ·refine I.moved (hid:=[T]) hex (λb hb=>by rcases War.mp hb with rfl|hb;exact nT;cases hb) (λb o e hb _=>(ot b (by simpa using hb)).trans e) (λb o e hnf=>⟨o.slots,(ot b λz=>?_).trans e⟩)
  subst z;rw[h7]at e;cases e;exact hnf ts h8
 ·exact⟨oe,vs,_,_,(ot a<|Ne.symm h6).trans h1,h2,h3,h4,h5,h6,Wbl _ h7<|Obj.isFreed_of_fields<|Obj.data_mapFields h8 _,Obj.data_mapFields h8 _,by simp[sz]⟩
end
def CXE (P:Program) (w:World):CXT:=λouter H s E e s'=>
 ∃(a C T:Addr) (H':Hp),e=.ref a/\s'.os=s.os/\AllBare s'.gens/\Un (frs outer) [] H H' s.heap s'.heap/\HOk P w H' s'.heap/\H' a=none/\s.heap.get? a=none/\H' T=none/\s.heap.get? T=none/\Trc s'.heap a C T/\E (.ref C) none H'
def Throws (X:Cx) (E:XK):Prop:=∀(pins:List (Addr × Obj)) (σ:St) (H:Hp) (s:Shared) (h1:Heap) (a C:Addr) (args:List Value),Inv X pins σ H s->Heap.MadeExcOf s.heap h1 a (.ref C) args->E (.ref C) none H->X.xe (.ref a) { s with heap:=h1 }
section
variable {P:Program}{w:World}{K:W.Frag}{mg:Str->Option Value}{base:Heap}{N:List Str}{qual:Str}{scope:Scope}{f:Addr}{cd:Value}{A:Around}{outer:List Env}{s0:Shared}{H0:Hp}{E:XK}
theorem Zo4:Passes (CXE P w) (cxOf (CXE P w) P w K mg base N qual scope f cd A outer s0 H0 E) E:=λpins σ H s e s' I hq=>by
 obtain⟨a,C,T,H',rfl,os,bare,un,hok,ha,hsa,hT,hsT,tr,hE⟩:=hq;have J:=I.call' (ch:=[]) os un hok bare (λb z=>absurd z<|by simp);have na:=(Nw.of I rfl hsa).at ha;have nT:=(Nw.of I rfl hsT).at hT;refine Zj4 J rfl rfl rfl tr na nT λh' T' J2 t1 t2=>?_;exact⟨a,C,T',H',rfl,J2.os,J2.bare,J2.base,J2.hok,ha,na.old,t2.trk,t2.old,t1,hE⟩
theorem Zkd:Throws (cxOf (CXE P w) P w K mg base N qual scope f cd A outer s0 H0 E) E:=λpins σ H s h1 a C args I hm hE=>by
 refine Zmu I rfl rfl rfl hm λh' T' J2 t1 na t2=>?_;exact⟨a,C,T',H,rfl,J2.os,J2.bare,J2.base,J2.hok,na.trk,na.old,t2.trk,t2.old,t1,hE⟩
end
abbrev ExcC (K:W.Frag) (C:Addr):Prop:=PySem.W.excIn K C [.type "ValueError",.type "Exception",.type "BaseException",.type "object"] "ValueError.__new__" = true
def ExcO (h:Heap) (C:Addr) (bm:List Value):Prop:=∃N nm qn bs hd sn sub ab col dd k0 k1 k2 k3 k5 mN,h.get? C=some (excClassObj nm qn C N bs bm hd sn sub ab col dd k0 k1 k2 k3 k5 "ValueError.__new__")/\h.Ns N mN/\mN "__init__" = none/\OwnTail h [.type "ValueError",.type "Exception",.type "BaseException",.type "object"] bm
theorem Zev {K:W.Frag}{h:Heap}{C:Addr}(X:K.In h) (q:ExcC K C):∃bm,ExcO h C bm/\∀v b,PySem.W.mroIn K C v=some b->(Value.ref C::bm).contains v=b:=by
 unfold ExcC PySem.W.excIn at q;split at q
 next dd cd sl e=>
  split at q
  next C' bm k0 k1 k2 k3 n k5 e1 e2=>
   rw[Waz,Waz,Waz,Waz,Waz]at q;obtain⟨⟨⟨⟨⟨q1,q2⟩,q3⟩,q4⟩,q5⟩,q6⟩:=q;have q1:=beq_iff_eq.mp q1;have q2:=beq_iff_eq.mp q2;rw[Bool.not_eq_true']at q3;subst q1;cases cd with
   |mk nm bs mro ns qn hd sn sub ab col del=>
    dsimp only at e1 q3 q5 q6;have q7:=beq_iff_eq.mp q6;subst e1;subst q3;have e3:sl = #[k0,k1,k2,k3,some (.builtin n),k5]:=by
     cases sl with
     |mk l=>exact congrArg Array.mk e2
    subst e3;subst q2;refine⟨bm,⟨ns,nm,qn,bs,hd,sn,sub,ab,col,dd,k0,k1,k2,k3,k5,_,X _ _ e,.of_isNs<|PySem.W.isNs_of_in X q5,PySem.W.nsMap_none_of_in X q5 q7,PySem.W.tail_of_in X q4⟩,λv b hv=>?_⟩;unfold PySem.W.mroIn PySem.W.clsIn at hv;rw[e]at hv;have hv:some ((Value.ref C'::bm).contains v)=some b:=hv;exact Wa5.inj hv
  next=>cases q
 next=>cases q
def tRaise (C:Addr) (E:XK) (t:TA):TS:=λ_ σ H=>t σ H λvs H1=>vs.length<=sizeLine/\E (.ref C) none H1
section
variable {X:Cx}{x:Str}{C:Addr}{np cpos pos:Pos}{e:Expr}{es:List Expr}{t:TA}{E:XK}
theorem Zk1 (cl:ExcC X.K C) (hg:Gl X x) (hm:X.mg x=some (.ref C)) (hh:X.A.handled=none) (hr:Throws X E) (ha:PA X (e::es) t) (hdb:(x == ("__debug__":Str))=false:=by decide)
  (he:starEach (e::es) X.env=(false,eval e X.env)::starEach es X.env:=by rfl) (hpl:(backTo cpos<|starEach (e::es) X.env).any (·.1)=false:=by rfl):PS X (.Raise (some (.Call (.Name x np) (e::es) [] cpos)) none pos) (tRaise C E t):=by
 intro pins s σ H D I h;obtain⟨bm,⟨N,nm,qn,bs,hd,sn,sub,ab,col,dd,k0,k1,k2,k3,k5,mN,o1,o2,o3,o4⟩,_⟩:=Zev I.ok.mod.kin cl;refine wpAny_Raise_call_subT (C:=C) (nm:=nm) (q:=qn) (N:=N) (bs:=bs) (bm:=bm) (hdct:=hd) (sn:=sn) (sub:=sub) (ab:=ab) (col:=col) (dd:=dd) (k0:=k0) (k1:=k1) (k2:=k2) (k3:=k3) (k5:=k5) (mN:=mN) F.excBase_ValueError (o4.hasType rfl) hh hpl o3 ?_;refine Zdz I hg hm ⟨rfl,?_⟩ hdb;have e1:backTo cpos (starEach (e::es) X.env)=(false,eval e X.env)::backTo cpos (starEach es X.env):=by rw[he];rfl
 rw[e1];refine Calls.evalArgs_plain ?_;rw[<- e1];refine thn (ha cpos pins s σ H _ I h) λus s1 ⟨vs,H1,I1,r,z,q⟩=>?_;exact⟨rfl,by rw[<- r.length];exact z,I1.bk _ _ o1,o2.keeps I1.bk,o4.keeps I1.bk,λh' a hm'=>hr pins σ H1 s1 h' a C us I1 hm' q⟩
end
structure ExcI (K:W.Frag) (C:Addr):Prop where
 cl:ExcC K C
 ga:PySem.W.findIn K (.ref C) "__getattribute__" = some (some (.builtin "BaseException.__getattribute__"))
 gt:PySem.W.findIn K (.ref C) "__getattr__" = some none
 ca:PySem.W.findIn K (.ref C) "__class__" = some (some (.builtin "object.__class__"))
 gs:PySem.W.specialIn K (.builtin "object.__class__") "__get__" = some (some (.builtin "getset_descriptor.__get__"))
 tk:PySem.W.takesIn K (.builtin "object.__class__")=some true
 ob:PySem.W.mroIn K C (.type "object")=some true
 be:PySem.W.mroIn K C (.type "BaseException")=some true
theorem InsC.ty {a C:Addr}{h:Heap}{M:Model}(I:InsC a C h):PySem.W.Looks M h (typeOf (.ref a)) (.ref C):=by
 obtain⟨o,_,h1,h2,_⟩:=I;exact h2 ▸ (PySem.W.Looks.ld h1).andThen .now
section
variable {prog:Program}{w:World}{A:Around}{E:Value->Shared->Prop}{K:W.Frag}{s:Shared}{a C:Addr}
theorem Zpe {M:Model}{nameV:Value}{Q:Unit->Shared->Prop}(X:K.In s.heap) (Z:ExcI K C) (I:InsC a C s.heap) (hq:Q () s):wpAny M A (checkBuiltinCall "BaseException.__getattribute__" ⟨[.ref a,nameV],[]⟩) Q E s:=by
 obtain⟨h,g,d,t,os⟩:=s;have hk:builtinKind "BaseException.__getattribute__" = some .slot:=by decide +kernel
 have hs:splitId "BaseException.__getattribute__" = some ("BaseException","__getattribute__"):=by decide +kernel
 obtain⟨bm,⟨N,nm,qn,bs,hd,sn,sub,ab,col,dd,k0,k1,k2,k3,k5,mN,hC,o2,o3,o4⟩,hmro⟩:=Zev X Z.cl;have hB:=hmro _ _ Z.be;obtain⟨ox,_,hx,hc,_⟩:=I;have ha:=F.args_bexc_ga (.ref a) nameV;simp only[checkBuiltinCall,hk,hs];refine wpAny_bind ?_;unfold isInstance
 repeat (first|(with_reducible refine wpAny_loadPart_at hx ?_;rw[hc])|(with_reducible refine wpAny_isSubtype_exc hC ?_;rw[hB])|wp_step)
 exact hq
theorem Zli {R:Result->Shared->Prop}{tp:Value}(X:K.In s.heap) (I:InsC a C s.heap) (hm:PySem.W.mroIn K C (.type "object")=some true) (h:R (.ok (.ret (.ref C))) s) :
  codeAny (model prog w) A (.call (.builtin "getset_descriptor.__get__") ⟨[.builtin "object.__class__",.ref a,tp],[]⟩) R s:=by
 obtain⟨h0,g,d,t,os⟩:=s;have l0:=I.ty (M:=model prog w);have l1:=PySem.W.looks_mroIn (M:=model prog w) X hm;have ht:(⟨h0,g,d,t,os⟩:Shared).TypeIs (.builtin "object.__class__") "getset_descriptor":=PySem.W.KF.type_class;refine codeAny_call_builtin PySem.W.KF.slot_gs.plain PySem.W.KF.entry_gs<|PySem.W.KF.slot_gs.check _ _ _ _ _ _ _ _ ht (PySem.W.KF.args_gs _ _ _) ?_;unfold Builtin.«getset_descriptor.__get__» Builtin.Getset_descriptor.descrGet;rw[PySem.W.dga_obj];refine wpAny_bind (m:=pure _)<|wpAny_pure ?_;unfold Builtin.Getset_descriptor.descrGetter Builtin.Getset_descriptor.descrCheckInstance Builtin.Getset_descriptor.descrNameAndClass isInstance;simp only[PySem.W.KF.owner_class]
 repeat lk
 refine⟨Code.quiet_builtin _ (by decide +kernel),codeAny_builtin PySem.W.KF.entry_class ?_⟩;unfold Builtin.«object.__class__» shownTypeOf
 repeat lk
 exact h
theorem Zmi {Q:Option Value->Shared->Prop}(X:K.In s.heap) (Z:ExcI K C) (I:InsC a C s.heap) (h:Q (some (.ref C)) { s with toks:=s.toks+1 }):wpAny (model prog w) A (getAttr? (.ref a) "__class__") Q E s:=by
 obtain⟨hh,g,d,t,os⟩:=s;have L0:=I.ty (M:=model prog w);have L1:=PySem.W.looks_findIn (M:=model prog w) X Z.ga;have L2:=PySem.W.looks_findIn (M:=model prog w) X Z.gt;have L3:PySem.W.Looks (model prog w) hh (Builtin.ObjectAttr.find (.ref a) (.ref C) "__class__") (.bind (.builtin "getset_descriptor.__get__") (.builtin "object.__class__")):=by
  unfold Builtin.ObjectAttr.find;refine(PySem.W.looks_findIn X Z.ca).andThen ((show PySem.W.Looks (model prog w) hh (Builtin.ObjectAttr.getOf<|some (.builtin "object.__class__")) _ from PySem.W.looks_specialIn X Z.gs).andThen ?_);have q:PySem.W.Looks (model prog w) hh (Builtin.ObjectAttr.dataDescriptor? (some (.builtin "object.__class__"))<|some (.builtin "getset_descriptor.__get__")) (some (.builtin "getset_descriptor.__get__",.builtin "object.__class__")):=(PySem.W.looks_takesIn X Z.tk).andThen .now;exact q.andThen<|PySem.W.Looks.tag .now
 have f3:=F.excAttr_ValueError.ga.bind (.ref a);have hx2:(Value.builtin "BaseException.__getattribute__" == Value.builtin "object.__getattribute__")=false:=by decide +kernel
 have hx1:(onTheHeap (Value.ref C) && Value.builtin "BaseException.__getattribute__" == Value.builtin "object.__getattribute__")=false:=by rw[hx2];rfl
 unfold getAttr? getAttrBy? getAttrBy;refine wpAny_bind<|wpAny_mkText<|wpAny_bind<|wpAny_attempt<|wpAny_holding<|wpAny_bind<|L0.at<|wpAny_bind<|L1.at ?_;dsimp only;rw[hx1];rw[if_neg Wal];unfold getAttrByItsOwn hookBefore;rw[if_pos (show onTheHeap (Value.ref C)=true from rfl)];refine wpAny_bind<|L2.at<|wpAny_bind<|wpAny_attempt<|wpAny_holding ?_;unfold callGetattribute;rw[Wcp,if_neg Wal];unfold boundAndCalled;refine wpAny_bind<|wpAny_of_eq f3 ?_;refine wpAny_call<|codeAny_call_builtin F.excAttr_ValueError.ga.plain F.entry_bexc_ga<|Zpe X Z I ?_;unfold Builtin.«object.__getattribute__»;refine wpAny_bind (m:=slotArgs _ _ _)<|wpAny_pure ?_;dsimp only;refine wpAny_bind (m:=Builtin.ObjectAttr.attrName _)<|wpAny_pure ?_;refine wpAny_bind<|L0.at<|wpAny_bind<|L3.at ?_;dsimp only;unfold Builtin.ObjectAttr.bindTo;dsimp only;refine wpAny_bind<|wpAny_holding<|wpAny_call<|Zli (s:=⟨hh,g,d,t+1,os⟩) X I Z.ob<|wpAny_pure ?_;exact PySem.W.handed_on rfl<|wpAny_pure h
theorem Zh3 (Z:ExcI K C):PySem.W.KitX K (.ref a) (.ref C) (InsC a C) where
 ty:=λ_ _ _ I=>I.ty
 it:=λ_ h X _=>by
  obtain⟨bm,⟨N,nm,qn,bs,hd,sn,sub,ab,col,dd,k0,k1,k2,k3,k5,mN,hC,_⟩,_⟩:=Zev X Z.cl;intro A' Q' E' s' k q;unfold isType loadHead;exact wpAny_bind<|wpAny_loadPart (k _ _ hC)<|wpAny_pure q
 ne:=λh tp dd its n sl X htp=>by
  obtain⟨bm,⟨N,nm,qn,bs,hd,sn,sub,ab,col,dd',k0,k1,k2,k3,k5,mN,hC,_⟩,_⟩:=Zev X Z.cl;refine Wcl.mpr λq=>?_;have e:C=tp:=Value.ref.inj<|beq_iff_eq.mp q;subst e;rw[hC]at htp;exact absurd (congrArg Obj.cls<|Wa5.inj htp) (by intro z;injection z with z;exact absurd z<|by decide)
 ca:=λX I k=>Zmi X Z I k
end
theorem Zgk {M:Model}{A:Around}{E:Value->Shared->Prop}{K:W.Frag}{s:Shared}{a C FE:Addr}{Q:Bool->Shared->Prop}(X:K.In s.heap) (cF:ExcC K FE) (cC:ExcC K C) (hm:PySem.W.mroIn K C (.ref FE)=some true) (I:InsC a C s.heap) (hq:Q true s) :
  wpAny M A (excMatches (.ref a) (.ref FE)) Q E s:=by
 obtain⟨h,g,d,t,os⟩:=s;obtain⟨bm,⟨N,nm,qn,bs,hd,sn,sub,ab,col,dd,k0,k1,k2,k3,k5,mN,hC,_⟩,hmro⟩:=Zev X cC;obtain⟨bm',⟨N',nm',qn',bs',hd',sn',sub',ab',col',dd',k0',k1',k2',k3',k5',mN',hF,_,_,oF⟩,_⟩:=Zev X cF;have hA:=hmro _ _ hm;have hB:(Value.ref FE::bm').contains (.type "BaseException")=true:=by rw[List.contains_cons,oF.hasType (X:="BaseException") (b:=true) rfl,Bool.or_true]
 obtain⟨ox,_,hx,hc,_⟩:=I;have f:=tc_notTuple;unfold excMatches
 repeat (first|(with_reducible refine wpAny_loadPart_at hx ?_;rw[hc])|with_reducible refine wpAny_loadPart_at hF ?_|(with_reducible refine wpAny_isSubtype_exc hF ?_;rw[hB])|(with_reducible refine wpAny_isSubtype_exc hC ?_;rw[hA])|wp_step)
 exact hq
abbrev XC (X:Cx) (e:Addr):Cx:={ X with A:=X.A.mark<|some (.ref e),calm:=false,xe:=λ_ _=>False }
theorem Cx.Ok.suite {X:Cx}(ok:X.Ok) (e:Addr):(XC X e).Ok:=
 ⟨ok.mod,ok.kind,ok.glob,ok.blt,ok.above,ok.inj,ok.has,ok.cab,(λz=>nomatch z),ok.frames,ok.stk,ok.exf,ok.bs,ok.bsz,ok.noex,ok.exfs,ok.funs,ok.frf⟩
abbrev XT (X:Cx) (pn:List (Addr × Obj)) (xe:Value->Shared->Prop):Cx:={ X with pn:=pn,xe:=xe }
theorem Cx.Ok.try_ {X:Cx}(ok:X.Ok) (pn:List (Addr × Obj)) (xe:Value->Shared->Prop):(XT X pn xe).Ok:=
 ⟨ok.mod,ok.kind,ok.glob,ok.blt,ok.above,ok.inj,ok.has,ok.cab,ok.hd,ok.frames,ok.stk,ok.exf,ok.bs,ok.bsz,ok.noex,ok.exfs,ok.funs,ok.frf⟩
section
variable {X:Cx}{pins:List (Addr × Obj)}{σ:St}{H:Hp}{s:Shared}{a C:Addr}
theorem Inv.suite (I:Inv X pins σ H s) (e:Addr):Inv (XC X e) pins σ H s:=⟨I.ok.suite e,I.os,I.bare,I.base,I.loc,I.cell,I.free,I.freeC,I.pin,I.hok,I.len⟩
theorem Inv.unsuite {e:Addr}(ok:X.Ok) (I:Inv (XC X e) pins σ H s):Inv X pins σ H s:=⟨ok,I.os,I.bare,I.base,I.loc,I.cell,I.free,I.freeC,I.pin,I.hok,I.len⟩
theorem Inv.into {xe:Value->Shared->Prop}(I:Inv X pins σ H s):Inv (XT X (X.pn++pins) xe) [] σ H s:=⟨I.ok.try_ _ _,I.os,I.bare,I.base,I.loc,I.cell,I.free,I.freeC,λp hp=>I.pin p (by simpa using hp),I.hok,I.len⟩
theorem Inv.outof {xe:Value->Shared->Prop}{pins1:List (Addr × Obj)}(ok:X.Ok) (I:Inv (XT X (X.pn++pins) xe) pins1 σ H s):Inv X pins σ H s:=⟨ok,I.os,I.bare,I.base,I.loc,I.cell,I.free,I.freeC,λp hp=>I.pin p<|Wcm _ hp,I.hok,I.len⟩
theorem Inv.held (I:Inv X pins σ H s) (n:Nw X pins H a) (hi:InsC a C s.heap):Inv X pins σ (upd H a (.ext<|InsC a C)) s:=by
 have keep:∀b,b≠a->upd H a (.ext<|InsC a C) b=H b:=λb hb=>Zak hb;have nn:∀b u,H b=some u->b≠a:=λb u e z=>by subst z;rw[n.trk]at e;cases e
 refine⟨I.ok,I.os,I.bare,⟨I.base.keep,I.base.slot,λb o e q hx=>?_,I.base.there,λb xs e=>?_,λb o u e=>?_,λb ps e=>?_⟩,I.loc,I.cell,?_,λx c e=>?_,λp hp=>?_,λb u e=>?_,I.len⟩
 ·rw[keep b (λz=>by subst z;rw[n.old]at e;cases e)];exact I.base.free b o e q hx
 ·have q:=I.base.tups b xs e
  rw[keep b (nn b _ q)];exact q
 ·have q:=I.base.frzs b o u e
  rw[keep b (nn b _ q)];exact q
 ·obtain⟨m,q⟩:=I.base.tbls b ps e
  exact⟨m,by rw[keep b (nn b _ q)];exact q⟩
 ·rw[keep _ (Ne.symm n.loc)];exact I.free
 ·rw[keep _ (n.cel x c e)];exact I.freeC x c e
 ·obtain⟨e,q,r⟩:=I.pin p hp
  exact⟨e,by rw[keep _ (n.pin p hp)];exact q,r⟩
 ·by_cases hb:b=a
  ·subst hb
   rw[Zal]at e;cases e;obtain⟨ox,vs,h1,h2⟩:=hi;exact⟨⟨ox,vs,h1,h2⟩,⟨ox,h1⟩,λh1' h2' ⟨o,ws,z1,z2⟩ k=>⟨o,ws,k o z1,z2⟩⟩
  ·rw[keep b hb]at e
   refine(I.hok b u e).stay (λc v _ q=>q) (λc q=>?_) λc xs q=>?_
   ·rw[keep c (nn c _ q)];exact q
   ·rw[keep c (nn c _ q)];exact q
theorem Inv.gone {M:Model}{A:Around}{E:Value->Shared->Prop}{i:Nat}{x:Str}{pos:Pos}{Q:Unit->Shared->Prop}(I:Inv X pins σ H s) (hN:X.N.Nodup) (hi:X.N[i]?=some x) (hk:X.env.scope.names.lookup x=some .local)
  (h:∀s',Inv X pins (σ.set i none) H s' -> Q () s'):wpAny M A (do bindName X.env x .none;unbindBehindTheSuite X.env x pos) Q E s:=by
 obtain⟨m,hn,hl⟩:=id I.loc;have hcls:(X.env.scope.kind == .class || (X.env.scope.kind == .module && X.env.locals != X.env.globals))=false:=by rw[I.ok.kind];rfl
 refine wpAny_nameGoes_keeps (show X.env.kindOf x=some .local from hk) hn hcls λh' v hn' hs=>h _ ?_;have cne:=I.cne;obtain⟨oL,_,_,hoL,_⟩:=id hn;have ltL:∀b o,X.s₀.heap.get? b=some o->b≠X.env.locals:=λb o e=>Wap<|Wau (Wai e) I.ok.above;refine⟨I.ok,I.os,I.bare,⟨λb o e n hb hx=>?_,λb o e n hb hx=>?_,I.base.free,λb o e hx=>?_,I.base.tups,I.base.frzs,I.base.tbls⟩,⟨_,hn',λj y v' e1 e2 e3=>?_⟩,λy c e=>?_,I.free,I.freeC,λp hp=>?_,λb u e=>?_,by simpa using I.len⟩
 ·exact(hs.2 b<|ltL b o e).trans (I.base.keep b o e n hb hx)
 ·obtain⟨sl,e1⟩:=I.base.slot b o e n hb hx
  exact⟨sl,(hs.2 b<|ltL b o e).trans e1⟩
 ·obtain⟨o',e1⟩:=I.base.there b o e hx
  exact⟨o',(hs.2 b<|ltL b o e).trans e1⟩
 ·have hj:j≠i:=by
   intro z;subst z;rw[Wcz]at e2;split at e2
   ·split at e2 <;> cases e2
   ·rename_i z;exact z rfl
  rw[Was (Ne.symm hj)]at e2;obtain⟨u',r',q⟩:=hl j y v' e1 e2 e3;refine⟨u',r',?_⟩;rcases q with ⟨k,e⟩|⟨k,c,e,z⟩
  ·refine .inl ⟨k,?_⟩
   have hy:y≠x:=λe=>hj<|Zht hN e1 (e ▸ hi);show (if y=x then v else m y)=_;rw[if_neg hy];exact e
  ·exact .inr ⟨k,c,e,z.sameBut hs<|cne y c e⟩
 ·obtain⟨w',z⟩:=I.cell y c e
  exact⟨w',z.sameBut hs<|cne y c e⟩
 ·obtain⟨e,n,ne,nf,d⟩:=I.pin p hp
  exact⟨(hs.2 p.1 ne).trans e,n,ne,nf,d⟩
 ·refine(I.hok b u e).stay (λc w' hc q=>(hs.2 c ?_).trans q) (λ_ q=>q) λ_ _ q=>q
  rintro rfl;rcases hc with rfl|hc
  ·rw[I.free]at e;cases e
  ·rw[I.free]at hc;cases hc
end
def tTry (K:W.Frag) (FE:Addr) (i n:Nat) (tb:XK->TS) (th:Addr->TS):TS:=λD σ H=>∃E:XK,tb E D σ H/\∀C H1,E (.ref C) none H1->(ExcC K C/\PySem.W.mroIn K C (.ref FE)=some true) ∧
 ∀a,H1 a=none->th a ⟨λσ' H'=>D.nx (σ'.set i none) H',D.rt,λσ' H'=>D.bk (σ'.set i none) H',λσ' H'=>D.ct (σ'.set i none) H'⟩ ((Wae n none).set i (some (.ref a))) (upd H1 a (.ext<|InsC a C))
section
variable {X:Cx}{x y:Str}{FE:Addr}{np hpos pos:Pos}{b0:Stmt}{body hb:List Stmt}{i n:Nat}{tb:XK->TS}{th:Addr->TS}
theorem Zvo (nd:X.N.Nodup) (hi:X.N[i]?=some y) (hk:X.env.scope.names.lookup y=some .local) (hn:X.N.length=n) (hex:X.ex=[]) (hst:X.stack=X.env::X.outer) (hf:X.env.frame=some X.env.locals) (hg:Gl X x) (hm:X.mg x=some (.ref FE)) (cF:ExcC X.K FE)
  (hbd:∀(E:XK) (pn:List (Addr × Obj)) (xe:Value->Shared->Prop),Passes (CXE X.prog X.w) (XT X pn xe) E->PSs (XT X pn xe) body (tb E)) (hh:∀a,PSs (XC X a) (b0::hb) (th a)) (hfn:X.fn y=true\/X.env.scope.names.lookup y=some .local:=by exact .inr rfl) (hdb:(x == ("__debug__":Str))=false:=by decide) :
  PS X (.Try body [.ExceptHandler (some (.Name x np)) (some y) (b0::hb) hpos] [] [] pos) (tTry X.K FE i n tb th):=by
 intro pins s σ H D I h;obtain⟨E,hB,hE⟩:=h;refine wpAny_Try_except ?_;refine wpAny_mono (hbd E (X.pn++pins) (λe s1=>wpAny (model X.prog X.w) X.A (noteFrame e X.env) (λ_ s2=>wpAny (model X.prog X.w) X.A (setFlight e none) (λ_ s3=>wpAny (model X.prog X.w) X.A (handleBy e X.env [.ExceptHandler (some (.Name x np)) (some y) (b0::hb) hpos]) (SP X pins D) X.xe s3) X.xe s2) X.xe s1) ?_ [] s σ H D I.into hB) (λf s1 hq=>?_) λ_ _ z=>z
 ·intro pins1 σ1 H1 s1 e s2 J hq
  obtain⟨a,C,T,H2,rfl,os,bare,un,hok,ha,hsa,hT,hsT,tr,hE'⟩:=hq;have J1:Inv X pins σ1 H1 s1:=Inv.outof I.ok J;have J2:Inv X pins σ1 H2 s2:=J1.call' (ch:=[]) os un hok bare (λb z=>absurd z<|by simp);have na:=(Nw.of J1 hex hsa).at ha;have nT:=(Nw.of J1 hex hsT).at hT;obtain⟨⟨cC,mC⟩,hth⟩:=hE C H2 hE';refine Zoc J2 hex hst hf tr na nT λh3 T3 K3 t3 n3=>?_;have inC:∀{h:Heap}{T:Addr},Trc h a C T->InsC a C h:=λq=>by
   obtain⟨oe,vs,oT,ts,q1,q2,q3,_,q4,_⟩:=q;exact⟨oe,vs,q1,q2,q3,q4⟩
  refine wpAny_handleBy_cons (codeAny_handlers_test ?_) (by intro q;cases q);refine Zdz (X:=XC X a) (K3.suite a) hg hm ?_ hdb;refine Zgk (K:=X.K) K3.kIn cF cC mC (inC t3) ?_;refine codeAny_handlers_suite_as ?_;refine Zqw K3 hex t3 na n3 λh4 T4 K4 t4 n4=>?_;have K5:=(K4.held na (inC t4)).suite a;have K6:=K5.weak (σ':=Wae n none) (by rw[Waq,<- hn];exact K5.len.symm) (λj v z=>by
   rw[Wbm]at z;split at z <;> cases z)
  refine Zdt (X:=XC X a) (v:=.ref a) K6 nd hi (.inl hk) rfl (λs5 K7=>?_) hfn;refine wpAny_mono (hh a pins s5 _ _ _ K7<|hth a ha) (λf s6 q=>?_) λ_ _ z=>z.elim;cases f with
  |next=>
   obtain⟨σ',H',K8,q⟩:=q;exact Inv.gone (K8.unsuite I.ok) nd hi hk λs7 K9=>⟨_,H',K9,q⟩
  |brk=>
   obtain⟨σ',H',K8,q⟩:=q;exact Inv.gone (K8.unsuite I.ok) nd hi hk λs7 K9=>⟨_,H',K9,q⟩
  |cont=>
   obtain⟨σ',H',K8,q⟩:=q;exact Inv.gone (K8.unsuite I.ok) nd hi hk λs7 K9=>⟨_,H',K9,q⟩
  |ret u=>
   obtain⟨v,σ',H',K8,r,q⟩:=q;exact Inv.gone (K8.unsuite I.ok) nd hi hk λs7 K9=>⟨v,_,H',K9,r,q⟩
 ·cases f with
  |next=>
   obtain⟨σ',H',J,q⟩:=hq;exact wpAny_execs_nil ⟨σ',H',Inv.outof I.ok J,q⟩
  |brk=>
   obtain⟨σ',H',J,q⟩:=hq;exact⟨σ',H',Inv.outof I.ok J,q⟩
  |cont=>
   obtain⟨σ',H',J,q⟩:=hq;exact⟨σ',H',Inv.outof I.ok J,q⟩
  |ret u=>
   obtain⟨v,σ',H',J,r,q⟩:=hq;exact⟨v,σ',H',Inv.outof I.ok J,r,q⟩
end
def PF (X:Cx) (e:Expr) (n:Nat):Prop:=
 ∀(pins:List (Addr × Obj)) (s:Shared) (σ:St) (H:Hp) (Q:Value->Shared->Prop),Inv X pins σ H s->(∀(x:Str) (tk:Tok) s',x.length<=n->Inv X pins σ H s' -> Q (.str x tk) s')->wpAny (model X.prog X.w) X.A (eval e X.env) Q X.xe s
def PFs (X:Cx) (es:List Expr) (n:Nat):Prop:=
 ∀(pins:List (Addr × Obj)) (s:Shared) (σ:St) (H:Hp) (acc:Str) (Q:Str->Shared->Prop),Inv X pins σ H s->acc.length+n<=sizeLine->(∀(x:Str) s',x.length<=acc.length+n->Inv X pins σ H s' -> Q x s')->Joins (model X.prog X.w) X.A X.xe (evalEach es X.env) acc Q s
def tSome:TE:=λ_ H Q=>∀x:Str,Q (.str x) H
section
variable {X:Cx}{x:Str}{j:Option Str}{p pos:Pos}{n m:Nat}{e:Expr}{es:List Expr}{v1 v2:Expr}
theorem Zj2 {j} (h:x.length<=n:=by decide):PF X (.Constant (.str x) j pos) n:=λ_ s σ H Q I q=>Calls.Constant_str<|q x _ _ h<|I.tok _
theorem Zr1 {i:Int}{tk:Tok}(hg:Gl X x) (hm:X.mg x=some (.int i tk)) (hz:i.natAbs.log2<1920:=by decide) (hl:(Str.ofString<|toString i).length<=n:=by decide +kernel) (hd:(x == ("__debug__":Str))=false:=by decide):PF X (.FormattedValue (.Name x p) (-1) none pos) n:=λ_ s σ H Q I q=>
 wpAny_FormattedValue_plain (Zdz I hg hm (wpAny_formatField_int hz<|q _ _ _ hl<|I.tok _) hd)
theorem Zmf:PFs X [] 0:=λ_ s σ H acc Q I z q=>q acc s (Waf _) I
theorem Zdr (h:PF X e n) (hs:PFs X es m):PFs X (e::es) (n+m):=λpins s σ H acc Q I z q=>by
 show wpAny _ _ (eval e X.env) _ _ s;refine h pins s σ H _ I λy tk s' hy I'=>⟨y,tk,rfl,?_,hs pins s' σ H _ Q I' ?_ λw s2 hw I2=>q w s2 ?_ I2⟩
 ·rw[Str.length_append];omega
 ·rw[Str.length_append];omega
 ·rw[Str.length_append]at hw;omega
theorem Znl (h:PFs X (v1::v2::es) n) (hn:n<=sizeLine:=by decide):PE X (.JoinedStr (v1::v2::es) pos) tSome:=λpins s σ H Q I q=>
 wpAny_JoinedStr (h pins s σ H Str.empty _ I (by show 0+n<=sizeLine;omega) λy s' hy I'=>⟨by have:Str.empty.length=0:=rfl;omega,.str y,H,I'.tok _,⟨_,rfl⟩,q y⟩)
end
def rIsiE (K:W.Frag):List V->Hp->VK->Prop:=λxs H Q=>∃a C b,H a=some (.ext<|InsC a C)/\ExcI K C/\Q (.bl b) H ∧
 ((∃c,xs=[.ref a,.ref c]/\PySem.W.kitOne K (.ref C) (.ref c)=some b)\/(∃t,xs=[.ref a,.ty t]/\PySem.W.kitOne K (.ref C) (.type t)=some b) ∨
  ∃(p:Addr) (cs:List Addr),xs=[.ref a,.ref p]/\H p=some (.tup (cs.map V.ref))/\PySem.W.kitAny K (.ref C) (cs.map Value.ref)=some b)
section
variable {X:Cx}
theorem isiEK (K:W.Frag) (hK:X.K=K:=by rfl):CallR X (.builtin "isinstance") (rIsiE K):=by
 subst hK;intro pins s σ H xs us Q I r h;obtain⟨a,C,b,ha,Z,q,h⟩:=h;obtain⟨hi,_⟩:=I.hok a _ ha;rcases h with ⟨c,rfl,e⟩|⟨t,rfl,e⟩|⟨p,cs,rfl,hp,e⟩
 ·obtain⟨u,u',rfl,rx,rn⟩:=vals2 r
  cases (show u=Value.ref a from rx);cases (show u'=Value.ref c from rn);exact PySem.W.kia_one (Zh3 Z) I.kIn hi e (λz=>nomatch z) λtk=>⟨.bl b,H,I.tok _,rfl,q⟩
 ·obtain⟨u,u',rfl,rx,rn⟩:=vals2 r
  cases (show u=Value.ref a from rx);cases (show u'=Value.type t from rn);exact PySem.W.kia_one (Zh3 Z) I.kIn hi e (λz=>nomatch z) λtk=>⟨.bl b,H,I.tok _,rfl,q⟩
 ·obtain⟨u,u',rfl,rx,rn⟩:=vals2 r
  cases (show u=Value.ref a from rx);cases (show u'=Value.ref p from rn);obtain⟨_,its,rv,o,ho,⟨hc,n,hd⟩,hdd⟩:=I.hok p _ hp;have hv:∀(ns:List Addr) (its:List Value),Vals (ns.map V.ref) its->its=ns.map Value.ref:=by
   intro ns
   induction ns with
   |nil=>intro its h;cases h;rfl
   |cons b r ih=>intro its h;cases h with|cons h1 h2=>cases (show _=Value.ref b from h1);rw[ih _ h2];rfl
  have e2:=hv cs its rv;subst e2;obtain⟨cls,dd,data,sl⟩:=o;simp only at hc hd hdd;subst hc hd hdd;exact PySem.W.kia_tup (Zh3 Z) I.kIn hi ho e (λz=>nomatch z) λtk=>⟨.bl b,H,I.tok _,rfl,q⟩
end
structure CalleeX (P:Program) (w:World) (K:W.Frag) (mg:Str->Option Value) (base:Heap) (k:Nat) (x:Str) (ps:List Str) (sp:Sp):Prop where
 ex:∃(f:Addr) (fd:FuncData),FnOk P w K mg base (CXE P w) k f fd ps sp/\Binds K fd ps []/\W.keepIn K (.ref f)=true/\mg x=some (.ref f)
section
variable {X:Cx}{k:Nat}{x:Str}{ps:List Str}{sp:Sp}{e:Expr}{es:List Expr}{t:TA}{p pos:Pos}{E:XK}
theorem Zke (C:CalleeX X.prog X.w X.K X.mg X.base k x ps sp) (hr:Room k X.A) (hx:Passes (CXE X.prog X.w) X E) (ha:PA X (e::es) t) (hg:Gl X x:=by rfl) (hdb:(x == ("__debug__":Str))=false:=by decide)
  (he:starEach (e::es) X.env=(false,eval e X.env)::starEach es X.env:=by rfl) (hpl:(backTo pos<|starEach es X.env).any (·.1)=false:=by rfl):PE X (.Call (.Name x p) (e::es) [] pos) (tCall sp [] E t):=by
 obtain⟨f,fd,F,b,kp,m⟩:=C.ex;exact Zoj F hr hg m kp b .nil hx ha hdb he hpl
end
section
variable {P:Program}{w:World}{K:W.Frag}{mg:Str->Option Value}{base:Heap}
theorem Fun.okX {x qual:Str}{st:Stmt}{f:Addr}{fd:FuncData}{N ps:List Str}{k:Nat}{sp:Sp}(F:Fun K x qual st f fd) (S:FnScope N ps (defScope st)) (len:∀vs H Q E,sp vs H Q E->vs.length=ps.length)
  (hbody:∀(cdv:Value) (A:Around) (outer:List Env) (s:Shared) (H:Hp) (vs:List V) (Q:VK) (E:XK),Room k (A.deeper (envOfC qual (defScope st) s.heap.objs.size f cdv))->sp vs H Q E →
   ∃t,PSs (cxOf (CXE P w) P w K mg base N qual (defScope st) f cdv A outer s H E) (defBody st) t/\t { nx:=λ_ H'=>Q .non H',rt:=Q } (start N vs) H):FnOk P w K mg base (CXE P w) (k+1) f fd ps sp:=by
 obtain⟨oc,od,kV,doc,pm,an,cdv,ct,osl,rfl,lk,hcd⟩:=F.ex;exact Zr5 lk hcd S len λA outer s H vs Q E hr hsp=>hbody cdv A outer s H vs Q E hr hsp
end
def EW (E:XK) (Xp:Addr->Prop) (g:Gm):Prop:=∀C H',(∀b o,¬ g.B b->g.Hz b=some o->H' b=some o)->(∀b,g.B b->H' b≠none)->Same g.F H' -> (∀b o,g.Xo b=some o->H' b=some o)->Xp C->E (.ref C) none H'
def JX (K:W.Frag) (E:XK) (Xp:Addr->Prop) (t:TS) (Δ:Evt) (P:Pst):Prop:=∀g G H σ D,EW E Xp g->Ok K g G H σ Δ -> SCont K g P D->t D σ H
abbrev XSp:=List D->(D->Prop)->(Addr->Prop)->Prop
def spX (K:W.Frag) (f:XSp):Sp:=λvs H Q E=>∃F ds Post Xp,Same F H/\Reps K F vs ds/\f ds Post Xp/\(∀r H' d,Same H H' -> Rep K (glue F H H') r d->Post d->Q r H')/\∀C H',Same H H' -> Xp C->E (.ref C) none H'
section
variable {K:W.Frag}{Δ:Evt}{E:XK}{Xp:Addr->Prop}{nx bk ct:Evt->Prop}{rt:D->Evt->Prop}{ro:OD->Evt->Prop}
theorem EW.at {g:Gm}{G H H':Hp}{σ:St}{C:Addr}(w:EW E Xp g) (k:Ok K g G H σ Δ) (s:Same H H') (x:Xp C):E (.ref C) none H':=
 w C H' (λb o hb e=>s b o (k.same b o hb e)) (λb hb z=>by
  cases q:H b with
  |none=>exact k.lent b hb q
  |some o=>rw[s b o q]at z;cases z) (λb o e=>s b o (k.live b o (k.sub b o e))) (λb o e=>s b o (k.ext b o e).1) x
theorem Zgh {f:XSp}{n:Nat}(h:∀ds Post Xp,f ds Post Xp->ds.length=n):∀vs H Q E,spX K f vs H Q E->vs.length=n:=λvs H Q E hq=>by
 obtain⟨F,ds,Post,Xp,l,rs,hf,q⟩:=hq;rw[rs.length];exact h ds Post Xp hf
theorem Zmj {f:XSp}{t:TS}{N:List Str}{vs:List V}{H:Hp}{Q:VK}(ht:∀ds Post Xp,f ds Post Xp->ds.length<=N.length/\JX K E Xp t (startD N ds) ⟨λ_=>Post .non,λd _=>Post d,λ_=>False,λ_=>False,λ_ _=>False⟩) (h:spX K f vs H Q E) :
  t { nx:=λ_ H'=>Q .non H',rt:=Q } (start N vs) H:=by
 obtain⟨F,ds,Post,Xp,l,rs,hf,q,x⟩:=h;obtain⟨hl,hj⟩:=ht ds Post Xp hf;have fin:∀{v:V}{d:D}{σ:St}{G H':Hp}{Δ:Evt},Ok K ⟨λ_=>False,F,H,λ_=>none⟩ G H' σ Δ -> Rep K G v d->Post d->Q v H':=λ{v d σ G H' Δ} k r p=>by
  refine q v H' d (λb o e=>k.same b o (λz=>z) e) (r.mono λb o e=>?_) p;obtain⟨e1,e2⟩:=k.frz b o e;rcases e2 with z|z
  ·rw[Zcl z];exact e1
  ·rw[Zb5 (l b o z)];exact z
 refine hj ⟨λ_=>False,F,H,λ_=>none⟩ F H (start N vs) _ (λC H' h1 _ _ _ xc=>x C H' (λb o e=>h1 b o (λz=>z) e) xc) (Zc9 rs hl (λ_ _ _ e=>e) (λ_ z=>z.elim) (Same.refl _) (λb o e=>⟨l b o e,.inr e⟩) λ_=>rfl) ⟨λσ G H' Δ k p=>fin k .non p,λv d σ G H' Δ k r p=>fin k r p,λ_ _ _ _ _ z=>z.elim,λ_ _ _ _ _ z=>z.elim,λ_ _ _ _ _ _ _ _ z=>z.elim⟩
theorem Zwz {t:TS}{P:Pst}(h:JS K t Δ P):JX K E Xp t Δ P:=λg G H σ D _ k c=>h g G H σ D k c
theorem Zg3 {t u:TS}(h:JX K E Xp t Δ ⟨λΔ1=>JX K E Xp u Δ1 ⟨nx,rt,bk,ct,ro⟩,rt,bk,ct,ro⟩):JX K E Xp (tSeq t u) Δ ⟨nx,rt,bk,ct,ro⟩:=λg G H σ D w k c=>
 h g G H σ _ w k ⟨λσ1 G1 H1 Δ1 k1 p1=>p1 g G1 H1 σ1 D w k1 c,c.rt,c.bk,c.ct,c.ro⟩
theorem Zto {t u:TS}(h:JS K t Δ ⟨λΔ1=>JX K E Xp u Δ1 ⟨nx,rt,bk,ct,ro⟩,rt,bk,ct,ro⟩):JX K E Xp (tSeq t u) Δ ⟨nx,rt,bk,ct,ro⟩:=Zg3<|Zwz h
theorem Zu0 {c:TT}{t u:TS}{P:Pst}(h:JT K c Δ λb Δ1=>if b=true then JX K E Xp t Δ1 P else JX K E Xp u Δ1 P):JX K E Xp (tIfS c t u) Δ P:=λg G H σ D w k q=>
 h g G H σ _ k λb G1 H1 Δ1 k1 s1 p1=>by
  cases b with
  |true=>exact(show JX K E Xp t Δ1 P from p1) g G1 H1 σ D w k1 q
  |false=>exact(show JX K E Xp u Δ1 P from p1) g G1 H1 σ D w k1 q
theorem Zks {C:Addr}{ta:TA}{P:Pst}(h:JA K ta Δ λds Δ1=>ds.length<=sizeLine/\Xp C):JX K E Xp (tRaise C E ta) Δ P:=λg G H σ D w k q=>
 h g G H σ _ k λvs ds G1 H1 Δ1 k1 s1 r1 ⟨z,x⟩=>⟨by rw[r1.length];exact z,w.at k1 (Same.refl _) x⟩
def JEX (K:W.Frag) (E:XK) (Xp:Addr->Prop) (t:TE) (Δ:Evt) (P:D->Evt->Prop):Prop:=∀g G H σ Q,EW E Xp g->Ok K g G H σ Δ -> Cont K g G σ P Q->t σ H Q
theorem Zv4 {t:TE}{P:D->Evt->Prop}(h:JE K t Δ P):JEX K E Xp t Δ P:=λg G H σ Q _ k c=>h g G H σ Q k c
theorem Zh6 {f:XSp}{ta:TA}{P:D->Evt->Prop}(h:JA K ta Δ λds Δ1=>f ds (λd=>P d Δ1) Xp):JEX K E Xp (tCall (spX K f) [] E ta) Δ P:=λg G H σ Q w k c=>
 h g G H σ _ k λvs ds G1 H1 Δ1 k1 s1 r1 p1=>by
  show spX K f (vs++[]) H1 Q E;rw[Wbb];refine⟨G1,ds,_,_,k1.live,r1,p1,λr H' d sh rr pd=>?_,λC H' sh x=>w.at k1 sh x⟩;have sg:=Zds (H':=H') k1.live;exact c r d _ H' Δ1 (k1.grow sg sh (Zd1 k1.live λb o _ e=>sh b o e)) (s1.trans sg) rr pd
theorem Zrp {te:TE}{i:Nat}{P:Pst}(h:JEX K E Xp te Δ λd Δ1=>i < Δ1.length/\P.nx (Δ1.set i (.val d))):JX K E Xp (tAsg te<|gName i) Δ P:=λg G H σ D w k c=>
 h g G H σ _ w k λv d G1 H1 Δ1 k1 s1 r1 ⟨hi,p1⟩=>c.nx _ G1 H1 _ (k1.setVal hi r1) p1
theorem Zom {P:D->Evt->Prop}(p:∀x:Str,P (.str x) Δ):JE K tSome Δ P:=λg G H σ Q k c x=>c _ _ G H Δ k (Same.refl _) (.str x)<|p x
theorem Ok.unset {g:Gm}{G H:Hp}{σ:St}(k:Ok K g G H σ Δ) (i:Nat):Ok K g G H (σ.set i none) (Δ.set i .any):=by
 have ne:∀(j:Nat) x,(Δ.set i .any)[j]?=some x->x≠.any->j≠i /\ Δ[j]?=some x/\(σ.set i none)[j]? = σ[j]?:=λj x e h=>by
  by_cases hj:j=i
  ·subst hj
   rw[Wcz]at e;split at e
   ·split at e
    ·cases e;exact absurd rfl h
    ·cases e
   ·rename_i z;exact absurd rfl z
  ·rw[Was (Ne.symm hj)]at e
   exact⟨hj,e,Was<|Ne.symm hj⟩
 have od:∀(x:Slot) o,x.od=some o->x≠.any:=λx o e z=>by subst z;cases e
 refine⟨k.same,k.lent,k.sub,k.frz,λb o e=>?_,by simp[k.len],λj d e=>?_,λj x o e1 e2=>?_,λj l x y o o' a e1 e2 e3 e4 e5 e6=>?_⟩
 ·obtain⟨h1,h2,h3⟩:=k.ext b o e
  refine⟨h1,h2,λj x o e1 e2=>?_⟩;obtain⟨_,q1,q2⟩:=ne j x e1<|od x o e2;rw[q2];exact h3 j x o q1 e2
 ·obtain⟨_,q1,q2⟩:=ne j _ e (by intro z;cases z)
  rw[q2];exact k.val j d q1
 ·obtain⟨_,q1,q2⟩:=ne j x e1 (od x o e2)
  rw[q2];exact k.own j x o q1 e2
 ·obtain⟨_,q1,q2⟩:=ne j x e1 (od x o e2)
  obtain⟨_,q3,q4⟩:=ne l y e3<|od y o' e4;rw[q2]at e5;rw[q4]at e6;exact k.dis j l x y o o' a q1 e2 q3 e4 e5 e6
theorem Zts {a C c:Addr}{b:Bool}{P:D->Evt->Prop}(Z:ExcI K C) (e:PySem.W.kitOne K (.ref C) (.ref c)=some b) (p:P (.bl b) Δ):JC K (rIsiE K) [.exc a C,.adr c] Δ P:=λg G H σ Q vs k rs q=>by
 obtain⟨_,_,rfl,r,t⟩:=rs.inv
 next=>
  obtain⟨_,_,rfl,r',t⟩:=t.inv
  next=>
   cases t.inv;obtain⟨rfl,ha⟩:=r.inv
   next=>
    cases r'.inv;exact⟨_,C,b,k.live _ _ ha,Z,q _ _ G H Δ k (Same.refl _) (.bl b) p,.inl ⟨c,rfl,e⟩⟩
theorem Zqb {a C:Addr}{n:String}{b:Bool}{P:D->Evt->Prop}(Z:ExcI K C) (e:PySem.W.kitOne K (.ref C) (.type n)=some b) (p:P (.bl b) Δ):JC K (rIsiE K) [.exc a C,.ty n] Δ P:=λg G H σ Q vs k rs q=>by
 obtain⟨_,_,rfl,r,t⟩:=rs.inv
 next=>
  obtain⟨_,_,rfl,r',t⟩:=t.inv
  next=>
   cases t.inv;obtain⟨rfl,ha⟩:=r.inv
   next=>
    cases r'.inv;exact⟨_,C,b,k.live _ _ ha,Z,q _ _ G H Δ k (Same.refl _) (.bl b) p,.inr (.inl ⟨n,rfl,e⟩)⟩
theorem Zit {a:Addr}{P:D->Evt->Prop}(p:P (.adr a) Δ):JE K (tC (.ref a)) Δ P:=λg G H σ Q k c=>c _ _ G H Δ k (Same.refl _) (.adr a) p
end
theorem Zct {K:W.Frag}{C c:Addr}{b:Bool}(h1:PySem.W.isClsIn K c=true) (h2:PySem.W.typeIn K (.ref c)=some (.type "type")) (h3:PySem.W.subIn K (.ref C) (.ref c)=some b) (h4:(C == c)=true->b=true):PySem.W.kitOne K (.ref C) (.ref c)=some b:=by
 unfold PySem.W.kitOne PySem.W.kitCls;by_cases e:(Value.ref C == Value.ref c)=true
 ·rw[if_pos e]
  have e':C=c:=Value.ref.inj<|beq_iff_eq.mp e;rw[h4 (by rw[e'];exact beq_self_eq_true c)]
 ·rw[if_neg e]
  have h1:(PySem.W.clsIn K c).isSome=true:=h1;simp only[h1,h2,beq_self_eq_true,Bool.and_self,if_true,h3]
open PySem PySem.Spec PyProof.Rows PySem.SeqAt
theorem Zcf {A:Around}{s:Shared}{x:V}{v u:Value}(h:flatV x=true) (rv:RelV x v) (ru:RelV x u):EqAt A s v u true:=by
 cases x with
 |non=>cases (show v=Value.none from rv);cases (show u=Value.none from ru);exact EqAt.same _
 |bl b=>cases (show v=Value.bool b from rv);cases (show u=Value.bool b from ru);exact EqAt.same _
 |int i=>
  obtain⟨t,rfl⟩:=rv;obtain⟨t',rfl⟩:=ru;have:=EqAt.int_int (A:=A) (s:=s) i t i t'
  rwa [beq_self_eq_true]at this
 |str i=>
  obtain⟨t,rfl⟩:=rv;obtain⟨t',rfl⟩:=ru;have:=EqAt.str_str (A:=A) (s:=s) i t i t'
  rwa [beq_self_eq_true]at this
 |_=>cases h
section
variable {K:W.Frag}{Δ:Evt}{P:D->Evt->Prop}
def flatE:D->Bool
 |.non=>true
 |.bl _=>true
 |.int _=>true
 |.str _=>true
 |_=>false
end
theorem Zh0:bootBuiltins "ValueError" = some (.type "ValueError"):=by decide +kernel
theorem Zsl {K:W.Frag}{C:Addr}{n:String}{b:Bool}(hm:PySem.W.kitMeta n=true) (h:PySem.W.subIn K (.ref C) (.type n)=some b):PySem.W.kitOne K (.ref C) (.type n)=some b:=by
 unfold PySem.W.kitOne PySem.W.kitCls;have e:¬ (Value.ref C == Value.type n)=true:=λz=>by cases beq_iff_eq.mp z
 rw[if_neg e];simp only[hm,if_true,h]
theorem Zhw:entryFor table "proto.unchain" = some Builtin.«proto.unchain»:=entryFor_of_tree (by kernel_rfl)
section
variable {prog:Program}{w:World}{A:Around}{E:Value->Shared->Prop}{s:Shared}
theorem raiseH {α:Type}{a e:Addr}{oa oe:Obj}{va ve:Array Value}{Q:α -> Shared->Prop}(hh:A.handled=some (.ref a)) (hne:a≠e) (ha:s.heap.get? a=some oa) (hda:oa.data=.fields va) (h2:va[2]?=some .none)
  (he:s.heap.get? e=some oe) (hde:oe.data=.fields ve) (hsz:2<ve.size) (h:E (.ref e) { s with heap:=s.heap.update e (Obj.mapFields (·.setIfInBounds 2 (.ref a))) }):wpAny (model prog w) A (raiseNew (.ref e):Sem α) Q E s:=by
 unfold raiseNew;refine wpAny_bind<|wpAny_handled ?_;rw[hh];dsimp only;have hn:(Value.ref a != Value.ref e)=true:=by
  rw[bne_iff_ne];intro z;exact hne<|Value.ref.inj z
 rw[if_pos hn];refine wpAny_bind<|wpAny_holding<|wpAny_runValue<|codeAny_builtin Zhw ?_;unfold Builtin.«proto.unchain»;dsimp only;refine wpAny_bind<|wpAny_field ha hda h2 ?_;rw[if_pos (show (Value.none == Value.none)=true from rfl)];refine wpAny_pure ?_;show wpAny _ _ (updateField e 2 (.ref a) >>= _) _ _ s;unfold updateField;refine wpAny_bind<|wpAny_bind<|wpAny_load he ?_;rw[hde];dsimp only;rw[if_pos hsz];exact wpAny_update he<|wpAny_throw h
end
abbrev TurnH (xa:Addr):=TurnG λX=>X.A.handled=some (.ref xa)
abbrev PIH (xa:Addr):=PIG λX=>X.A.handled=some (.ref xa)
section
variable {K:W.Frag}{Δ:Evt}
end
section
variable {X:Cx}
def CDivB (i j:Int):Prop:=0<j/\j<=100000000000000000000000000000000000000000000000000000000000
theorem Zho:OpR X (binaryOp .FloorDiv) (rI CDivB λi j=>.int<|i / j):=opI λi j _ _ _ _ _ hc q=>by
 have h1:(0:Int)<j:=hc.1;have h2:=hc.2;refine floordiv_int (by omega) (by rw[Wc6 i (by omega)];exact q) (.inl<|PyProof.noPylong_of_log2 ?_);have h3:j.natAbs<=100000000000000000000000000000000000000000000000000000000000:=by omega
 have h4:j.natAbs<2 ^ 200:=Wb2 h3 (by decide);exact Nat.lt_trans ((Nat.log2_lt<|by omega).2 h4) (by decide)
end
structure CalleeV (P:Program) (w:World) (K:W.Frag) (mg:Str->Option Value) (base:Heap) (k:Nat) (f:Addr) (ps:List Str) (sp:Sp):Prop where
 ex:∃fd:FuncData,FnOk P w K mg base (CXE P w) k f fd ps sp/\Binds K fd ps []/\W.keepIn K (.ref f)=true
theorem CalleeX.val {P:Program}{w:World}{K:W.Frag}{mg:Str->Option Value}{base:Heap}{k:Nat}{x:Str}{ps:List Str}{sp:Sp}(C:CalleeX P w K mg base k x ps sp):∃f,CalleeV P w K mg base k f ps sp/\mg x=some (.ref f):=by
 obtain⟨f,fd,h1,h2,h3,h4⟩:=C.ex;exact⟨f,⟨fd,h1,h2,h3⟩,h4⟩
def tCallV (i:Nat) (f:Addr) (sp:Sp) (E:XK) (t:TA):TE:=λσ H Q=>σ[i]?=some (some (.ref f))/\tCall sp [] E t σ H Q
section
variable {X:Cx}{k i:Nat}{f:Addr}{x:Str}{ps:List Str}{sp:Sp}{e:Expr}{es:List Expr}{t:TA}{p pos:Pos}{E:XK}
theorem Zkp (C:CalleeV X.prog X.w X.K X.mg X.base k f ps sp) (hr:Room k X.A) (hx:Passes (CXE X.prog X.w) X E) (hN:X.N[i]?=some x) (hv:Vis X.env.scope x) (ha:PA X (e::es) t) (hdb:(x == ("__debug__":Str))=false:=by decide) (hcd:(x == ("__classdict__":Str))=false:=by decide)
  (he:starEach (e::es) X.env=(false,eval e X.env)::starEach es X.env:=by rfl) (hpl:(backTo pos<|starEach es X.env).any (·.1)=false:=by rfl):PE X (.Call (.Name x p) (e::es) [] pos) (tCallV i f sp E t):=by
 intro pins s σ H Q I h;obtain⟨h1,h2⟩:=h;obtain⟨fd,F,b,kp⟩:=C.ex;refine wpAny_Call_Name_kw (thn (Zoy (i:=i) (pos:=p) hN hv hdb hcd pins s σ H (λv H1=>v=.ref f/\H1=H) I ⟨_,h1,rfl,rfl⟩) λu s1 ⟨v,H1,I1,r1,e1,e2⟩=>?_);subst e1;subst e2;cases (show u=Value.ref f from r1);refine PySem.W.callWith_K (h₀:=X.base) I1.ok.mod.kin kp (thn (ha pos pins s1 σ _ _ I1 h2) λus s2 ⟨vs,H2,I2,r2,q⟩=>⟨I2.kIn,?_⟩) he hpl;exact Zrn F hr b .nil hx I2 r2 q
end
theorem Zau {vs:List Expr}{c} {p:Pos}{es:List Expr}{env:Env}:starEach (Expr.Tuple vs c p::es) env=(false,eval (Expr.Tuple vs c p) env)::starEach es env:=rfl
def keyPd:Key->PyData
 |.inl i=>.int i
 |.inr x=>.str x
mutual
def D.pd:D->PyData
 |.non=>.none
 |.bl b=>.bool b
 |.int i=>.int i
 |.str x=>.str x
 |.tup ds=>.tuple (D.pds ds)
 |.lst ds=>.list (D.pds ds)
 |.dct ks ds=>.dict ((ks.map keyPd).zip (D.pds ds))
 |_=>.none
def D.pds:List D->List PyData
 |[]=>[]
 |d::ds=>D.pd d::D.pds ds
end
section
variable {X:Cx}
end
def PV (K:W.Frag) (te:TE) (Δ:Evt) (d:D):Prop:=∀P:D->Evt->Prop,P d Δ -> JE K te Δ P
def PVs (K:W.Frag) (ta:TA) (Δ:Evt) (ds:List D):Prop:=∀P:List D->Evt->Prop,P ds Δ -> JA K ta Δ P
def PR2 (K:W.Frag) (r:R2) (d e:D) (Δ:Evt) (x:D):Prop:=∀P:D->Evt->Prop,P x Δ -> JR2 K r d e Δ P
section
variable {K:W.Frag}{Δ:Evt}
theorem Zes {te:TE}{d:D}{P:D->Evt->Prop}(h:PV K te Δ d) (p:P d Δ):JE K te Δ P:=h P p
theorem Zuu {ta:TA}{ds:List D}{P:List D->Evt->Prop}(h:PVs K ta Δ ds) (p:P ds Δ):JA K ta Δ P:=h P p
theorem Zdc {i:Nat}{d:D}(h:Δ[i]?=some (.val d)):PV K (tVar i) Δ d:=λP p=>Zad h p
theorem Zch {i:Int}:PV K (tC (.int i)) Δ (.int i):=λP p=>Zao p
theorem Zcw:PVs K tNil Δ []:=λP p=>Zag p
theorem Zbe {ta:TE}{tr:TA}{d:D}{ds:List D}(h:PV K ta Δ d) (t:PVs K tr Δ ds):PVs K (tCons ta tr) Δ (d::ds):=λP p=>Zac<|h _<|t _ p
theorem Ze2 {ta:TA}{ds:List D}(h:PVs K ta Δ ds) (z:ds.length<=sizeLine):PV K (tTup ta) Δ (.tup ds):=λP p=>Zb7<|h _ ⟨z,p⟩
theorem Zu6 {ta:TA}{ds:List D}(h:PVs K ta Δ ds) (z:ds.length<=sizeLine):PV K (tLst ta) Δ (.lst ds):=λP p=>Zei<|h _ ⟨z,p⟩
theorem Ze3 {r:R2}{ta tb:TE}{d e x:D}(a:PV K ta Δ d) (b:PV K tb Δ e) (h:PR2 K r d e Δ x):PV K (tOp r ta tb) Δ x:=λP p=>Zas<|a _<|b _<|h P p
theorem Zvn {ds:List D}{i:Int}{d:D}(h:atI ds i=some d):PR2 K (rIxU K) (.tup ds) (.int i) Δ d:=λP p=>Zca h p
theorem Zvg {ds:List D}{i:Int}{d:D}(h:atI ds i=some d):PR2 K (rIxU K) (.lst ds) (.int i) Δ d:=λP p=>Zci h p
theorem Zjt {i j:Int}:PR2 K (rAddU K) (.int i) (.int j) Δ (.int<|i+j):=λP p=>Zb6 p
theorem Zwy {f:Int->Int->Int}{i j:Int}:PR2 K (rI0 λi j=>.int<|f i j) (.int i) (.int j) Δ (.int<|f i j):=λP p=>Zll p
theorem pr_I {C:Int->Int->Prop}{f:Int->Int->Int}{i j:Int}(hc:C i j):PR2 K (rI C λi j=>.int<|f i j) (.int i) (.int j) Δ (.int<|f i j):=λP p=>jr_I hc p
theorem Zvu {ta tb:TE}{ds:List D}{i:Int}{d:D}(a:PV K ta Δ (.tup ds)) (b:PV K tb Δ (.int i)) (h:atI ds i=some d):PV K (tOp (rIxU K) ta tb) Δ d:=Ze3 a b<|Zvn h
theorem Zvm {ta tb:TE}{ds:List D}{i:Int}{d:D}(a:PV K ta Δ (.lst ds)) (b:PV K tb Δ (.int i)) (h:atI ds i=some d):PV K (tOp (rIxU K) ta tb) Δ d:=Ze3 a b<|Zvg h
theorem Zpg {n:Nat}{ds:List D}{i:Int}{d:D}(hx:Δ[n]?=some (.val (.tup ds))) (h:atI ds i=some d):PV K (tOp (rIxU K) (tVar n)<|tC (.int i)) Δ d:=Zvu (Zdc hx) Zch h
theorem Zvl {n:Nat}{ds:List D}{i:Int}{d:D}(hx:Δ[n]?=some (.val (.lst ds))) (h:atI ds i=some d):PV K (tOp (rIxU K) (tVar n)<|tC (.int i)) Δ d:=Zvm (Zdc hx) Zch h
end
open PySem PySem.Spec PyProof.Rows PySem.SeqAt
def Sm:Nat->D->Bool
 |0,d=>flatE d
 |n+1,d=>match d with
  |.lst ds=>ds.all (Sm n)
  |.tup ds=>ds.all (Sm n)
  |d=>flatE d
section
variable {X:Cx}
theorem Zft:∀(n:Nat) {A:Around}{pins:List (Addr × Obj)}{σ:St}{H G:Hp}{s:Shared}{x y:V}{v u:Value}{d:D},Inv X pins σ H s->Same G H->Rep X.K G x d->Rep X.K G y d->RelV x v->RelV y u->Sm n d=true->A.units+n<cLine->EqAt A s v u true
 |0,A,pins,σ,H,G,s,x,y,v,u,d,I,sg,rx,ry,rv,ru,h,hu=>by
  cases d with
  |non=>cases rx;cases ry;exact Zcf rfl rv ru
  |bl _=>cases rx;cases ry;exact Zcf rfl rv ru
  |int _=>cases rx;cases ry;exact Zcf rfl rv ru
  |str _=>cases rx;cases ry;exact Zcf rfl rv ru
  |_=>exact nomatch h
 |n+1,A,pins,σ,H,G,s,x,y,v,u,d,I,sg,rx,ry,rv,ru,h,hu=>by
  cases d with
  |non=>cases rx;cases ry;exact Zcf rfl rv ru
  |bl _=>cases rx;cases ry;exact Zcf rfl rv ru
  |int _=>cases rx;cases ry;exact Zcf rfl rv ru
  |str _=>cases rx;cases ry;exact Zcf rfl rv ru
  |lst ds=>
   cases rx with
   |@lst a vs _ ha ra=>
    cases ry with
    |@lst b us _ hb rb=>
     cases rv;cases ru;obtain⟨its,w1,pl,_⟩:=I.list<|SqL.of<|sg _ _ ha;obtain⟨its2,w2,pl2,_⟩:=I.list<|SqL.of<|sg _ _ hb;have l1:=w1.length;have l2:=w2.length;have l3:=ra.length;have l4:=rb.length;have h:ds.all (Sm n)=true:=h;by_cases hab:a=b
     ·subst hab;exact EqAt.same _
     ·refine .of_refs hab ?_
      have z:=RcAt.lists (A:=A) (s:=s) (e:=λ_=>true) pl.isList pl2.isList (by rw[Wan,Wan];omega) (by omega) λj h1 h2=>by
       have h1':j<its.length:=by simpa using h1
       have h2':j<its2.length:=by simpa using h2
       have hx:j<ds.length:=by omega
       obtain⟨p,hp1,hp2⟩:=ra.get<|Waa hx;obtain⟨q,hq1,hq2⟩:=rb.get<|Waa hx;obtain⟨va,hv1,hv2⟩:=w1.get hp1;obtain⟨vb,hw1,hw2⟩:=w2.get hq1;rw[Waa h1']at hv1;rw[Waa h2']at hw1;rw[Wb9,Wb9,Wa5.inj hv1,Wa5.inj hw1];exact Zft n I sg hp2 hq2 hv2 hw2 (Wbz.mp h _<|Wa4 hx) (by show A.units+1+n<cLine;omega)
      rw[Wbz.mpr (λ_ _=>rfl)]at z;exact z
  |tup ds=>
   cases rx with
   |@tup a vs _ ha ra=>
    cases ry with
    |@tup b us _ hb rb=>
     cases rv;cases ru;obtain⟨its,w1,pl,_⟩:=I.tuple<|SqT.of<|sg _ _ ha;obtain⟨its2,w2,pl2,_⟩:=I.tuple<|SqT.of<|sg _ _ hb;have l1:=w1.length;have l2:=w2.length;have l3:=ra.length;have l4:=rb.length;have h:ds.all (Sm n)=true:=h;by_cases hab:a=b
     ·subst hab;exact EqAt.same _
     ·refine .of_refs hab ?_
      have z:=RcAt.tuples (A:=A) (s:=s) (e:=λ_=>true) pl pl2 (by omega) λj h1 h2=>by
       have h1':j<its.length:=by simpa using h1
       have h2':j<its2.length:=by simpa using h2
       have hx:j<ds.length:=by omega
       obtain⟨p,hp1,hp2⟩:=ra.get<|Waa hx;obtain⟨q,hq1,hq2⟩:=rb.get<|Waa hx;obtain⟨va,hv1,hv2⟩:=w1.get hp1;obtain⟨vb,hw1,hw2⟩:=w2.get hq1;rw[Waa h1']at hv1;rw[Waa h2']at hw1;rw[Wb9,Wb9,Wa5.inj hv1,Wa5.inj hw1];exact Zft n I sg hp2 hq2 hv2 hw2 (Wbz.mp h _<|Wa4 hx) (by show A.units+1+n<cLine;omega)
      rw[Wbz.mpr (λ_ _=>rfl),show (its.toArray.size == its2.toArray.size)=true by rw[Wan,Wan];exact beq_iff_eq.mpr (by omega),Bool.and_self]at z;exact z
  |_=>exact nomatch h
end
open PySem PySem.Spec PyProof.Rows PySem.SeqAt
section
variable {X:Cx}
theorem Zlg {e tg1 it1:Expr}{scope:Scope}{tgs fvs:List Str}{sel:List Nat}{g1:TG}{ob:Obj}{ho:HO}{newAcc:Sem Value}{rest:Addr->Env->Value->Sem Fin}{tem:Addr->TB}(hpl:Plain e) (hcls:(clausesOf e)[0]?=some ⟨tg1,it1,[],0⟩)
  (hct0:∀(D:Addr) (env:Env) (it:Value),compTurn e 0 it (.ref D) env=(do
   standAt it1.pos
   match ← pyNext it with
   |none=>pure (.done .next)
   |some v=>
    letOwnedTupleGo tg1 it v
    assign tg1 env v
    rest D env it))
  (hnew:∀(s:Shared) (Q:Value->Shared->Prop) (E:Value->Shared->Prop),Q (.ref s.heap.objs.size) { s with heap:=s.heap.push ob } -> wpAny (model X.prog X.w) X.A newAcc Q E s)
  (hok:∀(pins:List (Addr × Obj)) (σ:St) (H:Hp) (s:Shared),Inv X pins σ H s->Inv X pins σ (upd H s.heap.objs.size ho) { s with heap:=s.heap.push ob,toks:=s.toks })
  (S:CompSc X.env.scope X.N scope fvs sel) (hc:X.calm=true)
  (hg1:∀C s H ex pn,PG (compCx X scope (tgs++fvs) C s H ex pn) tg1 g1)
  (hb:∀C s H ex pn D it,PBT (compCx X scope (tgs++fvs) C s H ex pn) (rest D (compCx X scope (tgs++fvs) C s H ex pn).env it) (.compLoop e 0 it (.ref D) (compCx X scope (tgs++fvs) C s H ex pn).env) (tem D))
  {pins:List (Addr × Obj)}{σ:St}{s:Shared}{itv:Value}{Q:VK}{E:Value->Shared->Prop}{RR:Value->Addr->Result->Shared->Prop}
  (h2:PIE X pins σ tg1 (λJ H1=>∀acc,H1 acc=none->LoopR g1 (tem acc) (λ_ H'=>Q (.ref acc) H') (compSt tgs.length sel σ) J (upd H1 acc ho)) itv s)
  (fin:∀(s':Shared) (C acc:Addr) (H':Hp) (m:Str->Option Value),s'.heap.Ns C m->FpOk X pins H' C->(∀h',Heap.SameBut C s'.heap h' -> Inv X pins σ H' { s' with heap:=h' })->Q (.ref acc) H' -> RR (.ref acc) C (.ok .next) s') :
  wpAny (model X.prog X.w) X.A newAcc (λacc s3=>wpAny (model X.prog X.w) X.A (newFunctionEnv scope X.env.globals (clOf X.env scope.names []) [] X.env.qual none .none (some X.env)) (λcenv s4=>
   codeAny (model X.prog X.w) X.A (.compStart e 0 itv acc { cenv with scope:=relabel scope X.env }) (RR acc cenv.locals) s4) E s3) E s:=by
 obtain⟨it,fp,tn,J,H1,e0,I,T,st,f2,h2⟩:=h2;subst e0;have hlt:∀b∈fp,b<s.heap.objs.size:=λb hb=>let ⟨o,ho,_⟩:=T.obj 0 _ st b hb; Wai ho
 refine hnew s _ _<|wpAny_newFunctionEnv S.nocell (by intro y hy;simp at hy) (λh1 hns hsb=>?_) S.kind;dsimp only at hns hsb ⊢;have I3:=hok pins σ H1 s I;have hacc:H1 s.heap.objs.size=none:=I.hok.fresh<|Waf _;have h2:=h2 s.heap.objs.size hacc;generalize hs3:({ s with heap:=s.heap.push ob,toks:=s.toks }:Shared)=s3 at I3;have hh3:s3.heap=s.heap.push ob:=by rw[<- hs3]
 have old3:∀b o,s.heap.get? b=some o->s3.heap.get? b=some o:=λb o q=>by rw[hh3];exact Wab _ q
 have hf3:∀b∈fp,FpOk X pins (upd H1 s.heap.objs.size ho) b:=λb hb=>⟨by rw[Zak (Wap<|hlt b hb)];exact(f2 b hb).1,(f2 b hb).2⟩;have hlt3:∀b∈fp,b<s3.heap.objs.size:=λb hb=>by rw[hh3,Wb4];exact Wbe<|hlt b hb
 have tn3:tn 0 s3.heap:=T.keep 0 _ _ st λb hb o q=>old3 b o q;have old4:∀b o,s3.heap.get? b=some o->h1.get? b=some o:=λb o q=>by
  have hb:b≠s3.heap.objs.size:=Wap<|Wai q;rw[hh3]at hb q;exact(hsb.2 b hb).trans (Wab _ q)
 have tn4:tn 0 h1:=T.keep 0 _ _ tn3 λb hb o q=>old4 b o q;have hC:(s.heap.push ob).objs.size=s3.heap.objs.size:=by rw[hh3]
 rw[hC]at hns;have J0:=Zk6 (tgs:=tgs) (tk:=s.toks+([]:List (Str × Value)).length) S I3 hf3 hlt3 hns old4;have es:({ s3 with heap:=h1,toks:=s.toks+([]:List (Str × Value)).length }:Shared) = { s with heap:=h1,toks:=s.toks+([]:List (Str × Value)).length }:=by rw[<- hs3]
 rw[es]at J0;have G1:=hg1 s3.heap.objs.size s3 (upd H1 s.heap.objs.size ho) fp<|X.pn++pins;have EM:=hb s3.heap.objs.size s3 (upd H1 s.heap.objs.size ho) fp (X.pn++pins) s.heap.objs.size;generalize hY:compCx X scope (tgs++fvs) s3.heap.objs.size s3 (upd H1 s.heap.objs.size ho) fp (X.pn++pins)=Y at J0 G1 EM;have hYp:Y.prog=X.prog:=by rw[<- hY];rfl
 have hYw:Y.w=X.w:=by rw[<- hY];rfl
 have hYK:Y.K=X.K:=by rw[<- hY];rfl
 have hYA:Y.A=X.A:=by rw[<- hY];rfl
 have hYc:Y.calm=true:=by rw[<- hY];exact hc
 have hYx:Y.xe=λ_ _=>False:=by rw[<- hY];rfl
 have hYe:Y.env=compEnvC scope (clOf X.env scope.names []) s3.heap.objs.size X.env:=by rw[<- hY];rfl
 have stat:∀{H':Hp},(∀b∈fp,H' b=none)->∀b∈fp,FpOk Y [] H' b:=λhn b hb=>by
  rw[<- hY];refine⟨hn b hb,Wap<|hlt3 b hb,λz=>?_,.inl hb,λx c e=>?_,λp hp z=>?_⟩
  ·rcases War.mp (I3.stkSub b z) with q|q
   ·exact(hf3 b hb).2.1 q
   ·exact(hf3 b hb).2.2.1 q
  ·exact(hf3 b hb).2.2.2.2.1 x c (Za5 _ _ (λ_ _ z=>by simp at z) e)
  ·have hp:p∈(X.pn++pins)++[]:=hp
   rw[Wbb]at hp;exact(hf3 b hb).2.2.2.2.2 p hp z
 have T':Turn Y.prog Y.w Y.K tg1 J fp it tn:=by rw[hYp,hYw,hYK];exact T
 have PP:PIE Y [] (compSt tgs.length sel σ) tg1 (LoopR g1 (tem s.heap.objs.size) (λ_ H'=>Q (.ref s.heap.objs.size) H')<|compSt tgs.length sel σ) (.ref it) { s with heap:=h1,toks:=s.toks+([]:List (Str × Value)).length }:=
  ⟨it,fp,tn,J,_,rfl,J0,T',tn4,stat λb hb=>(hf3 b hb).1,h2⟩
 have L:=Zir (Y:=Y) (e:=e) (d:=0) (acc:=.ref s.heap.objs.size) hpl hYc hYx (hct0 s.heap.objs.size Y.env) G1 (λit=>EM it) PP;have ST:=Zgz (d:=0) hpl hcls PP L;rw[hYp,hYw,hYA,hYe]at ST;show codeAny (model X.prog X.w) X.A (.compStart e 0 (.ref it) (.ref s.heap.objs.size)<|compEnvC scope (clOf X.env scope.names []) (s.heap.push ob).objs.size X.env) (RR (.ref s.heap.objs.size) (s.heap.push ob).objs.size) _;rw[hC];refine codeAny_mono ST λr s6 ⟨hr,σ5,H5,I6,qn⟩=>?_;subst hr;obtain⟨m6,hn6,_⟩:=I6.loc;rw[hYe]at hn6;refine fin s6 _ _ H5 m6 hn6 (I3.fpOk (Waf _) (by have z:=I6.free;rw[hYe]at z;exact z)) (λh' sb=>?_) qn;have I6':Inv (compCx X scope (tgs++fvs) s3.heap.objs.size s3 (upd H1 s.heap.objs.size ho) fp<|X.pn++pins) [] σ5 H5 s6:=by rw[hY];exact I6
 exact Zi1 I3 hf3 I6' sb
def tAppL (te:TE) (D:Addr):TB:=λσ H N=>te σ H λy H1=>∃ys,H1 D=some (.lst ys)/\ys.length<sizeLine/\N σ (upd H1 D (.lst<|ys++[y]))
theorem Zwc {Y:Cx}{ex:Expr}{te:TE}(hx:Y.xe=λ_ _=>False) (he:PE Y ex te) (D:Addr):PB Y (do
   let _ ← call (.builtin "list.append") [.ref D,<- eval ex Y.env]) (tAppL te D):=λpins s σ H N I h=>by
 have h1:=he pins s σ H _ I h;rw[hx]at h1;refine wpAny_bind (thn h1 λu s1 ⟨y,H1,I1,ry,ys,ea,za,na⟩=>?_);have M:=Zbc (X:=Y) _ s1 σ H1 (.ref D) [y] (.ref D) [u] (λ_ H=>N σ H) I1 rfl (.cons ry .nil) ⟨_,ys,y,rfl,rfl,ea,za,na⟩;rw[hx]at M;exact wpAny_bind (thn M λ_ sb ⟨_,Hb,Ib,_,nb⟩=>wpAny_pure ⟨σ,Hb,Ib,nb⟩)
theorem Zo0 {ex tg1 it1 tg2 it2:Expr}{scope:Scope}{pos spos py:Pos}{fvs:List Str}{sel:List Nat}{wi1 wi2:TI}{g1 g2:TG}{te:TE}{i:Nat}{y:Str}(hN:X.N.Nodup) (hiy:X.N[i]?=some y) (hx:Loc X.env.scope y) (tgs:List Str) (S:CompSc X.env.scope X.N scope fvs sel) (hc:X.calm=true)
  (hi1:PI X tg1 it1 wi1) (hg1:∀C s H ex pn,PG (compCx X scope (tgs++fvs) C s H ex pn) tg1 g1) (hi2:∀C s H ex pn,PI (compCx X scope (tgs++fvs) C s H ex pn) tg2 it2 wi2) (hg2:∀C s H ex pn,PG (compCx X scope (tgs++fvs) C s H ex pn) tg2 g2)
  (he:∀C s H ex' pn,PE (compCx X scope (tgs++fvs) C s H ex' pn) ex te)
  (hs1:∀x,foldedSetIterable it1 X.env x=pure x:=by intro _;rfl) (hs2:∀(env:Env) x,foldedSetIterable it2 env x=pure x:=by intro _ _;rfl)
  (hsw:swapsWith (.ListComp ex [⟨tg1,it1,[],0⟩,⟨tg2,it2,[],0⟩] scope pos) (some (.Name y py)) spos.line X.env=pure true:=by rfl)
  (hf:X.fn y=true\/X.env.scope.names.lookup y=some .local:=by first|exact .inl rfl|exact .inr rfl|assumption) :
  PS X (.Assign [.Name y py] (.ListComp ex [⟨tg1,it1,[],0⟩,⟨tg2,it2,[],0⟩] scope pos) spos) (tAsg (tComp2 tgs.length sel wi1 g1 wi2 g2 (.lst [])<|tAppL te)<|gName i):=by
 intro pins s σ H D I h;rw[exec_Assign_Name_used _ _ _ _ hsw];refine wpAny_bind (wpAny_standAt (wpAny_bind ?_));show wpAny _ X.A (do let _ ← comprehension (.ListComp ex [⟨tg1,it1,[],0⟩,⟨tg2,it2,[],0⟩] scope pos) scope X.env _ (newList []) false (eval it1 X.env) (some (assign (.Name y py) X.env))) _ _ s;refine wpAny_bind (wpAny_mono (wpAny_comprehension_free (use:=some (assign (.Name y py) X.env)) (Q:=λ_ s'=>SP X pins D .next s') rfl hs1 (Zbd (Zc6 S I.ok)) S.kind S.names
  (thn (hi1 pins s σ H _ I h) λv s1 h1=>thn h1 λitv s2 h2=>?_)) (λ_ s' hq=>wpAny_pure (wpAny_pure hq)) λ_ _ e=>e)
 refine Zlg (tgs:=tgs) (ob:={ cls:=.type "list",data:=.seq ([]:List Value).toArray }) (ho:=.lst []) (Zg2 _ _ _ _) rfl (λD env it=>rfl) (λs Q E q=>wpAny_newObj_type q) (λpins σ H s I=>I.lnew (its:=[]) .nil<|by decide) S hc hg1 (tem:=λacc=>tLoop wi2 g2<|tAppL te acc) (λC s H ex pn D it=>Zps (Y:=compCx X scope (tgs++fvs) C s H ex pn) (Zg2 _ _ _ _) hc rfl rfl (λit=>rfl) (hi2 C s H ex pn) (hg2 C s H ex pn) (λit=>(Zwc (Y:=compCx X scope (tgs++fvs) C s H ex pn) rfl (he C s H ex pn) D).rest)<|hs2 _) (RR:=λacc C=>compPost (model X.prog X.w) X.A X.xe (some<|assign (.Name y py) X.env) (λ_ s'=>SP X pins D .next s') acc C) (Q:=λv H'=>D.nx (σ.set i<|some v) H') h2 ?_;intro s' C acc H' m hn fp hI q;have I0:Inv X pins σ H' s':=hI s'.heap (.refl ..);show wpAny _ X.A (assign (.Name y py) X.env (.ref acc)) _ _ _;refine wpAny_assign_Name<|Zee (v:=.ref acc) I0 hN hiy hx rfl (λs2 I2 hsb=>?_) hf;obtain⟨a,sb,ha⟩:=hsb;have hCa:C≠a:=by
  rcases ha with z|z
  ·rw[z];exact fp.2.1
  ·exact Ne.symm<|fp.2.2.2.2.1 y a z
 refine⟨m,hn.sameBut sb hCa,λh' sb'=>?_⟩;obtain⟨f0,f1,f2,f3,f4,f5⟩:=fp;exact⟨_,H',I2.turned (t':=s2.toks) (it:=C) (λb o hb e=>(sb'.2 b hb).trans e) f0 f1 f3 f4 f5,q⟩
def tCompG (n:Nat) (sel:List Nat) (wi1:TI) (g1:TG) (ho:HO) (tem:Addr->TB):TE:=λσ H Q=>wi1 σ H λJ H1=>∀acc,H1 acc=none->LoopR g1 (tem acc) (λ_ H'=>Q (.ref acc) H') (compSt n sel σ) J (upd H1 acc ho)
end
section
variable {K:W.Frag}{Δ:Evt}
def gInO (G H:Hp) (acc:Addr) (o:HO):Gm:=⟨λ_=>False,G,H,λb=>if b=acc then some o else none⟩
theorem Zia {G H:Hp}{acc:Addr}{u:HO}{G' H':Hp}{σ:St}{Δ:Evt}(k:Ok K (gInO G H acc u) G' H' σ Δ):H' acc=some u/\G' acc=none/\∀(i:Nat) x od,Δ[i]?=some x->x.od=some od -> σ[i]?≠some (some (.ref acc)):=
 k.ext acc u (by show (if acc=acc then _ else _)=_;rw[if_pos rfl])
theorem Zq4 {G H:Hp}{acc:Addr}{u u':HO}{G' H':Hp}{σ:St}{Δ:Evt}(hH:H acc=none) (k:Ok K (gInO G H acc u) G' H' σ Δ):Ok K (gInO G H acc u') G' (upd H' acc u') σ Δ:=by
 obtain⟨w1,w2,w3⟩:=Zia k;have ne:∀{b:Addr}{o:HO},G' b=some o->b≠acc:=λ{b o} e z=>by subst z;rw[w2]at e;cases e
 refine⟨λb o hb e=>?_,λb hb=>hb.elim,k.sub,λb o e=>?_,λb o e=>?_,k.len,k.val,λi x od e1 e2=>?_,k.dis⟩
 ·have hb':b≠acc:=by intro z;subst z;have e:H b=some o:=e;rw[hH]at e;cases e
  rw[Zak hb'];exact k.same b o (λz=>z) e
 ·rw[Zak (ne e)];exact k.frz b o e
 ·have e:(if b=acc then some u' else none)=some o:=e
  by_cases hb:b=acc
  ·rw[if_pos hb]at e;cases e;subst hb
   exact⟨Zal,w2,w3⟩
  ·rw[if_neg hb]at e;cases e
 ·obtain⟨a,o,h1,h2,h3,h4,h5⟩:=k.own i x od e1 e2
  have hb:a≠acc:=by intro z;subst z;exact w3 i x od e1 e2 h1
  exact⟨a,o,h1,by rw[Zak hb];exact h2,h3,h4,h5⟩
def JB (K:W.Frag) (tem:Addr->TB) (Δ:Evt) (od:OD) (P:OD->Evt->Prop):Prop:=∀(G1 H1:Hp) (acc:Addr) (o:HO) (G H:Hp) (σ:St) (N:St->Hp->Prop),H1 acc=none->OwnRep K G o od->Ok K (gInO G1 H1 acc o) G H σ Δ →
 (∀o' od' σ' G' H' Δ',Ok K (gInO G1 H1 acc o') G' H' σ' Δ' -> Same G G' -> OwnRep K G' o' od' -> P od' Δ' -> N σ' H')->tem acc σ H N
theorem Zt4 {wi:TI}{g2:TG}{tem:Addr->TB}{od:OD}{P:OD->Evt->Prop}(h:JI K wi Δ λes Δ4=>∃I2:Nat->OD->Evt->Prop,I2 0 od Δ4 ∧
   (∀j e od2 Δ5,es[j]?=some e->I2 j od2 Δ5->JG K g2 e Δ5 λΔ6=>JB K tem Δ6 od2 λod3 Δ8=>I2 (j+1) od3 Δ8)/\∀od2 Δ5,I2 es.length od2 Δ5->P od2 Δ5):JB K (λacc=>tLoop wi g2 (tem acc)) Δ od P:=λG1 H1 acc o G H σ N hacc ra k c=>
 h _ G H σ _ k λJ es G5 H5 Δ5 k5 s5 it ⟨I2,i0,i1,i2⟩=>by
  refine⟨λj m σ' H'=>m=es.length-j/\j<=es.length/\∃G6 o6 od6 Δ6,OwnRep K G6 o6 od6/\Ok K (gInO G1 H1 acc o6) G6 H' σ' Δ6/\Same G5 G6/\I2 j od6 Δ6,⟨es.length,by simp,Wb1 _,G5,o,od,_,ra.mono s5,k5,Same.refl _,i0⟩,?_⟩;rintro j m σ6 H6 ⟨rfl,hj,G6,o6,od6,Δ6,r6,k6,s6,h6⟩;obtain⟨stop2,go2⟩:=it G6 H6 s6 k6.live;by_cases hjt:j<es.length
  ·obtain⟨c1,c2⟩:=go2 j _ (Waa hjt)
   refine .inr ⟨c1,λσ' H'=>∃G7 o7 od7 Δ7,OwnRep K G7 o7 od7/\Ok K (gInO G1 H1 acc o7) G7 H' σ' Δ7/\Same G5 G7/\I2 (j+1) od7 Δ7,λσ' H' p'=>⟨es.length-(j+1),by omega,rfl,hjt,p'⟩,λx2 H7 y2=>?_⟩;obtain⟨G7,d1,d2,d3,d4⟩:=c2 x2 H7 y2;have k7:=k6.grow d1 d2 d3;refine i1 j _ od6 Δ6 (Waa hjt) h6 _ G7 H7 σ6 x2 _ k7 d4 λσ8 G8 H8 Δ8 k8 s8 p8=>?_;exact p8 G1 H1 acc o6 G8 H8 σ8 _ hacc (r6.mono<|d1.trans s8) k8 λo9 od9 σ9 G9 H9 Δ9 k9 s9 r9 p9=>⟨G9,o9,od9,Δ9,r9,k9,s6.trans<|d1.trans<|s8.trans s9,p9⟩
  ·have e:j=es.length:=by omega
   subst e;exact .inl ⟨stop2,c o6 od6 σ6 G6 H6 Δ6 k6 (s5.trans s6) r6<|i2 od6 Δ6 h6⟩
theorem Zv5 {te:TE}{ds:List D}{P:OD->Evt->Prop}(h:JE K te Δ λd Δ1=>ds.length<sizeLine/\P (.lst<|ds++[d]) Δ1):JB K (tAppL te) Δ (.lst ds) P:=λG1 H1 acc o G H σ N hacc ra k c=>
 h _ G H σ _ k λy d Ga Ha Δa ka sa r ⟨hl,p⟩=>by
  cases o with
  |lst vs=>
   have ra':Reps K Ga vs ds:=Reps.mono sa ra;obtain⟨w1,w2,w3⟩:=Zia ka;exact⟨vs,w1,by rw[ra'.length];exact hl,c _ _ σ Ga _ Δa (Zq4 hacc ka) sa (show OwnRep K Ga (.lst<|vs++[y]) (.lst<|ds++[d]) from Reps.append ra' (.cons r .nil)) p⟩
  |_=>exact absurd ra (λz=>z)
theorem Zp7 {n:Nat}{sel:List Nat}{wi1:TI}{g1:TG}{ho:HO}{od0:OD}{tem:Addr->TB}{Po:OD->Evt->Prop}(h00:∀G,OwnRep K G ho od0)
  (h:JI K wi1 Δ λds Δ1=>(∀i∈sel,∃d,Δ1[i]?=some (.val d))/\∃I:Nat->OD->Evt->Prop,I 0 od0 (compD n sel Δ1) ∧
   (∀i d od Δ2,ds[i]?=some d->I i od Δ2->JG K g1 d Δ2 λΔ3=>JB K tem Δ3 od λod' Δ4=>I (i+1) od' Δ4) ∧
   ∀od Δ2,I ds.length od Δ2->Po od Δ1):JO K (tCompG n sel wi1 g1 ho tem) Δ Po:=λg G H σ Q k c=>
 h g G H σ _ k λJ ds G1 H1 Δ1 k1 s1 it ⟨hval,I,h0,ht,he⟩ acc hacc=>by
  have hGa:G1 acc=none:=by
   cases e:G1 acc with
   |none=>rfl
   |some u=>rw[k1.live _ _ e]at hacc;cases hacc
  have noOd:∀(i:Nat) x od,(compD n sel Δ1)[i]?=some x->x.od=some od->False:=λi x od e1 e2=>by
   rcases Zb2 e1 with z|⟨j,i',ei,ej,z⟩
   ·subst z;cases e2
   ·obtain⟨d,hd⟩:=hval i' (Wax ej)
    rw[hd]at z;cases z;cases e2
  refine⟨λi m σ' H'=>m=ds.length-i/\i<=ds.length/\∃G2 o2 od2 Δ2,OwnRep K G2 o2 od2/\Ok K (gInO G1 H1 acc o2) G2 H' σ' Δ2/\Same G1 G2/\I i od2 Δ2,⟨ds.length,by simp,Wb1 _,G1,ho,od0,_,h00 _,?_,Same.refl _,h0⟩,?_⟩
  ·refine⟨λb o hb e=>?_,λb hb=>hb.elim,Same.refl _,λb o e=>⟨?_,.inr e⟩,λb o e=>?_,?_,λi d e=>?_,λi x od e1 e2=>(noOd i x od e1 e2).elim,λi j x y od od' a e1 e2=>(noOd i x od e1 e2).elim⟩
   ·have e:H1 b=some o:=e
    rw[Zak (Zat e hacc)];exact e
   ·rw[Zak (Zat e hGa)];exact k1.live b o e
   ·have e:(if b=acc then some ho else none)=some o:=e
    by_cases hb:b=acc
    ·rw[if_pos hb]at e;cases e;subst hb
     exact⟨Zal,hGa,λi x od e1 e2=>(noOd i x od e1 e2).elim⟩
    ·rw[if_neg hb]at e;cases e
   ·unfold compD compSt;simp
   ·rcases Zb2 e with z|⟨j,i',ei,ej,z⟩
    ·cases z
    ·subst ei
     obtain⟨v,w1,w2⟩:=k1.val i' d z;exact⟨v,by rw[Zc2 ej,w1];rfl,w2⟩
  ·rintro i m σ2 H2 ⟨rfl,hi,G2,o2,od2,Δ2,r2,k2,s2,h2⟩
   obtain⟨stop,go⟩:=it G2 H2 s2 k2.live;by_cases hlt:i<ds.length
   ·obtain⟨a1,a2⟩:=go i _ (Waa hlt)
    refine .inr ⟨a1,λσ' H'=>∃G3 o3 od3 Δ3,OwnRep K G3 o3 od3/\Ok K (gInO G1 H1 acc o3) G3 H' σ' Δ3/\Same G1 G3/\I (i+1) od3 Δ3,λσ' H' p'=>⟨ds.length-(i+1),by omega,rfl,hlt,p'⟩,λx H3 y=>?_⟩;obtain⟨G3,b1,b2,b3,b4⟩:=a2 x H3 y;have k3:=k2.grow b1 b2 b3;refine ht i _ od2 Δ2 (Waa hlt) h2 _ G3 H3 σ2 x _ k3 b4 λσ4 G4 H4 Δ4 k4 s4 p4=>?_;exact p4 G1 H1 acc o2 G4 H4 σ4 _ hacc (r2.mono<|b1.trans s4) k4 λo9 od9 σ9 G9 H9 Δ9 k9 s9 r9 p9=>⟨G9,o9,od9,Δ9,r9,k9,s2.trans<|b1.trans<|s4.trans s9,p9⟩
   ·have e:i=ds.length:=by omega
    subst e;obtain⟨w1,w2,w3⟩:=Zia k2;refine .inl ⟨stop,?_⟩;have k9:Ok K g G2 H2 σ Δ1:=k1.grow s2 (λb o e=>k2.same b o (λz=>z) e) λb o e=>by
     obtain⟨f1,f2⟩:=k2.frz b o e;exact⟨f1,f2.symm⟩
    refine c acc _ G2 H2 Δ1 k9 (s1.trans s2) ⟨o2,w1,r2,w2,k1.there hacc,?_,λi x od e1 e2 e3=>?_⟩<|he od2 Δ2 h2
    ·cases q:g.Xo acc with
     |none=>rfl
     |some u=>have z:=(k1.ext acc u q).1;rw[hacc]at z;cases z
    ·obtain⟨a,oo,v1,v2,_⟩:=k1.own i x od e1 e2
     rw[e3]at v1;cases v1;rw[hacc]at v2;cases v2
end
section
variable {K:W.Frag}{Δ:Evt}{nx bk ct:Evt->Prop}{rt:D->Evt->Prop}{ro:OD->Evt->Prop}
end
section
variable {K:W.Frag}{Δ:Evt}{P:D->Evt->Prop}
end
end L2
set_option Elab.async false
set_option linter.all false
set_option maxRecDepth 100000
namespace HT
open PySem PyProof.Rows
end HT
namespace L2
open PySem PySem.Spec PyProof.Rows
section
variable {K:W.Frag}{Δ:Evt}{P:D->Evt->Prop}
end
section
variable {prog:Program}{w:World}{A:Around}{R:Result->Shared->Prop}{I:Addr}{fp wr:List Addr}{G:Array GenState->Array GenState->Prop}{n:Nat}{P:Nat->Value->Prop}{St:Nat->Shared->Prop}{K:Type}[DecidableEq K] {knd:KeyKind prog w K}
end
section
variable {X:Cx}
end
end L2
namespace L2
open PySem PySem.Spec PyProof.Rows
section
variable {prog:Program}{w:World}{A:Around}{E:Value->Shared->Prop}{s:Shared}
end
section
variable {K:W.Frag}{Δ:Evt}{P:D->Evt->Prop}
def onlyV:Slot->Slot
 |.val d=>.val d
 |_=>.any
theorem Zki {x:Slot}:(onlyV x).od=none:=by cases x <;> rfl
theorem Ok.peek {g:Gm}{G H:Hp}{σ:St}(k:Ok K g G H σ Δ) {i:Nat}{x:Slot}{ds:List D}(h:Δ[i]?=some x) (ho:x.od=some (.lst ds)) :
  ∃(g':Gm) (G':Hp),Ok K g' G' H σ ((Δ.map onlyV).set i (.val (.lst ds)))/\Same G G' /\ ∀G2 H2 Δ2,Ok K g' G2 H2 σ Δ2->Ok K g G H2 σ Δ:=by
 obtain⟨a,o,w1,w2,w3,w4,w5⟩:=k.own i x _ h ho;cases o with
 |lst vs=>
  have sg:Same G (upd G a (.lst vs)):=λb u e=>by rw[Zak (Zat e w4)];exact e
  have hlt:i<(Δ.map onlyV).length:=by rw[Wac];exact(Wag.mp h).1
  refine⟨⟨λ_=>False,upd G a (.lst vs),H,λ_=>none⟩,upd G a (.lst vs),⟨λb o _ e=>e,λb z=>z.elim,λb o e=>e,λb o e=>?_,λb o e=>(by cases e),?_,λj d e=>?_,λj y od e1 e2=>?_,λj l y z od od' b e1 e2 e3 e4=>?_⟩,sg,λG2 H2 Δ2 k2=>?_⟩
  ·refine⟨?_,.inr e⟩
   by_cases hb:b=a
   ·subst hb;rw[Zal]at e;cases e;exact w2
   ·rw[Zak hb]at e;exact k.live b o e
  ·rw[Wct,Wac];exact k.len
  ·by_cases hj:j=i
   ·subst hj
    rw[Wat hlt]at e;cases e;exact⟨.ref a,w1,.lst Zal<|Reps.mono sg w3⟩
   ·rw[Was (Ne.symm hj),Wah]at e
    cases z:Δ[j]? with
    |none=>rw[z]at e;cases e
    |some y=>
     rw[z]at e;cases y with
     |val d'=>
      have e:Slot.val d'=Slot.val d:=Wa5.inj e;cases e;obtain⟨v,q1,q2⟩:=k.val j d z;exact⟨v,q1,q2.mono sg⟩
     |_=>cases e
  ·exfalso
   by_cases hj:j=i
   ·subst hj
    rw[Wat hlt]at e1;cases e1;cases e2
   ·rw[Was (Ne.symm hj),Wah]at e1
    cases z:Δ[j]? with
    |none=>rw[z]at e1;cases e1
    |some y=>
     rw[z]at e1;have e1:onlyV y=_:=Wa5.inj e1;rw[<- e1,Zki]at e2;cases e2
  ·exfalso
   by_cases hj:j=i
   ·subst hj
    rw[Wat hlt]at e1;cases e1;cases e2
   ·rw[Was (Ne.symm hj),Wah]at e1
    cases z:Δ[j]? with
    |none=>rw[z]at e1;cases e1
    |some y=>
     rw[z]at e1;have e1:onlyV y=_:=Wa5.inj e1;rw[<- e1,Zki]at e2;cases e2
  ·have kp:∀b o,H b=some o->H2 b=some o:=λb o e=>k2.same b o (λz=>z) e
   refine⟨λb o n e=>kp b o<|k.same b o n e,λb n z=>?_,k.sub,λb o e=>⟨kp b o (k.frz b o e).1,(k.frz b o e).2⟩,λb o e=>?_,k.len,k.val,λj y od e1 e2=>?_,k.dis⟩
   ·cases e:H b with
    |none=>exact k.lent b n e
    |some o=>rw[kp b o e]at z;cases z
   ·obtain⟨q1,q2,q3⟩:=k.ext b o e
    exact⟨kp b o q1,q2,q3⟩
   ·obtain⟨b,o,q1,q2,q3⟩:=k.own j y od e1 e2
    exact⟨b,o,q1,kp b o q2,q3⟩
 |_=>exact absurd w3 (λz=>z)
theorem Zm5 {i:Nat}{x:Slot}{ds:List D}{t:TT}{Pb:Bool->Evt->Prop}(h:Δ[i]?=some x) (ho:x.od=some (.lst ds)) (p:JT K t ((Δ.map onlyV).set i (.val (.lst ds))) λb _=>Pb b Δ):JT K t Δ Pb:=λg G H σ Q k c=>by
 obtain⟨g',G',k',_,back⟩:=k.peek h ho;exact p g' G' H σ Q k' λb G2 H2 Δ2 k2 _ q=>c b G H2 Δ (back G2 H2 Δ2 k2) (Same.refl _) q
end
end L2
namespace L2
open PySem PySem.Spec PyProof.Rows
open PySem PySem.Spec PyProof.Rows PySem.SeqAt
section
variable {prog:Program}{w:World}{A:Around}{E:Value->Shared->Prop}{s:Shared}
end
section
variable {K:W.Frag}{Δ:Evt}
end
open PySem PySem.Spec PyProof.Rows PySem.SeqAt
section
open PySem.AutoSeq1 (wpAny_loadPart')
open PySem.MeetsSeq PySem.MeetsSeq2 PySem.MeetsSeq3
end
section
variable {prog:Program}{w:World}{A:Around}{R:Result->Shared->Prop}{I:Addr}{fp wr:List Addr}{n:Nat}{P:Nat->Value->Prop}{St:Nat->Heap->Prop}
end
end L2
namespace L2
open PySem PySem.Spec PyProof.Rows PySem.SeqAt
def RowV (K:W.Frag) (H:Hp) (y:V) (r:List Int):Prop:=∃b,y=.ref b/\SqT K H b (r.map V.int)
section
variable {X:Cx}
theorem row_at {pins:List (Addr × Obj)}{s:Shared}{σ:St}{H:Hp}(I:Inv X pins σ H s) {y:V}{u:Value}{r:List Int}(ru:RelV y u) (h:RowV X.K H y r):RowAt s.heap u r:=by
 obtain⟨b,rfl,hs⟩:=h;obtain⟨its,w1,p1,_⟩:=I.tuple hs;exact⟨b,its,ru,p1,Zcy w1⟩
end
open PySem PySem.Spec PyProof.Rows PySem.SeqAt
section
variable {K:W.Frag}{Δ:Evt}{P:D->Evt->Prop}
end
open PySem PySem.Spec PyProof.Rows PySem.SeqAt
open PySem in
theorem Zah {v} {j} {p:Pos}{es:List Expr}{env:Env}:starEach (Expr.Constant v j p::es) env=(false,eval (Expr.Constant v j p) env)::starEach es env:=rfl
section
variable {X:Cx}
def ipC (C:Int->Int->Prop) (f:Int->Int->Int):TIp:=λx y H Q=>∃i j,x=.int i/\y=.int j/\C i j/\Q (.int<|f i j) H
theorem Zuh:PIp X .Mult (ipC CMul λi j=>i*j):=by
 intro pins s σ H x y v u Q I r1 r2 h;obtain⟨i,j,e1,e2,hc,q⟩:=h;subst e1;subst e2;obtain⟨t,rfl⟩:=r1;obtain⟨t',rfl⟩:=r2;exact imul_int ⟨.int _,H,I.tok _,⟨_,rfl⟩,q⟩ hc.ok
def rDm:List V->Hp->VK->Prop:=λxs H Q=>∃i j,xs=[.int i,.int j]/\0<j/\j<1073741824/\∀l,H l=none->Q (.ref l) (upd H l (.tup [.int (i / j),.int (i % j)]))
theorem Zs5:CallR X (.builtin "divmod") rDm:=by
 intro pins s σ H xs us Q I r h;obtain⟨i,j,rfl,h1,h2,q⟩:=h;obtain⟨u,w',rfl,⟨t,rfl⟩,⟨t',rfl⟩⟩:=vals2 r;refine divmod_int (by omega) ?_ (.inl<|PyProof.noPylong_small (by omega));rw[Wc6 i (by omega),Int.fmod_eq_emod_of_nonneg i (by omega)];refine⟨.ref s.heap.objs.size,_,I.laid (t':=s.toks+1+1) (o:=.tup [.int (i / j),.int (i % j)]) (λb ob q=>Wab _ q) (Waf _) ?_,rfl,q _<|I.hok.fresh<|Waf _⟩;exact⟨(by rw[sizeLine_eq];simp:2<=sizeLine),[_,_],.cons ⟨_,rfl⟩ (.cons ⟨_,rfl⟩ .nil),IsTupN.new _ _⟩
theorem Ze5:fillsNumberSlot (.type "tuple") "mul" = pure false:=
 PySem.fillsNumberSlot_seq (id:="tuple.__mul__") (r:=some (.builtin "tuple.__rmul__")) F.slot_tuple_mul.lookup (by decide +kernel) F.slot_tuple_rmul.lookup (by decide +kernel)
theorem Zi0:seqRepeat? (.type "tuple")=pure (some (.builtin "tuple.__mul__")):=by
 unfold seqRepeat?;rw[PySem.seqSlot_of (T:="tuple") (name:="__mul__") (id:="tuple.__mul__") F.slot_tuple_mul.lookup (by decide +kernel),PySem.seqSlot_of (T:="tuple") (name:="__rmul__") (id:="tuple.__rmul__") F.slot_tuple_rmul.lookup (by decide +kernel)];rfl
theorem Zeu (a:Int) (t:Tok) (l:Addr) (items:Array Value) (n:Nat) (d:Option Addr) (sl:Array (Option Value)) :
  Meets (Builtin.«int.__rmul__» ⟨[.int a t,.ref l],[]⟩) (λ_ R s=>s.heap.get? l=some { cls:=.type "tuple",dict:=d,data:=.seq items n,slots:=sl } /\ R (.ok (.ret Value.notImplemented)) s):=
 .of_wp λprog w A R s h=>by obtain⟨hp,g,d,tk,os⟩:=s;obtain⟨hl,h⟩:=h;wp_walk;exact⟨_,rfl,h⟩
end
section
variable {K:W.Frag}{Δ:Evt}{P:D->Evt->Prop}
theorem Zup {i j:Int}(hc:CMul i j) (p:P (.int<|i*j) Δ):JR2 K (ipC CMul λi j=>i*j) (.int i) (.int j) Δ P:=λg G H σ Q x y k rx ry c=>by
 cases rx.inv;cases ry.inv;exact⟨i,j,rfl,rfl,hc,c _ _ G H Δ k (Same.refl _) (.int _) p⟩
theorem Zwm {i j:Int}(h1:0<j) (h2:j<1073741824) (p:P (.tup [.int (i / j),.int (i % j)]) Δ):JC K rDm [.int i,.int j] Δ P:=λg G H σ Q vs k rs c=>by
 obtain⟨_,_,rfl,r,t⟩:=rs.inv;obtain⟨_,_,rfl,r',t⟩:=t.inv;cases t.inv;cases r.inv;cases r'.inv;refine⟨i,j,rfl,h1,h2,λl hl=>?_⟩;obtain⟨k2,sg⟩:=k.laid hl (.tup _);exact c _ _ _ _ Δ k2 sg (.tup Zal (.cons (.int _) (.cons (.int _) .nil))) p
theorem Zuk {te:TE}{tl th:TO}{Po:OD->Evt->Prop}(h:JE K te Δ λd Δ1=>JO2 tl Δ1 K λlo Δ2=>JO2 th Δ2 K λhi Δ3=>∃ds,d=.lst ds/\Po (.lst<|cutD ds lo hi) Δ3):JO K (tSl (rSlU K) te tl th) Δ Po:=λg G H σ Q k c=>
 h g G H σ _ k λv d G1 H1 Δ1 k1 s1 r1 p1=>p1 g G1 H1 σ _ k1 λlo G2 H2 Δ2 k2 s2 p2=>p2 g G2 H2 σ _ k2 λhi G3 H3 Δ3 k3 s3 hq_=>by
  obtain⟨ds,rfl,p⟩:=hq_;obtain⟨a,vs,rfl,ha,rs⟩:=(r1.mono (s2.trans s3)).inv;refine .inl ⟨_,_,rfl,SqL.of (k3.live _ _ ha),λq hq=>?_⟩;obtain⟨k4,pd⟩:=k3.fresh (od:=.lst (cutD ds lo hi)) hq (show OwnRep K G3 (.lst (cutV vs lo hi)) (.lst (cutD ds lo hi)) from by
   show Reps K G3 _ _;unfold cutV cutD;rw[rs.length];exact(rs.drop _).take _)
  exact c q _ G3 _ Δ3 k4 (s1.trans<|s2.trans s3) pd p
end
open PySem PySem.Spec PyProof.Rows PySem.SeqAt
section
variable {K:W.Frag}{Δ:Evt}{P:D->Evt->Prop}
def rGetL (K:W.Frag):V->V->Hp->VK->Prop:=λx y H Q=>∃(p:Addr) (xs:List V) (i:Nat) (z:V),x=.ref p/\y=.int (i:Int)/\SqL K H p xs/\xs[i]?=some z/\i<100000/\Q z H
theorem getLK {X:Cx}(K:W.Frag) (hK:X.K=K:=by rfl):PGet X (rGetL K):=by
 subst hK;intro pins s σ H x y v u Q I rx ry h;obtain⟨p,xs,i,z,rfl,rfl,hq,he,hi,q⟩:=h;cases rx;obtain⟨t,rfl⟩:=ry;obtain⟨its,r,pl,hz⟩:=I.list hq;obtain⟨w,ew,rw'⟩:=r.get he;exact wpAny_getItem_list pl.isList (by omega) (by omega) (by simpa using ew) ⟨z,H,I,rw',q⟩
theorem Zsq {n m:Nat}{x:Slot}{ds:List D}{a b:Int}{j:Nat}{nx bk ct:Evt->Prop}{rt:D->Evt->Prop}{ro:OD->Evt->Prop}(hx:Δ[n]?=some x) (ho:x.od=some (.lst ds)) (hm:Δ[m]?=some (.val (.int (j:Int)))) (hj:ixN ds.length (j:Int)=some j) (h5:j<100000) (hd:ds[j]?=some (.int a))
  (p:nx (Δ.set n<|x.put (.lst<|ds.set j (.int<|a+b)))):JS K (tAugS (tVar n) (tVar m) (tC (.int b)) (rGetL K) (ipI λi j=>i+j) rSetU) Δ ⟨nx,rt,bk,ct,ro⟩:=λg G H σ E k c=>by
 obtain⟨a0,o,h1,h2,h3,h4,h5'⟩:=k.own n x _ hx ho;obtain⟨v,w1,w2⟩:=k.val m _ hm;cases w2.inv;cases o with
 |lst vs=>
  have h3:Reps K G vs ds:=h3;obtain⟨u,z1,z2⟩:=h3.get hd;cases z2.inv;refine⟨.ref a0,h1,.int (j:Int),w1,a0,vs,j,.int a,rfl,rfl,SqL.of h2,z1,h5,?_⟩;refine⟨a,b,rfl,rfl,.inl ⟨a0,vs,(j:Int),j,rfl,rfl,h2,by rw[h3.length];exact hj,?_⟩⟩;exact c.nx σ G _ _ (k.write hx ho h1 (show OwnRep K G (.lst<|vs.set j (.int<|a+b)) (.lst<|ds.set j (.int<|a+b)) from h3.set j (.int _))) p
 |_=>exact absurd h3 (λz=>z)
end
open PySem PySem.Spec PyProof.Rows PySem.SeqAt
section
variable {X:Cx}
end
section
variable {prog:Program}{w:World}{A:Around}{E:Value->Shared->Prop}{s:Shared}
end
section
variable {X:Cx}
theorem Zj3 {u:V}{v:Value}(r:RelV u v):∀n,Vals (Wae n u) (Wae n v)
 |0=>.nil
 |n+1=>.cons r (Zj3 r n)
end
section
variable {K:W.Frag}{Δ:Evt}{P:D->Evt->Prop}
theorem Zj6 {G:Hp}{v:V}{d:D}(r:Rep K G v d):∀n,Reps K G (Wae n v) (Wae n d)
 |0=>.nil
 |n+1=>.cons r (Zj6 r n)
theorem Zrw {i:Nat}{ds:List D}{t:TS}{P:Pst}(h:Δ[i]?=some (.own (.lst ds))) (p:JS K t (Δ.set i (.val (.lst ds))) P):JS K t Δ P:=
 JS.conv (λg G H σ k=>by
  obtain⟨a,h1,pd⟩:=k.take h;obtain⟨o,q1,q2,_⟩:=id pd;cases o with
  |lst vs=>
   obtain⟨k2,sg,r⟩:=(k.drop i).freeze pd q1;have k3:=k2.setVal (i:=i) (by simpa using (Wag.mp h).1) r;have e1:σ.set i (some (.ref a)) = σ:=by
    apply Wc0;intro j;by_cases hj:j=i
    ·subst hj;rw[Wat (k.lt h),h1]
    ·rw[Was (Ne.symm hj)]
   rw[e1,List.set_set]at k3;exact⟨_,sg,k3⟩
  |_=>exact absurd q2 (λz=>z)) p
end
open PySem PySem.Spec PyProof.Rows PySem.SeqAt
section
variable {prog:Program}{w:World}{A:Around}{E:Value->Shared->Prop}{s:Shared}
end
section
variable {K:W.Frag}{Δ:Evt}
end
section
variable {K:W.Frag}{Δ:Evt}{P:D->Evt->Prop}
end
section
variable {X:Cx}
def CMulB (i j:Int):Prop:=(0<=i/\i<2 ^ 500)/\(0<=j/\j<2 ^ 500)
theorem Zf4 {k:Int}(h1:0<=k) (h2:k<2 ^ 500):Builtin.Int.intBits k<=500:=by
 unfold Builtin.Int.intBits;split
 ·exact Wb1 _
 ·have hn:k.natAbs<2 ^ 500:=by omega
  have:k.natAbs.log2<500:=by
   rcases Nat.eq_zero_or_pos k.natAbs with h0|hp
   ·rw[h0];decide
   ·exact(Nat.log2_lt<|Wci hp).mpr hn
  omega
theorem CMulB.ok {i j:Int}(h:CMulB i j):IntMulOk i j:=by
 have a:=Zf4 h.1.1 h.1.2;have b:=Zf4 h.2.1 h.2.2;unfold IntMulOk;have c:Builtin.Int.intTooBig (Builtin.Int.intBits i+Builtin.Int.intBits j)=false:=by
  unfold Builtin.Int.intTooBig;rw[decide_eq_false];have:(2000:Nat)<=bitsLine:=by decide
  omega
 rw[c,Wcc];exact Wal
theorem Zoi:PIp X .Mult (ipC CMulB λi j=>i*j):=by
 intro pins s σ H x y v u Q I r1 r2 h;obtain⟨i,j,e1,e2,hc,q⟩:=h;subst e1;subst e2;obtain⟨t,rfl⟩:=r1;obtain⟨t',rfl⟩:=r2;exact imul_int ⟨.int _,H,I.tok _,⟨_,rfl⟩,q⟩ hc.ok
end
section
variable {K:W.Frag}{Δ:Evt}{P:D->Evt->Prop}
theorem Zof {i j:Int}(hc:CMulB i j) (p:P (.int<|i*j) Δ):JR2 K (ipC CMulB λi j=>i*j) (.int i) (.int j) Δ P:=λg G H σ Q x y k rx ry c=>by
 cases rx.inv;cases ry.inv;exact⟨i,j,rfl,rfl,hc,c _ _ G H Δ k (Same.refl _) (.int _) p⟩
end
def stp (m:Nat):Nat->Nat->Nat
 |0,i=>i
 |k+1,i=>(stp m k i*5+1) % (m+1)
def orb (m:Nat):Nat->Nat->List Nat
 |0,_=>[]
 |f+1,i=>i::orb m f ((i*5+1) % (m+1))
def SmP (k:Int × Int):Prop:=0<=k.1/\k.1<64/\0<=k.2/\k.2<2
section
variable {prog:Program}{w:World}{A:Around}{E:Value->Shared->Prop}{s:Shared}
variable {hf:Int × Int->Int}(hfi:∀{a b:Int × Int},SmP a->SmP b->hf a=hf b->a=b)
include hfi
end
section
variable {X:Cx}
variable {o e:Expr}{es:List Expr}{to:TE}{t:TA}{name:Str}{apos cpos:Pos}{id:String}{r:V->List V->Hp->VK->Prop}
end
end L2
namespace L2
open PySem PySem.Spec PyProof.Rows
end L2
namespace L2
open PySem PySem.Spec PyProof.Rows
open PySem PySem.Spec PyProof.Rows PySem.SeqAt
section
variable {X:Cx}
end
section
variable {K:W.Frag}{Δ:Evt}
end
open PySem PySem.Spec PyProof.Rows PySem.SeqAt
section
variable {X:Cx}
def rSmT (K:W.Frag) (r:Bool):R2:=λx y H Q=>Q (.bl r) H/\∃(G:Hp) (n:Nat) (a b:Addr) (xs ys:List V) (ds:List D),Same G H/\Reps K G xs ds/\Reps K G ys ds/\ds.all (Sm n)=true/\n<=5/\x=.ref a/\y=.ref b/\SqT K H a xs/\SqT K H b ys
theorem neSmTK (K:W.Frag) (hv:X.A.units+8<cLine) (hK:X.K=K:=by rfl):OpR X (compareOp .NotEq) (rSmT K false):=by
 subst hK;intro pins s σ H x y v u Q I rx ry h;obtain⟨q,G,n,a,b,xs,ys,ds,sg,ra,rb,hd,hn,rfl,rfl,h1,h2⟩:=h;cases rx;cases ry;obtain⟨its,w1,p1,_⟩:=I.tuple h1;obtain⟨its2,w2,p2,_⟩:=I.tuple h2;have l1:=w1.length;have l2:=w2.length;have l3:=ra.length;have l4:=rb.length;have z:=RcNeAt.tuples (A:=X.A) (s:=s) (e:=λ_=>true) p1 p2 (by omega) λj h1 h2=>by
  have h1':j<its.length:=by simpa using h1
  have h2':j<its2.length:=by simpa using h2
  have hx:j<ds.length:=by omega
  obtain⟨p,hp1,hp2⟩:=ra.get<|Waa hx;obtain⟨q,hq1,hq2⟩:=rb.get<|Waa hx;obtain⟨va,hv1,hv2⟩:=w1.get hp1;obtain⟨vb,hw1,hw2⟩:=w2.get hq1;rw[Waa h1']at hv1;rw[Waa h2']at hw1;rw[Wb9,Wb9,Wa5.inj hv1,Wa5.inj hw1];exact Zft n I sg hp2 hq2 hv2 hw2 (Wbz.mp hd _<|Wa4 hx) (by show X.A.units+1+n<cLine;omega)
 rw[Wbz.mpr (λ_ _=>rfl),show (its.toArray.size == its2.toArray.size)=true by rw[Wan,Wan];exact beq_iff_eq.mpr (by omega),Bool.and_self]at z;exact z X.prog X.w _ _ ⟨.bl _,H,I,rfl,q⟩
end
section
variable {K:W.Frag}{Δ:Evt}
theorem Zri {r:Bool}{P:D->Evt->Prop}{n:Nat}{ds:List D}(hn:n<=5) (h:ds.all (Sm n)=true) (p:P (.bl r) Δ):JR2 K (rSmT K r) (.tup ds) (.tup ds) Δ P:=λg G H σ Q x y k rx ry c=>by
 obtain⟨_,_,rfl,ha,ra⟩:=rx.inv
 next=>
  obtain⟨_,_,rfl,hb,rb⟩:=ry.inv
  next=>exact⟨c _ _ G H Δ k (Same.refl _) (.bl r) p,G,n,_,_,_,_,ds,k.live,ra,rb,h,hn,rfl,rfl,SqT.of<|k.live _ _ ha,SqT.of<|k.live _ _ hb⟩
end
open PySem PySem.Spec PyProof.Rows PySem.SeqAt
section
variable {K:W.Frag}{Δ:Evt}{P:D->Evt->Prop}
end
open PySem PySem.Spec PyProof.Rows PySem.Builtin PySem.Builtin.Str
section
variable {K:W.Frag}{Δ:Evt}
end
section
variable {K:W.Frag}{Δ:Evt}{P:D->Evt->Prop}
end
section
variable {K:W.Frag}{Δ:Evt}
end
theorem Zkt {α:Type}(v:α):∀(m:Nat) (acc:Array α),(Wae m #[v]).foldl (· ++ ·) acc=acc++(Wae m v).toArray
 |0,acc=>by simp
 |m+1,acc=>by
  rw[Wc3,List.foldl_cons,Zkt v m,Wc3];apply Array.toList_inj.mp;simp
theorem Zhv (l:Addr) (v:Value) (k:Nat) (d:Option Addr) (sl:Array (Option Value)) (x:Int) (u:Tok) (h0:2<=x) (h1:x<=1000) :
  Meets (Builtin.«tuple.__mul__» ⟨[.ref l,.int x u],[]⟩) (λ_ R s=>s.heap.get? l=some { cls:=.type "tuple",dict:=d,data:=.seq #[v] k,slots:=sl } /\ R (.ok (.ret<|Value.ref s.heap.objs.size)) { s with heap:=s.heap.push { cls:=Value.type "tuple",data:=Data.seq (Wae x.toNat v).toArray } }):=
 .of_wp λprog w A R s h=>by
  obtain⟨hp,g,d,tk,os⟩:=s;obtain⟨hl,h⟩:=h;have e1:(decide (x < -(2 ^ 63:Int)) || decide (x ≥ 2 ^ 63))=false:=by rw[Bool.or_eq_false_iff];exact⟨decide_eq_false (by omega),decide_eq_false<|by omega⟩
  have e2:(x == 1)=false:=beq_eq_false_iff_ne.mpr (by omega);have e3:(decide (x<=0))=false:=decide_eq_false (by omega);have e4:((#[v]:Array Value).isEmpty || x == 1)=false:=by rw[e2];rfl
  have e5:(decide (x<=0) || (#[v]:Array Value).isEmpty)=false:=by rw[e3];rfl
  have e6:¬ ((#[v]:Array Value).size:Int)*x > (2 ^ 63-1) / 8:=by
   show ¬ ((1:Nat):Int)*x > (2 ^ 63-1) / 8;omega
  have e7:Builtin.Tuple.tupleTooMany (((#[v]:Array Value).size:Int)*x)=false:=by
   unfold Builtin.Tuple.tupleTooMany;show decide _=false;exact decide_eq_false (by show ¬ ((1:Nat):Int)*x > _;have:=sizeLine_eq;omega)
  wp_walk
  simp only[e1,Wa7,if_false]
  wp_walk
  rw[if_neg e6,e7,if_neg Wal,Zkt,Array.empty_append];have e8:¬ (Wae x.toNat v).toArray.size > sizeLine:=by
   rw[Wan,Waq];have:=sizeLine_eq;omega
  wp_walk
  rw[if_neg e8]
  wp_walk
  exact⟨_,rfl,h⟩
theorem Ze6 (l:Addr) (v:Value) (n:Nat) (d:Option Addr) (sl:Array (Option Value)) (u:Tok) :
  Meets (Builtin.«tuple.__mul__» ⟨[.ref l,.int 1 u],[]⟩) (λ_ R s=>s.heap.get? l=some { cls:=.type "tuple",dict:=d,data:=.seq #[v] n,slots:=sl } /\ R (.ok (.ret<|Value.ref l)) s):=
 .of_wp λprog w A R s h=>by
  obtain⟨hp,g,d,tk,os⟩:=s;obtain⟨hl,h⟩:=h
  wp_walk
  exact⟨_,rfl,h⟩
theorem Ze4 (l:Addr) (v:Value) (n:Nat) (d:Option Addr) (sl:Array (Option Value)) (u:Tok) :
  Meets (Builtin.«tuple.__mul__» ⟨[.ref l,.int 0 u],[]⟩) (λ_ R s=>s.heap.get? l=some { cls:=.type "tuple",dict:=d,data:=.seq #[v] n,slots:=sl } /\ R (.ok (.ret<|Value.ref s.heap.objs.size)) { s with heap:=s.heap.push { cls:=Value.type "tuple",data:=Data.seq #[] } }):=
 .of_wp λprog w A R s h=>by
  obtain⟨hp,g,d,tk,os⟩:=s;obtain⟨hl,h⟩:=h
  wp_walk
  exact⟨_,rfl,h⟩
section
variable {X:Cx}
def rMulT (K:W.Frag):R2:=λx y H Q=>∃(a:Addr) (u:V) (n:Int),x=.ref a/\y=.int n/\0<=n/\n<=1000/\SqT K H a [u]/\(n=1->Q (.ref a) H)/\(n≠1->∀l,H l=none->Q (.ref l) (upd H l (.tup<|Wae n.toNat u)))
theorem Zo1 (K:W.Frag) (hK:X.K=K:=by rfl):OpR X (binaryOp .Mult) (rMulT K):=by
 subst hK;intro pins s σ H x y v u Q I rx ry h;obtain⟨a,z,m,rfl,rfl,h2,h3,ha,q1,q⟩:=h;cases rx;obtain⟨t,rfl⟩:=ry;obtain⟨its,r1,p1,_⟩:=I.tuple ha;obtain⟨⟨cls,dd,data,sl⟩,ho,hc,n,hd⟩:=id p1;simp only at hc hd;subst hc hd;obtain⟨v,rfl,rv⟩:=r1.one;refine wpAny_binaryOp_repeat_ref (T:="tuple") (U:="int") (by decide) ⟨_,ho,rfl⟩ (λs'=>typeIs_int s' m t) Ze5 F.fills_int_mul F.slot_int_rmul Zi0 F.slot_int_index.lookup
  (call_meets F.slot_int_rmul (typeIs_int s m t) F.entry_int_rmul (F.args_int_rmul_2 _ _) (Zeu m t a [v].toArray n dd sl)
   ⟨ho,rfl,⟨_,ho,rfl⟩,?_⟩)
 by_cases e1:m=1
 ·subst e1
  exact call_meets F.slot_tuple_mul ⟨_,ho,rfl⟩ F.entry_tuple_mul (F.args_tuple_mul_2 _ _) (Ze6 a v n dd sl t) ⟨ho,⟨.ref a,H,I,rfl,q1 rfl⟩⟩
 have q:=q e1;have fin:EP X pins σ Q (.ref s.heap.objs.size) { s with heap:=s.heap.push { cls:=Value.type "tuple",data:=Data.seq (Wae m.toNat v).toArray } }:=by
  refine⟨.ref s.heap.objs.size,_,I.laid (t':=s.toks) (o:=.tup<|Wae m.toNat z) (λb ob q=>Wab _ q) (Waf _) ?_,rfl,q _<|I.hok.fresh<|Waf _⟩;exact⟨by rw[Waq];have:=sizeLine_eq;omega,Wae m.toNat v,Zj3 rv _,IsTupN.new _ _⟩
 by_cases e0:m=0
 ·subst e0
  exact call_meets F.slot_tuple_mul ⟨_,ho,rfl⟩ F.entry_tuple_mul (F.args_tuple_mul_2 _ _) (Ze4 a v n dd sl t) ⟨ho,fin⟩
 ·exact call_meets F.slot_tuple_mul ⟨_,ho,rfl⟩ F.entry_tuple_mul (F.args_tuple_mul_2 _ _) (Zhv a v n dd sl m t (by omega) h3) ⟨ho,fin⟩
end
section
variable {K:W.Frag}{Δ:Evt}{P:D->Evt->Prop}
theorem Zm1 {d:D}{n:Int}(h2:0<=n) (h3:n<=1000) (p:P (.tup<|Wae n.toNat d) Δ):JR2 K (rMulT K) (.tup [d]) (.int n) Δ P:=λg G H σ Q x y k rx ry c=>by
 cases ry.inv;obtain⟨a,us,rfl,ha,rs⟩:=rx.inv;obtain⟨u,t,rfl,r,tt⟩:=rs.inv;cases tt.inv;refine⟨a,u,n,rfl,rfl,h2,h3,SqT.of<|k.live _ _ ha,λe=>?_,λe l hl=>?_⟩
 ·subst e;exact c _ _ G H Δ k (Same.refl _) (.tup ha (.cons r .nil)) p
 obtain⟨k2,sg⟩:=k.laid hl (.tup<|Wae n.toNat u);exact c _ _ _ _ Δ k2 sg (.tup Zal<|Zj6 (r.mono sg) _) p
end
section
variable {K:W.Frag}{Δ:Evt}
end
section
variable {X:Cx}
end
section
variable {K:W.Frag}{Δ:Evt}{P:D->Evt->Prop}
end
section
variable {X:Cx}
end
section
variable {K:W.Frag}{Δ:Evt}{P:D->Evt->Prop}
end
open PySem PySem.Spec PyProof.Rows PySem.SeqAt
section
variable {X:Cx}
end
open PySem PySem.Spec PyProof.Rows PySem.SeqAt
section
variable {K:W.Frag}{Δ:Evt}
end
section
variable {X:Cx}
end
open PySem PySem.Spec PyProof.Rows PySem.W
structure LamSc (osc:Scope) (oN:List Str) (scope:Scope) (fvs:List Str) (sel:List Nat):Prop where
 kind:scope.kind=.function
 co:scope.isCoroutine=false
 gen:scope.isGenerator=false
 nocell:∀x∈scope.names,x.2≠.cell
 free:∀x∈scope.names,x.2=.free->osc.names.lookup x.1=some .cell\/osc.names.lookup x.1=some .free
 len:fvs.length=sel.length
 fv:∀p∈fvs.zip sel,oN[p.2]?=some p.1/\scope.names.lookup p.1=some .free
structure LamAt (base:Heap) (l:Addr) (qual:Str) (params:Arguments) (body:Expr) (scope:Scope) (clos:List (Str × Addr)) (pm:Value) (c':Addr) (ctv:Value) (fvs:List Str) (cs:List V):Prop where
 kind:scope.kind=.function
 co:scope.isCoroutine=false
 gen:scope.isGenerator=false
 nocell:∀x∈scope.names,x.2≠.cell
 obj:base.get? l=some (kla_obj "<lambda>" qual params body scope clos pm c' ctv)
 code:base.CodeRec (.ref c') qual
 cell:∀x c,clos.lookup x=some c->∃v,base.IsCell c v
 inj:∀x y c,clos.lookup x=some c->clos.lookup y=some c->x=y
 has:∀x,scope.names.lookup x=some .free->∃c,clos.lookup x=some c
 len:fvs.length=cs.length
 val:∀(i:Nat) x v,fvs[i]?=some x->cs[i]?=some v->scope.names.lookup x=some .free/\∃c u,clos.lookup x=some c/\base.IsCell c (some u)/\RelV v u
def lamCx (CX:CXT) (P:Program) (w:World) (K:W.Frag) (mg:Str->Option Value) (base:Heap) (N:List Str) (qual:Str) (scope:Scope) (l:Addr) (cd:Value) (clos:List (Str × Addr)) (A:Around) (outer:List Env) (s:Shared) (H:Hp) (E:XK):Cx where
 prog:=P
 w:=w
 K:=K
 mg:=mg
 base:=base
 A:=A.deeper<|envX qual scope s.heap.objs.size l cd clos
 N:=N
 s₀:=s
 H₀:=H
 env:=envX qual scope s.heap.objs.size l cd clos
 outer:=outer
 stack:=envX qual scope s.heap.objs.size l cd clos::outer
 ex:=[]
 calm:=true
 fn:=λ_=>false
 pn:=[]
 xe:=λe s'=>wpAny (model P w) (A.deeper<|envX qual scope s.heap.objs.size l cd clos) (leaving (envX qual scope s.heap.objs.size l cd clos) e) (λ_ s''=>CX outer H s E e s'') (λe' s''=>CX outer H s E e' s'') s'
section
variable {CX:CXT}{P:Program}{w:World}{K:W.Frag}{mg:Str->Option Value}{base:Heap}{k:Nat}{l c':Addr}{qual:Str}{params:Arguments}{body:Expr}{scope:Scope}{clos:List (Str × Addr)}{pm ctv:Value}{fvs:List Str}{cs:List V}
theorem Zsu (L:LamAt base l qual params body scope clos pm c' ctv fvs cs) {A:Around}{outer:List Env}{s:Shared}{H:Hp}{E:XK}(hd:A.handled=none) (e0:Env0 P w K mg base A outer s H) {h₁:Heap}{tk:Nat}{m:Str->Option Value}
  (hns:h₁.Ns s.heap.objs.size m) (old:∀b o,s.heap.get? b=some o->h₁.get? b=some o) :
  Inv (lamCx CX P w K mg base fvs qual scope l (.ref c') clos A outer s H E) [] (cs.map some) H { s with heap:=h₁,toks:=tk }:=by
 have noA:∀b:Addr,b ∉ (lamCx CX P w K mg base fvs qual scope l (.ref c') clos A outer s H E).ex:=λb z=>absurd (show b∈([]:List Addr) from z) (by simp);have keepB:∀b o,base.get? b=some o->h₁.get? b=some o:=λb o e=>old b o (e0.bs b o e).1;refine⟨⟨e0.mod,L.kind,rfl,rfl,Waf _,L.inj,λx hx=>?_,λx c h _=>(by cases h),λ_=>hd,Around.frames_deeper e0.frames,.inr ⟨rfl,rfl⟩,λb z=>absurd z (noA b),e0.bs,e0.bsz,λb _ _=>noA b,λb z=>absurd z (noA b),e0.funs,e0.frf⟩,
  rfl,e0.bare,Un.kept old,⟨m,hns,λi x v h1 h2 h3=>?_⟩,λx c h=>?_,e0.hok.fresh (Waf _),λx c h=>?_,λp hp=>absurd (show p∈([]:List (Addr × Obj)) from hp) (by simp),e0.hok.kept old,?_⟩
 ·have hx:scope.names.lookup x=some .cell\/scope.names.lookup x=some .free:=hx
  rcases hx with hx|hx
  ·exact absurd rfl<|L.nocell _<|PySem.mem_of_lookup hx
  ·exact L.has x hx
 ·have h1:fvs[i]?=some x:=h1
  rw[Wah]at h2;cases z:cs[i]? with
  |none=>rw[z]at h2;cases h2
  |some v'=>
   rw[z]at h2;have h2:v'=v:=by simpa using h2
   subst h2;obtain⟨hf,c,u,e1,⟨o,ho,hod⟩,r⟩:=L.val i x v' h1 z;exact⟨u,r,.inr ⟨.inr hf,c,e1,o,keepB _ _ ho,hod⟩⟩
 ·obtain⟨v,o,ho,hod⟩:=L.cell x c h
  exact⟨v,o,keepB _ _ ho,hod⟩
 ·obtain⟨v,o,ho,_⟩:=L.cell x c h
  exact(e0.bs c o ho).2
 ·rw[Wac];exact L.len.symm
theorem Zrk {sp:Hp->VK->XK->Prop}(L:LamAt base l qual params body scope clos pm c' ctv fvs cs)
  (hbody:∀(A:Around) (outer:List Env) (s:Shared) (H:Hp) (Q:VK) (E:XK),Room k (A.deeper (envX qual scope s.heap.objs.size l (.ref c') clos))->sp H Q E →
   ∃t,PE (lamCx CX P w K mg base fvs qual scope l (.ref c') clos A outer s H E) body t/\t (cs.map some) H Q) :
  FnOk P w K mg base CX (k+1) l (kla_fn "<lambda>" qual params body scope clos pm (.ref c') ctv) [] (λvs H Q E=>vs=[]/\sp H Q E):=by
 refine⟨λvs H Q E h=>by rw[h.1];rfl,λA outer s H args us vs Q E hr e0 hb r hsp=>?_⟩;have lim:s.heap.NoLimit:=e0.mod.nolimit.keeps λb o e=>(e0.bs b o e).1;obtain⟨c,oc,vsc,tq,hc,hoc,hdc,hq⟩:=L.code;refine kla_callFunE hr.depth (e0.bs _ _ L.obj).1 rfl L.co L.gen rfl ⟨c,oc,vsc,tq,hc,(e0.bs _ _ hoc).1,hdc,hq⟩ (hb _ _ _ _ ?_);refine wpAny_newFunctionEnv L.nocell (λx hx=>absurd (show x∈([]:List (Str × Value)) from hx)<|by simp) (λh₁ hns hsb=>?_) L.kind;have old:∀b o,s.heap.get? b=some o->h₁.get? b=some o:=λb o e=>hsb.extBut b o (Wap<|Wai e)<|Wab _ e;refine⟨lim.keeps old,?_⟩;show codeAny _ _ (.expr body<|envX qual scope s.heap.objs.size l (.ref c') clos) _ _;obtain⟨t,ht,hq⟩:=hbody A outer s H Q E (hr.deeper _) hsp.2;have I:=Zsu (CX:=CX) (E:=E) L hr.hd e0 (tk:=s.toks+0) hns old;refine kla_codeExpr (wpAny_mono (ht [] _ (cs.map some) H Q I hq) (λu s' hs=>?_) λe s' hs=>hs);obtain⟨v,H',J,rv,q⟩:=hs;exact⟨v,H',J.os,J.bare,J.base,J.hok,rv,q⟩
end
open PySem PySem.Spec PyProof.Rows PySem.W
def TabO (T:Addr) (ps:Array Value) (h:Heap):Prop:=h.get? T=some (tabObj ps)
def CodO (c:Addr) (q:Str) (h:Heap):Prop:=h.CodeRec (.ref c) q
theorem Zh8 {c:Addr}{q:Str}{h:Heap}(x:CodO c q h):∃o vs,h.get? c=some o/\o.data=.fields vs:=by
 obtain⟨c2,oc,vs,tq,hc,hoc,hd,_⟩:=x;cases hc;exact⟨oc,vs,hoc,hd⟩
theorem Zdp {c:Addr}{q:Str}{h1 h2:Heap}(x:CodO c q h1) (k:∀o,h1.get? c=some o->h2.get? c=some o):CodO c q h2:=by
 obtain⟨c2,oc,vs,tq,hc,hoc,hd,hq⟩:=x;cases hc;exact⟨c,oc,vs,tq,rfl,k _ hoc,hd,hq⟩
section
variable {P:Program}{w:World}{H:Hp}{h:Heap}{a T c:Addr}{ps:Array Value}{q:Str}
theorem Zm9 (e:h.get? T=some (tabObj ps)):ObjOk P w H h T (.ext<|TabO T ps):=⟨e,⟨_,e⟩,λ_ _ z k=>k _ z⟩
theorem Zvp (x:CodO c q h):ObjOk P w H h c (.ext<|CodO c q):=⟨x,(let ⟨o,_,e,_⟩:=Zh8 x; ⟨o,e⟩),λ_ _ z k=>Zdp z k⟩
theorem Zuj (x:ObjOk P w H h a (.ext<|TabO T ps)):a=T:=by
 obtain⟨p,_,st⟩:=x;by_cases e:a=T
 ·exact e
 ·have:=st h (hideAll h [T]) p λo z=>hideAll_get [T] z (by simp[e])
  have n:=hideAll_none [T] (h:=h) (b:=T) (by simp);rw[show (hideAll h [T]).get? T=some (tabObj ps) from this]at n;cases n
end
def del (H:Hp) (c:Addr):Hp:=λb=>if b=c then none else H b
theorem Zec {H:Hp}{c:Addr}:del H c c=none:=if_pos rfl
theorem Zbl {H:Hp}{b c:Addr}(h:b≠c):del H c b=H b:=if_neg h
theorem Zhs {H:Hp}{b c:Addr}{o:HO}(h:del H c b=some o):b≠c/\H b=some o:=by
 by_cases e:b=c
 ·rw[e,Zec]at h;cases h
 ·rw[Zbl e]at h;exact⟨e,h⟩
theorem Zeg {H:Hp}{b c:Addr}(h:H b=none):del H c b=none:=by
 by_cases e:b=c
 ·rw[e,Zec]
 ·rw[Zbl e];exact h
section
variable {X:Cx}{pins:List (Addr × Obj)}{σ:St}{H H':Hp}{s s':Shared}{c:Addr}{φ:Heap->Prop}
theorem Inv.untrack (I:Inv X pins σ H s) (hc:H c=some (.ext φ)):Inv X pins σ (del H c) s where
 ok:=I.ok
 os:=I.os
 bare:=I.bare
 base:=⟨I.base.keep,I.base.slot,λb o e n hx=>Zeg (I.base.free b o e n hx),I.base.there,
  λb xs e=>by
   have z:=I.base.tups b xs e;rw[Zbl λq=>by rw[q,hc]at z;cases z];exact z,
  λb o u e=>by
   have z:=I.base.frzs b o u e;rw[Zbl λq=>by rw[q,hc]at z;cases z];exact z,
  λb ps e=>by
   obtain⟨more,z⟩:=I.base.tbls b ps e;exact⟨more,by rw[Zbl λq=>by rw[q,hc]at z;cases z];exact z⟩⟩
 loc:=I.loc
 cell:=I.cell
 free:=Zeg I.free
 freeC:=λx c e=>Zeg<|I.freeC x c e
 pin:=λp hp=>let ⟨a,b,r⟩:=I.pin p hp; ⟨a,Zeg b,r⟩
 hok:=λb u e=>by
  obtain⟨ne,e⟩:=Zhs e;refine(I.hok b u e).stay (λ_ _ _ q=>q) (λd q=>?_) λd xs q=>?_
  ·rw[Zbl λz=>by rw[z,hc]at q;cases q];exact q
  ·rw[Zbl λz=>by rw[z,hc]at q;cases q];exact q
 len:=I.len
theorem Inv.track (I:Inv X pins σ H s) {o:Obj}{vs:Array Value}(hc:H c=none) (ho:s.heap.get? c=some o) (hd:o.data=.fields vs) (new:∀H2:Hp,ObjOk X.prog X.w H2 s.heap c (.ext φ))
  (hp:∀p∈X.pn++pins,p.1≠c) (h0:∀o,X.s₀.heap.get? c=some o->X.H₀ c=none->c ∉ X.ex->False):Inv X pins σ (upd H c (.ext φ)) s where
 ok:=I.ok
 os:=I.os
 bare:=I.bare
 base:=⟨I.base.keep,I.base.slot,λb o e n hx=>by
   have ne:b≠c:=λz=>by subst z;exact h0 o e n hx
   rw[Zak ne];exact I.base.free b o e n hx,I.base.there,
  λb xs e=>by
   have z:=I.base.tups b xs e;rw[Zak (Zat z hc)];exact z,
  λb o u e=>by
   have z:=I.base.frzs b o u e;rw[Zak (Zat z hc)];exact z,
  λb ps e=>by
   obtain⟨more,z⟩:=I.base.tbls b ps e;exact⟨more,by rw[Zak (Zat z hc)];exact z⟩⟩
 loc:=I.loc
 cell:=I.cell
 free:=by
  obtain⟨m,⟨o',es,ep,ho',hd',_⟩,_⟩:=I.loc;rw[Zak λz=>by rw[z,ho]at ho';cases ho';rw[hd]at hd';cases hd'];exact I.free
 freeC:=λx d e=>by
  obtain⟨v,o',ho',hd'⟩:=I.cell x d e;rw[Zak λz=>by rw[z,ho]at ho';cases ho';rw[hd]at hd';cases hd'];exact I.freeC x d e
 pin:=λp hq=>let ⟨a,b,r⟩:=I.pin p hq; ⟨a,by rw[Zak (hp p hq)];exact b,r⟩
 hok:=λb u e=>by
  by_cases z:b=c
  ·subst z;rw[Zal]at e;cases e;exact new _
  ·rw[Zak z]at e
   refine(I.hok b u e).stay (λ_ _ _ q=>q) (λd q=>?_) λd xs q=>?_
   ·rw[Zak (Zat q hc)];exact q
   ·rw[Zak (Zat q hc)];exact q
 len:=I.len
theorem Zih {h b1 b2:Heap}:∀{l:List Env},(∀L∈frs l,b2.get? L=none)->h.FunFrames b1 l->h.FunFrames b2 l
 |[],_,_=>trivial
 |env::r,hn,hl=>by
  obtain⟨hk,⟨L,o,hf,_,ho,hd⟩,hr⟩:=hl;have e:frs (env::r)=L::frs r:=by unfold frs;rw[Wc4,hf]
  rw[e]at hn;exact⟨hk,⟨L,o,hf,hn L Wbc,ho,hd⟩,Zih (λb hb=>hn b<|Way _ hb) hr⟩
theorem Inv.envT (I:Inv X pins σ H s):∃base',Env0 X.prog X.w X.K X.mg base' X.A X.stack s H/\∀b o,s.heap.get? b=some o->H b=none->b ∉ frs X.stack->base'.get? b=some o:=by
 refine⟨hideAll s.heap<|trk s.heap H++frs X.stack,?_,?_⟩
 rotate_left
 ·intro b o e n hb
  refine hideAll_get _ e λhm=>?_;rcases Wbn.mp hm with hm|hm
  ·have:=(Wa0.mp hm).2
   rw[n]at this;cases this
  ·exact hb hm
 have keep:∀b o,X.base.get? b=some o->(hideAll s.heap<|trk s.heap H++frs X.stack).get? b=some o:=λb o e=>by
  refine hideAll_get _ (I.bs b o e).1 λhm=>?_;rcases Wbn.mp hm with hm|hm
  ·have:=(Wa0.mp hm).2
   rw[(I.bs b o e).2]at this;cases this
  ·have:=(I.stack.mem hm).1
   rw[e]at this;cases this
 have M:=I.ok.mod;refine⟨I.ok.frames,⟨M.kin.keeps keep,M.glob.keeps keep,(let ⟨mb,h1,h2⟩:=M.blt; ⟨mb,h1.keeps keep,h2⟩),M.nolimit.keeps keep⟩,λb o e=>?_,Wdk<|hideAll_size _ _,Zih (λL hL=>hideAll_none _<|Waw _ hL) I.stack,I.stkFree,I.hok,I.bare⟩;have e2:s.heap.get? b=some o:=of_hideAll _ e;refine⟨e2,?_⟩;cases z:H b with
 |none=>rfl
 |some u=>
  have hm:b∈trk s.heap H++frs X.stack:=Wcm _<|Wa0.mpr ⟨Wa6.mpr<|Wai e2,by rw[z];rfl⟩;have n:=hideAll_none (trk s.heap H++frs X.stack) (h:=s.heap) hm;rw[e]at n;cases n
end
section
variable {X:Cx}{pins:List (Addr × Obj)}{σ:St}{H:Hp}{s:Shared}{k:Nat}{f l c' T c:Addr}{fd:FuncData}{qual:Str}{params:Arguments}{body:Expr}{scope:Scope}{pm ctv:Value}{fvs:List Str}{sel:List Nat}{cs:List V}{E:XK}{Q:VK}{sp:List V->Hp->VK->XK->Prop}
theorem Zvc (S:LamSc X.env.scope X.N scope fvs sel) (hfn:∀x,X.fn x=true) (I:Inv X pins σ H s) (hcs:sel.map (λj=>σ[j]?)=cs.map λv=>some<|some v) {base':Heap}(hb:∀b o,s.heap.get? b=some o->H b=none->b ∉ frs X.stack->base'.get? b=some o)
  (ol:s.heap.get? l=some (kla_obj "<lambda>" qual params body scope (clOf X.env scope.names []) pm c' ctv)) (nl:H l=none) (fl:l ∉ frs X.stack) (oc:CodO c' qual s.heap) (nc:H c'=none):LamAt base' l qual params body scope (clOf X.env scope.names []) pm c' ctv fvs cs:=by
 have cs':∀{x d},(clOf X.env scope.names []).lookup x=some d->X.env.cells.lookup x=some d:=λ{x d} h=>Za5 _ _ (λ_ _ z=>by simp at z) h;have cellb:∀{x d v},X.env.cells.lookup x=some d->s.heap.IsCell d v->base'.IsCell d v:=λ{x d v} e ⟨o,ho,hd⟩=>by
  refine⟨o,hb d o ho (I.freeC x d e) λhm=>?_,hd⟩;rcases War.mp (I.stkSub d hm) with z|z
  ·exact I.cne x d e z
  ·obtain⟨_,o',ho',_⟩:=I.ok.funs.mem z
   exact absurd (Wau (Wai ho')<|I.ok.cab x d (hfn x) e)<|Wb3 _
 have hasc:∀x,(x,NameKind.free)∈scope.names->∃d,X.env.cells.lookup x=some d:=λx hx=>I.ok.has x<|S.free _ hx rfl;refine⟨S.kind,S.co,S.gen,S.nocell,hb l _ ol nl fl,?_,λx d e=>?_,λx y d h1 h2=>I.ok.inj x y d (cs' h1)<|cs' h2,λx hx=>Zcm scope.names [] (PySem.mem_of_lookup hx)<|hasc x<|PySem.mem_of_lookup hx,?_,λi x v h1 h2=>?_⟩
 ·refine Zdp oc λo e=>hb c' o e nc λhm=>?_
  obtain⟨_,o',ho',hd'⟩:=I.stack.mem hm;obtain⟨o2,vs,e2,hd2⟩:=Zh8 oc;rw[e2]at ho';cases ho';exact hd' vs hd2
 ·obtain⟨v,z⟩:=I.cell x d (cs' e)
  exact⟨v,cellb (cs' e) z⟩
 ·have:=congrArg Wa1 hcs
  rw[Wac,Wac]at this;rw[S.len,this]
 ·have hj:∃j,sel[i]?=some j /\ σ[j]?=some (some v):=by
   have:=congrArg (λz=>z[i]?) hcs;simp only[Wah,h2]at this;cases z:sel[i]? with
   |none=>rw[z]at this;cases this
   |some j=>rw[z]at this;exact⟨j,rfl,by simpa using this⟩
  obtain⟨j,e1,e2⟩:=hj;have hz:(x,j)∈fvs.zip sel:=Wax (i:=i) (by rw[Wco];exact⟨h1,e1⟩);obtain⟨hN,hfr⟩:=S.fv _ hz;have hko:=S.free (x,.free) (PySem.mem_of_lookup hfr) rfl;obtain⟨m,hn,hl⟩:=I.loc;obtain⟨u,r,lk⟩:=hl j x v hN e2 (.inr hko);refine⟨hfr,?_⟩;rcases lk with ⟨hk,_⟩|⟨_,d,hd,hcell⟩
  ·have hk:X.env.scope.names.lookup x=some .local:=hk
   rcases hko with z|z <;> (rw[hk]at z;cases z)
  ·obtain⟨d',hd'⟩:=Zcm scope.names [] (PySem.mem_of_lookup hfr) ⟨d,hd⟩
   have e:=cs' hd';rw[hd]at e;cases e;exact⟨d,u,hd',cellb hd hcell,r⟩
theorem Zk3 (S:LamSc X.env.scope X.N scope fvs sel) (hfn:∀x,X.fn x=true) (hr:Room k X.A) (hb:Binds X.K fd ["_law_asked"] [])
  (F:∀base' l clos pm c' ctv cs,LamAt base' l qual params body scope clos pm c' ctv fvs cs->FnOk X.prog X.w X.K X.mg base' CX0 k f fd ["_law_asked"] (λvs H Q E=>vs=[.ref l]/\sp cs H Q E))
  (I:Inv X pins σ H s) (hcs:sel.map (λj=>σ[j]?)=cs.map λv=>some<|some v)
  (ol:s.heap.get? l=some (kla_obj "<lambda>" qual params body scope (clOf X.env scope.names []) pm c' ctv)) (nl:H l=none) (fl:l ∉ frs X.stack) (oc:CodO c' qual s.heap) (nc:H c'=none)
  (hp:∀p∈X.pn++pins,p.1≠c') (h0:∀o,X.s₀.heap.get? c'=some o->X.H₀ c'=none->c' ∉ X.ex->False)
  (h:sp cs H (λv H'=>H' c'=none->Q v (upd H' c' (.ext<|CodO c' qual))) E):wpAny (model X.prog X.w) X.A (call (.ref f) [.ref l]) (EP X pins σ Q) X.xe s:=by
 obtain⟨base',e0,hbase⟩:=I.envT;have L:=Zvc S hfn I hcs hbase ol nl fl oc nc;have FF:=F base' l _ pm c' ctv cs L;have hbd:=hb s [.ref l] I.kIn rfl;refine wpAny_call (codeAny_mono (FF.run X.A X.stack s H ⟨[.ref l],[]⟩ [.ref l] [.ref l] _ E hr e0 hbd (.cons rfl .nil) ⟨rfl,h⟩) λr s' hq=>?_);cases r with
 |error e=>exact hq.elim
 |ok fl'=>
  cases fl' with
  |ret u=>
   obtain⟨v,H',os,bare,un,hok,rv,q⟩:=hq;have I':=I.call' os un hok bare (λb z=>absurd z<|by simp);obtain⟨o,vs,ho,hd⟩:=Zh8 oc;have nfr:c' ∉ frs X.stack:=λhm=>by
    obtain⟨_,o',ho',hd'⟩:=I.stack.mem hm;rw[ho]at ho';cases ho';exact hd' vs hd
   have ho':=un.keep c' o ho nc nfr (by simp);have nc':=un.free c' o ho nc (by simp);have oc':CodO c' qual s'.heap:=Zdp oc λo2 e2=>by rw[ho]at e2;cases e2;exact ho'
   exact⟨v,_,I'.track nc' ho' hd (λH2=>Zvp oc') hp h0,rv,q nc'⟩
  |next=>exact False.elim hq
  |brk=>exact False.elim hq
  |cont=>exact False.elim hq
def tLamC (i:Nat) (pos:Pos) (qual:Str) (T:Addr) (sel:List Nat) (sp:List V->Hp->VK->XK->Prop) (E:XK):TE:=λσ H Q=>
 ∃a ps cs,σ[i]?=some (some (.ref a))/\H a=some (.ext<|TabO T ps)/\TriplesOk ps.toList/\sel.map (λj=>σ[j]?)=cs.map (λv=>some<|some v) ∧
  ((codeAmong pos ps.toList=none/\∀c',H c'=none->c'≠a->sp cs (upd H a (.ext (TabO T (ps ++ #[rawInt pos.line,rawInt pos.col,.ref c'])))) (λv H'=>H' c'=none->Q v (upd H' c' (.ext (CodO c' qual)))) E) ∨
   ∃c',codeAmong pos ps.toList=some (.ref c')/\H c'=some (.ext (CodO c' qual))/\sp cs (del H c') (λv H'=>H' c'=none->Q v (upd H' c' (.ext (CodO c' qual)))) E)
theorem Zu1 {x:Str}{i:Nat}{p pos pos2:Pos}(S:LamSc X.env.scope X.N scope fvs sel) (hfn:∀x,X.fn x=true) (hr:Room k X.A) (hb:Binds X.K fd ["_law_asked"] [])
  (F:∀base' l clos pm c' ctv cs,LamAt base' l qual params body scope clos pm c' ctv fvs cs->FnOk X.prog X.w X.K X.mg base' CX0 k f fd ["_law_asked"] (λvs H Q E=>vs=[.ref l]/\sp cs H Q E))
  (hm:X.mg x=some (.ref f)) (hk:W.keepIn X.K (.ref f)=true) (hcode:X.env.code=.ref c) (C:CodeHd X.base c T) (hB:X.base.BuiltinsAt X.mg T) (hq:X.env.qual ++ "<lambda>" = qual) (hdef:defaultsOf params X.env=([],[]):=by rfl)
  (hg:Gl X x:=by rfl) (hdb:(x == ("__debug__":Str))=false:=by decide)
  (he:starEach [Expr.Lambda params body scope pos] X.env=(false,eval (Expr.Lambda params body scope pos) X.env)::starEach [] X.env:=by rfl) (hpl:(backTo pos2<|starEach [] X.env).any (·.1)=false:=by rfl) :
  PE X (.Call (.Name x p) [.Lambda params body scope pos] [] pos2) (tLamC i pos qual T sel sp E):=by
 intro pins s σ H Q I h;obtain⟨a,ps,cs,h1,h2,ht,hcs,h3⟩:=h;have ea:a=T:=Zuj<|I.hok a _ h2;subst ea;have hP:s.heap.get? a=some (tabObj ps):=(I.hok a _ h2).1;refine wpAny_Call_Name_kw<|Zdz I hg hm ?_ hdb;refine PySem.W.callWith_K (h₀:=X.base) I.ok.mod.kin hk ?_ he hpl;rw[he];show wpAny _ _ (spliced ((false,eval (Expr.Lambda params body scope pos) X.env)::backTo pos2 (starEach [] X.env))) _ _ s;refine Calls.spliced_cons<|kla_eval hdef ?_;have hcl:closureFor scope X.env=pure (clOf X.env scope.names []):=Zbd λn hn=>I.ok.has n<|S.free _ hn rfl;have hgs:=I.mod.glob.keeps I.bk;have hgP:mainGlobals≠a:=λq=>by
  obtain⟨o,es,ep,e,hd,_⟩:=hgs;rw[q,hP]at e;cases e;cases hd
 have hBs:s.heap.BuiltinsAt X.mg a:=let ⟨bm,ob,b1,b2,b3,b4,b5,b6⟩:=hB; ⟨bm,ob,b1,b2,b3,b4,I.bk _ _ b5,b6⟩
 have big:∀{h':Heap},s.heap.objs.size<=h'.objs.size->H h'.objs.size=none/\h'.objs.size ∉ frs X.stack:=λ{h'} hz=>⟨I.hok.fresh hz,λhm=>by
  obtain⟨_,o,ho,_⟩:=I.stack.mem hm;exact absurd (Wau (Wai ho) hz) (Wb3 _)⟩
 rw[hq];rcases h3 with ⟨hnf,h3⟩|⟨c',hf,h4,h3⟩
 ·refine kla_makeFunction (mg:=X.mg) hcl I.ok.glob hgs hcode (C.keeps I.bk) hP ht hnf hgP hBs λc' ctv h' tk hx hge hlt hrec htb=>?_
  have hcz:H c'=none:=I.hok.fresh hge;have hca:c'≠a:=λz=>by rw[z,h2]at hcz;cases hcz
  have hsz:s.heap.objs.size<=h'.objs.size:=Wb8<|Wb2 hge hlt;obtain⟨bg1,bg2⟩:=big hsz;have neA:h'.objs.size≠a:=λz=>by rw[z,h2]at bg1;cases bg1
  have I1:=I.write (x:=a) (e:=a) (o:=.ext<|TabO a<|ps ++ #[rawInt pos.line,rawInt pos.col,.ref c']) (t':=tk) (h':=h'.push<|kla_obj "<lambda>" qual params body scope (clOf X.env scope.names []) ((X.mg "__name__").getD .none) c' ctv) (by rw[h2];trivial) (.inl rfl)
   (λb u hb e=>Wab _<|hx b u hb e) ⟨_,Wab _ htb⟩ (Zm9<|Wab _ htb)
  refine Calls.spliced_nil ⟨I1.kIn,?_⟩;refine Zk3 (c':=c') S hfn hr hb F I1 hcs (Wam _ rfl) (by rw[Zak neA];exact bg1) bg2 (Zdp hrec λo e=>Wab _ e) (by rw[Zak hca];exact hcz) (λq hq'=>?_) (λo e _ _=>?_)<|h3 c' hcz hca
  ·have:=(I.pin q hq').1
   exact Wap<|Wau (Wai this) hge
  ·exact absurd (Wau (Wai e)<|Wa8 I.sz hge)<|Wb3 _
 ·refine kla_makeFunctionHit (mg:=X.mg) hcl I.ok.glob hgs hcode (C.keeps I.bk) hP ht hf hBs λctv h' tk hk' hsz=>?_
  obtain⟨bg1,bg2⟩:=big hsz;have I1:=(I.kept (t':=tk) (h':=h'.push { cls:=.type "function",data:=.func (kla_fn "<lambda>" qual params body scope (clOf X.env scope.names []) ((X.mg "__name__").getD .none) (.ref c') ctv) }) λb u e=>Wab _<|hk' b u e).untrack h4;refine Calls.spliced_nil ⟨I1.kIn,?_⟩;refine Zk3 (c':=c') S hfn hr hb F I1 hcs (Wam _ rfl) (Zeg bg1) bg2 (Zdp (I.hok c' _ h4).1 λo e=>Wab _<|hk' _ _ e) Zec (λq hq' z=>?_) (λo e n hx=>?_) h3
  ·have:=(I.pin q hq').2.1
   rw[z,h4]at this;cases this
  ·have:=I.base.free c' o e n hx
   rw[h4]at this;cases this
end
open PySem PySem.Spec PyProof.Rows PySem.W
theorem Zmb {pos:Pos}{v:Value}{r:List Value}:∀{l:List Value},codeAmong pos l=some v->codeAmong pos (l++r)=some v:=λ{l} h=>by
 fun_induction codeAmong pos l with
 |case1 line t col u c rest hc=>rw[Wby,Wby,Wby];unfold codeAmong;rw[if_pos hc];exact h
 |case2 line t col u c rest hc ih=>rw[Wby,Wby,Wby];unfold codeAmong;rw[if_neg hc];exact ih h
 |case3=>cases h
theorem Zlw {pos:Pos}{r:List Value}:∀{l:List Value},TriplesOk l->codeAmong pos l=none->codeAmong pos (l++r)=codeAmong pos r:=λ{l} ht h=>by
 fun_induction TriplesOk l with
 |case1=>rfl
 |case2 a t b u x rest ih=>
  rw[Wby,Wby,Wby];have e:∀z:List Value,codeAmong pos (.int a t::.int b u::x::z)=if (a == (pos.line:Int) && b == (pos.col:Int))=true then some x else codeAmong pos z:=λz=>rfl
  rw[e]at h ⊢;split at h
  ·cases h
  ·rename_i hc
   rw[if_neg hc];exact ih ht h
 |case3=>exact ht.elim
def TabR (T:Addr) (pl:List (Pos × Str)) (G0:Hp) (φ:Heap->Prop):Prop:=∃ps,φ = TabO T ps/\TriplesOk ps.toList/\∀p∈pl,codeAmong p.1 ps.toList=none\/∃c',codeAmong p.1 ps.toList=some (.ref c')/\G0 c'=some (.ext<|CodO c' p.2)
theorem TabR.start {T:Addr}{pl:List (Pos × Str)}{G0:Hp}:TabR T pl G0 (TabO T #[]):=⟨#[],rfl,trivial,λp _=>.inl rfl⟩
theorem TabR.more {T:Addr}{pl:List (Pos × Str)}{G G2:Hp}{ps:Array Value}{pos:Pos}{q:Str}{c':Addr}(ht:TriplesOk ps.toList) (h:∀p∈pl,codeAmong p.1 ps.toList=none\/∃c',codeAmong p.1 ps.toList=some (.ref c')/\G c'=some (.ext<|CodO c' p.2))
  (hu:∀p∈pl,p.1.line=pos.line->p.1.col=pos.col->p.2=q) (sg:Same G G2) (hc:G2 c'=some (.ext<|CodO c' q)):TabR T pl G2 (TabO T<|ps ++ #[rawInt pos.line,rawInt pos.col,.ref c']):=by
 refine⟨_,rfl,?_,λp hp=>?_⟩
 ·rw[Array.toList_append];exact TriplesOk_snoc _ _ _ _ ht
 ·rw[Array.toList_append]
  rcases h p hp with e|⟨d,e1,e2⟩
  ·rw[Zlw ht e]
   show codeAmong p.1 [rawInt pos.line,rawInt pos.col,.ref c']=none\/_;unfold rawInt codeAmong;by_cases z:((pos.line:Int) == (p.1.line:Int) && (pos.col:Int) == (p.1.col:Int))=true
   ·right
    simp only[Waz,beq_iff_eq]at z;refine⟨c',?_,by rw[hu p hp (by omega) (by omega)];exact hc⟩;show codeAmong p.1 [.int pos.line 0,.int pos.col 0,.ref c']=_;unfold codeAmong;rw[if_pos (by simp only[Waz,beq_iff_eq];exact z)]
   ·left
    rw[if_neg z];rfl
  ·exact .inr ⟨d,Zmb e1,sg _ _ e2⟩
def fill (o:Obj) (h:Heap):Nat->Heap
 |0=>Att.noObjs h
 |n+1=>(fill o h n).push o
theorem Zga (o:Obj) (h:Heap):∀n,(fill o h n).objs.size=n
 |0=>rfl
 |n+1=>by show ((fill o h n).push o).objs.size=_;rw[Wb4,Zga o h n]
theorem Zuw {c C:Addr}{q:Str}{h0:Heap}:CodO c q≠InsC c C:=λe=>by
 have g:((fill { cls:=.none,data:=.fields #[.none,.str q 0] } h0 c).push { cls:=.none,data:=.fields #[.none,.str q 0] }).get? c=some { cls:=.none,data:=.fields #[.none,.str q 0] }:=by
  have z:=Wam (o:={ cls:=.none,data:=.fields #[.none,.str q 0] }) (fill { cls:=.none,data:=.fields #[.none,.str q 0] } h0 c) rfl;rw[Zga]at z;exact z
 have h1:CodO c q ((fill { cls:=.none,data:=.fields #[.none,.str q 0] } h0 c).push { cls:=.none,data:=.fields #[.none,.str q 0] }):=⟨c,_,_,0,rfl,g,rfl,rfl⟩;rw[e]at h1;obtain⟨ox,vs,g1,g2,_⟩:=h1;rw[g]at g1;cases g1;cases g2
theorem Zti {c C dx:Addr}{q:Str}{h0:Heap}:CodO c q≠InsR c C dx:=λe=>by
 have g:((fill { cls:=.none,data:=.fields #[.none,.str q 0] } h0 c).push { cls:=.none,data:=.fields #[.none,.str q 0] }).get? c=some { cls:=.none,data:=.fields #[.none,.str q 0] }:=by
  have z:=Wam (o:={ cls:=.none,data:=.fields #[.none,.str q 0] }) (fill { cls:=.none,data:=.fields #[.none,.str q 0] } h0 c) rfl;rw[Zga]at z;exact z
 have h1:CodO c q ((fill { cls:=.none,data:=.fields #[.none,.str q 0] } h0 c).push { cls:=.none,data:=.fields #[.none,.str q 0] }):=⟨c,_,_,0,rfl,g,rfl,rfl⟩;rw[e]at h1;obtain⟨ox,vs,g1,g2,_⟩:=h1;rw[g]at g1;cases g1;cases g2
section
variable {K:W.Frag}{G H:Hp}{c:Addr}{q:Str}
mutual
theorem Rep.del (hc:G c=some (.ext<|CodO c q)) (h0:Heap):∀{v:V}{d:D},Rep K G v d->Rep K (del G c) v d
 |_,_,.non=>.non
 |_,_,.bl b=>.bl b
 |_,_,.int i=>.int i
 |_,_,.str x=>.str x
 |_,_,.ty n=>.ty n
 |_,_,.adr a=>.adr a
 |_,_,.tup e r=>.tup (by rw[Zbl λz=>by rw[z,hc]at e;cases e];exact e) (Reps.del hc h0 r)
 |_,_,.lst e r=>.lst (by rw[Zbl λz=>by rw[z,hc]at e;cases e];exact e) (Reps.del hc h0 r)
 |_,_,.dct e l r=>.dct (by rw[Zbl λz=>by rw[z,hc]at e;cases e];exact e) l (Reps.del hc h0 r)
 |_,_,.exc (a:=a) (C:=C) e=>.exc (by
   rw[Zbl λz=>by
    rw[z,hc]at e;have e2:CodO c q=InsC c C:=by injection (Wa5.inj e)
    exact Zuw (h0:=h0) e2]
   exact e)
 |_,_,.excR (a:=a) (C:=C) (dx:=dx) e e2=>.excR (dx:=dx) (by
   rw[Zbl λz=>by
    rw[z,hc]at e;have e3:CodO c q=InsR c C dx:=by injection (Wa5.inj e)
    exact Zti (h0:=h0) e3]
   exact e) (by rw[Zbl λz=>by rw[z,hc]at e2;cases e2];exact e2)
 |_,_,.scr e r=>.scr (by
   rcases e with e|e
   ·refine .inl ?_
    rcases e with e|⟨o,e⟩
    ·exact .inl (by rw[Zbl λz=>by rw[z,hc]at e;cases e];exact e)
    ·exact .inr ⟨o,by rw[Zbl λz=>by rw[z,hc]at e;cases e];exact e⟩
   ·exact .inr e) (Reps.del hc h0 r)
theorem Reps.del (hc:G c=some (.ext<|CodO c q)) (h0:Heap):∀{vs:List V}{ds:List D},Reps K G vs ds->Reps K (del G c) vs ds
 |_,_,.nil=>.nil
 |_,_,.cons a b=>.cons (Rep.del hc h0 a) (Reps.del hc h0 b)
end
end
section
variable {K:W.Frag}{g:Gm}{G G2 H H2:Hp}{σ:St}{Δ:Evt}
theorem Ok.swap (k:Ok K g G H σ Δ) {i:Nat}{x:Slot}{R:Hp->(Heap->Prop)->Prop}{a:Addr}{φ2:Heap->Prop}(hx:Δ[i]?=some x) (ho:x.od=some (.ext R)) (ha:σ[i]?=some (some (.ref a))) (sg:Same G G2) (sh:∀b o,b≠a->H b=some o->H2 b=some o)
  (h2:H2 a=some (.ext φ2)) (g2:G2 a=none) (r:OwnRep K G2 (.ext φ2) (.ext R)) (hg:∀b o,G2 b=some o->H2 b=some o/\(G b=some o\/H b=none)):Ok K g G2 H2 σ Δ:=by
 obtain⟨a',o0,q1,q2,q3,q4,q5⟩:=k.own i x _ hx ho;rw[ha]at q1;cases q1;have nos:∀b o,¬ g.B b->g.Hz b=some o->b≠a:=λb o hb e z=>by
  subst z;cases x with
  |own _=>have q5:g.Hz b=none:=q5;rw[q5]at e;cases e
  |bor _=>exact hb q5
  |ownA c _=>have q5:c=b/\g.Hz b=none:=q5;rw[q5.2]at e;cases e
  |_=>cases ho
 have no2:∀b o,H b=some o->G b=none->G2 b=none:=λb o e n=>by
  cases z:G2 b with
  |none=>rfl
  |some u=>
   rcases(hg b u z).2 with y|y
   ·rw[n]at y;cases y
   ·rw[e]at y;cases y
 refine⟨λb o hb e=>sh b o (nos b o hb e)<|k.same b o hb e,λb hb z=>?_,k.sub.trans sg,λb o e=>?_,λb o e=>?_,k.len,λj d e=>?_,λj y od e1 e2=>?_,k.dis⟩
 ·by_cases e:b=a
  ·subst e;rw[h2]at z;cases z
  ·cases y:H b with
   |none=>exact k.lent b hb y
   |some o=>rw[sh b o e y]at z;cases z
 ·obtain⟨h1,h3⟩:=hg b o e
  refine⟨h1,?_⟩;rcases h3 with z|z
  ·exact(k.frz b o z).2
  ·exact .inl<|k.there z
 ·obtain⟨h1,h3,h4⟩:=k.ext b o e
  have ne:b≠a:=λz=>h4 i x _ hx ho (by rw[z];exact ha);exact⟨sh b o ne h1,no2 b o h1 h3,h4⟩
 ·obtain⟨v,e1,e2⟩:=k.val j d e
  exact⟨v,e1,e2.mono sg⟩
 ·obtain⟨b,o,w1,w2,w3,w4,w5⟩:=k.own j y od e1 e2
  by_cases e:b=a
  ·subst e
   have ej:=k.dis j i y x od _ b e1 e2 hx ho w1 ha;subst ej;rw[hx]at e1;cases e1;rw[ho]at e2;cases e2;exact⟨b,_,w1,h2,r,g2,w5⟩
  ·exact⟨b,o,w1,sh b o e w2,w3.mono sg,no2 b o w2 w4,w5⟩
theorem caught (k:Ok K g G H σ Δ):∀{sel:List Nat}{ds:List D},sel.map (λj=>Δ[j]?)=ds.map (λd=>some (.val d))->∃cs,sel.map (λj=>σ[j]?)=cs.map (λv=>some<|some v)/\Reps K G cs ds
 |[],[],_=>⟨[],rfl,.nil⟩
 |[],_::_,h=>by cases h
 |_::_,[],h=>by cases h
 |j::sel,d::ds,h=>by
  have h1:Δ[j]?=some (.val d):=by injection h
  have h2:sel.map (λj=>Δ[j]?)=ds.map (λd=>some (.val d)):=by injection h
  obtain⟨cs,e,r⟩:=caught k h2;obtain⟨v,e1,e2⟩:=k.val j d h1;exact⟨v::cs,by rw[Wbr,Wbr,e1,e],.cons e2 r⟩
theorem Zro {f:DSp}{E:XK}{i:Nat}{T:Addr}{pl:List (Pos × Str)}{pos:Pos}{qual:Str}{sel:List Nat}{ds:List D}{P:D->Evt->Prop}(h0:Heap) (hi:Δ[i]?=some (.bor (.ext<|TabR T pl))) (hp:(pos,qual)∈pl) (hu:∀p∈pl,p.1.line=pos.line->p.1.col=pos.col->p.2=qual)
  (hs:sel.map (λj=>Δ[j]?)=ds.map (λd=>some (.val d))) (h:f ds λd=>P d Δ):JE K (tLamC i pos qual T sel (spD K f) E) Δ P:=λg G H σ Q k c=>by
 obtain⟨a,o,h1,h2,h3,h4,h5⟩:=k.own i _ _ hi rfl;obtain⟨cs,hcs,rcs⟩:=caught k hs;cases o with
 |ext φ=>
  obtain⟨G0,s0,ps,rfl,ht,hpl⟩:=h3;have hpl:∀p∈pl,codeAmong p.1 ps.toList=none\/∃c',codeAmong p.1 ps.toList=some (.ref c')/\G c'=some (.ext<|CodO c' p.2):=λp hp=>(hpl p hp).imp_right λ⟨c',e1,e2⟩=>⟨c',e1,s0 _ _ e2⟩;refine⟨a,ps,cs,h1,h2,ht,hcs,?_⟩;rcases hpl _ hp with hn|⟨c',hf,hc'⟩
  ·refine .inl ⟨hn,λc' nc ne=>?_⟩
   have Gc:G c'=none:=by
    cases z:G c' with
    |none=>rfl
    |some u=>rw[k.live _ _ z]at nc;cases nc
   generalize hφ:TabO T (ps ++ #[rawInt pos.line,rawInt pos.col,.ref c']) = φ2;have lv:Same G (upd H a (.ext φ2)):=λb o e=>by
    rw[Zak λz=>by rw[z,h4]at e;cases e];exact k.live b o e
   refine⟨G,ds,_,lv,rcs,h,λr H' d sh rr pd nc'=>?_⟩;have Hc1:upd H a (.ext φ2) c'=none:=by rw[Zak ne];exact nc
   have Gg:glue G (upd H a (.ext φ2)) H' c'=none:=by rw[Zcl Hc1];exact nc'
   have sg1:Same (glue G (upd H a (.ext φ2)) H') (upd (glue G (upd H a (.ext φ2)) H') c' (.ext<|CodO c' qual)):=λb o e=>by rw[Zak λz=>by rw[z,Gg]at e;cases e];exact e
   have sg:Same G (upd (glue G (upd H a (.ext φ2)) H') c' (.ext<|CodO c' qual)):=(Zds lv).trans sg1;refine c r d (upd (glue G (upd H a (.ext φ2)) H') c' (.ext<|CodO c' qual)) _ Δ (k.swap hi rfl h1 sg (λb o hb e=>?_) (φ2:=φ2) ?_ ?_ ⟨_,Same.refl _,?_⟩ λb o e=>?_) sg (rr.mono sg1) pd
   ·rw[Zak (Zat e nc)]
    exact sh b o (by rw[Zak hb];exact e)
   ·rw[Zak (Ne.symm ne)]
    exact sh a _ Zal
   ·rw[Zak (Ne.symm ne),Zb5 Zal];exact h4
   ·have:=TabR.more (T:=T) ht hpl hu sg Zal
    rw[hφ]at this;exact this
   ·by_cases z:b=c'
    ·subst z
     rw[Zal]at e ⊢;exact⟨e,.inr nc⟩
    ·rw[Zak z]at e ⊢
     obtain⟨e1,e2⟩:=Zd1 lv (λb o _ e=>sh b o e) b o e;refine⟨e1,e2.imp_right λy=>?_⟩;by_cases z2:b=a
     ·subst z2;rw[Zal]at y;cases y
     ·rw[Zak z2]at y;exact y
  ·have Hc:H c'=some (.ext<|CodO c' qual):=k.live _ _ hc'
   refine .inr ⟨c',hf,Hc,?_⟩;have lv:Same (del G c') (del H c'):=λb o e=>by
    obtain⟨ne,e⟩:=Zhs e;rw[Zbl ne];exact k.live b o e
   refine⟨del G c',ds,_,lv,Reps.del hc' h0 rcs,h,λr H' d sh rr pd nc'=>?_⟩;have Gg:glue (del G c') (del H c') H' c'=none:=by rw[Zcl Zec];exact nc'
   have sg1:Same (glue (del G c') (del H c') H') (upd (glue (del G c') (del H c') H') c' (.ext<|CodO c' qual)):=λb o e=>by rw[Zak λz=>by rw[z,Gg]at e;cases e];exact e
   have sg:Same G (upd (glue (del G c') (del H c') H') c' (.ext<|CodO c' qual)):=λb o e=>by
    by_cases z:b=c'
    ·subst z;rw[hc']at e;cases e;exact Zal
    ·rw[Zak z]
     have e2:del G c' b=some o:=by rw[Zbl z];exact e
     rw[Zb5 (lv b o e2)];exact e2
   refine c r d _ _ Δ (k.grow sg (λb o e=>?_) λb o e=>?_) sg (rr.mono sg1) pd
   ·by_cases z:b=c'
    ·subst z;rw[Hc]at e;cases e;exact Zal
    ·rw[Zak z];exact sh b o (by rw[Zbl z];exact e)
   ·by_cases z:b=c'
    ·subst z
     rw[Zal]at e ⊢;cases e;exact⟨rfl,.inl hc'⟩
    ·rw[Zak z]at e ⊢
     obtain⟨e1,e2⟩:=Zd1 lv (λb o _ e=>sh b o e) b o e;refine⟨e1,?_⟩;rcases e2 with y|y
     ·exact .inl (by rw[Zbl z]at y;exact y)
     ·exact .inr (by rw[Zbl z]at y;exact y)
 |_=>exact h3.elim
end
section
variable {prog:Program}{w:World}{A:Around}{E:Value->Shared->Prop}{s:Shared}
theorem Zmw {a it l:Addr}{oa:Obj}{va:Array Value}{i:Nat}{items:Array Value}{Q:Option Value->Shared->Prop}(hh:A.handled=some (.ref a)) (ha:s.heap.get? a=some oa) (hda:oa.data=.fields va) (h2:va[2]?=some .none) (hne:a≠it)
  (hit:s.heap.IsListIter it l i) (hl:s.heap.IsList l items) (hx:items[i]?=none) (hQ:∀h',Heap.ExtBut it s.heap h' -> Q none { s with heap:=h' }):wpAny (model prog w) A (pyNext (.ref it)) Q E s:=by
 obtain⟨o,ho,hc,hd⟩:=id hit;obtain⟨ol,hol,_,nl,hdl⟩:=hl;unfold pyNext;refine wpAny_bind<|wpAny_attempt<|wpAny_callSpecial?_slot (name:=Str.ofString "__next__") hit.typeIs slot_listiter_next<|wpAny_call_entry slot_listiter_next hit.typeIs entry_listiter_next ?_<|args_listiter_next _;show wpAny _ _ (field (.ref it) 0 >>= _) _ _ s;refine wpAny_bind<|wpAny_field ho hd (x:=.ref l) rfl ?_;show wpAny _ _ (if (Value.ref l == Value.none)=true then _ else _) _ _ s;rw[if_neg (show ¬ ((Value.ref l == Value.none)=true) from Wal)];show wpAny _ _ (field (.ref it) 1 >>= _) _ _ s;refine wpAny_bind<|wpAny_field ho hd (x:=.int i 0) rfl ?_;show wpAny _ _ (seqItems? (.ref l) >>= _) _ _ s;refine wpAny_bind<|wpAny_seqItems hol hdl ?_;simp only[Waj,hx];refine wpAny_bind<|wpAny_rule<|wpAny_bind<|wpAny_setField ho hd (by simp) ?_;show wpAny _ _ (newExc (.type "StopIteration") [] >>= _) _ _ _;refine wpAny_bind ?_;simp only[newExc,newTuple];refine wpAny_bind<|wpAny_newObj_type ?_ (by size_fits);refine wpAny_bind (m:=firstArgMember _ _)<|wpAny_of_eq (a:=Value.none) (by first|rfl|(simp only[firstArgMember];rfl))<|wpAny_newObj_type ?_ (by size_fits);have sb:Heap.SameBut it s.heap (s.heap.update it<|Obj.mapFields (·.setIfInBounds 0 Value.none)):=Heap.SameBut.update ..;have sz:=sb.1;have up:∀b o,b≠it->s.heap.get? b=some o->(s.heap.update it<|Obj.mapFields (·.setIfInBounds 0 Value.none)).get? b=some o:=λb o hb e=>(sb.2 b hb).trans e;have nb:∀b o,s.heap.get? b=some o->(s.heap.update it<|Obj.mapFields (·.setIfInBounds 0 Value.none)).objs.size+1≠b:=λb o e=>by
  rw[sz];exact Wci<|Wbe<|Wai e
 refine raiseH (a:=a) (A:=A.in1) hh (Ne.symm ?_) (Wab _<|Wab _<|up a oa hne ha) hda h2 (Wam _ rfl) rfl (by rw[Array.size_append];exact Wau (show 2<6 by decide)<|Nat.le_add_right _ _) ?_
 ·rw[Wb4];exact nb a oa ha
 ·refine wpAny_bind (wpAny_isInstance (T:="StopIteration") (b:=true) ⟨_,Wbl _ (Wam _ rfl) rfl,rfl⟩ isSubtype_stop ?_)
  refine wpAny_pure (hQ _ λb o hb e=>?_);rw[Wa3 _ _ (by rw[Wb4];exact nb b o e)];exact Wab _<|Wab _<|up b o hb e
end
def ItlH (xa:Addr) (K:W.Frag) (a:Addr):It:=
 ⟨λi H=>(∃xs x,SqL K H a xs/\xs[i]?=some x)/\∃C,H xa=some (.ext<|InsC xa C),λi H x H'=>H'=H/\(∀xs,SqL K H a xs->xs[i]?=some x)/\∃C,H xa=some (.ext<|InsC xa C),λi H=>(∃xs,SqL K H a xs/\xs.length<=i)/\∃C,H xa=some (.ext<|InsC xa C)⟩
theorem Zlp {P:Program}{w:World}{K:W.Frag}{tg:Expr}(xa a it:Addr):TurnH xa P w K tg (ItlH xa K a) [it] it (λi h=>h.IsListIter it a i) where
 mem:=(Zeh (P:=P) (w:=w) (K:=K) (tg:=tg) a it).mem
 obj:=(Zeh (P:=P) (w:=w) (K:=K) (tg:=tg) a it).obj
 keep:=(Zeh (P:=P) (w:=w) (K:=K) (tg:=tg) a it).keep
 item:=by
  intro X hP hw hK hc i pins s σ H E I hf st hg;subst hP hw hK;obtain⟨⟨xs,x,hq,hx⟩,hC⟩:=hg;obtain⟨its,rv,p,hz⟩:=I.list hq;obtain⟨u,hu,ru⟩:=rv.get hx;obtain⟨f0,f1,f2,f3,f4,f5⟩:=hf it (by simp);refine wpAny_pyNext_list_item st p.isList (x:=u) (by simpa using hu) λh' st' sb=>?_;have I1:Inv X pins σ H { s with heap:=h' }:=I.turned (t':=s.toks) (λb o hb e=>(sb.2 b hb).trans e) f0 f1 f3 f4 f5;obtain⟨o,e,c,d⟩:=id st';exact⟨u,rfl,Zp0 (s:={ s with heap:=h' }) e c d (by decide) ⟨x,H,I1,ru,⟨rfl,λys hy=>by rw[I.list_inj hy hq];exact hx,hC⟩,st',λb hb=>(hf b hb).1⟩⟩
 done:=by
  intro X hP hw hK hc i pins s σ H E I hf st hg;subst hP hw hK;obtain⟨⟨xs,hq,hx⟩,C,hC⟩:=hg;obtain⟨its,rv,p,hz⟩:=I.list hq;obtain⟨f0,f1,f2,f3,f4,f5⟩:=hf it (by simp);have hl:=rv.length;obtain⟨⟨ox,vs,q1,q2,q3,q4⟩,_⟩:=I.hok xa _ hC;exact Zmw hc q1 q3 q4 (Zat hC f0) st p.isList (by simp;omega) λh' eb=>⟨rfl,I.turned (t':=s.toks) (λb o hb e=>eb b o hb e) f0 f1 f3 f4 f5⟩
 self:=λ_ _ _ _ _ st h=>wpAny_pyIter_listiter st h
def iListH (xa:Addr) (K:W.Frag) (tl:TE):TI:=λσ H R=>tl σ H λx H1=>∃a,x=.ref a/\(∃xs,SqL K H1 a xs)/\R (ItlH xa K a) H1
section
variable {X:Cx}{tg:Expr}{K:W.Frag}
theorem Zpt {xa:Addr}{l:Expr}{tl:TE}(hl:PE X l tl) (hK:X.K=K:=by rfl):PIH xa X tg l (iListH xa K tl):=by
 subst hK;intro pins s σ H R I h;refine thn (hl pins s σ H _ I h) λv s1 ⟨x,H1,I1,r1,q1⟩=>?_;obtain⟨a,e,⟨xs,hq⟩,q⟩:=q1;subst e;cases r1;obtain⟨its,rv,p,hz⟩:=I1.list hq;refine wpAny_pyIter_list p.isList ?_;refine⟨s1.heap.objs.size,[s1.heap.objs.size],_,_,H1,rfl,I1.kept (t':=s1.toks) λb o e=>Wab _ e,Zlp xa a _,⟨_,Wam _ rfl,rfl,rfl⟩,λb hb=>?_,q⟩;have e:b=s1.heap.objs.size:=by simpa using hb
 subst e;exact I1.fpOk (Waf _)<|I1.hok.fresh<|Waf _
end
section
variable {K:W.Frag}{Δ:Evt}
theorem Zpp {xa C:Addr}{n:Nat}{tl:TE}{P:List D->Evt->Prop}(h:JE K tl Δ λd Δ1=>Δ1[n]?=some (.val (.exc xa C))/\∃ds,d=.lst ds/\P ds Δ1):JI K (iListH xa K tl) Δ P:=λg G H σ R k c=>
 h g G H σ _ k λv d G1 H1 Δ1 k1 s1 r1 hq_=>by
  obtain⟨hx,ds,e,p1⟩:=hq_;obtain⟨v2,q1,q2⟩:=k1.val n _ hx;cases q2 with
  |exc hC=>
  subst e;cases r1 with
  |lst ha rs=>
  have hs:=SqL.of (K:=K) ha;refine⟨_,rfl,⟨_,k1.live.seq hs⟩,c _ ds G1 H1 Δ1 k1 s1 (λG2 H2 sg sh=>⟨⟨⟨_,sh.seq<|sg.seq hs,by rw[rs.length];exact Waf _⟩,C,sh _ _<|sg _ _ hC⟩,λi d e=>?_⟩) p1⟩;obtain⟨v,hv,rv⟩:=rs.get e;refine⟨⟨⟨_,v,sh.seq<|sg.seq hs,hv⟩,C,sh _ _<|sg _ _ hC⟩,λx H3 ⟨e3,y3,_⟩=>⟨G2,Same.refl _,by rw[e3];exact Same.refl _,λb o q=>⟨by rw[e3];exact sh b o q,.inl q⟩,?_⟩⟩;have:=y3 _<|sh.seq<|sg.seq hs;rw[hv]at this;cases this;exact rv.mono sg
end
section
variable {prog:Program}{w:World}{A:Around}{E:Value->Shared->Prop}{s:Shared}
theorem Zq2 {a it l:Addr}{oa:Obj}{va:Array Value}{i:Nat}{items:Array Value}{Q:Option Value->Shared->Prop}(hh:A.handled=some (.ref a)) (ha:s.heap.get? a=some oa) (hda:oa.data=.fields va) (h2:va[2]?=some .none) (hne:a≠it)
  (hit:IsTupIter s.heap it l i) (hl:IsTup s.heap l items) (hx:items[i]?=none) (hQ:∀h',Heap.ExtBut it s.heap h' -> Q none { s with heap:=h' }):wpAny (model prog w) A (pyNext (.ref it)) Q E s:=by
 obtain⟨o,ho,hc,hd⟩:=id hit;obtain⟨ol,hol,_,nl,hdl⟩:=hl;unfold pyNext;refine wpAny_bind<|wpAny_attempt<|wpAny_callSpecial?_slot (name:=Str.ofString "__next__") hit.typeIs slot_tupleiter_next<|wpAny_call_entry slot_tupleiter_next hit.typeIs entry_tupleiter_next ?_<|args_tupleiter_next _;show wpAny _ _ (field (.ref it) 0 >>= _) _ _ s;refine wpAny_bind<|wpAny_field ho hd (x:=.ref l) rfl ?_;show wpAny _ _ (if (Value.ref l == Value.none)=true then _ else _) _ _ s;rw[if_neg (show ¬ ((Value.ref l == Value.none)=true) from Wal)];show wpAny _ _ (field (.ref it) 1 >>= _) _ _ s;refine wpAny_bind<|wpAny_field ho hd (x:=.int i 0) rfl ?_;show wpAny _ _ (seqItems? (.ref l) >>= _) _ _ s;refine wpAny_bind<|wpAny_seqItems hol hdl ?_;simp only[Waj,hx];refine wpAny_bind<|wpAny_rule<|wpAny_bind<|wpAny_setField ho hd (by simp) ?_;show wpAny _ _ (newExc (.type "StopIteration") [] >>= _) _ _ _;refine wpAny_bind ?_;simp only[newExc,newTuple];refine wpAny_bind<|wpAny_newObj_type ?_ (by size_fits);refine wpAny_bind (m:=firstArgMember _ _)<|wpAny_of_eq (a:=Value.none) (by first|rfl|(simp only[firstArgMember];rfl))<|wpAny_newObj_type ?_ (by size_fits);have sb:Heap.SameBut it s.heap (s.heap.update it<|Obj.mapFields (·.setIfInBounds 0 Value.none)):=Heap.SameBut.update ..;have sz:=sb.1;have up:∀b o,b≠it->s.heap.get? b=some o->(s.heap.update it<|Obj.mapFields (·.setIfInBounds 0 Value.none)).get? b=some o:=λb o hb e=>(sb.2 b hb).trans e;have nb:∀b o,s.heap.get? b=some o->(s.heap.update it<|Obj.mapFields (·.setIfInBounds 0 Value.none)).objs.size+1≠b:=λb o e=>by
  rw[sz];exact Wci<|Wbe<|Wai e
 refine raiseH (a:=a) (A:=A.in1) hh (Ne.symm ?_) (Wab _<|Wab _<|up a oa hne ha) hda h2 (Wam _ rfl) rfl (by rw[Array.size_append];exact Wau (show 2<6 by decide)<|Nat.le_add_right _ _) ?_
 ·rw[Wb4];exact nb a oa ha
 ·refine wpAny_bind (wpAny_isInstance (T:="StopIteration") (b:=true) ⟨_,Wbl _ (Wam _ rfl) rfl,rfl⟩ isSubtype_stop ?_)
  refine wpAny_pure (hQ _ λb o hb e=>?_);rw[Wa3 _ _ (by rw[Wb4];exact nb b o e)];exact Wab _<|Wab _<|up b o hb e
theorem unpackH {a t:Addr}{oa:Obj}{va:Array Value}{items:Array Value}{Q:List Value->Shared->Prop}(hh:A.handled=some (.ref a)) (ha:s.heap.get? a=some oa) (hda:oa.data=.fields va) (h2:va[2]?=some .none) (ht:IsTup s.heap t items)
  (hQ:∀h',Heap.ExtBut s.heap.objs.size s.heap h' -> Q items.toList { s with heap:=h' }):wpAny (model prog w) A (unpackItems (.ref t) items.size none) Q E s:=by
 have hlt:t≠s.heap.objs.size:=by obtain⟨o,ho,_⟩:=ht;exact Wap<|Wai ho
 unfold unpackItems;refine wpAny_bind ?_;unfold notIterableAtAll;refine wpAny_bind<|wpAny_specialOf ht.typeIs slot_tuple_iter.lookup ?_;refine wpAny_pure ?_;simp only[Wa7,if_false];refine wpAny_bind<|wpAny_holding<|iter_tuple ht ?_;refine wpAny_bind<|wpAny_holding (draw_tuple hlt items.size 0 _ _ ⟨_,Wam _ rfl,rfl,rfl⟩ (ht.push _) (by omega) λh₁ hit₁ hs₁=>?_);have hall:List.take items.size (List.drop 0 items.toList)=items.toList:=by
  rw[List.drop_zero];exact Wcx (by simp)
 rw[hall];rw[if_neg (by simp)];have ht₁:IsTup h₁ t items:=(ht.push _).extBut hs₁.extBut hlt;have na:a≠s.heap.objs.size:=Wap<|Wai ha;have ha₁:h₁.get? a=some oa:=hs₁.extBut a oa na<|Wab _ ha;refine wpAny_bind<|wpAny_holding (Zq2 hh ha₁ hda h2 na hit₁ ht₁ (by simp) λh₂ he₂=>?_);simp only[Option.isSome_none,Wa7,if_false];exact wpAny_pure (hQ h₂ λb o hb e=>he₂ b o hb<|hs₁.extBut b o hb<|Wab _ e)
end
def gTupH (xa:Addr) (K:W.Frag) (n:Nat) (t:TGs):TG:=λv σ H Q=>(∃C,H xa=some (.ext<|InsC xa C))/\gTup K n t v σ H Q
section
variable {X:Cx}
theorem gtupH {xa:Addr}{K:W.Frag}{es:List Expr}{k:Nat}{t:TGs}{n:Nat}{pos:Pos}(hc:X.A.handled=some (.ref xa)) (h:PGs X es t)
  (hn:(assignEach es X.env).length=n:=by rfl) (hst:(assignEach es X.env).findIdx? (·.1)=none:=by rfl) (hK:X.K=K:=by rfl):PG X (.Tuple es k pos) (gTupH xa K n t):=by
 subst hK;intro pins s σ H v u Q I r hw;obtain⟨⟨C,hC⟩,a,xs,e1,hq,hl,hw⟩:=hw;subst e1;cases r;obtain⟨its,rv,ht,hz⟩:=I.tuple hq;obtain⟨⟨ox,vs,q1,q2,q3,q4⟩,_⟩:=I.hok xa _ hC;have hln:(assignEach es X.env).length=its.toArray.size:=by simp[hn,<- hl,rv.length]
 rw[assign_Tuple];refine wpAny_bind<|wpAny_standAt ?_;unfold unpack;rw[hln,hst];refine wpAny_bind<|wpAny_holding (unpackH hc q1 q3 q4 ht λh' hx=>?_);have I1:Inv X pins σ H { s with heap:=h' }:=I.kept (t':=s.toks) λb o e=>hx b o (Wap<|Wai e) e;exact h pins _ σ H xs _ Q I1 (by simpa using rv) hw
end
section
variable {K:W.Frag}{Δ:Evt}
theorem Zqo {xa:Addr}{n m j:Nat}{sel:List Nat}{t:TGs}{tc:TT}{te:TE}{P:D->Evt->Prop}(h:JE K (tComp n sel (iListH xa K<|tVar j) (gTup K m t) tc te) Δ P):JE K (tComp n sel (iListH xa K<|tVar j) (gTupH xa K m t) tc te) Δ P:=λg G H σ Q k c=>by
 obtain⟨v,e,a,ev,hx,r⟩:=h g G H σ Q k c;refine⟨v,e,a,ev,hx,λacc hacc=>?_⟩;obtain⟨W,h0,hs⟩:=r acc hacc;refine⟨W,h0,λi mm σ' H' hw=>?_⟩;rcases hs i mm σ' H' hw with z|⟨hg,N,h1,h2⟩
 ·exact .inl z
 ·exact .inr ⟨hg,N,h1,λx H2 hy=>⟨(by obtain⟨e1,_,C,hC⟩:=hy;exact⟨C,by rw[e1];exact hC⟩),h2 x H2 hy⟩⟩
end
structure RoomH (xa:Addr) (k:Nat) (A:Around):Prop where
 hd:A.handled=some (.ref xa)
 dp:A.depth+3*k+5<recursionLimit
 un:A.units+16*k+200<cLine
 gd:A.guards=some []
theorem RoomH.deeper {xa:Addr}{k:Nat}{A:Around}(r:RoomH xa (k+1) A) (env:Env):RoomH xa k (A.deeper env):=⟨r.hd,by have:=r.dp;show A.depth+1+3*k+5<_;omega,by have:=r.un;show A.units+3+16*k+200<_;omega,r.gd⟩
theorem RoomH.depth {xa:Addr}{k:Nat}{A:Around}(r:RoomH xa k A):A.depth<recursionLimit:=by have:=r.dp;omega
theorem RoomH.units {xa:Addr}{k:Nat}{A:Around}(r:RoomH xa k A):A.units+64<cLine:=by have:=r.un;omega
theorem Room.mark {k:Nat}{A:Around}(r:Room k A) (xa:Addr):RoomH xa k (A.mark<|some (.ref xa)):=⟨rfl,r.dp,r.un,r.gd⟩
structure FnOkH (xa:Addr) (P:Program) (w:World) (K:W.Frag) (mg:Str->Option Value) (base:Heap) (CX:CXT) (k:Nat) (f:Addr) (fd:FuncData) (ps:List Str) (sp:Sp):Prop where
 len:∀vs H Q E,sp vs H Q E->vs.length=ps.length
 run:∀(A:Around) (outer:List Env) (s:Shared) (H:Hp) (args:Args) (us:List Value) (vs:List V) (Q:VK) (E:XK),RoomH xa k A->Env0 P w K mg base A outer s H->BindsTo s fd args (ps.zip us)->Vals vs us->sp vs H Q E →
  codeAny (model P w) A (.call (.ref f) args) (CR CX outer P w H s Q E) s
def cxH (CX:CXT) (P:Program) (w:World) (K:W.Frag) (mg:Str->Option Value) (base:Heap) (N:List Str) (qual:Str) (scope:Scope) (f:Addr) (cd:Value) (A:Around) (outer:List Env) (s:Shared) (H:Hp) (E:XK):Cx where
 prog:=P
 w:=w
 K:=K
 mg:=mg
 base:=base
 A:=A.deeper<|envOfC qual scope s.heap.objs.size f cd
 N:=N
 s₀:=s
 H₀:=H
 env:=envOfC qual scope s.heap.objs.size f cd
 outer:=outer
 stack:=envOfC qual scope s.heap.objs.size f cd::outer
 ex:=[]
 calm:=false
 fn:=λ_=>true
 pn:=[]
 xe:=λe s'=>wpAny (model P w) (A.deeper<|envOfC qual scope s.heap.objs.size f cd) (leaving (envOfC qual scope s.heap.objs.size f cd) e) (λ_ s''=>CX outer H s E e s'') (λe' s''=>CX outer H s E e' s'') s'
theorem Zlt {CX:CXT}{P:Program}{w:World}{K:W.Frag}{mg:Str->Option Value}{base:Heap}{N ps:List Str}{qual:Str}{scope:Scope}{f:Addr}{cd:Value}{A:Around}{outer:List Env}{s s1:Shared}{H:Hp}{E:XK}{us:List Value}{vs:List V}
  (S:FnScope N ps scope) (e0:Env0 P w K mg base A outer s H) (hl:vs.length=ps.length) (r:Vals vs us)
  (x:InCallC s s.heap.objs.size (bindL (envOfC qual scope s.heap.objs.size f cd).kindOf (ps.zip us) λ_=>none) (cellsFrom (s.heap.objs.size+1) scope.names []) (bindC (envOfC qual scope s.heap.objs.size f cd).kindOf (ps.zip us) λ_=>none) s1) :
  Inv (cxH CX P w K mg base N qual scope f cd A outer s H E) [] (start N vs) H s1:=by
 have hpl:ps.length<=N.length:=by have:=congrArg Wa1 S.pre;rw[Wbu]at this;omega
 obtain⟨h1,tk,rfl,hk⟩:=x.done;have noA:∀b:Addr,b ∉ (cxH CX P w K mg base N qual scope f cd A outer s H E).ex:=λb z=>absurd (show b∈([]:List Addr) from z) (by simp);refine⟨⟨e0.mod,S.kind,rfl,rfl,Waf _,λy z c h1 h2=>?_,λy hy=>?_,λy c _ h=>?_,λz=>(by cases z),Around.frames_deeper e0.frames,.inr ⟨rfl,rfl⟩,λb z=>absurd z (noA b),e0.bs,e0.bsz,λb _ _=>noA b,λb z=>absurd z (noA b),e0.funs,e0.frf⟩,
  rfl,e0.bare,Un.kept hk,⟨_,x.toInCall.ns,λi y v h1 h2 h3=>?_⟩,λy c h=>⟨_,x.cell y c h⟩,e0.hok.fresh (Waf _),λy c h=>?_,λp hp=>absurd (show p∈([]:List (Addr × Obj)) from hp) (by simp),e0.hok.kept hk,?_⟩
 ·exact name_of_addr x.apart (PySem.mem_of_lookup h1)<|PySem.mem_of_lookup h2
 ·have hy:scope.names.lookup y=some .cell\/scope.names.lookup y=some .free:=hy
  rcases hy with hy|hy
  ·exact Ze8 hy
  ·exact absurd rfl<|S.nofree _<|PySem.mem_of_lookup hy
 ·exact Wb8<|x.above y c<|PySem.mem_of_lookup h
 ·have hi:i<vs.length:=by
   unfold start at h2;by_cases hi:i<vs.length
   ·exact hi
   ·rw[Wav (by simpa using hi)]at h2
    rw[Wbm]at h2;split at h2 <;> cases h2
  have ha:vs[i]?=some v:=by
   unfold start at h2;rw[Wa9 (by simpa using hi),Wah]at h2;cases e:vs[i]? with
   |none=>rw[e]at h2;cases h2
   |some a=>rw[e]at h2;cases h2;rfl
  obtain⟨u,hu,rv⟩:=r.get ha;have hp:ps[i]?=some y:=by
   rw[<- S.pre,Wc9 (by omega)];exact h1
  have ndP:ps.Nodup:=by rw[<- S.pre];exact S.nd.sublist<|List.take_sublist _ _
  refine⟨u,rv,?_⟩;rcases S.par y (Wax hp) with k|k
  ·exact .inl ⟨k,Zfe ndP hp hu k⟩
  ·obtain⟨c,e⟩:=Ze8 (n:=s.heap.objs.size+1) k
   refine .inr ⟨.inl k,c,e,?_⟩;have q:=x.cell y c e;rw[Zf5 ndP hp hu (by show scope.names.lookup y≠_;rw[k];decide)]at q;exact q
 ·exact e0.hok.fresh<|Wb8<|x.above y c<|PySem.mem_of_lookup h
 ·unfold start
  show _=N.length;rw[Wao,Wac,Waq];omega
theorem Zv3 {xa:Addr}{CX:CXT}{P:Program}{w:World}{K:W.Frag}{mg:Str->Option Value}{base:Heap}{k:Nat}{f:Addr}{name qual:Str}{params:Arguments}{body:List Stmt}{scope:Scope}{dV kV doc pm cdv ct oc:Value}{an od:Option Addr}
  {osl:Array (Option Value)}{N ps:List Str}{sp:Sp}(lk:K.lookup f=some ⟨oc,od,.func<|W.fnOf name qual params body scope dV kV doc pm an cdv ct,osl⟩) (hcd:W.codeIn K cdv qual=true) (S:FnScope N ps scope)
  (len:∀vs H Q E,sp vs H Q E->vs.length=ps.length)
  (hbody:∀(A:Around) (outer:List Env) (s:Shared) (H:Hp) (vs:List V) (Q:VK) (E:XK),RoomH xa k (A.deeper (envOfC qual scope s.heap.objs.size f cdv))->sp vs H Q E →
   ∃t,PSs (cxH CX P w K mg base N qual scope f cdv A outer s H E) body t/\t { nx:=λ_ H'=>Q .non H',rt:=Q } (start N vs) H) :
  FnOkH xa P w K mg base CX (k+1) f (W.fnOf name qual params body scope dV kV doc pm an cdv ct) ps sp:=by
 refine⟨len,λA outer s H args us vs Q E hr e0 hb r hsp=>?_⟩;have hl:=len _ _ _ _ hsp;have KX:K.In s.heap:=e0.mod.kin.keeps λb o e=>(e0.bs b o e).1;have lim:s.heap.NoLimit:=e0.mod.nolimit.keeps λb o e=>(e0.bs b o e).1;have hkind:∀y∈ps.zip us,scope.names.lookup y.1=some .local\/(scope.names.lookup y.1=some .cell/\((cellsFrom (s.heap.objs.size+1) scope.names []).lookup y.1).isSome=true):=λ⟨n,v⟩ hy=>by
  rcases S.par n (Wdf hy).1 with q|q
  ·exact .inl q
  ·exact .inr ⟨q,PySem.W.cellsFrom_some _ _ _ (.inl q)⟩
 refine codeAny_call_function hr.depth (KX _ _ lk) rfl S.co S.gen rfl (PySem.W.codeRec_of KX hcd)<|hb _ _ _ _ ?_;refine wpAny_newFunctionEnv_cells S.kind hkind λenv he s1 x=>?_;subst he;refine⟨lim.keeps x.toInCall.keep,codeAny_func ?_⟩;obtain⟨t,ht,hq⟩:=hbody A outer s H vs Q E (hr.deeper _) hsp;have I:Inv (cxH CX P w K mg base N qual scope f cdv A outer s H E) [] (start N vs) H s1:=Zlt S e0 hl r x;refine wpAny_mono (ht [] s1 (start N vs) H _ I hq) (λfl s' hs=>?_) λe s' hs=>hs;have fin:∀{σ':St}{H':Hp}{v:V}{u:Value},Inv (cxH CX P w K mg base N qual scope f cdv A outer s H E) [] σ' H' s' -> RelV v u->Q v H' -> CE outer P w H s Q u s':=
  λ{σ' H' v u} J rv q=>⟨v,H',J.os,J.bare,J.base,J.hok,rv,q⟩
 cases fl with
 |ret u=>
  obtain⟨v,σ',H',J,rv,q⟩:=hs;exact fin J rv q
 |next=>
  obtain⟨σ',H',J,q⟩:=hs;exact fin (v:=V.non) (u:=Value.none) J rfl q
 |brk=>
  obtain⟨_,_,_,q⟩:=hs;exact False.elim q
 |cont=>
  obtain⟨_,_,_,q⟩:=hs;exact False.elim q
section
variable {X:Cx}{CX:CXT}{xa:Addr}{k:Nat}{f C:Addr}{fd:FuncData}{ps:List Str}{sp:Sp}{dvs:List V}{ds:List Value}{E:XK}{x m:Str}{p pos apos:Pos}{e o:Expr}{es:List Expr}{ta:TE}{t:TA}
theorem Zst {pins:List (Addr × Obj)}{σ:St}{H:Hp}{s:Shared}{Q:VK}{us:List Value}{vs:List V}(F:FnOkH xa X.prog X.w X.K X.mg X.base CX k f fd ps sp) (hr:RoomH xa k X.A) (hb:Binds X.K fd ps ds) (hd:Vals dvs ds) (hx:Passes CX X E)
  (I:Inv X pins σ H s) (r:Vals vs us) (h:sp (vs++dvs) H Q E):wpAny (model X.prog X.w) X.A (call (.ref f) us) (EP X pins σ Q) X.xe s:=by
 have r2:Vals (vs++dvs) (us++ds):=r.append hd;have hl:(us++ds).length=ps.length:=by rw[<- r2.length];exact F.len _ _ _ _ h
 refine wpAny_call (codeAny_mono (F.run X.A X.stack s H ⟨us,[]⟩ (us++ds) (vs++dvs) Q E hr I.env0 (hb s us I.kIn hl) r2 h) λr s' hq=>?_);cases r with
 |error e=>exact hx pins σ H s e s' I hq
 |ok fl=>
  cases fl with
  |ret u=>exact I.after hq
  |next=>exact False.elim hq
  |brk=>exact False.elim hq
  |cont=>exact False.elim hq
theorem Zqv (F:FnOkH xa X.prog X.w X.K X.mg X.base CX k f fd ps sp) (hr:RoomH xa k X.A) (hg:Gl X x) (hm:X.mg x=some (.ref f)) (hk:W.keepIn X.K (.ref f)=true) (hb:Binds X.K fd ps ds) (hd:Vals dvs ds) (hx:Passes CX X E)
  (ha:PA X (e::es) t) (hdb:(x == ("__debug__":Str))=false:=by decide) (he:starEach (e::es) X.env=(false,eval e X.env)::starEach es X.env:=by rfl) (hpl:(backTo pos<|starEach es X.env).any (·.1)=false:=by rfl) :
  PE X (.Call (.Name x p) (e::es) [] pos) (tCall sp dvs E t):=by
 intro pins s σ H Q I h;refine wpAny_Call_Name_kw<|Zdz I hg hm ?_ hdb;refine PySem.W.callWith_K (h₀:=X.base) I.ok.mod.kin hk (thn (ha pos pins s σ H _ I h) λus s1 ⟨vs,H1,I1,r,q⟩=>⟨I1.kIn,?_⟩) he hpl;exact Zst F hr hb hd hx I1 r q
end
theorem Znv {X:Cx}{xa:Addr}{elt tg iter:Expr}{ifs:List Expr}{scope:Scope}{pos spos py:Pos}{fvs:List Str}{sel:List Nat}{wi:TI}{g:TG}{tc:TT}{te:TE}{i:Nat}{y:Str}(tgs:List Str) (S:CompSc X.env.scope X.N scope fvs sel) (hc:X.A.handled=some (.ref xa))
  (hN:X.N.Nodup) (hiy:X.N[i]?=some y) (hx:Loc X.env.scope y)
  (hi:PIH xa X tg iter wi) (hg:∀C s H ex pn,PG (compCx X scope (tgs++fvs) C s H ex pn) tg g) (ht:∀C s H ex pn,PTs (compCx X scope (tgs++fvs) C s H ex pn) ifs tc) (he:∀C s H ex pn,PE (compCx X scope (tgs++fvs) C s H ex pn) elt te)
  (hs:∀x,foldedSetIterable iter X.env x=pure x:=by intro _;rfl) (hsw:swapsWith (.ListComp elt [⟨tg,iter,ifs,0⟩] scope pos) (some (.Name y py)) spos.line X.env=pure true:=by rfl)
  (hf:X.fn y=true\/X.env.scope.names.lookup y=some .local:=by first|exact .inl rfl|exact .inr rfl|assumption) :
  PS X (.Assign [.Name y py] (.ListComp elt [⟨tg,iter,ifs,0⟩] scope pos) spos) (tAsg (tComp tgs.length sel wi g tc te)<|gName i):=by
 intro pins s σ H D I h;rw[exec_Assign_Name_used _ _ _ _ hsw];refine wpAny_bind (wpAny_standAt (wpAny_bind ?_));show wpAny _ X.A (do let _ ← comprehension (.ListComp elt [⟨tg,iter,ifs,0⟩] scope pos) scope X.env _ (newList []) false (eval iter X.env) (some (assign (.Name y py) X.env))) _ _ s;refine wpAny_bind (wpAny_mono (wpAny_comprehension_free (use:=some (assign (.Name y py) X.env)) (Q:=λ_ s'=>SP X pins D .next s') rfl hs (Zbd (Zc6 S I.ok)) S.kind S.names
  (thn (hi pins s σ H _ I h) λv s1 h1=>thn h1 λitv s2 h2=>?_)) (λ_ s' hq=>wpAny_pure (wpAny_pure hq)) λ_ _ e=>e)
 refine Zff (Cm:=λX=>X.A.handled=some (.ref xa)) S (λ_ _ _ _ _=>hc) hg ht he (RR:=λacc C=>compPost (model X.prog X.w) X.A X.xe (some<|assign (.Name y py) X.env) (λ_ s'=>SP X pins D .next s') acc C) (Q:=λv H'=>D.nx (σ.set i<|some v) H') h2 ?_;intro s' C acc H' m hn fp hI q;have I0:Inv X pins σ H' s':=hI s'.heap (.refl ..);show wpAny _ X.A (assign (.Name y py) X.env (.ref acc)) _ _ _;refine wpAny_assign_Name<|Zee (v:=.ref acc) I0 hN hiy hx rfl (λs2 I2 hsb=>?_) hf;obtain⟨a,sb,ha⟩:=hsb;have hCa:C≠a:=by
  rcases ha with z|z
  ·rw[z];exact fp.2.1
  ·exact Ne.symm<|fp.2.2.2.2.1 y a z
 refine⟨m,hn.sameBut sb hCa,λh' sb'=>?_⟩;obtain⟨f0,f1,f2,f3,f4,f5⟩:=fp;exact⟨_,H',I2.turned (t':=s2.toks) (it:=C) (λb o hb e=>(sb'.2 b hb).trans e) f0 f1 f3 f4 f5,q⟩
structure CalleeH (P:Program) (w:World) (K:W.Frag) (mg:Str->Option Value) (base:Heap) (k:Nat) (x:Str) (ps:List Str) (sp:Addr->Sp):Prop where
 ex:∃(f:Addr) (fd:FuncData),(∀xa,FnOkH xa P w K mg base CX0 k f fd ps (sp xa))/\Binds K fd ps []/\W.keepIn K (.ref f)=true/\mg x=some (.ref f)
section
variable {X:Cx}{xa:Addr}{k:Nat}{x:Str}{ps:List Str}{sp:Addr->Sp}{e:Expr}{es:List Expr}{t:TA}{p pos:Pos}
theorem Zv6 (C:CalleeH X.prog X.w X.K X.mg X.base k x ps sp) (hr:RoomH xa k X.A) (ha:PA X (e::es) t) (hg:Gl X x:=by rfl) (hdb:(x == ("__debug__":Str))=false:=by decide)
  (he:starEach (e::es) X.env=(false,eval e X.env)::starEach es X.env:=by rfl) (hpl:(backTo pos<|starEach es X.env).any (·.1)=false:=by rfl):PE X (.Call (.Name x p) (e::es) [] pos) (tCall (sp xa) [] E0 t):=by
 obtain⟨f,fd,F,b,kp,m⟩:=C.ex;exact Zqv (F xa) hr hg m kp b .nil pass0 ha hdb he hpl
end
section
variable {P:Program}{w:World}{K:W.Frag}{mg:Str->Option Value}{base:Heap}
theorem Fun.okH {xa:Addr}{x qual:Str}{st:Stmt}{f:Addr}{fd:FuncData}{N ps:List Str}{k:Nat}{sp:Sp}(F:Fun K x qual st f fd) (S:FnScope N ps (defScope st)) (len:∀vs H Q E,sp vs H Q E->vs.length=ps.length)
  (hbody:∀(cdv:Value) (A:Around) (outer:List Env) (s:Shared) (H:Hp) (vs:List V) (Q:VK) (E:XK),RoomH xa k (A.deeper (envOfC qual (defScope st) s.heap.objs.size f cdv))->sp vs H Q E →
   ∃t,PSs (cxH CX0 P w K mg base N qual (defScope st) f cdv A outer s H E).nox (defBody st) t/\t { nx:=λ_ H'=>Q .non H',rt:=Q } (start N vs) H):FnOkH xa P w K mg base CX0 (k+1) f fd ps sp:=by
 obtain⟨oc,od,kV,doc,pm,an,cdv,ct,osl,rfl,lk,hcd⟩:=F.ex;refine Zv3 lk hcd S len λA outer s H vs Q E hr hsp=>?_;obtain⟨t,h,q⟩:=hbody cdv A outer s H vs Q E hr hsp;exact⟨t,h.nox,q⟩
end
open PySem PySem.Spec PyProof.Rows PySem.W
def tRe (σ0 σ':St) (t:TS):TS:=λD σ H=>σ = σ0/\t D σ' H
section
variable {X:Cx}
theorem Inv.re {pins:List (Addr × Obj)}{σ σ':St}{H:Hp}{s:Shared}(I:Inv X pins σ H s) (hl:σ'.length = σ.length) (w:∀(i:Nat) x v,X.N[i]?=some x->Vis X.env.scope x -> σ'[i]?=some (some v) -> σ[i]?=some (some v)):Inv X pins σ' H s:=
 ⟨I.ok,I.os,I.bare,I.base,let ⟨m,hn,hl'⟩:=I.loc; ⟨m,hn,λi x v e1 e2 e3=>hl' i x v e1 (w i x v e1 e3 e2) e3⟩,I.cell,I.free,I.freeC,I.pin,I.hok,hl.trans I.len⟩
theorem Zug {body:List Stmt}{t:TS}{σ0 σ':St}(h:PSs X body t) (hl:σ'.length = σ0.length) (w:∀(i:Nat) x v,X.N[i]?=some x->Vis X.env.scope x -> σ'[i]?=some (some v) -> σ0[i]?=some (some v)):PSs X body (tRe σ0 σ' t):=by
 intro pins s σ H D I hq;obtain⟨rfl,hq⟩:=hq;exact h pins s σ' H D (I.re hl w) hq
end
theorem Zmt {N:List Str}{vs:List V}(h:vs.length<=N.length):(start N vs).length=N.length:=by
 unfold start;rw[Wao,Wac,Waq];omega
def tAsk (i:Nat) (l:Addr) (sp:Hp->VK->XK->Prop) (E:XK):TE:=λσ H Q=>σ[i]?=some (some (.ref l))/\sp H Q E
section
variable {X:Cx}{k i:Nat}{l:Addr}{fd:FuncData}{x:Str}{sp:Hp->VK->XK->Prop}{p pos:Pos}{E:XK}
theorem Zu9 (F:FnOk X.prog X.w X.K X.mg X.base (CXE X.prog X.w) k l fd [] (λvs H Q E=>vs=[]/\sp H Q E)) (hl:FnAt l X.base) (hb:∀s,BindsTo s fd ⟨[],[]⟩ []) (hr:Room k X.A) (hx:Passes (CXE X.prog X.w) X E) (hN:X.N[i]?=some x) (hv:Vis X.env.scope x)
  (hdb:(x == ("__debug__":Str))=false:=by decide) (hcd:(x == ("__classdict__":Str))=false:=by decide):PE X (.Call (.Name x p) [] [] pos) (tAsk i l sp E):=by
 intro pins s σ H Q I h;obtain⟨h1,h2⟩:=h;refine wpAny_Call_Name_kw (thn (Zoy (i:=i) (pos:=p) hN hv hdb hcd pins s σ H (λv H1=>v=.ref l/\H1=H) I ⟨_,h1,rfl,rfl⟩) λu s1 ⟨v,H1,I1,r1,e1,e2⟩=>?_);subst e1;subst e2;cases (show u=Value.ref l from r1);obtain⟨oc,od,fd',sl,ho⟩:=hl;refine callWith_F0 (first:=[]) ⟨oc,od,fd',sl,I1.bk _ _ ho⟩ ?_;refine wpAny_call (codeAny_mono (F.run X.A X.stack s1 _ ⟨[],[]⟩ [] [] Q E hr I1.env0 (hb s1) .nil ⟨rfl,h2⟩) λr s' hq=>?_);cases r with
 |error e=>exact hx pins σ _ s1 e s' I1 hq
 |ok fl=>
  cases fl with
  |ret u=>exact I1.after hq
  |next=>exact False.elim hq
  |brk=>exact False.elim hq
  |cont=>exact False.elim hq
end
section
variable {P:Program}{w:World}{K:W.Frag}{mg:Str->Option Value}{base:Heap}{N:List Str}{qual:Str}{scope:Scope}{f:Addr}{cd:Value}{clos:List (Str × Addr)}{A:Around}{outer:List Env}{s0:Shared}{H0:Hp}{E:XK}
theorem Zeb:Passes (CXE P w) (lamCx (CXE P w) P w K mg base N qual scope f cd clos A outer s0 H0 E) E:=λpins σ H s e s' I hq=>by
 obtain⟨a,C,T,H',rfl,os,bare,un,hok,ha,hsa,hT,hsT,tr,hE⟩:=hq;have J:=I.call' (ch:=[]) os un hok bare (λb z=>absurd z<|by simp);have na:=(Nw.of I rfl hsa).at ha;have nT:=(Nw.of I rfl hsT).at hT;refine Zj4 J rfl rfl rfl tr na nT λh' T' J2 t1 t2=>?_;exact⟨a,C,T',H',rfl,J2.os,J2.bare,J2.base,J2.hok,ha,na.old,t2.trk,t2.old,t1,hE⟩
end
def fTold (fL:XSp) (Kn:Addr->Prop) (wd:Addr->Str):DSp:=λds Post=>∃Xp,fL ds (λd=>Post (.tup [.str "told",d])) Xp/\∀C,Xp C->Kn C/\Post (.tup [.str "refused",.str (wd C)])
theorem Zqy:2<=sizeLine:=by decide
theorem Zq3 {K:W.Frag}{fL:XSp}{Kn:Addr->Prop}{wd:Addr->Str}{l FE:Addr}{cs:List V}{H:Hp}{Q:VK}{E0:XK}{th:Addr->TS}(h:spD K (fTold fL Kn wd) cs H Q E0)
  (hh:∀C,Kn C->(ExcC K C/\PySem.W.mroIn K C (.ref FE)=some true)/\∀a (Post:D->Prop),Post (.tup [.str "refused",.str (wd C)])->JS K (th a) [.any,.any,.val (.exc a C)] ⟨λΔ1=>∃d y z,Δ1=[y,.val d,z]/\Post d,λ_ _=>False,λ_=>False,λ_=>False,λ_ _=>False⟩) :
  tSeq (tAsg (tC .non)<|gName 1) (tSeq (tTry K FE 2 3 (λE=>tAsg (tTup<|tCons (tC (.str "told"))<|tCons (tAsk 0 l (spX K fL cs) E) tNil)<|gName 1) th)<|tRet<|tVar 1) { nx:=λ_ H'=>Q .non H',rt:=Q } [some (.ref l),none,none] H:=by
 obtain⟨F,ds,Post,l1,rs,⟨Xp,hf,hX⟩,q⟩:=h;have k0:Ok K ⟨λ_=>False,F,H,λ_=>none⟩ F H (start ["_law_asked","_law_found","_law_e"] [.ref l]) (startD ["_law_asked","_law_found","_law_e"] [.adr l]):=Zc9 (.cons (.adr l) .nil) (by simp) (λ_ _ _ e=>e) (λ_ z=>z.elim) (Same.refl _) (λb o e=>⟨l1 b o e,.inr e⟩) λ_=>rfl;have k1:Ok K ⟨λ_=>False,F,H,λ_=>none⟩ F H [some (.ref l),some .non,none] [.val (.adr l),.val .non,.any]:=k0.setVal (i:=1) (by simp[startD]) .non;have fin:∀{v:V}{d:D}{σ:St}{G H':Hp}{Δ:Evt},Ok K ⟨λ_=>False,F,H,λ_=>none⟩ G H' σ Δ -> Rep K G v d->Post d->Q v H':=λ{v d σ G H' Δ} k r p=>by
  refine q v H' d (λb o e=>k.same b o (λz=>z) e) (r.mono λb o e=>?_) p;obtain⟨e1,e2⟩:=k.frz b o e;rcases e2 with z|z
  ·rw[Zcl z];exact e1
  ·rw[Zb5 (l1 b o z)];exact z
 have last:∀σ G H' Δ,Ok K ⟨λ_=>False,F,H,λ_=>none⟩ G H' σ Δ -> (∃d y z,Δ = [y,.val d,z]/\Post d)->tRet (tVar 1) { nx:=λ_ H'=>Q .non H',rt:=Q } σ H':=λσ G H' Δ k hz=>by
  obtain⟨d,y,z,rfl,p⟩:=hz;obtain⟨v,e1,e2⟩:=k.val 1 d rfl;exact⟨v,e1,fin k e2 p⟩
 show tSeq (tTry K FE 2 3 _ th) (tRet<|tVar 1) _ [some (.ref l),some .non,none] H;refine⟨λv _ H'=>∃C,v=.ref C/\Xp C/\Same H H',?_,λC H1 hq=>?_⟩
 ·show tAsk 0 l (spX K fL cs) _ _ H λx H2=>_
  refine⟨rfl,F,ds,_,Xp,l1,rs,hf,λr H' d sh rr pd=>⟨Zqy,λp hp=>?_⟩,λC H' sh x=>⟨C,rfl,x,sh⟩⟩;have sg:=Zds (H':=H') l1;have k2:=k1.grow sg sh (Zd1 l1 λb o _ e=>sh b o e);obtain⟨k3,s3⟩:=k2.laid hp (.tup [.str "told",r]);have k4:=k3.setVal (i:=1) (by simp) (.tup Zal (.cons (.str _) (.cons (rr.mono s3) .nil)));exact last _ _ _ _ k4 ⟨_,_,_,rfl,pd⟩
 ·obtain⟨C',e,x,sh⟩:=hq
  cases e;obtain⟨hk,hp⟩:=hX C x;obtain⟨h1,h2⟩:=hh C hk;refine⟨h1,λa ha=>?_⟩;have k5:Ok K ⟨λ_=>False,F,H,λ_=>none⟩ F H1 (start ["","",""] []) (startD ["","",""] []):=Zc9 .nil (by simp) (λb o _ e=>sh b o e) (λ_ z=>z.elim) (Same.refl _) (λb o e=>⟨sh b o<|l1 b o e,.inr e⟩) λ_=>rfl;obtain⟨k6,_⟩:=k5.laid ha (.ext<|InsC a C);have k7:=k6.setVal (i:=2) (by simp[startD]) (.exc Zal);refine h2 a Post hp ⟨λ_=>False,F,H,λ_=>none⟩ _ _ _ _ k7 ⟨λσ' G' H' Δ' k' hz=>?_,λ_ _ _ _ _ _ _ _ z=>z.elim,λ_ _ _ _ _ z=>z.elim,λ_ _ _ _ _ z=>z.elim,λ_ _ _ _ _ _ _ _ z=>z.elim⟩;obtain⟨d,y,z,rfl,p⟩:=hz;exact last _ _ _ _ (k'.unset 2) ⟨d,y,.any,rfl,p⟩
open PySem PySem.Spec PyProof.Rows PySem.W
def spLT (K:W.Frag) (T:Addr) (f:DSp):Sp:=λvs H Q _=>∃F ds Post,Same F H/\F T=none/\H T=some (.ext<|TabO T #[])/\Reps K F vs ds/\f ds Post ∧
 ∀r H' d ps,(∀b o,b≠T->H b=some o->H' b=some o)->H' T=some (.ext<|TabO T ps)->Rep K (glue F H H') r d->Post d->Q r H'
section
variable {K:W.Frag}{T:Addr}{pl:List (Pos × Str)}
theorem Zp6 {f:DSp}{n:Nat}(h:∀ds Post,f ds Post->ds.length=n):∀vs H Q E,spLT K T f vs H Q E->vs.length=n:=λvs H Q E hq=>by
 obtain⟨F,ds,Post,_,_,_,rs,hf,_⟩:=hq;rw[rs.length];exact h ds Post hf
theorem Zu3 {f:DSp}{t:TS}{N:List Str}{vs:List V}{H:Hp}{Q:VK}{E:XK}{i:Nat}(ht:∀ds Post,f ds Post->ds.length<=i/\i<N.length/\JS K t ((startD N ds).set i (.bor (.ext<|TabR T pl))) ⟨λ_=>False,λd Δ=>Δ[i]?=some (.bor (.ext<|TabR T pl))/\Post d,λ_=>False,λ_=>False,λ_ _=>False⟩)
  (h:spLT K T f vs H Q E):tRe (start N vs) ((start N vs).set i (some (.ref T))) t { nx:=λ_ H'=>Q .non H',rt:=Q } (start N vs) H:=by
 obtain⟨F,ds,Post,l,fT,hT,rs,hf,q⟩:=h;obtain⟨hl,hN,hj⟩:=ht ds Post hf;refine⟨rfl,?_⟩;have fin:∀{v:V}{d:D}{σ:St}{G H':Hp}{Δ:Evt},Ok K ⟨λb=>b=T,F,H,λ_=>none⟩ G H' σ Δ -> Δ[i]?=some (.bor (.ext<|TabR T pl))->Rep K G v d->Post d->Q v H':=λ{v d σ G H' Δ} k e0 r p=>by
  obtain⟨a',o,h1,h2,h3,h4,h5⟩:=k.own i _ _ e0 rfl;have ea:a'=T:=h5;subst ea;cases o with
  |ext φ=>
   obtain⟨G0,s0,ps,rfl,_⟩:=h3;refine q v H' d ps (λb o hb e=>k.same b o hb e) h2 (r.mono λb o e=>?_) p;obtain⟨e1,e2⟩:=k.frz b o e;rcases e2 with z|z
   ·rw[Zcl z];exact e1
   ·rw[Zb5 (l b o z)];exact z
  |_=>exact h3.elim
 have hlen:(start N vs).length=N.length:=Zmt (by rw[rs.length];omega);have k0:=Zc9 (K:=K) (H:=H) (g:=⟨λb=>b=T,F,H,λ_=>none⟩) (N:=N) rs (by omega) (λ_ _ _ e=>e) (λb z=>by subst z;rw[hT];intro w;cases w) (Same.refl _) (λb o e=>⟨l b o e,.inr e⟩) λ_=>rfl;have noOd:∀(j:Nat) x od,(startD N ds)[j]?=some x->x.od=some od->False:=λj x od e1 e2=>by
  have hm:=Wax e1;rcases Wbn.mp hm with z|z
  ·obtain⟨d,_,rfl⟩:=Wbk.mp z;cases e2
  ·rw[Wc5]at z;rw[z.2]at e2;cases e2
 have hD:(startD N ds).length=N.length:=by rw[k0.len,hlen]
 have one:∀(j:Nat) x od,((startD N ds).set i (.bor (.ext<|TabR T pl)))[j]?=some x->x.od=some od->j=i/\x=.bor (.ext<|TabR T pl):=λj x od e1 e2=>by
  by_cases e:j=i
  ·subst e
   rw[Wat (by rw[hD];exact hN)]at e1;exact⟨rfl,(Wa5.inj e1).symm⟩
  ·rw[Was (Ne.symm e)]at e1
   exact(noOd j x od e1 e2).elim
 have k1:Ok K ⟨λb=>b=T,F,H,λ_=>none⟩ F H ((start N vs).set i (some (.ref T))) ((startD N ds).set i (.bor (.ext<|TabR T pl))):=by
  refine⟨k0.same,k0.lent,k0.sub,k0.frz,λb o e=>(by cases e),by rw[Wct,Wct,k0.len],λj d e=>?_,λj x od e1 e2=>?_,λj m x y od od' c e1 e2 e3 e4 _ _=>?_⟩
  ·by_cases z:j=i
   ·subst z
    rw[Wat (by rw[hD];exact hN)]at e;cases e
   ·rw[Was (Ne.symm z)]at e ⊢
    exact k0.val j d e
  ·obtain⟨rfl,rfl⟩:=one j x od e1 e2
   cases e2;exact⟨T,.ext<|TabO T #[],Wat (by rw[hlen];exact hN),hT,⟨F,Same.refl _,TabR.start⟩,fT,rfl⟩
  ·rw[(one j x od e1 e2).1,(one m y od' e3 e4).1]
 exact hj _ F H _ _ k1 ⟨λ_ _ _ _ _ z=>z.elim,λv d σ G H' Δ k r ⟨e,p⟩=>fin k e r p,λ_ _ _ _ _ z=>z.elim,λ_ _ _ _ _ z=>z.elim,λ_ _ _ _ _ _ _ _ z=>z.elim⟩
theorem Zui {X:Cx}{N:List Str}{body:List Stmt}{t:TS}{vs:List V}{i:Nat}{v:V}(hN:X.N=N) (hv:∀x,N[i]?=some x->¬ Vis X.env.scope x) (h:PSs X body t):PSs X body (tRe (start N vs) ((start N vs).set i (some v)) t):=by
 refine Zug h (by rw[Wct]) λj x u e1 e3 e2=>?_;rw[hN]at e1;by_cases z:j=i
 ·subst z;exact absurd e3<|hv x e1
 ·rw[Was (Ne.symm z)]at e2;exact e2
end
def codeOfF (K:W.Frag) (f c T:Addr):Bool:=match K.lookup f with
 |some ⟨_,_,.func fd,_⟩=>(match fd.code with|.ref c'=>c' == c|_=>false) && codeHdIn K c T
 |_=>false
section
variable {P:Program}{w:World}{K:W.Frag}{mg:Str->Option Value}{base:Heap}
theorem Fun.okT {x qual:Str}{st:Stmt}{f c T:Addr}{fd:FuncData}{N ps:List Str}{k:Nat}{sp:Sp}(F:Fun K x qual st f fd) (hC:codeOfF K f c T=true) (S:FnScope N ps (defScope st)) (len:∀vs H Q E,sp vs H Q E->vs.length=ps.length)
  (hbody:∀(A:Around) (outer:List Env) (s:Shared) (H:Hp) (vs:List V) (Q:VK) (E:XK),Room k (A.deeper (envOfC qual (defScope st) s.heap.objs.size f (.ref c)))->codeHdIn K c T=true->sp vs H Q E →
   ∃t,PSs (cxOf CX0 P w K mg base N qual (defScope st) f (.ref c) A outer s H E).nox (defBody st) t/\t { nx:=λ_ H'=>Q .non H',rt:=Q } (start N vs) H):FnOk P w K mg base CX0 (k+1) f fd ps sp:=by
 obtain⟨oc,od,kV,doc,pm,an,cdv,ct,osl,rfl,lk,hcd⟩:=F.ex;unfold codeOfF at hC;rw[lk]at hC;simp only[Waz]at hC;obtain⟨hC1,hC2⟩:=hC;have ec:cdv=.ref c:=by
  clear F lk hcd hC2;cases cdv with
  |ref c'=>exact congrArg Value.ref (eq_of_beq hC1)
  |_=>cases hC1
 subst ec;refine Zr5 lk hcd S len λA outer s H vs Q E hr hsp=>?_;obtain⟨t,h,q⟩:=hbody A outer s H vs Q E hr hC2 hsp;exact⟨t,h.nox,q⟩
end
structure ToldL (P:Program) (w:World) (K:W.Frag) (mg:Str->Option Value) (k:Nat) (x qual:Str) (params:Arguments) (body:Expr) (scope:Scope) (fvs:List Str) (sp:List V->Hp->VK->XK->Prop):Prop where
 ex:∃(f:Addr) (fd:FuncData),Binds K fd ["_law_asked"] []/\W.keepIn K (.ref f)=true/\mg x=some (.ref f) ∧
  ∀base' l clos pm c' ctv cs,LamAt base' l qual params body scope clos pm c' ctv fvs cs->FnOk P w K mg base' CX0 k f fd ["_law_asked"] (λvs H Q E=>vs=[.ref l]/\sp cs H Q E)
theorem Zmv {X:Cx}{k i:Nat}{c T:Addr}{x qual:Str}{params:Arguments}{body:Expr}{scope:Scope}{fvs:List Str}{sel:List Nat}{sp:List V->Hp->VK->XK->Prop}{p pos pos2:Pos}(C:ToldL X.prog X.w X.K X.mg k x qual params body scope fvs sp)
  (S:LamSc X.env.scope X.N scope fvs sel) (hr:Room k X.A) (hcode:X.env.code=.ref c) (CH:CodeHd X.base c T) (hB:X.base.BuiltinsAt X.mg T) (hfn:∀x,X.fn x=true:=by intro _;rfl) (hq:X.env.qual ++ "<lambda>" = qual:=by rfl) (hdef:defaultsOf params X.env=([],[]):=by rfl)
  (hg:Gl X x:=by rfl) (hdb:(x == ("__debug__":Str))=false:=by decide)
  (he:starEach [Expr.Lambda params body scope pos] X.env=(false,eval (Expr.Lambda params body scope pos) X.env)::starEach [] X.env:=by rfl) (hpl:(backTo pos2<|starEach [] X.env).any (·.1)=false:=by rfl) :
  PE X (.Call (.Name x p) [.Lambda params body scope pos] [] pos2) (tLamC i pos qual T sel sp E0):=by
 obtain⟨f,fd,hb,hk,hm,F⟩:=C.ex;exact Zu1 S hfn hr hb F hm hk hcode CH hB hq hdef hg hdb he hpl
def lamOf (e:Expr):Arguments × Expr × Scope × Pos:=match e with
 |.Lambda a b s p=>(a,b,s,p)
 |_=>(defArgs (.Pass ⟨0,0,0,0⟩),.Name "" ⟨0,0,0,0⟩,defScope (.Pass ⟨0,0,0,0⟩),⟨0,0,0,0⟩)
def forBody (s:Stmt):List Stmt:=match s with
 |.For _ _ b _ _=>b
 |_=>[]
def ifTest (s:Stmt):Expr:=match s with
 |.If c _ _ _=>c
 |_=>.Name "" ⟨0,0,0,0⟩
def cmpLeft (e:Expr):Expr:=match e with
 |.Compare l _ _ _=>l
 |e=>e
def boolFst (e:Expr):Expr:=match e with
 |.BoolOp _ (x::_) _=>x
 |e=>e
def callArg (e:Expr):Expr:=match e with
 |.Call _ (x::_) _ _=>x
 |e=>e
open PySem PySem.Spec PyProof.Rows PySem.W
def OnlyB (T:Addr) (H:Hp):Prop:=∀b,H b=none\/(∃o xs,H b=some (.frz o (.lst xs)))\/(b=T/\H b=some (.ext<|TabO T #[]))
theorem Zoz {P:Program}{w:World}{K:W.Frag}{mg mb:Str->Option Value}{CX:CXT}{k:Nat}{fa a c T:Addr}{fd:FuncData}{x:Str}{sp:Sp}{s₁:Shared}{vs:List Value}{ns:List Int}
  (KX:K.In s₁.heap) (hns:s₁.heap.Ns mainGlobals mg) (hb:s₁.heap.Ns builtinsNs mb) (hbb:∀x:Str,x ≠ "__name__" -> mb x=bootBuiltins x) (hlim:s₁.heap.NoLimit) (hg:s₁.gens = #[])
  (ha:s₁.heap.get? a=some { cls:=.type "list",data:=.seq vs.toArray }) (hi:IntsAre vs ns) (hl:ns.length<=sizeLine) (hr:Room k callerA) (hT:s₁.heap.get? T=some (tabObj #[])) (hTK:K.lookup T=none) (hC:codeHdIn K c T=true)
  (hBM:s₁.heap.BuiltinsAt mg T) (F:∀base:Heap,K.In base->base.Ns mainGlobals mg->base.BuiltinsAt mg T->FnOk P w K mg base CX k fa fd [x] sp) (hbind:∀(s:Shared) (u:Value),BindsTo s fd ⟨[u],[]⟩ [(x,u)])
  (hsp:∀H:Hp,OnlyB T H->H T=some (.ext<|TabO T #[])->a≠T->SqL K H a (ns.map V.int)->sp [.ref a] H (λv H'=>v=.bl true/\∃ps,H' T=some (.ext<|TabO T ps)) λ_ _ _=>False)
  (hCX:∀H e s',CX [] H s₁ (λ_ _ _=>False) e s' -> False) :
  codeAny (model P w) callerA (.call (.ref fa) ⟨[.ref a],[]⟩) (λr s'=>r=.ok (.ret (.bool true))/\OldK s₁.heap s'.heap/\s'.os=s₁.os/\AllBare s'.gens) s₁:=by
 have rv:=Zej hi;have lenV:=hi.length;have naT:a≠T:=λz=>by rw[z,hT]at ha;cases ha
 have core:∀H:Hp,OnlyB T H->H T=some (.ext<|TabO T #[])->SqL K H a (ns.map V.int)->HOk P w H s₁.heap->(∀b,H b≠none->b=a\/b=T)->(H a≠none->K.lookup a=none) →
   codeAny (model P w) callerA (.call (.ref fa) ⟨[.ref a],[]⟩) (λr s'=>r=.ok (.ret (.bool true))/\OldK s₁.heap s'.heap/\s'.os=s₁.os/\AllBare s'.gens) s₁:=by
  intro H hO hHT hS hok hA hK;have noA:∀{b:Addr}{o:Obj}{es:Array DictEntry}{ep:Nat},s₁.heap.get? b=some o->o.data=.dict es ep->H b=none:=λ{b o es ep} e d=>by
   cases q:H b with
   |none=>rfl
   |some u=>
    rcases hA b (by rw[q];simp) with e'|e'
    ·subst e'
     rw[ha]at e;cases e;have d':Data.seq vs.toArray _=Data.dict es ep:=d;cases d'
    ·subst e'
     rw[hT]at e;cases e;cases d
  have nsK:∀{b:Addr}{m:Str->Option Value},s₁.heap.Ns b m->(hidT s₁.heap H).Ns b m:=λ{b m} ⟨o,es,ep,e,d,r⟩=>⟨o,es,ep,Zhb e (noA e d),d,r⟩;have hKb:K.In (hidT s₁.heap H):=λb o e=>Zhb (KX b o e) (by
   cases q:H b with
   |none=>rfl
   |some u=>
    rcases hA b (by rw[q];simp) with e'|e'
    ·subst e'
     rw[hK (by rw[q];simp)]at e;cases e
    ·subst e'
     rw[hTK]at e;cases e)
  have hM:Mod K mg (hidT s₁.heap H):=⟨hKb,nsK hns,⟨mb,nsK hb,hbb⟩,let ⟨mc,h1,h2⟩:=hlim; ⟨mc,nsK h1,h2⟩⟩;have e0:Env0 P w K mg (hidT s₁.heap H) callerA [] s₁ H:=⟨rfl,hM,λb o e=>Zty e,Wdk<|Znt _ _,trivial,λb hb=>absurd (show b∈([]:List Addr) from hb) (by simp),hok,.of_eq hg⟩;have hBb:(hidT s₁.heap H).BuiltinsAt mg T:=by
   obtain⟨bm,ob,b1,b2,b3,b4,b5,b6,b7,b8⟩:=hBM;refine⟨bm,ob,b1,b2,b3,b4,Zhb b5 ?_,b6,b7,b8⟩;cases q:H bm with
   |none=>rfl
   |some u=>
    rcases hA bm (by rw[q];simp) with e'|e'
    ·rw[e',ha]at b5;cases b5;exact absurd (show Value.type "list" = Value.type "module" from b6) (by decide)
    ·exact absurd e' b4
  refine codeAny_mono ((F _ hKb (nsK hns) hBb).run callerA [] s₁ H ⟨[.ref a],[]⟩ [.ref a] [.ref a] _ _ hr e0 (hbind s₁ (.ref a)) (.cons rfl .nil) (hsp H hO hHT naT hS)) λr s' h=>?_;cases r with
  |error e=>exact(hCX H e s' h).elim
  |ok fl=>
   cases fl with
   |next=>exact False.elim h
   |brk=>exact False.elim h
   |cont=>exact False.elim h
   |ret u=>
    obtain⟨v,H',os,bare,un,hok',r',q,ps,hps⟩:=h;subst q;obtain rfl:u=Value.bool true:=r';have old:∀b o,b≠T->s₁.heap.get? b=some o->s'.heap.get? b=some o:=λb o nb e=>by
     cases q:H b with
     |none=>exact un.keep b o e q (by intro z;exact absurd (show b∈([]:List Addr) from z) (by simp)) (by simp)
     |some u=>
      rcases hO b with z|⟨ob,xs,z⟩|⟨z,_⟩
      ·rw[q]at z;cases z
      ·have z2:=un.frzs b ob _ z
       obtain⟨e1,_⟩:=hok b _ z;obtain⟨e2,_⟩:=hok' b _ z2;rw[e]at e1;cases e1;exact e2
      ·exact absurd z nb
    have tab':s'.heap.get? T=some (tabObj ps):=(hok' T _ hps).1;have CH:=codeHd_of_K KX hC;have isT:isCodeTable s₁.heap T:=(CH.tab hT).isCodeTable;refine⟨rfl,⟨λb o e=>?_,λb o e=>?_⟩,os,bare⟩
    ·by_cases nb:b=T
     ·subst nb
      rw[hT]at e;cases e;exact .inr (.inl ⟨isT,rfl,#[],ps,rfl,by rw[Array.empty_append];exact tab'⟩)
     ·exact .inl<|old b o nb e
    ·by_cases nb:b=T
     ·subst nb;exact⟨_,tab'⟩
     ·exact⟨o,old b o nb e⟩
 cases hk:K.lookup a with
 |some o=>
  have e:=KX a o hk;rw[ha]at e;cases e;refine core (λb=>if b=T then some (.ext<|TabO T #[]) else none) (λb=>?_) (if_pos rfl) (.inr ⟨_,vs.toArray,_,hk,rfl,rfl,rfl,by rw[Wan,lenV];exact hl,by simpa using rv⟩) (λb u z=>?_) (λb z=>?_) λz=>absurd (if_neg naT) z
  ·by_cases hb:b=T
   ·exact .inr (.inr ⟨hb,if_pos hb⟩)
   ·exact .inl<|if_neg hb
  ·by_cases hb:b=T
   ·have z':=(if_pos hb).symm.trans z
    cases z';subst hb;exact Zm9 hT
   ·have z':=(if_neg hb).symm.trans z
    cases z'
  ·by_cases hb:b=T
   ·exact .inr hb
   ·exact absurd (if_neg hb) z
 |none=>
  refine core (λb=>if b=T then some (.ext<|TabO T #[]) else if b=a then some (.frz { cls:=.type "list",data:=.seq vs.toArray } (.lst<|ns.map V.int)) else none) (λb=>?_) (if_pos rfl) (.inl (.inr ⟨{ cls:=.type "list",data:=.seq vs.toArray },(if_neg naT).trans (if_pos rfl)⟩)) (λb u z=>?_) (λb z=>?_) λ_=>hk
  ·by_cases hb:b=T
   ·exact .inr (.inr ⟨hb,if_pos hb⟩)
   ·by_cases hc:b=a
    ·exact .inr (.inl ⟨_,_,(if_neg hb).trans (if_pos hc)⟩)
    ·exact .inl ((if_neg hb).trans (if_neg hc))
  ·by_cases hb:b=T
   ·have z':=(if_pos hb).symm.trans z
    cases z';subst hb;exact Zm9 hT
   ·have z:=(if_neg hb).symm.trans z
    by_cases hc:b=a
    ·have z':=(if_pos hc).symm.trans z
     cases z';subst hc;exact⟨ha,by rw[Wac];exact hl,vs,_,rv,ha⟩
    ·have z':=(if_neg hc).symm.trans z
     cases z'
  ·by_cases hb:b=T
   ·exact .inr hb
   ·by_cases hc:b=a
    ·exact .inl hc
    ·exact absurd ((if_neg hb).trans (if_neg hc)) z
theorem Zsn {K:W.Frag}{T:Addr}{H:Hp}{a:Addr}{ns:List Int}(hl:ns.length<=63) (hT:H T=some (.ext<|TabO T #[])) (hne:a≠T) (hS:SqL K H a (ns.map V.int)) :
  spLT K T fLaw [.ref a] H (λv H'=>v=.bl true/\∃ps,H' T=some (.ext<|TabO T ps)) λ_ _ _=>False:=by
 refine⟨del H T,[.scr (ns.map .int)],λd=>d=.bl true,λb o e=>(Zhs e).2,Zec,hT,.cons (.scr (vs:=ns.map V.int) ?_<|Reps.ofInts ns) .nil,⟨ns,rfl,hl,rfl⟩,λr H' d ps _ h2 rr pd=>?_⟩
 ·rcases hS with e|e
  ·refine .inl ?_
   rcases e with e|⟨o,e⟩
   ·exact .inl (by rw[Zbl hne];exact e)
   ·exact .inr ⟨o,by rw[Zbl hne];exact e⟩
  ·exact .inr e
 ·subst pd
  cases rr;exact⟨rfl,ps,h2⟩
theorem walk_lawT {l:PySem.W.OpenLaw}{q:Program}{loose:List Str}{XP:(Str->Option Value)->Heap->Prop}{YP:World->Heap->Prop}{d:DefRec}{K:Params->W.Frag}{k:Nat}{x:Str}{T:Addr}(hr:Room k callerA) (hn:l.most=some 63) (hdf:d.params.defaults=[])
  (hY:∀(w:World) (h:Heap),YP w h->(K w.params).In h) (hT:∀(w:World) (h:Heap),YP w h->h.get? T=some (tabObj #[]))
  (F:∀(w:World) (mg:Str->Option Value) (fa:Addr) (h:Heap),(K w.params).In h->h.Ns mainGlobals mg->mg d.name=some (.ref fa) →
   (K w.params).lookup T=none/\(∃c,codeHdIn (K w.params) c T=true)/\∃fd:FuncData,(∀(s:Shared) (u:Value),BindsTo s fd ⟨[u],[]⟩ [(x,u)]) ∧
    ∀base:Heap,(K w.params).In base->base.Ns mainGlobals mg->base.BuiltinsAt mg T->FnOk l.prog w (K w.params) mg base CX0 k fa fd [x] (spLT (K w.params) T fLaw)) :
  PySem.W.WalkO q loose XP YP l.row.toRowW d [] (λf vs=>PySem.call f vs):=by
 refine Att.attach_call hn hdf λw s₀ s₁ mg mb fa o pm cd doc a vs ns G Y ho hd hcd hmg hobj hints hlen hg=>?_;have KX:=hY w _ Y;obtain⟨hTK,⟨c,hC⟩,fd,hb,hF⟩:=F w mg fa _ KX G.T.g hmg;have hTt:=hT w _ Y;have hBM:s₁.heap.BuiltinsAt mg T:=by
  obtain⟨bm,ob,b1,b2,b3,b4,b5,b6⟩:=G.T.bmain;refine⟨bm,ob,b1,b2,λq=>?_,λq=>?_,b3,b4,b5,b6⟩
  ·obtain⟨o,es,ep,e,hd,_⟩:=G.T.g
   rw[q,e]at b3;cases b3;rw[hd]at b6;cases b6
  ·rw[q,hTt]at b3;cases b3;cases b4
 exact Zoz KX G.T.g G.T.b G.T.builtins G.T.nolimit hg hobj hints (Wa8 hlen<|by decide) hr hTt hTK hC hBM hF hb (λH _ h1 h2 hS=>Zsn hlen h1 h2 hS) λH e s'=>λz=>z
open PySem PySem.Spec PyProof.Rows PySem.SeqAt
section
variable {X:Cx}{pins:List (Addr × Obj)}{σ:St}{H H':Hp}{s:Shared}{h':Heap}{a C T:Addr}{v:Value}
variable {M:Model}{E:Value->Shared->Prop}{Q:Unit->Shared->Prop}
end
section
variable {X:Cx}{pins:List (Addr × Obj)}{σ:St}{H:Hp}{s:Shared}{fp:List Addr}{scope:Scope}{N:List Str}{E:XK}
end
section
variable {K:W.Frag}{Δ:Evt}{E:XK}{Xp:Addr->Prop}
def JAX (K:W.Frag) (E:XK) (Xp:Addr->Prop) (t:TA) (Δ:Evt) (P:List D->Evt->Prop):Prop:=
 ∀g G H σ Q,EW E Xp g->Ok K g G H σ Δ -> (∀vs ds G' H' Δ',Ok K g G' H' σ Δ' -> Same G G' -> Reps K G' vs ds->P ds Δ' -> Q vs H')->t σ H Q
theorem Zk4 {ta:TE}{tr:TA}{P:List D->Evt->Prop}(h:JEX K E Xp ta Δ λd Δ1=>JAX K E Xp tr Δ1 λds Δ2=>P (d::ds) Δ2):JAX K E Xp (tCons ta tr) Δ P:=λg G H σ Q w k c=>
 h g G H σ _ w k λx d G1 H1 Δ1 k1 s1 r1 p1=>p1 g G1 H1 σ _ w k1 λvs ds G2 H2 Δ2 k2 s2 r2 p2=>c _ _ G2 H2 Δ2 k2 (s1.trans s2) (.cons (r1.mono s2) r2) p2
end
section
variable {K:W.Frag}{Δ:Evt}
end
section
variable {K:W.Frag}{Δ:Evt}{P:D->Evt->Prop}
end
theorem Zog {x:Str}{p:Pos}{es:List Expr}{env:Env}:starEach (Expr.Name x p::es) env=(false,eval (Expr.Name x p) env)::starEach es env:=rfl
section
variable {K:W.Frag}{Δ:Evt}{P:D->Evt->Prop}
end
open PySem PySem.Spec PyProof.Rows PySem.SeqAt
section
variable {K:W.Frag}{Δ:Evt}
end
open PySem PySem.Spec PyProof.Rows PySem.SeqAt
section
variable {prog:Program}{w:World}{A:Around}{E:Value->Shared->Prop}{h:Heap}{g:Array GenState}{d:Drawn}{t:Nat}{os:OsState}
variable {nm q:Str}{C N:Addr}{bs bm bmB:List Value}{hdct:Bool}{sn:List Str}{sub:List Value}{ab:Bool}{col:Option Bool}{dd:Option Addr}{k0 k1 k2 k3 k5:Option Value}{B newId initId:String}
end
section
variable {X:Cx}{pins:List (Addr × Obj)}{σ:St}{H:Hp}{s:Shared}{a:Addr}{o:HO}
end
section
variable {M:Model}{A:Around}{E:Value->Shared->Prop}{env:Env}
variable {nm q:Str}{C N:Addr}{bs bm:List Value}{hdct:Bool}{sn:List Str}{sub:List Value}{ab:Bool}{col:Option Bool}{dd:Option Addr}{k0 k1 k2 k3 k5:Option Value}{newId:String}
end
section
variable {X:Cx}{pins:List (Addr × Obj)}{σ:St}{H H':Hp}{s:Shared}{h':Heap}{a C T:Addr}
variable {M:Model}{E:Value->Shared->Prop}{Q:Unit->Shared->Prop}
end
section
variable {prog:Program}{w:World}{A:Around}{E:Value->Shared->Prop}{s:Shared}{env:Env}
variable {nm q:Str}{C N:Addr}{bs bm:List Value}{hdct:Bool}{sn:List Str}{sub:List Value}{ab:Bool}{col:Option Bool}{dd:Option Addr}{k0 k1 k2 k3 k5:Option Value}{newId:String}
end
section
variable {prog:Program}{w:World}{A:Around}{E:Value->Shared->Prop}{K:W.Frag}{s:Shared}{a C f:Addr}
end
section
variable {K:W.Frag}{Δ:Evt}
end
section
variable {K:W.Frag}{Δ:Evt}{E:XK}{Xp:Addr->Int->Prop}{nx bk ct:Evt->Prop}{rt:D->Evt->Prop}{ro:OD->Evt->Prop}
end
section
variable {P:Program}{w:World}{K:W.Frag}{mg:Str->Option Value}{base:Heap}
end
section
variable {K:W.Frag}{Δ:Evt}
end
section
variable {K:W.Frag}{Δ:Evt}{P:D->Evt->Prop}
end
section
variable {K:W.Frag}{Δ:Evt}{nx bk ct:Evt->Prop}{rt:D->Evt->Prop}{ro:OD->Evt->Prop}
end
open PySem PySem.Spec PyProof.Rows PySem.SeqAt
section
variable {X:Cx}
end
open PySem PySem.Spec PyProof.Rows PySem.SeqAt
section
variable {K:W.Frag}{Δ:Evt}
end
open PySem PySem.Spec PyProof.Rows PySem.SeqAt
section
variable {K:W.Frag}{Δ:Evt}
end
end L2
set_option Elab.async false
set_option linter.all false
set_option maxRecDepth 100000
set_option maxHeartbeats 4000000
namespace L2
open PySem PySem.Spec PyProof.Rows PySem.SeqAt
section
variable {K:W.Frag}{Δ:Evt}
end
end L2
set_option Elab.async false
set_option linter.all false
set_option maxRecDepth 100000
set_option maxHeartbeats 4000000
namespace Lw
open PySem L2
def top (i:Nat):Stmt:=PySem.Challenge.pw_holefloor_k48_too_many_orders.main.body.getD i (.Pass ⟨0,0,0,0⟩)
abbrev Yaq:Stmt:=top 18
abbrev Ya3:Stmt:=top 19
abbrev Yag:Stmt:=top 20
abbrev Ya4:Stmt:=top 21
abbrev Ya5:Stmt:=top 23
abbrev Ya6:Stmt:=top 24
abbrev Ya7:Stmt:=top 27
abbrev Ya8:Stmt:=top 28
abbrev Yar:Stmt:=top 29
abbrev Ya9:Stmt:=top 31
abbrev Yba:Stmt:=top 32
abbrev Ybb:Stmt:=top 34
abbrev Ybc:Stmt:=top 35
abbrev Ybd:Stmt:=top 36
abbrev Yal:Stmt:=top 37
abbrev Yas:Stmt:=top 40
abbrev Yat:Stmt:=top 41
abbrev Yau:Stmt:=top 42
abbrev Ybe:Stmt:=top 43
abbrev Ybf:Stmt:=top 44
abbrev Ybg:Stmt:=top 45
abbrev Ybh:Stmt:=top 61
abbrev Ybi:Stmt:=top 62
abbrev Yav:Stmt:=top 65
abbrev Ybj:Stmt:=top 66
abbrev Ybk:Stmt:=top 67
abbrev Yaw:Stmt:=top 68
abbrev Ybl:Stmt:=top 69
abbrev Yam:Stmt:=top 70
abbrev Yax:Stmt:=top 71
abbrev Yah:Stmt:=top 72
abbrev Yaa:Stmt:=top 73
theorem Ybt:FnScope ["web","place"] ["web","place"] (defScope Yaq):=⟨rfl,rfl,rfl,by decide +kernel,rfl,by decide +kernel,by decide +kernel⟩
theorem Ybu:FnScope ["web","end"] ["web","end"] (defScope Ya3):=⟨rfl,rfl,rfl,by decide +kernel,rfl,by decide +kernel,by decide +kernel⟩
theorem Yac:FnScope ["web","many","ties","firsts","a","b","low","high"] ["web"] (defScope Yag):=⟨rfl,rfl,rfl,by decide +kernel,rfl,by decide +kernel,by decide +kernel⟩
theorem Ybm:FnScope ["web","many","ties"] ["web"] (defScope Ya4):=⟨rfl,rfl,rfl,by decide +kernel,rfl,by decide +kernel,by decide +kernel⟩
theorem Ybo:FnScope ["ends","at"] ["ends"] (defScope Ya5):=⟨rfl,rfl,rfl,by decide +kernel,rfl,by decide +kernel,by decide +kernel⟩
theorem Ybp:FnScope ["web","order","end","row"] ["web","order","end"] (defScope Ya6):=⟨rfl,rfl,rfl,by decide +kernel,rfl,by decide +kernel,by decide +kernel⟩
theorem Ybv:FnScope ["web","order","end"] ["web","order","end"] (defScope Ya7):=⟨rfl,rfl,rfl,by decide +kernel,rfl,by decide +kernel,by decide +kernel⟩
theorem Yay:FnScope ["web","order","end","face","come"] ["web","order","end"] (defScope Ya8):=⟨rfl,rfl,rfl,by decide +kernel,rfl,by decide +kernel,by decide +kernel⟩
theorem Yai:FnScope ["web","order","told","gone","end","face","come"] ["web","order"] (defScope Yar):=⟨rfl,rfl,rfl,by decide +kernel,rfl,by decide +kernel,by decide +kernel⟩
theorem Ybw:FnScope ["web","order"] ["web","order"] (defScope Ya9):=⟨rfl,rfl,rfl,by decide +kernel,rfl,by decide +kernel,by decide +kernel⟩
theorem Ybn:FnScope ["web","faces_many","many","ties"] ["web","faces_many"] (defScope Yba):=⟨rfl,rfl,rfl,by decide +kernel,rfl,by decide +kernel,by decide +kernel⟩
theorem Yaz:FnScope ["web","product","place"] ["web"] (defScope Ybb):=⟨rfl,rfl,rfl,by decide +kernel,rfl,by decide +kernel,by decide +kernel⟩
theorem Ya0:FnScope ["many","product","factor"] ["many"] (defScope Ybc):=⟨rfl,rfl,rfl,by decide +kernel,rfl,by decide +kernel,by decide +kernel⟩
theorem Yan:FnScope ["ends","number","row","rest","at"] ["ends","number"] (defScope Ybd):=⟨rfl,rfl,rfl,by decide +kernel,rfl,by decide +kernel,by decide +kernel⟩
theorem Yaj:FnScope ["web","told","place","ends","rows"] ["web"] (defScope Yal):=⟨rfl,rfl,rfl,by decide +kernel,rfl,by decide +kernel,by decide +kernel⟩
theorem Yak:FnScope ["web","told","many"] ["web"] (defScope Yas):=⟨rfl,rfl,rfl,by decide +kernel,rfl,by decide +kernel,by decide +kernel⟩
theorem Ybq:FnScope ["web"] ["web"] (defScope Yat):=⟨rfl,rfl,rfl,by decide +kernel,rfl,by decide +kernel,by decide +kernel⟩
theorem Ybx:FnScope ["web","orders"] ["web","orders"] (defScope Yau):=⟨rfl,rfl,rfl,by decide +kernel,rfl,by decide +kernel,by decide +kernel⟩
theorem Yby:FnScope ["told","number"] ["told","number"] (defScope Ybe):=⟨rfl,rfl,rfl,by decide +kernel,rfl,by decide +kernel,by decide +kernel⟩
theorem Ybr:FnScope ["web","orders","many"] ["web"] (defScope Ybf):=⟨rfl,rfl,rfl,by decide +kernel,rfl,by decide +kernel,by decide +kernel⟩
theorem Ybs:FnScope ["web","orders","many"] ["web"] (defScope Ybg):=⟨rfl,rfl,rfl,by decide +kernel,rfl,by decide +kernel,by decide +kernel⟩
theorem Ybz:FnScope ["web","orders","two","one","crossings","word","order","lacks"] ["web"] (defScope Ybh):=⟨rfl,rfl,rfl,by decide +kernel,rfl,by decide +kernel,by decide +kernel⟩
theorem Ya1:FnScope ["web","many","free"] ["web"] (defScope Ybi):=⟨rfl,rfl,rfl,by decide +kernel,rfl,by decide +kernel,by decide +kernel⟩
theorem Yb0:FnScope ["_law_script"] ["_law_script"] (defScope Yav):=⟨rfl,rfl,rfl,by decide +kernel,rfl,by decide +kernel,by decide +kernel⟩
theorem Yaf:FnScope ["_law_pen_here","_law_many","_law_digit","_law_at","_law_cell","_law_number"] ["_law_pen_here","_law_many"] (defScope Ybj):=⟨rfl,rfl,rfl,by decide +kernel,rfl,by decide +kernel,by decide +kernel⟩
theorem Yab:FnScope ["_law_pen_here","_law_places","_law_ties","_law_many","_law_way","_law_count","_law_found","_law_k","_law_a","_law_b"] ["_law_pen_here","_law_places","_law_ties"] (defScope Ybk):=⟨rfl,rfl,rfl,by decide +kernel,rfl,by decide +kernel,by decide +kernel⟩
theorem Yb1:FnScope ["_law_web_here","_law_place"] ["_law_web_here","_law_place"] (defScope Yaw):=⟨rfl,rfl,rfl,by decide +kernel,rfl,by decide +kernel,by decide +kernel⟩
theorem Yao:FnScope ["_law_web_here","_law_ways_here","_law_place","_law_k"] ["_law_web_here"] (defScope Ybl):=⟨rfl,rfl,rfl,by decide +kernel,rfl,by decide +kernel,by decide +kernel⟩
theorem Yad:FnScope ["_law_e","_law_some","_law_found"] ["_law_e"] (defScope Yam):=⟨rfl,rfl,rfl,by decide +kernel,rfl,by decide +kernel,by decide +kernel⟩
theorem Yap:FnScope ["_law_asked","_law_found","_law_e"] ["_law_asked"] (defScope Yax):=⟨rfl,rfl,rfl,by decide +kernel,rfl,by decide +kernel,by decide +kernel⟩
theorem Ya2:FnScope ["_law_pen_here","_law_some","_law_many","_law_web_here"] ["_law_pen_here"] (defScope Yah):=⟨rfl,rfl,rfl,by decide +kernel,rfl,by decide +kernel,by decide +kernel⟩
theorem Yae:FnScope ["_law_script","_law_pen_here","_law_web_here","_law_asked","_law_ring","_law_near","_law_just","_law_first","!0"] ["_law_script"] (defScope Yaa):=⟨rfl,rfl,rfl,by decide +kernel,rfl,by decide +kernel,by decide +kernel⟩
abbrev xlaw (P:Program) (w:World) (K:W.Frag) (mg:Str->Option Value) (base:Heap) (f:Addr) (cdv:Value) (A:Around) (outer:List Env) (s:Shared) (H:Hp) (E:XK):Cx:=(cxOf CX0 P w K mg base ["_law_script","_law_pen_here","_law_web_here","_law_asked","_law_ring","_law_near","_law_just","_law_first","!0"] "law" (defScope Yaa) f cdv A outer s H E).nox
def Mb (mg:Str->Option Value):Prop:=∀x∈["ValueError","abs","divmod","enumerate","isinstance","len","list","max","min","range","set","sorted","sum","tuple"],mg x=none
structure Cl (K:W.Frag) (mg:Str->Option Value) (c_FloorError c_NoWeb c_NoOrder c_NoNumber c_NoEnd c_NoTie c_NoPlace c_NoTable c_NoRing c_NoPaper c_Apart c_TooMany c_TooGreat c_NoText c_NoName c_NoRow:Addr):Prop where
 n_FloorError:mg "FloorError" = some (.ref c_FloorError)
 e_FloorError:ExcC K c_FloorError
 n_NoWeb:mg "NoWeb" = some (.ref c_NoWeb)
 n_NoOrder:mg "NoOrder" = some (.ref c_NoOrder)
 n_NoNumber:mg "NoNumber" = some (.ref c_NoNumber)
 n_NoEnd:mg "NoEnd" = some (.ref c_NoEnd)
 n_NoTie:mg "NoTie" = some (.ref c_NoTie)
 n_NoPlace:mg "NoPlace" = some (.ref c_NoPlace)
 n_NoTable:mg "NoTable" = some (.ref c_NoTable)
 n_NoRing:mg "NoRing" = some (.ref c_NoRing)
 n_NoPaper:mg "NoPaper" = some (.ref c_NoPaper)
 n_Apart:mg "Apart" = some (.ref c_Apart)
 n_TooMany:mg "TooMany" = some (.ref c_TooMany)
 e_TooMany:ExcC K c_TooMany
 n_TooGreat:mg "TooGreat" = some (.ref c_TooGreat)
 n_NoText:mg "NoText" = some (.ref c_NoText)
 n_NoName:mg "NoName" = some (.ref c_NoName)
 n_NoRow:mg "NoRow" = some (.ref c_NoRow)
 i_TooMany:ExcI K c_TooMany
 m_TooMany:PySem.W.mroIn K c_TooMany (.ref c_FloorError)=some true
 t_TooMany:PySem.W.kitOne K (.ref c_TooMany) (.type "ValueError")=some true
 k_TooMany_Apart:PySem.W.kitOne K (.ref c_TooMany) (.ref c_Apart)=some false
 k_TooMany_NoEnd:PySem.W.kitOne K (.ref c_TooMany) (.ref c_NoEnd)=some false
 k_TooMany_NoName:PySem.W.kitOne K (.ref c_TooMany) (.ref c_NoName)=some false
 k_TooMany_NoNumber:PySem.W.kitOne K (.ref c_TooMany) (.ref c_NoNumber)=some false
 k_TooMany_NoOrder:PySem.W.kitOne K (.ref c_TooMany) (.ref c_NoOrder)=some false
 k_TooMany_NoPaper:PySem.W.kitOne K (.ref c_TooMany) (.ref c_NoPaper)=some false
 k_TooMany_NoPlace:PySem.W.kitOne K (.ref c_TooMany) (.ref c_NoPlace)=some false
 k_TooMany_NoRing:PySem.W.kitOne K (.ref c_TooMany) (.ref c_NoRing)=some false
 k_TooMany_NoRow:PySem.W.kitOne K (.ref c_TooMany) (.ref c_NoRow)=some false
 k_TooMany_NoTable:PySem.W.kitOne K (.ref c_TooMany) (.ref c_NoTable)=some false
 k_TooMany_NoText:PySem.W.kitOne K (.ref c_TooMany) (.ref c_NoText)=some false
 k_TooMany_NoTie:PySem.W.kitOne K (.ref c_TooMany) (.ref c_NoTie)=some false
 k_TooMany_NoWeb:PySem.W.kitOne K (.ref c_TooMany) (.ref c_NoWeb)=some false
 k_TooMany_TooGreat:PySem.W.kitOne K (.ref c_TooMany) (.ref c_TooGreat)=some false
 k_TooMany_TooMany:PySem.W.kitOne K (.ref c_TooMany) (.ref c_TooMany)=some true
local macro_rules | `(tactic| walk_at "js")=>`(tactic| first
 |with_reducible refine Zaq (t:=tAsg _ _) ?_
 |with_reducible refine Zaq (t:=tPar _ _ _) ?_
 |with_reducible refine Zaq (t:=tDrop _) ?_
 |with_reducible refine iteF ?_
 |with_reducible refine iteT ?_
 |with_reducible refine Zb9 ?_
 |with_reducible refine Zbp ?_
 |with_reducible refine Zer ?_
 |with_reducible refine Zju ?_
 |with_reducible refine Zax ?_
 |refine Ztj rfl rfl ?_
 |refine Zh9 rfl rfl ?_
 |with_reducible refine Zas ?_
 |with_reducible refine Zws ?_
 |with_reducible refine Zao ?_
 |with_reducible refine Zwt ?_
 |with_reducible refine Zvb ?_
 |with_reducible refine Zv8 ?_
 |with_reducible refine Zb1 ?_
 |with_reducible refine Zaz ?_
 |refine Zgj rfl rfl ?_
 |refine Znn rfl rfl ?_
 |with_reducible refine Zb7 ?_
 |with_reducible refine Zoe ?_
 |with_reducible refine Zuc ?_
 |with_reducible refine Zt7 ?_
 |with_reducible refine Ztn ?_
 |with_reducible refine Zue ?_
 |with_reducible refine Zkr ?_
 |with_reducible refine Zfh ?_
 |with_reducible refine Zf7 ?_
 |with_reducible refine Zag ?_
 |with_reducible refine Zac ?_
 |with_reducible refine Zbg ?_
 |with_reducible refine Zos ?_
 |with_reducible refine Zuv ?_
 |with_reducible refine Zm7 ?_
 |with_reducible refine Zfi ?_
 |with_reducible refine Zdm ?_
 |with_reducible refine Zb6 ?_
 |with_reducible refine Zll ?_
 |with_reducible refine Zlb ?_
 |with_reducible refine Zgn ?_
 |with_reducible refine Zs7 ?_
 |with_reducible refine Zub ?_
 |with_reducible refine Zj7 ?_
 |with_reducible refine Zbh ?_
 |refine Zad rfl ?_
 |refine Zca rfl ?_
 |refine Zci rfl ?_
 |refine Zbo (Or.inl rfl) ?_
 |refine Zbo (Or.inr rfl) ?_
 |refine Zfq (Or.inl rfl) ?_
 |refine Zfq (Or.inr rfl) ?_
 |refine Zr4 (Or.inl rfl) ?_
 |refine Zr4 (Or.inr rfl) ?_
 |refine Zqr ?_
 |refine⟨⟨_,_,rfl,rfl⟩,?_⟩
 |refine⟨_,_,_,_,rfl,rfl,rfl,rfl,?_⟩
 |refine⟨_,rfl,?_⟩
 |refine jr_I (by first|(show (0:Int)<_;omega)|exact⟨by omega,by omega⟩|exact Or.inl ⟨by omega,by omega⟩|exact Or.inr ⟨by omega,by omega⟩|exact⟨by decide,by decide,by decide⟩) ?_)
local macro_rules | `(tactic| walk_at "draw")=>`(tactic| first|refine Zd0 rfl rfl (by assumption) (by omega) (by omega) λ_ _ _ _ _=>?_|refine⟨_,_,rfl,rfl,by assumption,_,rfl,by omega,by omega,λ_ _ _ _ _=>?_⟩)
def Pen (ps:List D):Prop:=∃(cs:List Int) (at_ num:Int),ps=[.lst (cs.map .int),.int at_,.int num]/\0<=at_/\0<=num/\cs.length<=63
def fDraw:BSp:=λps ds Post=>Pen ps/\∃m:Int,ds=[.int m]/\1<=m/\m<=100000000000000000000000000000000000000000000000000000000000/\∀r ps',Pen ps' -> 0<=r->r<m->Post (.int r) ps'
abbrev LendQ (f:BSp) (i:Nat) (P:D->Evt->Prop):List D->Evt->Prop:=λds Δ1=>∃y ps,Δ1[i]?=some y/\y.od=some (.lst ps)/\f ps ds λd ps'=>P d (Δ1.set i<|y.put (.lst ps'))
theorem Zgj {K:W.Frag}{Δ:Evt}{P:D->Evt->Prop}{f:BSp}{ta:TA}{E:XK}{i:Nat}{x:Slot}{od:OD}(hx:Δ[i]?=some x) (ho:x.od=some od) (h:JA K ta Δ (LendQ f i P)):JE K (tCall (spB K f) [] E<|tCons (tVar i) ta) Δ P:=Znn hx ho h
theorem Zd0 {Δ1:Evt}{i:Nat}{y:Slot}{ps:List D}{m:Int}{P:D->Evt->Prop}(hx:Δ1[i]?=some y) (ho:y.od=some (.lst ps)) (hp:Pen ps) (h1:1<=m) (h2:m<=100000000000000000000000000000000000000000000000000000000000) (h:∀r ps',Pen ps' -> 0<=r->r<m->P (.int r) (Δ1.set i<|y.put (.lst ps'))) :
  LendQ fDraw i P [.int m] Δ1:=⟨y,ps,hx,ho,hp,m,rfl,h1,h2,h⟩
theorem Zk9 {K:W.Frag}{Δ:Evt}{E:XK}{i:Nat}{y:Slot}{ps:List D}{m:Int}{P:D->Evt->Prop}(hx:Δ[i]?=some y) (ho:y.od=some (.lst ps)) (hp:Pen ps) (h1:1<=m) (h2:m<=100000000000000000000000000000000000000000000000000000000000) (h:∀r ps',Pen ps' -> 0<=r->r<m->P (.int r) (Δ.set i<|y.put (.lst ps'))) :
  JE K (tCall (spB K fDraw) [] E<|tCons (tVar i)<|tCons (tC (.int m)) tNil) Δ P:=Zgj hx ho<|Zac<|Zao<|Zag<|Zd0 hx ho hp h1 h2 h
section
variable {P:Program}{w:World}{K:W.Frag}{mg:Str->Option Value}{base:Heap}{f:Addr}{fd:FuncData}
theorem Zss (mb:Mb mg) (F:Fun K "_law_draw" "_law_draw" Ybj f fd):FnOk P w K mg base CX0 1 f fd ["_law_pen_here","_law_many"] (spB K fDraw):=by
 refine F.ok Yaf (Zib λps ds Post h=>by obtain⟨_,m,rfl,_⟩:=h;rfl) λcdv A outer s H vs Q E hr h=>?_;have hu:=Zbn hr;refine⟨_,(Zae (Zdl (Za0 Zlc (Zbv (ixK K hu) (pv 0) Zaf λ_ _=>rfl) Zaf<|nomark _) (Zae (Zan (i:=2) Yaf.nd rfl (Or.inl rfl)<|Zaw Zck (Zbv (ixK K hu) (pv 0) Zaf λ_ _=>rfl)<|pv 1)<|Zae (Zf6 (Zaw Zho (Zbv (ixK K hu) (pv 0) Zaf λ_ _=>rfl)<|pv 1)<|Zmy (pv 0) Zaf<|setU hu)<|Zai<|Zay<|pv 2) Zbi)<|Zae (Zan (i:=3) Yaf.nd rfl (Or.inl rfl)<|Zbv (ixK K hu) (pv 0) Zaf λ_ _=>rfl)<|Zae (Zf6 (Zaw (addK K) (pv 3) Zaf)<|Zmy (pv 0) Zaf<|setU hu)<|Zae (Zan (i:=4) Yaf.nd rfl (Or.inl rfl) Zaf)<|Zae (Zdl (Za0 Zlc (Zaj (lenK K) rfl (mb "len"<|by decide) Zb4<|Zaa (Zbv (ixK K hu) (pv 0) Zaf λ_ _=>rfl) Zab) Zaf<|nomark _) (Zai<|Zan (i:=4) Yaf.nd rfl (Or.inl rfl)<|Zbv (ixK K hu) (Zbv (ixK K hu) (pv 0) Zaf λ_ _=>rfl) (Zaw Zck (pv 3)<|Zaj (lenK K) rfl (mb "len"<|by decide) Zb4<|Zaa (Zbv (ixK K hu) (pv 0) Zaf λ_ _=>rfl) Zab) λ_ _=>rfl) Zbi)<|Zae (Zdl (PW.pt<|pw_and (Za0 Zwk (pv 3) (Zaj (lenK K) rfl (mb "len"<|by decide) Zb4<|Zaa (Zbv (ixK K hu) (pv 0) Zaf λ_ _=>rfl) Zab)<|nomark _)<|pw_and1<|Za0 Zw0 (Zaj Zhd rfl (mb "abs"<|by decide) Zpa<|Zaa (pv 4) Zab) (Zaw Zud Zaf Zaf)<|nomark _) (Zae (Zf6 (Zaw Zho (Zaj Zhd rfl (mb "abs"<|by decide) Zpa<|Zaa (pv 4) Zab)<|pv 1)<|Zmy (pv 0) Zaf<|setU hu)<|Zai<|Zay<|Zaw Zck (Zaj Zhd rfl (mb "abs"<|by decide) Zpa<|Zaa (pv 4) Zab)<|pv 1) Zbi)<|Zae (Zan (i:=5) Yaf.nd rfl (Or.inl rfl)<|Zaw Zck (Zaw Zdo (Zaw (addK K) (Zaw (addK K) (Zaw Zck (pv 4) Zaf)<|Zaw Zdo Zaf<|pv 3) Zaf) Zaf) Zaf)<|Zae (Zan (i:=5) Yaf.nd rfl (Or.inl rfl)<|Zaw Zck (Zaw (addK K) (Zaw (addK K) (Zaw Zdo (pv 5)<|pv 5)<|Zaw Zdo Zaf<|pv 5)<|pv 3) Zaf)<|Zai<|Zay<|Zaw Zck (Zaw Zho (Zaw Zck (Zaw Zdo (pv 5) Zaf) Zaf) Zaf)<|pv 1),Zqp (λps ds Post hf=>?_) h⟩;obtain⟨⟨cs,at_,num,rfl,h1,h2,h3⟩,m,rfl,h4,h5,q⟩:=hf;refine⟨by simp,?_⟩;dsimp only[cxOf,startD,Wbf,Wbh,Wa1,Wae];refine Zbb (λΔ=>¬ 0<num /\ Δ = [.bor (.lst [.lst (cs.map .int),.int at_,.int num]),.val (.int m),.any,.any,.any,.any]) ?_ ?_
 ·repeat walk_at "js"
  refine ite2 (λc=>?_) λc=>?_
  ·have c:=of_decide_eq_true c
   repeat walk_at "js"
   exact q _ _ ⟨cs,at_,num / m,rfl,h1,Int.ediv_nonneg h2 (by omega),h3⟩ (Wcw _<|by omega) (Wcf _<|by omega)
  ·repeat walk_at "js"
   exact⟨of_decide_eq_false<|Wcl.mpr c,rfl⟩
 rintro Δ1 ⟨hn,rfl⟩
 repeat walk_at "js"
 refine Zbb (λΔ=>∃c:Int,Δ = [.bor (.lst [.lst (cs.map .int),.int (at_+1),.int num]),.val (.int m),.any,.val (.int at_),.val (.int c),.any]) ?_ ?_
 ·repeat walk_at "js"
  refine ite2 (λc=>?_) λc=>?_
  ·have c:=of_decide_eq_true c
   rw[Wac]at c
   repeat walk_at "js"
   rw[Wac]
   repeat walk_at "js"
   obtain⟨cell,_,hc⟩:=Zse (f:=D.int) (xs:=cs) (i:=at_ % (cs.length:Int)) (Wcw _<|by omega) (Wcf _<|by omega);refine Zci hc ?_;exact⟨cell,rfl⟩
  ·repeat walk_at "js"
   exact⟨11,rfl⟩
 rintro Δ1 ⟨cell,rfl⟩;refine Zbb (λΔ=>Δ = [.bor (.lst [.lst (cs.map .int),.int (at_+1),.int num]),.val (.int m),.any,.val (.int at_),.val (.int cell),.any]) ?_ ?_
 ·repeat walk_at "js"
  refine ite2 (λc=>?_) λc=>?_
  ·repeat walk_at "js"
   refine ite2 (λc=>?_) λc=>?_
   ·repeat walk_at "js"
    have ha:0<=(if cell<0 then -cell else cell):=by split <;> omega
    exact q _ _ ⟨cs,at_+1,_,rfl,by omega,Int.ediv_nonneg ha (by omega),h3⟩ (Wcw _<|by omega) (Wcf _<|by omega)
   ·repeat walk_at "js"
    rfl
  ·repeat walk_at "js"
   rfl
 rintro Δ1 rfl
 repeat walk_at "js"
 exact q _ _ ⟨cs,at_+1,num,rfl,by omega,h2,h3⟩ (Wcw _<|by omega) (Wcf _<|by omega)
end
def fPen:NSp:=λds Post=>∃ns:List Int,ds=[.scr (ns.map .int)]/\ns.length<=63/\∀ps,Pen ps->Post ps
section
variable {P:Program}{w:World}{K:W.Frag}{mg:Str->Option Value}{base:Heap}{f:Addr}{fd:FuncData}
theorem Zu5 (mb:Mb mg) (F:Fun K "_law_pen" "_law_pen" Yav f fd):FnOk P w K mg base CX0 1 f fd ["_law_script"] (spN K fPen):=by
 refine F.ok Yb0 (Zeo λds Post h=>by obtain⟨ns,rfl,_⟩:=h;rfl) λcdv A outer s H vs Q E hr h=>?_;have hu:=Zbn hr;refine⟨_,(Zai<|Zay<|Zcq<|Zaa (Zcc ["_law_cell"] (show CompSc (defScope Yav) ["_law_script"] _ [] [] from ⟨rfl,by decide +kernel,by decide +kernel,by decide +kernel,rfl,by decide +kernel⟩) rfl (seqK K<|Zef (slK K) (pv 0) Zf1<|Zfk Zaf) (λ_ _ _ _ _=>(Zar (i:=0) (show List.Nodup (["_law_cell"]:List Str) from by decide) rfl<|Or.inl rfl)) (λ_ _ _ _ _=>Zdk) λ_ _ _ _ _=>(pv 0))<|Zaa Zaf<|Zaa Zaf Zab),Zma (λds Post hf=>?_) h⟩;obtain⟨ns,rfl,h1,q⟩:=hf;refine⟨by simp,?_⟩;dsimp only[cxOf,startD,Wbf,Wbh,Wa1,Wae];refine Zen<|Zgr<|Zac<|Zcv (by decide)<|Ze0 ?_
 repeat walk_at "js"
 have e:cutD (ns.map D.int) none (some 63)=ns.map D.int:=by
  unfold cutD;have e1:HT.sIx (ns.map D.int).length 0 none=0:=rfl;have e2:HT.sIx (ns.map D.int).length (ns.map D.int).length (some 63)=ns.length:=by
   rw[Wac];show min (Int.toNat 63) ns.length=_;omega
  rw[e1,e2,List.drop_zero,Wdt,Wcx (by simp)]
 rw[e];refine⟨_,Or.inl rfl,by rw[Wac];exact Wb2 h1 (by decide),λ_=>true,λd=>d,λi d hd=>?_,?_⟩
 ·repeat walk_at "js"
  exact⟨rfl,Zad rfl ⟨rfl,_,rfl⟩⟩
 ·repeat walk_at "js"
  refine⟨by show 3<=sizeLine;decide,_,rfl,q _ ⟨ns,0,0,?_,by decide,by decide,h1⟩⟩;simp
end
def encTie (t:Int × Int):D:=.tup [.int t.1,.int t.2]
def encWeb (n:Int) (ts:List (Int × Int)):D:=.tup [.int n,.tup (ts.map encTie)]
structure WebOk (n:Int) (ts:List (Int × Int)):Prop where
 lo:1<=n
 hi:n<=25
 len:ts.length<=24
 tie:∀t∈ts,0<=t.1/\t.1<n/\0<=t.2/\t.2<n
def fWeb:BSp:=λps ds Post=>Pen ps/\∃a b:Int,ds=[.int a,.int b]/\1<=a/\a<=25/\0<=b/\b<=24/\∀n ts ps',Pen ps' -> WebOk n ts->n<=a->(ts.length:Int)<=b->Post (encWeb n ts) ps'
theorem Zv2 {Δ1:Evt}{i:Nat}{y:Slot}{ps:List D}{a b:Int}{P:D->Evt->Prop}(hx:Δ1[i]?=some y) (ho:y.od=some (.lst ps)) (hp:Pen ps) (h1:1<=a) (h2:a<=25) (h3:0<=b) (h4:b<=24) (h:∀n ts ps',Pen ps' -> WebOk n ts->n<=a->(ts.length:Int)<=b->P (encWeb n ts) (Δ1.set i<|y.put (.lst ps'))) :
  LendQ fWeb i P [.int a,.int b] Δ1:=⟨y,ps,hx,ho,hp,a,b,rfl,h1,h2,h3,h4,h⟩
theorem Zmn:2<=sizeLine:=by decide
theorem Zip {K:W.Frag}{Δ:Evt}{i:Nat}{v c:Int}{P:Bool->Evt->Prop}(hx:Δ[i]?=some (.val (.int v))) (h1:v=c->P true Δ) (h2:¬ v=c->P false Δ):JT K (tTest<|tOp rEq (tVar i)<|tC (.int c)) Δ P:=
 Zbg (Zas (Zad hx (Zao (Zgn ⟨_,rfl,by
  by_cases h:v=c
  ·rw[decide_eq_true h];exact h1 h
  ·rw[decide_eq_false h];exact h2 h⟩))))
def wSt (py:List D) (a b n way k:Int) (fs:List D) (i u v:Int):Evt:=[.bor (.lst py),.val (.int a),.val (.int b),.val (.int n),.val (.int way),.val (.int k),.own (.lst fs),.val (.int i),.val (.int u),.val (.int v)]
def wQ (py:List D) (a b n way k:Int) (fs:List D) (i:Int):Evt->Prop:=λΔ=>∃u v:Int,0<=u/\u<n/\0<=v/\v<n /\ Δ = wSt py a b n way k fs i u v
def wR (py:List D) (a b n way k:Int) (fs:List D) (i:Int):Evt->Prop:=λΔ=>∃u v:Int,0<=u/\u<n/\0<=v /\ Δ = wSt py a b n way k fs i u v
def wL (a b n way k:Int) (i:Nat):Evt->Prop:=λΔ=>∃(ps:List D) (ts:List (Int × Int)) (x7 x8 x9:Slot),Pen ps/\ts.length=i/\(∀t∈ts,0<=t.1/\t.1<n/\0<=t.2/\t.2<n) /\ Δ = [.bor (.lst ps),.val (.int a),.val (.int b),.val (.int n),.val (.int way),.val (.int k),.own (.lst<|ts.map encTie),x7,x8,x9]
section
variable {P:Program}{w:World}{K:W.Frag}{mg:Str->Option Value}{base:Heap}{f:Addr}{fd:FuncData}
theorem Zux (mb:Mb mg) (C33:Callee P w K mg base 1 "_law_draw" ["_law_pen_here","_law_many"] (spB K fDraw)) (F:Fun K "_law_web" "_law_web" Ybk f fd):FnOk P w K mg base CX0 2 f fd ["_law_pen_here","_law_places","_law_ties"] (spB K fWeb):=by
 refine F.ok Yab (Zib λps ds Post h=>by obtain⟨_,a,b,rfl,_⟩:=h;rfl) λcdv A outer s H vs Q E hr h=>?_;have hu:=Zbn hr;refine⟨_,(Zae (Zan (i:=3) Yab.nd rfl (Or.inl rfl)<|Zaw (addK K) Zaf<|Za1 C33 (hr.mono<|by decide)<|Zaa (pv 0)<|Zaa (pv 1) Zab)<|Zae (Zan (i:=4) Yab.nd rfl (Or.inl rfl)<|Za1 C33 (hr.mono<|by decide)<|Zaa (pv 0)<|Zaa Zaf Zab)<|Zae (Zan (i:=5) Yab.nd rfl (Or.inl rfl)<|Za1 C33 (hr.mono<|by decide)<|Zaa (pv 0)<|Zaa (Zaw (addK K) (pv 2) Zaf) Zab)<|Zae (Zdl (Za0 Zc3 (pv 4) Zaf<|nomark _) (Zae (Zan (i:=3) Yab.nd rfl (Or.inl rfl)<|pv 1)<|Zai<|Zan (i:=5) Yab.nd rfl (Or.inl rfl)<|pv 2) Zbi)<|Zae (Zan (i:=6) Yab.nd rfl (Or.inl rfl)<|Zcq Zab)<|Zae (Zc1 PassesOwn.never rfl (Za8 rfl (mb "range"<|by decide)<|Zaa (pv 5) Zab) (Zar (i:=7) Yab.nd rfl<|Or.inl rfl)<|Zae (Zrs (i:=8) (j:=9) rfl Yab.nd rfl rfl (by decide) rfl rfl (Zaa (Za1 C33 (hr.mono<|by decide)<|Zaa (pv 0)<|Zaa (pv 3) Zab)<|Zaa (Za1 C33 (hr.mono<|by decide)<|Zaa (pv 0)<|Zaa (pv 3) Zab) Zab) rfl)<|Zae (Zdl (Za0 Zc3 (pv 4) Zaf<|nomark _) (Zai<|Zrs (i:=8) (j:=9) rfl Yab.nd rfl rfl (by decide) rfl rfl (Zaa (Zaw Zck (pv 7)<|pv 3)<|Zaa (Zaw Zck (Zaw (addK K) (pv 7) Zaf)<|pv 3) Zab) rfl) Zbi)<|Zae (Zdl (Za0 Zc3 (pv 4) Zaf<|nomark _) (Zai<|Zan (i:=8) Yab.nd rfl (Or.inl rfl) Zaf) Zbi)<|Zae (Zdl (Za0 Zc3 (pv 4) Zaf<|nomark _) (Zai<|Zan (i:=9) Yab.nd rfl (Or.inl rfl)<|Zaw (addK K) (Zaw Zck (pv 8) Zaf)<|Zaw Zdo (Zaw Zhm (pv 9) Zaf) Zaf) Zbi)<|Zae (Zdl (PW.pt<|pw_and (Za0 Zc3 (pv 4) Zaf<|nomark _)<|pw_and1<|Za0 Zc3 (Zaw Zck (pv 9) Zaf) Zaf<|nomark _) (Zai<|Zan (i:=9) Yab.nd rfl (Or.inl rfl)<|pv 8) Zbi)<|Zai<|Zcb<|bmK K PySem.F.plainAttrs_list PySem.F.slot_list_append PySem.F.type_list_append Zbc (pv 6)<|Zaa (Zam<|Zaa (pv 8)<|Zaa (Zaj (Zil rfl) rfl (mb "min"<|by decide) Zn7<|Zaa (pv 9)<|Zaa (Zaw Zj5 (pv 3) Zaf) Zab) Zab) Zab)<|Zai<|Zay<|Zam<|Zaa (pv 3)<|Zaa (Zde (tupK K) rfl (mb "tuple"<|by decide) Zd9<|Zaa (pv 6) Zab) Zab),Zqp (λps ds Post hf=>?_) h⟩;obtain⟨hp,a,b,rfl,h1,h2,h3,h4,q⟩:=hf;refine⟨by simp,?_⟩;dsimp only[cxOf,startD,Wbf,Wbh,Wa1,Wae];refine Zaq<|Zax<|Zas<|Zao<|Zgj rfl rfl<|Zac<|Zad rfl<|Zag (Zd0 (m:=a) rfl rfl hp h1 (Int.le_trans h2<|by decide) λr0 ps0 hp0 hr0 hs0=>Zb6 ?_);refine Zaq<|Zax (Zk9 rfl rfl hp0 (by decide) (by decide) λway ps1 hp1 hw0 hw1=>?_);refine Zaq<|Zax<|Zgj rfl rfl<|Zac<|Zes (Ze3 (Zdc rfl) Zch Zjt)<|Zag (Zd0 (m:=b+1) rfl rfl hp1 (Int.add_le_add h3<|Wcs 1) (Int.le_trans (Int.add_le_add h4<|Wcs 1)<|by decide) λcnt ps2 hp2 hc0 hc1=>?_);refine Zbb (λΔ=>∃n k:Int,1<=n/\n<=a/\0<=k/\k<=b /\ Δ = [.bor (.lst ps2),.val (.int a),.val (.int b),.val (.int n),.val (.int way),.val (.int k),.any,.any,.any,.any]) ?_ ?_
 ·refine Zer (Zip rfl (λc=>iteT ?_) λc=>iteF<|Zb9 ⟨1+r0,cnt,Int.le_add_of_nonneg_right hr0,by omega,hc0,Int.le_of_lt_add_one hc1,rfl⟩)
  exact Zaq<|Zax<|Zad rfl<|Zax<|Zad rfl ⟨a,b,h1,Wcs _,h3,Wcs _,rfl⟩
 rintro Δ1 ⟨n,k,hn0,hn1,hk0,hk1,rfl⟩;have hn2:0<n:=Int.lt_of_lt_of_le (by decide) hn0;have hn3:n≠0:=Int.ne_of_gt hn2;refine Zaq<|Zcp<|Zgr<|Zag ⟨by decide,?_⟩;refine Zbb (wL a b n way k k.toNat) ?_ ?_
 ·refine Zdd (Zba<|Zac<|Zad rfl<|Zag ⟨_,rfl,by omega,by omega,?_⟩)
  refine⟨wL a b n way k,⟨ps2,[],.any,.any,.any,hp2,rfl,λ_ h=>(nomatch h),rfl⟩,?_,λΔ2 h=>by rw[Za7]at h;exact h⟩;rintro i d Δ2 hd ⟨ps,ts,x7,x8,x9,hp',hl,ht,rfl⟩;obtain⟨hi,rfl⟩:=Za6 hd;generalize (0+(i:Int))=I;refine Zbh<|Zaq<|Zju<|Zac<|Zgj rfl rfl<|Zac<|Zad rfl<|Zag (Zd0 (m:=n) rfl rfl hp' hn0 (by omega) λx px hpx hx0 hx1=>?_);refine Zac<|Zgj rfl rfl<|Zac<|Zad rfl<|Zag (Zd0 (m:=n) rfl rfl hpx hn0 (by omega) λy py hpy hy0 hy1=>Zag ⟨_,_,rfl,?_⟩);refine Zbb (wQ py a b n way k (ts.map encTie) I) ?_ ?_
  ·refine Zer (Zip rfl (λc=>iteT ?_) λc=>iteF<|Zb9 ⟨x,y,hx0,hx1,hy0,hy1,rfl⟩)
   exact Zju<|Zuu (Zbe (Ze3 (Zdc rfl) (Zdc rfl)<|pr_I hn2)<|Zbe (Ze3 (Ze3 (Zdc rfl) Zch Zjt) (Zdc rfl)<|pr_I hn2) Zcw) ⟨_,_,rfl,_,_,Wcw _ hn3,Wcf _ hn2,Wcw _ hn3,Wcf _ hn2,rfl⟩
  rintro Δ3 ⟨u,v,hu0,hu1,hv0,hv1,rfl⟩;refine Zbb (wQ py a b n way k (ts.map encTie) I) ?_ ?_
  ·exact Zer<|Zip rfl (λc=>iteT<|Zax<|Zao ⟨0,v,Wcs _,hn2,hv0,hv1,rfl⟩) λc=>iteF<|Zb9 ⟨u,v,hu0,hu1,hv0,hv1,rfl⟩
  rintro Δ3 ⟨u,v,hu0,hu1,hv0,hv1,rfl⟩;refine Zbb (wR py a b n way k (ts.map encTie) I) ?_ ?_
  ·refine Zer (Zip rfl (λc=>iteT ?_) λc=>iteF<|Zb9 ⟨u,v,hu0,hu1,hv0,rfl⟩)
   exact Zax<|Zes (Ze3 (Ze3 (Zdc rfl) Zch<|pr_I (show (0:Int)<2 by decide)) (Ze3 (Ze3 (Zdc rfl) Zch<|pr_I ⟨by decide,by decide⟩) Zch<|pr_I<|Or.inr ⟨by decide,by decide⟩) Zjt) ⟨u,_,hu0,hu1,by omega,rfl⟩
  rintro Δ3 ⟨u,v,hu0,hu1,hv0,rfl⟩;refine Zbb (wR py a b n way k (ts.map encTie) I) ?_ ?_
  ·refine Zer (Zos<|Zip rfl (λc=>iteT ?_) λc=>iteF<|iteF<|Zb9 ⟨u,v,hu0,hu1,hv0,rfl⟩)
   refine Zbg<|Zas<|Zes (Ze3 (Zdc rfl) Zch<|pr_I (show (0:Int)<2 by decide))<|Zao<|Zgn ⟨_,rfl,ite2 (λc=>?_) λc=>Zb9 ⟨u,v,hu0,hu1,hv0,rfl⟩⟩;exact Zax<|Zad rfl ⟨u,u,hu0,hu1,hu0,rfl⟩
  rintro Δ3 ⟨u,v,hu0,hu1,hv0,rfl⟩;refine Zdy rfl rfl<|Zb7<|Zac<|Zad rfl<|Zac<|Zb1<|Zac<|Zad rfl<|Zac<|Zes (Ze3 (Zdc rfl) Zch Zwy)<|Zag<|Zj7<|Zag ?_;refine⟨Zmn,_,_,rfl,rfl,?_,py,ts++[(u,if n-1<v then n-1 else v)],.val (.int I),.val (.int u),.val (.int v),hpy,by rw[Wao,hl];rfl,λt h=>?_,?_⟩
  ·rw[Wac];exact small1000 (by omega)
  ·rcases Wbn.mp h with h|h
   ·exact ht t h
   ·rw[Wbi.mp h]
    refine⟨hu0,hu1,?_,?_⟩
    ·show 0<=(if n-1<v then n-1 else v);split <;> omega
    ·show (if n-1<v then n-1 else v)<n;split <;> omega
  ·rw[Wbg];rfl
 rintro Δ1 ⟨ps3,ts,x7,x8,x9,hp3,hl,ht,rfl⟩;refine Zbp<|Zb7<|Zac<|Zad rfl<|Zac<|Zb1<|Zac<|Zhi rfl<|Zag<|Zfq (Or.inl rfl)<|Zag ⟨Zmn,?_⟩;exact⟨_,rfl,q n ts _ hp3 ⟨hn0,by omega,by omega,ht⟩ hn1<|by omega⟩
end
def placeAt (ts:List (Int × Int)) (e:Nat):Int:=match ts[e / 2]? with
 |some t=>if e % 2=0 then t.1 else t.2
 |none=>-1
def encRow (r:List Int):D:=.tup<|r.map .int
def encOrd (o:List (List Int)):D:=.tup<|o.map encRow
def endsBelow (ts:List (Int × Int)) (m:Nat) (p:Int):List Int:=((Wak m).filter λe=>decide (placeAt ts e=p)).map λe:Nat=>(e:Int)
structure RowOk (ts:List (Int × Int)) (m:Nat) (p:Int) (r:List Int):Prop where
 perm:r.Perm (endsBelow ts m p)
 first:r.head?=(endsBelow ts m p).head?
structure OrdOk (n:Int) (ts:List (Int × Int)) (o:List (List Int)):Prop where
 len:(o.length:Int)=n
 row:∀(p:Nat) r,o[p]?=some r->RowOk ts (2*ts.length) (p:Int) r
theorem Zh1 (ts:List (Int × Int)) (m:Nat) (p:Int):(endsBelow ts m p).length<=m:=by
 unfold endsBelow;rw[Wac];exact Wa8 (Wdg _ _) (by rw[Wbd];exact Waf _)
theorem Zrj {ts:List (Int × Int)}{k:Nat}(h:k<2*ts.length):∃t,ts[k / 2]?=some t/\atI (ts.map encTie) ((0+(k:Int)) / 2)=some (encTie t)/\atI [D.int t.1,D.int t.2] ((0+(k:Int)) % 2)=some (.int<|placeAt ts k):=by
 have hk:k / 2<ts.length:=by omega
 refine⟨ts[k / 2],Waa hk,?_,?_⟩
 ·have e:(0+(k:Int)) / 2=((k / 2:Nat):Int):=by omega
  rw[e];exact Zdn (by rw[Wah,Waa hk];rfl)
 ·have e2:placeAt ts k=if k % 2=0 then ts[k / 2].1 else ts[k / 2].2:=by
   unfold placeAt;rw[Waa hk]
  rw[e2];have e:(0+(k:Int)) % 2=((k % 2:Nat):Int):=by omega
  rw[e];by_cases h0:k % 2=0
  ·rw[if_pos h0,h0];exact Zdn rfl
  ·have h1:k % 2=1:=by omega
   rw[if_neg h0,h1];exact Zdn rfl
theorem Zea {n:Int}{ts:List (Int × Int)}(hW:WebOk n ts) {k:Nat}(h:k<2*ts.length):0<=placeAt ts k/\placeAt ts k<n:=by
 have hk:k / 2<ts.length:=by omega
 have:=hW.tie _<|Wa4 hk;unfold placeAt;rw[Waa hk];dsimp only;split <;> omega
def nextIn (r:List Int) (x:Int):Int:=r.getD ((r.idxOf x+1) % r.length) 0
def rowAt (ts:List (Int × Int)) (o:List (List Int)) (e:Nat):List Int:=o.getD (placeAt ts e).toNat []
def partner (e:Nat):Nat:=if e % 2=0 then e+1 else e-1
theorem Zbx {e m:Nat}(h:e<2*m):partner e<2*m:=by unfold partner;split <;> omega
theorem Zd8 {ts:List (Int × Int)}{m:Nat}{p x:Int}:x∈endsBelow ts m p ↔ ∃e:Nat,e<m/\placeAt ts e=p/\(e:Int)=x:=by
 unfold endsBelow;rw[Wbk];constructor
 ·rintro⟨e,he,rfl⟩
  rw[Wa0,Wa6]at he;exact⟨e,he.1,of_decide_eq_true he.2,rfl⟩
 ·rintro⟨e,h1,h2,rfl⟩
  exact⟨e,by rw[Wa0,Wa6];exact⟨h1,decide_eq_true h2⟩,rfl⟩
theorem Zco (ts:List (Int × Int)) (m:Nat) (p:Int):(endsBelow ts m p).Nodup:=by
 unfold endsBelow;refine List.Pairwise.map _ (λa b h=>?_)<|List.Pairwise.filter _ List.nodup_range;intro e;exact h (by omega)
theorem RowOk.nodup {ts:List (Int × Int)}{m:Nat}{p:Int}{r:List Int}(h:RowOk ts m p r):r.Nodup:=h.perm.nodup_iff.mpr<|Zco ts m p
theorem RowOk.mem {ts:List (Int × Int)}{m:Nat}{p x:Int}{r:List Int}(h:RowOk ts m p r):x∈r ↔ ∃e:Nat,e<m/\placeAt ts e=p/\(e:Int)=x:=h.perm.mem_iff.trans Zd8
theorem Zdi {n:Int}{ts:List (Int × Int)}{o:List (List Int)}(hW:WebOk n ts) (hO:OrdOk n ts o) {e:Nat}(he:e<2*ts.length) :
  o[(placeAt ts e).toNat]?=some (rowAt ts o e)/\RowOk ts (2*ts.length) (placeAt ts e) (rowAt ts o e)/\(e:Int)∈rowAt ts o e:=by
 obtain⟨p0,p1⟩:=Zea hW he;have hl:=hO.len;have hk:(placeAt ts e).toNat<o.length:=by omega
 have q:o[(placeAt ts e).toNat]?=some (rowAt ts o e):=by
  unfold rowAt;rw[Waa hk,Wad,Waa hk];rfl
 have r:=hO.row _ _ q;rw[show ((placeAt ts e).toNat:Int)=placeAt ts e by omega]at r;exact⟨q,r,r.mem.mpr ⟨e,he,rfl,rfl⟩⟩
theorem Zfd {r:List Int}{x:Int}(h:x∈r):r.idxOf x<r.length/\r[r.idxOf x]?=some x/\∀m,m<r.idxOf x->r[m]?≠some x:=by
 have hl:=List.idxOf_lt_length_of_mem h;refine⟨hl,?_,λm hm e=>?_⟩
 ·rw[Waa hl,List.getElem_idxOf hl]
 ·obtain⟨h1,h2⟩:=Wag.mp e
  have:=List.not_of_lt_findIdx (p:=(· == x)) (xs:=r) hm;rw[h2]at this;simp at this
theorem Zvq (k:Nat):k ||| 1=2*(k / 2)+1:=by
 apply Nat.eq_of_testBit_eq;intro i;rw[Nat.testBit_or];cases i with
 |zero=>rw[Nat.testBit_zero,Nat.testBit_zero,Nat.testBit_zero];simp
 |succ i=>
  rw[Nat.testBit_succ,Nat.testBit_succ,Nat.testBit_succ,show (2*(k / 2)+1) / 2=k / 2 by omega];simp
theorem Ztu (k:Nat):Builtin.bitXor (k:Int) 1=(partner k:Int):=by
 have e1:Builtin.bitAnd (k:Int) 1=((k % 2:Nat):Int):=by
  unfold Builtin.bitAnd;rw[decide_eq_true (show (0:Int)<=(k:Int) by omega),decide_eq_true (show (0:Int)<=1 by decide)];show ((((k:Int).toNat &&& (1:Int).toNat:Nat)):Int)=_;rw[Waj,show (1:Int).toNat=1 from rfl,Nat.and_one_is_mod]
 have e2:Builtin.bitOr (k:Int) 1=((2*(k / 2)+1:Nat):Int):=by
  unfold Builtin.bitOr Builtin.bitAnd;rw[decide_eq_false (show ¬ (0:Int)<=Builtin.bitNot (k:Int) by unfold Builtin.bitNot;omega),decide_eq_false (show ¬ (0:Int)<=Builtin.bitNot 1 by decide)];show Builtin.bitNot (Builtin.bitNot (((Builtin.bitNot<|Builtin.bitNot (k:Int)).toNat ||| (Builtin.bitNot<|Builtin.bitNot 1).toNat:Nat):Int))=_;have n1:∀x:Int,Builtin.bitNot (Builtin.bitNot x)=x:=λx=>by unfold Builtin.bitNot;omega
  rw[n1,n1,n1,Waj,show (1:Int).toNat=1 from rfl,Zvq]
 unfold Builtin.bitXor;rw[e1,e2];unfold partner;split <;> omega
theorem Zb8 {α:Type}[DecidableEq α]:∀{l m:List α},l.Nodup->(∀x∈l,x∈m)->l.length<=m.length
 |[],_,_,_=>Wb1 _
 |x::l,m,nd,h=>by
  rw[Wcg]at nd;have hx:=h x Wbc;have:=Zb8 (l:=l) (m:=m.erase x) nd.2 λy hy=>by
   have hne:y≠x:=λe=>nd.1 (e ▸ hy);exact(List.mem_erase_of_ne hne).mpr (h y<|Way _ hy)
  rw[Wc8 hx]at this;have hpos:0<m.length:=Wcd hx;rw[Wa2];omega
theorem Zje (ts:List (Int × Int)) (m:Nat) (p:Int):(endsBelow ts m p).Pairwise (· < ·):=by
 unfold endsBelow;refine List.Pairwise.map _ (λa b h=>?_)<|List.Pairwise.filter _ Wb6;omega
theorem RowOk.least {ts:List (Int × Int)}{m:Nat}{p x:Int}{r:List Int}(h:RowOk ts m p (x::r)):∀a∈r,x<=a:=by
 intro a ha;have h1:=h.first;have h2:=Zje ts m p;have h3:a∈endsBelow ts m p:=h.perm.mem_iff.mp<|Way _ ha;cases q:endsBelow ts m p with
 |nil=>rw[q]at h1;cases h1
 |cons y l=>
  rw[q]at h1 h2 h3;have e:x=y:=Wa5.inj h1;subst e;rcases War.mp h3 with z|z
  ·omega
  ·have:=(Wdq.mp h2).1 a z;omega
def rotAt (l:List Int) (j:Nat):List Int:=l.drop j++l.take j
theorem Zhf:∀(l:List Int),l≠[]->∃m,m∈l/\∀a∈l,m<=a
 |[],h=>absurd rfl h
 |[x],_=>⟨x,Wbc,λa ha=>by rw[Wbi.mp ha];exact Wcs _⟩
 |x::y::l,_=>by
  obtain⟨m,h1,h2⟩:=Zhf (y::l) (by simp);by_cases h:x<=m
  ·refine⟨x,Wbc,λa ha=>?_⟩
   rcases War.mp ha with z|z
   ·omega
   ·have:=h2 a z;omega
  ·refine⟨m,Way _ h1,λa ha=>?_⟩
   rcases War.mp ha with z|z
   ·omega
   ·exact h2 a z
theorem Zrf {l:List Int}(nd:l.Nodup) {j:Nat}{x:Int}(h:l[j]?=some x):l.idxOf x=j:=by
 obtain⟨h1,h2⟩:=Wag.mp h;obtain⟨i1,i2,_⟩:=Zfd (r:=l) (x:=x) (by rw[<- h2];exact Wa4 h1);obtain⟨i3,i4⟩:=Wag.mp i2;exact(Wde nd).mp (i4.trans h2.symm)
def nxI (n k:Nat):Nat:=if k+1=n then 0 else k+1
theorem Zs9 {n k:Nat}(h:k<n):(k+1) % n=nxI n k:=by
 unfold nxI;split
 ·rename_i e;rw[e,Nat.mod_self]
 ·rw[Nat.mod_eq_of_lt (by omega)]
theorem Zgb {r:List Int}(nd:r.Nodup) {k:Nat}{x:Int}(h:r[k]?=some x):nextIn r x=r.getD (nxI r.length k) 0:=by
 unfold nextIn;rw[Zrf nd h,Zs9 (Wag.mp h).1]
theorem Zkj (ds:List D) {j:Nat}(h:j<=ds.length):cutD ds (some (j:Int)) none=ds.drop j:=by
 unfold cutD;rw[HT.sIx_nat,HT.sIx_none,Nat.min_eq_left h,Wcx (by rw[Wcq];exact Waf _)]
theorem Zrr (ds:List D) {j:Nat}(h:j<=ds.length):cutD ds none (some (j:Int))=ds.take j:=by
 unfold cutD;rw[HT.sIx_nat,HT.sIx_none,Nat.min_eq_left h,List.drop_zero,Wdt]
section
variable {P:Program}{w:World}{K:W.Frag}{mg:Str->Option Value}{base:Heap}{f:Addr}{fd:FuncData}
def fPlace:DSp:=λds Post=>∃n ts,∃e:Nat,ds=[encWeb n ts,.int e]/\e<2*ts.length/\Post (.int<|placeAt ts e)
def folOf (ts:List (Int × Int)) (o:List (List Int)) (e:Nat):Int:=nextIn (rowAt ts o e) e
def fFol:DSp:=λds Post=>∃n ts o,∃e:Nat,ds=[encWeb n ts,encOrd o,.int e]/\WebOk n ts/\OrdOk n ts o/\e<2*ts.length/\Post (.int<|folOf ts o e)
def fOnw:DSp:=λds Post=>∃n ts o,∃e:Nat,ds=[encWeb n ts,encOrd o,.int e]/\WebOk n ts/\OrdOk n ts o/\e<2*ts.length/\Post (.int<|folOf ts o<|partner e)
theorem Zka (mb:Mb mg) (F:Fun K "place_of" "place_of" Ya3 f fd):FnOk P w K mg base CX0 1 f fd ["web","end"] (spD K fPlace):=by
 refine F.ok Ybu (Zbk λds Post h=>by obtain⟨_,_,_,rfl,_⟩:=h;rfl) λcdv A outer s H vs Q E hr h=>?_;have hu:=Zbn hr;refine⟨_,(Zai<|Zay<|Zbv (ixK K hu) (Zbv (ixK K hu) (Zbv (ixK K hu) (pv 0) Zaf λ_ _=>rfl) (Zaw Zhm (pv 1) Zaf) λ_ _=>rfl) (Zaw Zck (pv 1) Zaf) λ_ _=>rfl),Zdj (λds Post hf=>?_) h⟩;obtain⟨n,ts,e,rfl,he,q⟩:=hf;refine⟨by simp,?_⟩;dsimp only[startD,Wbf,Wbh,Wa1];obtain⟨t,h1,h2,h3⟩:=Zrj he;rw[Wbj]at h2 h3;refine Zbp<|Zas<|Zas<|Zas<|Zad rfl<|Zao<|Zca (d:=.tup<|ts.map encTie) rfl ?_;refine Zas<|Zad rfl<|Zao<|jr_I ⟨by omega,by omega⟩<|Zca h2 ?_;exact Zas<|Zad rfl<|Zao<|jr_I (by show (0:Int)<2;omega)<|Zca h3 q
theorem Zfs (mb:Mb mg) (C56:Callee P w K mg base 1 "place_of" ["web","end"] (spD K fPlace)) (F:Fun K "follower" "follower" Ya6 f fd):FnOk P w K mg base CX0 2 f fd ["web","order","end"] (spD K fFol):=by
 refine F.ok Ybp (Zbk λds Post h=>by obtain⟨_,_,_,_,rfl,_⟩:=h;rfl) λcdv A outer s H vs Q E hr h=>?_;have hu:=Zbn hr;refine⟨_,(Zae (Zan (i:=3) Ybp.nd rfl (Or.inl rfl)<|Zbv (ixK K hu) (pv 1) (Za1 C56 (hr.mono<|by decide)<|Zaa (pv 0)<|Zaa (pv 2) Zab) λ_ _=>rfl)<|Zai<|Zay<|Zbv (ixK K hu) (pv 3) (Zaw Zck (Zaw (addK K) (bmK K PySem.F.plainAttrs_tuple PySem.F.slot_tuple_index PySem.F.type_tuple_index (idxK K) (pv 3)<|Zaa (pv 2) Zab) Zaf)<|Zaj (lenK K) rfl (mb "len"<|by decide) Zb4<|Zaa (pv 3) Zab) λ_ _=>rfl),Zdj (λds Post hf=>?_) h⟩;obtain⟨n,ts,o,e,rfl,hW,hO,he,q⟩:=hf;refine⟨by simp,?_⟩;dsimp only[startD,Wbf,Wbh,Wa1];obtain⟨g1,g2,g3⟩:=Zdi hW hO he;obtain⟨p0,p1⟩:=Zea hW he;obtain⟨i1,i2,i3⟩:=Zfd g3;have hat:atI (o.map encRow) (placeAt ts e)=some (encRow<|rowAt ts o e):=by
  have ep:placeAt ts e=(((placeAt ts e).toNat:Nat):Int):=by omega
  rw[ep];exact Zdn (by rw[Wah,g1];rfl)
 refine Zaq<|Zax<|Zas<|Zad rfl<|Zaz<|Zac<|Zad rfl<|Zac<|Zad rfl<|Zag ⟨n,ts,e,rfl,he,Zca hat ?_⟩;refine Zbp<|Zas<|Zad rfl<|Zas<|Zas<|Zkr<|Zad rfl ⟨rowAt ts o e,rfl,Zad rfl ⟨e,(rowAt ts o e).idxOf (e:Int),rfl,i2,i3,?_⟩⟩;refine Zao<|Zb6 ?_;refine Zb1<|Zac<|Zad rfl<|Zag<|Zbo (Or.inr rfl) ?_;rw[Wac];refine jr_I (by show (0:Int)<_;omega) ?_;have e1:(((rowAt ts o e).idxOf (e:Int):Int)+1) % ((rowAt ts o e).length:Int)=((((rowAt ts o e).idxOf (e:Int)+1) % (rowAt ts o e).length:Nat):Int):=by push_cast;rfl
 rw[e1];have hm:((rowAt ts o e).idxOf (e:Int)+1) % (rowAt ts o e).length<(rowAt ts o e).length:=Wdr _ (by omega);refine Zca (d:=.int<|folOf ts o e) (Zdn ?_) q;rw[Wah,Waa hm];unfold folOf nextIn;rw[Wad,Waa hm];rfl
theorem Zis (mb:Mb mg) (C48:Callee P w K mg base 2 "follower" ["web","order","end"] (spD K fFol)) (F:Fun K "onward" "onward" Ya7 f fd):FnOk P w K mg base CX0 3 f fd ["web","order","end"] (spD K fOnw):=by
 refine F.ok Ybv (Zbk λds Post h=>by obtain⟨_,_,_,_,rfl,_⟩:=h;rfl) λcdv A outer s H vs Q E hr h=>?_;have hu:=Zbn hr;refine⟨_,(Zai<|Zay<|Za1 C48 (hr.mono<|by decide)<|Zaa (pv 0)<|Zaa (pv 1)<|Zaa (Zaw Zvt (pv 2) Zaf) Zab),Zdj (λds Post hf=>?_) h⟩;obtain⟨n,ts,o,e,rfl,hW,hO,he,q⟩:=hf;refine⟨by simp,?_⟩;dsimp only[startD,Wbf,Wbh,Wa1];refine Zbp<|Zaz<|Zac<|Zad rfl<|Zac<|Zad rfl<|Zac<|Zas<|Zad rfl<|Zao<|Zll ?_;rw[Ztu];exact Zag ⟨n,ts,o,partner e,rfl,hW,hO,Zbx he,q⟩
theorem Zcr:2<=sizeLine:=by decide
end
def iter (f:Int->Int) (e:Int):Nat->Int
 |0=>e
 |n+1=>f (iter f e n)
def walkL (f:Int->Int) (e:Int) (n:Nat):List Int:=(Wak n).map (iter f e)
structure OneOne (f:Int->Int) (m:Nat):Prop where
 to:∀x,0<=x->x<(m:Int)->0<=f x/\f x<(m:Int)
 inj:∀x y,0<=x->x<(m:Int)->0<=y->y<(m:Int)->f x=f y->x=y
def NdTo (f:Int->Int) (e:Int) (n:Nat):Prop:=∀i j,i<n->j<n->iter f e i=iter f e j->i=j
structure IsOrb (f:Int->Int) (e:Int) (n:Nat):Prop where
 pos:0<n
 back:iter f e n=e
 nd:NdTo f e n
theorem Zce (f:Int->Int) (e:Int) (j n:Nat):iter f (iter f e j) n=iter f e (j+n):=by
 induction n with
 |zero=>rfl
 |succ n ih=>show f (iter f (iter f e j) n)=f (iter f e (j+n));rw[ih]
theorem Zcs (f:Int->Int) (e:Int) (n:Nat):(walkL f e n).length=n:=by unfold walkL;rw[Wac,Wbd]
theorem Zd3 (f:Int->Int) (e:Int) (a b:Nat):walkL f e (a+b)=walkL f e a++walkL f (iter f e a) b:=by
 unfold walkL;rw[List.range_add,Wbg,Wba];congr 1;apply Wbq;intro i _;exact(Zce f e a i).symm
theorem Zl8 (f:Int->Int) (e:Int) (n:Nat):walkL f e (n+1)=walkL f e n++[iter f e n]:=by rw[Zd3];rfl
theorem Za2 {f:Int->Int}{e x:Int}{n:Nat}:x∈walkL f e n ↔ ∃i,i<n/\iter f e i=x:=by
 unfold walkL;rw[Wbk];constructor
 ·rintro⟨i,h,rfl⟩;exact⟨i,Wa6.mp h,rfl⟩
 ·rintro⟨i,h,rfl⟩;exact⟨i,Wa6.mpr h,rfl⟩
theorem Zn9 {f:Int->Int}{e:Int}{n i:Nat}(h:i<n):(walkL f e n)[i]?=some (iter f e i):=by
 unfold walkL;rw[Wah,Wdn h];rfl
theorem IsOrb.uniq {f:Int->Int}{e:Int}{n k:Nat}(h:IsOrb f e n) (h':IsOrb f e k):n=k:=by
 rcases Nat.lt_trichotomy n k with z|z|z
 ·have:=h'.nd n 0 z h'.pos (by rw[h.back];rfl)
  have:=h.pos;omega
 ·exact z
 ·have:=h.nd k 0 z h.pos (by rw[h'.back];rfl)
  have:=h'.pos;omega
noncomputable def per (f:Int->Int) (e:Int):Nat:=Classical.epsilon<|IsOrb f e
noncomputable def orb (f:Int->Int) (e:Int):List Int:=walkL f e<|per f e
theorem IsOrb.per {f:Int->Int}{e:Int}{n:Nat}(h:IsOrb f e n):Lw.per f e=n:=(Classical.epsilon_spec (p:=IsOrb f e) ⟨n,h⟩).uniq h
theorem IsOrb.orb {f:Int->Int}{e:Int}{n:Nat}(h:IsOrb f e n):Lw.orb f e=walkL f e n:=by unfold Lw.orb;rw[h.per]
section
variable {f:Int->Int}{m:Nat}(F:OneOne f m) {e:Int}(h0:0<=e) (h1:e<(m:Int))
include F h0 h1
theorem Zcj (n:Nat):0<=iter f e n/\iter f e n<(m:Int):=by
 induction n with
 |zero=>exact⟨h0,h1⟩
 |succ n ih=>exact F.to _ ih.1 ih.2
theorem Zmx {n:Nat}(hn:1<=n) (nd:NdTo f e n) (hne:iter f e n≠e):NdTo f e (n+1):=by
 have key:∀j,j<n->iter f e n≠iter f e j:=by
  intro j hj q;cases j with
  |zero=>exact hne q
  |succ j=>
   obtain⟨k,rfl⟩:∃k,n=k+1:=⟨n-1,by omega⟩;have a:=Zcj F h0 h1 k;have b:=Zcj F h0 h1 j;have:=nd k j (by omega) (by omega)<|F.inj _ _ a.1 a.2 b.1 b.2 q;omega
 intro i j hi hj q;by_cases hin:i=n
 ·by_cases hjn:j=n
  ·omega
  ·subst hin;exact absurd q (key j<|by omega)
 ·by_cases hjn:j=n
  ·subst hjn;exact absurd q.symm (key i<|by omega)
  ·exact nd i j (by omega) (by omega) q
theorem Zpc {n:Nat}(nd:NdTo f e n):n<=m:=by
 have hn:(walkL f e n).Nodup:=by
  unfold walkL List.Nodup;rw[Wcy,Wcn];intro i j hi hj hij;rw[Wbd]at hi hj;rw[Wb7,Wb7];intro q;have:=nd i j hi hj q;omega
 have:=Zb8 (m:=(Wak m).map λe:Nat=>(e:Int)) hn λx hx=>by
  obtain⟨i,hi,rfl⟩:=Za2.mp hx;have:=Zcj F h0 h1 i;exact Wbk.mpr ⟨(iter f e i).toNat,Wa6.mpr (by omega),by omega⟩
 rw[Zcs,Wac,Wbd]at this;exact this
theorem Zr2:NdTo f e 1:=λi j hi hj _=>by omega
theorem Zu8:∃n,IsOrb f e n:=by
 apply Classical.byContradiction;intro hn;have all:∀n,NdTo f e (n+1):=by
  intro n
  induction n with
  |zero=>exact Zr2 F h0 h1
  |succ n ih=>
   refine Zmx F h0 h1 (by omega) ih λq=>hn ⟨n+1,by omega,q,ih⟩
 have:=Zpc F h0 h1<|all m;omega
theorem Zdf:IsOrb f e (per f e):=by
 obtain⟨n,h⟩:=Zu8 F h0 h1;rw[h.per];exact h
theorem Zcu:e∈orb f e:=Za2.mpr ⟨0,(Zdf F h0 h1).pos,rfl⟩
theorem Ztc:(orb f e).length<=m:=by
 unfold orb;rw[Zcs];exact Zpc F h0 h1 (Zdf F h0 h1).nd
theorem Zbs (k:Nat):iter f e k∈orb f e:=by
 have O:=Zdf F h0 h1
 induction k with
 |zero=>exact Zcu F h0 h1
 |succ k ih=>
  obtain⟨i,hi,q⟩:=Za2.mp ih;show f (iter f e k)∈_;rw[<- q];by_cases hl:i+1=per f e
  ·have:f (iter f e i)=e:=by
    have:=O.back;rw[<- hl]at this;exact this
   rw[this];exact Zcu F h0 h1
  ·exact Za2.mpr ⟨i+1,by omega,rfl⟩
theorem Ziy {x:Int}(hx:x∈orb f e):0<=x/\x<(m:Int):=by
 obtain⟨i,_,rfl⟩:=Za2.mp hx;exact Zcj F h0 h1 i
theorem Zpm {x y:Int}(a0:0<=x) (a1:x<(m:Int)) (b0:0<=y) (b1:y<(m:Int)) (j:Nat) (q:iter f x j=iter f y j):x=y:=by
 induction j with
 |zero=>exact q
 |succ j ih=>
  have a:=Zcj F a0 a1 j;have b:=Zcj F b0 b1 j;exact ih<|F.inj _ _ a.1 a.2 b.1 b.2 q
theorem Ztr (j:Nat):IsOrb f (iter f e j) (per f e):=by
 have O:=Zdf F h0 h1;refine⟨O.pos,?_,λi k hi hk q=>?_⟩
 ·rw[Zce,Nat.add_comm,<- Zce,O.back]
 ·rw[Zce,Zce,Nat.add_comm j i,Nat.add_comm j k,<- Zce,<- Zce]at q
  have a:=Zcj F h0 h1 i;have b:=Zcj F h0 h1 k;exact O.nd i k hi hk<|Zpm F h0 h1 a.1 a.2 b.1 b.2 j q
theorem Zcn {x:Int}(hx:x∈orb f e):e∈orb f x:=by
 have O:=Zdf F h0 h1;obtain⟨j,hj,rfl⟩:=Za2.mp hx;have a:=Zcj F h0 h1 j;have:=Zbs F a.1 a.2<|per f e-j;rw[Zce,show j+(per f e-j)=per f e by omega,O.back]at this;exact this
theorem Zcg {x y:Int}(hx:x∈orb f e) (hy:y∈orb f x):y∈orb f e:=by
 obtain⟨j,_,rfl⟩:=Za2.mp hx;obtain⟨i,_,rfl⟩:=Za2.mp hy;rw[Zce];exact Zbs F h0 h1 _
theorem Zs1 {j:Nat}(hj:j<per f e):rotAt (orb f e) j=orb f (iter f e j):=by
 have O:=Zdf F h0 h1;rw[(Ztr F h0 h1 j).orb];unfold orb rotAt;have e1:walkL f e (per f e)=walkL f e j++walkL f (iter f e j) (per f e-j):=by rw[<- Zd3,show j+(per f e-j)=per f e by omega]
 have e2:walkL f (iter f e j) (per f e)=walkL f (iter f e j) (per f e-j)++walkL f e j:=by
  conv=>lhs;rw[show per f e=(per f e-j)+j by omega]
  rw[Zd3,Zce,show j+(per f e-j)=per f e by omega,O.back]
 rw[e2,e1,List.drop_left' (Zcs ..),List.take_left' (Zcs ..)]
theorem Zol:(orb f e).Nodup:=by
 have O:=Zdf F h0 h1;unfold orb walkL List.Nodup;rw[Wcy,Wcn];intro i j hi hj hij;rw[Wbd]at hi hj;rw[Wb7,Wb7];intro q;have:=O.nd i j hi hj q;omega
theorem Zh5:∃l,orb f e=e::l:=by
 have O:=Zdf F h0 h1;unfold orb;obtain⟨n,hn⟩:∃n,per f e=1+n:=⟨per f e-1,by have:=O.pos;omega⟩;rw[hn,Zd3];exact⟨_,rfl⟩
end
open Classical in
noncomputable def leastB (f:Int->Int) (e:Nat):Bool:=decide (∀x∈orb f (e:Int),(e:Int)<=x)
noncomputable def facesTo (f:Int->Int) (k:Nat):List (List Int):=((Wak k).filter (leastB f)).map λe:Nat=>orb f (e:Int)
theorem Zey (f:Int->Int) (k:Nat):facesTo f (k+1)=facesTo f k++(if leastB f k=true then [orb f (k:Int)] else []):=by
 unfold facesTo;rw[List.range_succ,Wce,Wbg];congr 1;by_cases h:leastB f k=true
 ·rw[if_pos h];simp[Wbo,h]
 ·rw[if_neg h];simp[Wbo,h]
theorem Zgf (f:Int->Int) (k:Nat):(facesTo f k).length<=k:=by
 unfold facesTo;rw[Wac];exact Wa8 (Wdg _ _) (by rw[Wbd];exact Waf _)
def MetTo (f:Int->Int) (k:Nat) (x:Int):Prop:=∃e:Nat,e<k/\x∈orb f (e:Int)
section
variable {f:Int->Int}{m:Nat}(F:OneOne f m)
include F
theorem Zd7 {k:Nat}(hk:k<m):MetTo f k (k:Int)↔leastB f k=false:=by
 unfold leastB;rw[decide_eq_false_iff_not];constructor
 ·rintro⟨e,he,hx⟩ h
  have:=h _<|Zcn F (by omega) (by omega) hx;omega
 ·intro h
  apply Classical.byContradiction;intro hn;refine h λx hx=>?_;have r:=Ziy F (by omega) (by omega) hx;apply Classical.byContradiction;intro hlt;refine hn ⟨x.toNat,by omega,?_⟩;rw[show ((x.toNat:Nat):Int)=x by omega];exact Zcn F (by omega) (by omega) hx
theorem Zkv {k:Nat}(hk:k<m) {x:Int}:MetTo f (k+1) x↔MetTo f k x\/(leastB f k=true/\x∈orb f (k:Int)):=by
 constructor
 ·rintro⟨e,he,hx⟩
  by_cases hek:e=k
  ·subst hek
   by_cases hl:leastB f e=true
   ·exact .inr ⟨hl,hx⟩
   ·obtain⟨e',he',hx'⟩:=(Zd7 F hk).mpr (Wcl.mpr hl)
    exact .inl ⟨e',he',Zcg F (by omega) (by omega) hx' hx⟩
  ·exact .inl ⟨e,by omega,hx⟩
 ·rintro(⟨e,he,hx⟩|⟨_,hx⟩)
  ·exact⟨e,by omega,hx⟩
  ·exact⟨k,by omega,hx⟩
theorem Zjz {k:Nat}(hk:k<=m) (z:Nat):Asc (Wae z []++facesTo f k):=by
 intro i a b ha hb;by_cases h1:i<z
 ·rw[Wa9 (by rw[Waq];exact h1),Wbm,if_pos h1]at ha
  cases ha;exact .inl rfl
 ·rw[Wav (by rw[Waq];omega),Waq]at ha hb
  rw[show i+1-z=i-z+1 by omega]at hb;unfold facesTo at ha hb;rw[Wah]at ha hb;cases qa:((Wak k).filter (leastB f))[i-z]? with
  |none=>rw[qa]at ha;cases ha
  |some ea=>
   cases qb:((Wak k).filter (leastB f))[i-z+1]? with
   |none=>rw[qb]at hb;cases hb
   |some eb=>
    rw[qa]at ha;rw[qb]at hb;have ha:orb f (ea:Int)=a:=by simpa using ha
    have hb:orb f (eb:Int)=b:=by simpa using hb
    subst ha hb;have ma:=(Wa0.mp<|Wax qa).1;have mb:=(Wa0.mp<|Wax qb).1;rw[Wa6]at ma mb;have hlt:ea<eb:=by
     have pw:((Wak k).filter (leastB f)).Pairwise (· < ·):=List.Pairwise.filter _ Wb6;obtain⟨p1,p2⟩:=Wag.mp qa;obtain⟨p3,p4⟩:=Wag.mp qb;have:=Wcn.mp pw (i-z) (i-z+1) p1 p3 (by omega);omega
    obtain⟨la,e1⟩:=Zh5 F (e:=(ea:Int)) (by omega) (by omega);obtain⟨lb,e2⟩:=Zh5 F (e:=(eb:Int)) (by omega) (by omega);exact .inr ⟨_,_,la,lb,e1,e2,by omega⟩
theorem Zm0 {x:Int}(h0:0<=x) (h1:x<(m:Int)):∃e:Nat,e<m/\leastB f e=true/\(e:Int)∈orb f x/\∀r∈facesTo f m,x∈r↔r=orb f (e:Int):=by
 obtain⟨y,hy,hle⟩:=Zhf (orb f x) (by obtain⟨l,e⟩:=Zh5 F h0 h1;rw[e];simp);have r:=Ziy F h0 h1 hy;have ey:((y.toNat:Nat):Int)=y:=by omega
 have hl:leastB f y.toNat=true:=by
  unfold leastB;rw[decide_eq_true_iff,ey];exact λz hz=>hle z<|Zcg F h0 h1 hy hz
 refine⟨y.toNat,by omega,hl,by rw[ey];exact hy,λq hq=>?_⟩;unfold facesTo at hq;obtain⟨e,he,rfl⟩:=Wbk.mp hq;rw[Wa0,Wa6]at he;rw[ey];constructor
 ·intro hx
  have h2:y∈orb f (e:Int):=Zcg F (by omega) (by omega) hx hy;have h3:(e:Int)∈orb f x:=Zcn F (by omega) (by omega) hx;have a:=hle _ h3;have b:(e:Int)<=y:=by
   have:=he.2;unfold leastB at this;exact of_decide_eq_true this y h2
  rw[show (e:Int)=y by omega]
 ·intro q
  rw[q];exact Zcn F h0 h1 hy
end
theorem Zqf {r:List Int}{x:Int}(h:x∈r):nextIn r x∈r:=by
 obtain⟨h1,_,_⟩:=Zfd h;have hm:(r.idxOf x+1) % r.length<r.length:=Wdr _ (by omega);unfold nextIn;rw[Wad,Waa hm];exact Wa4 hm
theorem Zqm {r:List Int}(nd:r.Nodup) {x y:Int}(hx:x∈r) (hy:y∈r) (h:nextIn r x=nextIn r y):x=y:=by
 obtain⟨i,hi⟩:=Wc1.mp hx;obtain⟨j,hj⟩:=Wc1.mp hy;obtain⟨i1,i2⟩:=Wag.mp hi;obtain⟨j1,j2⟩:=Wag.mp hj;rw[Zgb nd hi,Zgb nd hj,Wad,Wad]at h;have a:nxI r.length i<r.length:=by unfold nxI;split <;> omega
 have b:nxI r.length j<r.length:=by unfold nxI;split <;> omega
 rw[Waa a,Waa b]at h;have e:=(Wde nd).mp (show r[nxI r.length i]=r[nxI r.length j] from h);have:i=j:=by unfold nxI at e;split at e <;> split at e <;> omega
 subst this;rw[hi]at hj;exact Wa5.inj hj
theorem Za9 (e:Nat):partner (partner e)=e:=by unfold partner;split <;> split <;> omega
def onI (ts:List (Int × Int)) (o:List (List Int)) (x:Int):Int:=folOf ts o<|partner x.toNat
theorem Zex {n:Int}{ts:List (Int × Int)}{o:List (List Int)}(hW:WebOk n ts) (hO:OrdOk n ts o) {e:Nat}(he:e<2*ts.length):∃g:Nat,g<2*ts.length/\placeAt ts g=placeAt ts e/\(g:Int)=folOf ts o e:=by
 obtain⟨g1,g2,g3⟩:=Zdi hW hO he;exact g2.mem.mp<|Zqf g3
theorem Zjc {n:Int}{ts:List (Int × Int)}{o:List (List Int)}(hW:WebOk n ts) (hO:OrdOk n ts o):OneOne (onI ts o) (2*ts.length):=by
 refine⟨λx h0 h1=>?_,λx y h0 h1 h2 h3 q=>?_⟩
 ·obtain⟨g,hg,_,e⟩:=Zex hW hO (Zbx (show x.toNat<2*ts.length by omega))
  unfold onI;rw[<- e];omega
 ·have hx:=Zbx (show x.toNat<2*ts.length by omega)
  have hy:=Zbx (show y.toNat<2*ts.length by omega);obtain⟨g,hg,pg,eg⟩:=Zex hW hO hx;obtain⟨k,hk,pk,ek⟩:=Zex hW hO hy;unfold onI at q;have egk:g=k:=by omega
  subst egk;have hp:placeAt ts (partner x.toNat)=placeAt ts (partner y.toNat):=pg.symm.trans pk;obtain⟨_,r2,r3⟩:=Zdi hW hO hx;obtain⟨_,_,r6⟩:=Zdi hW hO hy;have er:rowAt ts o (partner y.toNat)=rowAt ts o (partner x.toNat):=by unfold rowAt;rw[hp]
  unfold folOf at q;rw[er]at q r6;have:=Zqm r2.nodup r3 r6 q;have e1:partner x.toNat=partner y.toNat:=by omega
  have e2:=congrArg partner e1;rw[Za9,Za9]at e2;omega
def lone (o:List (List Int)):Nat:=(o.filter λr=>r.isEmpty).length
theorem Zpf (o:List (List Int)):lone o<=o.length:=Wdg _ _
theorem Zn1 (o:List (List Int)) (p:D->Bool) (hp:∀r:List Int,p (rowD r)=r.isEmpty) (g:D->D) (hg:∀d,g d=.tup []):((o.map rowD).filter p).map g=(Wae (lone o) ([]:List Int)).map rowD:=by
 unfold lone
 induction o with
 |nil=>rfl
 |cons r o ih=>
  rw[Wbr,Wbo,Wbo,hp];cases h:r.isEmpty with
  |true=>simp only[if_true];rw[Wbr,Wa2,Wc3,Wbr,ih,hg];rfl
  |false=>simp only[Wa7,if_false];exact ih
def fLeastL:DSp:=λds Post=>∃ns:List Int,ds=[.lst (ns.map .int)]/\0<ns.length/\ns.length<=100/\∀m,m∈ns->(∀a∈ns,m<=a)->Post (rowD<|rotAt ns<|ns.idxOf m)
def fFaceOf:DSp:=λds Post=>∃n ts o,∃e:Nat,ds=[encWeb n ts,encOrd o,.int e]/\WebOk n ts/\OrdOk n ts o/\e<2*ts.length/\∀g:Nat,g<2*ts.length->leastB (onI ts o) g=true->(g:Int)∈orb (onI ts o) e->Post (rowD<|orb (onI ts o) g)
noncomputable def allF (ts:List (Int × Int)) (o:List (List Int)):List (List Int):=Wae (lone o) []++facesTo (onI ts o) (2*ts.length)
def fFaces:NSp:=λds Post=>∃n ts o,ds=[encWeb n ts,encOrd o]/\WebOk n ts/\OrdOk n ts o/\Post ((allF ts o).map rowD)
theorem Zpv {n:Int}{ts:List (Int × Int)}{o:List (List Int)}(hW:WebOk n ts) (hO:OrdOk n ts o):(allF ts o).length<=100:=by
 unfold allF;rw[Wao,Waq];have:=Zgf (onI ts o) (2*ts.length);have:=Zpf o;have:=hO.len;have:=hW.hi;have:=hW.len;omega
theorem Zqq {n:Int}{ts:List (Int × Int)}{o:List (List Int)}(hW:WebOk n ts) (hO:OrdOk n ts o):Asc (allF ts o):=Zjz (Zjc hW hO) (Waf _) _
section
variable {P:Program}{w:World}{K:W.Frag}{mg:Str->Option Value}{base:Heap}{f:Addr}{fd:FuncData}
theorem Zi7 (mb:Mb mg) (F:Fun K "least_first" "least_first" Ya5 f fd):FnOk P w K mg base CX0 1 f fd ["ends"] (spD K fLeastL):=by
 refine F.ok Ybo (Zbk λds Post h=>by obtain⟨_,rfl,_⟩:=h;rfl) λcdv A outer s H vs Q E hr h=>?_;have hu:=Zbn hr;refine⟨_,(Zae (Zdl (Zr3<|truK K (pv 0) λ_=>rfl) (Zai<|Zay (@Zam _ _ _ _ _ Zab)) Zbi)<|Zae (Zan (i:=1) Ybo.nd rfl (Or.inl rfl)<|bmK K PySem.F.plainAttrs_list PySem.F.slot_list_index PySem.F.type_list_index (idxLK K) (pv 0)<|Zaa (Zaj (minK K rfl) rfl (mb "min"<|by decide) Zn7<|Zaa (pv 0) Zab) Zab)<|Zai<|Zay<|Zde (tupK K) rfl (mb "tuple"<|by decide) Zd9<|Zaa (Zaw (addK K) (Zef (slK K) (pv 0) (Zfk<|pv 1) Zf1)<|Zef (slK K) (pv 0) Zf1<|Zfk<|pv 1) Zab),Zdj (λds Post hf=>?_) h⟩;obtain⟨ns,rfl,hp,hl,q⟩:=hf;refine⟨by simp,?_⟩;dsimp only[startD,Wbf,Wbh,Wa1];obtain⟨m,hm,hle⟩:=Zhf ns<|List.length_pos_iff.mp hp;obtain⟨i1,i2,i3⟩:=Zfd hm;refine Zaq<|Zer<|Zm7<|Zfi<|Zad rfl ⟨true,?_,?_⟩
 ·cases ns with
  |nil=>simp at hp
  |cons x t=>rfl
 refine iteF<|Zb9 ?_;refine Zaq<|Zax<|Zo5<|Zad rfl ⟨ns,rfl,by omega,Zb1<|Zac<|Zad rfl<|Zag<|Zsg (Or.inl rfl) hm hle ⟨m,rfl,hm,?_⟩⟩;have hj:ns.idxOf m<=(ns.map D.int).length:=by rw[Wac];omega
 refine Zbp<|Zb1<|Zac<|Zas<|Ztn<|Zad rfl<|Zf7<|Zad rfl ⟨_,rfl,Zfh ⟨.lst ((ns.map D.int).drop (ns.idxOf m)),?_,?_⟩⟩
 ·show some (D.lst<|cutD (ns.map D.int) (some ((ns.idxOf m:Nat):Int)) none)=_
  rw[Zkj _ hj]
 refine Ztn<|Zad rfl<|Zfh<|Zf7<|Zad rfl ⟨_,rfl,.lst ((ns.map D.int).take (ns.idxOf m)),?_,?_⟩
 ·show some (D.lst<|cutD (ns.map D.int) none<|some ((ns.idxOf m:Nat):Int))=_
  rw[Zrr _ hj]
 refine Zd2 ?_<|Zag<|Zfq (Or.inl rfl) ?_
 ·rw[Wcq,Wbu,Wac]
  exact Wb8 (small1000<|by omega)
 have q':=q m hm hle;unfold rowD rotAt at q';rw[Wbg,List.map_drop,List.map_take]at q';exact q'
theorem Zg5 (mb:Mb mg) (C53:Callee P w K mg base 3 "onward" ["web","order","end"] (spD K fOnw)) (C52:Callee P w K mg base 1 "least_first" ["ends"] (spD K fLeastL)) (F:Fun K "face_of" "face_of" Ya8 f fd):FnOk P w K mg base CX0 4 f fd ["web","order","end"] (spD K fFaceOf):=by
 refine F.ok Yay (Zbk λds Post h=>by obtain⟨_,_,_,_,rfl,_⟩:=h;rfl) λcdv A outer s H vs Q E hr h=>?_;have hu:=Zbn hr;refine⟨_,(Zae (Zan (i:=3) Yay.nd rfl (Or.inl rfl)<|Zcq<|Zaa (pv 2) Zab)<|Zae (Zan (i:=4) Yay.nd rfl (Or.inl rfl)<|Za1 C53 (hr.mono<|by decide)<|Zaa (pv 0)<|Zaa (pv 1)<|Zaa (pv 2) Zab)<|Zae (Zid PassesOwn.never (Za0 Zrm (pv 4) (pv 2)<|nomark _)<|Zae (Zcb<|bmK K PySem.F.plainAttrs_list PySem.F.slot_list_append PySem.F.type_list_append Zbc (pv 3)<|Zaa (pv 4) Zab)<|Zai<|Zan (i:=4) Yay.nd rfl (Or.inl rfl)<|Za1 C53 (hr.mono<|by decide)<|Zaa (pv 0)<|Zaa (pv 1)<|Zaa (pv 4) Zab)<|Zai<|Zay<|Za1 C52 (hr.mono<|by decide)<|Zaa (pv 3) Zab),Zdj (λds Post hf=>?_) h⟩;obtain⟨n,ts,o,e,rfl,hW,hO,he,q⟩:=hf;refine⟨by simp,?_⟩;dsimp only[startD,Wbf,Wbh,Wa1,Wae];have O:=Zjc hW hO;have hw:=hW.len;have h0:(0:Int)<=(e:Int):=by omega
 have h1:(e:Int)<((2*ts.length:Nat):Int):=by omega
 have onw:∀j:Nat,folOf ts o (partner (iter (onI ts o) e j).toNat)=iter (onI ts o) e (j+1):=λj=>rfl;refine Zaq<|Zcp<|Zgr<|Zac<|Zad rfl<|Zag ⟨by show 1<=sizeLine;decide,?_⟩;refine Zaq<|Zax<|Zaz<|Zac<|Zad rfl<|Zac<|Zad rfl<|Zac<|Zad rfl<|Zag ⟨n,ts,o,e,rfl,hW,hO,he,?_⟩;refine Zbb (λΔ=>∃k:Nat,IsOrb (onI ts o) e k /\ Δ = [.val (encWeb n ts),.val (encOrd o),.val (.int e),.own (.lst ((walkL (onI ts o) e k).map .int)),.val (.int<|iter (onI ts o) e k)]) ?_ ?_
 ·refine Zic (fun μ Δ=>∃k:Nat,1<=k/\NdTo (onI ts o) e k /\ μ = 2*ts.length-k /\ Δ = [.val (encWeb n ts),.val (encOrd o),.val (.int e),.own (.lst ((walkL (onI ts o) e k).map .int)),.val (.int<|iter (onI ts o) e k)]) ⟨_,1,Waf _,Zr2 O h0 h1,rfl,rfl⟩ ?_
  rintro μ Δ1 ⟨k,hk,nd,rfl,rfl⟩;have hkm:=Zpc O h0 h1 nd;refine Zbg<|Zas<|Zad rfl<|Zad rfl<|Zs7 ⟨_,rfl,?_⟩;by_cases hb:iter (onI ts o) e k=e
  ·rw[decide_eq_true hb]
   exact iteF ⟨k,⟨by omega,hb,nd⟩,rfl⟩
  ·rw[decide_eq_false hb]
   have nd2:=Zmx O h0 h1 hk nd hb;have hkm2:=Zpc O h0 h1 nd2;have r:=Zcj O h0 h1 k;refine iteT<|Zaq<|Zdy rfl rfl<|Zad rfl ⟨_,_,rfl,rfl,?_,?_⟩
   ·rw[Wac,Zcs];exact small1000 (by omega)
   refine Zax<|Zaz<|Zac<|Zad rfl<|Zac<|Zad rfl<|Zac<|Zad rfl<|Zag ⟨n,ts,o,(iter (onI ts o) e k).toNat,?_,hW,hO,by omega,?_⟩
   ·rw[show (((iter (onI ts o) e k).toNat:Nat):Int)=iter (onI ts o) e k by omega]
   refine⟨2*ts.length-(k+1),by omega,k+1,by omega,nd2,rfl,?_⟩;rw[Zl8,Wbg];rfl
 rintro Δ1 ⟨k,O1,rfl⟩;have hkm:=Zpc O h0 h1 O1.nd;refine Zbp<|Zaz<|Zac<|Zhi rfl<|Zag ⟨walkL (onI ts o) e k,rfl,?_,?_,λx hx hle=>?_⟩
 ·rw[Zcs];exact O1.pos
 ·rw[Zcs];omega
 ·have eo:=O1.orb
  rw[<- eo]at hx hle ⊢;have rx:=Ziy O h0 h1 hx;obtain⟨j,hj,ej⟩:=Za2.mp hx;have ei:(orb (onI ts o) e).idxOf x=j:=Zrf (Zol O h0 h1) (by rw[<- ej];exact Zn9 hj);rw[ei,Zs1 O h0 h1 hj,ej];have ex:((x.toNat:Nat):Int)=x:=by omega
  have:=q x.toNat (by omega) (by
   unfold leastB;rw[decide_eq_true_iff,ex];exact λz hz=>hle z (Zcg O h0 h1 hx hz)) (by rw[ex];exact hx)
  rw[ex]at this;exact this
theorem Zkx (mb:Mb mg) (C46:Callee P w K mg base 4 "face_of" ["web","order","end"] (spD K fFaceOf)) (F:Fun K "faces" "faces" Yar f fd):FnOk P w K mg base CX0 5 f fd ["web","order"] (spN K fFaces):=by
 refine F.ok Yai (Zeo λds Post h=>by obtain⟨_,_,_,rfl,_⟩:=h;rfl) λcdv A outer s H vs Q E hr h=>?_;have hu:=Zbn hr;have hv:=Ztw hr;refine⟨_,(Zae (Zqh (i:=2) ["row"] (show CompSc (defScope Yar) ["web","order","told","gone","end","face","come"] _ [] [] from ⟨rfl,by decide +kernel,by decide +kernel,by decide +kernel,rfl,by decide +kernel⟩) rfl Yai.nd rfl (Or.inl rfl) (seqK K<|pv 1) (λ_ _ _ _ _=>(Zar (i:=0) (show List.Nodup (["row"]:List Str) from by decide) rfl<|Or.inl rfl)) (λ_ _ _ _ _=>(Zfo<|Zr3<|truK K (pv 0) λ_=>rfl)) λ_ _ _ _ _=>(@Zam _ _ _ _ _ Zab))<|Zae (Zan (i:=3) Yai.nd rfl (Or.inl rfl)<|Zla Zoo rfl (mb "set"<|by decide) Zry)<|Zae (Zc1 PassesOwn.never rfl (Za8 rfl (mb "range"<|by decide)<|Zaa (Zaw Zdo Zaf<|Zaj (lenK K) rfl (mb "len"<|by decide) Zb4<|Zaa (Zbv (ixK K hu) (pv 0) Zaf λ_ _=>rfl) Zab) Zab) (Zar (i:=4) Yai.nd rfl<|Or.inl rfl)<|Zai<|Zdl (Za0 (notinK K hu) (pv 4) (pv 3) rfl) (Zae (Zan (i:=5) Yai.nd rfl (Or.inl rfl)<|Za1 C46 (hr.mono<|by decide)<|Zaa (pv 0)<|Zaa (pv 1)<|Zaa (pv 4) Zab)<|Zae (Zcb<|bmK K PySem.F.plainAttrs_list PySem.F.slot_list_append PySem.F.type_list_append Zbc (pv 2)<|Zaa (pv 5) Zab)<|Zai<|Zc1 PassesOwn.never rfl (seqK K<|pv 5) (Zar (i:=6) Yai.nd rfl<|Or.inl rfl)<|Zai<|Zcb<|bmK K PySem.F.plainAttrs_set PySem.F.slot_set_add PySem.F.type_set_add Zsx (pv 3)<|Zaa (pv 6) Zab) Zbi)<|Zai<|Zay<|Zaj (sortRK K hv) rfl (mb "sorted"<|by decide) Zi8<|Zaa (pv 2) Zab),Zma (λds Post hf=>?_) h⟩;obtain⟨n,ts,o,rfl,hW,hO,q⟩:=hf;refine⟨by simp,?_⟩;dsimp only[startD,Wbf,Wbh,Wa1,Wae];have O:=Zjc hW hO;have hw:=hW.len;have hn:=hW.hi;have ho:=hO.len;have hlone:=Zpf o;refine Zaq<|Zcp<|Zfb (by decide)<|Zjg<|Zad rfl ⟨_,rfl,?_,λd=>match d with|.tup ds=>ds.isEmpty|_=>false,λ_=>.tup [],λi d hd=>?_,?_⟩
 ·rw[Wac];exact small1000 (by omega)
 ·rw[Wah]at hd
  cases z:o[i]? with
  |none=>rw[z]at hd;cases hd
  |some r=>
   rw[z]at hd;have hd:encRow r=d:=by simpa using hd
   subst hd;refine Zm7<|Zfi<|Zad rfl ⟨_,rfl,?_,?_⟩
   ·cases r <;> rfl
   ·cases r with
    |nil=>exact iteT (Zb7 (Zag ⟨by decide,rfl,_,rfl⟩))
    |cons x t=>exact iteF ⟨_,rfl⟩
 rw[show o.map encRow=o.map rowD from rfl,Zn1 o _ (λr=>by cases r <;> rfl) _ λ_=>rfl]
 refine Zaq<|Zcp<|Zt2 ?_;refine Zbb (λΔ=>∃(S:Int->Bool) (c:Nat) (x4 x5 x6:L2.Slot),Δ = [.val (encWeb n ts),.val (encOrd o),.own (.lst ((allF ts o).map rowD)),.own (.set S c),x4,x5,x6]) ?_ ?_
 ·refine Zdd (Zba ?_)
  refine Zac<|Zas<|Zao<|Zb1 ?_;refine Zac<|Zas<|Zad rfl<|Zao<|Zca (d:=.tup<|ts.map encTie) rfl ?_;refine Zag<|Zbo (Or.inr rfl) ?_;rw[Wac];refine jr_I (Or.inl ⟨by omega,by omega⟩)<|Zag ⟨_,rfl,by omega,by omega,?_⟩;have eL:((2:Int)*(ts.length:Int)).toNat=2*ts.length:=by omega
  rw[eL];refine⟨λk Δ=>∃(S:Int->Bool) (c:Nat) (x4 x5 x6:L2.Slot),(∀x,S x=true↔MetTo (onI ts o) k x)/\c<=48*k /\ Δ = [.val (encWeb n ts),.val (encOrd o),.own (.lst ((Wae (lone o) []++facesTo (onI ts o) k).map rowD)),.own (.set S c),x4,x5,x6],⟨λ_=>false,0,.any,.any,.any,λx=>?_,by omega,?_⟩,?_,?_⟩
  ·constructor
   ·intro z;cases z
   ·rintro⟨e,he,_⟩;omega
  ·rw[show facesTo (onI ts o) 0=[] from rfl,Wbb];rfl
  ·rintro k d Δ2 hd ⟨S,c,x4,x5,x6,hS,hc,rfl⟩
   obtain⟨hk,rfl⟩:=Za6 hd;rw[Wbj];have fl:=Zgf (onI ts o) k;refine Zbh<|Zer<|Zbg<|Zul<|Zad rfl ⟨_,S,c,_,rfl,rfl,rfl,_,rfl,?_⟩;by_cases hm:S (k:Int)=true
   ·rw[hm]
    refine iteF<|Zb9 ⟨S,c,.val (.int (k:Int)),x5,x6,λx=>?_,by omega,?_⟩
    ·have hl:=(Zd7 O hk).mp ((hS _).mp hm)
     rw[hS,Zkv O hk,hl];simp
    ·have hl:=(Zd7 O hk).mp ((hS _).mp hm)
     rw[Zey,if_neg (by rw[hl];exact Wal),Wbb];rfl
   ·have hl:leastB (onI ts o) k=true:=by
     cases z:leastB (onI ts o) k with
     |true=>rfl
     |false=>exact absurd ((hS _).mpr ((Zd7 O hk).mpr z)) hm
    rw[Wcl.mpr hm];have ol:=Ztc O (e:=(k:Int)) (by omega) (by omega);refine iteT<|Zaq<|Zax<|Zaz<|Zac<|Zad rfl<|Zac<|Zad rfl<|Zac<|Zad rfl<|Zag ⟨n,ts,o,k,rfl,hW,hO,hk,λg hg hlg hin=>?_⟩;have egk:g=k:=by
     have a:=of_decide_eq_true (show decide (∀x∈orb (onI ts o) (k:Int),(k:Int)<=x)=true from hl) _ hin;have b:=of_decide_eq_true (show decide (∀x∈orb (onI ts o) (g:Int),(g:Int)<=x)=true from hlg) _<|Zcn O (by omega) (by omega) hin;omega
    subst egk;refine Zaq<|Zdy rfl rfl<|Zad rfl ⟨_,_,rfl,rfl,?_,?_⟩
    ·rw[Wac,Wao,Waq];exact small1000 (by omega)
    refine Zdd<|Zjg<|Zad rfl ⟨_,rfl,λi Δ=>∃(S2:Int->Bool) (c2:Nat) (x6:L2.Slot),(∀x,S2 x=true↔MetTo (onI ts o) g x\/x∈(orb (onI ts o) (g:Int)).take i)/\c2<=48*g+i /\ Δ = [.val (encWeb n ts),.val (encOrd o),.own (.lst ((Wae (lone o) []++facesTo (onI ts o) g).map rowD++[rowD (orb (onI ts o) (g:Int))])),.own (.set S2 c2),.val (.int (g:Int)),.val (rowD<|orb (onI ts o) (g:Int)),x6],⟨S,c,_,λx=>by rw[Wc7];simp[hS],by omega,rfl⟩,?_,?_⟩
    ·rintro i d Δ3 hd ⟨S2,c2,x6,hS2,hc2,rfl⟩
     rw[Wah]at hd;cases z:(orb (onI ts o) (g:Int))[i]? with
     |none=>rw[z]at hd;cases hd
     |some y=>
      rw[z]at hd;have hd:D.int y=d:=by simpa using hd
      subst hd;have hi:=(Wag.mp z).1;refine Zbh<|Ztx rfl rfl<|Zad rfl ⟨_,S2,c2,y,rfl,rfl,rfl,by omega,_,_,_,λx=>?_,?_,rfl⟩
      ·rw[Wbw,z]
       simp only[Bool.or_eq_true,decide_eq_true_eq,hS2,Option.toList_some,Wbn,Wbi];exact or_assoc
      ·split <;> omega
    ·rintro Δ3 ⟨S2,c2,x6,hS2,hc2,rfl⟩
     rw[Wac]at hS2 hc2;rw[Wbx]at hS2;refine⟨S2,c2,.val (.int (g:Int)),.val<|rowD<|orb (onI ts o) (g:Int),x6,λx=>?_,by omega,?_⟩
     ·rw[hS2,Zkv O hk,hl];simp
     ·rw[Zey,if_pos hl,<- Wck,Wbg (l₂:=[orb (onI ts o) (g:Int)])]
      rfl
  ·rintro Δ2 ⟨S,c,x4,x5,x6,hS,hc,rfl⟩
   rw[Za7];exact⟨S,c,_,_,_,rfl⟩
 rintro Δ1 ⟨S,c,x4,x5,x6,rfl⟩;have al:=Zpv hW hO;exact Zen<|Zqn<|Zac<|Zhi rfl<|Zag ⟨_,rfl,by omega,Zqq hW hO,_,rfl,q⟩
end
def loI (a b:Int):Int:=if b<a then b else a
def hiI (a b:Int):Int:=if b > a then b else a
def mergeL (l:List Int) (a b:Int):List Int:=l.map λf=>if f=hiI (l.getD a.toNat 0) (l.getD b.toNat 0) then loI (l.getD a.toNat 0) (l.getD b.toNat 0) else f
def marksL (n:Nat) (ts:List (Int × Int)):List Int:=ts.foldl (λl t=>mergeL l t.1 t.2) ((Wak n).map λi:Nat=>(i:Int))
theorem Zg0 (l:List Int) (a b:Int):(mergeL l a b).length=l.length:=by unfold mergeL;rw[Wac]
theorem Zbz (n:Nat) (ts:List (Int × Int)):(marksL n ts).length=n:=by
 unfold marksL;have:∀(ts:List (Int × Int)) (l:List Int),(ts.foldl (λl t=>mergeL l t.1 t.2) l).length=l.length:=by
  intro ts
  induction ts with
  |nil=>intro l;rfl
  |cons t ts ih=>intro l;rw[List.foldl_cons,ih,Zg0]
 rw[this,Wac,Wbd]
theorem Zda {n:Nat}{ts:List (Int × Int)}{i:Nat}{t:Int × Int}(h:ts[i]?=some t):marksL n (ts.take<|i+1)=mergeL (marksL n<|ts.take i) t.1 t.2:=by
 unfold marksL;rw[Wbw,h,List.foldl_append];rfl
def Firsts (ms l:List Int):Prop:=ms.Pairwise (· < ·)/\∀x,x∈ms↔x∈l
theorem Zbj:∀{ms ms':List Int},ms.Pairwise (· < ·)->ms'.Pairwise (· < ·)->(∀x,x∈ms↔x∈ms')->ms=ms'
 |[],[],_,_,_=>rfl
 |[],y::l',_,_,h=>by have:=(h y).mpr (by simp);simp at this
 |x::l,[],_,_,h=>by have:=(h x).mp (by simp);simp at this
 |x::l,y::l',h1,h2,h=>by
  rw[Wdq]at h1 h2;have exy:x=y:=by
   have a:=(h x).mp (by simp);have b:=(h y).mpr (by simp);rcases War.mp a with z|z
   ·exact z
   ·rcases War.mp b with z'|z'
    ·exact z'.symm
    ·have:=h1.1 _ z'
     have:=h2.1 _ z;omega
  subst exy;rw[Zbj h1.2 h2.2 λz=>?_];constructor
  ·intro hz
   have:=h1.1 _ hz;rcases War.mp ((h z).mp (Way _ hz)) with q|q
   ·omega
   ·exact q
  ·intro hz
   have:=h2.1 _ hz;rcases War.mp ((h z).mpr (Way _ hz)) with q|q
   ·omega
   ·exact q
theorem Firsts.uniq {ms ms' l:List Int}(h:Firsts ms l) (h':Firsts ms' l):ms=ms':=Zbj h.1 h'.1 λx=>(h.2 x).trans (h'.2 x).symm
theorem Zg9:∀{ms l:List Int},ms.Nodup->(∀x∈ms,x∈l)->ms.length<=l.length
 |[],_,_,_=>by simp
 |x::ms,l,h1,h2=>by
  rw[Wcg]at h1;have hx:=h2 x (by simp);have:=Zg9 (ms:=ms) (l:=l.erase x) h1.2 λy hy=>(List.mem_erase_of_ne λz:y=x=>h1.1 (z ▸ hy)).mpr (h2 y (by simp[hy]));rw[Wc8 hx]at this;have:=Wcd hx;rw[Wa2];omega
theorem Firsts.len {ms l:List Int}(h:Firsts ms l):ms.length<=l.length:=Zg9 (h.1.imp λz=>Int.ne_of_lt z) λx hx=>(h.2 x).mp hx
def partI (l:List Int) (n:Nat) (f:Int):List Int:=((Wak n).map λi:Nat=>(i:Int)).filter λp=>decide (l.getD p.toNat 0=f)
def lstI (r:List Int):D:=.lst<|r.map .int
def partsL (n:Nat) (ts:List (Int × Int)) (ms:List Int):List (List Int):=ms.map<|partI (marksL n ts) n
def fParts:NSp:=λds Post=>∃n ts,ds=[encWeb n ts]/\WebOk n ts/\∀ms,Firsts ms (marksL n.toNat ts)->Post ((partsL n.toNat ts ms).map lstI)
theorem Zwa (l:List Int) (n:Nat) (f:Int) (p:D->Bool) (hp:∀i:Int,p (.int i)=decide (l.getD i.toNat 0=f)) (g:D->D) (hg:∀d,g d=d):D.lst (((rngD 0 n).filter p).map g)=lstI (partI l n f):=by
 have e1:rngD 0 n=((Wak n).map λi:Nat=>(i:Int)).map D.int:=by
  unfold rngD;rw[Wba];apply Wbq;intro i _;show D.int (0+(i:Int))=D.int (i:Int);rw[Wbj]
 unfold lstI partI;rw[e1,Wdi,show g=id from funext hg,List.map_id];have e2:(p∘D.int)=λq:Int=>decide (l.getD q.toNat 0=f):=funext hp;rw[e2]
theorem Zs2 {n:Nat}{l ms:List Int}(q:D->Bool) (hq:∀d,q d=true) (g:D->D) (hg:∀f:Int,g (.int f)=lstI (partI l n f)):((ms.map D.int).filter q).map g=(ms.map<|partI l n).map lstI:=by
 rw[Wb0.mpr (λd _=>hq d),Wba,Wba];apply Wbq;intro f _;exact hg f
section
variable {P:Program}{w:World}{K:W.Frag}{mg:Str->Option Value}{base:Heap}{f:Addr}{fd:FuncData}
theorem Zha {l:List Int}{x:Int}{n:Nat}(hl:l.length=n) (h0:0<=x) (h1:x<(n:Int)):atI (l.map D.int) x=some (.int<|l.getD x.toNat 0):=by
 rw[show x=((x.toNat:Nat):Int) by omega];refine Zdn ?_;rw[Wah,Wad,Waj,Waa (by omega:x.toNat<l.length)];rfl
theorem Zfz (mb:Mb mg) (F:Fun K "parts_of" "parts_of" Yag f fd):FnOk P w K mg base CX0 1 f fd ["web"] (spN K fParts):=by
 refine F.ok Yac (Zeo λds Post h=>by obtain⟨_,_,rfl,_⟩:=h;rfl) λcdv A outer s H vs Q E hr h=>?_;have hu:=Zbn hr;have hv:=Ztw hr;refine⟨_,(Zae (Zf6 (pv 0)<|gtupK (n:=2) K rfl<|Zbq (Zar (i:=1) Yac.nd rfl<|Or.inr rfl)<|Zbq (Zar (i:=2) Yac.nd rfl<|Or.inl rfl) Zet)<|Zae (Zan (i:=3) Yac.nd rfl (Or.inr rfl)<|Zi4 rfl rfl (mb "list"<|by decide) rfl (mb "range"<|by decide)<|Zaa (pv 1) Zab)<|Zae (Zc1 PassesOwn.never rfl (seqK K<|pv 2) (gtupK (n:=2) K rfl<|Zbq (Zar (i:=4) Yac.nd rfl<|Or.inl rfl)<|Zbq (Zar (i:=5) Yac.nd rfl<|Or.inl rfl) Zet)<|Zae (Zan (i:=6) Yac.nd rfl (Or.inr rfl)<|Zaj (Zil rfl) rfl (mb "min"<|by decide) Zn7<|Zaa (Zbv (ixK K hu) (pv 3) (pv 4) λ_ _=>rfl)<|Zaa (Zbv (ixK K hu) (pv 3) (pv 5) λ_ _=>rfl) Zab)<|Zae (Zan (i:=7) Yac.nd rfl (Or.inr rfl)<|Zaj (Znw rfl) rfl (mb "max"<|by decide) Zvw<|Zaa (Zbv (ixK K hu) (pv 3) (pv 4) λ_ _=>rfl)<|Zaa (Zbv (ixK K hu) (pv 3) (pv 5) λ_ _=>rfl) Zab)<|Zai<|Zan (i:=3) Yac.nd rfl (Or.inr rfl)<|Zcc ["first"] (show CompSc (defScope Yag) ["web","many","ties","firsts","a","b","low","high"] _ ["low","high"] [6,7] from ⟨rfl,by decide +kernel,by decide +kernel,by decide +kernel,rfl,by decide +kernel⟩) rfl (seqK K<|pv 3) (λ_ _ _ _ _=>(Zar (i:=0) (show List.Nodup (["first","low","high"]:List Str) from by decide) rfl<|Or.inl rfl)) (λ_ _ _ _ _=>Zdk) λ_ _ _ _ _=>(Zp8 (Za0 Zc3 (pv 0) (pv 2)<|nomark _) (pv 1)<|pv 0))<|Zai<|Zay<|Zn0 ["first"] (show CompScK (defScope Yag) ["web","many","ties","firsts","a","b","low","high"] "first" _ ["many","firsts"] [1,3] from ⟨rfl,by decide +kernel,by decide +kernel,by decide +kernel,by decide +kernel,rfl,by decide +kernel⟩) rfl (seqK K<|Zl6 rfl rfl rfl (mb "sorted"<|by decide) rfl (mb "set"<|by decide)<|Zaa (pv 3) Zab) (λ_ _ _ _ _=>(Zar (i:=0) (show List.Nodup (["first","many","firsts"]:List Str) from by decide) rfl<|Or.inr rfl)) (λ_ _ _ _ _=>Zdk) λ_ _ _ _ _=>(Zcc ["place"] (show CompSc (relab (defScope Yag) _) ["first","many","firsts"] _ ["first","firsts"] [0,2] from ⟨rfl,by decide +kernel,by decide +kernel,by decide +kernel,rfl,by decide +kernel⟩) rfl (Za8 rfl (mb "range"<|by decide)<|Zaa (pv 1) Zab) (λ_ _ _ _ _=>(Zar (i:=0) (show List.Nodup (["place","first","firsts"]:List Str) from by decide) rfl<|Or.inl rfl)) (λ_ _ _ _ _=>(Zfo<|Za0 Zc3 (Zbv (ixK K hu) (pv 2) (pv 0) λ_ _=>rfl) (pv 1)<|nomark _)) λ_ _ _ _ _=>(pv 0))),Zma (λds Post hf=>?_) h⟩;obtain⟨n,ts,rfl,hW,q⟩:=hf;refine⟨by simp,?_⟩;dsimp only[startD,Wbf,Wbh,Wa1,Wae];have hn0:=hW.lo;have hn1:=hW.hi;have hts:=hW.len;obtain⟨N,rfl⟩:∃N:Nat,n=(N:Int):=⟨n.toNat,by omega⟩;rw[Waj]at q;refine Zaq<|Zku<|Zad rfl<|Zie rfl<|Zcd<|Zbh<|Zcd<|Zbh<|Zf0 ?_;refine Zaq<|Zax<|Zbt<|Zwu<|Zac<|Zad rfl<|Zag ⟨N,rfl,by omega,_,rfl,?_⟩;have e0:(Wak N).map (λi:Nat=>D.int (i:Int))=(marksL N<|ts.take 0).map D.int:=by
  show _=((Wak N).map λi:Nat=>(i:Int)).map D.int;rw[Wba];rfl
 rw[e0];refine Zbb (λΔ=>∃(x4 x5 x6 x7:L2.Slot),Δ = [.val (encWeb (N:Int) ts),.val (.int (N:Int)),.val (.tup<|ts.map encTie),.val (.lst ((marksL N ts).map D.int)),x4,x5,x6,x7]) ?_ ?_
 ·refine Zdd (Zjg<|Zad rfl ⟨_,rfl,λi Δ=>∃(x4 x5 x6 x7:L2.Slot),Δ = [.val (encWeb (N:Int) ts),.val (.int (N:Int)),.val (.tup<|ts.map encTie),.val (.lst ((marksL N<|ts.take i).map D.int)),x4,x5,x6,x7],⟨_,_,_,_,rfl⟩,?_,?_⟩)
  ·rintro i d Δ2 hd ⟨x4,x5,x6,x7,rfl⟩
   rw[Wah]at hd;cases z:ts[i]? with
   |none=>rw[z]at hd;cases hd
   |some t=>
    rw[z]at hd;have hd:encTie t=d:=by simpa using hd
    subst hd;have ht:=hW.tie t<|Wax z;have hl:=Zbz N<|ts.take i;have hs:=Zda (n:=N) z;obtain⟨l,el⟩:∃l,marksL N (ts.take i)=l:=⟨_,rfl⟩;rw[el]at hl hs ⊢;have a1:=Zha hl ht.1 ht.2.1;have a2:=Zha hl ht.2.2.1 ht.2.2.2;refine Zie rfl<|Zcd<|Zbh<|Zcd<|Zbh<|Zf0 ?_;refine Zaq<|Zax<|Zb1<|Zac<|Zas<|Zad rfl<|Zad rfl<|Zci a1<|Zac<|Zas<|Zad rfl<|Zad rfl<|Zci a2<|Zag<|Zj7 ?_;refine Zaq<|Zax<|Zb1<|Zac<|Zas<|Zad rfl<|Zad rfl<|Zci a1<|Zac<|Zas<|Zad rfl<|Zad rfl<|Zci a2<|Zag<|Zj7 ?_;refine Zax<|Zcv (by decide)<|Ze0<|Zad rfl ⟨_,Or.inl rfl,?_,λ_=>true,λd=>match d with|.int g=>.int (if g=hiI (l.getD t.1.toNat 0) (l.getD t.2.toNat 0) then loI (l.getD t.1.toNat 0) (l.getD t.2.toNat 0) else g)|d=>d,λj d hd=>?_,?_⟩
    ·rw[Wac];exact small1000 (by omega)
    ·rw[Wah]at hd
     cases zz:l[j]? with
     |none=>rw[zz]at hd;cases hd
     |some g=>
      rw[zz]at hd;have hd:D.int g=d:=by simpa using hd
      subst hd;refine Zdm ⟨rfl,Zqs<|Zbg<|Zas<|Zad rfl<|Zad rfl<|Zgn ⟨_,rfl,?_⟩⟩;show if decide (g=hiI (l.getD t.1.toNat 0) (l.getD t.2.toNat 0))=true then _ else _
      by_cases hg:g=hiI (l.getD t.1.toNat 0) (l.getD t.2.toNat 0)
      ·rw[decide_eq_true hg]
       refine iteT<|Zad rfl ⟨?_,_,rfl⟩;dsimp only;rw[if_pos hg];rfl
      ·rw[decide_eq_false hg]
       refine iteF<|Zad rfl ⟨?_,_,rfl⟩;dsimp only;rw[if_neg hg]
    ·have e1:((l.map D.int).filter λ_=>true).map (λd=>match d with|.int g=>D.int (if g=hiI (l.getD t.1.toNat 0) (l.getD t.2.toNat 0) then loI (l.getD t.1.toNat 0) (l.getD t.2.toNat 0) else g)|d=>d)=(marksL N<|ts.take<|i+1).map D.int:=by
      rw[hs,Wb0.mpr (by simp),Wba];unfold mergeL;rw[Wba];rfl
     rw[e1];exact⟨_,_,_,_,rfl⟩
  ·rintro Δ2 ⟨x4,x5,x6,x7,rfl⟩
   rw[Wac,Wbx];exact⟨_,_,_,_,rfl⟩
 rintro Δ1 ⟨x4,x5,x6,x7,rfl⟩;have hl:=Zbz N ts;refine Zen<|Zfb (by decide)<|Ze0<|Zbt<|Zwq<|Zac<|Zad rfl<|Zag ⟨_,rfl,by omega,λms m1 m2=>⟨_,rfl,_,Or.inl rfl,?_,λ_=>true,λd=>match d with|.int g=>lstI (partI (marksL N ts) N g)|d=>d,λi d hd=>?_,?_⟩⟩
 ·have:=Firsts.len ⟨m1,m2⟩
  rw[Wac];exact small1000 (by omega)
 ·rw[Wah]at hd
  cases zz:ms[i]? with
  |none=>rw[zz]at hd;cases hd
  |some g=>
   rw[zz]at hd;have hd:D.int g=d:=by simpa using hd
   subst hd;refine Zdm ⟨rfl,Zcv (by decide)<|Zba<|Zac<|Zad rfl<|Zag ⟨_,rfl,by omega,by omega,?_,λd=>match d with|.int p=>decide ((marksL N ts).getD p.toNat 0=g)|_=>false,λd=>d,λj d hd=>?_,?_⟩⟩
   ·rw[Za7];exact small1000 (by omega)
   ·obtain⟨hj,rfl⟩:=Za6 hd
    refine Zbg<|Zas<|Zas<|Zad rfl<|Zad rfl<|Zci (Zha hl (by omega)<|by omega)<|Zad rfl<|Zgn ⟨_,rfl,rfl,?_⟩;split
    ·exact Zad rfl ⟨rfl,_,rfl⟩
    ·exact⟨_,rfl⟩
   ·refine⟨?_,_,rfl⟩
    rw[Waj];exact Zwa _ _ _ _ (λ_=>rfl) _ λ_=>rfl
 ·refine⟨_,rfl,?_⟩
  rw[Zs2 (l:=marksL N ts) (n:=N) _ (λ_=>rfl) _ λ_=>rfl];exact q ms ⟨m1,m2⟩
end
noncomputable def holesI (n:Int) (ts:List (Int × Int)) (o:List (List Int)) (ms:List Int):Int:=(2*(ms.length:Int)-n+(ts.length:Int)-((allF ts o).length:Int)) / 2
def fHoles:DSp:=λds Post=>∃n ts o,ds=[encWeb n ts,encOrd o]/\WebOk n ts/\OrdOk n ts o/\∀ms,Firsts ms (marksL n.toNat ts)->Post (.int<|holesI n ts o ms)
section
variable {P:Program}{w:World}{K:W.Frag}{mg:Str->Option Value}{base:Heap}{f:Addr}{fd:FuncData}
def fLack:DSp:=λds Post=>∃n ts,∃c:Int,ds=[encWeb n ts,.int c]/\WebOk n ts/\∀ms,Firsts ms (marksL n.toNat ts)->Post (.int (2*(ms.length:Int)-n+(ts.length:Int)-c))
theorem Zgq (mb:Mb mg) (C55:Callee P w K mg base 1 "parts_of" ["web"] (spN K fParts)) (F:Fun K "lacking" "lacking" Yba f fd):FnOk P w K mg base CX0 2 f fd ["web","faces_many"] (spD K fLack):=by
 refine F.ok Ybn (Zbk λds Post h=>by obtain⟨_,_,_,rfl,_⟩:=h;rfl) λcdv A outer s H vs Q E hr h=>?_;have hu:=Zbn hr;refine⟨_,(Zae (Zf6 (pv 0)<|gtupK (n:=2) K rfl<|Zbq (Zar (i:=2) Ybn.nd rfl<|Or.inl rfl)<|Zbq (Zar (i:=3) Ybn.nd rfl<|Or.inl rfl) Zet)<|Zai<|Zay<|Zaw Zj5 (Zaw (addK K) (Zaw Zj5 (Zaw Zdo Zaf<|Zaj (lenK K) rfl (mb "len"<|by decide) Zb4<|Zaa (Za1 C55 (hr.mono<|by decide)<|Zaa (pv 0) Zab) Zab)<|pv 2)<|Zaj (lenK K) rfl (mb "len"<|by decide) Zb4<|Zaa (pv 3) Zab)<|pv 1),Zdj (λds Post hf=>?_) h⟩;obtain⟨n,ts,c,rfl,hW,q⟩:=hf;refine⟨by simp,?_⟩;dsimp only[startD,Wbf,Wbh,Wa1,Wae];have hn0:=hW.lo;have hn1:=hW.hi;have hts:=hW.len;have hl:=Zbz n.toNat ts;refine Zaq<|Zku<|Zad rfl<|Zie rfl<|Zcd<|Zbh<|Zcd<|Zbh<|Zf0 ?_;refine Zbp<|Zas<|Zas<|Zas<|Zas<|Zao<|Zb1<|Zac<|Zbt<|Zcx<|Zac<|Zad rfl<|Zag ⟨n,ts,rfl,hW,λms hm=>⟨_,rfl,?_⟩⟩;have hml:=hm.len;refine Zag<|Zbo (Or.inl rfl) ?_;rw[Wac,show (partsL n.toNat ts ms).length=ms.length from Wac _];refine jr_I (Or.inl ⟨by omega,by omega⟩)<|Zad rfl<|Zll<|Zb1<|Zac<|Zad rfl<|Zag<|Zbo (Or.inr rfl) ?_;rw[Wac];refine Zb6<|Zad rfl<|Zll ?_;exact q ms hm
theorem Zkl (mb:Mb mg) (C51:Callee P w K mg base 2 "lacking" ["web","faces_many"] (spD K fLack)) (C47:Callee P w K mg base 5 "faces" ["web","order"] (spN K fFaces)) (F:Fun K "holes" "holes" Ya9 f fd):FnOk P w K mg base CX0 6 f fd ["web","order"] (spD K fHoles):=by
 refine F.ok Ybw (Zbk λds Post h=>by obtain⟨_,_,_,rfl,_⟩:=h;rfl) λcdv A outer s H vs Q E hr h=>?_;have hu:=Zbn hr;refine⟨_,(Zai<|Zay<|Zaw Zhm (Za1 C51 (hr.mono<|by decide)<|Zaa (pv 0)<|Zaa (Zaj (lenK K) rfl (mb "len"<|by decide) Zb4<|Zaa (Za1 C47 (hr.mono<|by decide)<|Zaa (pv 0)<|Zaa (pv 1) Zab) Zab) Zab) Zaf),Zdj (λds Post hf=>?_) h⟩;obtain⟨n,ts,o,rfl,hW,hO,q⟩:=hf;refine⟨by simp,?_⟩;dsimp only[startD,Wbf,Wbh,Wa1,Wae];refine Zbp<|Zas<|Zaz<|Zac<|Zad rfl<|Zac<|Zb1<|Zac<|Zbt<|Zcx<|Zac<|Zad rfl<|Zac<|Zad rfl<|Zag ⟨n,ts,o,rfl,hW,hO,_,rfl,?_⟩;refine Zag<|Zbo (Or.inl rfl) ?_;rw[Wac];exact Zag ⟨n,ts,_,rfl,hW,λms hm=>Zao<|jr_I ⟨by omega,by omega⟩<|q ms hm⟩
end
section
variable {f:Int->Int}{m:Nat}(F:OneOne f m)
include F
end
theorem Zc5 (l:List Int) (a b:Int) {p:Nat}(hp:p<l.length):(mergeL l a b).getD p 0=if l.getD p 0=hiI (l.getD a.toNat 0) (l.getD b.toNat 0) then loI (l.getD a.toNat 0) (l.getD b.toNat 0) else l.getD p 0:=by
 unfold mergeL;rw[Wad,Wah,Waa hp,Wad (l:=l) (i:=p),Waa hp];rfl
theorem lohi (a b:Int):(a=loI a b\/a=hiI a b)/\(b=loI a b\/b=hiI a b):=by
 unfold loI hiI;constructor
 ·by_cases h:b<a
  ·right;rw[if_neg (by omega)]
  ·left;rw[if_neg h]
 ·by_cases h:b<a
  ·left;rw[if_pos h]
  ·by_cases h2:b > a
   ·right;rw[if_pos h2]
   ·left;rw[if_neg h];omega
theorem Zlo (l:List Int) {t:Int × Int}(h1:t.1.toNat<l.length) (h2:t.2.toNat<l.length):(mergeL l t.1 t.2).getD t.1.toNat 0=loI (l.getD t.1.toNat 0) (l.getD t.2.toNat 0)/\(mergeL l t.1 t.2).getD t.2.toNat 0=loI (l.getD t.1.toNat 0) (l.getD t.2.toNat 0):=by
 obtain⟨a,b⟩:=lohi (l.getD t.1.toNat 0)<|l.getD t.2.toNat 0;rw[Zc5 _ _ _ h1,Zc5 _ _ _ h2];constructor
 ·split
  ·rfl
  ·rename_i h;rcases a with a|a
   ·exact a
   ·exact absurd a h
 ·split
  ·rfl
  ·rename_i h;rcases b with b|b
   ·exact b
   ·exact absurd b h
section
variable {N:Nat}{ts:List (Int × Int)}(hW:WebOk (N:Int) ts)
include hW
theorem Zi9:∀i,i<=ts.length->∀t∈ts.take i,(marksL N<|ts.take i).getD t.1.toNat 0=(marksL N<|ts.take i).getD t.2.toNat 0
 |0,_,t,ht=>by simp at ht
 |i+1,hi,t,ht=>by
  have hlt:i<ts.length:=hi;have z:=Waa hlt;rw[Zda z];have hl:=Zbz N<|ts.take i;have hu:=hW.tie _<|Wa4 hlt;rw[Wbw,z]at ht;rcases Wbn.mp ht with h|h
  ·have ih:=Zi9 i (by omega) t h
   have hr:=hW.tie t<|List.mem_of_mem_take h;rw[Zc5 _ _ _ (by omega),Zc5 _ _ _ (by omega),ih]
  ·have e:t=ts[i]:=by simpa using h
   subst e;obtain⟨a,b⟩:=Zlo (marksL N<|ts.take i) (t:=ts[i]) (by omega) (by omega);rw[a,b]
end
section
variable {N:Nat}{ts:List (Int × Int)}{o:List (List Int)}(hW:WebOk (N:Int) ts) (hO:OrdOk (N:Int) ts o)
include hW
include hO
include hW hO
theorem Zk8:(allF ts o).length=lone o+((Wak (2*ts.length)).filter λe=>leastB (onI ts o) e && true).length:=by
 unfold allF facesTo;rw[Wao,Waq,Wac];congr 3
 funext e
 rw[Bool.and_true]
end
theorem Zq1 {l:List Int}{a b:Int}(h:l.getD a.toNat 0=l.getD b.toNat 0):mergeL l a b=l:=by
 unfold mergeL
 conv=>rhs;rw[<- List.map_id l]
 apply Wbq;intro f _;have e1:hiI (l.getD a.toNat 0) (l.getD b.toNat 0)=l.getD a.toNat 0:=by rw[<- h];unfold hiI;split <;> rfl
 have e2:loI (l.getD a.toNat 0) (l.getD b.toNat 0)=l.getD a.toNat 0:=by rw[<- h];unfold loI;split <;> rfl
 rw[e1,e2];split
 ·rename_i z;exact z.symm
 ·rfl
structure Goes (N:Nat) (l l':List Int) (lo hi:Int):Prop where
 len:l.length=N
 len':l'.length=N
 lt:lo<hi
 inL:lo∈l
 inH:hi∈l
 to:∀p:Nat,p<N->l'.getD p 0=if l.getD p 0=hi then lo else l.getD p 0
theorem Zln {N:Nat}{l:List Int}{t:Int × Int}(hl:l.length=N) (h1:t.1.toNat<N) (h2:t.2.toNat<N) (hne:l.getD t.1.toNat 0≠l.getD t.2.toNat 0) :
  Goes N l (mergeL l t.1 t.2) (loI (l.getD t.1.toNat 0)<|l.getD t.2.toNat 0) (hiI (l.getD t.1.toNat 0)<|l.getD t.2.toNat 0):=by
 have m1:l.getD t.1.toNat 0∈l:=by rw[Wad,Waa (by omega:t.1.toNat<l.length)];exact Wa4 _
 have m2:l.getD t.2.toNat 0∈l:=by rw[Wad,Waa (by omega:t.2.toNat<l.length)];exact Wa4 _
 refine⟨hl,by rw[Zg0,hl],?_,?_,?_,λp hp=>Zc5 _ _ _<|by omega⟩
 ·unfold loI hiI;split <;> split <;> omega
 ·unfold loI;split
  ·exact m2
  ·exact m1
 ·unfold hiI;split
  ·exact m2
  ·exact m1
section
variable {N:Nat}{l l' ms ms':List Int}{lo hi:Int}(G:Goes N l l' lo hi)
theorem Zrq {l:List Int}{x:Int}(h:x∈l):∃p:Nat,p<l.length/\l.getD p 0=x:=by
 obtain⟨p,hp,rfl⟩:=List.getElem_of_mem h;exact⟨p,hp,by rw[Wad,Waa hp];rfl⟩
theorem Zrz {l:List Int}{p:Nat}(h:p<l.length):l.getD p 0∈l:=by
 rw[Wad,Waa h];exact Wa4 h
include G
theorem Goes.mem {x:Int}:x∈l'↔x∈l/\x≠hi:=by
 have h1:=G.len;have h2:=G.len';have h3:=G.lt;constructor
 ·intro h
  obtain⟨p,hp,e⟩:=Zrq h;rw[G.to p (by omega)]at e;split at e
  ·rw[<- e];exact⟨G.inL,by omega⟩
  ·rename_i z
   rw[<- e];exact⟨Zrz (by omega),z⟩
 ·rintro⟨h,hne⟩
  obtain⟨p,hp,e⟩:=Zrq h;have:l'.getD p 0=x:=by rw[G.to p (by omega),e,if_neg hne]
  rw[<- this];exact Zrz (by omega)
theorem Goes.firsts (h:Firsts ms l) (h':Firsts ms' l'):ms'=ms.filter λg=>decide (g≠hi):=by
 refine Zbj h'.1 (List.Pairwise.filter _ h.1) λx=>?_;rw[h'.2,Wa0,decide_eq_true_iff,h.2];exact G.mem
omit G in
theorem Zbw {α:Type}(p:α -> Bool):∀l:List α,l.length=(l.filter p).length+(l.filter λx=>!p x).length
 |[]=>rfl
 |x::l=>by
  have ih:=Zbw p l;rw[Wbo,Wbo];cases h:p x with
  |true=>simp only[if_true,Bool.not_true,Wa7,if_false,Wa2];omega
  |false=>simp only[if_true,Bool.not_false,Wa7,if_false,Wa2];omega
end
theorem Zdu {f:Int->Int}{e:Int}{S:Int->Prop}(h:S e) (hc:∀x,S x->S (f x)):∀y∈orb f e,S y:=by
 intro y hy;obtain⟨j,hj,rfl⟩:=Za2.mp hy;clear hj hy
 induction j with
 |zero=>exact h
 |succ j ih=>exact hc _ ih
def swapF (f:Int->Int) (a b:Int) (x:Int):Int:=if x=a then f b else if x=b then f a else f x
theorem Ze1 (f:Int->Int) (a b:Int):swapF f a b a=f b:=by unfold swapF;rw[if_pos rfl]
theorem Zfj (f:Int->Int) (a b:Int):swapF f a b b=f a:=by
 unfold swapF;by_cases h:b=a
 ·rw[if_pos h,h]
 ·rw[if_neg h,if_pos rfl]
theorem Zdg {f:Int->Int}{a b x:Int}(h1:x≠a) (h2:x≠b):swapF f a b x=f x:=by unfold swapF;rw[if_neg h1,if_neg h2]
theorem Zn3 (f:Int->Int) (a b:Int):swapF (swapF f a b) a b=f:=by
 funext x
 by_cases h1:x=a
 ·subst h1;rw[Ze1,Zfj]
 ·by_cases h2:x=b
  ·subst h2;rw[Zfj,Ze1]
  ·rw[Zdg h1 h2,Zdg h1 h2]
theorem Zdq {f:Int->Int}{m:Nat}(F:OneOne f m) {a b:Int}(a0:0<=a) (a1:a<(m:Int)) (b0:0<=b) (b1:b<(m:Int)):OneOne (swapF f a b) m:=by
 refine⟨λx h0 h1=>?_,λx y x0 x1 y0 y1 q=>?_⟩
 ·unfold swapF
  split
  ·exact F.to _ b0 b1
  ·split
   ·exact F.to _ a0 a1
   ·exact F.to _ h0 h1
 ·-- the preimage through the exchange
  have key:∀z:Int,∃z',swapF f a b z=f z' /\ (z=a->z'=b)/\(z=b->z'=a)/\(z≠a->z≠b->z'=z):=λz=>by
   by_cases h1:z=a
   ·refine⟨b,by rw[h1,Ze1],λ_=>rfl,λh=>?_,λh=>absurd h1 h⟩
    rw[<- h,h1]
   ·by_cases h2:z=b
    ·exact⟨a,by rw[h2,Zfj],λh=>absurd h h1,λ_=>rfl,λ_ h=>absurd h2 h⟩
    ·exact⟨z,Zdg h1 h2,λh=>absurd h h1,λh=>absurd h h2,λ_ _=>rfl⟩
  obtain⟨x',ex,xa,xb,xo⟩:=key x;obtain⟨y',ey,ya,yb,yo⟩:=key y;have rx:0<=x' /\ x'<(m:Int):=by
   by_cases h1:x=a
   ·rw[xa h1];exact⟨b0,b1⟩
   ·by_cases h2:x=b
    ·rw[xb h2];exact⟨a0,a1⟩
    ·rw[xo h1 h2];exact⟨x0,x1⟩
  have ry:0<=y' /\ y'<(m:Int):=by
   by_cases h1:y=a
   ·rw[ya h1];exact⟨b0,b1⟩
   ·by_cases h2:y=b
    ·rw[yb h2];exact⟨a0,a1⟩
    ·rw[yo h1 h2];exact⟨y0,y1⟩
  have e:=F.inj x' y' rx.1 rx.2 ry.1 ry.2 (by rw[<- ex,<- ey];exact q);by_cases h1:x=a
  ·by_cases h2:y=a
   ·rw[h1,h2]
   ·by_cases h3:y=b
    ·have:=xa h1;have:=yb h3;omega
    ·have:=xa h1;have:=yo h2 h3;omega
  ·by_cases h1':x=b
   ·by_cases h2:y=a
    ·have:=xb h1';have:=ya h2;omega
    ·by_cases h3:y=b
     ·rw[h1',h3]
     ·have:=xb h1';have:=yo h2 h3;omega
   ·have hx:=xo h1 h1'
    by_cases h2:y=a
    ·have:=ya h2;omega
    ·by_cases h3:y=b
     ·have:=yb h3;omega
     ·have:=yo h2 h3;omega
noncomputable def cnt (f:Int->Int) (m:Nat) (Pd:Nat->Bool):Nat:=((Wak m).filter λe=>leastB f e && Pd e).length
section
variable {f:Int->Int}{m:Nat}(F:OneOne f m)
include F
theorem Zf2 {x:Int}(h0:0<=x) (h1:x<(m:Int)) (p:Nat->Bool) (hp:∀e:Nat,e<m->(p e=true↔(e:Int)∈orb f x)):((Wak m).filter λe=>leastB f e && p e).length=1:=by
 obtain⟨g,hg,hl,hin,_⟩:=Zm0 F h0 h1;have mem:∀e,e∈((Wak m).filter λe=>leastB f e && p e)↔e=g:=λe=>by
  rw[Wa0,Wa6,Waz];constructor
  ·rintro⟨he,l1,l2⟩
   have l2:=(hp e he).mp l2;have m1:=Zcg F (by omega) (by omega) (Zcn F h0 h1 l2) hin;have m2:=Zcg F (by omega) (by omega) (Zcn F h0 h1 hin) l2;have a:=of_decide_eq_true (show decide (∀z∈orb f (e:Int),(e:Int)<=z)=true from l1) _ m1;have b:=of_decide_eq_true (show decide (∀z∈orb f (g:Int),(g:Int)<=z)=true from hl) _ m2;omega
  ·rintro rfl
   exact⟨hg,hl,(hp e hg).mpr hin⟩
 have nd:((Wak m).filter λe=>leastB f e && p e).Nodup:=List.Pairwise.filter _ List.nodup_range;have a:=Zb8 (m:=[g]) nd λe he=>by rw[Wbi];exact(mem e).mp he
 have b:=Wcd ((mem g).mpr rfl);rw[Wch]at a;omega
theorem Znf {g:Int->Int}{S:Int->Prop}(hS:∀x,0<=x->x<(m:Int)->¬ S x->g x=f x) (hc:∀x,0<=x->x<(m:Int)->¬ S x->¬ S (f x)) (G:OneOne g m) {e:Int}(h0:0<=e) (h1:e<(m:Int)) (hn:¬ S e):∀y,y∈orb g e↔y∈orb f e:=by
 have it:∀j,iter g e j=iter f e j/\¬ S (iter f e j):=λj=>by
  induction j with
  |zero=>exact⟨rfl,hn⟩
  |succ j ih=>
   have r:=Zcj F h0 h1 j;refine⟨?_,hc _ r.1 r.2 ih.2⟩;show g (iter g e j)=f (iter f e j);rw[ih.1,hS _ r.1 r.2 ih.2]
 intro y;constructor
 ·intro hy
  obtain⟨j,_,rfl⟩:=Za2.mp hy;rw[(it j).1];exact Zbs F h0 h1 j
 ·intro hy
  obtain⟨j,_,rfl⟩:=Za2.mp hy;rw[<- (it j).1];exact Zbs G h0 h1 j
end
section
variable {f:Int->Int}{m:Nat}(F:OneOne f m) {a b:Int}(a0:0<=a) (a1:a<(m:Int)) (b0:0<=b) (b1:b<(m:Int)) (hab:a≠b) (hin:b∈orb f a)
include F a0 a1 b0 b1 hab hin
theorem halves:∃j,0<j/\j<per f a/\iter f a j=b/\(∀y,y∈orb (swapF f a b) b ↔ ∃i,1<=i/\i<=j/\iter f a i=y)/\(∀y,y∈orb (swapF f a b) a ↔ ∃i,(i=0\/j<i)/\i<per f a/\iter f a i=y):=by
 have O:=Zdf F a0 a1;have G:=Zdq F a0 a1 b0 b1;obtain⟨j,hj,ej⟩:=Za2.mp hin;have hj0:0<j:=by
  rcases Nat.eq_zero_or_pos j with z|z
  ·rw[z]at ej;exact absurd ej hab
  ·exact z
 have nea:∀i,0<i->i<per f a->iter f a i≠a:=λi h1 h2 q=>by
  have:=O.nd i 0 h2 O.pos q;omega
 have neb:∀i,i≠j->i<per f a->iter f a i≠b:=λi h1 h2 q=>by
  have:=O.nd i j h2 hj<|q.trans ej.symm;omega
 have up1:∀i,1<=i->i<=j->iter (swapF f a b) b i=iter f a i:=λi h1 h2=>by
  induction i with
  |zero=>omega
  |succ i ih=>
   cases i with
   |zero=>exact Zfj f a b
   |succ i=>
    show swapF f a b (iter (swapF f a b) b<|i+1)=f (iter f a<|i+1);rw[ih (by omega) (by omega),Zdg (nea _ (by omega)<|by omega) (neb _ (by omega)<|by omega)]
 have up2:∀i,1<=i->j+i<=per f a->iter (swapF f a b) a i=iter f a (j+i):=λi h1 h2=>by
  induction i with
  |zero=>omega
  |succ i ih=>
   cases i with
   |zero=>
    show swapF f a b a=f (iter f a j);rw[Ze1,ej]
   |succ i=>
    show swapF f a b (iter (swapF f a b) a<|i+1)=f (iter f a<|j+(i+1));rw[ih (by omega) (by omega),Zdg (nea _ (by omega)<|by omega) (neb _ (by omega)<|by omega)]
 refine⟨j,hj0,hj,ej,λy=>⟨λhy=>?_,?_⟩,λy=>⟨λhy=>?_,?_⟩⟩
 ·refine Zdu (S:=λy=>∃i,1<=i/\i<=j/\iter f a i=y) ⟨j,hj0,Waf _,ej⟩ (λx ⟨i,h1,h2,e⟩=>?_) y hy
  by_cases c:i=j
  ·have:x=b:=by rw[<- e,c,ej]
   exact⟨1,Waf _,hj0,by rw[this,Zfj];rfl⟩
  ·refine⟨i+1,by omega,by omega,?_⟩
   rw[<- e,Zdg (nea _ (by omega)<|by omega) (neb _ c<|by omega)];rfl
 ·rintro⟨i,h1,h2,rfl⟩
  rw[<- up1 i h1 h2];exact Zbs G b0 b1 i
 ·refine Zdu (S:=λy=>∃i,(i=0\/j<i)/\i<per f a/\iter f a i=y) ⟨0,.inl rfl,O.pos,rfl⟩ (λx ⟨i,h1,h2,e⟩=>?_) y hy
  have step:∀k,j<k+1->k+1<=per f a->∃i,(i=0\/j<i)/\i<per f a/\iter f a i=f (iter f a k):=λk hk1 hk2=>by
   by_cases c:k+1=per f a
   ·refine⟨0,.inl rfl,O.pos,?_⟩
    have:=O.back;rw[<- c]at this;exact this.symm
   ·exact⟨k+1,.inr hk1,by omega,rfl⟩
  rcases h1 with h1|h1
  ·subst h1
   have:x=a:=e.symm;rw[this,Ze1,<- ej];exact step j (by omega) (by omega)
  ·rw[<- e,Zdg (nea _ (by omega) h2) (neb _ (by omega) h2)]
   exact step i (by omega) (by omega)
 ·rintro⟨i,h1,h2,rfl⟩
  rcases h1 with h1|h1
  ·subst h1;exact Zcu G a0 a1
  ·have:=up2 (i-j) (by omega) (by omega)
   rw[show j+(i-j)=i by omega]at this;rw[<- this];exact Zbs G a0 a1 _
theorem Zj8 (Pd:Nat->Bool) (hP:∀e:Nat,(e:Int)∈orb f a->Pd e=Pd a.toNat):cnt (swapF f a b) m Pd=cnt f m Pd+(if Pd a.toNat=true then 1 else 0):=by
 have O:=Zdf F a0 a1;have G:=Zdq F a0 a1 b0 b1;obtain⟨j,hj0,hj,ej,L1,L2⟩:=halves F a0 a1 b0 b1 hab hin;have whole:∀y,y∈orb f a↔y∈orb (swapF f a b) b\/y∈orb (swapF f a b) a:=λy=>by
  rw[L1,L2];constructor
  ·intro hy
   obtain⟨i,hi,e⟩:=Za2.mp hy;by_cases c:1<=i/\i<=j
   ·exact .inl ⟨i,c.1,c.2,e⟩
   ·exact .inr ⟨i,by omega,hi,e⟩
  ·rintro(⟨i,h1,h2,rfl⟩|⟨i,h1,h2,rfl⟩) <;> exact Zbs F a0 a1 i
 have apart:∀y,y∈orb (swapF f a b) b->y∈orb (swapF f a b) a->False:=λy h1 h2=>by
  obtain⟨i,i1,i2,e1⟩:=(L1 y).mp h1;obtain⟨k,k1,k2,e2⟩:=(L2 y).mp h2;have:=O.nd i k (by omega) k2<|e1.trans e2.symm;omega
 -- outside nothing changes
 have out:∀e:Nat,e<m->(e:Int) ∉ orb f a->leastB (swapF f a b) e=leastB f e:=λe he hn=>by
  have:=Znf F (g:=swapF f a b) (S:=λx=>x∈orb f a) (λx h0 h1 hx=>Zdg (λz=>hx (by rw[z];exact Zcu F a0 a1)) λz=>hx (by rw[z];exact hin))
   (λx h0 h1 hx hf=>hx<|Zcg F a0 a1 hf<|Zcn F h0 h1<|Zbs F h0 h1 1) G (e:=(e:Int)) (by omega) (by omega) hn
  unfold leastB;rw[decide_eq_decide];exact⟨λh x hx=>h x ((this x).mpr hx),λh x hx=>h x ((this x).mp hx)⟩
 unfold cnt;rw[Zbw (λe:Nat=>decide ((e:Int)∈orb f a)) ((Wak m).filter λe=>leastB (swapF f a b) e && Pd e),Zbw (λe:Nat=>decide ((e:Int)∈orb f a)) ((Wak m).filter λe=>leastB f e && Pd e)];rw[Wbp,Wbp,Wbp,Wbp];have eout:(Wak m).filter (λe:Nat=>(!decide ((e:Int)∈orb f a)) && (leastB (swapF f a b) e && Pd e))=(Wak m).filter λe:Nat=>(!decide ((e:Int)∈orb f a)) && (leastB f e && Pd e):=by
  apply Wb5;intro e he;rw[Wa6]at he;by_cases c:(e:Int)∈orb f a
  ·rw[decide_eq_true c];rfl
  ·rw[out e he c]
 rw[eout];by_cases hp:Pd a.toNat=true
 ·rw[if_pos hp]
  have i1:((Wak m).filter λe:Nat=>decide ((e:Int)∈orb f a) && (leastB f e && Pd e)).length=1:=by
   rw[<- Zf2 F a0 a1 (λe:Nat=>decide ((e:Int)∈orb f a)) λe he=>decide_eq_true_iff];congr 1;apply Wb5;intro e he;by_cases c:(e:Int)∈orb f a
   ·rw[decide_eq_true c,hP e c,hp,Bool.and_true,Wdd]
   ·rw[decide_eq_false c,Wcp,Wcc]
  have i2:((Wak m).filter λe:Nat=>decide ((e:Int)∈orb f a) && (leastB (swapF f a b) e && Pd e)).length=2:=by
   rw[Zbw (λe:Nat=>decide ((e:Int)∈orb (swapF f a b) b)) ((Wak m).filter λe:Nat=>decide ((e:Int)∈orb f a) && (leastB (swapF f a b) e && Pd e)),Wbp,Wbp];have k1:=Zf2 G b0 b1 (λe:Nat=>decide ((e:Int)∈orb (swapF f a b) b)) λe he=>decide_eq_true_iff;have k2:=Zf2 G a0 a1 (λe:Nat=>decide ((e:Int)∈orb (swapF f a b) a)) λe he=>decide_eq_true_iff;have e1:(Wak m).filter (λe:Nat=>decide ((e:Int)∈orb (swapF f a b) b) && (decide ((e:Int)∈orb f a) && (leastB (swapF f a b) e && Pd e)))=(Wak m).filter λe:Nat=>leastB (swapF f a b) e && decide ((e:Int)∈orb (swapF f a b) b):=by
    apply Wb5;intro e he;by_cases c:(e:Int)∈orb (swapF f a b) b
    ·have c2:=(whole _).mpr (.inl c)
     rw[decide_eq_true c,decide_eq_true c2,hP e c2,hp,Wdd,Wdd]
    ·rw[decide_eq_false c,Wcp,Wcc]
   have e2:(Wak m).filter (λe:Nat=>(!decide ((e:Int)∈orb (swapF f a b) b)) && (decide ((e:Int)∈orb f a) && (leastB (swapF f a b) e && Pd e)))=(Wak m).filter λe:Nat=>leastB (swapF f a b) e && decide ((e:Int)∈orb (swapF f a b) a):=by
    apply Wb5;intro e he;by_cases c:(e:Int)∈orb (swapF f a b) a
    ·have c2:=(whole _).mpr (.inr c)
     have c3:(e:Int) ∉ orb (swapF f a b) b:=λz=>apart _ z c;rw[decide_eq_true c,decide_eq_false c3,decide_eq_true c2,hP e c2,hp,Bool.not_false,Wdd,Wdd]
    ·rw[decide_eq_false c,Wcc]
     by_cases c3:(e:Int)∈orb (swapF f a b) b
     ·rw[decide_eq_true c3];rfl
     ·have c4:(e:Int) ∉ orb f a:=λz=>((whole _).mp z).elim c3 c
      rw[decide_eq_false c4,Wcp,Wcc]
   rw[e1,e2,k1,k2]
  rw[i1,i2];omega
 ·rw[if_neg hp]
  have z:∀g:Int->Int,(Wak m).filter (λe:Nat=>decide ((e:Int)∈orb f a) && (leastB g e && Pd e))=[]:=λg=>by
   rw[List.filter_eq_nil_iff];intro e he;by_cases c:(e:Int)∈orb f a
   ·rw[hP e c,Wcl.mpr hp,Wcc,Wcc];exact Wal
   ·rw[decide_eq_false c,Wcp];exact Wal
  rw[z,z];rfl
end
section
variable {P:Program}{w:World}{K:W.Frag}{mg:Str->Option Value}{base:Heap}{f:Addr}{fd:FuncData}
theorem Zcz:∀l:List Int,∃ms,Firsts ms l
 |[]=>⟨[],.nil,λx=>Iff.rfl⟩
 |x::l=>by
  obtain⟨ms,h1,h2⟩:=Zcz l;by_cases c:x∈ms
  ·refine⟨ms,h1,λy=>?_⟩
   rw[War,h2];exact⟨.inr,λz=>z.elim (λq=>q ▸ (h2 x).mp c) id⟩
  ·refine⟨(ms.filter λy=>decide (y<x))++x::(ms.filter λy=>decide (x<y)),?_,λy=>?_⟩
   ·rw[List.pairwise_append,Wdq]
    refine⟨List.Pairwise.filter _ h1,⟨λa ha=>?_,List.Pairwise.filter _ h1⟩,λa ha b hb=>?_⟩
    ·rw[Wa0,decide_eq_true_iff]at ha;exact ha.2
    ·rw[Wa0,decide_eq_true_iff]at ha
     rcases War.mp hb with z|z
     ·rw[z];exact ha.2
     ·rw[Wa0,decide_eq_true_iff]at z;omega
   ·rw[Wbn,War,War,Wa0,Wa0,decide_eq_true_iff,decide_eq_true_iff,h2]
    constructor
    ·rintro(z|z|z)
     ·exact .inr z.1
     ·exact .inl z
     ·exact .inr z.1
    ·rintro(z|z)
     ·exact .inr (.inl z)
     ·rcases Int.lt_trichotomy y x with q|q|q
      ·exact .inl ⟨z,q⟩
      ·exact .inr (.inl q)
      ·exact .inr (.inr ⟨z,q⟩)
theorem Zfu {N:Nat}{ms:List Int}(h:Firsts ms (marksL N [])):ms=(Wak N).map λi:Nat=>(i:Int):=by
 refine Zbj h.1 ?_ λx=>(h.2 x).trans Iff.rfl;rw[Wcy];exact Wb6.imp λh=>by omega
def fRank:DSp:=λds Post=>∃(N:Nat) (ts:List (Int × Int)),ds=[encWeb (N:Int) ts]/\WebOk (N:Int) ts/\∀ms,Firsts ms (marksL N ts)->Post (.int ((ts.length:Int)-(N:Int)+(ms.length:Int)))
theorem Zm2 (mb:Mb mg) (C55:Callee P w K mg base 1 "parts_of" ["web"] (spN K fParts)) (F:Fun K "rank_of" "rank_of" Ya4 f fd):FnOk P w K mg base CX0 2 f fd ["web"] (spD K fRank):=by
 refine F.ok Ybm (Zbk λds Post h=>by obtain⟨_,_,rfl,_⟩:=h;rfl) λcdv A outer s H vs Q E hr h=>?_;have hu:=Zbn hr;refine⟨_,(Zae (Zf6 (pv 0)<|gtupK (n:=2) K rfl<|Zbq (Zar (i:=1) Ybm.nd rfl<|Or.inl rfl)<|Zbq (Zar (i:=2) Ybm.nd rfl<|Or.inl rfl) Zet)<|Zai<|Zay<|Zaw (addK K) (Zaw Zj5 (Zaj (lenK K) rfl (mb "len"<|by decide) Zb4<|Zaa (pv 2) Zab)<|pv 1)<|Zaj (lenK K) rfl (mb "len"<|by decide) Zb4<|Zaa (Za1 C55 (hr.mono<|by decide)<|Zaa (pv 0) Zab) Zab),Zdj (λds Post hf=>?_) h⟩;obtain⟨N,ts,rfl,hW,q⟩:=hf;refine⟨by simp,?_⟩;dsimp only[startD,Wbf,Wbh,Wa1,Wae];refine Zaq<|Zku<|Zad rfl<|Zie rfl<|Zcd<|Zbh<|Zcd<|Zbh<|Zf0 ?_;refine Zbp<|Zas<|Zas<|Zb1<|Zac<|Zad rfl<|Zag<|Zbo (Or.inr rfl)<|Zad rfl<|Zll<|Zb1<|Zac<|Zbt<|Zcx<|Zac<|Zad rfl<|Zag ⟨_,ts,rfl,hW,λms hm=>⟨_,rfl,?_⟩⟩;rw[Waj]at hm ⊢;refine Zag<|Zbo (Or.inl rfl)<|Zb6 ?_;rw[Wac,Wac,show (partsL N ts ms).length=ms.length from Wac _];exact q ms hm
end
section
variable {f:Int->Int}{m:Nat}(F:OneOne f m) {a b:Int}(a0:0<=a) (a1:a<(m:Int)) (b0:0<=b) (b1:b<(m:Int)) (hout:b ∉ orb f a)
include F a0 a1 b0 b1 hout
theorem joined:b∈orb (swapF f a b) a:=by
 have O:=Zdf F b0 b1;have G:=Zdq F a0 a1 b0 b1;have nea:∀i,iter f b i≠a:=λi q=>by
  have:=Zbs F b0 b1 i;rw[q]at this;exact hout (Zcn F b0 b1 this)
 have neb:∀i,0<i->i<per f b->iter f b i≠b:=λi h1 h2 q=>by
  have:=O.nd i 0 h2 O.pos q;omega
 have up:∀i,1<=i->i<=per f b->iter (swapF f a b) a i=iter f b i:=λi h1 h2=>by
  induction i with
  |zero=>omega
  |succ i ih=>
   cases i with
   |zero=>exact Ze1 f a b
   |succ i=>
    show swapF f a b (iter (swapF f a b) a<|i+1)=f (iter f b<|i+1);rw[ih (by omega) (by omega),Zdg (nea _) (neb _ (by omega)<|by omega)]
 have:=Zbs G a0 a1<|per f b;rw[up _ O.pos (Waf _),O.back]at this;exact this
theorem Zmd:∀y∈orb (swapF f a b) a,y∈orb f a\/y∈orb f b:=by
 refine Zdu (S:=λy=>y∈orb f a\/y∈orb f b) (.inl<|Zcu F a0 a1) λx hx=>?_;have st:∀{e x:Int},0<=e->e<(m:Int)->x∈orb f e->f x∈orb f e:=λ{e x} e0 e1 h=>by
  have r:=Ziy F e0 e1 h;exact Zcg F e0 e1 h<|Zbs F r.1 r.2 1
 by_cases h1:x=a
 ·rw[h1,Ze1];exact .inr<|st b0 b1<|Zcu F b0 b1
 ·by_cases h2:x=b
  ·rw[h2,Zfj];exact .inl<|st a0 a1<|Zcu F a0 a1
  ·rw[Zdg h1 h2]
   rcases hx with hx|hx
   ·exact .inl<|st a0 a1 hx
   ·exact .inr<|st b0 b1 hx
theorem Zpx (Pd:Nat->Bool) (hPa:∀e:Nat,(e:Int)∈orb f a->Pd e=Pd a.toNat) (hPb:∀e:Nat,(e:Int)∈orb f b->Pd e=Pd a.toNat):cnt f m Pd=cnt (swapF f a b) m Pd+(if Pd a.toNat=true then 1 else 0):=by
 have G:=Zdq F a0 a1 b0 b1;have hab:a≠b:=λz=>hout (by rw[<- z];exact Zcu F a0 a1);have:=Zj8 G a0 a1 b0 b1 hab (joined F a0 a1 b0 b1 hout) Pd λe he=>(Zmd F a0 a1 b0 b1 hout _ he).elim (hPa e) (hPb e);rw[Zn3]at this;exact this
end
def sgI (ts:List (Int × Int)) (o:List (List Int)) (k:Nat) (x:Int):Int:=if x.toNat / 2<k then onI ts o x else onI ts o ((partner x.toNat:Nat):Int)
section
variable {N:Nat}{ts:List (Int × Int)}{o:List (List Int)}(hW:WebOk (N:Int) ts) (hO:OrdOk (N:Int) ts o)
include hW hO
theorem Zjj:OneOne (sgI ts o 0) (2*ts.length):=by
 have F:=Zjc hW hO;have e:∀x:Int,sgI ts o 0 x=onI ts o ((partner x.toNat:Nat):Int):=λx=>by unfold sgI;rw[if_neg (by omega)]
 refine⟨λx h0 h1=>?_,λx y x0 x1 y0 y1 q=>?_⟩
 ·rw[e]
  have:=Zbx (show x.toNat<2*ts.length by omega);exact F.to _ (by omega) (by omega)
 ·rw[e,e]at q
  have hx:=Zbx (show x.toNat<2*ts.length by omega);have hy:=Zbx (show y.toNat<2*ts.length by omega);have:=F.inj _ _ (by omega) (by omega) (by omega) (by omega) q;have e1:partner x.toNat=partner y.toNat:=by omega
  have:=congrArg partner e1;rw[Za9,Za9]at this;omega
omit hW hO in
theorem Zhn (k:Nat) (x:Int) (h0:0<=x):sgI ts o (k+1) x=swapF (sgI ts o k) ((2*k:Nat):Int) ((2*k+1:Nat):Int) x:=by
 have p1:partner (2*k)=2*k+1:=by unfold partner;rw[if_pos (by omega)]
 have p2:partner (2*k+1)=2*k:=by unfold partner;rw[if_neg (by omega)];omega
 by_cases h1:x=((2*k:Nat):Int)
 ·subst h1
  rw[Ze1];unfold sgI;rw[if_pos (by omega),if_neg (by omega),Waj,p2]
 ·by_cases h2:x=((2*k+1:Nat):Int)
  ·subst h2
   rw[Zfj];unfold sgI;rw[if_pos (by omega),if_neg (by omega),Waj,p1]
  ·rw[Zdg h1 h2]
   unfold sgI;by_cases c:x.toNat / 2<k
   ·rw[if_pos (by omega),if_pos c]
   ·rw[if_neg (by omega),if_neg c]
theorem Zgp:∀k,k<=ts.length->OneOne (sgI ts o k) (2*ts.length)
 |0,_=>Zjj hW hO
 |k+1,hk=>by
  have F:=Zgp k (by omega);have G:=Zdq F (a:=((2*k:Nat):Int)) (b:=((2*k+1:Nat):Int)) (by omega) (by omega) (by omega) (by omega);exact⟨λx h0 h1=>by rw[Zhn k x h0];exact G.to x h0 h1,λx y x0 x1 y0 y1 q=>G.inj x y x0 x1 y0 y1 (by rw[<- Zhn k x x0,<- Zhn k y y0];exact q)⟩
theorem Zr8 {k:Nat}(hk:k<=ts.length) {x:Int}(h0:0<=x) (h1:x<((2*ts.length:Nat):Int)):(marksL N<|ts.take k).getD (placeAt ts (sgI ts o k x).toNat).toNat 0=(marksL N<|ts.take k).getD (placeAt ts x.toNat).toNat 0:=by
 have hx:x.toNat<2*ts.length:=by omega
 unfold sgI;split
 ·rename_i c
  obtain⟨g,hg,pg,eg⟩:=Zex hW hO<|Zbx hx;have ht:x.toNat / 2<ts.length:=by omega
  have hm:ts[x.toNat / 2]∈ts.take k:=by
   refine Wax (i:=x.toNat / 2) ?_;rw[List.getElem?_take,if_pos c,Waa ht]
  have tm:=Zi9 hW k hk _ hm;unfold onI;rw[<- eg,Waj,pg];have e2:partner x.toNat / 2=x.toNat / 2:=by unfold partner;split <;> omega
  unfold placeAt;rw[e2,Waa ht];dsimp only;by_cases c2:x.toNat % 2=0
  ·rw[if_pos c2,if_neg (by unfold partner;rw[if_pos c2];omega)];exact tm.symm
  ·rw[if_neg c2,if_pos (by unfold partner;rw[if_neg c2];omega)];exact tm
 ·obtain⟨g,hg,pg,eg⟩:=Zex hW hO hx
  unfold onI;rw[Waj,Za9,<- eg,Waj,pg]
theorem Zfg {k:Nat}(hk:k<=ts.length) {x y:Int}(h0:0<=x) (h1:x<((2*ts.length:Nat):Int)) (hy:y∈orb (sgI ts o k) x):(marksL N<|ts.take k).getD (placeAt ts y.toNat).toNat 0=(marksL N<|ts.take k).getD (placeAt ts x.toNat).toNat 0:=by
 obtain⟨j,hj,rfl⟩:=Za2.mp hy;clear hy hj
 induction j with
 |zero=>rfl
 |succ j ih=>
  have r:=Zcj (Zgp hW hO k hk) h0 h1 j;show (marksL N<|ts.take k).getD (placeAt ts (sgI ts o k<|iter (sgI ts o k) x j).toNat).toNat 0=_;rw[Zr8 hW hO hk r.1 r.2];exact ih
end
structure Own (N:Nat) (ts:List (Int × Int)) (S:Int->Bool):Prop where
 tie:∀t∈ts,S t.1=S t.2
theorem Zd6 {N:Nat}{ts:List (Int × Int)}{S:Int->Bool}(hW:WebOk (N:Int) ts) (hS:Own N ts S):∀k,k<=ts.length->∀p:Nat,p<N->S ((marksL N<|ts.take k).getD p 0)=S (p:Int)
 |0,_,p,hp=>by
  rw[Wc7];show S (((Wak N).map λi:Nat=>(i:Int)).getD p 0)=_;rw[Wad,Wah,Wdn hp];rfl
 |k+1,hk,p,hp=>by
  have hlt:k<ts.length:=hk;have hl:=Zbz N<|ts.take k;have ht:=hW.tie _<|Wa4 hlt;have ih:=Zd6 hW hS k (by omega);rw[Zda (Waa hlt),Zc5 _ _ _ (by omega)];have s1:=ih ts[k].1.toNat (by omega);have s2:=ih ts[k].2.toNat (by omega);have st:=hS.tie _<|Wa4 hlt;rw[show ((ts[k].1.toNat:Nat):Int)=ts[k].1 by omega]at s1;rw[show ((ts[k].2.toNat:Nat):Int)=ts[k].2 by omega]at s2;split
  ·rename_i c
   have sp:=ih p hp;rw[c]at sp;rw[<- sp];unfold loI hiI;split <;> split
   all_goals first|rfl|rw[s2,s1,st]|rw[s1,s2,st]
  ·exact ih p hp
def inS (S:Int->Bool) (l:List Int):Nat:=(l.filter S).length
def tiesS (S:Int->Bool) (ts:List (Int × Int)):Nat:=(ts.filter λt=>S t.1).length
def endS (ts:List (Int × Int)) (S:Int->Bool) (e:Nat):Bool:=S<|placeAt ts e
section
variable {N:Nat}{ts:List (Int × Int)}{o:List (List Int)}{S:Int->Bool}(hW:WebOk (N:Int) ts) (hO:OrdOk (N:Int) ts o) (hS:Own N ts S)
include hW hO hS
theorem Zhp {k:Nat}(hk:k<=ts.length) {x:Int}(h0:0<=x) (h1:x<((2*ts.length:Nat):Int)) (e:Nat) (he:(e:Int)∈orb (sgI ts o k) x):endS ts S e=endS ts S x.toNat:=by
 have r:=Ziy (Zgp hW hO k hk) h0 h1 he;have q:=Zfg hW hO hk h0 h1 he;rw[Waj]at q;have p1:=Zea hW (show e<2*ts.length by omega);have p2:=Zea hW (show x.toNat<2*ts.length by omega);have m1:=Zd6 hW hS k hk (placeAt ts e).toNat (by omega);have m2:=Zd6 hW hS k hk (placeAt ts x.toNat).toNat (by omega);rw[q,m2]at m1;unfold endS;rw[show ((placeAt ts e).toNat:Int)=placeAt ts e by omega,show ((placeAt ts x.toNat).toNat:Int)=placeAt ts x.toNat by omega]at m1;exact m1.symm
omit hW hO hS in
theorem Zim {f g:Int->Int}{m:Nat}(F:OneOne f m) (h:∀x,0<=x->x<(m:Int)->g x=f x) (G:OneOne g m) (Pd:Nat->Bool):cnt g m Pd=cnt f m Pd:=by
 unfold cnt;congr 1;apply Wb5;intro e he;rw[Wa6]at he;have:=Znf F (g:=g) (S:=λ_=>False) (λx h0 h1 _=>h x h0 h1) (λ_ _ _ h=>h) G (e:=(e:Int)) (by omega) (by omega) λh=>h;congr 1;unfold leastB;rw[decide_eq_decide];exact⟨λh x hx=>h x ((this x).mpr hx),λh x hx=>h x ((this x).mp hx)⟩
theorem Zq7 {k:Nat}(hk:k<ts.length) :
  (cnt (sgI ts o<|k+1) (2*ts.length) (endS ts S)=cnt (sgI ts o k) (2*ts.length) (endS ts S)+(if S ts[k].1=true then 1 else 0)/\(marksL N<|ts.take k).getD ts[k].1.toNat 0=(marksL N<|ts.take k).getD ts[k].2.toNat 0) ∨
  cnt (sgI ts o k) (2*ts.length) (endS ts S)=cnt (sgI ts o<|k+1) (2*ts.length) (endS ts S)+(if S ts[k].1=true then 1 else 0):=by
 have F:=Zgp hW hO k (by omega);have F2:=Zgp hW hO (k+1) (by omega);have a0:(0:Int)<=((2*k:Nat):Int):=by omega
 have a1:((2*k:Nat):Int)<((2*ts.length:Nat):Int):=by omega
 have b0:(0:Int)<=((2*k+1:Nat):Int):=by omega
 have b1:((2*k+1:Nat):Int)<((2*ts.length:Nat):Int):=by omega
 have G:=Zdq F a0 a1 b0 b1;have pa:placeAt ts (2*k)=ts[k].1:=by
  unfold placeAt;rw[show 2*k / 2=k by omega,Waa hk];dsimp only;rw[if_pos (by omega)]
 have pb:placeAt ts (2*k+1)=ts[k].2:=by
  unfold placeAt;rw[show (2*k+1) / 2=k by omega,Waa hk];dsimp only;rw[if_neg (by omega)]
 have ea:endS ts S (((2*k:Nat):Int)).toNat=S ts[k].1:=by unfold endS;rw[Waj,pa]
 have eb:endS ts S (((2*k+1:Nat):Int)).toNat=S ts[k].1:=by unfold endS;rw[Waj,pb,hS.tie _ (Wa4 hk)]
 rw[Zim G (λx h0 h1=>Zhn k x h0) F2];by_cases c:((2*k+1:Nat):Int)∈orb (sgI ts o k) ((2*k:Nat):Int)
 ·left
  have q:=Zj8 F a0 a1 b0 b1 (by omega) c (endS ts S) λe he=>Zhp hW hO hS (by omega) a0 a1 e he;rw[ea]at q;refine⟨q,?_⟩;have mk:=Zfg hW hO (k:=k) (by omega) a0 a1 c;rw[Waj,Waj,pa,pb]at mk;exact mk.symm
 ·right
  have q:=Zpx F a0 a1 b0 b1 c (endS ts S) (λe he=>Zhp hW hO hS (by omega) a0 a1 e he) λe he=>by
   rw[Zhp hW hO hS (by omega) b0 b1 e he,ea,eb]
  rw[ea]at q;exact q
omit hO in
theorem Zlm {k:Nat}(hk:k<ts.length) {ms ms2:List Int}(h:Firsts ms (marksL N<|ts.take k)) (h2:Firsts ms2 (marksL N<|ts.take<|k+1)) :
  ((marksL N<|ts.take k).getD ts[k].1.toNat 0=(marksL N<|ts.take k).getD ts[k].2.toNat 0->inS S ms2=inS S ms)/\inS S ms<=inS S ms2+(if S ts[k].1=true then 1 else 0)/\(S ts[k].1=false->inS S ms2=inS S ms):=by
 have hl:=Zbz N<|ts.take k;have ht:=hW.tie _<|Wa4 hk;rw[Zda (Waa hk)]at h2;by_cases c:(marksL N<|ts.take k).getD ts[k].1.toNat 0=(marksL N<|ts.take k).getD ts[k].2.toNat 0
 ·rw[Zq1 c]at h2
  rw[h2.uniq h];exact⟨λ_=>rfl,Nat.le_add_right _ _,λ_=>rfl⟩
 ·have G:=Zln hl (by omega) (by omega) c
  have e:=G.firsts h h2;have s1:=Zd6 hW hS k (by omega) ts[k].1.toNat (by omega);have s2:=Zd6 hW hS k (by omega) ts[k].2.toNat (by omega);have st:=hS.tie _<|Wa4 hk;rw[show ((ts[k].1.toNat:Nat):Int)=ts[k].1 by omega]at s1;rw[show ((ts[k].2.toNat:Nat):Int)=ts[k].2 by omega]at s2;have sh:S (hiI ((marksL N<|ts.take k).getD ts[k].1.toNat 0) ((marksL N<|ts.take k).getD ts[k].2.toNat 0))=S ts[k].1:=by
   unfold hiI;split
   ·rw[s2,st]
   ·exact s1
  obtain⟨hi,ehi⟩:∃hi,hiI ((marksL N<|ts.take k).getD ts[k].1.toNat 0) ((marksL N<|ts.take k).getD ts[k].2.toNat 0)=hi:=⟨_,rfl⟩;rw[ehi]at e sh;have q:=Zbw (λg:Int=>decide (g=hi))<|ms.filter S;rw[Wbp,Wbp]at q;have e2:ms2.filter S=ms.filter λg=>(!decide (g=hi)) && S g:=by
   rw[e,Wbp];apply Wb5;intro g _;by_cases z:g=hi
   ·rw[decide_eq_true z,decide_eq_false (by simpa using z),Wcc];rfl
   ·rw[decide_eq_false z,decide_eq_true z,Bool.and_true];rfl
  have hone:(ms.filter λg=>decide (g=hi) && S g).length<=(if S ts[k].1=true then 1 else 0):=by
   by_cases z:S ts[k].1=true
   ·rw[if_pos z]
    have:=Zb8 (l:=ms.filter λg=>decide (g=hi) && S g) (m:=[hi]) (List.Pairwise.filter _ (h.1.imp λz=>Int.ne_of_lt z)) λx hx=>by
     rw[Wa0,Waz,decide_eq_true_iff]at hx;rw[Wbi];exact hx.2.1
    exact this
   ·rw[if_neg z]
    have:(ms.filter λg=>decide (g=hi) && S g)=[]:=by
     rw[List.filter_eq_nil_iff];intro x hx w;rw[Waz,decide_eq_true_iff]at w;rw[w.1,sh]at w;exact z w.2
    rw[this];exact Waf _
  unfold inS;rw[e2];refine⟨λz=>absurd z c,by omega,λz=>?_⟩;rw[if_neg (by rw[z];exact Wal)]at hone;omega
omit hW hO hS in
theorem Zna {k:Nat}(hk:k<ts.length):tiesS S (ts.take<|k+1)=tiesS S (ts.take k)+(if S ts[k].1=true then 1 else 0):=by
 unfold tiesS;rw[Wbw,Waa hk,Wce,Wao];congr 1;show (List.filter _ [ts[k]]).length=_;rw[Wbo];by_cases z:S ts[k].1=true
 ·rw[if_pos z,if_pos z];rfl
 ·rw[if_neg z,if_neg z];rfl
theorem euler {c0:Nat}{ms0:List Int}(h0:Firsts ms0 (marksL N [])) (hc:cnt (sgI ts o 0) (2*ts.length) (endS ts S)+c0=inS S ms0):∀k,k<=ts.length->∀ms,Firsts ms (marksL N<|ts.take k) →
  cnt (sgI ts o k) (2*ts.length) (endS ts S)+c0+inS S ms0<=2*inS S ms+tiesS S (ts.take k)/\(cnt (sgI ts o k) (2*ts.length) (endS ts S)+c0+inS S ms0) % 2=tiesS S (ts.take k) % 2
 |0,_,ms,h=>by
  rw[Wc7]at h ⊢;rw[h.uniq h0];show _<=2*inS S ms0+0/\_=0 % 2;omega
 |k+1,hk,ms,h=>by
  obtain⟨ms1,h1⟩:=Zcz<|marksL N<|ts.take k;obtain⟨i1,i2⟩:=euler h0 hc k (by omega) ms1 h1;obtain⟨p1,p2,p3⟩:=Zlm hW hS (show k<ts.length from hk) h1 h;rw[Zna (show k<ts.length from hk)];rcases Zq7 hW hO hS (show k<ts.length from hk) with ⟨q,mk⟩|q
  ·have:=p1 mk
   rw[this,q];split <;> omega
  ·by_cases z:S ts[k].1=true
   ·rw[if_pos z]at q p2 ⊢
    omega
   ·have:=p3 (Wcl.mpr z)
    rw[if_neg z]at q p2 ⊢;omega
end
def rowP (o:List (List Int)) (p:Nat):List Int:=o.getD p []
def loneS (S:Int->Bool) (N:Nat) (o:List (List Int)):Nat:=((Wak N).filter λp:Nat=>S (p:Int) && (rowP o p).isEmpty).length
section
variable {N:Nat}{ts:List (Int × Int)}{o:List (List Int)}{S:Int->Bool}(hW:WebOk (N:Int) ts) (hO:OrdOk (N:Int) ts o)
include hW hO
theorem Zmp {e:Nat}:sgI ts o 0 (e:Int)=folOf ts o e:=by
 unfold sgI;rw[if_neg (by omega),Waj];unfold onI;rw[Waj,Za9]
theorem Zpz {p:Nat}{x:Int}{r:List Int}(hp:p<N) (hr:rowP o p=x::r):∃e:Nat,e<2*ts.length/\x=(e:Int)/\placeAt ts e=(p:Int)/\rowAt ts o e=x::r/\leastB (sgI ts o 0) e=true:=by
 have hl:=hO.len;have q:o[p]?=some (x::r):=by
  unfold rowP at hr;rw[Wad,Waa (by omega:p<o.length)]at hr;rw[Waa (by omega:p<o.length)];exact congrArg some hr
 have R:=hO.row p _ q;obtain⟨e,he,pe,ee⟩:=R.mem.mp<|Wbc ..;have er:rowAt ts o e=x::r:=by
  unfold rowAt;rw[pe,Waj];exact hr
 refine⟨e,he,ee.symm,pe,er,?_⟩;unfold leastB;rw[decide_eq_true_iff];have F:=Zjj hW hO;have inr:∀y∈orb (sgI ts o 0) (e:Int),y∈x::r:=Zdu (S:=λy=>y∈x::r) (by rw[ee];exact Wbc ..) λy hy=>by
  obtain⟨k,hk,pk,ek⟩:=R.mem.mp hy;rw[<- ek,Zmp hW hO];obtain⟨g,hg,pg,eg⟩:=Zex hW hO hk;rw[<- eg];exact R.mem.mpr ⟨g,hg,pg.trans pk,rfl⟩
 intro y hy;rcases War.mp (inr y hy) with z|z
 ·rw[z,ee];exact Wcs _
 ·rw[ee];exact R.least y z
theorem Zem {e:Nat}(he:e<2*ts.length) (hl:leastB (sgI ts o 0) e=true):∃r,rowAt ts o e=(e:Int)::r:=by
 obtain⟨g1,g2,g3⟩:=Zdi hW hO he;have nd:=g2.nodup;obtain⟨i,hi⟩:=Wc1.mp g3;have hil:=(Wag.mp hi).1;have F:=Zjj hW hO;obtain⟨r,er⟩:∃r,rowAt ts o e=r:=⟨_,rfl⟩;have nxt:∀a (ha:a<r.length),sgI ts o 0 r[a]=r.getD (nxI r.length a) 0:=λa ha=>by
  subst er;obtain⟨k,hk,pk,ek⟩:=g2.mem.mp<|Wa4 ha;rw[<- ek,Zmp hW hO];unfold folOf;have:rowAt ts o k=rowAt ts o e:=by unfold rowAt;rw[pk]
  rw[this];exact Zgb nd (by rw[ek];exact Waa ha)
 rw[er]at hi hil;have up:∀j,i+j<r.length->iter (sgI ts o 0) (e:Int) j=r.getD (i+j) 0:=λj=>by
  induction j with
  |zero=>
   intro _;rw[Wad,Nat.add_zero,hi];rfl
  |succ j ih=>
   intro hj;show sgI ts o 0 (iter (sgI ts o 0) (e:Int) j)=_;rw[ih (by omega),Wad (i:=i+j),Waa (by omega:i+j<r.length)];show sgI ts o 0 r[i+j]=_;rw[nxt _ (by omega)];unfold nxI;rw[if_neg (by omega)];rfl
 have hmem:r.getD 0 0∈orb (sgI ts o 0) (e:Int):=by
  have:=Zbs F (e:=(e:Int)) (by omega) (by omega)<|r.length-i;rw[show r.length-i=(r.length-1-i)+1 by omega]at this;have e1:iter (sgI ts o 0) (e:Int) ((r.length-1-i)+1)=sgI ts o 0 (iter (sgI ts o 0) (e:Int)<|r.length-1-i):=rfl;rw[e1,up _ (by omega),Wad,Waa (by omega:i+(r.length-1-i)<r.length)]at this;have e2:sgI ts o 0 r[i+(r.length-1-i)]=r.getD 0 0:=by
   rw[nxt _ (by omega)];unfold nxI;rw[if_pos (by omega)]
  rw[<- e2];exact this
 have hle:=of_decide_eq_true (show decide (∀z∈orb (sgI ts o 0) (e:Int),(e:Int)<=z)=true from hl) _ hmem;rw[er]at g2 g3;rw[er];cases r with
 |nil=>simp at g3
 |cons x r=>
  refine⟨r,?_⟩;have hle:(e:Int)<=x:=hle;rcases War.mp g3 with z|z
  ·rw[z]
  ·have:=g2.least _ z
   rw[show (e:Int)=x by omega]
theorem Zp9:cnt (sgI ts o 0) (2*ts.length) (endS ts S)=((Wak N).filter λp:Nat=>S (p:Int) && !(rowP o p).isEmpty).length:=by
 unfold cnt;have rowEq:∀e:Nat,rowAt ts o e=rowP o (placeAt ts e).toNat:=λe=>rfl;apply Nat.le_antisymm
 ·rw[<- Wac (f:=λe=>(placeAt ts e).toNat)]
  refine Zb8 ?_ λp hp=>?_
  ·unfold List.Nodup
   rw[Wcy];refine List.Pairwise.imp_of_mem (R:=(· < ·)) (λ{a b} ha hb hab hq=>?_)<|List.Pairwise.filter _ Wb6;rw[Wa0,Wa6,Waz]at ha hb;obtain⟨r1,e1⟩:=Zem hW hO ha.1 ha.2.1;obtain⟨r2,e2⟩:=Zem hW hO hb.1 hb.2.1;rw[rowEq]at e1 e2;rw[hq,e2]at e1;have:=(List.cons.inj e1).1;omega
  ·obtain⟨e,he,rfl⟩:=Wbk.mp hp
   rw[Wa0,Wa6,Waz]at he;have pl:=Zea hW he.1;obtain⟨r1,e1⟩:=Zem hW hO he.1 he.2.1;rw[rowEq]at e1;rw[Wa0,Wa6,Waz,e1,show (((placeAt ts e).toNat:Nat):Int)=placeAt ts e by omega];exact⟨by omega,he.2.2,rfl⟩
 ·rw[<- Wac (f:=λp=>((rowP o p).headD 0).toNat) (as:=(Wak N).filter λp:Nat=>S (p:Int) && !(rowP o p).isEmpty)]
  have hd:∀p:Nat,p<N->(!(rowP o p).isEmpty)=true->∃e:Nat,e<2*ts.length/\((rowP o p).headD 0).toNat=e/\placeAt ts e=(p:Int)/\leastB (sgI ts o 0) e=true:=λp hp hne=>by
   cases z:rowP o p with
   |nil=>rw[z]at hne;cases hne
   |cons x r=>
    obtain⟨e,he,ex,pe,_,hl⟩:=Zpz hW hO hp z;refine⟨e,he,?_,pe,hl⟩;show x.toNat=e;rw[ex,Waj]
  refine Zb8 ?_ λq hq=>?_
  ·unfold List.Nodup
   rw[Wcy];refine List.Pairwise.imp_of_mem (R:=(· < ·)) (λ{a b} ha hb hab hq=>?_)<|List.Pairwise.filter _ Wb6;rw[Wa0,Wa6,Waz]at ha hb;obtain⟨e1,_,q1,p1,_⟩:=hd a ha.1 ha.2.2;obtain⟨e2,_,q2,p2,_⟩:=hd b hb.1 hb.2.2;have:e1=e2:=by rw[<- q1,<- q2];exact hq
   subst this;rw[p1]at p2;omega
  ·obtain⟨p,hp,rfl⟩:=Wbk.mp hq
   rw[Wa0,Wa6,Waz]at hp;obtain⟨e,he,q1,p1,hl⟩:=hd p hp.1 hp.2.2;rw[q1,Wa0,Wa6,Waz];refine⟨he,hl,?_⟩;unfold endS;rw[p1];exact hp.2.1
theorem Ztk {ms0:List Int}(h:Firsts ms0 (marksL N [])):cnt (sgI ts o 0) (2*ts.length) (endS ts S)+loneS S N o=inS S ms0:=by
 rw[Zp9 hW hO,Zfu h];unfold inS loneS;rw[Wdi,Wac];have:=Zbw (λp:Nat=>(rowP o p).isEmpty) ((Wak N).filter λp:Nat=>S (p:Int));rw[Wbp,Wbp]at this;have e0:((Wak N).filter (S∘λi:Nat=>(i:Int)))=(Wak N).filter λp:Nat=>S (p:Int):=rfl;rw[e0,this];have e1:((Wak N).filter λp:Nat=>S (p:Int) && (rowP o p).isEmpty)=(Wak N).filter λp:Nat=>(rowP o p).isEmpty && S (p:Int):=by
  apply Wb5;intro p _;exact Bool.and_comm _ _
 have e2:((Wak N).filter λp:Nat=>S (p:Int) && !(rowP o p).isEmpty)=(Wak N).filter λp:Nat=>(!(rowP o p).isEmpty) && S (p:Int):=by
  apply Wb5;intro p _;exact Bool.and_comm _ _
 rw[e1,e2];omega
theorem Zsh {e:Int}(h0:0<=e) (h1:e<((2*ts.length:Nat):Int)):onI ts o e=sgI ts o ts.length e:=by
 unfold sgI;rw[if_pos (by omega)]
theorem Zo2 (hS:Own N ts S) {ms:List Int}(hm:Firsts ms (marksL N ts)):cnt (onI ts o) (2*ts.length) (endS ts S)+loneS S N o+inS S ((Wak N).map λi:Nat=>(i:Int))<=2*inS S ms+tiesS S ts/\(cnt (onI ts o) (2*ts.length) (endS ts S)+loneS S N o+inS S ((Wak N).map λi:Nat=>(i:Int))) % 2=tiesS S ts % 2:=by
 obtain⟨ms0,h0⟩:=Zcz<|marksL N [];have b:=Ztk (S:=S) hW hO h0;have e:=euler hW hO hS h0 b ts.length (Waf _) ms (by rw[Wbx];exact hm);rw[Wbx]at e;rw[Zfu h0]at e;rw[Zim (Zgp hW hO ts.length<|Waf _) (λx h0 h1=>Zsh hW hO h0 h1) (Zjc hW hO)];exact e
end
section
variable {N:Nat}{ts:List (Int × Int)}{o:List (List Int)}(hW:WebOk (N:Int) ts) (hO:OrdOk (N:Int) ts o)
include hW
include hO
theorem Zql {ms:List Int}(hm:Firsts ms (marksL N ts)):0<=holesI (N:Int) ts o ms/\2*holesI (N:Int) ts o ms+((allF ts o).length:Int)+(N:Int)=2*(ms.length:Int)+(ts.length:Int):=by
 obtain⟨h1,h2⟩:=Zo2 (S:=λ_=>true) hW hO ⟨λ_ _=>rfl⟩ hm;have al:=Zk8 hW hO;have e1:cnt (onI ts o) (2*ts.length) (endS ts λ_=>true)=((Wak (2*ts.length)).filter λe=>leastB (onI ts o) e && true).length:=rfl;have e2:inS (λ_=>true) ms=ms.length:=by unfold inS;rw[Wb0.mpr (λ_ _=>rfl)]
 have e3:inS (λ_=>true) ((Wak N).map λi:Nat=>(i:Int))=N:=by unfold inS;rw[Wb0.mpr (λ_ _=>rfl),Wac,Wbd]
 have e4:tiesS (λ_=>true) ts=ts.length:=by unfold tiesS;rw[Wb0.mpr (λ_ _=>rfl)]
 have e5:loneS (λ_=>true) N o=lone o:=by
  have hl:=hO.len;unfold loneS lone;have eo:o=(Wak N).map λp=>rowP o p:=by
   apply Wdv
   ·rw[Wac,Wbd];omega
   ·intro i h1 h2
    rw[List.getElem_map,Wb7];unfold rowP;rw[Wad,Waa h1];rfl
  conv=>rhs;rw[eo]
  rw[Wdi,Wac];rfl
 rw[e1,e2,e3,e4,e5]at h1;rw[e1,e3,e4,e5]at h2;unfold holesI;omega
end
section
variable {N:Nat}{ts:List (Int × Int)}{o:List (List Int)}(hW:WebOk (N:Int) ts) (hO:OrdOk (N:Int) ts o) {ms:List Int}(hm:Firsts ms (marksL N ts))
include hW hm
include hO
end
section
variable {P:Program}{w:World}{K:W.Frag}{mg:Str->Option Value}{base:Heap}{f:Addr}{fd:FuncData}
def fEnds:NSp:=λds Post=>∃n ts,∃p:Int,ds=[encWeb n ts,.int p]/\ts.length<=24/\Post ((endsBelow ts (2*ts.length) p).map .int)
theorem Zgc (ts:List (Int × Int)) (m:Nat) (p:Int) (q:D->Bool) (hq:∀k:Nat,q (.int (0+(k:Int)))=decide (placeAt ts k=p)):(rngD 0 m).filter q=(endsBelow ts m p).map .int:=by
 unfold rngD endsBelow;rw[Wdi,Wba];have e:(q∘λi:Nat=>D.int (0+(i:Int)))=λe=>decide (placeAt ts e=p):=by
  funext k;exact hq k
 rw[e];apply Wbq;intro k _;show D.int (0+(k:Int))=D.int (k:Int);rw[Wbj]
theorem Zg6 (mb:Mb mg) (C56:Callee P w K mg base 1 "place_of" ["web","end"] (spD K fPlace)) (F:Fun K "ends_at" "ends_at" Yaq f fd):FnOk P w K mg base CX0 2 f fd ["web","place"] (spN K fEnds):=by
 refine F.ok Ybt (Zeo λds Post h=>by obtain⟨_,_,_,rfl,_⟩:=h;rfl) λcdv A outer s H vs Q E hr h=>?_;have hu:=Zbn hr;refine⟨_,(Zai<|Zay<|Zcc ["end"] (show CompSc (defScope Yaq) ["web","place"] _ ["web","place"] [0,1] from ⟨rfl,by decide +kernel,by decide +kernel,by decide +kernel,rfl,by decide +kernel⟩) rfl (Za8 rfl (mb "range"<|by decide)<|Zaa (Zaw Zdo Zaf<|Zaj (lenK K) rfl (mb "len"<|by decide) Zb4<|Zaa (Zbv (ixK K hu) (pv 0) Zaf λ_ _=>rfl) Zab) Zab) (λ_ _ _ _ _=>(Zar (i:=0) (show List.Nodup (["end","web","place"]:List Str) from by decide) rfl<|Or.inl rfl)) (λ_ _ _ _ _=>(Zfo<|Za0 Zc3 (Za1 C56 (hr.mono<|by decide)<|Zaa (pv 1)<|Zaa (pv 0) Zab) (pv 2)<|nomark _)) λ_ _ _ _ _=>(pv 0)),Zma (λds Post hf=>?_) h⟩;obtain⟨n,ts,p,rfl,hl,q⟩:=hf;refine⟨by simp,?_⟩;dsimp only[startD,Wbf,Wbh,Wa1];refine Zen<|Zfb (by decide)<|Zba ?_;refine Zac<|Zas<|Zao<|Zb1 ?_;refine Zac<|Zas<|Zad rfl<|Zao<|Zca (d:=.tup<|ts.map encTie) rfl ?_;refine Zag<|Zbo (Or.inr rfl) ?_;rw[Wac];refine jr_I (Or.inl ⟨by omega,by omega⟩)<|Zag ⟨_,rfl,by omega,by omega,?_⟩;have eL:((2:Int)*(ts.length:Int)).toNat=2*ts.length:=by omega
 rw[eL];refine⟨by rw[Za7];exact small1000 (by omega),λd=>match d with|.int e=>decide (placeAt ts e.toNat=p)|_=>false,λd=>d,λi d hd=>?_,?_⟩
 ·obtain⟨hi,rfl⟩:=Za6 hd
  refine Zbg<|Zas<|Zaz<|Zac<|Zad rfl<|Zac<|Zad rfl<|Zag ⟨n,ts,i,by rw[Wbj],hi,?_⟩;refine Zad rfl<|Zgn ⟨_,rfl,?_,?_⟩
  ·show _=decide (placeAt ts (0+(i:Int)).toNat=p)
   rw[Wbj,Waj]
  ·by_cases hp:placeAt ts i=p
   ·rw[decide_eq_true hp,if_pos rfl];exact Zad rfl ⟨rfl,_,rfl⟩
   ·rw[decide_eq_false hp,if_neg Wal];exact⟨_,rfl⟩
 ·rw[List.map_id',Zgc ts _ p _ λk=>by show decide (placeAt ts (0+(k:Int)).toNat=p)=_;rw[Wbj,Waj]]
  exact⟨_,rfl,q⟩
end
def rm:Nat->Nat
 |0=>1
 |1=>1
 |n+2=>rm (n+1)*(n+1)
theorem Zk0:∀n,1<=rm n
 |0=>Waf 1
 |1=>Waf 1
 |n+2=>Nat.mul_pos (Zk0 (n+1)) (Nat.succ_pos n)
theorem Zjp {n m:Nat}(h:n<=m):rm n<=rm m:=by
 induction h with
 |refl=>exact Waf _
 |@step m _ ih=>
  refine Wa8 ih ?_;cases m with
  |zero=>exact Waf _
  |succ m=>exact Wcv _ (Nat.succ_pos m)
def rowGo:Nat->List Int->Nat->List Int
 |0,_,_=>[]
 |k+1,rest,num=>rest.getD (num / rm (k+1)) 0::rowGo k (rest.eraseIdx (num / rm (k+1))) (num % rm (k+1))
def seqs:Nat->List Int->List (List Int)
 |0,_=>[[]]
 |k+1,rest=>rest.flatMap λe=>(seqs k (rest.erase e)).map (e :: ·)
theorem Zj1 {α β:Type}{f g:α -> List β}:∀{l:List α},(∀a∈l,f a=g a)->l.flatMap f=l.flatMap g
 |[],_=>rfl
 |a::l,h=>by rw[Wcj,Wcj,h a (by simp),Zj1 λb hb=>h b (Way _ hb)]
theorem Zpd (a b:Nat):Wak (a*b)=(Wak a).flatMap λi=>(Wak b).map λj=>i*b+j:=by
 induction a with
 |zero=>rw[Nat.zero_mul];rfl
 |succ a ih=>
  rw[Nat.succ_mul,List.range_add,ih,List.range_succ,Wdo,Wcj,Wdu,Wbb]
theorem Zel (rest:List Int):(Wak rest.length).map (λi=>rest.getD i 0)=rest:=by
 refine Wdv (by simp) λi h1 h2=>?_;simp[Wad,Waa h2]
theorem Zo9 (rest:List Int) (F:Int->List (List Int)):(Wak rest.length).flatMap (λi=>F<|rest.getD i 0)=rest.flatMap F:=by
 have e:rest.flatMap F=((Wak rest.length).map (λi=>rest.getD i 0)).flatMap F:=by rw[Zel]
 rw[e,List.flatMap_map]
theorem Ziv:∀(k:Nat) (rest:List Int),rest.length=k->rest.Nodup->(Wak<|rm<|k+1).map (rowGo k rest)=seqs k rest
 |0,_,_,_=>rfl
 |k+1,rest,hl,hn=>by
  have e1:rm (k+1+1)=rest.length*rm (k+1):=by rw[hl,Nat.mul_comm];rfl
  have hp:=Zk0<|k+1;rw[e1,Zpd,List.map_flatMap];have e2:∀i∈Wak rest.length,Wbh (rowGo (k+1) rest) ((Wak<|rm<|k+1).map λj=>i*rm (k+1)+j)=(seqs k<|rest.erase<|rest.getD i 0).map (rest.getD i 0 :: ·):=by
   intro i hi;have hi:i<rest.length:=Wa6.mp hi;have ee:rest.getD i 0=rest[i]:=by rw[Wad,Waa hi];rfl
   have er:rest.erase rest[i]=rest.eraseIdx i:=by rw[List.erase_eq_eraseIdx_of_idxOf];exact List.Nodup.idxOf_getElem hn i hi
   have el:(rest.eraseIdx i).length=k:=by rw[Wbs hi];omega
   rw[ee,er,<- Ziv k _ el (List.Nodup.sublist (List.eraseIdx_sublist _ _) hn),Wba,Wba];refine Wbq λj hj=>?_;have hj:j<rm (k+1):=Wa6.mp hj;have d1:(i*rm (k+1)+j) / rm (k+1)=i:=by rw[Nat.mul_comm,Nat.mul_add_div hp,Nat.div_eq_of_lt hj,Nat.add_zero]
   have d2:(i*rm (k+1)+j) % rm (k+1)=j:=by rw[Nat.mul_comm,Nat.mul_add_mod,Nat.mod_eq_of_lt hj]
   show rowGo (k+1) rest (i*rm (k+1)+j)=_;unfold rowGo;rw[d1,d2,ee];rfl
  rw[Zj1 e2];exact Zo9 rest λe=>(seqs k<|rest.erase e).map (e :: ·)
theorem Zio:∀(k:Nat) (rest:List Int),rest.length=k->∀s∈seqs k rest,s.Perm rest
 |0,rest,hl,s,hs=>by
  have e1:rest=[]:=Wbv hl;have e2:s=[]:=by simpa [seqs] using hs
  rw[e1,e2]
 |k+1,rest,hl,s,hs=>by
  unfold seqs at hs;obtain⟨e,he,hs⟩:=List.mem_flatMap.mp hs;obtain⟨s',hs',rfl⟩:=Wbk.mp hs;have el:(rest.erase e).length=k:=by rw[Wc8 he];omega
  exact((Zio k _ el s' hs').cons e).trans (List.perm_cons_erase he).symm
def rowNo (E:List Int) (num:Nat):List Int:=E.take 1++rowGo (E.length-1) (E.drop 1) num
def rowsA (E:List Int):List (List Int):=(Wak<|rm E.length).map (rowNo E)
theorem Zfp (E:List Int):(rowsA E).length=rm E.length:=by unfold rowsA;rw[Wac,Wbd]
theorem Zls {a:Int}{l:List Int}(hn:(a::l).Nodup):rowsA (a::l)=(seqs l.length l).map ([a] ++ ·):=by
 unfold rowsA;rw[<- Ziv l.length l rfl (Wcg.mp hn).2,Wba];rfl
theorem Zl0 {E:List Int}(hn:E.Nodup):∀r∈rowsA E,r.Perm E/\r.head?=E.head?:=by
 cases E with
 |nil=>
  intro r hr;have:r=[]:=by simpa [rowsA,rm,rowNo,rowGo] using hr
  rw[this];exact⟨List.Perm.refl _,rfl⟩
 |cons a l=>
  intro r hr;rw[Zls hn]at hr;obtain⟨s,hs,rfl⟩:=Wbk.mp hr;exact⟨(Zio l.length l rfl s hs).cons a,rfl⟩
def allO (f:Nat->List (List Int)):Nat->List (List<|List Int)
 |0=>[[]]
 |n+1=>(allO f n).flatMap λa=>(f n).map λr=>a++[r]
def wayN (g:Nat->Nat):Nat->Nat
 |0=>1
 |n+1=>wayN g n*g n
theorem Zh2 {α β:Type}(c:Nat) (f:α -> List β):∀(l:List α),(∀a∈l,(f a).length=c)->(l.flatMap f).length=l.length*c
 |[],_=>by simp
 |a::l,h=>by
  rw[Wcj,Wao,h a (by simp),Zh2 c f l λb hb=>h b<|Way _ hb,Wa2,Nat.succ_mul];omega
theorem Zkn (f:Nat->List (List Int)):∀n,(allO f n).length=wayN (λp=>(f p).length) n
 |0=>rfl
 |n+1=>by
  show ((allO f n).flatMap _).length=_;rw[Zh2 (f n).length _ _ λa _=>Wac _,Zkn f n];rfl
theorem Zky {g:Nat->Nat}(hg:∀p,1<=g p):∀n,1<=wayN g n
 |0=>Waf 1
 |n+1=>Nat.mul_pos (Zky hg n) (hg n)
theorem Ziw {g:Nat->Nat}(hg:∀p,1<=g p) {n m:Nat}(h:n<=m):wayN g n<=wayN g m:=by
 induction h with
 |refl=>exact Waf _
 |@step m _ ih=>exact Wa8 ih (Wcv _ (hg m))
theorem Zsi {g:Nat->Nat}(hg:∀p,1<=g p) {p m:Nat}(h:p<m):wayN g p*g p<=wayN g m:=Ziw hg (show p+1<=m from h)
theorem Zfv {f:Nat->List (List Int)}:∀(n:Nat),∀o∈allO f n,o.length=n/\∀(p:Nat) r,o[p]?=some r->r∈f p
 |0,o,ho=>by
  have:o=[]:=by simpa [allO] using ho
  subst this;exact⟨rfl,λp r h=>by simp at h⟩
 |n+1,o,ho=>by
  obtain⟨a,ha,h2⟩:=List.mem_flatMap.mp (show o∈(allO f n).flatMap λa=>(f n).map λr=>a++[r] from ho);obtain⟨r,hr,rfl⟩:=Wbk.mp h2;obtain⟨hl,hrow⟩:=Zfv n a ha;refine⟨by rw[Wao,hl];rfl,λp q hq=>?_⟩;by_cases hp:p<a.length
  ·rw[Wa9 hp]at hq
   exact hrow p q hq
  ·rw[Wav (by omega)]at hq
   have h0:p-a.length=0:=by
    have:=(Wag.mp hq).1;simpa using this
   rw[h0]at hq;have e:r=q:=by simpa using hq
   subst e;rw[show p=n by omega];exact hr
def endsP (ts:List (Int × Int)) (p:Nat):List Int:=endsBelow ts (2*ts.length) (p:Int)
def degW (ts:List (Int × Int)) (p:Nat):Nat:=rm (endsP ts p).length
def ways (N:Nat) (ts:List (Int × Int)):Nat:=wayN (degW ts) N
def ordsW (N:Nat) (ts:List (Int × Int)):List (List<|List Int):=allO (λp=>rowsA<|endsP ts p) N
theorem Zfc (ts:List (Int × Int)) (p:Nat):1<=degW ts p:=Zk0 _
theorem Zgg (N:Nat) (ts:List (Int × Int)):(ordsW N ts).length=ways N ts:=by
 unfold ordsW ways;rw[Zkn,show (λp=>(rowsA<|endsP ts p).length)=degW ts from funext λp=>Zfp _]
theorem Zfa {N:Nat}{ts:List (Int × Int)}:∀o∈ordsW N ts,OrdOk (N:Int) ts o:=by
 intro o ho;obtain⟨hl,hr⟩:=Zfv N o ho;refine⟨by rw[hl],λp r h=>?_⟩;obtain⟨h1,h2⟩:=Zl0 (Zco ts _ _) r<|hr p r h;exact⟨h1,h2⟩
section
variable {P:Program}{w:World}{K:W.Frag}{mg:Str->Option Value}{base:Heap}{f:Addr}{fd:FuncData}
theorem Zow {K:W.Frag}{Δ:Evt}{n:Nat}{sel:List Nat}{wi1 wi2:TI}{g1 g2:TG}{te:TE}{Po:OD->Evt->Prop}
  (h:JI K wi1 Δ λds Δ1=>(∀i∈sel,∃d,Δ1[i]?=some (.val d))/\∃I:Nat->OD->Evt->Prop,I 0 (.lst []) (compD n sel Δ1) ∧
   (∀i d od Δ2,ds[i]?=some d->I i od Δ2->JG K g1 d Δ2 λΔ3=>JI K wi2 Δ3 λes Δ4=>∃I2:Nat->OD->Evt->Prop,I2 0 od Δ4 ∧
    (∀j e od2 Δ5,es[j]?=some e->I2 j od2 Δ5->JG K g2 e Δ5 λΔ6=>JB K (tAppL te) Δ6 od2 λod3 Δ8=>I2 (j+1) od3 Δ8)/\∀od2 Δ5,I2 es.length od2 Δ5->I (i+1) od2 Δ5) ∧
   ∀od Δ2,I ds.length od Δ2->Po od Δ1):JO K (tComp2 n sel wi1 g1 wi2 g2 (.lst []) (tAppL te)) Δ Po:=
 show JO K (tCompG n sel wi1 g1 (.lst []) λacc=>tLoop wi2 g2<|tAppL te acc) Δ Po from Zp7 (od0:=.lst []) (λ_=>.nil) λg G H σ R k c=>h g G H σ R k λJ ds G' H' Δ' k' s' it ⟨hv,I,h0,ht,he⟩=>c J ds G' H' Δ' k' s' it ⟨hv,I,h0,λi d od Δ2 hd hI g2' G2 H2 σ2 v R2 k2 r2 c2=>ht i d od Δ2 hd hI g2' G2 H2 σ2 v R2 k2 r2 λσ3 G3 H3 Δ3 k3 s3 p3=>c2 σ3 G3 H3 Δ3 k3 s3<|Zt4 p3,he⟩
end
def fRm:DSp:=λds Post=>∃n:Nat,ds=[.int (n:Int)]/\n<=1000/\Post (.int (rm n:Nat))
def fRowAt:DSp:=λds Post=>∃(E:List Int) (num:Nat),ds=[.lst (E.map .int),.int (num:Int)]/\E.length<=48/\num<rm E.length/\rm E.length<=960/\Post (encRow<|rowNo E num)
def fAllO:DSp:=λds Post=>∃(N:Nat) (ts:List (Int × Int)),ds=[encWeb (N:Int) ts]/\WebOk (N:Int) ts/\ways N ts<=960/\Post (.lst ((ordsW N ts).map encOrd))
theorem Zte (ds:List D):cutD ds none (some 1)=ds.take 1:=by
 cases ds with
 |nil=>rfl
 |cons d ds=>exact Zrr (d::ds) (j:=1) (by simp)
theorem Znk (ds:List D):cutD ds (some 1) none=ds.drop 1:=by
 cases ds with
 |nil=>rfl
 |cons d ds=>exact Zkj (d::ds) (j:=1) (by simp)
theorem Zl2 {R:List Int}{k m:Nat}(h:R.length=k+1):rowGo R.length R m=R.getD (m / rm R.length) 0::rowGo k (R.eraseIdx<|m / rm R.length) (m % rm R.length):=by rw[h];rfl
theorem Zek:∀(R:List Int) (i:Nat),(R.eraseIdx i).map D.int=(R.map D.int).eraseIdx i
 |[],_=>rfl
 |_::_,0=>rfl
 |a::R,i+1=>congrArg (D.int a :: ·) (Zek R i)
theorem Zge (ts:List (Int × Int)) (p:Nat):(endsP ts p).length<=2*ts.length:=Zh1 ts _ _
section
variable {P:Program}{w:World}{K:W.Frag}{mg:Str->Option Value}{base:Heap}{f:Addr}{fd:FuncData}
theorem Zur (mb:Mb mg) (F:Fun K "rows_many" "rows_many" Ybc f fd):FnOk P w K mg base CX0 1 f fd ["many"] (spD K fRm):=by
 refine F.ok Ya0 (Zbk λds Post h=>by obtain⟨_,rfl,_⟩:=h;rfl) λcdv A outer s H vs Q E hr h=>?_;have hu:=Zbn hr;refine⟨_,(Zae (Zan (i:=1) Ya0.nd rfl (Or.inl rfl) Zaf)<|Zae (Zc1 PassesOwn.never rfl (Zi6 rfl (mb "range"<|by decide)<|Zaa Zaf<|Zaa (pv 0) Zab) (Zar (i:=2) Ya0.nd rfl<|Or.inl rfl)<|Zai<|Zmm (i:=1) Ya0.nd rfl (Or.inl rfl) (pv 2) Zuh)<|Zai<|Zay<|pv 1),Zdj (λds Post hf=>?_) h⟩;obtain⟨n,rfl,hn,q⟩:=hf;refine⟨by simp,?_⟩;dsimp only[startD,Wbf,Wbh,Wa1,Wae];refine Zaq<|Zax<|Zao ?_;refine Zbb (λΔ=>∃x:L2.Slot,Δ = [.val (.int (n:Int)),.val (.int (rm n:Nat)),x]) ?_ ?_
 ·refine Zdd (Zjd<|Zac<|Zao<|Zac<|Zad rfl<|Zag ⟨2,n,rfl,by omega,λi Δ=>∃x:L2.Slot,Δ = [.val (.int (n:Int)),.val (.int (rm (i+2):Nat)),x],⟨_,rfl⟩,?_,?_⟩)
  ·rintro i d Δ2 hd ⟨x,rfl⟩
   obtain⟨hi,rfl⟩:=Za6 hd;refine Zbh<|Zmr rfl<|Zad rfl ⟨rfl,Zup (Or.inr ⟨by omega,by omega⟩) ⟨.val (.int (2+(i:Int))),?_⟩⟩;have e:((rm (i+2):Nat):Int)*(2+(i:Int))=((rm (i+1+2):Nat):Int):=by
    show _=((rm (i+2)*(i+2):Nat):Int);rw[Wdl];congr 1;omega
   rw[e];rfl
  ·rintro Δ2 ⟨x,rfl⟩
   rw[Za7];refine⟨x,?_⟩;have e:rm (((n:Int)-2).toNat+2)=rm n:=by
    by_cases h2:2<=n
    ·rw[show ((n:Int)-2).toNat+2=n by omega]
    ·rw[show ((n:Int)-2).toNat+2=2 by omega]
     match n,h2 with
     |0,_=>rfl
     |1,_=>rfl
     |n+2,h2=>omega
   rw[e]
 rintro Δ1 ⟨x,rfl⟩;exact Zbp<|Zad rfl q
theorem Zqx (mb:Mb mg) (C59:Callee P w K mg base 1 "rows_many" ["many"] (spD K fRm)) (F:Fun K "row_at" "row_at" Ybd f fd):FnOk P w K mg base CX0 2 f fd ["ends","number"] (spD K fRowAt):=by
 refine F.ok Yan (Zbk λds Post h=>by obtain⟨_,_,rfl,_⟩:=h;rfl) λcdv A outer s H vs Q E hr h=>?_;have hu:=Zbn hr;refine⟨_,(Zae (Zan (i:=2) Yan.nd rfl (Or.inl rfl)<|Zef (slK K) (pv 0) Zf1<|Zfk Zaf)<|Zae (Zan (i:=3) Yan.nd rfl (Or.inl rfl)<|Zef (slK K) (pv 0) (Zfk Zaf) Zf1)<|Zae (Zid PassesOwn.never (truK K (pv 3) λ_=>rfl)<|Zae (Zf6 (Zaj Zs5 rfl (mb "divmod"<|by decide) Zmz<|Zaa (pv 1)<|Zaa (Za1 C59 (hr.mono<|by decide)<|Zaa (Zaj (lenK K) rfl (mb "len"<|by decide) Zb4<|Zaa (pv 3) Zab) Zab) Zab)<|gtupK (n:=2) K rfl<|Zbq (Zar (i:=4) Yan.nd rfl<|Or.inl rfl)<|Zbq (Zar (i:=1) Yan.nd rfl<|Or.inl rfl) Zet)<|Zai<|Zcb<|bmK K PySem.F.plainAttrs_list PySem.F.slot_list_append PySem.F.type_list_append Zbc (pv 2)<|Zaa (bmK K PySem.F.plainAttrs_list PySem.F.slot_list_pop PySem.F.type_list_pop Zqu (pv 3)<|Zaa (pv 4) Zab) Zab)<|Zai<|Zay<|Zde (tupK K) rfl (mb "tuple"<|by decide) Zd9<|Zaa (pv 2) Zab),Zdj (λds Post hf=>?_) h⟩;obtain⟨E,num,rfl,hE,hnum,h960,q⟩:=hf;refine⟨by simp,?_⟩;dsimp only[startD,Wbf,Wbh,Wa1,Wae];refine Zaq<|Zcp<|Zuk<|Zad rfl<|Zfh<|Zf7<|Zao ⟨_,rfl,E.map D.int,rfl,?_⟩;rw[Zte];refine Zaq<|Zcp<|Zuk<|Zad rfl<|Zf7<|Zao ⟨_,rfl,Zfh ⟨E.map D.int,rfl,?_⟩⟩;rw[Znk,<- List.map_take,<- List.map_drop];refine Zbb (λΔ=>∃(m:Int) (x y:L2.Slot),Δ = [.val (.lst<|E.map D.int),.val (.int m),.own (.lst ((rowNo E num).map D.int)),x,y]) ?_ ?_
 ·refine Zic (fun μ Δ=>∃(r R:List Int) (m:Nat) (x:L2.Slot),μ = R.length/\r++rowGo R.length R m=rowNo E num/\m<rm (R.length+1)/\r.length+R.length=E.length /\ Δ = [.val (.lst<|E.map D.int),.val (.int (m:Int)),.own (.lst<|r.map D.int),.own (.lst<|R.map D.int),x]) ⟨_,E.take 1,E.drop 1,num,.any,rfl,?_,?_,?_,rfl⟩ ?_
  ·rw[Wcq];rfl
  ·cases E with
   |nil=>exact hnum
   |cons a l=>exact hnum
  ·rw[Wbu,Wcq];omega
  rintro μ Δ1 ⟨r,R,m,x,rfl,hrow,hm,hl,rfl⟩;cases hR:R with
  |nil=>
   subst hR;refine Zm5 (i:=3) rfl rfl<|Zfi<|Zad rfl ⟨false,rfl,iteF ⟨m,.own (.lst []),x,?_⟩⟩;rw[<- hrow];show _=[_,_,Slot.own (OD.lst ((r++[]).map D.int)),_,_];rw[Wbb];rfl
  |cons b R'=>
   rw[<- hR];have hk:R.length=R'.length+1:=by rw[hR];rfl
   refine Zm5 (i:=3) rfl rfl<|Zfi<|Zad rfl ⟨true,by rw[hR];rfl,?_⟩;have hp:=Zk0 R.length;have hmul:m<rm R.length*R.length:=by rw[hk]at hm ⊢;exact hm
   have hat:m / rm R.length<R.length:=Nat.div_lt_of_lt_mul hmul;have hle:rm R.length<=960:=Wa8 (Zjp<|by omega) h960;refine iteT<|Zaq<|Zku<|Zb1<|Zac<|Zad rfl<|Zac<|Zaz<|Zac<|Zh9 rfl rfl<|Zag ⟨R.length,by rw[Wac],by omega,Zag<|Zwm (by omega) (by omega) ?_⟩;rw[<- Int.natCast_ediv,<- Int.natCast_emod];refine Zie rfl<|Zcd<|Zbh<|Zcd<|Zbh<|Zf0 ?_;refine Zdy rfl rfl<|Ztz rfl rfl<|Zad rfl ⟨_,_,m / rm R.length,.int<|R.getD (m / rm R.length) 0,rfl,rfl,rfl,?_,?_,_,_,rfl,rfl,?_,?_⟩
   ·rw[Wah,Wad,Waa hat];rfl
   ·rw[Wac];omega
   ·rw[Wac];exact small1000 (by omega)
   refine⟨R'.length,by omega,r++[R.getD (m / rm R.length) 0],R.eraseIdx<|m / rm R.length,m % rm R.length,.val (.int ((m / rm R.length:Nat):Int)),?_,?_,?_,?_,?_⟩
   ·rw[Wbs hat];omega
   ·rw[<- hrow,Zl2 hk,Wbs hat,show R.length-1=R'.length by omega,Wck]
    rfl
   ·rw[Wbs hat,show R.length-1+1=R.length by omega]
    exact Wdr _ hp
   ·rw[Wbs hat,Wao,Wch];omega
   ·rw[Wbg,Zek]
    rfl
 rintro Δ1 ⟨m,x,y,rfl⟩;exact Zbp<|Zb1<|Zac<|Zhi rfl<|Zag<|Zfq (Or.inl rfl) q
theorem Zr9 (mb:Mb mg) (C45:Callee P w K mg base 2 "ends_at" ["web","place"] (spN K fEnds)) (C59:Callee P w K mg base 1 "rows_many" ["many"] (spD K fRm)) (C58:Callee P w K mg base 2 "row_at" ["ends","number"] (spD K fRowAt)) (F:Fun K "all_orders" "all_orders" Yal f fd):FnOk P w K mg base CX0 3 f fd ["web"] (spD K fAllO):=by
 refine F.ok Yaj (Zbk λds Post h=>by obtain⟨_,_,rfl,_⟩:=h;rfl) λcdv A outer s H vs Q E hr h=>?_;have hu:=Zbn hr;refine⟨_,(Zae (Zan (i:=1) Yaj.nd rfl (Or.inl rfl) (@Zcq _ _ _ _ (@Zaa _ _ _ _ _ (@Zam _ _ _ _ _ Zab) Zab (@Zau _ _ _ _ _))))<|Zae (Zc1 PassesOwn.never rfl (Za8 rfl (mb "range"<|by decide)<|Zaa (Zbv (ixK K hu) (pv 0) Zaf λ_ _=>rfl) Zab) (Zar (i:=2) Yaj.nd rfl<|Or.inl rfl)<|Zae (Zan (i:=3) Yaj.nd rfl (Or.inr rfl)<|Za1 C45 (hr.mono<|by decide)<|Zaa (pv 0)<|Zaa (pv 2) Zab)<|Zae (Zan (i:=4) Yaj.nd rfl (Or.inr rfl)<|Zcc ["number"] (show CompSc (defScope Yal) ["web","told","place","ends","rows"] _ ["ends"] [3] from ⟨rfl,by decide +kernel,by decide +kernel,by decide +kernel,rfl,by decide +kernel⟩) rfl (Za8 rfl (mb "range"<|by decide)<|Zaa (Za1 C59 (hr.mono<|by decide)<|Zaa (Zaj (lenK K) rfl (mb "len"<|by decide) Zb4<|Zaa (pv 3) Zab) Zab) Zab) (λ_ _ _ _ _=>(Zar (i:=0) (show List.Nodup (["number","ends"]:List Str) from by decide) rfl<|Or.inl rfl)) (λ_ _ _ _ _=>Zdk) λ_ _ _ _ _=>(Za1 C58 (hr.mono<|by decide)<|Zaa (pv 1)<|Zaa (pv 0) Zab))<|Zai<|Zo0 (i:=1) Yaj.nd rfl (Or.inl rfl) ["ahead","row"] (show CompSc (defScope Yal) ["web","told","place","ends","rows"] _ ["rows"] [4] from ⟨rfl,by decide +kernel,by decide +kernel,by decide +kernel,rfl,by decide +kernel⟩) rfl (seqK K<|pv 1) (λ_ _ _ _ _=>(Zar (i:=0) (show List.Nodup (["ahead","row","rows"]:List Str) from by decide) rfl<|Or.inl rfl)) (λ_ _ _ _ _=>(seqK K<|pv 2)) (λ_ _ _ _ _=>(Zar (i:=1) (show List.Nodup (["ahead","row","rows"]:List Str) from by decide) rfl<|Or.inl rfl)) λ_ _ _ _ _=>(Zaw (addK K) (pv 0)<|Zam<|Zaa (pv 1) Zab))<|Zai<|Zay<|pv 1),Zdj (λds Post hf=>?_) h⟩;obtain⟨N,ts,rfl,hW,hw,q⟩:=hf;refine⟨by simp,?_⟩;dsimp only[startD,Wbf,Wbh,Wa1,Wae];have hn:=hW.lo;have hn2:=hW.hi;have hts:=hW.len;refine Zaq<|Zax<|Zei<|Zac<|Zb7<|Zag ⟨by decide,Zag ⟨by show 1<=sizeLine;decide,?_⟩⟩;refine Zbb (λΔ=>∃x y z:L2.Slot,Δ = [.val (encWeb (N:Int) ts),.val (.lst ((ordsW N ts).map encOrd)),x,y,z]) ?_ ?_
 ·refine Zdd (Zba<|Zac<|Zes (Zpg (d:=.int (N:Int)) rfl rfl)<|Zag ⟨_,rfl,by omega,by omega,λi Δ=>∃x y z:L2.Slot,Δ = [.val (encWeb (N:Int) ts),.val (.lst ((ordsW i ts).map encOrd)),x,y,z],⟨_,_,_,rfl⟩,?_,?_⟩)
  ·rintro i d Δ2 hd ⟨x,y,z,rfl⟩
   obtain⟨hi,rfl⟩:=Za6 hd;have hi:i<N:=by simpa using hi
   have hle:wayN (degW ts) i*degW ts i<=960:=Wa8 (Zsi (Zfc ts) hi) hw;have hdp:=Zfc ts i;have hwp:=Zky (Zfc ts) i;have hd960:degW ts i<=960:=Wa8 (Nat.le_mul_of_pos_left _ hwp) hle;have hw960:wayN (degW ts) i<=960:=Wa8 (Wcv _ hdp) hle;have hel:=Zge ts i;have hE:rm (endsP ts i).length<=960:=hd960;refine Zbh<|Zaq<|Zax<|Zbt<|Zcx<|Zac<|Zad rfl<|Zac<|Zad rfl<|Zag ⟨(N:Int),ts,0+(i:Int),rfl,hts,_,rfl,?_⟩;rw[show endsBelow ts (2*ts.length) (0+(i:Int))=endsP ts i by rw[Wbj];rfl];refine Zaq<|Zax<|Zcv (by decide)<|Zba<|Zac<|Zaz<|Zac<|Zb1<|Zac<|Zad rfl<|Zag<|Zbo (Or.inl rfl)<|Zag ⟨(endsP ts i).length,by rw[Wac],by omega,Zag ⟨_,rfl,by omega,by omega,?_,λ_=>true,λd=>match d with|.int k=>encRow (rowNo (endsP ts i) k.toNat)|_=>.non,λj d hd=>?_,?_⟩⟩
   ·rw[Za7];exact small1000 (by omega)
   ·obtain⟨hj,rfl⟩:=Za6 hd
    rw[Waj]at hj;refine Zdm ⟨rfl,Zaz<|Zac<|Zad rfl<|Zac<|Zad rfl<|Zag ⟨endsP ts i,j,by rw[Wbj],by omega,hj,hE,?_,_,rfl⟩⟩;show _=encRow (rowNo (endsP ts i) (0+(j:Int)).toNat);rw[Wbj,Waj]
   have eR:((rngD 0 ((rm (endsP ts i).length:Nat):Int).toNat).filter λ_=>true).map (λd=>match d with|.int k=>encRow (rowNo (endsP ts i) k.toNat)|_=>D.non)=(rowsA<|endsP ts i).map encRow:=by
    rw[Wb0.mpr (by simp),Waj];unfold rngD rowsA;rw[Wba,Wba];refine Wbq λj _=>?_;show encRow (rowNo (endsP ts i) (0+(j:Int)).toNat)=encRow (rowNo (endsP ts i) j);rw[Wbj,Waj]
   rw[eR];refine Zax<|Zbt<|Zow<|Ze0<|Zad rfl ⟨_,Or.inl rfl,λj h=>?_,λj od Δ=>od=.lst ((((ordsW i ts).take j).flatMap λa=>(rowsA<|endsP ts i).map λr=>a++[r]).map encOrd)/\∃x y:L2.Slot,Δ = [x,y,.val (.lst ((rowsA<|endsP ts i).map encRow))],⟨rfl,_,_,rfl⟩,?_,?_⟩
   ·rw[Wbi]at h;subst h;exact⟨_,rfl⟩
   ·rintro j d od Δ2 hd ⟨rfl,x,y,rfl⟩
    rw[Wah]at hd;cases za:(ordsW i ts)[j]? with
    |none=>rw[za]at hd;cases hd
    |some a=>
     rw[za]at hd;cases hd;have haj:=(Wag.mp za).1;have hal:=(Zfv i a<|Wax za).1;have hoL:=Zgg i ts;have eW:ways i ts=wayN (degW ts) i:=rfl;refine Zbh<|Ze0<|Zad rfl ⟨_,Or.inl rfl,λl od Δ=>od=.lst ((((ordsW i ts).take j).flatMap λa=>(rowsA<|endsP ts i).map λr=>a++[r]).map encOrd++((rowsA<|endsP ts i).take l).map λr=>encOrd<|a++[r])/\∃y:L2.Slot,Δ = [.val (encOrd a),y,.val (.lst ((rowsA<|endsP ts i).map encRow))],⟨by rw[Wc7,Wds,Wbb],_,rfl⟩,?_,?_⟩
     ·rintro l e od2 Δ5 he ⟨rfl,y,rfl⟩
      rw[Wah]at he;cases zr:(rowsA<|endsP ts i)[l]? with
      |none=>rw[zr]at he;cases he
      |some r=>
       rw[zr]at he;cases he;have hlr:=(Wag.mp zr).1;rw[Zfp]at hlr;refine Zbh<|Zv5<|Zas<|Zad rfl<|Zb7<|Zac<|Zad rfl<|Zag ⟨by show 1<=sizeLine;decide,Zs3 ?_ ⟨?_,?_,_,rfl⟩⟩
       ·rw[Wac]
        exact Wb8<|small1000 (by show a.length+1<=1000;omega)
       ·have h1:(((ordsW i ts).take j).flatMap λa=>(rowsA<|endsP ts i).map λr=>a++[r]).length=j*degW ts i:=by
         rw[Zh2 (degW ts i) _ _ λb _=>by rw[Wac,Zfp];rfl,Wbu];congr 1;omega
        have h2:(j+1)*degW ts i<=wayN (degW ts) i*degW ts i:=Nat.mul_le_mul_right _ (by omega);rw[Nat.succ_mul]at h2;have h3:l<degW ts i:=hlr;rw[Wao,Wac,h1,Wac,Wbu];exact small1000 (by omega)
       ·rw[Wck]
        congr 2;rw[Wbw,zr,Wbg];show _=_++[encOrd (a++[r])];unfold encOrd;rw[Wbg];rfl
     ·rintro od2 Δ5 ⟨rfl,y,rfl⟩
      rw[Wac,Wbx];refine⟨?_,_,_,rfl⟩;rw[Wbw,za,Wdo,Wbg];congr 2;show _=(([a]:List (List<|List Int)).flatMap λa=>(rowsA<|endsP ts i).map λr=>a++[r]).map encOrd;rw[Wcj,Wdu,Wbb,Wba];rfl
   rintro od Δ2 ⟨rfl,x,y,rfl⟩;rw[Wac,Wbx];exact⟨_,rfl,_,_,_,rfl⟩
  ·rintro Δ2 ⟨x,y,z,rfl⟩
   rw[Za7,Waj];exact⟨x,y,z,rfl⟩
 rintro Δ1 ⟨x,y,z,rfl⟩;exact Zbp<|Zad rfl q
end
theorem Zrd (a:Nat):∀b,rm a*rm b<=rm (a+b)
 |0=>by rw[Nat.add_zero];exact Wdk (Nat.mul_one _)
 |1=>by
  rw[show rm 1=1 from rfl,Nat.mul_one];exact Zjp<|Wca a
 |b+2=>by
  have ih:=Zrd a<|b+1;have e1:rm (b+2)=rm (b+1)*(b+1):=rfl;have e2:rm (a+(b+2))=rm (a+(b+1))*(a+(b+1)):=by
   rw[show a+(b+2)=a+b+2 by omega,show a+(b+1)=a+b+1 by omega];rfl
  rw[e1,e2,<- Nat.mul_assoc];exact Nat.mul_le_mul ih (by omega)
def sumE (ts:List (Int × Int)):Nat->Nat
 |0=>0
 |k+1=>sumE ts k+(endsP ts k).length
theorem Zno (ts:List (Int × Int)):∀k,wayN (degW ts) k<=rm (sumE ts k)
 |0=>Waf 1
 |k+1=>Wa8 (Nat.mul_le_mul_right _ (Zno ts k)) (Zrd _ _)
theorem Zja (ts:List (Int × Int)):∀k,((Wak k).flatMap (endsP ts)).Nodup/\((Wak k).flatMap (endsP ts)).length=sumE ts k/\∀x∈(Wak k).flatMap (endsP ts),0<=x/\x<((2*ts.length:Nat):Int)/\placeAt ts x.toNat<(k:Int)
 |0=>⟨by simp,rfl,λx hx=>by simp at hx⟩
 |k+1=>by
  obtain⟨a,b,c⟩:=Zja ts k;have m:∀x∈endsP ts k,0<=x/\x<((2*ts.length:Nat):Int)/\placeAt ts x.toNat=(k:Int):=λx hx=>by
   obtain⟨e,he,hp,rfl⟩:=Zd8.mp hx;exact⟨by omega,by omega,by rw[Waj];exact hp⟩
  rw[List.range_succ,Wdo,Wcj,Wdu,Wbb];refine⟨List.nodup_append.mpr ⟨a,Zco ts _ _,λx hx y hy z=>?_⟩,by rw[Wao,b];rfl,λx hx=>?_⟩
  ·have h1:=(c x hx).2.2
   have h2:=(m y hy).2.2;rw[z]at h1;omega
  ·rcases Wbn.mp hx with h|h
   ·have:=c x h;exact⟨this.1,this.2.1,by omega⟩
   ·have:=m x h;exact⟨this.1,this.2.1,by omega⟩
theorem Zsd (ts:List (Int × Int)) (k:Nat):sumE ts k<=2*ts.length:=by
 obtain⟨a,b,c⟩:=Zja ts k;have:=Zb8 (m:=(Wak (2*ts.length)).map λe:Nat=>(e:Int)) a λx hx=>by
  have h:=c x hx;exact Wbk.mpr ⟨x.toNat,Wa6.mpr (by omega),by omega⟩
 rw[Wac,Wbd]at this;omega
theorem Zre {n:Nat}(h:n<=48):rm n<=258623241511168180642964355153611979969197632389120000000000:=Wa8 (Zjp h) (by decide +kernel)
theorem Zon {ts:List (Int × Int)}(h:ts.length<=24) (k:Nat):wayN (degW ts) k<=258623241511168180642964355153611979969197632389120000000000:=Wa8 (Zno ts k) (Zre<|Wa8 (Zsd ts k) (by omega))
theorem Znh {n:Nat}(h:n<=258623241511168180642964355153611979969197632389120000000000):(n:Int)<2 ^ 500:=by
 have h2:(n:Int)<=258623241511168180642964355153611979969197632389120000000000:=by omega
 exact Int.lt_of_le_of_lt h2 (by decide +kernel)
def fOmB:DSp:=λds Post=>∃(N:Nat) (ts:List (Int × Int)),ds=[encWeb (N:Int) ts]/\WebOk (N:Int) ts/\Post (.int (ways N ts:Nat))
section
variable {P:Program}{w:World}{K:W.Frag}{mg:Str->Option Value}{base:Heap}{f:Addr}{fd:FuncData}
theorem Zrh (mb:Mb mg) (C59:Callee P w K mg base 1 "rows_many" ["many"] (spD K fRm)) (C45:Callee P w K mg base 2 "ends_at" ["web","place"] (spN K fEnds)) (F:Fun K "orders_many" "orders_many" Ybb f fd):FnOk P w K mg base CX0 3 f fd ["web"] (spD K fOmB):=by
 refine F.ok Yaz (Zbk λds Post h=>by obtain⟨_,_,rfl,_⟩:=h;rfl) λcdv A outer s H vs Q E hr h=>?_;have hu:=Zbn hr;refine⟨_,(Zae (Zan (i:=1) Yaz.nd rfl (Or.inl rfl) Zaf)<|Zae (Zc1 PassesOwn.never rfl (Za8 rfl (mb "range"<|by decide)<|Zaa (Zbv (ixK K hu) (pv 0) Zaf λ_ _=>rfl) Zab) (Zar (i:=2) Yaz.nd rfl<|Or.inl rfl)<|Zai<|Zmm (i:=1) Yaz.nd rfl (Or.inl rfl) (Za1 C59 (hr.mono<|by decide)<|Zaa (Zaj (lenK K) rfl (mb "len"<|by decide) Zb4<|Zaa (Za1 C45 (hr.mono<|by decide)<|Zaa (pv 0)<|Zaa (pv 2) Zab) Zab) Zab) Zoi)<|Zai<|Zay<|pv 1),Zdj (λds Post hf=>?_) h⟩;obtain⟨N,ts,rfl,hW,q⟩:=hf;refine⟨by simp,?_⟩;dsimp only[startD,Wbf,Wbh,Wa1,Wae];have hn:=hW.lo;have hn2:=hW.hi;have hts:=hW.len;refine Zaq<|Zax<|Zao ?_;refine Zbb (λΔ=>∃x:L2.Slot,Δ = [.val (encWeb (N:Int) ts),.val (.int (ways N ts:Nat)),x]) ?_ ?_
 ·refine Zdd (Zba<|Zac<|Zes (Zpg (d:=.int (N:Int)) rfl rfl)<|Zag ⟨_,rfl,by omega,by omega,λi Δ=>∃x:L2.Slot,Δ = [.val (encWeb (N:Int) ts),.val (.int (wayN (degW ts) i:Nat)),x],⟨_,rfl⟩,?_,?_⟩)
  ·rintro i d Δ2 hd ⟨x,rfl⟩
   obtain⟨hi,rfl⟩:=Za6 hd;have hel:=Zge ts i;have h1:=Znh<|Zon hts i;have h2:=Znh (Zre (n:=(endsP ts i).length)<|by omega);refine Zbh<|Zmr rfl<|Zaz<|Zac<|Zb1<|Zac<|Zbt<|Zcx<|Zac<|Zad rfl<|Zac<|Zad rfl<|Zag ⟨(N:Int),ts,0+(i:Int),rfl,hts,_,rfl,Zag<|Zbo (Or.inl rfl)<|Zag ⟨(endsP ts i).length,?_,by omega,rfl,Zof ⟨⟨by omega,h1⟩,by omega,h2⟩ ⟨.val (.int (0+(i:Int))),?_⟩⟩⟩
   ·rw[Wac,Wbj]
    rfl
   rw[<- Wdl];rfl
  ·rintro Δ2 ⟨x,rfl⟩
   rw[Za7,Waj];exact⟨x,rfl⟩
 rintro Δ1 ⟨x,rfl⟩;exact Zbp<|Zad rfl q
end
def ordI (d:D):List (List Int):=match d with
 |.tup ds=>ds.map λe=>match e with
  |.tup es=>es.map λx=>match x with|.int i=>i|_=>0
  |_=>[]
 |_=>[]
theorem Zk2 (o:List (List Int)):ordI (encOrd o)=o:=by
 show Wbh _ (Wbh encRow o)=o;rw[Wba]
 conv=>rhs;rw[<- List.map_id o]
 refine Wbq λr _=>?_;show (r.map D.int).map _=r;rw[Wba]
 conv=>rhs;rw[<- List.map_id r]
 exact Wbq λx _=>rfl
noncomputable def heldL (N:Nat) (ts:List (Int × Int)) (ms:List Int) (os:List (List<|List Int)):List Int:=os.map λo=>holesI (N:Int) ts o ms
def fHoA:DSp:=λds Post=>∃(N:Nat) (ts:List (Int × Int)) (os:List (List<|List Int)),ds=[encWeb (N:Int) ts,.lst (os.map encOrd)]/\WebOk (N:Int) ts/\(∀o∈os,OrdOk (N:Int) ts o)/\os.length<=1000/\∀ms,Firsts ms (marksL N ts)->Post (.lst ((heldL N ts ms os).map .int))
theorem Zpw (N:Nat) (ts:List (Int × Int)) (ms:List Int) (os:List (List<|List Int)):(heldL N ts ms os).length=os.length:=Wac _
section
variable {P:Program}{w:World}{K:W.Frag}{mg:Str->Option Value}{base:Heap}{f:Addr}{fd:FuncData}
theorem Zrx (mb:Mb mg) (C49:Callee P w K mg base 6 "holes" ["web","order"] (spD K fHoles)) (F:Fun K "holes_of_all" "holes_of_all" Yau f fd):FnOk P w K mg base CX0 7 f fd ["web","orders"] (spD K fHoA):=by
 refine F.ok Ybx (Zbk λds Post h=>by obtain⟨_,_,_,rfl,_⟩:=h;rfl) λcdv A outer s H vs Q E hr h=>?_;have hu:=Zbn hr;refine⟨_,(Zai<|Zay<|Zcc ["order"] (show CompSc (defScope Yau) ["web","orders"] _ ["web"] [0] from ⟨rfl,by decide +kernel,by decide +kernel,by decide +kernel,rfl,by decide +kernel⟩) rfl (seqK K<|pv 1) (λ_ _ _ _ _=>(Zar (i:=0) (show List.Nodup (["order","web"]:List Str) from by decide) rfl<|Or.inl rfl)) (λ_ _ _ _ _=>Zdk) λ_ _ _ _ _=>(Za1 C49 (hr.mono<|by decide)<|Zaa (pv 1)<|Zaa (pv 0) Zab)),Zdj (λds Post hf=>?_) h⟩;obtain⟨N,ts,os,rfl,hW,hO,hl,q⟩:=hf;refine⟨by simp,?_⟩;dsimp only[startD,Wbf,Wbh,Wa1,Wae];obtain⟨ms,hm⟩:=Zcz<|marksL N ts;refine Zbp<|Zcv (by decide)<|Ze0<|Zad rfl ⟨_,Or.inl rfl,by rw[Wac];exact small1000 hl,λ_=>true,λd=>.int<|holesI (N:Int) ts (ordI d) ms,λi d hd=>?_,?_⟩
 ·rw[Wah]at hd
  cases z:os[i]? with
  |none=>rw[z]at hd;cases hd
  |some o=>
   rw[z]at hd;cases hd;refine Zdm ⟨rfl,Zaz<|Zac<|Zad rfl<|Zac<|Zad rfl<|Zag ⟨(N:Int),ts,o,rfl,hW,hO o<|Wax z,λms' hm'=>⟨?_,_,rfl⟩⟩⟩;rw[Waj]at hm';show _=D.int (holesI (N:Int) ts (ordI<|encOrd o) ms);rw[Zbj hm'.1 hm.1 λx=>(hm'.2 x).trans (hm.2 x).symm,Zk2]
 ·rw[Wb0.mpr (by simp),Wba]
  have:=q ms hm;unfold heldL at this;rw[Wba]at this;have e:((λd=>D.int<|holesI (N:Int) ts (ordI d) ms)∘encOrd)=(D.int∘λo=>holesI (N:Int) ts o ms):=funext λo=>by
   show D.int (holesI (N:Int) ts (ordI<|encOrd o) ms)=_;rw[Zk2];rfl
  rw[e];exact this
def fEndsU:NSp:=λds Post=>∃(n:Int) (ts:List (Int × Int)) (X:D) (p:Int),ds=[.tup [.int n,X],.int p]/\(X=.lst (ts.map encTie)\/X=.tup (ts.map encTie))/\ts.length<=25/\Post ((endsBelow ts (2*ts.length) p).map .int)
def fWays:DSp:=λds Post=>∃(N:Nat) (ts:List (Int × Int)) (X:D),ds=[.tup [.int (N:Int),X]]/\(X=.lst (ts.map encTie)\/X=.tup (ts.map encTie))/\ts.length<=25/\N<=25/\Post (.int (ways N ts:Nat))
theorem Zsv {K:W.Frag}{Δ:Evt}{P:D->Evt->Prop}{X d:D}{ds:List D}{i:Int}(hX:X=.lst ds\/X=.tup ds) (h:atI ds i=some d) (p:P d Δ):JR2 K (rIxU K) X (.int i) Δ P:=by
 rcases hX with rfl|rfl
 ·exact Zci h p
 ·exact Zca h p
theorem Zq8 (mb:Mb mg) (F:Fun K "_law_ends" "_law_ends" Yaw f fd):FnOk P w K mg base CX0 1 f fd ["_law_web_here","_law_place"] (spN K fEndsU):=by
 refine F.ok Yb1 (Zeo λds Post h=>by obtain⟨_,_,_,_,rfl,_⟩:=h;rfl) λcdv A outer s H vs Q E hr h=>?_;have hu:=Zbn hr;refine⟨_,(Zai<|Zay<|Zcc ["_law_k"] (show CompSc (defScope Yaw) ["_law_web_here","_law_place"] _ ["_law_web_here","_law_place"] [0,1] from ⟨rfl,by decide +kernel,by decide +kernel,by decide +kernel,rfl,by decide +kernel⟩) rfl (Za8 rfl (mb "range"<|by decide)<|Zaa (Zaw Zdo Zaf<|Zaj (lenK K) rfl (mb "len"<|by decide) Zb4<|Zaa (Zbv (ixK K hu) (pv 0) Zaf λ_ _=>rfl) Zab) Zab) (λ_ _ _ _ _=>(Zar (i:=0) (show List.Nodup (["_law_k","_law_web_here","_law_place"]:List Str) from by decide) rfl<|Or.inl rfl)) (λ_ _ _ _ _=>(Zfo<|Za0 Zc3 (Zbv (ixK K hu) (Zbv (ixK K hu) (Zbv (ixK K hu) (pv 1) Zaf λ_ _=>rfl) (Zaw Zhm (pv 0) Zaf) λ_ _=>rfl) (Zaw Zck (pv 0) Zaf) λ_ _=>rfl) (pv 2)<|nomark _)) λ_ _ _ _ _=>(pv 0)),Zma (λds Post hf=>?_) h⟩;obtain⟨n,ts,X,p,rfl,hX,hl,q⟩:=hf;refine⟨by simp,?_⟩;dsimp only[startD,Wbf,Wbh,Wa1];have hlen:(ts.map encTie).length=ts.length:=Wac _;refine Zen<|Zfb (by decide)<|Zba ?_;refine Zac<|Zas<|Zao<|Zb1 ?_;refine Zac<|Zas<|Zad rfl<|Zao<|Zca (d:=X) rfl ?_;refine Zag<|Zbo (hX.imp (λz=>by rw[z]) λz=>by rw[z]) ?_;rw[Wac];refine jr_I (Or.inl ⟨by omega,by omega⟩)<|Zag ⟨_,rfl,by omega,by omega,?_⟩;have eL:((2:Int)*(ts.length:Int)).toNat=2*ts.length:=by omega
 rw[eL];refine⟨by rw[Za7];exact small1000 (by omega),λd=>match d with|.int e=>decide (placeAt ts e.toNat=p)|_=>false,λd=>d,λi d hd=>?_,?_⟩
 ·obtain⟨hi,rfl⟩:=Za6 hd
  obtain⟨t,h1,h2,h3⟩:=Zrj hi;refine Zbg<|Zas<|Zas<|Zas<|Zas<|Zad rfl<|Zao<|Zca (d:=X) rfl ?_;refine Zas<|Zad rfl<|Zao<|jr_I ⟨by omega,by omega⟩<|Zsv hX h2 ?_;refine Zas<|Zad rfl<|Zao<|jr_I (by show (0:Int)<2;omega)<|Zca h3 ?_;refine Zad rfl<|Zgn ⟨_,rfl,?_,?_⟩
  ·show _=decide (placeAt ts (0+(i:Int)).toNat=p)
   rw[Wbj,Waj]
  ·by_cases hp:placeAt ts i=p
   ·rw[decide_eq_true hp,if_pos rfl];exact Zad rfl ⟨rfl,_,rfl⟩
   ·rw[decide_eq_false hp,if_neg Wal];exact⟨_,rfl⟩
 ·rw[List.map_id',Zgc ts _ p _ λk=>by show decide (placeAt ts (0+(k:Int)).toNat=p)=_;rw[Wbj,Waj]]
  exact⟨_,rfl,q⟩
theorem Zr7 (mb:Mb mg) (C34:Callee P w K mg base 1 "_law_ends" ["_law_web_here","_law_place"] (spN K fEndsU)) (F:Fun K "_law_ways" "_law_ways" Ybl f fd):FnOk P w K mg base CX0 2 f fd ["_law_web_here"] (spD K fWays):=by
 refine F.ok Yao (Zbk λds Post h=>by obtain⟨_,_,_,rfl,_⟩:=h;rfl) λcdv A outer s H vs Q E hr h=>?_;have hu:=Zbn hr;refine⟨_,(Zae (Zan (i:=1) Yao.nd rfl (Or.inl rfl) Zaf)<|Zae (Zc1 PassesOwn.never rfl (Za8 rfl (mb "range"<|by decide)<|Zaa (Zbv (ixK K hu) (pv 0) Zaf λ_ _=>rfl) Zab) (Zar (i:=2) Yao.nd rfl<|Or.inl rfl)<|Zai<|Zc1 PassesOwn.never rfl (Zi6 rfl (mb "range"<|by decide)<|Zaa Zaf<|Zaa (Zaj (lenK K) rfl (mb "len"<|by decide) Zb4<|Zaa (Za1 C34 (hr.mono<|by decide)<|Zaa (pv 0)<|Zaa (pv 2) Zab) Zab) Zab) (Zar (i:=3) Yao.nd rfl<|Or.inl rfl)<|Zai<|Zan (i:=1) Yao.nd rfl (Or.inl rfl)<|Zaw Zdo (pv 1)<|pv 3)<|Zai<|Zay<|pv 1),Zdj (λds Post hf=>?_) h⟩;obtain⟨N,ts,X,rfl,hX,hts,hN,q⟩:=hf;refine⟨by simp,?_⟩;dsimp only[startD,Wbf,Wbh,Wa1,Wae];refine Zaq<|Zax<|Zao ?_;refine Zbb (λΔ=>∃x y:L2.Slot,Δ = [.val (.tup [.int (N:Int),X]),.val (.int (ways N ts:Nat)),x,y]) ?_ ?_
 ·refine Zdd (Zba<|Zac<|Zes (Zpg (d:=.int (N:Int)) rfl rfl)<|Zag ⟨_,rfl,by omega,by omega,λi Δ=>∃x y:L2.Slot,Δ = [.val (.tup [.int (N:Int),X]),.val (.int (wayN (degW ts) i:Nat)),x,y],⟨_,_,rfl⟩,?_,?_⟩)
  ·rintro i d Δ2 hd ⟨x,y,rfl⟩
   obtain⟨hi,rfl⟩:=Za6 hd;have hi:i<N:=by simpa using hi
   have hel:=Zge ts i;refine Zbh<|Zdd<|Zjd<|Zac<|Zao<|Zac<|Zb1<|Zac<|Zbt<|Zcx<|Zac<|Zad rfl<|Zac<|Zad rfl<|Zag ⟨(N:Int),ts,X,0+(i:Int),rfl,hX,hts,_,rfl,Zag<|Zbo (Or.inl rfl) ?_⟩;rw[show endsBelow ts (2*ts.length) (0+(i:Int))=endsP ts i by rw[Wbj];rfl,Wac];refine Zag ⟨2,_,rfl,by omega,λj Δ=>∃x y:L2.Slot,Δ = [.val (.tup [.int (N:Int),X]),.val (.int (wayN (degW ts) i*rm (j+2):Nat)),x,y],⟨.val (.int (0+(i:Int))),y,?_⟩,?_,?_⟩
   ·rw[show rm (0+2)=1 from rfl,Nat.mul_one]
    rfl
   ·rintro j d Δ2 hd ⟨x,y,rfl⟩
    obtain⟨hj,rfl⟩:=Za6 hd;refine Zbh<|Zax<|Zas<|Zad rfl<|Zad rfl<|jr_I (Or.inr ⟨by omega,by omega⟩) ⟨x,.val (.int (2+(j:Int))),?_⟩;have e:((wayN (degW ts) i*rm (j+2):Nat):Int)*(2+(j:Int))=((wayN (degW ts) i*rm (j+1+2):Nat):Int):=by
     show _=((wayN (degW ts) i*(rm (j+2)*(j+2)):Nat):Int);rw[<- Nat.mul_assoc,Wdl (_*_)];congr 1;omega
    rw[e];rfl
   ·rintro Δ2 ⟨x,y,rfl⟩
    rw[Za7];refine⟨x,y,?_⟩;have e:rm ((((endsP ts i).length:Nat):Int)-2).toNat.succ.succ=degW ts i:=by
     unfold degW;generalize (endsP ts i).length=n;by_cases h2:2<=n
     ·rw[show ((n:Int)-2).toNat.succ.succ=n by omega]
     ·rw[show ((n:Int)-2).toNat.succ.succ=2 by omega]
      match n,h2 with
      |0,_=>rfl
      |1,_=>rfl
      |n+2,h2=>omega
    show _=[_,Slot.val (D.int ((wayN (degW ts) i*degW ts i:Nat):Int)),_,_];rw[<- e]
  ·rintro Δ2 ⟨x,y,rfl⟩
   rw[Za7,Waj];exact⟨x,y,rfl⟩
 rintro Δ1 ⟨x,y,rfl⟩;exact Zbp<|Zad rfl q
end
def pad (l:List Int) (h:Nat):List Int:=l++Wae (h+1-l.length) 0
def cnt1 (l:List Int) (h:Nat):List Int:=(pad l h).set h (l.getD h 0+1)
def cntL (hs:List Nat):List Int:=hs.foldl cnt1 []
theorem Zhj (l:List Int) (h:Nat):(pad l h).length=max l.length (h+1):=by
 unfold pad;rw[Wao,Waq];omega
theorem Zhe (l:List Int) (h i:Nat):(pad l h).getD i 0=l.getD i 0:=by
 unfold pad;rw[Wad,Wad];by_cases hi:i<l.length
 ·rw[Wa9 hi]
 ·rw[Wav (by omega),Wbm,Wdh (l:=l) (by omega)]
  split <;> rfl
theorem Zhx (l:List Int) (h:Nat):(cnt1 l h).length=max l.length (h+1):=by
 unfold cnt1;rw[Wct,Zhj]
theorem Zik (l:List Int) (h i:Nat):(cnt1 l h).getD i 0=if i=h then l.getD h 0+1 else l.getD i 0:=by
 unfold cnt1;rw[Wad,Wcz];by_cases e:h=i
 ·subst e
  have:h<(pad l h).length:=by rw[Zhj];omega
  rw[if_pos rfl,if_pos this,if_pos rfl];rfl
 ·rw[if_neg e,if_neg (λz=>e z.symm),<- Wad,Zhe]
theorem Zn4:∀(l:List Int) (i:Nat),i<l.length->(l.set i<|l.getD i 0+1).sum=l.sum+1
 |[],i,h=>by simp at h
 |a::l,0,_=>by
  show ((a+1)::l).sum=(a::l).sum+1;rw[Wdb,Wdb];omega
 |a::l,i+1,h=>by
  have ih:=Zn4 l i (by simpa using h);show (a::l.set i (l.getD i 0+1)).sum=(a::l).sum+1;rw[Wdb,Wdb,ih];omega
theorem Zm8 (k:Nat):(Wae k (0:Int)).sum=0:=by
 induction k with
 |zero=>rfl
 |succ k ih=>rw[Wc3,Wdb,ih];rfl
theorem Zp5 (l:List Int) (h:Nat):(cnt1 l h).sum=l.sum+1:=by
 unfold cnt1;rw[<- Zhe l h h,Zn4 _ _ (by rw[Zhj];omega)];unfold pad;rw[List.sum_append,Zm8];omega
def LastPos (l:List Int):Prop:=(∀i,0<=l.getD i 0)/\(l=[]\/1<=l.getD (l.length-1) 0)
theorem Zok {l:List Int}(hl:LastPos l) (h:Nat):LastPos (cnt1 l h):=by
 refine⟨λi=>?_,.inr ?_⟩
 ·rw[Zik]
  have:=hl.1 i;have:=hl.1 h;split <;> omega
 ·rw[Zhx,Zik]
  have h1:=hl.1 h;split
  ·omega
  ·next z=>
   rcases hl.2 with e|e
   ·subst e;simp at z
   ·rw[show max l.length (h+1)-1=l.length-1 by omega];exact e
theorem Zra (hs:List Nat) (B:Nat) (hB:∀h∈hs,h<=B):∀l:List Int,LastPos l->l.length<=B+1->LastPos (hs.foldl cnt1 l)/\(hs.foldl cnt1 l).sum=l.sum+hs.length/\(hs.foldl cnt1 l).length<=B+1/\l.length<=(hs.foldl cnt1 l).length:=by
 induction hs with
 |nil=>intro l h1 h2;exact⟨h1,by simp,h2,Waf _⟩
 |cons h hs ih=>
  intro l h1 h2;have hb:=hB h (by simp);obtain⟨a,b,c,d⟩:=ih (λx hx=>hB x<|Way _ hx) (cnt1 l h) (Zok h1 h) (by rw[Zhx];omega);refine⟨a,?_,c,?_⟩
  ·show (hs.foldl cnt1<|cnt1 l h).sum=_
   rw[b,Zp5,Wa2];omega
  ·show _<=(hs.foldl cnt1<|cnt1 l h).length
   rw[Zhx]at d;omega
theorem Zkg {hs:List Nat}{B:Nat}(hB:∀h∈hs,h<=B):LastPos (cntL hs)/\(cntL hs).sum=hs.length/\(cntL hs).length<=B+1:=by
 obtain⟨a,b,c,_⟩:=Zra hs B hB [] ⟨λi=>by simp,.inl rfl⟩ (by simp);exact⟨a,by rw[show cntL hs=hs.foldl cnt1 [] from rfl,b];simp,c⟩
theorem Zoh (hs:List Nat) {i h:Nat}(z:hs[i]?=some h):cntL (hs.take<|i+1)=cnt1 (cntL<|hs.take i) h:=by
 unfold cntL;rw[Wbw,z,List.foldl_append];rfl
noncomputable def hsW (N:Nat) (ts:List (Int × Int)) (ms:List Int) (os:List (List<|List Int)):List Nat:=os.map λo=>(holesI (N:Int) ts o ms).toNat
theorem Znm {N:Nat}{ts:List (Int × Int)}{o:List (List Int)}{ms:List Int}(hW:WebOk (N:Int) ts) (hO:OrdOk (N:Int) ts o) (hm:Firsts ms (marksL N ts)):∃h:Nat,holesI (N:Int) ts o ms=(h:Int)/\h<=25:=by
 obtain⟨h1,h2⟩:=Zql hW hO hm;have hml:=hm.len;have hmk:=Zbz N ts;have hts:=hW.len;have hhi:=hW.hi;refine⟨(holesI (N:Int) ts o ms).toNat,by omega,by omega⟩
theorem Zrc {N:Nat}{ts:List (Int × Int)}{ms:List Int}{os:List (List<|List Int)}(hW:WebOk (N:Int) ts) (hO:∀o∈os,OrdOk (N:Int) ts o) (hm:Firsts ms (marksL N ts)):∀h∈hsW N ts ms os,h<=25:=λh hh=>by
 obtain⟨o,ho,rfl⟩:=Wbk.mp hh;obtain⟨k,e,hk⟩:=Znm hW (hO o ho) hm;rw[e];exact hk
section
variable {P:Program}{w:World}{K:W.Frag}{mg:Str->Option Value}{base:Heap}{f:Addr}{fd:FuncData}
theorem Zso {j n:Nat}(h:j<n):ixN n (j:Int)=some j:=by
 unfold ixN;rw[if_pos (by omega),if_pos (by omega)];rfl
end
def fCnt:BSp:=λps ds Post=>∃(l:List Int) (h:Nat),ps=l.map .int/\ds=[.int (h:Int)]/\l.length<=30/\h<=25/\Post .non ((cnt1 l h).map .int)
def fCounts:NSp:=λds Post=>∃(N:Nat) (ts:List (Int × Int)),ds=[encWeb (N:Int) ts]/\WebOk (N:Int) ts/\ways N ts<=960/\∀ms,Firsts ms (marksL N ts)->Post ((cntL<|hsW N ts ms<|ordsW N ts).map .int)
theorem Ztv {l:List Int}{i:Nat}(h:i<l.length):(l.map D.int)[i]?=some (.int<|l.getD i 0):=by
 rw[Wah,Wad,Waa h];rfl
theorem Zsy {hs:List Nat}{i:Nat}:∀h∈hs.take i,h∈hs:=λh hh=>List.mem_of_mem_take hh
section
variable {P:Program}{w:World}{K:W.Frag}{mg:Str->Option Value}{base:Heap}{f:Addr}{fd:FuncData}
theorem Zrl (mb:Mb mg) (F:Fun K "count_one" "count_one" Ybe f fd):FnOk P w K mg base CX0 1 f fd ["told","number"] (spB K fCnt):=by
 refine F.ok Yby (Zib λps ds Post h=>by obtain⟨_,_,_,rfl,_⟩:=h;rfl) λcdv A outer s H vs Q E hr h=>?_;have hu:=Zbn hr;refine⟨_,(Zae (Zid PassesOwn.never (Za0 Zwp (Zaj (lenK K) rfl (mb "len"<|by decide) Zb4<|Zaa (pv 0) Zab) (pv 1)<|nomark _)<|Zai<|Zcb<|bmK K PySem.F.plainAttrs_list PySem.F.slot_list_append PySem.F.type_list_append Zbc (pv 0)<|Zaa Zaf Zab)<|Zai<|Zsp (pv 0) (pv 1) (getLK K) Zaf Zuq<|setU hu),Zqp (λps ds Post hf=>?_) h⟩;obtain⟨l,h,rfl,rfl,hl,hh,q⟩:=hf;refine⟨by simp,?_⟩;dsimp only[cxOf,startD,Wbf,Wbh,Wa1,Wae];refine Zbb (λΔ=>Δ = [.bor (.lst ((pad l h).map .int)),.val (.int (h:Int))]) ?_ ?_
 ·refine Zic (fun μ Δ=>∃k:Nat,k<=h+1-l.length /\ μ = h+1-l.length-k /\ Δ = [.bor (.lst ((l++Wae k 0).map .int)),.val (.int (h:Int))]) ⟨_,0,Wb1 _,rfl,by simp⟩ ?_
  rintro μ Δ1 ⟨k,hk,rfl,rfl⟩;have hlen:((l++Wae k (0:Int)).map D.int).length=l.length+k:=by rw[Wac,Wao,Waq]
  refine Zbg<|Zas<|Zh9 rfl rfl<|Zad rfl<|Zlb ⟨_,rfl,ite2 (λc=>?_) λc=>?_⟩
  ·rw[decide_eq_true_eq,hlen]at c
   refine Zdy rfl rfl<|Zao ⟨_,_,rfl,rfl,?_,h+1-l.length-(k+1),by omega,k+1,by omega,rfl,?_⟩
   ·rw[hlen];exact small1000 (by omega)
   ·rw[List.replicate_succ',<- Wck,Wbg (l₁:=l++Wae k 0)]
    rfl
  ·rw[decide_eq_true_eq,hlen]at c
   unfold pad;rw[show h+1-l.length=k by omega]
 rintro Δ1 rfl;have hp:h<(pad l h).length:=by rw[Zhj];omega
 refine Zsq (j:=h) (a:=l.getD h 0) rfl rfl rfl (Zso (by rw[Wac];exact hp)) (by omega) (by rw[Ztv hp,Zhe]) ⟨_,rfl,?_⟩;have e:(Wbh D.int<|pad l h).set h (.int<|l.getD h 0+1)=(cnt1 l h).map D.int:=by
  unfold cnt1;rw[List.map_set]
 rw[e];exact q
theorem Zmo (mb:Mb mg) (C50:Callee P w K mg base 7 "holes_of_all" ["web","orders"] (spD K fHoA)) (C60:Callee P w K mg base 4 "small_orders" ["web"] (spD K fAllO)) (C41:Callee P w K mg base 1 "count_one" ["told","number"] (spB K fCnt)) (F:Fun K "counts" "counts" Yas f fd):FnOk P w K mg base CX0 8 f fd ["web"] (spN K fCounts):=by
 refine F.ok Yak (Zeo λds Post h=>by obtain⟨_,_,rfl,_⟩:=h;rfl) λcdv A outer s H vs Q E hr h=>?_;have hu:=Zbn hr;refine⟨_,(Zae (Zan (i:=1) Yak.nd rfl (Or.inl rfl)<|Zcq Zab)<|Zae (Zc1 PassesOwn.never rfl (seqK K<|Za1 C50 (hr.mono<|by decide)<|Zaa (pv 0)<|Zaa (Za1 C60 (hr.mono<|by decide)<|Zaa (pv 0) Zab) Zab) (Zar (i:=2) Yak.nd rfl<|Or.inl rfl)<|Zai<|Zcb<|Za1 C41 (hr.mono<|by decide)<|Zaa (pv 1)<|Zaa (pv 2) Zab)<|Zai<|Zay<|pv 1),Zma (λds Post hf=>?_) h⟩;obtain⟨N,ts,rfl,hW,hw,q⟩:=hf;refine⟨by simp,?_⟩;dsimp only[startD,Wbf,Wbh,Wa1,Wae];have hol:=Zgg N ts;obtain⟨ms,hm⟩:=Zcz<|marksL N ts;refine Zaq<|Zcp<|Zgr<|Zag ⟨by decide,?_⟩;refine Zbb (λΔ=>∃x:L2.Slot,Δ = [.val (encWeb (N:Int) ts),.own (.lst ((cntL<|hsW N ts ms<|ordsW N ts).map .int)),x]) ?_ ?_
 ·refine Zdd (Ze0<|Zaz<|Zac<|Zad rfl<|Zac<|Zaz<|Zac<|Zad rfl<|Zag ⟨N,ts,rfl,hW,hw,Zag ⟨N,ts,ordsW N ts,rfl,hW,Zfa,by omega,λms' hm'=>⟨_,Or.inl rfl,λi Δ=>∃x:L2.Slot,Δ = [.val (encWeb (N:Int) ts),.own (.lst ((cntL ((hsW N ts ms<|ordsW N ts).take i)).map .int)),x],⟨_,rfl⟩,?_,?_⟩⟩⟩)
  ·rintro i d Δ2 hd ⟨x,rfl⟩
   rw[Zbj hm'.1 hm.1 λx=>(hm'.2 x).trans (hm.2 x).symm]at hd;unfold heldL at hd;rw[Wba,Wah]at hd;cases z:(ordsW N ts)[i]? with
   |none=>rw[z]at hd;cases hd
   |some o=>
    rw[z]at hd;cases hd;obtain⟨h,e,hh⟩:=Znm hW (Zfa o<|Wax z) hm;have zh:(hsW N ts ms<|ordsW N ts)[i]?=some h:=by
     unfold hsW;rw[Wah,z];show some (holesI (N:Int) ts o ms).toNat=_;rw[e];rfl
    have hc:=(Zkg (hs:=(hsW N ts ms<|ordsW N ts).take i) (B:=25) λx hx=>Zrc hW Zfa hm x<|Zsy x hx).2.2;refine Zbh<|Zt1<|Zgj rfl rfl<|Zac<|Zad rfl<|Zag ⟨_,_,rfl,rfl,_,h,rfl,?_,by omega,hh,.val (.int<|holesI (N:Int) ts o ms),?_⟩
    ·show [D.int (holesI (N:Int) ts o ms)]=_
     rw[e]
    ·rw[Zoh _ zh]
     rfl
  ·rintro Δ2 ⟨x,rfl⟩
   rw[Wac,Zpw];refine⟨x,?_⟩;rw[show (ordsW N ts).length=(hsW N ts ms<|ordsW N ts).length from (Wac _).symm,Wbx]
 rintro Δ1 ⟨x,rfl⟩;exact Zen<|Zwg rfl ⟨_,rfl,q ms hm⟩
theorem Zj0:1<=sizeLine:=by decide
theorem Zww {xs:List D}{z:Int}(h0:0<=z) (h1:z<(xs.length:Int)):∃x,atI xs z=some x/\x∈xs:=by
 have hz:z.toNat<xs.length:=by omega
 refine⟨xs[z.toNat],?_,Wa4 hz⟩;have:=Zdn (xs:=xs) (j:=z.toNat) (v:=xs[z.toNat])<|Waa hz;rw[Int.toNat_of_nonneg h0]at this;exact this
end
def fCMB:DSp:=λds Post=>∃(N:Nat) (ts:List (Int × Int)),ds=[encWeb (N:Int) ts]/\WebOk (N:Int) ts/\∀ms,Firsts ms (marksL N ts)->Post (.int (ways N ts*2 ^ (ts.length+ms.length-N):Nat))
theorem Ztp {n i:Nat}(h:n<=258623241511168180642964355153611979969197632389120000000000) (hi:i<=24):((n*2 ^ i:Nat):Int)<2 ^ 500:=by
 have h2:n*2 ^ i<=258623241511168180642964355153611979969197632389120000000000*2 ^ 24:=Nat.mul_le_mul h<|Wdm (by decide) hi;have h3:((n*2 ^ i:Nat):Int)<=((258623241511168180642964355153611979969197632389120000000000*2 ^ 24:Nat):Int):=Int.ofNat_le.mpr h2;exact Int.lt_of_le_of_lt h3 (by decide +kernel)
section
variable {P:Program}{w:World}{K:W.Frag}{mg:Str->Option Value}{base:Heap}{f:Addr}{fd:FuncData}
theorem Zq0 (mb:Mb mg) {tk:Tok}(g_MOST_FLOORS:mg "MOST_FLOORS" = some (.int 960 tk)) (C54:Callee P w K mg base 3 "orders_many" ["web"] (spD K fOmB)) (C40:Callee P w K mg base 3 "all_orders" ["web"] (spD K fAllO)) (F:Fun K "small_orders" "small_orders" Yat f fd):FnOk P w K mg base CX0 4 f fd ["web"] (spD K fAllO):=by
 refine F.ok Ybq (Zbk λds Post h=>by obtain⟨_,_,rfl,_⟩:=h;rfl) λcdv A outer s H vs Q E hr h=>?_;have hu:=Zbn hr;refine⟨_,(Zae (Zdl (Za0 Zlc (Za1 C54 (hr.mono<|by decide)<|Zaa (pv 0) Zab) (Za4 rfl g_MOST_FLOORS (show RelV (.int 960) _ from ⟨_,rfl⟩))<|nomark _) Zc4 Zbi)<|Zai<|Zay<|Za1 C40 (hr.mono<|by decide)<|Zaa (pv 0) Zab),Zdj (λds Post hf=>?_) h⟩;obtain⟨N,ts,rfl,hW,hw,q⟩:=hf;refine⟨by simp,?_⟩;dsimp only[startD,Wbf,Wbh,Wa1,Wae];refine Zaq<|Zer<|Zbg<|Zas<|Zaz<|Zac<|Zad rfl<|Zag ⟨N,ts,rfl,hW,Zao<|Zlb ⟨_,rfl,?_⟩⟩;rw[decide_eq_false (by omega)];refine iteF<|Zb9 ?_;exact Zbp<|Zaz<|Zac<|Zad rfl<|Zag ⟨N,ts,rfl,hW,hw,q⟩
theorem Znz (mb:Mb mg) (C54:Callee P w K mg base 3 "orders_many" ["web"] (spD K fOmB)) (C57:Callee P w K mg base 2 "rank_of" ["web"] (spD K fRank)) (F:Fun K "crossed_many" "crossed_many" Ybi f fd):FnOk P w K mg base CX0 4 f fd ["web"] (spD K fCMB):=by
 refine F.ok Ya1 (Zbk λds Post h=>by obtain⟨_,_,rfl,_⟩:=h;rfl) λcdv A outer s H vs Q E hr h=>?_;have hu:=Zbn hr;refine⟨_,(Zae (Zan (i:=1) Ya1.nd rfl (Or.inl rfl)<|Za1 C54 (hr.mono<|by decide)<|Zaa (pv 0) Zab)<|Zae (Zc1 PassesOwn.never rfl (Za8 rfl (mb "range"<|by decide)<|Zaa (Za1 C57 (hr.mono<|by decide)<|Zaa (pv 0) Zab) Zab) (Zar (i:=2) Ya1.nd rfl<|Or.inl rfl)<|Zai<|Zmm (i:=1) Ya1.nd rfl (Or.inl rfl) Zaf Zoi)<|Zai<|Zay<|pv 1),Zdj (λds Post hf=>?_) h⟩;obtain⟨N,ts,rfl,hW,q⟩:=hf;refine⟨by simp,?_⟩;dsimp only[startD,Wbf,Wbh,Wa1,Wae];have hts:=hW.len;have hN:=hW.hi;obtain⟨ms,hm⟩:=Zcz<|marksL N ts;have hml:=hm.len;rw[Zbz]at hml;refine Zaq<|Zax<|Zaz<|Zac<|Zad rfl<|Zag ⟨N,ts,rfl,hW,?_⟩;refine Zbb (λΔ=>∃x:L2.Slot,Δ = [.val (encWeb (N:Int) ts),.val (.int (ways N ts*2 ^ (ts.length+ms.length-N):Nat)),x]) ?_ ?_
 ·refine Zdd (Zba<|Zac<|Zaz<|Zac<|Zad rfl<|Zag ⟨N,ts,rfl,hW,λms' hm'=>?_⟩)
  rw[Zbj hm'.1 hm.1 λx=>(hm'.2 x).trans (hm.2 x).symm];refine Zag ⟨_,rfl,by omega,by omega,λi Δ=>∃x:L2.Slot,Δ = [.val (encWeb (N:Int) ts),.val (.int (ways N ts*2 ^ i:Nat)),x],⟨_,by rw[Nat.pow_zero,Nat.mul_one];rfl⟩,?_,?_⟩
  ·rintro i d Δ2 hd ⟨x,rfl⟩
   obtain⟨hi,rfl⟩:=Za6 hd;have h1:=Ztp (n:=ways N ts) (i:=i) (Zon hts N) (by omega);refine Zbh<|Zmr rfl<|Zao ⟨rfl,Zof ⟨⟨by omega,h1⟩,by decide,by decide +kernel⟩ ⟨.val (.int (0+(i:Int))),?_⟩⟩;rw[Nat.pow_succ,<- Nat.mul_assoc,Wdl _ 2];rfl
  ·rintro Δ2 ⟨x,rfl⟩
   rw[Za7,show ((ts.length:Int)-(N:Int)+(ms.length:Int)).toNat=ts.length+ms.length-N by omega];exact⟨x,rfl⟩
 rintro Δ1 ⟨x,rfl⟩;exact Zbp<|Zad rfl<|q ms hm
end
def ring10:List (Int × Int):=((Wak 10).map λi:Nat=>((i:Int),((i:Int)+1) % 10))++(Wak 5).map λi:Nat=>((i:Int),(i:Int)+5)
def starW (m:Nat):List (Int × Int):=(Wak m).map λi:Nat=>((0:Int),(i:Int)+1)
def sameW (t:Int × Int) (m:Nat):List (Int × Int):=Wae m t
theorem Znj:960<ways 10 ring10:=by decide +kernel
theorem Zly:∀m<25,4<=m->960<ways 1 (sameW (0,0) m):=by decide +kernel
theorem Znd:∀m<25,8<=m->960<ways (m+1) (starW m):=by decide +kernel
theorem Zop:∀m<25,6<=m->960<ways 2 (sameW (0,1) m):=by decide +kernel
theorem Zmh {N m:Nat}{t:Int × Int}(h1:1<=N) (h2:N<=25) (hm:m<=24) (ht:0<=t.1/\t.1<(N:Int)/\0<=t.2/\t.2<(N:Int)):WebOk (N:Int) (sameW t m):=⟨by omega,by omega,by unfold sameW;rw[Waq];exact hm,λu hu=>by rw[(Wc5.mp hu).2];exact ht⟩
theorem Zt9 {m:Nat}(hm:m<=24):WebOk ((m+1:Nat):Int) (starW m):=⟨by omega,by omega,by unfold starW;rw[Wac,Wbd];exact hm,λu hu=>by
 obtain⟨i,hi,rfl⟩:=Wbk.mp hu;have:=Wa6.mp hi;exact⟨Wcs _,by show (0:Int)<_;omega,by show 0<=(i:Int)+1;omega,by show (i:Int)+1<_;omega⟩⟩
theorem Zsr:WebOk ((10:Nat):Int) ring10:=⟨by decide,by decide,by decide,by decide⟩
structure Gw (d:D):Prop where
 ex:∃(N:Nat) (ts:List (Int × Int)),d=encWeb (N:Int) ts/\WebOk (N:Int) ts/\960<ways N ts
def fGreat:BSp:=λps ds Post=>Pen ps/\ds=[]/\∀(N:Nat) (ts:List (Int × Int)) ps',Pen ps' -> WebOk (N:Int) ts->960<ways N ts->Post (encWeb (N:Int) ts) ps'
def tieX (f:Nat->Int × Int):D->D
 |.int i=>encTie (f i.toNat)
 |d=>d
theorem Zjn (f:Nat->Int × Int) (m:Nat):((rngD 0 m).filter λ_=>true).map (tieX f)=((Wak m).map f).map encTie:=by
 rw[Wb0.mpr (λ_ _=>rfl)];unfold rngD;rw[Wba,Wba];refine Wbq λi _=>?_;show encTie (f (0+(i:Int)).toNat)=encTie (f i);rw[Wbj,Waj]
section
variable {P:Program}{w:World}{K:W.Frag}{mg:Str->Option Value}{base:Heap}{f:Addr}{fd:FuncData}
theorem Zqd (mb:Mb mg) (C33:Callee P w K mg base 1 "_law_draw" ["_law_pen_here","_law_many"] (spB K fDraw)) (C38:Callee P w K mg base 2 "_law_web" ["_law_pen_here","_law_places","_law_ties"] (spB K fWeb)) (C37:Callee P w K mg base 2 "_law_ways" ["_law_web_here"] (spD K fWays)) (F:Fun K "_law_great" "_law_great" Yah f fd):FnOk P w K mg base CX0 3 f fd ["_law_pen_here"] (spB K fGreat):=by
 refine F.ok Ya2 (Zib λps ds Post h=>by obtain⟨_,rfl,_⟩:=h;rfl) λcdv A outer s H vs Q E hr h=>?_;have hu:=Zbn hr;refine⟨_,(Zae (Zan (i:=1) Ya2.nd rfl (Or.inl rfl)<|Zcq<|Zaa (Zam<|Zaa Zaf<|Zaa (Zde (tupK K) rfl (mb "tuple"<|by decide) Zd9<|Zaa (Zaw (addK K) (Zcc ["_law_k"] (show CompSc (defScope Yah) ["_law_pen_here","_law_some","_law_many","_law_web_here"] _ [] [] from ⟨rfl,by decide +kernel,by decide +kernel,by decide +kernel,rfl,by decide +kernel⟩) rfl (Za8 rfl (mb "range"<|by decide)<|Zaa Zaf Zab) (λ_ _ _ _ _=>(Zar (i:=0) (show List.Nodup (["_law_k"]:List Str) from by decide) rfl<|Or.inl rfl)) (λ_ _ _ _ _=>Zdk) λ_ _ _ _ _=>(Zam<|Zaa (pv 0)<|Zaa (Zaw Zck (Zaw (addK K) (pv 0) Zaf) Zaf) Zab))<|Zcc ["_law_k"] (show CompSc (defScope Yah) ["_law_pen_here","_law_some","_law_many","_law_web_here"] _ [] [] from ⟨rfl,by decide +kernel,by decide +kernel,by decide +kernel,rfl,by decide +kernel⟩) rfl (Za8 rfl (mb "range"<|by decide)<|Zaa Zaf Zab) (λ_ _ _ _ _=>(Zar (i:=0) (show List.Nodup (["_law_k"]:List Str) from by decide) rfl<|Or.inl rfl)) (λ_ _ _ _ _=>Zdk) λ_ _ _ _ _=>(Zam<|Zaa (pv 0)<|Zaa (Zaw (addK K) (pv 0) Zaf) Zab)) Zab) Zab) Zab)<|Zae (Zcb<|bmK K PySem.F.plainAttrs_list PySem.F.slot_list_append PySem.F.type_list_append Zbc (pv 1)<|Zaa (Zam<|Zaa Zaf<|Zaa (Zaw (Zo1 K) (@Zam _ _ _ _ _ (@Zaa _ _ _ _ _ (@Zam _ _ _ _ _ (@Zaa _ _ _ _ _ Zaf (@Zaa _ _ _ _ _ Zaf Zab (@Zah _ _ _ _ _)) (@Zah _ _ _ _ _))) Zab (@Zau _ _ _ _ _)))<|Zaw (addK K) Zaf<|Za1 C33 (hr.mono<|by decide)<|Zaa (pv 0)<|Zaa Zaf Zab) Zab) Zab)<|Zae (Zan (i:=2) Ya2.nd rfl (Or.inl rfl)<|Zaw (addK K) Zaf<|Za1 C33 (hr.mono<|by decide)<|Zaa (pv 0)<|Zaa Zaf Zab)<|Zae (Zcb<|bmK K PySem.F.plainAttrs_list PySem.F.slot_list_append PySem.F.type_list_append Zbc (pv 1)<|Zaa (Zam<|Zaa (Zaw (addK K) (pv 2) Zaf)<|Zaa (Zde (tupK K) rfl (mb "tuple"<|by decide) Zd9<|Zaa (Zcc ["_law_k"] (show CompSc (defScope Yah) ["_law_pen_here","_law_some","_law_many","_law_web_here"] _ [] [] from ⟨rfl,by decide +kernel,by decide +kernel,by decide +kernel,rfl,by decide +kernel⟩) rfl (Za8 rfl (mb "range"<|by decide)<|Zaa (pv 2) Zab) (λ_ _ _ _ _=>(Zar (i:=0) (show List.Nodup (["_law_k"]:List Str) from by decide) rfl<|Or.inl rfl)) (λ_ _ _ _ _=>Zdk) λ_ _ _ _ _=>(Zam<|Zaa Zaf<|Zaa (Zaw (addK K) (pv 0) Zaf) Zab)) Zab) Zab) Zab)<|Zae (Zcb<|bmK K PySem.F.plainAttrs_list PySem.F.slot_list_append PySem.F.type_list_append Zbc (pv 1)<|Zaa (Zam<|Zaa (Zaw (addK K) Zaf<|Za1 C33 (hr.mono<|by decide)<|Zaa (pv 0)<|Zaa Zaf Zab)<|Zaa (Zaw (Zo1 K) (@Zam _ _ _ _ _ (@Zaa _ _ _ _ _ (@Zam _ _ _ _ _ (@Zaa _ _ _ _ _ Zaf (@Zaa _ _ _ _ _ Zaf Zab (@Zah _ _ _ _ _)) (@Zah _ _ _ _ _))) Zab (@Zau _ _ _ _ _)))<|Zaw (addK K) Zaf<|Za1 C33 (hr.mono<|by decide)<|Zaa (pv 0)<|Zaa Zaf Zab) Zab) Zab)<|Zae (Zan (i:=3) Ya2.nd rfl (Or.inl rfl)<|Za1 C38 (hr.mono<|by decide)<|Zaa (pv 0)<|Zaa Zaf<|Zaa Zaf Zab)<|Zae (Zdl (Za0 Zlc (Za1 C37 (hr.mono<|by decide)<|Zaa (pv 3) Zab) Zaf<|nomark _) (Zai<|Zcb<|bmK K PySem.F.plainAttrs_list PySem.F.slot_list_append PySem.F.type_list_append Zbc (pv 1)<|Zaa (pv 3) Zab) Zbi)<|Zai<|Zay<|Zbv (ixK K hu) (pv 1) (Za1 C33 (hr.mono<|by decide)<|Zaa (pv 0)<|Zaa (Zaj (lenK K) rfl (mb "len"<|by decide) Zb4<|Zaa (pv 1) Zab) Zab) λ_ _=>rfl),Zqp (λps ds Post hf=>?_) h⟩;obtain⟨hp,rfl,q⟩:=hf;refine⟨by simp,?_⟩;dsimp only[cxOf,startD,Wbf,Wbh,Wa1,Wae];refine Zbb (λΔ=>Δ = [.bor (.lst ps),.own (.lst [encWeb ((10:Nat):Int) ring10]),.any,.any]) ?_ ?_
 ·refine Zcp (Zgr<|Zac<|Zb7<|Zac<|Zao<|Zac<|Zb1<|Zac<|Zas<|Zcv (by decide)<|Zba<|Zac<|Zao<|Zag ⟨_,rfl,by decide,by decide,?_,λ_=>true,tieX λi=>((i:Int),((i:Int)+1) % 10),λi d hd=>?_,?_⟩)
  ·rw[Za7];exact small1000 (by decide)
  ·obtain⟨hi,rfl⟩:=Za6 hd
   refine Zdm ⟨rfl,Zb7<|Zac<|Zad rfl<|Zac<|Zas<|Zas<|Zad rfl<|Zao<|Zb6<|Zao<|jr_I (by show (0:Int)<10;decide)<|Zag ⟨Zcr,?_,_,rfl⟩⟩;show D.tup [.int (0+(i:Int)),.int ((0+(i:Int)+1) % 10)]=encTie ((((0+(i:Int)).toNat:Nat):Int),((((0+(i:Int)).toNat:Nat):Int)+1) % 10);rw[Wbj,Waj];rfl
  rw[Zjn];refine Zcv (by decide)<|Zba<|Zac<|Zao<|Zag ⟨_,rfl,by decide,by decide,?_,λ_=>true,tieX λi=>((i:Int),(i:Int)+5),λi d hd=>?_,?_⟩
  ·rw[Za7];exact small1000 (by decide)
  ·obtain⟨hi,rfl⟩:=Za6 hd
   refine Zdm ⟨rfl,Zb7<|Zac<|Zad rfl<|Zac<|Zas<|Zad rfl<|Zao<|Zb6<|Zag ⟨Zcr,?_,_,rfl⟩⟩;show D.tup [.int (0+(i:Int)),.int (0+(i:Int)+5)]=encTie ((((0+(i:Int)).toNat:Nat):Int),(((0+(i:Int)).toNat:Nat):Int)+5);rw[Wbj,Waj];rfl
  rw[Zjn];exact Zd2 (by show 10+5<=sizeLine;decide)<|Zag<|Zfq (Or.inl rfl)<|Zag ⟨Zcr,Zag ⟨by show 1<=sizeLine;decide,rfl⟩⟩
 rintro Δ1 rfl;have g1:∀y∈[encWeb ((10:Nat):Int) ring10],Gw y:=λy hy=>by rw[Wbi.mp hy];exact⟨10,ring10,rfl,Zsr,Znj⟩
 generalize eL:[encWeb ((10:Nat):Int) ring10]=L1 at g1 ⊢;have l1:L1.length=1:=by rw[<- eL];rfl
 have add:∀{L:List D}{N:Nat}{ts:List (Int × Int)},(∀y∈L,Gw y)->WebOk (N:Int) ts->960<ways N ts->∀y∈L++[encWeb (N:Int) ts],Gw y:=λh a b y hy=>(Wbn.mp hy).elim (h y) λz=>by rw[Wbi.mp z];exact⟨_,_,rfl,a,b⟩
 have rep:∀(t:Int × Int) (m:Nat),Wae m (encTie t)=(sameW t m).map encTie:=λt m=>List.map_replicate.symm;refine Zbb (λΔ=>∃(p L:List D),Pen p/\L.length=2/\(∀y∈L,Gw y) /\ Δ = [.bor (.lst p),.own (.lst L),.any,.any]) ?_ ?_
 ·refine Zdy rfl rfl (Zb7<|Zac<|Zao<|Zac<|Zas<|Zes (Ze2 (Zbe (Ze2 (Zbe Zch<|Zbe Zch Zcw) Zcr) Zcw) Zj0)<|Zas<|Zao (Zk9 rfl rfl hp (by decide) (by decide) λm p1 hp1 m0 m1=>Zb6<|Zm1 (by omega) (by omega)<|Zag ⟨Zcr,_,_,rfl,rfl,small1000 (by omega),p1,L1++[encWeb ((1:Nat):Int) (sameW (0,0) (4+m).toNat)],hp1,by rw[Wao,l1];rfl,add g1 (Zmh (by decide) (by decide) (by omega)<|by decide) (Zly _ (by omega)<|by omega),?_⟩))
  show [L2.Slot.bor _,L2.Slot.own (.lst<|L1++[D.tup [.int 1,.tup (Wae _<|encTie (0,0))]]),.any,.any]=_;rw[rep];rfl
 rintro Δ1 ⟨p1,L2',hp1,l2,g2,rfl⟩;refine Zaq<|Zax<|Zas<|Zao (Zk9 rfl rfl hp1 (by decide) (by decide) λm p2 hp2 m0 m1=>Zb6 ?_);obtain⟨k,hk,k0,k1⟩:∃k:Nat,(8:Int)+m=(k:Int)/\8<=k/\k<25:=⟨(8+m).toNat,by omega,by omega,by omega⟩;rw[hk];refine Zbb (λΔ=>∃L:List D,L.length=3/\(∀y∈L,Gw y) /\ Δ = [.bor (.lst p2),.own (.lst L),.val (.int (k:Int)),.any]) ?_ ?_
 ·refine Zdy rfl rfl (Zb7<|Zac<|Zas<|Zad rfl<|Zao<|Zb6<|Zac<|Zb1<|Zac<|Zcv (by decide)<|Zba<|Zac<|Zad rfl<|Zag ⟨_,rfl,by omega,by omega,?_,λ_=>true,tieX λi=>((0:Int),(i:Int)+1),λi d hd=>?_,?_⟩)
  ·rw[Za7];exact small1000 (by omega)
  ·obtain⟨hi,rfl⟩:=Za6 hd
   refine Zdm ⟨rfl,Zb7<|Zac<|Zao<|Zac<|Zas<|Zad rfl<|Zao<|Zb6<|Zag ⟨Zcr,?_,_,rfl⟩⟩;show D.tup [.int 0,.int (0+(i:Int)+1)]=encTie ((0:Int),(((0+(i:Int)).toNat:Nat):Int)+1);rw[Wbj,Waj];rfl
  rw[Waj,Zjn];refine Zag<|Zfq (Or.inl rfl)<|Zag ⟨Zcr,_,_,rfl,rfl,small1000 (by omega),L2'++[encWeb ((k+1:Nat):Int) (starW k)],by rw[Wao,l2];rfl,add g2 (Zt9<|by omega)<|Znd _ k1 k0,rfl⟩
 rintro Δ1 ⟨L3,l3,g3,rfl⟩;refine Zbb (λΔ=>∃(p L:List D),Pen p/\L.length=4/\(∀y∈L,Gw y) /\ Δ = [.bor (.lst p),.own (.lst L),.val (.int (k:Int)),.any]) ?_ ?_
 ·refine Zdy rfl rfl (Zb7<|Zac<|Zas<|Zao (Zk9 rfl rfl hp2 (by decide) (by decide) λr p3 hp3 r0 r1=>Zb6<|Zac<|Zas<|Zes (Ze2 (Zbe (Ze2 (Zbe Zch<|Zbe Zch Zcw) Zcr) Zcw) Zj0)<|Zas<|Zao (Zk9 rfl rfl hp3 (by decide) (by decide) λm p4 hp4 m0 m1=>Zb6<|Zm1 (by omega) (by omega)<|Zag ⟨Zcr,_,_,rfl,rfl,small1000 (by omega),p4,L3++[encWeb (((2+r).toNat:Nat):Int) (sameW (0,1) (6+m).toNat)],hp4,by rw[Wao,l3];rfl,add g3 (Zmh (by omega) (by omega) (by omega) ⟨Wcs _,by show (0:Int)<_;omega,by decide,by show (1:Int)<_;omega⟩) (Wau (Zop _ (by omega)<|by omega)<|Ziw (Zfc _) (by omega)),?_⟩)))
  show [L2.Slot.bor _,L2.Slot.own (.lst<|L3++[D.tup [.int (2+r),.tup (Wae _<|encTie (0,1))]]),_,.any]=_;rw[rep,<- Int.toNat_of_nonneg (show 0<=2+r by omega)];rfl
 rintro Δ1 ⟨p4,L4,hp4,l4,g4,rfl⟩;refine Zaq<|Zax<|Zgj rfl rfl<|Zac<|Zao<|Zac<|Zao<|Zag (Zv2 rfl rfl hp4 (by decide) (by decide) (by decide) (by decide) λn ts p5 hp5 hW _ _=>?_);obtain⟨N,rfl⟩:∃N:Nat,n=(N:Int):=⟨n.toNat,by have:=hW.lo;omega⟩;have hts:=hW.len;have hN:=hW.hi;refine Zbb (λΔ=>∃L:List D,0<L.length/\L.length<10/\(∀y∈L,Gw y) /\ Δ = [.bor (.lst p5),.own (.lst L),.val (.int (k:Int)),.val (encWeb (N:Int) ts)]) ?_ ?_
 ·refine Zer (Zbg<|Zas<|Zaz<|Zac<|Zad rfl<|Zag ⟨N,ts,_,rfl,Or.inr rfl,by omega,by omega,Zao<|Zlb ⟨_,rfl,ite2 (λc=>?_) λ_=>Zb9 ⟨L4,by omega,by omega,g4,rfl⟩⟩⟩)
  have c:=of_decide_eq_true c;exact Zdy rfl rfl<|Zad rfl ⟨_,_,rfl,rfl,small1000 (by omega),L4++[encWeb (N:Int) ts],by rw[Wao];show 0<_+1;omega,by rw[Wao];show _+1<10;omega,add g4 hW (by omega),rfl⟩
 rintro Δ1 ⟨L,h0,h1,gL,rfl⟩;refine Zrw (i:=1) rfl ?_;refine Zbp<|Zas<|Zad rfl<|Zgj rfl rfl<|Zac<|Zb1<|Zac<|Zad rfl<|Zag<|Zbo (Or.inl rfl)<|Zag (Zd0 (m:=(L.length:Int)) rfl rfl hp5 (by omega) (by omega) λz p6 hp6 z0 z1=>?_);obtain⟨y,ey,hy⟩:=Zww (xs:=L) (z:=z) z0 z1;obtain⟨N',ts',rfl,hW',hw'⟩:=(gL y hy).ex;exact Zci ey ⟨_,rfl,q N' ts' _ hp6 hW' hw'⟩
end
def fRfW (c:Addr):XSp:=λds Post Xp=>∃(N:Nat) (ts:List (Int × Int)),ds=[encWeb (N:Int) ts]/\WebOk (N:Int) ts/\960<ways N ts/\Xp c
def fRfC (c:Addr):XSp:=λds Post Xp=>∃(N:Nat) (ts:List (Int × Int)),ds=[encWeb (N:Int) ts]/\WebOk (N:Int) ts/\(∀ms,Firsts ms (marksL N ts)->960<ways N ts*2 ^ (ts.length+ms.length-N))/\Xp c
section
variable {K:W.Frag}{Δ:Evt}{E:XK}{Xp:Addr->Prop}
theorem Zs8 {te:TE}{t:TG}{tb:TS}{P:Pst}(h:JEX K E Xp te Δ λ_ _=>False):JX K E Xp (tFor (iSeq K te) t tb) Δ P:=λg G H σ D w k c=>.inl (h g G H σ _ w k λ_ _ _ _ _ _ _ _ f=>f.elim)
theorem Zms {sp:L2.Sp}{E':XK}{ta:TA}{P:D->Evt->Prop}(h:JAX K E Xp ta Δ λ_ _=>False):JEX K E Xp (tCall sp [] E' ta) Δ P:=λg G H σ Q w k c=>h g G H σ _ w k λ_ _ _ _ _ _ _ _ f=>f.elim
end
section
variable {P:Program}{w:World}{K:W.Frag}{mg:Str->Option Value}{base:Heap}{f:Addr}{fd:FuncData}{c0 c1 c2 c3 c4 c5 c6 c7 c8 c9 c10 c11 c12 c13 c14 c15:Addr}
theorem Zr0 (mb:Mb mg) (cl:Cl K mg c0 c1 c2 c3 c4 c5 c6 c7 c8 c9 c10 c11 c12 c13 c14 c15) {tk:Tok}(g_MOST_FLOORS:mg "MOST_FLOORS" = some (.int 960 tk)) (C54:Callee P w K mg base 3 "orders_many" ["web"] (spD K fOmB)) (F:Fun K "small_orders" "small_orders" Yat f fd):FnOk P w K mg base (CXE P w) 4 f fd ["web"] (spX K<|fRfW c11):=by
 refine F.okX Ybq (Zgh λds Post Xp h=>by obtain⟨_,_,rfl,_⟩:=h;rfl) λcdv A outer s H vs Q E hr h=>?_;have hu:=Zbn hr;refine⟨_,(Zae (Zdl (Za0 Zlc (Za1 C54 (hr.mono<|by decide)<|Zaa (pv 0) Zab) (Za4 rfl g_MOST_FLOORS (show RelV (.int 960) _ from ⟨_,rfl⟩))<|nomark _) (Zai<|Zk1 cl.e_TooMany rfl cl.n_TooMany hr.hd Zkd<|Zaa (Znl<|Zdr (Zj2 (n:=200))<|Zdr (Zr1 (n:=200) rfl g_MOST_FLOORS)<|Zdr (Zj2 (n:=200)) Zmf) Zab) Zbi) Zc4),Zmj (λds Post Xp hf=>?_) h⟩;obtain⟨N,ts,rfl,hW,hw,x⟩:=hf;refine⟨by simp,?_⟩;dsimp only[startD,Wbf,Wbh,Wa1,Wae];refine Zg3<|Zu0<|Zbg<|Zas<|Zaz<|Zac<|Zad rfl<|Zag ⟨N,ts,rfl,hW,Zao<|Zlb ⟨_,rfl,?_⟩⟩;rw[decide_eq_true (by omega)];exact iteT<|Zks<|Zac (Zom λ_=>Zag ⟨Zj0,x⟩)
theorem Zrg (mb:Mb mg) (cl:Cl K mg c0 c1 c2 c3 c4 c5 c6 c7 c8 c9 c10 c11 c12 c13 c14 c15) {tk:Tok}(g_MOST_FLOORS:mg "MOST_FLOORS" = some (.int 960 tk)) (C44:Callee P w K mg base 4 "crossed_many" ["web"] (spD K fCMB)) (F:Fun K "crossed_counts" "crossed_counts" Ybh f fd):FnOk P w K mg base (CXE P w) 8 f fd ["web"] (spX K<|fRfC c11):=by
 refine F.okX Ybz (Zgh λds Post Xp h=>by obtain⟨_,_,rfl,_⟩:=h;rfl) λcdv A outer s H vs Q E hr h=>?_;have hu:=Zbn hr;refine⟨_,(Zae (Zdl (Za0 Zlc (Za1 C44 (hr.mono<|by decide)<|Zaa (pv 0) Zab) (Za4 rfl g_MOST_FLOORS (show RelV (.int 960) _ from ⟨_,rfl⟩))<|nomark _) (Zai<|Zk1 cl.e_TooMany rfl cl.n_TooMany hr.hd Zkd<|Zaa (Znl<|Zdr (Zj2 (n:=200))<|Zdr (Zr1 (n:=200) rfl g_MOST_FLOORS)<|Zdr (Zj2 (n:=200)) Zmf) Zab) Zbi) Zc4),Zmj (λds Post Xp hf=>?_) h⟩;obtain⟨N,ts,rfl,hW,hw,x⟩:=hf;refine⟨by simp,?_⟩;dsimp only[startD,Wbf,Wbh,Wa1,Wae];refine Zg3<|Zu0<|Zbg<|Zas<|Zaz<|Zac<|Zad rfl<|Zag ⟨N,ts,rfl,hW,λms hm=>Zao<|Zlb ⟨_,rfl,?_⟩⟩;have:=hw ms hm;rw[decide_eq_true (by omega)];exact iteT<|Zks<|Zac (Zom λ_=>Zag ⟨Zj0,x⟩)
theorem Zg7 (mb:Mb mg) (C60:CalleeX P w K mg base 4 "small_orders" ["web"] (spX K<|fRfW c11)) (C50:Callee P w K mg base 7 "holes_of_all" ["web","orders"] (spD K fHoA)) (C41:Callee P w K mg base 1 "count_one" ["told","number"] (spB K fCnt)) (F:Fun K "counts" "counts" Yas f fd):FnOk P w K mg base (CXE P w) 8 f fd ["web"] (spX K<|fRfW c11):=by
 refine F.okX Yak (Zgh λds Post Xp h=>by obtain⟨_,_,rfl,_⟩:=h;rfl) λcdv A outer s H vs Q E hr h=>?_;have hu:=Zbn hr;refine⟨_,(Zae (Zan (i:=1) Yak.nd rfl (Or.inl rfl)<|Zcq Zab)<|Zae (Zc1 PassesOwn.leaving rfl (seqK K<|Za1 C50 (hr.mono<|by decide)<|Zaa (pv 0)<|Zaa (Zke C60 (hr.mono<|by decide) Zo4<|Zaa (pv 0) Zab) Zab) (Zar (i:=2) Yak.nd rfl<|Or.inl rfl)<|Zai<|Zcb<|Za1 C41 (hr.mono<|by decide)<|Zaa (pv 1)<|Zaa (pv 2) Zab) Zc4),Zmj (λds Post Xp hf=>?_) h⟩;obtain⟨N,ts,rfl,hW,hw,x⟩:=hf;refine⟨by simp,?_⟩;dsimp only[startD,Wbf,Wbh,Wa1,Wae];refine Zto<|Zcp<|Zgr<|Zag ⟨by decide,?_⟩;exact Zg3<|Zs8<|Zms<|Zk4<|Zv4<|Zad rfl<|Zk4<|Zh6<|Zac<|Zad rfl<|Zag ⟨N,ts,rfl,hW,hw,x⟩
theorem Znq (mb:Mb mg) (C60:CalleeX P w K mg base 4 "small_orders" ["web"] (spX K<|fRfW c11)) (F:Fun K "fewest" "fewest" Ybf f fd):FnOk P w K mg base (CXE P w) 8 f fd ["web"] (spX K<|fRfW c11):=by
 refine F.okX Ybr (Zgh λds Post Xp h=>by obtain⟨_,_,rfl,_⟩:=h;rfl) λcdv A outer s H vs Q E hr h=>?_;have hu:=Zbn hr;refine⟨_,(Zae (Zan (i:=1) Ybr.nd rfl (Or.inl rfl)<|Zke C60 (hr.mono<|by decide) Zo4<|Zaa (pv 0) Zab) Zc4),Zmj (λds Post Xp hf=>?_) h⟩;obtain⟨N,ts,rfl,hW,hw,x⟩:=hf;refine⟨by simp,?_⟩;dsimp only[startD,Wbf,Wbh,Wa1,Wae];exact Zg3<|Zrp<|Zh6<|Zac<|Zad rfl<|Zag ⟨N,ts,rfl,hW,hw,x⟩
theorem Zkm (mb:Mb mg) (C60:CalleeX P w K mg base 4 "small_orders" ["web"] (spX K<|fRfW c11)) (F:Fun K "most" "most" Ybg f fd):FnOk P w K mg base (CXE P w) 8 f fd ["web"] (spX K<|fRfW c11):=by
 refine F.okX Ybs (Zgh λds Post Xp h=>by obtain⟨_,_,rfl,_⟩:=h;rfl) λcdv A outer s H vs Q E hr h=>?_;have hu:=Zbn hr;refine⟨_,(Zae (Zan (i:=1) Ybs.nd rfl (Or.inl rfl)<|Zke C60 (hr.mono<|by decide) Zo4<|Zaa (pv 0) Zab) Zc4),Zmj (λds Post Xp hf=>?_) h⟩;obtain⟨N,ts,rfl,hW,hw,x⟩:=hf;refine⟨by simp,?_⟩;dsimp only[startD,Wbf,Wbh,Wa1,Wae];exact Zg3<|Zrp<|Zh6<|Zac<|Zad rfl<|Zag ⟨N,ts,rfl,hW,hw,x⟩
end
def fWd (c:Addr) (xa:Addr):DSp:=λds Post=>ds=[.exc xa c]/\Post (.str "many")
theorem Zbu {K:W.Frag}{Δ:Evt}{Pd:List D->Evt->Prop}{x:Str}{a C c:Addr}{b:Bool}{tr:TA}(hx:Δ[0]?=some (.val (.exc a C))) (Z:ExcI K C) (e:PySem.W.kitOne K (.ref C) (.ref c)=some b) (h:JA K tr Δ λds Δ2=>Pd (.tup [.str x,.bl b]::ds) Δ2) :
  JA K (tCons (tTup<|tCons (tC (.str x))<|tCons (tCB (rIsiE K)<|tCons (tVar 0)<|tCons (tC (.ref c)) tNil) tNil) tr) Δ Pd:=Zac<|Zb7<|Zac<|Zgv<|Zac<|Zb1<|Zac<|Zad hx<|Zac<|Zit<|Zag<|Zts Z e<|Zag ⟨Zcr,h⟩
def sndB:D->Bool
 |.tup [_,.bl b]=>b
 |_=>false
def fstW:D->D
 |.tup [a,_]=>a
 |d=>d
section
variable {P:Program}{w:World}{K:W.Frag}{mg:Str->Option Value}{base:Heap}{f:Addr}{fd:FuncData}{c0 c1 c2 c3 c4 c5 c6 c7 c8 c9 c10 c11 c12 c13 c14 c15:Addr}
theorem Ztq (mb:Mb mg) (cl:Cl K mg c0 c1 c2 c3 c4 c5 c6 c7 c8 c9 c10 c11 c12 c13 c14 c15) (F:Fun K "_law_word" "_law_word" Yam f fd) (xa:Addr):FnOkH xa P w K mg base CX0 1 f fd ["_law_e"] (spD K<|fWd c11 xa):=by
 refine F.okH Yad (Zbk λds Post h=>by obtain⟨rfl,_⟩:=h;rfl) λcdv A outer s H vs Q E hr h=>?_;have hu:(A.deeper<|PyProof.Rows.envOfC "_law_word" (defScope Yam) s.heap.objs.size f cdv).units+1<cLine:=Wb2 (Wdp (by decide:1<=64) _) hr.units;refine⟨_,(Zae (Zan (i:=1) Yad.nd rfl (Or.inl rfl)<|Zcq<|Zaa (Zam<|Zaa Zbm<|Zaa (Zaj (isiEK K) rfl (mb "isinstance"<|by decide) Zap<|Zaa (pv 0)<|Zaa (Za4 rfl cl.n_Apart (show RelV (.ref _) _ from rfl)) Zab) Zab)<|Zaa (Zam<|Zaa Zbm<|Zaa (Zaj (isiEK K) rfl (mb "isinstance"<|by decide) Zap<|Zaa (pv 0)<|Zaa (Za4 rfl cl.n_NoEnd (show RelV (.ref _) _ from rfl)) Zab) Zab)<|Zaa (Zam<|Zaa Zbm<|Zaa (Zaj (isiEK K) rfl (mb "isinstance"<|by decide) Zap<|Zaa (pv 0)<|Zaa (Za4 rfl cl.n_NoName (show RelV (.ref _) _ from rfl)) Zab) Zab) Zab)<|Zae (Zan (i:=1) Yad.nd rfl (Or.inl rfl)<|Zaw (addK K) (pv 1)<|Zcq<|Zaa (Zam<|Zaa Zbm<|Zaa (Zaj (isiEK K) rfl (mb "isinstance"<|by decide) Zap<|Zaa (pv 0)<|Zaa (Za4 rfl cl.n_NoNumber (show RelV (.ref _) _ from rfl)) Zab) Zab)<|Zaa (Zam<|Zaa Zbm<|Zaa (Zaj (isiEK K) rfl (mb "isinstance"<|by decide) Zap<|Zaa (pv 0)<|Zaa (Za4 rfl cl.n_NoOrder (show RelV (.ref _) _ from rfl)) Zab) Zab) Zab)<|Zae (Zan (i:=1) Yad.nd rfl (Or.inl rfl)<|Zaw (addK K) (pv 1)<|Zcq<|Zaa (Zam<|Zaa Zbm<|Zaa (Zaj (isiEK K) rfl (mb "isinstance"<|by decide) Zap<|Zaa (pv 0)<|Zaa (Za4 rfl cl.n_NoPaper (show RelV (.ref _) _ from rfl)) Zab) Zab)<|Zaa (Zam<|Zaa Zbm<|Zaa (Zaj (isiEK K) rfl (mb "isinstance"<|by decide) Zap<|Zaa (pv 0)<|Zaa (Za4 rfl cl.n_NoPlace (show RelV (.ref _) _ from rfl)) Zab) Zab) Zab)<|Zae (Zan (i:=1) Yad.nd rfl (Or.inl rfl)<|Zaw (addK K) (pv 1)<|Zcq<|Zaa (Zam<|Zaa Zbm<|Zaa (Zaj (isiEK K) rfl (mb "isinstance"<|by decide) Zap<|Zaa (pv 0)<|Zaa (Za4 rfl cl.n_NoRing (show RelV (.ref _) _ from rfl)) Zab) Zab)<|Zaa (Zam<|Zaa Zbm<|Zaa (Zaj (isiEK K) rfl (mb "isinstance"<|by decide) Zap<|Zaa (pv 0)<|Zaa (Za4 rfl cl.n_NoRow (show RelV (.ref _) _ from rfl)) Zab) Zab)<|Zaa (Zam<|Zaa Zbm<|Zaa (Zaj (isiEK K) rfl (mb "isinstance"<|by decide) Zap<|Zaa (pv 0)<|Zaa (Za4 rfl cl.n_NoTable (show RelV (.ref _) _ from rfl)) Zab) Zab) Zab)<|Zae (Zan (i:=1) Yad.nd rfl (Or.inl rfl)<|Zaw (addK K) (pv 1)<|Zcq<|Zaa (Zam<|Zaa Zbm<|Zaa (Zaj (isiEK K) rfl (mb "isinstance"<|by decide) Zap<|Zaa (pv 0)<|Zaa (Za4 rfl cl.n_NoText (show RelV (.ref _) _ from rfl)) Zab) Zab)<|Zaa (Zam<|Zaa Zbm<|Zaa (Zaj (isiEK K) rfl (mb "isinstance"<|by decide) Zap<|Zaa (pv 0)<|Zaa (Za4 rfl cl.n_NoTie (show RelV (.ref _) _ from rfl)) Zab) Zab)<|Zaa (Zam<|Zaa Zbm<|Zaa (Zaj (isiEK K) rfl (mb "isinstance"<|by decide) Zap<|Zaa (pv 0)<|Zaa (Za4 rfl cl.n_NoWeb (show RelV (.ref _) _ from rfl)) Zab) Zab) Zab)<|Zae (Zan (i:=1) Yad.nd rfl (Or.inl rfl)<|Zaw (addK K) (pv 1)<|Zcq<|Zaa (Zam<|Zaa Zbm<|Zaa (Zaj (isiEK K) rfl (mb "isinstance"<|by decide) Zap<|Zaa (pv 0)<|Zaa (Za4 rfl cl.n_TooGreat (show RelV (.ref _) _ from rfl)) Zab) Zab)<|Zaa (Zam<|Zaa Zbm<|Zaa (Zaj (isiEK K) rfl (mb "isinstance"<|by decide) Zap<|Zaa (pv 0)<|Zaa (Za4 rfl cl.n_TooMany (show RelV (.ref _) _ from rfl)) Zab) Zab) Zab)<|Zae (Znv (i:=2) ["_law_word_here","_law_one"] (show CompSc (defScope Yam) ["_law_e","_law_some","_law_found"] _ [] [] from ⟨rfl,by decide +kernel,by decide +kernel,by decide +kernel,rfl,by decide +kernel⟩) hr.hd Yad.nd rfl (Or.inl rfl) (Zpt<|pv 1) (λ_ _ _ _ _=>(gtupH (n:=2) hr.hd<|Zbq (Zar (i:=0) (show List.Nodup (["_law_word_here","_law_one"]:List Str) from by decide) rfl<|Or.inl rfl)<|Zbq (Zar (i:=1) (show List.Nodup (["_law_word_here","_law_one"]:List Str) from by decide) rfl<|Or.inl rfl) Zet)) (λ_ _ _ _ _=>(Zfo<|truK K (pv 1) λ_=>rfl)) λ_ _ _ _ _=>(pv 0))<|Zae (Zdl (PW.pt<|pw_and (Za0 Zc3 (Zaj (lenK K) rfl (mb "len"<|by decide) Zb4<|Zaa (pv 2) Zab) Zaf<|nomark _)<|pw_and1<|truK K (Zaj (isiEK K) rfl (mb "isinstance"<|by decide) Zap<|Zaa (pv 0)<|Zaa (Ztm rfl (mb "ValueError"<|by decide) Zh0 (show RelV (.ty "ValueError") _ from rfl)) Zab) λ_=>rfl) (Zai<|Zay<|Zbv (ixK K hu) (pv 2) Zaf λ_ _=>rfl) Zbi)<|Zai<|Zay Zbm),Zdj (λds Post hf=>?_) h⟩
 obtain⟨rfl,q⟩:=hf;refine⟨by simp,?_⟩;dsimp only[startD,Wbf,Wbh,Wa1,Wae];refine Zaq<|Zax<|Zei ?_;refine Zbu rfl cl.i_TooMany cl.k_TooMany_Apart ?_;refine Zbu rfl cl.i_TooMany cl.k_TooMany_NoEnd ?_;refine Zbu rfl cl.i_TooMany cl.k_TooMany_NoName ?_;refine Zag ⟨by decide,?_⟩;refine Zaq<|Zax<|Zas<|Zad rfl<|Zei ?_;refine Zbu rfl cl.i_TooMany cl.k_TooMany_NoNumber ?_;refine Zbu rfl cl.i_TooMany cl.k_TooMany_NoOrder ?_;refine Zag ⟨by decide,Zd2 (by decide) ?_⟩;refine Zaq<|Zax<|Zas<|Zad rfl<|Zei ?_;refine Zbu rfl cl.i_TooMany cl.k_TooMany_NoPaper ?_;refine Zbu rfl cl.i_TooMany cl.k_TooMany_NoPlace ?_;refine Zag ⟨by decide,Zd2 (by decide) ?_⟩;refine Zaq<|Zax<|Zas<|Zad rfl<|Zei ?_;refine Zbu rfl cl.i_TooMany cl.k_TooMany_NoRing ?_;refine Zbu rfl cl.i_TooMany cl.k_TooMany_NoRow ?_;refine Zbu rfl cl.i_TooMany cl.k_TooMany_NoTable ?_;refine Zag ⟨by decide,Zd2 (by decide) ?_⟩;refine Zaq<|Zax<|Zas<|Zad rfl<|Zei ?_;refine Zbu rfl cl.i_TooMany cl.k_TooMany_NoText ?_;refine Zbu rfl cl.i_TooMany cl.k_TooMany_NoTie ?_;refine Zbu rfl cl.i_TooMany cl.k_TooMany_NoWeb ?_;refine Zag ⟨by decide,Zd2 (by decide) ?_⟩;refine Zaq<|Zax<|Zas<|Zad rfl<|Zei ?_;refine Zbu rfl cl.i_TooMany cl.k_TooMany_TooGreat ?_;refine Zbu rfl cl.i_TooMany cl.k_TooMany_TooMany ?_;refine Zag ⟨by decide,Zd2 (by decide) ?_⟩;refine Zaq<|Zax<|Zqo<|Zpl (by decide)<|Zpp (n:=0)<|Zad rfl ⟨rfl,_,rfl,small1000 (by decide),sndB,fstW,λi d hd=>?_,?_⟩
 ·have hm:=Wax hd
  obtain⟨x,b,rfl⟩:∃x b,d=.tup [.str x,.bl b]:=by
   simp only[Wby,List.nil_append,War,Wcb,or_false]at hm;rcases hm with rfl|rfl|rfl|rfl|rfl|rfl|rfl|rfl|rfl|rfl|rfl|rfl|rfl|rfl|rfl <;> exact⟨_,_,rfl⟩
  refine⟨_,_,rfl,Zfi<|Zad rfl ⟨b,rfl,rfl,?_⟩⟩;exact ite2 (λ_=>Zad rfl ⟨rfl,_,_,rfl⟩) λ_=>⟨_,_,rfl⟩
 refine Zaq<|Zer<|Zos<|Zbg<|Zas<|Zb1<|Zac<|Zad rfl<|Zag<|Zbo (Or.inl rfl)<|Zao<|Zgn ⟨true,rfl,iteT ?_⟩;refine Zfi<|Zb1<|Zac<|Zad rfl<|Zac<|Zv8<|Zag<|Zqb cl.i_TooMany cl.t_TooMany ⟨true,rfl,iteT ?_⟩;exact Zbp<|Zes (Zvl rfl rfl) q
end
def lam1:Expr:=callArg<|cmpLeft<|ifTest ((forBody ((defBody Yaa).getD 2 (.Pass ⟨0,0,0,0⟩))).getD 0 (.Pass ⟨0,0,0,0⟩))
def lam2:Expr:=callArg<|cmpLeft<|boolFst<|ifTest ((defBody Yaa).getD 5 (.Pass ⟨0,0,0,0⟩))
abbrev qual1:Str:=(Str.ofString "law" ++ ".<locals>.") ++ "<lambda>"
def fLamA (mg:Str->Option Value) (c:Addr):XSp:=λds Post Xp=>∃(N:Nat) (ts:List (Int × Int)) (a:Addr),ds=[encWeb (N:Int) ts,.adr a]/\(mg "counts" = some (.ref a)\/mg "fewest" = some (.ref a)\/mg "most" = some (.ref a)\/mg "crossed_counts" = some (.ref a))/\WebOk (N:Int) ts/\960<ways N ts/\Xp c
abbrev fT1 (mg:Str->Option Value) (c:Addr):DSp:=fTold (fLamA mg c) (λC=>C=c) λ_=>"many"
abbrev fT2 (c:Addr):DSp:=fTold (fRfC c) (λC=>C=c) λ_=>"many"
section
variable {P:Program}{w:World}{K:W.Frag}{mg:Str->Option Value}{base:Heap}{f:Addr}{fd:FuncData}{c0 c1 c2 c3 c4 c5 c6 c7 c8 c9 c10 c11 c12 c13 c14 c15:Addr}
theorem Ztt {l:Addr}{clos:List (Str × Addr)}{pm:Value}{c':Addr}{ctv:Value}{cs:List V}(C1:CalleeX P w K mg base 8 "counts" ["web"] (spX K<|fRfW c11)) (C2:CalleeX P w K mg base 8 "fewest" ["web"] (spX K<|fRfW c11)) (C3:CalleeX P w K mg base 8 "most" ["web"] (spX K<|fRfW c11)) (C4:CalleeX P w K mg base 8 "crossed_counts" ["web"] (spX K<|fRfC c11)) (L:LamAt base l qual1 (lamOf lam1).1 (lamOf lam1).2.1 (lamOf lam1).2.2.1 clos pm c' ctv ["_law_web_here","_law_asked"] cs) :
  FnOk P w K mg base (CXE P w) 9 l (PySem.W.kla_fn "<lambda>" qual1 (lamOf lam1).1 (lamOf lam1).2.1 (lamOf lam1).2.2.1 clos pm (.ref c') ctv) [] (λvs H Q E=>vs=[]/\spX K (fLamA mg c11) cs H Q E):=by
 obtain⟨k1,V1,m1⟩:=C1.val;obtain⟨k2,V2,m2⟩:=C2.val;obtain⟨k3,V3,m3⟩:=C3.val;obtain⟨k4,V4,m4⟩:=C4.val;refine Zrk L λA outer s H Q E hr h=>?_;obtain⟨F0,ds,Post,Xp,sm,rp,⟨N,ts,a,rfl,ha,hW,hw,hx⟩,hq,he⟩:=h;obtain⟨v0,_,rfl,r0,rp⟩:=rp.inv;obtain⟨v1,_,rfl,r1,rp⟩:=rp.inv;cases rp.inv;cases r1.inv;have sp1:spX K (fRfW c11) ([v0]++[]) H Q E:=⟨F0,[encWeb (N:Int) ts],Post,Xp,sm,.cons r0 .nil,⟨N,ts,rfl,hW,hw,hx⟩,hq,he⟩;have sp2:spX K (fRfC c11) ([v0]++[]) H Q E:=⟨F0,[encWeb (N:Int) ts],Post,Xp,sm,.cons r0 .nil,⟨N,ts,rfl,hW,λms _=>Wau hw (Wcv _<|Nat.pow_pos (by decide)),hx⟩,hq,he⟩;rcases ha with ha|ha|ha|ha
 ·have e:=m1.symm.trans ha
  cases e;exact⟨_,Zkp V1 (hr.mono<|by decide) Zeb (i:=1) rfl (by first|exact Or.inl rfl|exact Or.inr (Or.inl rfl)|exact Or.inr<|Or.inr rfl)<|Zaa (pv 0) Zab,rfl,v0,rfl,sp1⟩
 ·have e:=m2.symm.trans ha
  cases e;exact⟨_,Zkp V2 (hr.mono<|by decide) Zeb (i:=1) rfl (by first|exact Or.inl rfl|exact Or.inr (Or.inl rfl)|exact Or.inr<|Or.inr rfl)<|Zaa (pv 0) Zab,rfl,v0,rfl,sp1⟩
 ·have e:=m3.symm.trans ha
  cases e;exact⟨_,Zkp V3 (hr.mono<|by decide) Zeb (i:=1) rfl (by first|exact Or.inl rfl|exact Or.inr (Or.inl rfl)|exact Or.inr<|Or.inr rfl)<|Zaa (pv 0) Zab,rfl,v0,rfl,sp1⟩
 ·have e:=m4.symm.trans ha
  cases e;exact⟨_,Zkp V4 (hr.mono<|by decide) Zeb (i:=1) rfl (by first|exact Or.inl rfl|exact Or.inr (Or.inl rfl)|exact Or.inr<|Or.inr rfl)<|Zaa (pv 0) Zab,rfl,v0,rfl,sp2⟩
theorem Zs0 {l:Addr}{clos:List (Str × Addr)}{pm:Value}{c':Addr}{ctv:Value}{cs:List V}(C43:CalleeX P w K mg base 8 "crossed_counts" ["web"] (spX K<|fRfC c11)) (L:LamAt base l qual1 (lamOf lam2).1 (lamOf lam2).2.1 (lamOf lam2).2.2.1 clos pm c' ctv ["_law_near"] cs) :
  FnOk P w K mg base (CXE P w) 9 l (PySem.W.kla_fn "<lambda>" qual1 (lamOf lam2).1 (lamOf lam2).2.1 (lamOf lam2).2.2.1 clos pm (.ref c') ctv) [] (λvs H Q E=>vs=[]/\spX K (fRfC c11) cs H Q E):=by
 refine Zrk L λA outer s H Q E hr h=>⟨_,Zke C43 (hr.mono<|by decide) Zeb<|Zaa (pv 0) Zab,?_⟩;have hl:=L.len
 match cs,hl,h with
 |[v0],_,h=>exact⟨v0,rfl,h⟩
theorem Zph {fL:XSp}{l:Addr}{cs:List V}{fdl:FuncData}(mb:Mb mg) (cl:Cl K mg c0 c1 c2 c3 c4 c5 c6 c7 c8 c9 c10 c11 c12 c13 c14 c15) (C39:CalleeH P w K mg base 1 "_law_word" ["_law_e"] (λxa=>spD K<|fWd c11 xa)) (FL:FnOk P w K mg base (CXE P w) 9 l fdl [] (λvs H Q E=>vs=[]/\spX K fL cs H Q E)) (hl:PySem.W.FnAt l base) (hb:∀s,BindsTo s fdl ⟨[],[]⟩ [])
  (F:Fun K "_law_told" "_law_told" Yax f fd):FnOk P w K mg base CX0 10 f fd ["_law_asked"] (λvs H Q E=>vs=[.ref l]/\spD K (fTold fL (λC=>C=c11) λ_=>"many") cs H Q E):=by
 refine F.ok Yap (λvs H Q E h=>by rw[h.1];rfl) λcdv A outer s H vs Q E hr h=>?_;obtain⟨rfl,h⟩:=h;have hu:=Zbn hr;refine⟨_,(Zae (Zan (i:=1) Yap.nd rfl (Or.inl rfl) Zvd)<|Zae (Zvo (i:=2) (n:=3) Yap.nd rfl rfl rfl rfl rfl rfl rfl cl.n_FloorError cl.e_FloorError (λE pn xe hx=>(Zai<|Zan (i:=1) Yap.nd rfl (Or.inl rfl)<|Zam<|Zaa Zbm<|Zaa (Zu9 FL hl hb (hr.mono<|by decide) hx (i:=0) rfl<|Or.inl rfl) Zab)) λa=>(Zai<|Zan (i:=1) Yap.nd rfl (Or.inl rfl)<|Zam<|Zaa Zbm<|Zaa (Zv6 C39 (Room.mark (hr.mono<|by decide) a)<|Zaa (pv 2) Zab) Zab))<|Zai<|Zay<|pv 1),Zq3 h λC hC=>?_⟩;subst hC;exact⟨⟨cl.e_TooMany,cl.m_TooMany⟩,λa Post hp=>Zax<|Zb7<|Zac<|Zgv<|Zac<|Zaz<|Zac<|Zad rfl<|Zag ⟨rfl,Zag ⟨Zcr,_,_,_,rfl,hp⟩⟩⟩
end
theorem Ztb {P:Program}{w:World}{K:W.Frag}{mg:Str->Option Value}{h:Heap}{c0 c1 c2 c3 c4 c5 c6 c7 c8 c9 c10 c11 c12 c13 c14 c15:Addr}(mb:Mb mg) (cl:Cl K mg c0 c1 c2 c3 c4 c5 c6 c7 c8 c9 c10 c11 c12 c13 c14 c15) {f:Addr}{fd:FuncData}(F:Fun K "_law_told" "_law_told" Yax f fd) (hm:mg "_law_told" = some (.ref f))
  (C1:∀base,CalleeX P w K mg base 8 "counts" ["web"] (spX K<|fRfW c11)) (C2:∀base,CalleeX P w K mg base 8 "fewest" ["web"] (spX K<|fRfW c11)) (C3:∀base,CalleeX P w K mg base 8 "most" ["web"] (spX K<|fRfW c11)) (C4:∀base,CalleeX P w K mg base 8 "crossed_counts" ["web"] (spX K<|fRfC c11)) (CW:∀base,CalleeH P w K mg base 1 "_law_word" ["_law_e"] (λxa=>spD K<|fWd c11 xa)) :
  ToldL P w K mg 10 "_law_told" qual1 (lamOf lam1).1 (lamOf lam1).2.1 (lamOf lam1).2.2.1 ["_law_web_here","_law_asked"] (spD K<|fT1 mg c11)/\ToldL P w K mg 10 "_law_told" qual1 (lamOf lam2).1 (lamOf lam2).2.1 (lamOf lam2).2.2.1 ["_law_near"] (spD K<|fT2 c11):=
 ⟨⟨⟨f,fd,F.binds λ_ _ _ _ _ _ us hl=>(match us,hl with | [_],_=>rfl),F.kp,hm,λbase' l clos pm c' ctv cs L=>Zph mb cl (CW base') (Ztt (C1 base') (C2 base') (C3 base') (C4 base') L) ⟨_,_,_,_,L.obj⟩ (λs=>.of_eq rfl) F⟩⟩,⟨⟨f,fd,F.binds λ_ _ _ _ _ _ us hl=>(match us,hl with | [_],_=>rfl),F.kp,hm,λbase' l clos pm c' ctv cs L=>Zph mb cl (CW base') (Zs0 (C4 base') L) ⟨_,_,_,_,L.obj⟩ (λs=>.of_eq rfl) F⟩⟩⟩
abbrev pl1:List (Pos × Str):=[((lamOf lam1).2.2.2,qual1),((lamOf lam2).2.2.2,qual1)]
theorem Zqi:(defScope Yaa).names.lookup (Str.ofString "!0")=none:=by decide +kernel
theorem Zrt (pos:Pos):∀p∈pl1,p.1.line=pos.line->p.1.col=pos.col->p.2=qual1:=λp hp _ _=>by
 rcases War.mp hp with rfl|hp
 ·rfl
 ·rw[Wbi.mp hp]
abbrev nearR:List (Int × Int):=[(0,1),(1,2),(2,0),(3,4),(4,5),(5,3),(0,3),(1,4),(2,5)]
abbrev nearL:List (Int × Int):=[(0,0),(0,0),(0,0),(1,1)]
abbrev justW:List (Int × Int):=[(0,1),(0,1),(0,2),(0,2),(0,3),(0,3),(1,2),(3,4)]
theorem Zp1:WebOk ((6:Nat):Int) nearR:=⟨by decide,by decide,by decide,by decide⟩
theorem Zqj:WebOk ((2:Nat):Int) nearL:=⟨by decide,by decide,by decide,by decide⟩
theorem Ze9:WebOk ((5:Nat):Int) justW:=⟨by decide,by decide,by decide,by decide⟩
theorem Zgt:ways 6 nearR=64:=by decide +kernel
theorem Zgo:ways 2 nearL=120:=by decide +kernel
theorem Zdv:ways 5 justW=960:=by decide +kernel
theorem Zkb {ms l:List Int}(h:Firsts ms l) {a:Int}(ha:a∈l):1<=ms.length:=Wcd ((h.2 a).mpr ha)
theorem Zou {M:Nat}{us:List (Int × Int)}(h:(M=6/\us=nearR)\/(M=2/\us=nearL)):WebOk (M:Int) us/\ways M us<=960/\∀ms,Firsts ms (marksL M us)->960<ways M us*2 ^ (us.length+ms.length-M):=by
 rcases h with ⟨rfl,rfl⟩|⟨rfl,rfl⟩
 ·refine⟨Zp1,by rw[Zgt];decide,λms hm=>?_⟩
  have h1:=Zkb hm (a:=0) (by decide +kernel);rw[Zgt];have:2 ^ 4<=2 ^ (nearR.length+ms.length-6):=Wdm (by decide) (by show 4<=9+ms.length-6;omega);omega
 ·refine⟨Zqj,by rw[Zgo];decide,λms hm=>?_⟩
  have h1:=Zkb hm (a:=0) (by decide +kernel);rw[Zgo];have:2 ^ 3<=2 ^ (nearL.length+ms.length-2):=Wdm (by decide) (by show 3<=4+ms.length-2;omega);have h2:ms=[0,1]:=Zbj hm.1 (by decide) λx=>(hm.2 x).trans (by
   show x∈marksL 2 nearL↔_;rw[show marksL 2 nearL=[0,1] by decide +kernel])
  rw[h2]
  decide
theorem Zjh {N:Nat}{ts:List (Int × Int)}{ms:List Int}(hW:WebOk (N:Int) ts) (hm:Firsts ms (marksL N ts)):(cntL<|hsW N ts ms<|ordsW N ts).sum=(ways N ts:Int)/\(cntL<|hsW N ts ms<|ordsW N ts).length<=26:=by
 have h:=Zkg (hs:=hsW N ts ms<|ordsW N ts) (B:=25) λx hx=>Zrc hW Zfa hm x hx;refine⟨?_,h.2.2⟩;rw[h.2.1,<- Zgg N ts];exact congrArg _<|Wac _
section
variable {P:Program}{w:World}{K:W.Frag}{mg:Str->Option Value}{base:Heap}{f c T:Addr}{fd:FuncData}{c0 c1 c2 c3 c4 c5 c6 c7 c8 c9 c10 c11 c12 c13 c14 c15:Addr}
theorem ok_law (mb:Mb mg) (KB:K.In base) (NB:base.Ns mainGlobals mg) (hC:codeOfF K f c T=true) (HB:base.BuiltinsAt mg T) (CTT:ToldL P w K mg 10 "_law_told" qual1 (lamOf lam1).1 (lamOf lam1).2.1 (lamOf lam1).2.2.1 ["_law_web_here","_law_asked"] (spD K<|fT1 mg c11)/\ToldL P w K mg 10 "_law_told" qual1 (lamOf lam2).1 (lamOf lam2).2.1 (lamOf lam2).2.2.1 ["_law_near"] (spD K<|fT2 c11))
  (C36:Callee P w K mg base 1 "_law_pen" ["_law_script"] (spN K fPen)) (C33:Callee P w K mg base 1 "_law_draw" ["_law_pen_here","_law_many"] (spB K fDraw)) (C35:Callee P w K mg base 3 "_law_great" ["_law_pen_here"] (spB K fGreat)) (C42:Callee P w K mg base 8 "counts" ["web"] (spN K fCounts)) (C37:Callee P w K mg base 2 "_law_ways" ["_law_web_here"] (spD K fWays)) (X1:CalleeX P w K mg base 8 "counts" ["web"] (spX K<|fRfW c11)) (X2:CalleeX P w K mg base 8 "fewest" ["web"] (spX K<|fRfW c11)) (X3:CalleeX P w K mg base 8 "most" ["web"] (spX K<|fRfW c11)) (X4:CalleeX P w K mg base 8 "crossed_counts" ["web"] (spX K<|fRfC c11))
  (F:Fun K "law" "law" Yaa f fd):FnOk P w K mg base CX0 11 f fd ["_law_script"] (spLT K T fLaw):=by
 obtain⟨CT0,CT1⟩:=CTT;obtain⟨k1,_,m_counts⟩:=X1.val;obtain⟨k2,_,m_fewest⟩:=X2.val;obtain⟨k3,_,m_most⟩:=X3.val;obtain⟨k4,_,m_crossed_counts⟩:=X4.val;refine F.okT hC Yae (Zp6 λds Post h=>by obtain⟨_,rfl,_⟩:=h;rfl) λA outer s H vs Q E hr hCh h=>?_;have hu:=Zbn hr;have hv:=Ztw hr;have CH:=PySem.W.codeHd_of_K KB hCh;refine⟨_,Zui (i:=8) rfl (λx hx=>?_) (by (refine' Zae ?s ?r); (case s=>exact(Zan (i:=1) Yae.nd rfl (Or.inl rfl)<|Za1 C36 (hr.mono<|by decide)<|Zaa (pv 0) Zab)); (case r=>exact(by (refine' Zae ?s ?r); (case s=>exact(Zan (i:=2) Yae.nd rfl (Or.inr rfl)<|Za1 C35 (hr.mono<|by decide)<|Zaa (pv 1) Zab)); (case r=>exact(by (refine' Zae ?s ?r); (case s=>exact(Zc1 PassesOwn.never rfl (seqK K<|Zcq<|Zaa (Za4 rfl m_counts (show RelV (.ref _) _ from rfl))<|Zaa (Za4 rfl m_fewest (show RelV (.ref _) _ from rfl))<|Zaa (Za4 rfl m_most (show RelV (.ref _) _ from rfl))<|Zaa (Za4 rfl m_crossed_counts (show RelV (.ref _) _ from rfl)) Zab) (Zar (i:=3) Yae.nd rfl<|Or.inr rfl)<|Zai<|Zdl (Za0 (neSmTK K hv) (Zmv (i:=8) CT0 (show LamSc (defScope Yaa) ["_law_script","_law_pen_here","_law_web_here","_law_asked","_law_ring","_law_near","_law_just","_law_first","!0"] _ ["_law_web_here","_law_asked"] [2,3] from ⟨rfl,rfl,rfl,by decide +kernel,by decide +kernel,rfl,by decide +kernel⟩) (hr.mono<|by decide) rfl CH HB) (@Zam _ _ _ _ _ (@Zaa _ _ _ _ _ Zbm (@Zaa _ _ _ _ _ Zbm Zab (@Zah _ _ _ _ _)) (@Zah _ _ _ _ _)))<|nomark _) (Zai<|Zay Zva) Zbi)); (case r=>exact(by (refine' Zae ?s ?r); (case s=>exact(by (refine' @Zan _ _ 4 _ _ _ _ Yae.nd rfl (Or.inl rfl) ?e1 rfl (by first|exact .inl rfl|exact .inr rfl|assumption)); (case e1=>exact(@Zam (xlaw P w K mg base f (.ref c) A outer s H E) _ _ _ _ (@Zaa _ _ _ _ _ (@Zam (xlaw P w K mg base f (.ref c) A outer s H E) _ _ _ _ (@Zaa _ _ _ _ _ Zaf (@Zaa _ _ _ _ _ Zaf Zab (@Zah _ _ _ _ _)) (@Zah _ _ _ _ _))) (@Zaa _ _ _ _ _ (@Zam (xlaw P w K mg base f (.ref c) A outer s H E) _ _ _ _ (@Zaa _ _ _ _ _ Zaf (@Zaa _ _ _ _ _ Zaf Zab (@Zah _ _ _ _ _)) (@Zah _ _ _ _ _))) (@Zaa _ _ _ _ _ (@Zam (xlaw P w K mg base f (.ref c) A outer s H E) _ _ _ _ (@Zaa _ _ _ _ _ Zaf (@Zaa _ _ _ _ _ Zaf Zab (@Zah _ _ _ _ _)) (@Zah _ _ _ _ _))) (@Zaa _ _ _ _ _ (@Zam (xlaw P w K mg base f (.ref c) A outer s H E) _ _ _ _ (@Zaa _ _ _ _ _ Zaf (@Zaa _ _ _ _ _ Zaf Zab (@Zah _ _ _ _ _)) (@Zah _ _ _ _ _))) (@Zaa _ _ _ _ _ (@Zam (xlaw P w K mg base f (.ref c) A outer s H E) _ _ _ _ (@Zaa _ _ _ _ _ Zaf (@Zaa _ _ _ _ _ Zaf Zab (@Zah _ _ _ _ _)) (@Zah _ _ _ _ _))) (@Zaa _ _ _ _ _ (@Zam (xlaw P w K mg base f (.ref c) A outer s H E) _ _ _ _ (@Zaa _ _ _ _ _ Zaf (@Zaa _ _ _ _ _ Zaf Zab (@Zah _ _ _ _ _)) (@Zah _ _ _ _ _))) (@Zaa _ _ _ _ _ (@Zam (xlaw P w K mg base f (.ref c) A outer s H E) _ _ _ _ (@Zaa _ _ _ _ _ Zaf (@Zaa _ _ _ _ _ Zaf Zab (@Zah _ _ _ _ _)) (@Zah _ _ _ _ _))) (@Zaa _ _ _ _ _ (@Zam (xlaw P w K mg base f (.ref c) A outer s H E) _ _ _ _ (@Zaa _ _ _ _ _ Zaf (@Zaa _ _ _ _ _ Zaf Zab (@Zah _ _ _ _ _)) (@Zah _ _ _ _ _))) (@Zaa _ _ _ _ _ (@Zam (xlaw P w K mg base f (.ref c) A outer s H E) _ _ _ _ (@Zaa _ _ _ _ _ Zaf (@Zaa _ _ _ _ _ Zaf Zab (@Zah _ _ _ _ _)) (@Zah _ _ _ _ _))) Zab (@Zau _ _ _ _ _)) (@Zau _ _ _ _ _)) (@Zau _ _ _ _ _)) (@Zau _ _ _ _ _)) (@Zau _ _ _ _ _)) (@Zau _ _ _ _ _)) (@Zau _ _ _ _ _)) (@Zau _ _ _ _ _)) (@Zau _ _ _ _ _)))))); (case r=>exact(by (refine' Zae ?s ?r); (case s=>exact(by (refine' @Zan _ _ 5 _ _ _ _ Yae.nd rfl (Or.inr rfl) ?e2 rfl (by first|exact .inl rfl|exact .inr rfl|assumption)); (case e2=>exact(Zbv (ixK K hu) (@Zcq (xlaw P w K mg base f (.ref c) A outer s H E) _ _ _  (@Zaa (xlaw P w K mg base f (.ref c) A outer s H E) _ _ _ _ (@Zam (xlaw P w K mg base f (.ref c) A outer s H E) _ _ _ _ (@Zaa (xlaw P w K mg base f (.ref c) A outer s H E) _ _ _ _ Zaf (@Zaa (xlaw P w K mg base f (.ref c) A outer s H E) _ _ _ _ (pv 4) Zab (@Zog _ _ _ _)) (@Zah _ _ _ _ _))) (@Zaa (xlaw P w K mg base f (.ref c) A outer s H E) _ _ _ _ (@Zam (xlaw P w K mg base f (.ref c) A outer s H E) _ _ _ _ (@Zaa _ _ _ _ _ Zaf (@Zaa _ _ _ _ _ (@Zam (xlaw P w K mg base f (.ref c) A outer s H E) _ _ _ _ (@Zaa _ _ _ _ _ (@Zam (xlaw P w K mg base f (.ref c) A outer s H E) _ _ _ _ (@Zaa _ _ _ _ _ Zaf (@Zaa _ _ _ _ _ Zaf Zab (@Zah _ _ _ _ _)) (@Zah _ _ _ _ _))) (@Zaa _ _ _ _ _ (@Zam (xlaw P w K mg base f (.ref c) A outer s H E) _ _ _ _ (@Zaa _ _ _ _ _ Zaf (@Zaa _ _ _ _ _ Zaf Zab (@Zah _ _ _ _ _)) (@Zah _ _ _ _ _))) (@Zaa _ _ _ _ _ (@Zam (xlaw P w K mg base f (.ref c) A outer s H E) _ _ _ _ (@Zaa _ _ _ _ _ Zaf (@Zaa _ _ _ _ _ Zaf Zab (@Zah _ _ _ _ _)) (@Zah _ _ _ _ _))) (@Zaa _ _ _ _ _ (@Zam (xlaw P w K mg base f (.ref c) A outer s H E) _ _ _ _ (@Zaa _ _ _ _ _ Zaf (@Zaa _ _ _ _ _ Zaf Zab (@Zah _ _ _ _ _)) (@Zah _ _ _ _ _))) Zab (@Zau _ _ _ _ _)) (@Zau _ _ _ _ _)) (@Zau _ _ _ _ _)) (@Zau _ _ _ _ _))) Zab (@Zau _ _ _ _ _)) (@Zah _ _ _ _ _))) Zab (@Zau _ _ _ _ _)) (@Zau _ _ _ _ _))) (Za1 C33 (hr.mono<|by decide)<|Zaa (pv 1)<|Zaa Zaf Zab) λ_ _=>rfl)))); (case r=>exact(by (refine' Zae ?s ?r); (case s=>exact(Zdl (PW.pt<|pw_or (Za0 (neSmTK K hv) (Zmv (i:=8) CT1 (show LamSc (defScope Yaa) ["_law_script","_law_pen_here","_law_web_here","_law_asked","_law_ring","_law_near","_law_just","_law_first","!0"] _ ["_law_near"] [5] from ⟨rfl,rfl,rfl,by decide +kernel,by decide +kernel,rfl,by decide +kernel⟩) (hr.mono<|by decide) rfl CH HB) (@Zam _ _ _ _ _ (@Zaa _ _ _ _ _ Zbm (@Zaa _ _ _ _ _ Zbm Zab (@Zah _ _ _ _ _)) (@Zah _ _ _ _ _)))<|nomark _)<|pw_or1<|Za0 Zrm (Zaj (sumK K rfl) rfl (mb "sum"<|by decide) Zm6<|Zaa (Za1 C42 (hr.mono<|by decide)<|Zaa (pv 5) Zab) Zab) (Za1 C37 (hr.mono<|by decide)<|Zaa (pv 5) Zab)<|nomark _) (Zai<|Zay Zva) Zbi)); (case r=>exact(by (refine' Zae ?s ?r); (case s=>exact(by (refine' @Zan _ _ 6 _ _ _ _ Yae.nd rfl (Or.inl rfl) ?e3 rfl (by first|exact .inl rfl|exact .inr rfl|assumption)); (case e3=>exact(@Zam (xlaw P w K mg base f (.ref c) A outer s H E) _ _ _ _ (@Zaa _ _ _ _ _ Zaf (@Zaa _ _ _ _ _ (@Zam (xlaw P w K mg base f (.ref c) A outer s H E) _ _ _ _ (@Zaa _ _ _ _ _ (@Zam (xlaw P w K mg base f (.ref c) A outer s H E) _ _ _ _ (@Zaa _ _ _ _ _ Zaf (@Zaa _ _ _ _ _ Zaf Zab (@Zah _ _ _ _ _)) (@Zah _ _ _ _ _))) (@Zaa _ _ _ _ _ (@Zam (xlaw P w K mg base f (.ref c) A outer s H E) _ _ _ _ (@Zaa _ _ _ _ _ Zaf (@Zaa _ _ _ _ _ Zaf Zab (@Zah _ _ _ _ _)) (@Zah _ _ _ _ _))) (@Zaa _ _ _ _ _ (@Zam (xlaw P w K mg base f (.ref c) A outer s H E) _ _ _ _ (@Zaa _ _ _ _ _ Zaf (@Zaa _ _ _ _ _ Zaf Zab (@Zah _ _ _ _ _)) (@Zah _ _ _ _ _))) (@Zaa _ _ _ _ _ (@Zam (xlaw P w K mg base f (.ref c) A outer s H E) _ _ _ _ (@Zaa _ _ _ _ _ Zaf (@Zaa _ _ _ _ _ Zaf Zab (@Zah _ _ _ _ _)) (@Zah _ _ _ _ _))) (@Zaa _ _ _ _ _ (@Zam (xlaw P w K mg base f (.ref c) A outer s H E) _ _ _ _ (@Zaa _ _ _ _ _ Zaf (@Zaa _ _ _ _ _ Zaf Zab (@Zah _ _ _ _ _)) (@Zah _ _ _ _ _))) (@Zaa _ _ _ _ _ (@Zam (xlaw P w K mg base f (.ref c) A outer s H E) _ _ _ _ (@Zaa _ _ _ _ _ Zaf (@Zaa _ _ _ _ _ Zaf Zab (@Zah _ _ _ _ _)) (@Zah _ _ _ _ _))) (@Zaa _ _ _ _ _ (@Zam (xlaw P w K mg base f (.ref c) A outer s H E) _ _ _ _ (@Zaa _ _ _ _ _ Zaf (@Zaa _ _ _ _ _ Zaf Zab (@Zah _ _ _ _ _)) (@Zah _ _ _ _ _))) (@Zaa _ _ _ _ _ (@Zam (xlaw P w K mg base f (.ref c) A outer s H E) _ _ _ _ (@Zaa _ _ _ _ _ Zaf (@Zaa _ _ _ _ _ Zaf Zab (@Zah _ _ _ _ _)) (@Zah _ _ _ _ _))) Zab (@Zau _ _ _ _ _)) (@Zau _ _ _ _ _)) (@Zau _ _ _ _ _)) (@Zau _ _ _ _ _)) (@Zau _ _ _ _ _)) (@Zau _ _ _ _ _)) (@Zau _ _ _ _ _)) (@Zau _ _ _ _ _))) Zab (@Zau _ _ _ _ _)) (@Zah _ _ _ _ _)))))); (case r=>exact(by (refine' Zae ?s ?r); (case s=>exact(Zan (i:=7) Yae.nd rfl (Or.inl rfl)<|Za1 C42 (hr.mono<|by decide)<|Zaa (pv 6) Zab)); (case r=>exact(by (refine' Zae ?s ?r); (case s=>exact(Zcb<|bmK K PySem.F.plainAttrs_list PySem.F.slot_list_append PySem.F.type_list_append Zbc (pv 7)<|Zaa Zaf Zab)); (case r=>exact(Zai<|Zay<|Zuo (Zmk Zc3 (Zaj (sumK K rfl) rfl (mb "sum"<|by decide) Zm6<|Zaa (pv 7) Zab) Zaf<|nomark _)<|Zu7<|Zmk Zc3 (Zaj (sumK K rfl) rfl (mb "sum"<|by decide) Zm6<|Zaa (Za1 C42 (hr.mono<|by decide)<|Zaa (pv 6) Zab) Zab) Zaf<|nomark _))))))))))))))))))),Zu3 (pl:=pl1) (λds Post hf=>?_) h⟩
 ·cases hx
  rintro(z|z|z) <;> (have z:(defScope Yaa).names.lookup (Str.ofString "!0")=_:=z;rw[Zqi]at z;cases z)
 obtain⟨ns,rfl,hl,q⟩:=hf;refine⟨by show 1<=8;decide,by show 8<9;decide,?_⟩;dsimp only[startD,Wbf,Wbh,Wa1,Wae];refine Zaq<|Zcp<|Zcx<|Zac<|Zad rfl<|Zag ⟨ns,rfl,hl,λps hp=>?_⟩;refine Zaq<|Zax<|Zgj rfl rfl<|Zag ⟨_,_,rfl,rfl,hp,rfl,λN ts p1 hp1 hW hw=>?_⟩;refine Zbb (λΔ=>∃x3:L2.Slot,Δ = [.val (.scr<|ns.map .int),.own (.lst p1),.val (encWeb (N:Int) ts),x3,.any,.any,.any,.any,.bor (.ext<|TabR T pl1)]) ?_ ?_
 ·refine Zdd (Ze0<|Zei<|Zac<|Zit<|Zac<|Zit<|Zac<|Zit<|Zac<|Zit<|Zag ⟨by show 4<=sizeLine;decide,_,Or.inl rfl,λ_ Δ=>∃x3:L2.Slot,Δ = [.val (.scr<|ns.map .int),.own (.lst p1),.val (encWeb (N:Int) ts),x3,.any,.any,.any,.any,.bor (.ext<|TabR T pl1)],⟨_,rfl⟩,?_,λ_ h=>h⟩)
  rintro i d Δ2 hd ⟨x3,rfl⟩;obtain⟨a,rfl,ha⟩:∃a,d=.adr a/\(mg "counts" = some (.ref a)\/mg "fewest" = some (.ref a)\/mg "most" = some (.ref a)\/mg "crossed_counts" = some (.ref a)):=by
   rcases i with _|_|_|_|i
   ·cases hd;exact⟨_,rfl,.inl m_counts⟩
   ·cases hd;exact⟨_,rfl,.inr (.inl m_fewest)⟩
   ·cases hd;exact⟨_,rfl,.inr (.inr (.inl m_most))⟩
   ·cases hd;exact⟨_,rfl,.inr (.inr (.inr m_crossed_counts))⟩
   ·cases hd
  refine Zbh<|Zer<|Zbg<|Zas<|Zro (ds:=[encWeb (N:Int) ts,.adr a]) base rfl Wbc (Zrt _) rfl ⟨λC=>C=c11,⟨N,ts,a,rfl,ha,hW,hw,rfl⟩,λC hC=>⟨hC,?_⟩⟩;exact Zb7<|Zac<|Zgv<|Zac<|Zgv<|Zag ⟨Zcr,Zri (n:=1) (by decide) rfl ⟨_,rfl,iteF<|Zb9 ⟨_,rfl⟩⟩⟩
 rintro Δ1 ⟨x3,rfl⟩;refine Zaq<|Zax<|Zes (d:=.tup<|nearR.map encTie) (by repeat' (first|exact Zch|exact Zcw|refine Zbe ?_ ?_|refine Ze2 ?_<|by decide)) ?_;refine Zbb (λΔ=>∃(p:List D) (M:Nat) (us:List (Int × Int)),((M=6/\us=nearR)\/(M=2/\us=nearL)) /\ Δ = [.val (.scr<|ns.map .int),.own (.lst p),.val (encWeb (N:Int) ts),x3,.val (.tup<|nearR.map encTie),.val (encWeb (M:Int) us),.any,.any,.bor (.ext<|TabR T pl1)]) ?_ ?_
 ·refine Zax (Zas<|Zes (Zu6 (Zbe (Ze2 (Zbe Zch<|Zbe (Zdc rfl) Zcw) Zcr)<|Zbe (d:=encWeb ((2:Nat):Int) nearL) (by repeat' (first|exact Zch|exact Zcw|refine Zbe ?_ ?_|refine Ze2 ?_<|by decide)) Zcw) Zcr) (Zk9 rfl rfl hp1 (by decide) (by decide) λz p2 hp2 z0 z1=>?_))
  rcases(show z=0\/z=1 by omega) with rfl|rfl
  ·exact Zci (d:=encWeb ((6:Nat):Int) nearR) rfl ⟨p2,6,nearR,.inl ⟨rfl,rfl⟩,rfl⟩
  ·exact Zci (d:=encWeb ((2:Nat):Int) nearL) rfl ⟨p2,2,nearL,.inr ⟨rfl,rfl⟩,rfl⟩
 rintro Δ1 ⟨p2,M,us,hu2,rfl⟩;obtain⟨hV,h960,hmany⟩:=Zou hu2;have hts:=hV.len;have hN:=hV.hi;refine Zaq<|Zer<|Zuv<|Zbg<|Zas<|Zro (ds:=[encWeb (M:Int) us]) base rfl (Way _ Wbc) (Zrt _) rfl ⟨λC=>C=c11,⟨M,us,rfl,hV,hmany,rfl⟩,λC hC=>⟨hC,?_⟩⟩;refine Zb7<|Zac<|Zgv<|Zac<|Zgv<|Zag ⟨Zcr,Zri (n:=1) (by decide) rfl ⟨_,rfl,iteF ?_⟩⟩;refine Zbg<|Zas<|Zb1<|Zac<|Zbt<|Zcx<|Zac<|Zad rfl<|Zag ⟨M,us,rfl,hV,h960,λms hm=>⟨_,rfl,Zag<|Zpj<|Zaz<|Zac<|Zad rfl<|Zag ⟨M,us,_,rfl,Or.inr rfl,by omega,by omega,Zs7 ⟨_,rfl,?_⟩⟩⟩⟩;rw[(Zjh hV hm).1,decide_eq_true rfl];refine iteF<|Zb9 ?_;refine Zaq<|Zax<|Zes (d:=encWeb ((5:Nat):Int) justW) (by repeat' (first|exact Zch|exact Zcw|refine Zbe ?_ ?_|refine Ze2 ?_<|by decide)) ?_;refine Zaq<|Zcp<|Zcx<|Zac<|Zad rfl<|Zag ⟨5,justW,rfl,Ze9,by rw[Zdv];decide,λms hm=>?_⟩;obtain⟨s1,s2⟩:=Zjh Ze9 hm;generalize cntL (hsW 5 justW ms<|ordsW 5 justW)=l at s1 s2 ⊢;rw[Zdv]at s1;refine Zaq<|Zdy rfl rfl<|Zao ⟨_,_,rfl,rfl,by rw[Wac];exact small1000 (by omega),?_⟩;refine Zrw (i:=7) (ds:=(l++[7]).map .int) (by rw[Wbg];rfl) ?_;refine Zbp<|Zoe<|Zas<|Zb1<|Zac<|Zad rfl<|Zag<|Zpj<|Zao<|Zgn ⟨_,rfl,?_⟩;rw[List.sum_append,s1];refine iteT<|Zas<|Zb1<|Zac<|Zbt<|Zcx<|Zac<|Zad rfl<|Zag ⟨5,justW,rfl,Ze9,by rw[Zdv];decide,λms' hm'=>⟨_,rfl,Zag<|Zpj<|Zao<|Zgn ?_⟩⟩;rw[(Zjh Ze9 hm').1,Zdv];exact⟨rfl,q⟩
end
theorem lenS {us:List Value}{n:Nat}(h:us.length=n+1):∃a t,us=a::t/\t.length=n:=by
 cases us with
 |nil=>exact absurd h.symm (Nat.succ_ne_zero n)
 |cons a t=>exact⟨a,t,rfl,Nat.succ.inj h⟩
theorem bK1 {α:Type _}{g r:List Value -> α}(h:∀a0,g [a0]=r [a0]) (us:List Value) (l:us.length=1):g us=r us:=by
 obtain⟨a0,u0,rfl,h0⟩:=lenS l;obtain rfl:=Wbv h0;exact h a0
theorem bK2 {α:Type _}{g r:List Value -> α}(h:∀a0 a1,g [a0,a1]=r [a0,a1]) (us:List Value) (l:us.length=2):g us=r us:=by
 obtain⟨a0,u0,rfl,h0⟩:=lenS l;obtain⟨a1,u1,rfl,h1⟩:=lenS h0;obtain rfl:=Wbv h1;exact h a0 a1
theorem bK3 {α:Type _}{g r:List Value -> α}(h:∀a0 a1 a2,g [a0,a1,a2]=r [a0,a1,a2]) (us:List Value) (l:us.length=3):g us=r us:=by
 obtain⟨a0,u0,rfl,h0⟩:=lenS l;obtain⟨a1,u1,rfl,h1⟩:=lenS h0;obtain⟨a2,u2,rfl,h2⟩:=lenS h1;obtain rfl:=Wbv h2;exact h a0 a1 a2
def FnE (K:W.Frag) (x:Str) (st:Stmt):Prop:=∃(f:Addr) (fd:FuncData),W.nsIn K mainGlobals x=some (some (.ref f))/\Fun K x x st f fd
theorem fnE {K:W.Frag}{x:Str}{st:Stmt}{f:Addr}{oc kV doc pm cdv ct:Value}{od an:Option Addr}{sl:Array (Option Value)}(a:W.nsIn K mainGlobals x=some (some (.ref f))) (l:K.lookup f=some ⟨oc,od,.func<|W.fnOf x x (defArgs st) (defBody st) (defScope st) .none kV doc pm an cdv ct,sl⟩) (c:W.codeIn K cdv x=true) (k:W.keepIn K (.ref f)=true):FnE K x st:=⟨f,_,a,Zvz l c k⟩
theorem Zor {P:Program}{w:World}{K:W.Frag}{mg:Str->Option Value}{base h:Heap}(X:K.In h) (G:h.Ns mainGlobals mg) {x:Str}{st:Stmt}{ps:List Str}{lv:Nat}{sp:Sp}(e:FnE K x st) (ok:∀{f:Addr}{fd:FuncData},Fun K x x st f fd->FnOk P w K mg base CX0 lv f fd ps sp) (hb:∀(kV doc pm:Value) (an:Option Addr) (cdv ct:Value) (us:List Value),us.length=ps.length->bindArgs (W.fnOf x x (defArgs st) (defBody st) (defScope st) .none kV doc pm an cdv ct) ⟨us,[]⟩=pure (ps.zip us)):Callee P w K mg base lv x ps sp:=by
 obtain⟨f,fd,a,F⟩:=e;exact⟨⟨f,fd,ok F,F.binds hb,F.kp,W.mg_of X G a⟩⟩
theorem Zpy {P:Program}{w:World}{K:W.Frag}{mg:Str->Option Value}{base h:Heap}(X:K.In h) (G:h.Ns mainGlobals mg) {x:Str}{st:Stmt}{ps:List Str}{lv:Nat}{sp:Addr->Sp}(e:FnE K x st) (ok:∀{f:Addr}{fd:FuncData},Fun K x x st f fd->∀xa,FnOkH xa P w K mg base CX0 lv f fd ps (sp xa)) (hb:∀(kV doc pm:Value) (an:Option Addr) (cdv ct:Value) (us:List Value),us.length=ps.length->bindArgs (W.fnOf x x (defArgs st) (defBody st) (defScope st) .none kV doc pm an cdv ct) ⟨us,[]⟩=pure (ps.zip us)):CalleeH P w K mg base lv x ps sp:=by
 obtain⟨f,fd,a,F⟩:=e;exact⟨⟨f,fd,ok F,F.binds hb,F.kp,W.mg_of X G a⟩⟩
theorem Zk7 {P:Program}{w:World}{K:W.Frag}{mg:Str->Option Value}{base h:Heap}(X:K.In h) (G:h.Ns mainGlobals mg) {x:Str}{st:Stmt}{ps:List Str}{lv:Nat}{sp:Sp}(e:FnE K x st) (ok:∀{f:Addr}{fd:FuncData},Fun K x x st f fd->FnOk P w K mg base (CXE P w) lv f fd ps sp) (hb:∀(kV doc pm:Value) (an:Option Addr) (cdv ct:Value) (us:List Value),us.length=ps.length->bindArgs (W.fnOf x x (defArgs st) (defBody st) (defScope st) .none kV doc pm an cdv ct) ⟨us,[]⟩=pure (ps.zip us)):CalleeX P w K mg base lv x ps sp:=by
 obtain⟨f,fd,a,F⟩:=e;exact⟨⟨f,fd,ok F,F.binds hb,F.kp,W.mg_of X G a⟩⟩
theorem Zle {K:W.Frag}{f c T:Addr}(h:codeOfF K f c T=true):PySem.W.codeHdIn K c T=true:=by
 unfold codeOfF at h;split at h
 ·rw[Waz]at h;exact h.2
 ·cases h
theorem all_mk {l:PySem.W.OpenLaw}{w:World}{K:W.Frag}{h:Heap}{mg:Str->Option Value}{fa:Addr}(X:K.In h) (G:h.Ns mainGlobals mg) (hfa:mg "law" = some (.ref fa))
  (e1:FnE K "_law_draw" Ybj)
  (e2:FnE K "_law_pen" Yav)
  (e3:FnE K "_law_web" Ybk)
  (e4:FnE K "place_of" Ya3)
  (e5:FnE K "follower" Ya6)
  (e6:FnE K "onward" Ya7)
  (e7:FnE K "least_first" Ya5)
  (e8:FnE K "face_of" Ya8)
  (e9:FnE K "faces" Yar)
  (e10:FnE K "parts_of" Yag)
  (e11:FnE K "lacking" Yba)
  (e12:FnE K "holes" Ya9)
  (e13:FnE K "rank_of" Ya4)
  (e14:FnE K "ends_at" Yaq)
  (e15:FnE K "rows_many" Ybc)
  (e16:FnE K "row_at" Ybd)
  (e17:FnE K "all_orders" Yal)
  (e18:FnE K "orders_many" Ybb)
  (e19:FnE K "holes_of_all" Yau)
  (e20:FnE K "_law_ends" Yaw)
  (e21:FnE K "_law_ways" Ybl)
  (e22:FnE K "count_one" Ybe)
  (e23:FnE K "small_orders" Yat)
  (e24:FnE K "counts" Yas)
  (e25:FnE K "crossed_many" Ybi)
  (e26:FnE K "_law_great" Yah)
  (e27:FnE K "crossed_counts" Ybh)
  (e28:FnE K "fewest" Ybf)
  (e29:FnE K "most" Ybg)
  (e30:FnE K "_law_word" Yam)
  (e31:FnE K "_law_told" Yax)
  (e32:FnE K "law" Yaa)
  {tk_MOST_FLOORS:Tok}(y_MOST_FLOORS:W.nsIn K mainGlobals "MOST_FLOORS" = some (some (.int 960 tk_MOST_FLOORS)))
  (z0:W.nsIn K mainGlobals "ValueError" = some none)
  (z1:W.nsIn K mainGlobals "abs" = some none)
  (z2:W.nsIn K mainGlobals "divmod" = some none)
  (z3:W.nsIn K mainGlobals "enumerate" = some none)
  (z4:W.nsIn K mainGlobals "isinstance" = some none)
  (z5:W.nsIn K mainGlobals "len" = some none)
  (z6:W.nsIn K mainGlobals "list" = some none)
  (z7:W.nsIn K mainGlobals "max" = some none)
  (z8:W.nsIn K mainGlobals "min" = some none)
  (z9:W.nsIn K mainGlobals "range" = some none)
  (z10:W.nsIn K mainGlobals "set" = some none)
  (z11:W.nsIn K mainGlobals "sorted" = some none)
  (z12:W.nsIn K mainGlobals "sum" = some none)
  (z13:W.nsIn K mainGlobals "tuple" = some none)
  {c_FloorError c_NoWeb c_NoOrder c_NoNumber c_NoEnd c_NoTie c_NoPlace c_NoTable c_NoRing c_NoPaper c_Apart c_TooMany c_TooGreat c_NoText c_NoName c_NoRow:Addr}
  (n_FloorError:W.nsIn K mainGlobals "FloorError" = some (some (.ref c_FloorError)))
  (e_FloorError:PySem.W.excIn K c_FloorError [.type "ValueError",.type "Exception",.type "BaseException",.type "object"] "ValueError.__new__" = true)
  (n_NoWeb:W.nsIn K mainGlobals "NoWeb" = some (some (.ref c_NoWeb)))
  (n_NoOrder:W.nsIn K mainGlobals "NoOrder" = some (some (.ref c_NoOrder)))
  (n_NoNumber:W.nsIn K mainGlobals "NoNumber" = some (some (.ref c_NoNumber)))
  (n_NoEnd:W.nsIn K mainGlobals "NoEnd" = some (some (.ref c_NoEnd)))
  (n_NoTie:W.nsIn K mainGlobals "NoTie" = some (some (.ref c_NoTie)))
  (n_NoPlace:W.nsIn K mainGlobals "NoPlace" = some (some (.ref c_NoPlace)))
  (n_NoTable:W.nsIn K mainGlobals "NoTable" = some (some (.ref c_NoTable)))
  (n_NoRing:W.nsIn K mainGlobals "NoRing" = some (some (.ref c_NoRing)))
  (n_NoPaper:W.nsIn K mainGlobals "NoPaper" = some (some (.ref c_NoPaper)))
  (n_Apart:W.nsIn K mainGlobals "Apart" = some (some (.ref c_Apart)))
  (n_TooMany:W.nsIn K mainGlobals "TooMany" = some (some (.ref c_TooMany)))
  (e_TooMany:PySem.W.excIn K c_TooMany [.type "ValueError",.type "Exception",.type "BaseException",.type "object"] "ValueError.__new__" = true)
  (n_TooGreat:W.nsIn K mainGlobals "TooGreat" = some (some (.ref c_TooGreat)))
  (n_NoText:W.nsIn K mainGlobals "NoText" = some (some (.ref c_NoText)))
  (n_NoName:W.nsIn K mainGlobals "NoName" = some (some (.ref c_NoName)))
  (n_NoRow:W.nsIn K mainGlobals "NoRow" = some (some (.ref c_NoRow)))
  (gsx:PySem.W.specialIn K (.builtin "object.__class__") "__get__" = some (some (.builtin "getset_descriptor.__get__")))
  (tkx:PySem.W.takesIn K (.builtin "object.__class__")=some true)
  (ic_Apart:PySem.W.isClsIn K c_Apart=true)
  (ty_Apart:PySem.W.typeIn K (.ref c_Apart)=some (.type "type"))
  (ic_NoEnd:PySem.W.isClsIn K c_NoEnd=true)
  (ty_NoEnd:PySem.W.typeIn K (.ref c_NoEnd)=some (.type "type"))
  (ic_NoName:PySem.W.isClsIn K c_NoName=true)
  (ty_NoName:PySem.W.typeIn K (.ref c_NoName)=some (.type "type"))
  (ic_NoNumber:PySem.W.isClsIn K c_NoNumber=true)
  (ty_NoNumber:PySem.W.typeIn K (.ref c_NoNumber)=some (.type "type"))
  (ic_NoOrder:PySem.W.isClsIn K c_NoOrder=true)
  (ty_NoOrder:PySem.W.typeIn K (.ref c_NoOrder)=some (.type "type"))
  (ic_NoPaper:PySem.W.isClsIn K c_NoPaper=true)
  (ty_NoPaper:PySem.W.typeIn K (.ref c_NoPaper)=some (.type "type"))
  (ic_NoPlace:PySem.W.isClsIn K c_NoPlace=true)
  (ty_NoPlace:PySem.W.typeIn K (.ref c_NoPlace)=some (.type "type"))
  (ic_NoRing:PySem.W.isClsIn K c_NoRing=true)
  (ty_NoRing:PySem.W.typeIn K (.ref c_NoRing)=some (.type "type"))
  (ic_NoRow:PySem.W.isClsIn K c_NoRow=true)
  (ty_NoRow:PySem.W.typeIn K (.ref c_NoRow)=some (.type "type"))
  (ic_NoTable:PySem.W.isClsIn K c_NoTable=true)
  (ty_NoTable:PySem.W.typeIn K (.ref c_NoTable)=some (.type "type"))
  (ic_NoText:PySem.W.isClsIn K c_NoText=true)
  (ty_NoText:PySem.W.typeIn K (.ref c_NoText)=some (.type "type"))
  (ic_NoTie:PySem.W.isClsIn K c_NoTie=true)
  (ty_NoTie:PySem.W.typeIn K (.ref c_NoTie)=some (.type "type"))
  (ic_NoWeb:PySem.W.isClsIn K c_NoWeb=true)
  (ty_NoWeb:PySem.W.typeIn K (.ref c_NoWeb)=some (.type "type"))
  (ic_TooGreat:PySem.W.isClsIn K c_TooGreat=true)
  (ty_TooGreat:PySem.W.typeIn K (.ref c_TooGreat)=some (.type "type"))
  (ic_TooMany:PySem.W.isClsIn K c_TooMany=true)
  (ty_TooMany:PySem.W.typeIn K (.ref c_TooMany)=some (.type "type"))
  (ga_TooMany:PySem.W.findIn K (.ref c_TooMany) "__getattribute__" = some (some (.builtin "BaseException.__getattribute__")))
  (gt_TooMany:PySem.W.findIn K (.ref c_TooMany) "__getattr__" = some none)
  (ca_TooMany:PySem.W.findIn K (.ref c_TooMany) "__class__" = some (some (.builtin "object.__class__")))
  (ob_TooMany:PySem.W.mroIn K c_TooMany (.type "object")=some true)
  (be_TooMany:PySem.W.mroIn K c_TooMany (.type "BaseException")=some true)
  (ve_TooMany:PySem.W.subIn K (.ref c_TooMany) (.type "ValueError")=some true)
  (m_TooMany:PySem.W.mroIn K c_TooMany (.ref c_FloorError)=some true)
  (s_TooMany_Apart:PySem.W.subIn K (.ref c_TooMany) (.ref c_Apart)=some false)
  (d_TooMany_Apart:(c_TooMany == c_Apart)=false)
  (s_TooMany_NoEnd:PySem.W.subIn K (.ref c_TooMany) (.ref c_NoEnd)=some false)
  (d_TooMany_NoEnd:(c_TooMany == c_NoEnd)=false)
  (s_TooMany_NoName:PySem.W.subIn K (.ref c_TooMany) (.ref c_NoName)=some false)
  (d_TooMany_NoName:(c_TooMany == c_NoName)=false)
  (s_TooMany_NoNumber:PySem.W.subIn K (.ref c_TooMany) (.ref c_NoNumber)=some false)
  (d_TooMany_NoNumber:(c_TooMany == c_NoNumber)=false)
  (s_TooMany_NoOrder:PySem.W.subIn K (.ref c_TooMany) (.ref c_NoOrder)=some false)
  (d_TooMany_NoOrder:(c_TooMany == c_NoOrder)=false)
  (s_TooMany_NoPaper:PySem.W.subIn K (.ref c_TooMany) (.ref c_NoPaper)=some false)
  (d_TooMany_NoPaper:(c_TooMany == c_NoPaper)=false)
  (s_TooMany_NoPlace:PySem.W.subIn K (.ref c_TooMany) (.ref c_NoPlace)=some false)
  (d_TooMany_NoPlace:(c_TooMany == c_NoPlace)=false)
  (s_TooMany_NoRing:PySem.W.subIn K (.ref c_TooMany) (.ref c_NoRing)=some false)
  (d_TooMany_NoRing:(c_TooMany == c_NoRing)=false)
  (s_TooMany_NoRow:PySem.W.subIn K (.ref c_TooMany) (.ref c_NoRow)=some false)
  (d_TooMany_NoRow:(c_TooMany == c_NoRow)=false)
  (s_TooMany_NoTable:PySem.W.subIn K (.ref c_TooMany) (.ref c_NoTable)=some false)
  (d_TooMany_NoTable:(c_TooMany == c_NoTable)=false)
  (s_TooMany_NoText:PySem.W.subIn K (.ref c_TooMany) (.ref c_NoText)=some false)
  (d_TooMany_NoText:(c_TooMany == c_NoText)=false)
  (s_TooMany_NoTie:PySem.W.subIn K (.ref c_TooMany) (.ref c_NoTie)=some false)
  (d_TooMany_NoTie:(c_TooMany == c_NoTie)=false)
  (s_TooMany_NoWeb:PySem.W.subIn K (.ref c_TooMany) (.ref c_NoWeb)=some false)
  (d_TooMany_NoWeb:(c_TooMany == c_NoWeb)=false)
  (s_TooMany_TooGreat:PySem.W.subIn K (.ref c_TooMany) (.ref c_TooGreat)=some false)
  (d_TooMany_TooGreat:(c_TooMany == c_TooGreat)=false)
  (s_TooMany_TooMany:PySem.W.subIn K (.ref c_TooMany) (.ref c_TooMany)=some true)
  {T fl c:Addr}{oc kV doc pm ct:Value}{od an:Option Addr}{sl:Array (Option Value)}(t1:K.lookup T=none) (ta:W.nsIn K mainGlobals "law" = some (some (.ref fl))) (tl:K.lookup fl=some ⟨oc,od,.func<|W.fnOf "law" "law" (defArgs Yaa) (defBody Yaa) (defScope Yaa) .none kV doc pm an (.ref c) ct,sl⟩) (tc:codeOfF K fl c T=true) :
  K.lookup T=none/\(∃c,PySem.W.codeHdIn K c T=true)/\∃fd:FuncData,(∀(s:Shared) (v:Value),BindsTo s fd ⟨[v],[]⟩ [("_law_script",v)])/\∀base:Heap,K.In base->base.Ns mainGlobals mg->base.BuiltinsAt mg T->FnOk l.prog w K mg base CX0 11 fa fd ["_law_script"] (spLT K T fLaw):=by
 obtain⟨f,fd,a,F⟩:=e32;have e:=hfa.symm.trans<|W.mg_of X G a;cases e;have e2:=a.symm.trans ta;cases e2;have mb:Mb mg:=by
  intro x hx;simp only[War,Wcb,or_false]at hx;rcases hx with rfl|rfl|rfl|rfl|rfl|rfl|rfl|rfl|rfl|rfl|rfl|rfl|rfl|rfl
  ·exact W.mg_none_of X G z0
  ·exact W.mg_none_of X G z1
  ·exact W.mg_none_of X G z2
  ·exact W.mg_none_of X G z3
  ·exact W.mg_none_of X G z4
  ·exact W.mg_none_of X G z5
  ·exact W.mg_none_of X G z6
  ·exact W.mg_none_of X G z7
  ·exact W.mg_none_of X G z8
  ·exact W.mg_none_of X G z9
  ·exact W.mg_none_of X G z10
  ·exact W.mg_none_of X G z11
  ·exact W.mg_none_of X G z12
  ·exact W.mg_none_of X G z13
 have cl:Cl K mg c_FloorError c_NoWeb c_NoOrder c_NoNumber c_NoEnd c_NoTie c_NoPlace c_NoTable c_NoRing c_NoPaper c_Apart c_TooMany c_TooGreat c_NoText c_NoName c_NoRow:=⟨W.mg_of X G n_FloorError,e_FloorError,W.mg_of X G n_NoWeb,W.mg_of X G n_NoOrder,W.mg_of X G n_NoNumber,W.mg_of X G n_NoEnd,W.mg_of X G n_NoTie,W.mg_of X G n_NoPlace,W.mg_of X G n_NoTable,W.mg_of X G n_NoRing,W.mg_of X G n_NoPaper,W.mg_of X G n_Apart,W.mg_of X G n_TooMany,e_TooMany,W.mg_of X G n_TooGreat,W.mg_of X G n_NoText,W.mg_of X G n_NoName,W.mg_of X G n_NoRow,⟨e_TooMany,ga_TooMany,gt_TooMany,ca_TooMany,gsx,tkx,ob_TooMany,be_TooMany⟩,m_TooMany,Zsl (by decide +kernel) ve_TooMany,Zct ic_Apart ty_Apart s_TooMany_Apart λz=>(by rw[d_TooMany_Apart]at z;exact z),Zct ic_NoEnd ty_NoEnd s_TooMany_NoEnd λz=>(by rw[d_TooMany_NoEnd]at z;exact z),Zct ic_NoName ty_NoName s_TooMany_NoName λz=>(by rw[d_TooMany_NoName]at z;exact z),Zct ic_NoNumber ty_NoNumber s_TooMany_NoNumber λz=>(by rw[d_TooMany_NoNumber]at z;exact z),Zct ic_NoOrder ty_NoOrder s_TooMany_NoOrder λz=>(by rw[d_TooMany_NoOrder]at z;exact z),Zct ic_NoPaper ty_NoPaper s_TooMany_NoPaper λz=>(by rw[d_TooMany_NoPaper]at z;exact z),Zct ic_NoPlace ty_NoPlace s_TooMany_NoPlace λz=>(by rw[d_TooMany_NoPlace]at z;exact z),Zct ic_NoRing ty_NoRing s_TooMany_NoRing λz=>(by rw[d_TooMany_NoRing]at z;exact z),Zct ic_NoRow ty_NoRow s_TooMany_NoRow λz=>(by rw[d_TooMany_NoRow]at z;exact z),Zct ic_NoTable ty_NoTable s_TooMany_NoTable λz=>(by rw[d_TooMany_NoTable]at z;exact z),Zct ic_NoText ty_NoText s_TooMany_NoText λz=>(by rw[d_TooMany_NoText]at z;exact z),Zct ic_NoTie ty_NoTie s_TooMany_NoTie λz=>(by rw[d_TooMany_NoTie]at z;exact z),Zct ic_NoWeb ty_NoWeb s_TooMany_NoWeb λz=>(by rw[d_TooMany_NoWeb]at z;exact z),Zct ic_TooGreat ty_TooGreat s_TooMany_TooGreat λz=>(by rw[d_TooMany_TooGreat]at z;exact z),Zct ic_TooMany ty_TooMany s_TooMany_TooMany λ_=>rfl⟩;have AL:∀base:Heap,(CalleeX l.prog w K mg base 8 "counts" ["web"]<|spX K<|fRfW c_TooMany)/\(CalleeX l.prog w K mg base 8 "fewest" ["web"]<|spX K<|fRfW c_TooMany)/\(CalleeX l.prog w K mg base 8 "most" ["web"]<|spX K<|fRfW c_TooMany)/\(CalleeX l.prog w K mg base 8 "crossed_counts" ["web"]<|spX K<|fRfC c_TooMany)/\(CalleeH l.prog w K mg base 1 "_law_word" ["_law_e"] λxa=>spD K<|fWd c_TooMany xa):=λbase=>by
  have M:=@Zor l.prog w K mg base h X G;have MH:=@Zpy l.prog w K mg base h X G;have MX:=@Zk7 l.prog w K mg base h X G;have C4:=M e4 (Zka mb) λ_ _ _ _ _ _=>bK2 λ_ _=>rfl;have C5:=M e5 (Zfs mb C4) λ_ _ _ _ _ _=>bK3 λ_ _ _=>rfl;have C6:=M e6 (Zis mb C5) λ_ _ _ _ _ _=>bK3 λ_ _ _=>rfl;have C7:=M e7 (Zi7 mb) λ_ _ _ _ _ _=>bK1 λ_=>rfl;have C8:=M e8 (Zg5 mb C6 C7) λ_ _ _ _ _ _=>bK3 λ_ _ _=>rfl;have C9:=M e9 (Zkx mb C8) λ_ _ _ _ _ _=>bK2 λ_ _=>rfl;have C10:=M e10 (Zfz mb) λ_ _ _ _ _ _=>bK1 λ_=>rfl;have C11:=M e11 (Zgq mb C10) λ_ _ _ _ _ _=>bK2 λ_ _=>rfl;have C12:=M e12 (Zkl mb C11 C9) λ_ _ _ _ _ _=>bK2 λ_ _=>rfl;have C13:=M e13 (Zm2 mb C10) λ_ _ _ _ _ _=>bK1 λ_=>rfl;have C14:=M e14 (Zg6 mb C4) λ_ _ _ _ _ _=>bK2 λ_ _=>rfl;have C15:=M e15 (Zur mb) λ_ _ _ _ _ _=>bK1 λ_=>rfl;have C18:=M e18 (Zrh mb C15 C14) λ_ _ _ _ _ _=>bK1 λ_=>rfl;have C19:=M e19 (Zrx mb C12) λ_ _ _ _ _ _=>bK2 λ_ _=>rfl;have C22:=M e22 (Zrl mb) λ_ _ _ _ _ _=>bK2 λ_ _=>rfl;have C25:=M e25 (Znz mb C18 C13) λ_ _ _ _ _ _=>bK1 λ_=>rfl;have C27:=MX e23 (Zr0 mb cl (W.mg_of X G y_MOST_FLOORS) C18) λ_ _ _ _ _ _=>bK1 λ_=>rfl;have C28:=MX e27 (Zrg mb cl (W.mg_of X G y_MOST_FLOORS) C25) λ_ _ _ _ _ _=>bK1 λ_=>rfl;have C29:=MX e24 (Zg7 mb C27 C19 C22) λ_ _ _ _ _ _=>bK1 λ_=>rfl;have C30:=MX e28 (Znq mb C27) λ_ _ _ _ _ _=>bK1 λ_=>rfl;have C31:=MX e29 (Zkm mb C27) λ_ _ _ _ _ _=>bK1 λ_=>rfl;have C32:=MH e30 (Ztq mb cl) λ_ _ _ _ _ _=>bK1 λ_=>rfl;exact⟨C29,C30,C31,C28,C32⟩
 obtain⟨ft,fdt,att,Ft⟩:=e31;have CT0:=Ztb (P:=l.prog) (w:=w) (h:=h) mb cl Ft (W.mg_of X G att) (λbase=>(AL base).1) (λbase=>(AL base).2.1) (λbase=>(AL base).2.2.1) (λbase=>(AL base).2.2.2.1) λbase=>(AL base).2.2.2.2;have F2:=F;obtain⟨oc2,od2,kV2,doc2,pm2,an2,cdv2,ct2,osl2,rfl,lk,hcd⟩:=F2.ex;refine⟨t1,⟨_,Zle tc⟩,W.fnOf "law" "law" (defArgs Yaa) (defBody Yaa) (defScope Yaa) .none kV2 doc2 pm2 an2 cdv2 ct2,λs v=>.of_eq rfl,λbase KB NB HB=>?_⟩;have M:=@Zor l.prog w K mg base h X G;have MX:=@Zk7 l.prog w K mg base h X G;have C1:=M e1 (Zss mb) λ_ _ _ _ _ _=>bK2 λ_ _=>rfl;have C2:=M e2 (Zu5 mb) λ_ _ _ _ _ _=>bK1 λ_=>rfl;have C3:=M e3 (Zux mb C1) λ_ _ _ _ _ _=>bK3 λ_ _ _=>rfl;have C4:=M e4 (Zka mb) λ_ _ _ _ _ _=>bK2 λ_ _=>rfl;have C5:=M e5 (Zfs mb C4) λ_ _ _ _ _ _=>bK3 λ_ _ _=>rfl;have C6:=M e6 (Zis mb C5) λ_ _ _ _ _ _=>bK3 λ_ _ _=>rfl;have C7:=M e7 (Zi7 mb) λ_ _ _ _ _ _=>bK1 λ_=>rfl;have C8:=M e8 (Zg5 mb C6 C7) λ_ _ _ _ _ _=>bK3 λ_ _ _=>rfl;have C9:=M e9 (Zkx mb C8) λ_ _ _ _ _ _=>bK2 λ_ _=>rfl;have C10:=M e10 (Zfz mb) λ_ _ _ _ _ _=>bK1 λ_=>rfl;have C11:=M e11 (Zgq mb C10) λ_ _ _ _ _ _=>bK2 λ_ _=>rfl;have C12:=M e12 (Zkl mb C11 C9) λ_ _ _ _ _ _=>bK2 λ_ _=>rfl;have C13:=M e13 (Zm2 mb C10) λ_ _ _ _ _ _=>bK1 λ_=>rfl;have C14:=M e14 (Zg6 mb C4) λ_ _ _ _ _ _=>bK2 λ_ _=>rfl;have C15:=M e15 (Zur mb) λ_ _ _ _ _ _=>bK1 λ_=>rfl;have C16:=M e16 (Zqx mb C15) λ_ _ _ _ _ _=>bK2 λ_ _=>rfl;have C17:=M e17 (Zr9 mb C14 C15 C16) λ_ _ _ _ _ _=>bK1 λ_=>rfl;have C18:=M e18 (Zrh mb C15 C14) λ_ _ _ _ _ _=>bK1 λ_=>rfl;have C19:=M e19 (Zrx mb C12) λ_ _ _ _ _ _=>bK2 λ_ _=>rfl;have C20:=M e20 (Zq8 mb) λ_ _ _ _ _ _=>bK2 λ_ _=>rfl;have C21:=M e21 (Zr7 mb C20) λ_ _ _ _ _ _=>bK1 λ_=>rfl;have C22:=M e22 (Zrl mb) λ_ _ _ _ _ _=>bK2 λ_ _=>rfl;have C23:=M e23 (Zq0 mb (W.mg_of X G y_MOST_FLOORS) C18 C17) λ_ _ _ _ _ _=>bK1 λ_=>rfl;have C24:=M e24 (Zmo mb C19 C23 C22) λ_ _ _ _ _ _=>bK1 λ_=>rfl;have C25:=M e25 (Znz mb C18 C13) λ_ _ _ _ _ _=>bK1 λ_=>rfl;have C26:=M e26 (Zqd mb C1 C3 C21) λ_ _ _ _ _ _=>bK1 λ_=>rfl;have C27:=MX e23 (Zr0 mb cl (W.mg_of X G y_MOST_FLOORS) C18) λ_ _ _ _ _ _=>bK1 λ_=>rfl;have C28:=MX e27 (Zrg mb cl (W.mg_of X G y_MOST_FLOORS) C25) λ_ _ _ _ _ _=>bK1 λ_=>rfl;have C29:=MX e24 (Zg7 mb C27 C19 C22) λ_ _ _ _ _ _=>bK1 λ_=>rfl;have C30:=MX e28 (Znq mb C27) λ_ _ _ _ _ _=>bK1 λ_=>rfl;have C31:=MX e29 (Zkm mb C27) λ_ _ _ _ _ _=>bK1 λ_=>rfl;exact ok_law mb KB NB tc HB CT0 C2 C1 C26 C24 C21 C29 C30 C31 C28 F
end Lw
open PySem PySem.W PyProof.Rows
namespace PySem.W.Fast
theorem te2519984891316115966:True:=trivial
def tw168122718287172374:PySem.Program:=PySem.Challenge.pw_holefloor_k48_too_many_orders
theorem te168122718287172374:PySem.Challenge.pw_holefloor_k48_too_many_orders=tw168122718287172374:=rfl
def tw8261403687187591924:Unit:=()
def tw9642504861263836126:Unit:=()
def tw15825053005799961926:Unit:=()
def tw16330437148831921681:Unit:=()
def tw16163011783581871956:Unit:=()
def tw1096654717044804961:Unit:=()
def tw16395541886336522015:Unit:=()
def tw17839889933291679201:Unit:=()
def tw4694455273261708252:Unit:=()
def tw4971649366517191716:Unit:=()
def tw7914457489223385089:Unit:=()
def tw7641310644885483601:Unit:=()
def tw2083605938808997560:Unit:=()
def tw6790408589168039444:Unit:=()
def tw809074327155786936:Unit:=()
def tw17392589250665353709:Unit:=()
def tw17881629333133610187:Unit:=()
def tw15277407368088879370:Unit:=()
def tw1756121914839077160:Unit:=()
def tw16065319247550296255:Unit:=()
def tw2302747818658556080:Unit:=()
def tw16178637407374372484:Unit:=()
def tw5399695859339188031:Unit:=()
def tw15779379812918098806:Unit:=()
def tw10314375552640931010:Unit:=()
def tw3350942279267210084:Unit:=()
def tw10531354679757710193:Unit:=()
def tw2965178887967732942:Unit:=()
def tw13884491766782797766:Unit:=()
def tw8806037069707542811:Unit:=()
def tw498763535020825159:Unit:=()
def tw11151529870204275497:Unit:=()
def tw1927322233425358725:Unit:=()
def tw12947915405217137315:Unit:=()
def tw15234000433404577136:Unit:=()
def tw7650810512464246630:Unit:=()
def tw9601825021622070972:Unit:=()
def tw16673827329866509148:Unit:=()
def tw12646403420786890996:Unit:=()
def tw15597171340973280229:Unit:=()
def tw6602804815953979946:Unit:=()
def tw1662733706328213483:Unit:=()
def tw3360314597521666680:Unit:=()
def tw9878146977769271798:Unit:=()
def tw10030993454939472858:Unit:=()
def tw7781820898586125277:Unit:=()
def tw13634607164328552718:Unit:=()
def tw5172178449586825603:Unit:=()
def tw12557560003771241079:Unit:=()
def tw8718115850584046995:Unit:=()
def tw2192227046890531227:Unit:=()
def tw11099334366938516099:Unit:=()
def tw7680925878379253852:Unit:=()
def tw6457520675612097967:Unit:=()
def tw16389680667830990731:Unit:=()
def tw10075811011809252289:Unit:=()
def tw9549432081781882532:Unit:=()
def tw12805618161653022807:Unit:=()
def tw7271960837239400558:Unit:=()
def tw11268636225689784946:Unit:=()
def tw8370495467272729466:Unit:=()
def tw3642226890255911569:Unit:=()
def tw14164983800295915853:Unit:=()
def tw9561653254165178732:Unit:=()
def tw9450262334997112807:Unit:=()
def tw3284967116646929144:Unit:=()
def tw5748452139216497771:Unit:=()
def tw13900708633452991522:Unit:=()
def tw10982502469285382234:Unit:=()
def tw4889894328065836641:Unit:=()
def tw8242298773122597212:Unit:=()
def tw10875089629988333439:Unit:=()
def tw2368787467190235928:Unit:=()
def tw7036105134166433724:Unit:=()
def tw1943744809415055325:Unit:=()
def tw17479400737344294171:Unit:=()
def tw14413505988574443106:Unit:=()
def tw2769235956612956175:Unit:=()
def tw18381784366234192233:Unit:=()
def tw10426149453314806641:Unit:=()
def tw620808796095679615:Unit:=()
def tw4650997046083761956:Unit:=()
def tw5643743449655223267:Unit:=()
def tw1934764405967699739:Unit:=()
def tw2816889340884882668:Unit:=()
def tw3093798487579251701:Unit:=()
def tw320291313615495992:Unit:=()
def tw10141121912941845840:Unit:=()
def tw7216248416021712284:Unit:=()
def tw10733230255505386958:Unit:=()
def tw15224253022810280556:Unit:=()
def tw5499408375565206931:Unit:=()
def tw15850124409362094885:Unit:=()
def tw929299208984925130:Unit:=()
def tw15290845728500705328:Unit:=()
def tw15342871563323786883:Unit:=()
def tw10694531819316056587:Unit:=()
def tw1106409435442968749:Unit:=()
def tw2685241738449000301:Unit:=()
def tw8476558444022103180:Unit:=()
def tw196235364220364309:Unit:=()
def tw10573712363901126490:Unit:=()
def tw15284337353669711170:Unit:=()
def tw13417570471605037028:Unit:=()
def tw12341742006981009083:Unit:=()
def tw5475597593528363780:Unit:=()
def tw7220924846290275718:Unit:=()
def tw11173547498334816395:Unit:=()
def tw6581687236825569290:Unit:=()
def tw2963049818741746389:Unit:=()
def tw18228248777626976308:Unit:=()
def tw3653198418785604238:Unit:=()
def tw8637281412000642505:Unit:=()
def tw18091160115261817838:Unit:=()
def tw13815667804357244094:Unit:=()
def tw6146875369013533517:Unit:=()
def tw13974271601158789193:Unit:=()
def tw12075763297463104096:Unit:=()
def tw10417074571999991612:Unit:=()
def tw14846147642778468200:Unit:=()
def tw10770162714754114525:Unit:=()
def tw12302462494663490013:Unit:=()
def tw12602387851743804128:Unit:=()
def tw8245359227829481151:Unit:=()
def tw1695316412552599683:Unit:=()
def tw5298281357938910401:Unit:=()
def tw14509221783834443692:Unit:=()
def tw3024480237121009317:Unit:=()
end PySem.W.Fast
set_option maxRecDepth 100000 in
set_option maxHeartbeats 0 in
theorem PySem.Challenge.cw_holefloor_k48_too_many_orders_holds : PySem.Challenge.rw_holefloor_k48_too_many_orders.Holds := by
 w_on;o_law;k_head; (case hw=>w_witness2)
 k_fill
 refine L2.walk_lawT (k:=11) (x:="_law_script") (l:=PySem.Challenge.rw_holefloor_k48_too_many_orders) ⟨rfl,by decide,by decide,rfl⟩ rfl rfl (λw h Y=>PySem.W.km_in_of Y) (λw h Y=>PySem.W.km_tabs_of Y _ Wbc) ?F
 case F=>
  intro w mg fa h KX G hmg;refine' Lw.all_mk KX G hmg ?e1 ?e2 ?e3 ?e4 ?e5 ?e6 ?e7 ?e8 ?e9 ?e10 ?e11 ?e12 ?e13 ?e14 ?e15 ?e16 ?e17 ?e18 ?e19 ?e20 ?e21 ?e22 ?e23 ?e24 ?e25 ?e26 ?e27 ?e28 ?e29 ?e30 ?e31 ?e32 ?y_MOST_FLOORS ?z0 ?z1 ?z2 ?z3 ?z4 ?z5 ?z6 ?z7 ?z8 ?z9 ?z10 ?z11 ?z12 ?z13 ?n_FloorError ?e_FloorError ?n_NoWeb ?n_NoOrder ?n_NoNumber ?n_NoEnd ?n_NoTie ?n_NoPlace ?n_NoTable ?n_NoRing ?n_NoPaper ?n_Apart ?n_TooMany ?e_TooMany ?n_TooGreat ?n_NoText ?n_NoName ?n_NoRow ?gsx ?tkx ?ic_Apart ?ty_Apart ?ic_NoEnd ?ty_NoEnd ?ic_NoName ?ty_NoName ?ic_NoNumber ?ty_NoNumber ?ic_NoOrder ?ty_NoOrder ?ic_NoPaper ?ty_NoPaper ?ic_NoPlace ?ty_NoPlace ?ic_NoRing ?ty_NoRing ?ic_NoRow ?ty_NoRow ?ic_NoTable ?ty_NoTable ?ic_NoText ?ty_NoText ?ic_NoTie ?ty_NoTie ?ic_NoWeb ?ty_NoWeb ?ic_TooGreat ?ty_TooGreat ?ic_TooMany ?ty_TooMany ?ga_TooMany ?gt_TooMany ?ca_TooMany ?ob_TooMany ?be_TooMany ?ve_TooMany ?m_TooMany ?s_TooMany_Apart ?d_TooMany_Apart ?s_TooMany_NoEnd ?d_TooMany_NoEnd ?s_TooMany_NoName ?d_TooMany_NoName ?s_TooMany_NoNumber ?d_TooMany_NoNumber ?s_TooMany_NoOrder ?d_TooMany_NoOrder ?s_TooMany_NoPaper ?d_TooMany_NoPaper ?s_TooMany_NoPlace ?d_TooMany_NoPlace ?s_TooMany_NoRing ?d_TooMany_NoRing ?s_TooMany_NoRow ?d_TooMany_NoRow ?s_TooMany_NoTable ?d_TooMany_NoTable ?s_TooMany_NoText ?d_TooMany_NoText ?s_TooMany_NoTie ?d_TooMany_NoTie ?s_TooMany_NoWeb ?d_TooMany_NoWeb ?s_TooMany_TooGreat ?d_TooMany_TooGreat ?s_TooMany_TooMany ?t1 ?ta ?tl ?tc
  (case y_MOST_FLOORS=>k_is)
  (case n_FloorError=>k_is)
  (case e_FloorError=>k_exc)
  (case n_NoWeb=>k_is)
  (case n_NoOrder=>k_is)
  (case n_NoNumber=>k_is)
  (case n_NoEnd=>k_is)
  (case n_NoTie=>k_is)
  (case n_NoPlace=>k_is)
  (case n_NoTable=>k_is)
  (case n_NoRing=>k_is)
  (case n_NoPaper=>k_is)
  (case n_Apart=>k_is)
  (case n_TooMany=>k_is)
  (case e_TooMany=>k_exc)
  (case n_TooGreat=>k_is)
  (case n_NoText=>k_is)
  (case n_NoName=>k_is)
  (case n_NoRow=>k_is)
  (case gsx=>k_is)
  (case tkx=>k_is)
  (case ic_Apart=>k_is)
  (case ty_Apart=>k_is)
  (case ic_NoEnd=>k_is)
  (case ty_NoEnd=>k_is)
  (case ic_NoName=>k_is)
  (case ty_NoName=>k_is)
  (case ic_NoNumber=>k_is)
  (case ty_NoNumber=>k_is)
  (case ic_NoOrder=>k_is)
  (case ty_NoOrder=>k_is)
  (case ic_NoPaper=>k_is)
  (case ty_NoPaper=>k_is)
  (case ic_NoPlace=>k_is)
  (case ty_NoPlace=>k_is)
  (case ic_NoRing=>k_is)
  (case ty_NoRing=>k_is)
  (case ic_NoRow=>k_is)
  (case ty_NoRow=>k_is)
  (case ic_NoTable=>k_is)
  (case ty_NoTable=>k_is)
  (case ic_NoText=>k_is)
  (case ty_NoText=>k_is)
  (case ic_NoTie=>k_is)
  (case ty_NoTie=>k_is)
  (case ic_NoWeb=>k_is)
  (case ty_NoWeb=>k_is)
  (case ic_TooGreat=>k_is)
  (case ty_TooGreat=>k_is)
  (case ic_TooMany=>k_is)
  (case ty_TooMany=>k_is)
  (case ga_TooMany=>k_is)
  (case gt_TooMany=>k_is)
  (case ca_TooMany=>k_is)
  (case ob_TooMany=>k_is)
  (case be_TooMany=>k_is)
  (case ve_TooMany=>k_is)
  (case m_TooMany=>k_is)
  (case s_TooMany_Apart=>k_is)
  (case d_TooMany_Apart=>rfl)
  (case s_TooMany_NoEnd=>k_is)
  (case d_TooMany_NoEnd=>rfl)
  (case s_TooMany_NoName=>k_is)
  (case d_TooMany_NoName=>rfl)
  (case s_TooMany_NoNumber=>k_is)
  (case d_TooMany_NoNumber=>rfl)
  (case s_TooMany_NoOrder=>k_is)
  (case d_TooMany_NoOrder=>rfl)
  (case s_TooMany_NoPaper=>k_is)
  (case d_TooMany_NoPaper=>rfl)
  (case s_TooMany_NoPlace=>k_is)
  (case d_TooMany_NoPlace=>rfl)
  (case s_TooMany_NoRing=>k_is)
  (case d_TooMany_NoRing=>rfl)
  (case s_TooMany_NoRow=>k_is)
  (case d_TooMany_NoRow=>rfl)
  (case s_TooMany_NoTable=>k_is)
  (case d_TooMany_NoTable=>rfl)
  (case s_TooMany_NoText=>k_is)
  (case d_TooMany_NoText=>rfl)
  (case s_TooMany_NoTie=>k_is)
  (case d_TooMany_NoTie=>rfl)
  (case s_TooMany_NoWeb=>k_is)
  (case d_TooMany_NoWeb=>rfl)
  (case s_TooMany_TooGreat=>k_is)
  (case d_TooMany_TooGreat=>rfl)
  (case s_TooMany_TooMany=>k_is)
  (case ta=>k_is)
  (case tl=>k_is)
  (case t1=>kernel_rfl)
  (case tc=>kernel_rfl)
  all_goals first|(refine' Lw.fnE ?a ?l ?c ?k; (case a=>k_is); (case l=>k_is); (case c=>k_is); (case k=>k_is))|k_is

