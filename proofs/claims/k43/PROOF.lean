import PyProof.Rows.All
import Wide.All
import OpenK.AllK
import Wide.FinOn
import Lean
import PyProof.EqAt
import PyProof.EqKinds
import PyProof.TupleCall
import KE.KSortTup
import PyProof.NeKinds
import PyProof.ExcBaseAll.ValueError
import PyProof.ExcArgsOwn
import PyProof.NsDelKeeps
import PyProof.RulesAs
import PyProof.FString
import PyProof.AttrMissSeq
import PyProof.WalksS
import KE.KDictList
import KE.KDictSum
import PyProof.MinMaxWalk
import KE.KMinKey
import PyProof.Rows.CallKwBuiltin
import PyProof.Rows.RuleDivmod
import PyProof.ListMulAny
import PyProof.FactsAll.tuple
import KE.KRevIter
import PyProof.EnumMake
import KE.KMulAny
import PyProof.FactsAll.range
import PyProof.Rows.StrNews
import KE.KIntText
import PyProof.StrWalks
import KE.KLam
import KE.KNestM
import PySem.Challenge.RW_holefloor_k43_orders_by_tables
open List renaming length_map→Waa, getElem?_eq_getElem→Wab, getElem?_map→Wad, replicate→Wae, getD_eq_getElem?_getD→Waf, getElem?_eq_some_iff→Wag, size_toArray→Wah, mem_of_getElem?→Wai, length_append→Waj, map_map→Wal, length_cons→Wan, mem_cons→Wap, range→Waq, map_append→War, mem_map→Was, mem_cons_self→Wat, getElem?_set_self→Wau, mem_range→Wav, getElem?_set_ne→Waw, mem_cons_of_mem→Way, filter_eq_self→Waz, mem_append_right→Wa0, map_cons→Wa1, length_replicate→Wa2, append_nil→Wa3, map_congr_left→Wa4, length_range→Wa5, length→Wa9, all_eq_true→Wba, flatten_cons→Wbb, getElem?_append_right→Wbc, mem_filter→Wbd, append_assoc→Wbe, getElem_toArray→Wbf, mem_iff_getElem?→Wbg, take_add_one→Wbi, tail→Wbj, length_take→Wbk, getElem_mem→Wbl, getElem?_append_left→Wbm, map→Wbn, take_length→Wbo, mem_append→Wbp, find?_cons→Wbq, getElem?_eq_none→Wbr, mem_singleton→Wbs, filter_cons→Wbt, eq_nil_of_length_eq_zero→Wbv, sublist_flatten_of_mem→Wbz, take_append_drop→Wb0, getElem?_range→Wb1, not_mem_nil→Wb2, ext_getElem?→Wb3, length_drop→Wb4, take_zero→Wb6, filter_append→Wb9, mem_flatten→Wca, countP_cons→Wcb, find?_cons_of_neg→Wcc, pairwise_iff_getElem→Wcd, getElem?_zip_eq_some→Wce, nodup_cons→Wcg, mem_append_left→Wci, map_take→Wcj, replicate_succ→Wcl, perm_ext_iff_of_nodup→Wcm, lookup_cons→Wcn, mem_replicate→Wco, map_replicate→Wcp, length_singleton→Wcq, any_cons→Wcr, nodup_append→Wcs, map_const'→Wct, length_set→Wcu, getElem?_set→Wcv, getElem?_replicate→Wcx, flatten_append→Wcy, take_of_length_le→Wcz, length_pos_of_mem→Wc0, find?_cons_of_pos→Wc1, zip_cons_cons→Wc2, length_filter_le→Wc4, filter_congr→Wc5, mem_iff_getElem→Wc6, drop_zero→Wc7, nodup_range→Wc8, cons_append→Wc9, length_pos_iff→Wda, set_eq_of_length_le→Wdb, range_succ→Wdc, getElem_range→Wdd, pairwise_lt_range→Wdh, pairwise_map→Wdi, perm_append_comm→Wdk, getElem_inj→Wdm, idxOf_cons_self→Wdn, map_drop→Wdo, filter_map→Wdp, mem_of_find?_eq_some→Wdq, all_cons→Wds, isEmpty_iff→Wdu, length_zip→Wdw, length_nil→Wdx, nodup_nil→Wd2, map_id→Wd4, flatMap_append→Wd5, filterMap_cons→Wd6, find?_append→Wea, map_set→Wec, map_id'→Wed, any_eq_true→Wef
open PySem.Heap renaming get?_push_of_some→Wac, get?_push_size→Wao, lt_size→Wax, get?_update_other→Wbu, get?_update_self→Wb7, size_push→Wcf, get?_push_ne→Wdr, size_update→Wdv
open Nat renaming le_refl→Wak, ne_of_lt→Wa8, lt_of_lt_of_le→Wbh, zero_le→Wbx, le_trans→Wby, le_of_lt→Wb8, lt_of_le_of_lt→Wch, lt_succ_of_lt→Wck, lt_irrefl→Wdf, ne_of_gt→Wdl, le_succ→Wdt, zero_add→Wdz, sub_zero→Wd0, add_le_add_left→Wd7, mod_lt→Web, min_self→Wee
open Bool renaming false_ne_true→Wam, and_eq_true→Wbw, eq_iff_iff→Wcw, false_eq_true→Wde, eq_false_iff→Wdj, beq_eq_decide_eq→Wdy, false_and→Wd3, true_and→Wd8, and_self→Wd9
open Option renaming some→Wa6
open Int renaming toNat_natCast→Wa7, zero_add→Wb5, emod_lt_of_pos→Wc3, emod_nonneg→Wdg, le_of_lt→Wd1
set_option Elab.async false
set_option linter.all false
set_option maxRecDepth 100000
namespace L2
open PySem PySem.Spec PyProof.Rows
abbrev Key:=Sum Int Str
def keyIs:Key->Value->Bool
 |.inl k,v=>Value.isInt k v
 |.inr x,v=>Value.isStrOf x v
def keyH (w:World):Key->Int
 |.inl k=>hashInt k
 |.inr x=>hashStr w x
theorem Zbt:∀{k:Key}{v:Value},keyIs k v=true->(∃i t,k=Sum.inl i/\v=Value.int i t)\/(∃x t,k=Sum.inr x/\v=Value.str x t)
 |.inl i,v,h=>by
  obtain⟨t,e⟩:=Value.isInt_shape (k:=i) (v:=v) h;exact .inl ⟨i,t,rfl,e⟩
 |.inr x,v,h=>by
  obtain⟨t,e⟩:=Value.isStrOf_shape (x:=x) (v:=v) h;exact .inr ⟨x,t,rfl,e⟩
theorem Zo8 (i:Int) (t:Tok):keyIs (.inl i) (.int i t)=true:=by simp[keyIs,Value.isInt]
theorem Zor (x:Str) (t:Tok):keyIs (.inr x) (.str x t)=true:=by simp[keyIs,Value.isStrOf]
theorem Zwu (a b:Int):decide ((Sum.inl a:Key)=Sum.inl b)=(a == b):=by
 by_cases e:a=b
 ·subst e;simp
 ·have h:¬ (Sum.inl a:Key)=Sum.inl b:=λq=>e (Sum.inl.inj q)
  rw[decide_eq_false h];exact(beq_eq_false_iff_ne.mpr e).symm
theorem Zvf (a b:Str):decide ((Sum.inr a:Key)=Sum.inr b)=decide (a=b):=by
 by_cases e:a=b
 ·subst e;simp
 ·have h:¬ (Sum.inr a:Key)=Sum.inr b:=λq=>e (Sum.inr.inj q)
  rw[decide_eq_false h,decide_eq_false e]
theorem Zu9 (a:Int) (b:Str):decide ((Sum.inl a:Key)=Sum.inr b)=false:=decide_eq_false λq=>nomatch q
theorem Zwg (a:Str) (b:Int):decide ((Sum.inr a:Key)=Sum.inl b)=false:=decide_eq_false λq=>nomatch q
def mixKind (prog:Program) (w:World):PySem.KeyKind prog w Key where
 is:=keyIs
 hash:=keyH w
 inj:=λv a b ha hb=>by
  rcases Zbt ha with ⟨i,t,rfl,rfl⟩|⟨x,t,rfl,rfl⟩
  ·rcases Zbt hb with ⟨j,u,rfl,e⟩|⟨y,u,rfl,e⟩
   ·injection e with e1 _;rw[e1]
   ·exact nomatch e
  ·rcases Zbt hb with ⟨j,u,rfl,e⟩|⟨y,u,rfl,e⟩
   ·exact nomatch e
   ·injection e with e1 _;rw[e1]
 byValue:=λk v h=>by
  rcases Zbt h with ⟨i,t,rfl,rfl⟩|⟨x,t,rfl,rfl⟩ <;> rfl
 pyHash:=λhv h=>by
  rcases Zbt hv with ⟨i,t,rfl,rfl⟩|⟨x,t,rfl,rfl⟩
  ·exact wpAny_pyHash_int h
  ·exact wpAny_pyHash_str h
 eqBool:=λhu hv h=>by
  rcases Zbt hu with ⟨i,t,rfl,rfl⟩|⟨x,t,rfl,rfl⟩
  ·rcases Zbt hv with ⟨j,u,rfl,rfl⟩|⟨y,u,rfl,rfl⟩
   ·rw[Zwu]at h;exact wpAny_eqBool_int h
   ·rw[Zu9]at h;exact SeqAt.EqAt.int_str i t y u _ _ _ _ h
  ·rcases Zbt hv with ⟨j,u,rfl,rfl⟩|⟨y,u,rfl,rfl⟩
   ·rw[Zwg]at h;exact SeqAt.EqAt.str_int x t j u _ _ _ _ h
   ·rw[Zvf]at h;exact wpAny_eqBool_str h
 «strs»:=λk x t v h=>by
  rcases Zbt h with ⟨i,u,rfl,e⟩|⟨y,u,rfl,e⟩
  ·exact nomatch e
  ·injection e with e1 _
   subst e1;cases v <;> rfl
theorem Zkl (prog:Program) (w:World) (i:Int) (t:Tok):(mixKind prog w).is (.inl i) (.int i t)=true:=Zo8 i t
theorem Zkd (prog:Program) (w:World) (x:Str) (t:Tok):(mixKind prog w).is (.inr x) (.str x t)=true:=Zor x t
end L2
namespace L2
open PySem PySem.Spec PyProof.Rows
inductive V where
 |non|bl (b:Bool)|int (i:Int)|str (x:Str)|byt (b:Array UInt8)|flt (b:UInt64)|ref (a:Addr)|ty (n:String)
 deriving DecidableEq
def RelV:V->Value->Prop
 |.non,u=>u=Value.none
 |.bl b,u=>u=Value.bool b
 |.int i,u=>∃t,u=Value.int i t
 |.str x,u=>∃t,u=Value.str x t
 |.byt b,u=>∃t,u=Value.bytes b t
 |.flt b,u=>∃t,u=Value.float b t
 |.ref a,u=>u=Value.ref a
 |.ty n,u=>u=Value.type n
abbrev Vals:List V->List Value->Prop:=Paired RelV
theorem Vals.length {xs:List V}{us:List Value}(r:Vals xs us):xs.length=us.length:=Paired.length r
theorem Vals.get:∀{xs:List V}{us:List Value}{i:Nat}{x:V},Vals xs us->xs[i]?=some x->∃u,us[i]?=some u/\RelV x u
 |_,_,_,_,.nil,e=>by simp at e
 |_,_,0,_,.cons r _,e=>by simp at e;subst e;exact⟨_,rfl,r⟩
 |_,_,i+1,x,.cons _ t,e=>by
  obtain⟨u,h1,h2⟩:=Vals.get (i:=i) (x:=x) t (by simpa using e);exact⟨u,by simpa using h1,h2⟩
theorem Vals.set {x:V}{u:Value}(r:RelV x u):∀{xs:List V}{us:List Value}(i:Nat),Vals xs us->Vals (xs.set i x) (us.set i u)
 |_,_,_,.nil=>.nil
 |_,_,0,.cons _ t=>.cons r t
 |_,_,i+1,.cons q t=>.cons q (Vals.set r i t)
theorem Vals.append:∀{xs ys:List V}{us ws:List Value},Vals xs us->Vals ys ws->Vals (xs++ys) (us++ws)
 |_,_,_,_,.nil,s=>s
 |_,_,_,_,.cons r t,s=>.cons r (Vals.append t s)
theorem Vals.take:∀{xs:List V}{us:List Value}(n:Nat),Vals xs us->Vals (xs.take n) (us.take n)
 |_,_,0,_=>.nil
 |_,_,_+1,.nil=>.nil
 |_,_,n+1,.cons r t=>.cons r (Vals.take n t)
theorem Vals.drop:∀{xs:List V}{us:List Value}(n:Nat),Vals xs us->Vals (xs.drop n) (us.drop n)
 |_,_,0,r=>r
 |_,_,_+1,.nil=>.nil
 |_,_,n+1,.cons _ t=>Vals.drop n t
def RelO:Option V->Option Value->Prop
 |some v,some u=>RelV v u
 |none,none=>True
 |_,_=>False
def KV {κ:Type}:List (κ × V)->List (κ × Value)->Prop:=Paired λ(p:κ × V) (q:κ × Value)=>p.1=q.1/\RelV p.2 q.2
def kV:Key->V
 |.inl i=>.int i
 |.inr x=>.str x
inductive HO where
 /-- a list -/
 |lst (xs:List V)
 /-- a tuple (never changes) -/
 |tup (xs:List V)
 /-- a dict whose keys are ints and texts;one whose keys are tuples of ints and texts (the empty one is both) -/
 |dK (kvs:List (Key × V))|dT (kvs:List (List Key × V))
 /-- a set of ints: its members,its size -/
 |set (S:Int->Bool) (n:Nat)
 /-- an instance of the class at C,its dict at dx,its attributes -/
 |ins (C dx:Addr) (fs:List (Str × V))
 /-- the dict of the instance at x -/
 |own (x:Addr)
 /-- the dict of an exception -/
 |xd (fs:List (Str × V))
 /-- a bound method,f of x -/
 |met (f x:Addr)
 /-- a range object lo,lo+1,.. below hi -/
 |rng (lo hi:Int)
 /-- a thing that is known to the object (the script;a dict while a loop walks it): read,never written while it is so -/
 |frz (o:Obj) (u:HO)
 /-- a code object's table -/
 |tbl (ps:Array Value)
 /-- any other thing,by what is true of its one object (a def of one's own: SetO a S n:=HO.ext λh=>..) -/
 |ext (φ:Heap->Prop)
abbrev Hp:=Addr->Option HO
def upd (H:Hp) (a:Addr) (o:HO):Hp:=λb=>if b=a then some o else H b
theorem Zat {H:Hp}{a:Addr}{o:HO}:upd H a o a=some o:=by unfold upd;rw[if_pos rfl]
theorem Zan {H:Hp}{a b:Addr}{o:HO}(h:b≠a):upd H a o b=H b:=by unfold upd;rw[if_neg h]
theorem Zs1 {H:Hp}{a:Addr}{o u:HO}:upd (upd H a o) a u=upd H a u:=by
 funext b;unfold upd;split <;> rfl
theorem Zu6 {H:Hp}{a b:Addr}{o u:HO}(h:H a=some o) (h':H b=some u) (d:o≠u):a≠b:=by
 intro e;subst e;rw[h]at h';exact d<|Wa6.inj h'
theorem Zap {H:Hp}{a b:Addr}{o:HO}(h:H a=some o) (h':H b=none):a≠b:=by
 intro e;subst e;rw[h]at h';cases h'
def IsTupN (h:Heap) (a:Addr) (its:Array Value):Prop:=∃o,h.get? a=some o/\(o.cls=.type "tuple" /\ ∃n,o.data=.seq its n)/\o.dict=none
theorem IsTupN.tup {h:Heap}{a:Addr}{its:Array Value}(x:IsTupN h a its):IsTup h a its:=let ⟨o,e,c,_⟩:=x; ⟨o,e,c⟩
theorem IsTupN.new (h:Heap) (items:Array Value):IsTupN (h.push { cls:=.type "tuple",data:=.seq items }) h.objs.size items:=⟨_,Wao _ rfl,⟨rfl,_,rfl⟩,rfl⟩
section
variable (P:Program) (w:World)
def ObjOk (H:Hp) (h:Heap) (a:Addr):HO->Prop
 |.lst xs=>xs.length<=sizeLine/\∃(its:List Value) (n:Nat),Vals xs its/\h.get? a=some { cls:=.type "list",data:=.seq its.toArray n }
 |.tup xs=>xs.length<=sizeLine/\∃its:List Value,Vals xs its/\IsTupN h a its.toArray
 |.dK kvs=>kvs.length<=sizeLine/\(a == sysModules)=false/\∃vs,KV kvs vs/\h.DictOf (mixKind P w) a vs
 |.dT kvs=>kvs.length<=sizeLine/\(a == sysModules)=false/\∃xs:List (List Key × Addr × Value),
   Paired (λ(p:List Key × V) (q:List Key × Addr × Value)=>p.1=q.1/\H q.2.1=some (.tup<|p.1.map kV)/\RelV p.2 q.2.2) kvs xs ∧
   ∃o es ep,h.get? a=some o/\o.ExactDict/\o.data=.dict es ep/\es.toList=xs.map (entryOfKey<|tupleKind<|mixKind P w)/\(xs.map (·.1)).Nodup
 |.set S n=>h.SetOf (intKind P w) a S n
 |.ins C dx fs=>H dx=some (.own a)/\fs.length<=1000/\dx≠a/\h.get? a=some (PySem.W.instObj C dx) ∧
   ∃mA,h.Ns1 dx mA/\(∀f,RelO (fs.lookup f) (mA f))/\PySem.Within mA (fs.map (·.1))
 |.own _=>∃o,h.get? a=some o
 |.xd fs=>∃mA,h.Ns1 a mA/\∀f,RelO (fs.lookup f) (mA f)
 |.rng lo hi=>∃t u v,h.get? a=some { cls:=.type "range",data:=.fields #[.int lo t,.int hi u,.int 1 v] }
 |.frz o u=>h.get? a=some o/\ObjOk H h a u
 |.tbl ps=>h.get? a=some { cls:=.none,data:=.fields ps }
 |.met f x=>h.get? a=some (PySem.W.methodObj (.ref f) (.ref x))
 |.ext φ=>φ h/\(∃o,h.get? a=some o)/\∀h1 h2:Heap,φ h1->(∀o,h1.get? a=some o->h2.get? a=some o) -> φ h2
def HOk (H:Hp) (h:Heap):Prop:=∀a o,H a=some o->ObjOk P w H h a o
end
section
variable {P:Program}{w:World}{H H':Hp}{h h':Heap}{a:Addr}{o:HO}
theorem ObjOk.lt (x:ObjOk P w H h a o):a<h.objs.size:=by
 cases o with
 |lst xs=>obtain⟨_,_,_,_,e⟩:=x;exact Wax e
 |tup xs=>obtain⟨_,_,_,p⟩:=x;exact p.tup.lt
 |dK kvs=>obtain⟨_,_,_,_,o,_,_,e,_⟩:=x;exact Wax e
 |dT kvs=>obtain⟨_,_,_,_,o,_,_,e,_⟩:=x;exact Wax e
 |set S n=>obtain⟨o,_,_,_,e,_⟩:=x;exact Wax e
 |ins C dx fs=>obtain⟨_,_,_,e,_⟩:=x;exact Wax e
 |own y=>obtain⟨_,e⟩:=x;exact Wax e
 |xd fs=>obtain⟨_,⟨_,_,_,e,_⟩,_⟩:=x;exact Wax e
 |rng lo hi=>obtain⟨_,_,_,e⟩:=x;exact Wax e
 |frz ob u=>obtain⟨e,_⟩:=x;exact Wax e
 |tbl ps=>exact Wax (show h.get? a=some _ from x)
 |met f y=>exact Wax (show h.get? a=some _ from x)
 |ext φ=>obtain⟨_,⟨_,e⟩,_⟩:=x;exact Wax e
theorem Paired.mapP {α β:Type}{F G:α -> β -> Prop}:∀{l₁:List α}{l₂:List β},Paired F l₁ l₂ -> (∀a b,F a b->G a b)->Paired G l₁ l₂
 |_,_,.nil,_=>.nil
 |_,_,.cons r t,f=>.cons (f _ _ r) (Paired.mapP t f)
theorem ObjOk.stay (x:ObjOk P w H h a o) (k:∀b u,(b=a\/H b=some (.own a))->h.get? b=some u->h'.get? b=some u)
  (ho:∀b,H b=some (.own a)->H' b=some (.own a)) (ht:∀b xs,H b=some (.tup xs)->H' b=some (.tup xs)):ObjOk P w H' h' a o:=by
 induction o with
 |lst xs=>obtain⟨z,its,n,r,e⟩:=x;exact⟨z,its,n,r,k _ _ (.inl rfl) e⟩
 |tup xs=>obtain⟨z,its,r,ob,e,c⟩:=x;exact⟨z,its,r,ob,k _ _ (.inl rfl) e,c⟩
 |dK kvs=>obtain⟨z,y,vs,r,ob,es,ep,e,c⟩:=x;exact⟨z,y,vs,r,ob,es,ep,k _ _ (.inl rfl) e,c⟩
 |dT kvs=>
  obtain⟨z,y,xs,r,ob,es,ep,e,c⟩:=x;exact⟨z,y,xs,Paired.mapP r λp q z=>⟨z.1,ht _ _ z.2.1,z.2.2⟩,ob,es,ep,k _ _ (.inl rfl) e,c⟩
 |set S n=>obtain⟨ob,es,ep,t,e,c⟩:=x;exact⟨ob,es,ep,t,k _ _ (.inl rfl) e,c⟩
 |ins C dx fs=>
  obtain⟨d,z,ne,e,mA,⟨od,es,ep,e2,c⟩,r⟩:=x;exact⟨ho _ d,z,ne,k _ _ (.inl rfl) e,mA,⟨od,es,ep,k _ _ (.inr d) e2,c⟩,r⟩
 |own y=>obtain⟨ob,e⟩:=x;exact⟨ob,k _ _ (.inl rfl) e⟩
 |xd fs=>obtain⟨mA,⟨od,es,ep,e,c⟩,r⟩:=x;exact⟨mA,⟨od,es,ep,k _ _ (.inl rfl) e,c⟩,r⟩
 |rng lo hi=>obtain⟨t,u,v,e⟩:=x;exact⟨t,u,v,k _ _ (.inl rfl) e⟩
 |frz ob u ih=>obtain⟨e,q⟩:=x;exact⟨k _ _ (.inl rfl) e,ih q⟩
 |tbl ps=>
  have e:h.get? a=some { cls:=.none,data:=.fields ps }:=x;show h'.get? a=some { cls:=.none,data:=.fields ps };exact k a _ (.inl rfl) e
 |met f y=>
  have e:h.get? a=some (PySem.W.methodObj (.ref f) (.ref y)):=x;show h'.get? a=some (PySem.W.methodObj (.ref f) (.ref y));exact k a _ (.inl rfl) e
 |ext φ=>obtain⟨p,⟨o,e⟩,st⟩:=x;exact⟨st _ _ p λo q=>k _ _ (.inl rfl) q,⟨o,k _ _ (.inl rfl) e⟩,st⟩
theorem HOk.lt (x:HOk P w H h) (e:H a=some o):a<h.objs.size:=(x a o e).lt
theorem HOk.fresh (x:HOk P w H h) (e:h.objs.size<=a):H a=none:=by
 cases q:H a with
 |none=>rfl
 |some u=>exact absurd (Wbh (x.lt q) e) (Wdf _)
theorem HOk.kept (x:HOk P w H h) (k:∀b u,h.get? b=some u->h'.get? b=some u):HOk P w H h':=λa o e=>
 (x a o e).stay (λb u _ q=>k b u q) (λ_ q=>q) λ_ _ q=>q
theorem HOk.laid (x:HOk P w H h) (k:∀b u,h.get? b=some u->h'.get? b=some u) (hp:h.objs.size<=a) (new:ObjOk P w (upd H a o) h' a o):HOk P w (upd H a o) h':=λb u e=>by
 have hn:=x.fresh hp;by_cases hb:b=a
 ·subst hb;rw[Zat]at e;cases e;exact new
 ·rw[Zan hb]at e
  exact(x b u e).stay (λc v _ q=>k c v q) (λc q=>by rw[Zan (Zap q hn)];exact q) λc xs q=>by rw[Zan (Zap q hn)];exact q
end
def Rd (H:Hp) (a:Addr) (u:HO):Prop:=H a=some u\/∃o,H a=some (.frz o u)
theorem Rd.ok {P:Program}{w:World}{H:Hp}{h:Heap}{a:Addr}{u:HO}(r:Rd H a u) (x:HOk P w H h):ObjOk P w H h a u:=by
 rcases r with r|⟨o,r⟩
 ·exact x a u r
 ·obtain⟨_,q⟩:=x a _ r
  exact q
def Mut:Option HO->Prop
 |some (.lst _)=>True
 |some (.dK _)=>True
 |some (.dT _)=>True
 |some (.set _ _)=>True
 |some (.ins _ _ _)=>True
 |some (.ext _)=>True
 |_=>False
section
variable {P:Program}{w:World}{H:Hp}{h h':Heap}{x e:Addr}{o':HO}
theorem HOk.write (ok:HOk P w H h) (mu:Mut (H x)) (he:e=x\/H e=some (.own x)) (k:∀b u,b≠e->h.get? b=some u->h'.get? b=some u) (heo:∃u,h'.get? e=some u)
  (new:ObjOk P w (upd H x o') h' x o'):HOk P w (upd H x o') h':=λb u q=>by
 have nown:∀c y,H c=some (.own y)->c≠x:=λc y r z=>by subst z;rw[r]at mu;exact mu
 have ntup:∀c xs,H c=some (.tup xs)->c≠x:=λc xs r z=>by subst z;rw[r]at mu;exact mu
 by_cases hb:b=x
 ·subst hb;rw[Zat]at q;cases q;exact new
 ·rw[Zan hb]at q
  by_cases hbe:b=e
  ·have q':H b=some (.own x):=by
    rcases he with z|z
    ·exact absurd (hbe.trans z) hb
    ·rw[hbe];exact z
   rw[q]at q';cases q';obtain⟨v,hv⟩:=heo;exact⟨v,by rw[hbe];exact hv⟩
  ·refine(ok b u q).stay (λc v hc r=>k c v ?_ r) (λc r=>by rw[Zan (nown c b r)];exact r) λc xs r=>by rw[Zan (ntup c xs r)];exact r
   rcases hc with rfl|hc
   ·exact hbe
   ·rintro rfl
    rcases he with z|z
    ·exact nown c b hc z
    ·rw[hc]at z;cases z;exact hb rfl
end
structure Un (fs ex:List Addr) (H H':Hp) (h h':Heap):Prop where
 keep:∀b o,h.get? b=some o->H b=none->b ∉ fs->b ∉ ex->h'.get? b=some o
 slot:∀b o,h.get? b=some o->H b=none->b∈fs->b ∉ ex->∃sl,h'.get? b=some { o with slots:=sl }
 free:∀b o,h.get? b=some o->H b=none->b ∉ ex->H' b=none
 there:∀b o,h.get? b=some o->b ∉ ex->∃o',h'.get? b=some o'
 tups:∀b xs,H b=some (.tup xs)->H' b=some (.tup xs)
 frzs:∀b o u,H b=some (.frz o u)->H' b=some (.frz o u)
 tbls:∀b ps,H b=some (.tbl ps)->∃more,H' b=some (.tbl<|ps++more)
section
variable {fs fs' ex ex':List Addr}{H H1 H2:Hp}{h h1 h2 h':Heap}{a x e:Addr}{o:HO}
theorem Un.any (u:Un fs ex H H1 h h1) {b:Addr}{ob:Obj}(q:h.get? b=some ob) (n:H b=none) (hx:b ∉ ex):∃sl,h1.get? b=some { ob with slots:=sl }:=by
 by_cases hb:b∈fs
 ·exact u.slot b ob q n hb hx
 ·exact⟨ob.slots,u.keep b ob q n hb hx⟩
theorem Un.kept (k:∀b u,h.get? b=some u->h'.get? b=some u):Un fs ex H H h h':=
 ⟨λb ob q _ _ _=>k b ob q,λb ob q _ _ _=>⟨ob.slots,k b ob q⟩,λ_ _ _ n _=>n,λb ob q _=>⟨ob,k b ob q⟩,λ_ _ q=>q,λ_ _ _ q=>q,λ_ ps q=>⟨#[],by rw[q];simp⟩⟩
theorem Un.refl:Un fs ex H H h h:=Un.kept λ_ _ q=>q
theorem Un.laid (k:∀b u,h.get? b=some u->h'.get? b=some u) (hp:h.objs.size<=a) (hn:H a=none):Un fs ex H (upd H a o) h h' where
 keep:=λb u q _ _ _=>k b u q
 slot:=λb u q _ _ _=>⟨u.slots,k b u q⟩
 free:=λb u q n _=>by rw[Zan (Wa8<|Wbh (Wax q) hp)];exact n
 there:=λb u q _=>⟨u,k b u q⟩
 tups:=λb xs q=>by rw[Zan (Zap q hn)];exact q
 frzs:=λb u xs q=>by rw[Zan (Zap q hn)];exact q
 tbls:=λb ps q=>⟨#[],by rw[Zan (Zap q hn),q];simp⟩
theorem Un.write (mu:Mut (H x)) (he:e=x\/H e=some (.own x)) (k:∀b u,b≠e->h.get? b=some u->h'.get? b=some u) (heo:∃u,h'.get? e=some u):Un fs ex H (upd H x o) h h':=by
 have hx:∀b,H b=none->b≠x:=λb n z=>by subst z;rw[n]at mu;exact mu
 have hb:∀b,H b=none->b≠e:=λb n z=>by
  subst z;rcases he with r|r
  ·exact hx b n r
  ·rw[n]at r;cases r
 have hm:∀b u,H b=some u->¬ Mut (some u)->b≠x:=λb u q nm z=>by subst z;rw[q]at mu;exact nm mu
 refine⟨λb u q n _ _=>k b u (hb b n) q,λb u q n _ _=>⟨u.slots,k b u (hb b n) q⟩,λb u q n _=>by rw[Zan (hx b n)];exact n,λb u q _=>?_,
  λb xs q=>by rw[Zan (hm b _ q λz=>z)];exact q,λb u xs q=>by rw[Zan (hm b _ q λz=>z)];exact q,λb ps q=>⟨#[],by rw[Zan (hm b _ q λz=>z),q];simp⟩⟩
 by_cases hbe:b=e
 ·subst hbe;exact heo
 ·exact⟨u,k b u hbe q⟩
end
def trk (h:Heap) (H:Hp):List Addr:=(Waq h.objs.size).filter λa=>(H a).isSome
def hidT (h:Heap) (H:Hp):Heap:=PySem.W.hideAll h<|trk h H
theorem Zo4 (h:Heap) (H:Hp):(hidT h H).objs.size=h.objs.size:=PySem.W.hideAll_size _ _
theorem Zrw {h:Heap}{H:Hp}{b:Addr}{o:Obj}(e:h.get? b=some o) (n:H b=none):(hidT h H).get? b=some o:=
 PySem.W.hideAll_get _ e λhm=>by
  have q:(H b).isSome=true:=(Wbd.mp hm).2;rw[n]at q;simp at q
theorem Zsw {h:Heap}{H:Hp}{b:Addr}{o:Obj}(e:(hidT h H).get? b=some o):h.get? b=some o/\H b=none:=by
 have e':h.get? b=some o:=PySem.W.of_hideAll (trk h H) e;refine⟨e',?_⟩;cases q:H b with
 |none=>rfl
 |some x=>
  have hm:b∈trk h H:=Wbd.mpr ⟨Wav.mpr<|Wax e',by simp[q]⟩;have z:(hidT h H).get? b=none:=PySem.W.hideAll_none (trk h H) hm;rw[z]at e;cases e
def allNews (g h:Heap) (L:Addr):List (Addr × Obj):=(Waq h.objs.size).filterMap λa=>if a=L\/(g.get? a).isSome=true then none else (h.get? a).map λo=>(a,o)
def rest (g h:Heap) (L d:Addr):List (Addr × Obj):=(allNews g h L).filter λp=>decide<|p.1≠d
end L2
namespace L2
open PySem PySem.Spec PyProof.Rows
structure Mod (K:W.Frag) (mg:Str->Option Value) (base:Heap):Prop where
 kin:K.In base
 glob:base.Ns mainGlobals mg
 blt:∃mb,base.Ns builtinsNs mb/\∀x:Str,x ≠ "__name__" -> mb x=bootBuiltins x
 nolimit:base.NoLimit
structure Cx where
 prog:Program
 w:World
 K:W.Frag
 mg:Str->Option Value
 base:Heap
 A:Around
 N:List Str
 s₀:Shared
 H₀:Hp
 env:Env
 outer:List Env
 stack:List Env
 ex:List Addr
 fn:Str->Bool
 calm:Bool
 pn:List (Addr × Obj)
 xe:Value->Shared->Prop
def frs (l:List Env):List Addr:=l.filterMap (·.frame)
abbrev Cx.fs (X:Cx):List Addr:=frs X.outer
def Vis (sc:Scope) (x:Str):Prop:=sc.names.lookup x=some .local\/sc.names.lookup x=some .cell\/sc.names.lookup x=some .free
def Loc (sc:Scope) (x:Str):Prop:=sc.names.lookup x=some .local\/sc.names.lookup x=some .cell
def Look (env:Env) (h:Heap) (m:Str->Option Value) (x:Str) (u:Value):Prop:=
 (env.kindOf x=some .local/\m x=some u)\/((env.kindOf x=some .cell\/env.kindOf x=some .free)/\∃c,env.cells.lookup x=some c/\h.IsCell c (some u))
structure Cx.Ok (X:Cx):Prop where
 mod:Mod X.K X.mg X.base
 kind:X.env.scope.kind=.function
 glob:X.env.globals=mainGlobals
 blt:X.env.builtins=builtinsNs
 above:X.s₀.heap.objs.size<=X.env.locals
 inj:∀x y c,X.env.cells.lookup x=some c->X.env.cells.lookup y=some c->x=y
 has:∀x,(X.env.kindOf x=some .cell\/X.env.kindOf x=some .free)->∃c,X.env.cells.lookup x=some c
 cab:∀x c,X.fn x=true->X.env.cells.lookup x=some c->X.s₀.heap.objs.size<=c
 hd:X.calm=true->X.A.handled=none
 frames:X.A.frames=some X.stack
 stk:X.stack=X.outer\/(X.stack=X.env::X.outer/\X.env.frame=some X.env.locals)
 exf:∀b∈X.ex,b≠X.env.locals/\∀x c,X.env.cells.lookup x=some c->c≠b
 bs:∀b o,X.base.get? b=some o->X.s₀.heap.get? b=some o/\X.H₀ b=none
 bsz:X.base.objs.size<=X.s₀.heap.objs.size
 noex:∀b o,X.base.get? b=some o->b ∉ X.ex
 exfs:∀b∈X.ex,b ∉ X.fs
 funs:X.s₀.heap.FunFrames X.base X.outer
 frf:∀b∈X.fs,X.H₀ b=none
structure Inv (X:Cx) (pins:List (Addr × Obj)) (σ:List (Option V)) (H:Hp) (s:Shared):Prop where
 ok:X.Ok
 os:s.os=X.s₀.os
 bare:AllBare s.gens
 base:Un X.fs X.ex X.H₀ H X.s₀.heap s.heap
 loc:∃m,s.heap.Ns X.env.locals m/\∀(i:Nat) (x:Str) (v:V),X.N[i]?=some x -> σ[i]?=some (some v)->Vis X.env.scope x->∃u,RelV v u/\Look X.env s.heap m x u
 cell:∀x c,X.env.cells.lookup x=some c->∃v,s.heap.IsCell c v
 free:H X.env.locals=none
 freeC:∀x c,X.env.cells.lookup x=some c->H c=none
 pin:∀p∈X.pn++pins,s.heap.get? p.1=some p.2/\H p.1=none/\p.1≠X.env.locals/\p.1 ∉ X.fs/\∀v,p.2.data≠.cell v
 hok:HOk X.prog X.w H s.heap
 len:σ.length=X.N.length
section
variable {X:Cx}{pins:List (Addr × Obj)}{σ:List (Option V)}{H H':Hp}{s:Shared}{h':Heap}
theorem Cx.Ok.nofr (ok:X.Ok) {b:Addr}{o:Obj}(e:X.base.get? b=some o):b ∉ X.fs:=λhb=>by
 have:=(ok.funs.mem hb).1;rw[e]at this;cases this
theorem Inv.bs (I:Inv X pins σ H s):∀b o,X.base.get? b=some o->s.heap.get? b=some o/\H b=none:=λb o e=>
 ⟨I.base.keep b o (I.ok.bs b o e).1 (I.ok.bs b o e).2 (I.ok.nofr e) (I.ok.noex b o e),I.base.free b o (I.ok.bs b o e).1 (I.ok.bs b o e).2 (I.ok.noex b o e)⟩
theorem Inv.bk (I:Inv X pins σ H s):∀b o,X.base.get? b=some o->s.heap.get? b=some o:=λb o e=>(I.bs b o e).1
theorem Inv.mod (I:Inv X pins σ H s):Mod X.K X.mg X.base:=I.ok.mod
theorem Inv.kIn (I:Inv X pins σ H s):X.K.In s.heap:=I.ok.mod.kin.keeps I.bk
theorem Inv.lt (I:Inv X pins σ H s):X.env.locals<s.heap.objs.size:=let ⟨_,hn,_⟩:=I.loc;hn.lt
theorem Inv.sz (I:Inv X pins σ H s):X.s₀.heap.objs.size<=s.heap.objs.size:=Wby I.ok.above<|Wb8 I.lt
theorem Inv.nofs (I:Inv X pins σ H s) {a:Addr}(h:s.heap.objs.size<=a):a ∉ X.fs:=λhb=>by
 obtain⟨_,o,ho,_⟩:=I.ok.funs.mem hb;exact absurd (Wbh (Wax ho)<|Wby I.sz h)<|Wdf _
theorem Inv.cne (I:Inv X pins σ H s):∀x c,X.env.cells.lookup x=some c->c≠X.env.locals:=λx c e z=>by
 obtain⟨v,o,ho,hd⟩:=I.cell x c e;obtain⟨m,⟨o',es,ep,ho',hd',_⟩,_⟩:=I.loc;rw[z,ho']at ho;cases ho;rw[hd']at hd;cases hd
theorem Inv.funs (I:Inv X pins σ H s):s.heap.FunFrames X.base X.outer:=by
 have all:∀(l:List Env),(∀b∈frs l,b∈X.fs)->X.s₀.heap.FunFrames X.base l->s.heap.FunFrames X.base l:=by
  intro l
  induction l with
  |nil=>intro _ _;trivial
  |cons env r ih=>
   intro hs hl;obtain⟨hk,⟨L,o,hf,hn,ho,hd⟩,hr⟩:=hl;have hL:L∈X.fs:=hs L (by unfold frs;rw[Wd6,hf];exact Wat);obtain⟨sl,e⟩:=I.base.slot L o ho (I.ok.frf L hL) hL λz=>I.ok.exfs L z hL;exact⟨hk,⟨L,_,hf,hn,e,hd⟩,ih (λb hb=>hs b (by unfold frs;rw[Wd6,hf];exact Way _ hb)) hr⟩
 exact all X.outer (λ_ hb=>hb) I.ok.funs
theorem Inv.stack (I:Inv X pins σ H s):s.heap.FunFrames X.base X.stack:=by
 rcases I.ok.stk with e|⟨e,hf⟩
 ·rw[e];exact I.funs
 ·rw[e]
  obtain⟨m,hn,_⟩:=I.loc;refine .cons (by rw[I.ok.kind];decide) hf hn ?_ I.funs;exact Heap.get?_none_of_le<|Wby I.ok.bsz I.ok.above
theorem Inv.stkSub (I:Inv X pins σ H s):∀b∈frs X.stack,b∈X.env.locals::X.fs:=λb hb=>by
 rcases I.ok.stk with e|⟨e,hf⟩
 ·rw[e]at hb;exact Way _ hb
 ·rw[e]at hb
  unfold frs at hb;rw[Wd6,hf]at hb;exact hb
theorem Inv.stkFree (I:Inv X pins σ H s):∀b∈frs X.stack,H b=none:=λb hb=>by
 rcases Wap.mp (I.stkSub b hb) with e|hb
 ·rw[e];exact I.free
 ·obtain⟨_,o,ho,_⟩:=I.ok.funs.mem hb
  exact I.base.free b o ho (I.ok.frf b hb) λz=>I.ok.exfs b z hb
theorem Inv.step {g':Array GenState}{t':Nat}{d':Drawn}{ch:List Addr}(I:Inv X pins σ H s)
  (hch:∀b∈ch,(b∈X.ex\/X.s₀.heap.objs.size<=b)/\b≠X.env.locals/\(∀x c,X.env.cells.lookup x=some c->c≠b)/\∀p∈X.pn++pins,p.1≠b)
  (keep:∀b o,b≠X.env.locals->b ∉ X.fs->b ∉ ch->s.heap.get? b=some o->H b=none->h'.get? b=some o)
  (slot:∀b o,b≠X.env.locals->b∈X.fs->b ∉ ch->s.heap.get? b=some o->H b=none->∃sl,h'.get? b=some { o with slots:=sl }) (free:∀b o,b ∉ ch->s.heap.get? b=some o->H b=none->H' b=none)
  (there:∀b o,b ∉ ch->s.heap.get? b=some o->∃o',h'.get? b=some o')
  (tups:∀b xs,H b=some (.tup xs)->H' b=some (.tup xs)) (frzs:∀b o u,H b=some (.frz o u)->H' b=some (.frz o u)) (tbls:∀b ps,H b=some (.tbl ps)->∃more,H' b=some (.tbl<|ps++more))
  (ns:∀m,s.heap.Ns X.env.locals m->h'.Ns X.env.locals m) (hok:HOk X.prog X.w H' h') (hg:AllBare g') :
  Inv X pins σ H' { s with heap:=h',gens:=g',drawn:=d',toks:=t' }:=by
 have neL:∀b o,X.s₀.heap.get? b=some o->b≠X.env.locals:=λb o e=>Wa8<|Wbh (Wax e) I.ok.above;have neC:∀b o,X.s₀.heap.get? b=some o->b ∉ X.ex->b ∉ ch:=λb o e hx hb=>by
  rcases(hch b hb).1 with z|z
  ·exact hx z
  ·exact absurd (Wbh (Wax e) z)<|Wdf _
 have cellK:∀x c,X.env.cells.lookup x=some c->∀v,s.heap.IsCell c v->h'.IsCell c v:=λx c e v hq_=>by
  obtain⟨o,ho,hd⟩:=hq_;have nch:c ∉ ch:=λz=>(hch c z).2.2.1 x c e rfl;by_cases hc:c∈X.fs
  ·obtain⟨sl,q⟩:=slot c o (I.cne x c e) hc nch ho (I.freeC x c e)
   exact⟨_,q,hd⟩
  ·exact⟨o,keep c o (I.cne x c e) hc nch ho<|I.freeC x c e,hd⟩
 refine⟨I.ok,I.os,hg,⟨λb o e n hb hx=>?_,λb o e n hb hx=>?_,λb o e n hx=>?_,λb o e hx=>?_,λb xs e=>tups b xs<|I.base.tups b xs e,λb o xs e=>frzs b o xs<|I.base.frzs b o xs e,λb ps e=>?_⟩,?_,λx c e=>?_,?_,λx c e=>?_,λp hp=>?_,hok,I.len⟩
 ·exact keep b o (neL b o e) hb (neC b o e hx) (I.base.keep b o e n hb hx)<|I.base.free b o e n hx
 ·obtain⟨sl,e1⟩:=I.base.slot b o e n hb hx
  obtain⟨sl',e2⟩:=slot b _ (neL b o e) hb (neC b o e hx) e1<|I.base.free b o e n hx;exact⟨sl',e2⟩
 ·obtain⟨o',e1⟩:=I.base.there b o e hx
  exact free b o' (neC b o e hx) e1<|I.base.free b o e n hx
 ·obtain⟨o',e1⟩:=I.base.there b o e hx
  exact there b o' (neC b o e hx) e1
 ·obtain⟨m1,e1⟩:=I.base.tbls b ps e
  obtain⟨m2,e2⟩:=tbls b _ e1;exact⟨m1++m2,by rw[e2,Array.append_assoc]⟩
 ·obtain⟨m,hn,hl⟩:=I.loc
  refine⟨m,ns m hn,λi x v e1 e2 e3=>?_⟩;obtain⟨u,r,l⟩:=hl i x v e1 e2 e3;refine⟨u,r,?_⟩;rcases l with l|⟨k,c,e,z⟩
  ·exact .inl l
  ·exact .inr ⟨k,c,e,cellK x c e _ z⟩
 ·obtain⟨v,z⟩:=I.cell x c e
  exact⟨v,cellK x c e v z⟩
 ·obtain⟨m,⟨o,_,_,ho,_⟩,_⟩:=I.loc
  exact free _ o (λz=>(hch _ z).2.1 rfl) ho I.free
 ·obtain⟨v,o,ho,hd⟩:=I.cell x c e
  exact free c o (λz=>(hch c z).2.2.1 x c e rfl) ho<|I.freeC x c e
 ·obtain⟨e,n,ne,nf,d⟩:=I.pin p hp
  have nch:p.1 ∉ ch:=λz=>(hch p.1 z).2.2.2 p hp rfl;exact⟨keep p.1 p.2 ne nf nch e n,free p.1 p.2 nch e n,ne,nf,d⟩
theorem Inv.un {t':Nat}(I:Inv X pins σ H s) (u:Un X.fs [] H H' s.heap h') (hok:HOk X.prog X.w H' h'):Inv X pins σ H' { s with heap:=h',toks:=t' }:=by
 obtain⟨m,⟨o,es,ep,ho,r⟩,_⟩:=id I.loc;obtain⟨sl,hL⟩:=u.any ho I.free (by simp);exact I.step (g':=s.gens) (d':=s.drawn) (ch:=[]) (λ_ z=>nomatch z) (λb o _ hb _ e n=>u.keep b o e n hb (by simp)) (λb o _ hb _ e n=>u.slot b o e n hb (by simp)) (λb o _ e n=>u.free b o e n (by simp)) (λb o _ e=>u.there b o e (by simp)) u.tups u.frzs u.tbls (λm' hm=>by
  obtain⟨o',es',ep',ho',r'⟩:=hm;rw[ho]at ho';cases ho';exact⟨_,es',ep',hL,r'⟩) hok I.bare
theorem Inv.call {g':Array GenState}{t':Nat}{d':Drawn}{ch:List Addr}(I:Inv X pins σ H s) (u:Un (frs X.stack) ch H H' s.heap h') (hok:HOk X.prog X.w H' h') (hg:AllBare g')
  (hch:∀b∈ch,(b∈X.ex\/X.s₀.heap.objs.size<=b)/\b≠X.env.locals/\(∀x c,X.env.cells.lookup x=some c->c≠b)/\∀p∈X.pn++pins,p.1≠b) :
  Inv X pins σ H' { s with heap:=h',gens:=g',drawn:=d',toks:=t' }:=by
 obtain⟨m,⟨o,es,ep,ho,r⟩,_⟩:=id I.loc;obtain⟨sl,hL⟩:=u.any ho I.free λz=>(hch _ z).2.1 rfl;exact I.step (ch:=ch) hch (λb o hL hb hc e n=>u.keep b o e n (λz=>(Wap.mp (I.stkSub b z)).elim hL hb) hc) (λb o _ _ hc e n=>u.any e n hc) (λb o hc e n=>u.free b o e n hc) (λb o hc e=>u.there b o e hc) u.tups u.frzs u.tbls (λm' hm=>by
  obtain⟨o',es',ep',ho',r'⟩:=hm;rw[ho]at ho';cases ho';exact⟨_,es',ep',hL,r'⟩) hok hg
theorem Inv.turned {t':Nat}{it:Addr}(I:Inv X pins σ H s) (k:∀b o,b≠it->s.heap.get? b=some o->h'.get? b=some o) (hn:H it=none) (hL:it≠X.env.locals)
  (h1:it∈X.ex\/X.s₀.heap.objs.size<=it) (h2:∀x c,X.env.cells.lookup x=some c->c≠it) (h3:∀p∈X.pn++pins,p.1≠it):Inv X pins σ H { s with heap:=h',toks:=t' }:=by
 have nit:∀b u,H b=some u->b≠it:=λb u e z=>by rw[z,hn]at e;cases e
 refine I.step (g':=s.gens) (d':=s.drawn) (ch:=[it]) (λb hb=>?_) (λb o _ _ hc e _=>k b o (λz=>hc (by simp[z])) e) (λb o _ _ hc e _=>⟨o.slots,k b o (λz=>hc (by simp[z])) e⟩) (λ_ _ _ _ n=>n)
  (λb o hc e=>⟨o,k b o (λz=>hc (by simp[z])) e⟩) (λ_ _ e=>e) (λ_ _ _ e=>e) (λb ps e=>⟨#[],by rw[e];simp⟩) (λm hm=>?_) (λb u e=>?_) I.bare
 ·have e:b=it:=by simpa using hb
  subst e;exact⟨h1,hL,h2,h3⟩
 ·obtain⟨o,es,ep,ho,r⟩:=hm
  exact⟨o,es,ep,k _ o (Ne.symm hL) ho,r⟩
 ·refine(I.hok b u e).stay (λc v hc q=>k c v ?_ q) (λ_ q=>q) λ_ _ q=>q
  rcases hc with z|z
  ·rw[z];exact nit b u e
  ·exact nit c _ z
theorem Inv.tok (I:Inv X pins σ H s) (t:Nat):Inv X pins σ H { s with toks:=t }:=I.un (h':=s.heap) (t':=t) Un.refl I.hok
theorem Inv.kept {t':Nat}(I:Inv X pins σ H s) (k:∀b u,s.heap.get? b=some u->h'.get? b=some u):Inv X pins σ H { s with heap:=h',toks:=t' }:=I.un (Un.kept k)<|I.hok.kept k
theorem Inv.laid {a:Addr}{o:HO}{t':Nat}(I:Inv X pins σ H s) (k:∀b u,s.heap.get? b=some u->h'.get? b=some u) (hp:s.heap.objs.size<=a) (new:ObjOk X.prog X.w (upd H a o) h' a o) :
  Inv X pins σ (upd H a o) { s with heap:=h',toks:=t' }:=I.un (Un.laid k hp<|I.hok.fresh hp)<|I.hok.laid k hp new
theorem Inv.write {x e:Addr}{o:HO}{t':Nat}(I:Inv X pins σ H s) (mu:Mut (H x)) (he:e=x\/H e=some (.own x)) (k:∀b u,b≠e->s.heap.get? b=some u->h'.get? b=some u) (heo:∃u,h'.get? e=some u)
  (new:ObjOk X.prog X.w (upd H x o) h' x o):Inv X pins σ (upd H x o) { s with heap:=h',toks:=t' }:=I.un (Un.write mu he k heo)<|I.hok.write mu he k heo new
theorem Inv.pins_of {pins':List (Addr × Obj)}(I:Inv X pins σ H s) (h:∀p∈pins',s.heap.get? p.1=some p.2/\H p.1=none/\p.1≠X.env.locals/\p.1 ∉ X.fs/\∀v,p.2.data≠.cell v):Inv X pins' σ H s:=
 ⟨I.ok,I.os,I.bare,I.base,I.loc,I.cell,I.free,I.freeC,λp hp=>(Wbp.mp hp).elim (λz=>I.pin p<|Wci _ z) (h p),I.hok,I.len⟩
theorem Zhx {N:List Str}(hN:N.Nodup) {i j:Nat}{x:Str}(a:N[i]?=some x) (b:N[j]?=some x):i=j:=by
 obtain⟨h1,e1⟩:=Wag.mp a;obtain⟨h2,e2⟩:=Wag.mp b;exact(Wdm hN).mp (e1.trans e2.symm)
theorem Zgx {M:Model}{A:Around}{E:Value->Shared->Prop}{i:Nat}{x:Str}{v:V}{u:Value}{Q:Unit->Shared->Prop}(I:Inv X pins σ H s) (hN:X.N.Nodup) (hi:X.N[i]?=some x) (hx:Loc X.env.scope x) (r:RelV v u)
  (h:∀s',Inv X pins (σ.set i<|some v) H s' -> (∃a,Heap.SameBut a s.heap s'.heap/\(a=X.env.locals\/X.env.cells.lookup x=some a))->Q () s') (hf:X.fn x=true\/X.env.scope.names.lookup x=some .local:=by first|exact .inl rfl|exact .inr rfl|assumption):wpAny M A (storeName X.env x u) Q E s:=by
 obtain⟨m,hn,hl⟩:=id I.loc;have hcls:(X.env.scope.kind == .class || (X.env.scope.kind == .module && X.env.locals != X.env.globals))=false:=by rw[I.ok.kind];rfl
 have hiσ:i < σ.length:=by rw[I.len];exact(Wag.mp hi).1
 have cne:=I.cne;have tracked:∀{a:Addr}{h':Heap},(∃o,s.heap.get? a=some o/\H a=none)->Heap.SameBut a s.heap h' -> HOk X.prog X.w H h':=λ{a h'} ha hs b ob e=>by
  obtain⟨_,_,hfree⟩:=ha;refine(I.hok b ob e).stay (λc w' hc q=>(hs.2 c ?_).trans q) (λ_ q=>q) λ_ _ q=>q;rintro rfl;rcases hc with rfl|hc
  ·rw[hfree]at e;cases e
  ·rw[hfree]at hc;cases hc
 rcases hx with hk|hk
 ·refine wpAny_storeName_local hk hn (λh' hn' hs=>?_) hcls
  obtain⟨oL,_,_,hoL,_⟩:=id hn;refine h _ ⟨I.ok,I.os,I.bare,⟨λb o e n hb hx=>?_,λb o e n hb hx=>?_,I.base.free,λb o e hx=>?_,I.base.tups,I.base.frzs,I.base.tbls⟩,⟨_,hn',λj y v' e1 e2 e3=>?_⟩,λy c e=>?_,I.free,I.freeC,λp hp=>?_,tracked ⟨oL,hoL,I.free⟩ hs,by simpa using I.len⟩ ⟨_,hs,.inl rfl⟩
  ·exact(hs.2 b<|Wa8<|Wbh (Wax e) I.ok.above).trans (I.base.keep b o e n hb hx)
  ·obtain⟨sl,e1⟩:=I.base.slot b o e n hb hx
   exact⟨sl,(hs.2 b<|Wa8<|Wbh (Wax e) I.ok.above).trans e1⟩
  ·obtain⟨o',e1⟩:=I.base.there b o e hx
   exact⟨o',(hs.2 b<|Wa8<|Wbh (Wax e) I.ok.above).trans e1⟩
  ·by_cases hj:j=i
   ·subst hj
    rw[hi]at e1;cases e1;rw[Wau hiσ]at e2;cases e2;exact⟨u,r,.inl ⟨hk,by simp⟩⟩
   ·rw[Waw (Ne.symm hj)]at e2
    obtain⟨u',r',q⟩:=hl j y v' e1 e2 e3;refine⟨u',r',?_⟩;rcases q with ⟨k,e⟩|⟨k,c,e,z⟩
    ·refine .inl ⟨k,?_⟩
     have:y≠x:=λe=>hj<|Zhx hN e1 (e ▸ hi);simp[this,e]
    ·exact .inr ⟨k,c,e,z.sameBut hs<|cne y c e⟩
  ·obtain⟨w',z⟩:=I.cell y c e
   exact⟨w',z.sameBut hs<|cne y c e⟩
  ·obtain⟨e,n,ne,nf,d⟩:=I.pin p hp
   exact⟨(hs.2 p.1 ne).trans e,n,ne,nf,d⟩
 ·have hfn:X.fn x=true:=by
   rcases hf with z|z
   ·exact z
   ·rw[z]at hk;cases hk
  obtain⟨c,hc⟩:=I.ok.has x (.inl hk);obtain⟨w',z⟩:=I.cell x c hc;refine wpAny_storeName_cell I.ok.kind hk hc z λh' hc' hs=>?_;obtain⟨oc,hoc,hocd⟩:=id z;refine h { s with heap:=h' } ⟨I.ok,I.os,I.bare,⟨λb o e n hb hx=>?_,λb o e n hb hx=>?_,I.base.free,λb o e hx=>?_,I.base.tups,I.base.frzs,I.base.tbls⟩,⟨m,hn.sameBut hs<|Ne.symm<|cne x c hc,λj y v' e1 e2 e3=>?_⟩,λy c' e=>?_,I.free,I.freeC,λp hp=>?_,tracked ⟨oc,hoc,I.freeC x c hc⟩ hs,by simpa using I.len⟩ ⟨c,hs,.inr hc⟩
  ·exact(hs.2 b<|Wa8<|Wbh (Wax e)<|I.ok.cab x c hfn hc).trans (I.base.keep b o e n hb hx)
  ·obtain⟨sl,e1⟩:=I.base.slot b o e n hb hx
   exact⟨sl,(hs.2 b<|Wa8<|Wbh (Wax e)<|I.ok.cab x c hfn hc).trans e1⟩
  ·obtain⟨o',e1⟩:=I.base.there b o e hx
   exact⟨o',(hs.2 b<|Wa8<|Wbh (Wax e)<|I.ok.cab x c hfn hc).trans e1⟩
  ·by_cases hj:j=i
   ·subst hj
    rw[hi]at e1;cases e1;rw[Wau hiσ]at e2;cases e2;exact⟨u,r,.inr ⟨.inl hk,c,hc,hc'⟩⟩
   ·rw[Waw (Ne.symm hj)]at e2
    obtain⟨u',r',q⟩:=hl j y v' e1 e2 e3;refine⟨u',r',?_⟩;rcases q with q|⟨k,c',e,z'⟩
    ·exact .inl q
    ·refine .inr ⟨k,c',e,z'.sameBut hs ?_⟩
     rintro rfl;exact hj<|Zhx hN e1 (I.ok.inj _ _ _ e hc ▸ hi)
  ·by_cases hcc:c'=c
   ·subst hcc;exact⟨_,hc'⟩
   ·obtain⟨w2,z2⟩:=I.cell y c' e
    exact⟨w2,z2.sameBut hs hcc⟩
  ·obtain⟨e,n,ne,nf,d⟩:=I.pin p hp
   refine⟨(hs.2 p.1 ?_).trans e,n,ne,nf,d⟩;intro q;rw[q,hoc]at e;have q':oc=p.2:=Wa6.inj e;exact d w' (by rw[<- q'];exact hocd)
theorem Zek {M:Model}{A:Around}{E:Value->Shared->Prop}{i:Nat}{x:Str}{v:V}{u:Value}{Q:Unit->Shared->Prop}(I:Inv X pins σ H s) (hN:X.N.Nodup) (hi:X.N[i]?=some x) (hx:Loc X.env.scope x) (r:RelV v u)
  (h:∀s',Inv X pins (σ.set i<|some v) H s' -> Q () s') (hf:X.fn x=true\/X.env.scope.names.lookup x=some .local:=by first|exact .inl rfl|exact .inr rfl|assumption):wpAny M A (storeName X.env x u) Q E s:=
 Zgx I hN hi hx r (λs' I' _=>h s' I') hf
theorem Inv.call' {s':Shared}{ch:List Addr}(I:Inv X pins σ H s) (ho:s'.os=s.os) (u:Un (frs X.stack) ch H H' s.heap s'.heap) (hok:HOk X.prog X.w H' s'.heap) (hg:AllBare s'.gens)
  (hch:∀b∈ch,(b∈X.ex\/X.s₀.heap.objs.size<=b)/\b≠X.env.locals/\(∀x c,X.env.cells.lookup x=some c->c≠b)/\∀p∈X.pn++pins,p.1≠b):Inv X pins σ H' s':=by
 obtain⟨h',g',d',t',o'⟩:=s';have e:o'=s.os:=ho;subst e;exact I.call (g':=g') (t':=t') (d':=d') u hok hg hch
end
abbrev XK:=Value->Option Addr->Hp->Prop
abbrev St:=List<|Option V
abbrev VK:=V->Hp->Prop
abbrev TE:=St->Hp->VK->Prop
abbrev TT:=St->Hp->(Bool->Hp->Prop)->Prop
abbrev TA:=St->Hp->(List V->Hp->Prop)->Prop
structure Ends where
 nx:St->Hp->Prop
 rt:VK
 bk:St->Hp->Prop:=λ_ _=>False
 ct:St->Hp->Prop:=λ_ _=>False
abbrev TS:=Ends->St->Hp->Prop
def EP (X:Cx) (pins:List (Addr × Obj)) (σ:St) (Q:VK) (u:Value) (s':Shared):Prop:=∃v H',Inv X pins σ H' s' /\ RelV v u/\Q v H'
def TP (X:Cx) (pins:List (Addr × Obj)) (σ:St) (Q:Bool->Hp->Prop) (b:Bool) (s':Shared):Prop:=∃H',Inv X pins σ H' s' /\ Q b H'
def AP (X:Cx) (pins:List (Addr × Obj)) (σ:St) (Q:List V->Hp->Prop) (us:List Value) (s':Shared):Prop:=∃vs H',Inv X pins σ H' s' /\ Vals vs us/\Q vs H'
def SP (X:Cx) (pins:List (Addr × Obj)) (D:Ends) (f:Flow) (s':Shared):Prop:=
 match f with
 |.next=>∃σ' H',Inv X pins σ' H' s' /\ D.nx σ' H'
 |.brk=>∃σ' H',Inv X pins σ' H' s' /\ D.bk σ' H'
 |.cont=>∃σ' H',Inv X pins σ' H' s' /\ D.ct σ' H'
 |.ret u=>∃v σ' H',Inv X pins σ' H' s' /\ RelV v u/\D.rt v H'
def PE (X:Cx) (e:Expr) (t:TE):Prop:=
 ∀(pins:List (Addr × Obj)) (s:Shared) (σ:St) (H:Hp) (Q:VK),Inv X pins σ H s->t σ H Q->wpAny (model X.prog X.w) X.A (eval e X.env) (EP X pins σ Q) X.xe s
def PT (X:Cx) (e:Expr) (t:TT):Prop:=
 ∀(pins:List (Addr × Obj)) (s:Shared) (σ:St) (H:Hp) (Q:Bool->Hp->Prop),Inv X pins σ H s->t σ H Q->wpAny (model X.prog X.w) X.A (isTrue e X.env<|eval e X.env) (TP X pins σ Q) X.xe s
def PW (X:Cx) (e:Expr) (t:TT):Prop:=
 ∀(whole:Sem Value) (pins:List (Addr × Obj)) (s:Shared) (σ:St) (H:Hp) (Q:Bool->Hp->Prop),Inv X pins σ H s->t σ H Q->wpAny (model X.prog X.w) X.A (isTrue e X.env whole) (TP X pins σ Q) X.xe s
theorem PW.pt {X:Cx}{e:Expr}{t:TT}(h:PW X e t):PT X e t:=h _
def PA (X:Cx) (es:List Expr) (t:TA):Prop:=
 ∀(pos:Pos) (pins:List (Addr × Obj)) (s:Shared) (σ:St) (H:Hp) (Q:List V->Hp->Prop),Inv X pins σ H s->t σ H Q->wpAny (model X.prog X.w) X.A (spliced<|backTo pos<|starEach es X.env) (AP X pins σ Q) X.xe s
def PS (X:Cx) (st:Stmt) (t:TS):Prop:=
 ∀(pins:List (Addr × Obj)) (s:Shared) (σ:St) (H:Hp) (D:Ends),Inv X pins σ H s->t D σ H->wpAny (model X.prog X.w) X.A (exec st X.env) (SP X pins D) X.xe s
def PSs (X:Cx) (st:List Stmt) (t:TS):Prop:=
 ∀(pins:List (Addr × Obj)) (s:Shared) (σ:St) (H:Hp) (D:Ends),Inv X pins σ H s->t D σ H->wpAny (model X.prog X.w) X.A (execs st X.env) (SP X pins D) X.xe s
theorem thn {α:Type}{t:Sem α}{Q Q':α -> Shared->Prop}{M:Model}{A:Around}{E:Value->Shared->Prop}{s:Shared}(h:wpAny M A t Q E s) (hQ:∀a s,Q a s->Q' a s):wpAny M A t Q' E s:=wpAny_mono h hQ λ_ _ x=>x
end L2
namespace L2
open PySem PySem.Spec PyProof.Rows
section
variable {X:Cx}
def tVar (i:Nat):TE:=λσ H Q=>∃v,σ[i]?=some (some v)/\Q v H
def tC (v:V):TE:=λ_ H Q=>Q v H
theorem Zve {i:Nat}{x:Str}{pos:Pos}(hN:X.N[i]?=some x) (hv:Vis X.env.scope x) (hd:(x == ("__debug__":Str))=false:=by decide) (hcd:(x == ("__classdict__":Str))=false:=by decide):PE X (.Name x pos) (tVar i):=by
 intro pins s σ H Q I h;obtain⟨v,e,h⟩:=h;obtain⟨m,hn,hl⟩:=I.loc;obtain⟨u,r,l⟩:=hl i x v hN e hv;have fin:EP X pins σ Q u s:=⟨v,H,I,r,h⟩;rcases l with ⟨hk,hm⟩|⟨hk,c,hc,hcell⟩
 ·exact wpAny_Name (wpAny_loadName_local I.ok.kind hk hn hm fin) hd
 ·rcases hk with hk|hk
  ·exact wpAny_Name (wpAny_loadName_cell I.ok.kind hk hc hcell fin) hd
  ·exact wpAny_Name (wpAny_loadName_free I.ok.kind hk hc hcell fin hcd) hd
theorem Zag {i j pos}:PE X (.Constant (.int i) j pos) (tC (.int i)):=λ_ _ _ H _ I h=>wpAny_Constant_int ⟨.int i,H,I.tok _,⟨_,rfl⟩,h⟩
theorem Zg2 {b j pos}:PE X (.Constant (.bool b) j pos) (tC (.bl b)):=λ_ _ _ H _ I h=>Constant_bool ⟨.bl b,H,I,rfl,h⟩
theorem Zon {j pos}:PE X (.Constant .none j pos) (tC .non):=λ_ _ _ H _ I h=>Constant_none ⟨.non,H,I,rfl,h⟩
theorem Zeu {x j pos}:PE X (.Constant (.str x) j pos) (tC (.str x)):=λ_ _ _ H _ I h=>Calls.Constant_str ⟨.str x,H,I.tok _,⟨_,rfl⟩,h⟩
def Gl (X:Cx) (x:Str):Prop:=X.env.kindOf x=some .globalImplicit
theorem Zfz {E:Value->Shared->Prop}{pins:List (Addr × Obj)}{s:Shared}{σ:St}{H:Hp}{x:Str}{u:Value}{pos:Pos}{Q:Value->Shared->Prop}(I:Inv X pins σ H s) (hg:Gl X x) (hm:X.mg x=some u) (h:Q u s)
  (hd:(x == ("__debug__":Str))=false:=by decide):wpAny (model X.prog X.w) X.A (eval (.Name x pos) X.env) Q E s:=
 Calls.Name_function_global I.ok.kind hg (Calls.loadGlobal_global (by rw[I.ok.glob];exact I.mod.glob.keeps I.bk) hm h) hd
theorem Zew {E:Value->Shared->Prop}{pins:List (Addr × Obj)}{s:Shared}{σ:St}{H:Hp}{x:Str}{u:Value}{pos:Pos}{Q:Value->Shared->Prop}(I:Inv X pins σ H s) (hg:Gl X x) (hm:X.mg x=none) (hv:bootBuiltins x=some u) (h:Q u s)
  (hn:x ≠ "__name__":=by decide) (hd:(x == ("__debug__":Str))=false:=by decide):wpAny (model X.prog X.w) X.A (eval (.Name x pos) X.env) Q E s:=by
 obtain⟨mb,h1,h2⟩:=I.mod.blt;exact Calls.Name_function_global I.ok.kind hg (Calls.loadGlobal_builtin (by rw[I.ok.glob];exact I.mod.glob.keeps I.bk) hm (by rw[I.ok.blt];exact h1.keeps I.bk) ((h2 x hn).trans hv) h) hd
theorem Zij {x:Str}{v:V}{u:Value}{pos:Pos}(hg:Gl X x) (hm:X.mg x=some u) (r:RelV v u) (hd:(x == ("__debug__":Str))=false:=by decide):PE X (.Name x pos) (tC v):=
 λ_ _ _ H _ I h=>Zfz I hg hm ⟨v,H,I,r,h⟩ hd
theorem Zc7 {x:Str}{v:V}{u:Value}{pos:Pos}(hg:Gl X x) (hm:X.mg x=none) (hv:bootBuiltins x=some u) (r:RelV v u) (hn:x ≠ "__name__":=by decide) (hd:(x == ("__debug__":Str))=false:=by decide):PE X (.Name x pos) (tC v):=
 λ_ _ _ H _ I h=>Zew I hg hm hv ⟨v,H,I,r,h⟩ hn hd
variable {a b:Expr}{ta tb:TE}{pos:Pos}
variable {tA tB':TT}{rest:List Expr}
def tAnd (t u:TT):TT:=λσ H Q=>t σ H λc H1=>if c=true then u σ H1 Q else Q false H1
def tOr (t u:TT):TT:=λσ H Q=>t σ H λc H1=>if c=true then Q true H1 else u σ H1 Q
def tNot (t:TT):TT:=λσ H Q=>t σ H λc H1=>Q (!c) H1
theorem pw_and1 (ha:PT X a tA):PW X (.BoolOp .And [a] pos) tA:=by
 intro wh pins s σ H Q I h;refine isTrue_and (thn (ha pins s σ H Q I h) λc s1 e=>?_);cases c with
 |true=>exact isTrue_and_nil e
 |false=>exact e
theorem pw_or1 (ha:PT X a tA):PW X (.BoolOp .Or [a] pos) tA:=by
 intro wh pins s σ H Q I h;refine isTrue_or (thn (ha pins s σ H Q I h) λc s1 e=>?_);cases c with
 |false=>exact isTrue_or_nil e
 |true=>exact e
theorem pw_and (ha:PT X a tA) (hb:PW X (.BoolOp .And (b::rest) pos) tB'):PW X (.BoolOp .And (a::b::rest) pos) (tAnd tA tB'):=by
 intro wh pins s σ H Q I h;refine isTrue_and (thn (ha pins s σ H _ I h) λc s1 ⟨H1,I1,q1⟩=>?_);cases c with
 |true=>exact hb wh pins s1 σ H1 Q I1 q1
 |false=>exact⟨H1,I1,q1⟩
theorem pw_or (ha:PT X a tA) (hb:PW X (.BoolOp .Or (b::rest) pos) tB'):PW X (.BoolOp .Or (a::b::rest) pos) (tOr tA tB'):=by
 intro wh pins s σ H Q I h;refine isTrue_or (thn (ha pins s σ H _ I h) λc s1 ⟨H1,I1,q1⟩=>?_);cases c with
 |true=>exact⟨H1,I1,q1⟩
 |false=>exact hb wh pins s1 σ H1 Q I1 q1
theorem Zcj (ha:PT X a tA):PT X (.UnaryOp .Not a pos) (tNot tA):=by
 intro pins s σ H Q I h;exact isTrue_not<|ha pins s σ H (λc H1=>Q (!c) H1) I h
def tAndV (ta tb:TE):TE:=λσ H Q=>ta σ H λx H1=>∃c,x=.bl c/\if c=true then tb σ H1 Q else Q (.bl false) H1
def tOrV (ta tb:TE):TE:=λσ H Q=>ta σ H λx H1=>∃c,x=.bl c/\if c=true then Q (.bl true) H1 else tb σ H1 Q
def tNotV (ta:TE):TE:=λσ H Q=>ta σ H λx H1=>∃c,x=.bl c/\Q (.bl (!c)) H1
theorem Zlw {op} {t:TE}(h:PE X a t):PE X (.BoolOp op [a] pos) t:=λpins s σ H Q I hw=>BoolOp_one<|h pins s σ H Q I hw
theorem Zlz (ha:PE X a ta) (hb:PE X (.BoolOp .And (b::rest) pos) tb):PE X (.BoolOp .And (a::b::rest) pos) (tAndV ta tb):=by
 intro pins s σ H Q I h;refine BoolOp_and (thn (ha pins s σ H _ I h) λv s1 ⟨x,H1,I1,r1,q1⟩=>?_);obtain⟨c,rfl,q1⟩:=q1;cases r1;refine wpAny_truthy_bool ?_;cases c with
 |true=>exact hb pins s1 σ H1 Q I1 q1
 |false=>exact⟨.bl false,H1,I1,rfl,q1⟩
theorem Zsk (ha:PE X a ta):PE X (.UnaryOp .Not a pos) (tNotV ta):=by
 intro pins s σ H Q I h;refine UnaryOp_ (thn (ha pins s σ H _ I h) λv s1 ⟨x,H1,I1,r1,q1⟩=>?_);obtain⟨c,rfl,q1⟩:=q1;cases r1;exact not_of<|wpAny_truthy_bool ⟨.bl (!c),H1,I1,rfl,q1⟩
end
end L2
namespace L2
open PySem PySem.Spec PyProof.Rows
def SqL (K:W.Frag) (H:Hp) (a:Addr) (xs:List V):Prop:=
 Rd H a (.lst xs) ∨
  ∃(o:Obj) (its:Array Value) (n:Nat),K.lookup a=some o/\o.cls=.type "list" /\ o.dict=none/\o.data=.seq its n/\its.size<=sizeLine/\Vals xs its.toList
def SqT (K:W.Frag) (H:Hp) (a:Addr) (xs:List V):Prop:=
 Rd H a (.tup xs) ∨
  ∃(o:Obj) (its:Array Value) (n:Nat),K.lookup a=some o/\o.cls=.type "tuple" /\ o.data=.seq its n/\its.size<=sizeLine/\Vals xs its.toList
def absV:Value->Option V
 |.none=>some .non
 |.bool b=>some (.bl b)
 |.int i _=>some (.int i)
 |.str x _=>some (.str x)
 |.bytes b _=>some (.byt b)
 |.float b _=>some (.flt b)
 |.ref a=>some (.ref a)
 |.type n=>some (.ty n)
 |_=>none
theorem RelV.abs {x:V}{u:Value}(r:RelV x u):absV u=some x:=by
 cases x with
 |non=>cases r;rfl
 |bl _=>cases r;rfl
 |int _=>obtain⟨t,rfl⟩:=r;rfl
 |str _=>obtain⟨t,rfl⟩:=r;rfl
 |byt _=>obtain⟨t,rfl⟩:=r;rfl
 |flt _=>obtain⟨t,rfl⟩:=r;rfl
 |ref _=>cases r;rfl
 |ty _=>cases r;rfl
theorem RelV.inj {x y:V}{u:Value}(r:RelV x u) (q:RelV y u):x=y:=Wa6.inj<|r.abs.symm.trans q.abs
theorem Vals.inj:∀{xs ys:List V}{us:List Value},Vals xs us->Vals ys us->xs=ys
 |_,_,_,.nil,.nil=>rfl
 |_,_,_,.cons r t,.cons r' t'=>by rw[r.inj r',Vals.inj t t']
section
variable {X:Cx}{pins:List (Addr × Obj)}{σ:St}{H:Hp}{s:Shared}{a:Addr}{xs ys:List V}
theorem SqL.of {K:W.Frag}(h:H a=some (.lst xs)):SqL K H a xs:=.inl (.inl h)
theorem SqT.of {K:W.Frag}(h:H a=some (.tup xs)):SqT K H a xs:=.inl (.inl h)
theorem Inv.list (I:Inv X pins σ H s) (h:SqL X.K H a xs):∃its:List Value,Vals xs its/\PlainL s.heap a its.toArray/\xs.length<=sizeLine:=by
 rcases h with h|⟨o,its,n,hk,hc,hd,hs,hz,r⟩
 ·obtain⟨z,its,n,r,e⟩:=h.ok I.hok
  exact⟨its,r,⟨_,n,e,rfl,rfl,rfl⟩,z⟩
 ·refine⟨its.toList,r,⟨o,n,I.kIn a o hk,hc,hd,by simpa using hs⟩,?_⟩
  have e:=r.length;simp only[Array.length_toList]at e;omega
theorem Inv.tuple (I:Inv X pins σ H s) (h:SqT X.K H a xs):∃its:List Value,Vals xs its/\IsTup s.heap a its.toArray/\xs.length<=sizeLine:=by
 rcases h with h|⟨o,its,n,hk,hc,hs,hz,r⟩
 ·obtain⟨z,its,r,p⟩:=h.ok I.hok
  exact⟨its,r,p.tup,z⟩
 ·refine⟨its.toList,r,⟨o,I.kIn a o hk,hc,n,by simpa using hs⟩,?_⟩
  have e:=r.length;simp only[Array.length_toList]at e;omega
theorem Inv.list_inj (I:Inv X pins σ H s) (h:SqL X.K H a xs) (h':SqL X.K H a ys):xs=ys:=by
 obtain⟨its,r,⟨o,n,e,_,_,d⟩,_⟩:=I.list h;obtain⟨its',r',⟨o',n',e',_,_,d'⟩,_⟩:=I.list h';rw[e]at e';cases e';rw[d]at d';injection d' with d1 _
 have:its=its':=by simpa using congrArg Array.toList d1
 subst this;exact r.inj r'
theorem Inv.tuple_inj (I:Inv X pins σ H s) (h:SqT X.K H a xs) (h':SqT X.K H a ys):xs=ys:=by
 obtain⟨its,r,⟨o,e,_,n,d⟩,_⟩:=I.tuple h;obtain⟨its',r',⟨o',e',_,n',d'⟩,_⟩:=I.tuple h';rw[e]at e';cases e';rw[d]at d';injection d' with d1 _
 have:its=its':=by simpa using congrArg Array.toList d1
 subst this;exact r.inj r'
end
abbrev Cx.wish (X:Cx) (E:Value->Shared->Prop):Cx:={ X with xe:=E }
abbrev Cx.nox (X:Cx):Cx:=X.wish λ_ _=>False
theorem Cx.Ok.wish {X:Cx}(ok:X.Ok) (E:Value->Shared->Prop):(X.wish E).Ok:=
 ⟨ok.mod,ok.kind,ok.glob,ok.blt,ok.above,ok.inj,ok.has,ok.cab,ok.hd,ok.frames,ok.stk,ok.exf,ok.bs,ok.bsz,ok.noex,ok.exfs,ok.funs,ok.frf⟩
theorem Cx.Ok.unwish {X:Cx}{E:Value->Shared->Prop}(ok:(X.wish E).Ok):X.Ok:=
 ⟨ok.mod,ok.kind,ok.glob,ok.blt,ok.above,ok.inj,ok.has,ok.cab,ok.hd,ok.frames,ok.stk,ok.exf,ok.bs,ok.bsz,ok.noex,ok.exfs,ok.funs,ok.frf⟩
section
variable {X:Cx}{pins:List (Addr × Obj)}{σ:St}{H:Hp}{s:Shared}{E:Value->Shared->Prop}
theorem Inv.wish (I:Inv X pins σ H s) (E:Value->Shared->Prop):Inv (X.wish E) pins σ H s:=⟨I.ok.wish E,I.os,I.bare,I.base,I.loc,I.cell,I.free,I.freeC,I.pin,I.hok,I.len⟩
theorem Inv.unwish (I:Inv (X.wish E) pins σ H s):Inv X pins σ H s:=⟨I.ok.unwish,I.os,I.bare,I.base,I.loc,I.cell,I.free,I.freeC,I.pin,I.hok,I.len⟩
theorem SP.unwish {D:Ends}{f:Flow}{s':Shared}(h:SP (X.wish E) pins D f s'):SP X pins D f s':=by
 cases f with
 |next=>obtain⟨σ',H',I,q⟩:=h;exact⟨σ',H',I.unwish,q⟩
 |brk=>obtain⟨σ',H',I,q⟩:=h;exact⟨σ',H',I.unwish,q⟩
 |cont=>obtain⟨σ',H',I,q⟩:=h;exact⟨σ',H',I.unwish,q⟩
 |ret u=>obtain⟨v,σ',H',I,r,q⟩:=h;exact⟨v,σ',H',I.unwish,r,q⟩
theorem PSs.nox {st:List Stmt}{t:TS}(h:PSs X.nox st t):PSs X st t:=λpins s σ H D I hw=>
 wpAny_mono (h pins s σ H D (I.wish _) hw) (λ_ _ q=>q.unwish) λ_ _ z=>False.elim z
end
section
variable {X:Cx}{st:Stmt}{rest:List Stmt}{t u:TS}{e:Expr}{te:TE}{pos:Pos}
def tNext:TS:=λD σ H=>D.nx σ H
def tSeq (t u:TS):TS:=λD σ H=>t { D with nx:=u D } σ H
theorem Zar:PSs X [] tNext:=λ_ _ σ H _ I h=>wpAny_execs_nil ⟨σ,H,I,h⟩
theorem Zaf (h1:PS X st t) (h2:PSs X rest u):PSs X (st::rest) (tSeq t u):=by
 intro pins s σ H D I h;refine wpAny_execs_cons (thn (h1 pins s σ H { D with nx:=u D } I h) λf s1 q=>?_);cases f with
 |next=>
  obtain⟨σ',H',I',q⟩:=q;exact h2 pins s1 σ' H' D I' q
 |ret v=>exact q
 |brk=>exact q
 |cont=>exact q
theorem Zai (h1:PS X st t):PSs X [st] t:=by
 intro pins s σ H D I h;refine wpAny_execs_cons (thn (h1 pins s σ H D I h) λf s1 q=>?_);cases f with
 |next=>exact wpAny_execs_nil q
 |ret v=>exact q
 |brk=>exact q
 |cont=>exact q
theorem Inv.quiet {pins:List (Addr × Obj)}{σ:St}{H:Hp}{s:Shared}(I:Inv X pins σ H s):interactive X.env=false:=by simp[interactive,I.ok.kind]
def tDrop (te:TE):TS:=λD σ H=>te σ H λ_ H1=>D.nx σ H1
theorem Zc5 (he:PE X e te) (hs:swapsWith e none pos.line X.env=pure false:=by rfl):PS X (.Expr e pos) (tDrop te):=by
 intro pins s σ H D I h;exact wpAny_Expr_any (thn (he pins s σ H _ I h) λv s1 ⟨x,H1,I1,r1,q1⟩=>⟨σ,H1,I1,q1⟩) I.quiet hs
def tRet (te:TE):TS:=λD σ H=>te σ H D.rt
theorem Zau (he:PE X e te):PS X (.Return (some e) pos) (tRet te):=by
 intro pins s σ H D I h;exact wpAny_Return_some (thn (he pins s σ H _ I h) λv s1 ⟨x,H1,I1,r1,q1⟩=>⟨x,σ,H1,I1,r1,q1⟩)
def tIfS (c:TT) (t u:TS):TS:=λD σ H=>c σ H λb H1=>if b=true then t D σ H1 else u D σ H1
theorem Zbd {c:Expr}{a b:List Stmt}{tc:TT}(hc:PT X c tc) (ha:PSs X a t) (hb:PSs X b u):PS X (.If c a b pos) (tIfS tc t u):=by
 intro pins s σ H D I h;refine wpAny_If (thn (hc pins s σ H _ I h) λd s1 ⟨H1,I1,q1⟩=>?_);cases d with
 |true=>exact ha pins s1 σ H1 D I1 q1
 |false=>exact hb pins s1 σ H1 D I1 q1
def tNever:TS:=λ_ _ _=>False
theorem Zcv {sts:List Stmt}:PSs X sts tNever:=λ_ _ _ _ _ _ h=>h.elim
end
abbrev TG:=V->St->Hp->(St->Hp->Prop)->Prop
abbrev TGs:=List V->St->Hp->(St->Hp->Prop)->Prop
def PG (X:Cx) (target:Expr) (t:TG):Prop:=
 ∀(pins:List (Addr × Obj)) (s:Shared) (σ:St) (H:Hp) (v:V) (u:Value) (Q:St->Hp->Prop),Inv X pins σ H s->RelV v u->t v σ H Q →
  wpAny (model X.prog X.w) X.A (assign target X.env u) (λ_ s'=>∃σ' H',Inv X pins σ' H' s' /\ Q σ' H') X.xe s
def PGs (X:Cx) (ts:List Expr) (t:TGs):Prop:=
 ∀(pins:List (Addr × Obj)) (s:Shared) (σ:St) (H:Hp) (vs:List V) (us:List Value) (Q:St->Hp->Prop),Inv X pins σ H s->Vals vs us->t vs σ H Q →
  wpAny (model X.prog X.w) X.A (assignInOrder ((assignEach ts X.env).map (·.2)) us) (λ_ s'=>∃σ' H',Inv X pins σ' H' s' /\ Q σ' H') X.xe s
abbrev TSet:=V->V->V->Hp->(Hp->Prop)->Prop
def PSet (X:Cx) (t:TSet):Prop:=
 ∀(pins:List (Addr × Obj)) (s:Shared) (σ:St) (H:Hp) (o i v:V) (ov iv u:Value) (Q:Hp->Prop),Inv X pins σ H s->RelV o ov->RelV i iv->RelV v u->t o i v H Q →
  wpAny (model X.prog X.w) X.A (setItem ov iv u) (λ_ s'=>∃H',Inv X pins σ H' s' /\ Q H') X.xe s
section
variable {X:Cx}{pos:Pos}
def gName (i:Nat):TG:=λv σ H Q=>Q (σ.set i<|some v) H
theorem Zal {i:Nat}{x:Str}(hN:X.N.Nodup) (hi:X.N[i]?=some x) (hx:Loc X.env.scope x) (hf:X.fn x=true\/X.env.scope.names.lookup x=some .local:=by first|exact .inl rfl|exact .inr rfl|assumption):PG X (.Name x pos) (gName i):=by
 intro pins s σ H v u Q I r h;exact wpAny_assign_Name<|Zek I hN hi hx r (λs' I'=>⟨_,H,I',h⟩) hf
def gNil:TGs:=λvs σ H Q=>vs=[]/\Q σ H
def gCons (t:TG) (u:TGs):TGs:=λvs σ H Q=>∃v r,vs=v::r/\t v σ H λσ' H'=>u r σ' H' Q
theorem Zgu:PGs X [] gNil:=by
 intro pins s σ H vs us Q I r h;obtain⟨e,h⟩:=h;subst e;cases r;exact assignInOrder_nil ⟨σ,H,I,h⟩
theorem Zct {e:Expr}{es:List Expr}{t:TG}{u:TGs}(h1:PG X e t) (h2:PGs X es u)
  (hs:(assignEach (e::es) X.env).map (·.2)=assign e X.env::(assignEach es X.env).map (·.2):=by rfl):PGs X (e::es) (gCons t u):=by
 intro pins s σ H vs us Q I r h;obtain⟨v,vr,e1,h⟩:=h;subst e1;cases r with
 |cons r rr=>
  rw[hs];refine assignInOrder_cons (thn (h1 pins s σ H _ _ _ I r h) λ_ s1 ⟨σ1,H1,I1,q1⟩=>?_);exact h2 pins s1 σ1 H1 _ _ Q I1 rr q1
def gTup (K:W.Frag) (n:Nat) (t:TGs):TG:=λv σ H Q=>∃a xs,v=.ref a/\SqT K H a xs/\xs.length=n/\t xs σ H Q
theorem Zvr {es:List Expr}{k:Nat}{t:TGs}{n:Nat}(hc:X.calm=true) (h:PGs X es t)
  (hn:(assignEach es X.env).length=n:=by rfl) (hst:(assignEach es X.env).findIdx? (·.1)=none:=by rfl):PG X (.Tuple es k pos) (gTup X.K n t):=by
 intro pins s σ H v u Q I r hw;obtain⟨a,xs,e1,hq,hl,hw⟩:=hw;subst e1;cases r;obtain⟨its,rv,ht,hz⟩:=I.tuple hq;refine assign_Tuple_tuple (I.ok.hd hc) ht (by simp[hn,<- hl,rv.length]) hst λh' hx=>?_;have I1:Inv X pins σ H { s with heap:=h' }:=I.kept (t':=s.toks) λb o e=>hx b o (Wa8<|Wax e) e;exact h pins _ σ H xs _ Q I1 (by simpa using rv) hw
def gSub (to ti:TE) (t:TSet):TG:=λv σ H Q=>to σ H λo H1=>ti σ H1 λi H2=>t o i v H2 λH3=>Q σ H3
theorem Zgs {o i:Expr}{to ti:TE}{t:TSet}(ho:PE X o to) (hi:PE X i ti) (hs:PSet X t)
  (ha:∀v,assign (.Subscript o i pos) X.env v=(do
   let ov ← holding [v] (eval o X.env)
   let iv ← holding [v,ov] (eval i X.env)
   standAt pos
   holding [v,ov,iv] (setItem ov iv v)
   release [v,ov,iv] []):=by intro _;rfl):PG X (.Subscript o i pos) (gSub to ti t):=by
 intro pins s σ H v u Q I r h;rw[ha];refine wpAny_bind<|wpAny_holding (thn (ho pins s σ H _ I h) λov s1 ⟨x,H1,I1,r1,q1⟩=>?_);refine wpAny_bind<|wpAny_holding (thn (hi pins s1 σ H1 _ I1 q1) λiv s2 ⟨y,H2,I2,r2,q2⟩=>?_);refine wpAny_bind<|wpAny_standAt<|wpAny_bind<|wpAny_holding (thn (hs pins s2 σ H2 x y v ov iv u _ I2 r1 r2 r q2) λ_ s3 ⟨H3,I3,q3⟩=>?_);exact wpAny_release ⟨σ,H3,I3,q3⟩
def tAsg (te:TE) (g:TG):TS:=λD σ H=>te σ H λx H1=>g x σ H1 D.nx
theorem Zf5 {tg e:Expr}{te:TE}{g:TG}(he:PE X e te) (hg:PG X tg g) (hs:swapsWithSole [tg] e pos.line X.env=pure false:=by rfl) (hw:swappedStores [tg] e X.env=pure none:=by rfl)
  (h1:(assignEach [tg] X.env).map (·.2)=[assign tg X.env]:=by rfl):PS X (.Assign [tg] e pos) (tAsg te g):=by
 intro pins s σ H D I h;refine wpAny_Assign_stores (thn (he pins s σ H _ I h) λv s1 ⟨x,H1,I1,r1,q1⟩=>?_) hs hw;rw[h1];exact thn (hg pins s1 σ H1 x v _ I1 r1 q1) λ_ s2 q=>q
theorem Zaq {i:Nat}{x:Str}{e:Expr}{te:TE}{pos':Pos}(hN:X.N.Nodup) (hi:X.N[i]?=some x) (hx:Loc X.env.scope x) (he:PE X e te) (hs:swapsWith e (some (.Name x pos')) pos.line X.env=pure false:=by rfl) (hf:X.fn x=true\/X.env.scope.names.lookup x=some .local:=by first|exact .inl rfl|exact .inr rfl|assumption) :
  PS X (.Assign [.Name x pos'] e pos) (tAsg te<|gName i):=by
 intro pins s σ H D I h;refine wpAny_Assign_Name (thn (he pins s σ H _ I h) λv s1 ⟨y,H1,I1,r1,q1⟩=>?_) hs;exact Zek I1 hN hi hx r1 (λs2 I2=>⟨_,H1,I2,q1⟩) hf
def tPar (i j:Nat) (ta:TA):TS:=λD σ H=>ta σ H λvs H1=>∃v w,vs=[v,w]/\D.nx ((σ.set i<|some v).set j (some w)) H1
theorem Zph {i j:Nat}{x y:Str}{a b:Expr}{ta:TA}{px py pt:Pos}{kt k2 pt2} (hc:X.calm=true) (hN:X.N.Nodup) (hi:X.N[i]?=some x) (hj:X.N[j]?=some y) (hij:i≠j)
  (hx:X.env.scope.names.lookup x=some .local) (hy:X.env.scope.names.lookup y=some .local) (ha:PA X [a,b] ta)
  (hw:swappedStores [.Tuple [.Name x px,.Name y py] kt pt] (.Tuple [a,b] k2 pt2) X.env=pure (some [x,y]))
  (hs:swapsWithSole [.Tuple [.Name x px,.Name y py] kt pt] (.Tuple [a,b] k2 pt2) pos.line X.env=pure false:=by rfl) :
  PS X (.Assign [.Tuple [.Name x px,.Name y py] kt pt] (.Tuple [a,b] k2 pt2) pos) (tPar i j ta):=by
 intro pins s σ H D I h;rw[exec_Assign_arm];refine wpAny_bind<|wpAny_standAt ?_;rw[hs];refine wpAny_bind<|wpAny_pure ?_;rw[if_neg (by decide)];refine wpAny_bind<|Tuple_ (thn (ha _ pins s σ H _ I h) λus s1 ⟨vs,H1,I1,r1,q1⟩=>?_);obtain⟨v,w,e1,q1⟩:=q1;subst e1;obtain⟨u1,u2,rfl,rv,rw'⟩:∃u1 u2,us=[u1,u2]/\RelV v u1/\RelV w u2:=by
  cases r1 with
  |cons p q=>
   cases q with
   |cons p' q'=>
    cases q';exact⟨_,_,rfl,p,p'⟩
 refine wpAny_newObj_type ?_ (by show 2<=sizeLine;decide);have I2:Inv X pins σ H1 { s1 with heap:=s1.heap.push { cls:=.type "tuple",data:=.seq [u1,u2].toArray } }:=I1.kept (t':=s1.toks) λb o e=>Wac _ e;rw[hw];refine wpAny_bind<|wpAny_pure ?_;show wpAny (model X.prog X.w) X.A (do rule "assign.swapped-stores";let items ← unpackItems (.ref s1.heap.objs.size) 2 none;assignInOrder [λv=>bindName X.env y v,λv=>bindName X.env x v] items.reverse;pure Flow.next) _ _ _;refine wpAny_bind<|wpAny_rule<|wpAny_bind (unpackItems_tuple (items:=#[u1,u2]) (I.ok.hd hc) (IsTup.new s1.heap _) λh' hx'=>?_);have I3:=I2.kept (h':=h') (t':=s1.toks) λb o e=>hx' b o (Wa8<|Wax e) e;show wpAny _ _ (assignInOrder [λv=>bindName X.env y v,λv=>bindName X.env x v] [u2,u1] >>= λ_=>pure Flow.next) _ _ _;refine wpAny_bind<|assignInOrder_cons<|wpAny_bindName<|Zek I3 hN hj (.inl hy) rw' (λs2 I4=>?_) (.inr hy);refine assignInOrder_cons<|wpAny_bindName<|Zek I4 hN hi (.inl hx) rv (λs3 I5=>assignInOrder_nil<|wpAny_pure ?_) (.inr hx);rw[List.set_comm _ _ (Ne.symm hij)]at I5;exact⟨_,H1,I5,q1⟩
def tWhile (c:TT) (tb:TS):TS:=λD σ H=>∃W:Nat->St->Hp->Prop,(∃m,W m σ H)/\∀m σ H,W m σ H →
 c σ H λb H1=>if b=true then ∃N:St->Hp->Prop,(∀σ' H',N σ' H' -> ∃m',m'<m/\W m' σ' H')/\tb { D with nx:=N,ct:=N,bk:=D.nx } σ H1 else D.nx σ H1
theorem Zle {c:Expr}{body:List Stmt}{tc:TT}{tb:TS}(hp:PassesOwn (model X.prog X.w) X.A X.env X.xe) (hc:PT X c tc) (hb:PSs X body tb):PS X (.While c body [] pos) (tWhile tc tb):=by
 intro pins s σ H D I h;obtain⟨W,⟨m0,w0⟩,turn⟩:=h;refine wpAny_While<|codeAny_whileLoop (λn s'=>∃σ' H',Inv X pins σ' H' s' /\ W n σ' H') ?_ m0 ⟨σ,H,I,w0⟩;rintro n s1 ⟨σ1,H1,I1,w1⟩;refine wpAny_passesOwn hp (thn (hc pins s1 σ1 H1 _ I1<|turn n σ1 H1 w1) λb s2 ⟨H2,I2,q2⟩=>?_);cases b with
 |true=>
  obtain⟨N,hN,q2⟩:=q2;rw[if_pos rfl];refine wpAny_passesOwn hp (thn (hb pins s2 σ1 H2 _ I2 q2) λf s3 q3=>?_);cases f with
  |next=>
   obtain⟨σ3,H3,I3,n3⟩:=q3;obtain⟨m',hm,w3⟩:=hN σ3 H3 n3;exact⟨m',hm,σ3,H3,I3,w3⟩
  |cont=>
   obtain⟨σ3,H3,I3,n3⟩:=q3;obtain⟨m',hm,w3⟩:=hN σ3 H3 n3;exact⟨m',hm,σ3,H3,I3,w3⟩
  |brk=>exact q3
  |ret v=>exact q3
 |false=>
  rw[if_neg Wam];exact wpAny_execs_nil ⟨σ1,H2,I2,q2⟩
end
structure It where
 go:Nat->Hp->Prop
 yld:Nat->Hp->V->Hp->Prop
 stop:Nat->Hp->Prop
def FpOk (X:Cx) (pins:List (Addr × Obj)) (H:Hp) (b:Addr):Prop:=
 H b=none/\b≠X.env.locals/\b ∉ X.fs/\(b∈X.ex\/X.s₀.heap.objs.size<=b)/\(∀x c,X.env.cells.lookup x=some c->c≠b)/\∀p∈X.pn++pins,p.1≠b
theorem Inv.fpOk {X:Cx}{pins:List (Addr × Obj)}{σ:St}{H H':Hp}{s:Shared}{b:Addr}(I:Inv X pins σ H s) (hb:s.heap.objs.size<=b) (hn:H' b=none):FpOk X pins H' b:=by
 refine⟨hn,Wdl<|Wbh I.lt hb,I.nofs hb,.inr<|Wby I.sz hb,λx c e z=>?_,λp hp z=>?_⟩
 ·obtain⟨v,q⟩:=I.cell x c e
  exact absurd (Wbh q.lt (by rw[z];exact hb))<|Wdf _
 ·exact absurd (Wbh (Wax (I.pin p hp).1) (by rw[z];exact hb))<|Wdf _
structure TurnG (Cm:Cx->Prop) (P:Program) (w:World) (K:W.Frag) (tg:Expr) (J:It) (fp:List Addr) (it:Addr) (tn:Nat->Heap->Prop):Prop where
 mem:it∈fp
 obj:∀i h,tn i h->∀b∈fp,∃o,h.get? b=some o/\∀v,o.data≠.cell v
 keep:∀i h h',tn i h->(∀b∈fp,∀o,h.get? b=some o->h'.get? b=some o)->tn i h'
 item:∀(X:Cx),X.prog=P->X.w=w->X.K=K->Cm X->∀(i:Nat) (pins:List (Addr × Obj)) (s:Shared) (σ:St) (H:Hp) (E:Value->Shared->Prop),Inv X pins σ H s->(∀b∈fp,FpOk X pins H b)->tn i s.heap->J.go i H →
  wpAny (model P w) X.A (pyNext (.ref it)) (λr s1=>∃u,r=some u ∧
   wpAny (model P w) X.A (letOwnedTupleGo tg (.ref it) u) (λ_ s2=>∃x H',Inv X pins σ H' s2/\RelV x u/\J.yld i H x H' /\ tn (i+1) s2.heap/\∀b∈fp,H' b=none) E s1) E s
 done:∀(X:Cx),X.prog=P->X.w=w->X.K=K->Cm X->∀(i:Nat) (pins:List (Addr × Obj)) (s:Shared) (σ:St) (H:Hp) (E:Value->Shared->Prop),Inv X pins σ H s->(∀b∈fp,FpOk X pins H b)->tn i s.heap->J.stop i H →
  wpAny (model P w) X.A (pyNext (.ref it)) (λr s1=>r=none/\Inv X pins σ H s1) E s
 self:∀(A:Around) (i:Nat) (s:Shared) (Q:Value->Shared->Prop) (E:Value->Shared->Prop),tn i s.heap->Q (.ref it) s->wpAny (model P w) A (pyIter (.ref it)) Q E s
abbrev Turn:=TurnG λX=>X.calm=true
abbrev TI:=St->Hp->(It->Hp->Prop)->Prop
def PIEG (Cm:Cx->Prop) (X:Cx) (pins:List (Addr × Obj)) (σ:St) (tg:Expr) (R:It->Hp->Prop) (itv:Value) (s2:Shared):Prop:=
 ∃(it:Addr) (fp:List Addr) (tn:Nat->Heap->Prop) (J:It) (H':Hp),itv=.ref it/\Inv X pins σ H' s2/\TurnG Cm X.prog X.w X.K tg J fp it tn/\tn 0 s2.heap/\(∀b∈fp,FpOk X pins H' b)/\R J H'
def PIG (Cm:Cx->Prop) (X:Cx) (tg iter:Expr) (wi:TI):Prop:=
 ∀(pins:List (Addr × Obj)) (s:Shared) (σ:St) (H:Hp) (R:It->Hp->Prop),Inv X pins σ H s->wi σ H R →
  wpAny (model X.prog X.w) X.A (eval iter X.env) (λv s1=>wpAny (model X.prog X.w) X.A (pyIter v) (PIEG Cm X pins σ tg R) X.xe s1) X.xe s
abbrev PIE:=PIEG λX=>X.calm=true
abbrev PI:=PIG λX=>X.calm=true
theorem Zr0 {M:Model}{A:Around}{E:Value->Shared->Prop}{s:Shared}{tg:Expr}{it:Addr}{u:Value}{o:Obj}{n:String}{vs:Array Value}{Q:Unit->Shared->Prop}(ho:s.heap.get? it=some o) (hc:o.cls=.type n) (hd:o.data=.fields vs)
  (hn:["enumerate","zip","dict_itemiterator","dict_reverseitemiterator","odict_iterator","itertools.zip_longest","itertools.pairwise"].contains n=false) (hQ:Q () s):wpAny M A (letOwnedTupleGo tg (.ref it) u) Q E s:=by
 unfold letOwnedTupleGo;cases tg <;> first
  |exact wpAny_pure hQ
  | (cases u <;> first
      |exact wpAny_pure hQ
      | (refine wpAny_bind (wpAny_load ho ?_)
         rw[hc,hd];show wpAny M A (if (["enumerate","zip","dict_itemiterator","dict_reverseitemiterator","odict_iterator","itertools.zip_longest","itertools.pairwise"].contains n && vs[0]? == some (rawInt _))=true then _ else _) Q E s;rw[if_neg (by intro h;rw[hn,Wd3]at h;cases h)];exact wpAny_pure hQ))
def Itl (K:W.Frag) (a:Addr):It:=
 ⟨λi H=>∃xs x,SqL K H a xs/\xs[i]?=some x,λi H x H'=>H'=H/\∀xs,SqL K H a xs->xs[i]?=some x,λi H=>∃xs,SqL K H a xs/\xs.length<=i⟩
def Itt (K:W.Frag) (a:Addr):It:=
 ⟨λi H=>∃xs x,SqT K H a xs/\xs[i]?=some x,λi H x H'=>H'=H/\∀xs,SqT K H a xs->xs[i]?=some x,λi H=>∃xs,SqT K H a xs/\xs.length<=i⟩
def Itr (lo:Int) (n:Nat):It:=⟨λi _=>i<n,λi H x H'=>H'=H/\x=.int (lo+i),λi _=>n<=i⟩
theorem Zoy {P:Program}{w:World}{K:W.Frag}{tg:Expr}(a it:Addr):Turn P w K tg (Itl K a) [it] it (λi h=>h.IsListIter it a i) where
 mem:=by simp
 obj:=λi h st b hb=>by
  have e:b=it:=by simpa using hb
  subst e;obtain⟨o,e,c,d⟩:=st;exact⟨o,e,λv z=>by rw[d]at z;cases z⟩
 keep:=λi h h' st k=>st.at λo e=>k it (by simp) o e
 item:=by
  intro X hP hw hK hc i pins s σ H E I hf st hg;subst hP hw hK;obtain⟨xs,x,hq,hx⟩:=hg;obtain⟨its,rv,p,hz⟩:=I.list hq;obtain⟨u,hu,ru⟩:=rv.get hx;obtain⟨f0,f1,f2,f3,f4,f5⟩:=hf it (by simp);refine wpAny_pyNext_list_item st p.isList (x:=u) (by simpa using hu) λh' st' sb=>?_;have I1:Inv X pins σ H { s with heap:=h' }:=I.turned (t':=s.toks) (λb o hb e=>(sb.2 b hb).trans e) f0 f1 f3 f4 f5;obtain⟨o,e,c,d⟩:=id st';exact⟨u,rfl,Zr0 (s:={ s with heap:=h' }) e c d (by decide) ⟨x,H,I1,ru,⟨rfl,λys hy=>by rw[I.list_inj hy hq];exact hx⟩,st',λb hb=>(hf b hb).1⟩⟩
 done:=by
  intro X hP hw hK hc i pins s σ H E I hf st hg;subst hP hw hK;obtain⟨xs,hq,hx⟩:=hg;obtain⟨its,rv,p,hz⟩:=I.list hq;obtain⟨f0,f1,f2,f3,f4,f5⟩:=hf it (by simp);have hl:=rv.length;exact wpAny_pyNext_list_end (I.ok.hd hc) st p.isList (by simp;omega) λh' eb=>⟨rfl,I.turned (t':=s.toks) (λb o hb e=>eb b o hb e) f0 f1 f3 f4 f5⟩
 self:=λ_ _ _ _ _ st h=>wpAny_pyIter_listiter st h
theorem Zmg {P:Program}{w:World}{K:W.Frag}{tg:Expr}(a it:Addr):Turn P w K tg (Itt K a) [it] it (λi h=>h.IsTupleIter it a i) where
 mem:=by simp
 obj:=λi h st b hb=>by
  have e:b=it:=by simpa using hb
  subst e;obtain⟨o,e,c,d⟩:=st;exact⟨o,e,λv z=>by rw[d]at z;cases z⟩
 keep:=λi h h' st k=>st.at λo e=>k it (by simp) o e
 item:=by
  intro X hP hw hK hc i pins s σ H E I hf st hg;subst hP hw hK;obtain⟨xs,x,hq,hx⟩:=hg;obtain⟨its,rv,p,hz⟩:=I.tuple hq;obtain⟨u,hu,ru⟩:=rv.get hx;obtain⟨f0,f1,f2,f3,f4,f5⟩:=hf it (by simp);refine wpAny_pyNext_tuple_item st (show s.heap.IsTuple a its.toArray from p) (x:=u) (by simpa using hu) λh' st' sb=>?_;have I1:Inv X pins σ H { s with heap:=h' }:=I.turned (t':=s.toks) (λb o hb e=>(sb.2 b hb).trans e) f0 f1 f3 f4 f5;obtain⟨o,e,c,d⟩:=id st';exact⟨u,rfl,Zr0 (s:={ s with heap:=h' }) e c d (by decide) ⟨x,H,I1,ru,⟨rfl,λys hy=>by rw[I.tuple_inj hy hq];exact hx⟩,st',λb hb=>(hf b hb).1⟩⟩
 done:=by
  intro X hP hw hK hc i pins s σ H E I hf st hg;subst hP hw hK;obtain⟨xs,hq,hx⟩:=hg;obtain⟨its,rv,p,hz⟩:=I.tuple hq;obtain⟨f0,f1,f2,f3,f4,f5⟩:=hf it (by simp);have hl:=rv.length;exact wpAny_pyNext_tuple_end (I.ok.hd hc) st (show s.heap.IsTuple a its.toArray from p) (by simp;omega) λh' eb=>⟨rfl,I.turned (t':=s.toks) (λb o hb e=>eb b o hb e) f0 f1 f3 f4 f5⟩
 self:=λ_ _ _ _ _ st h=>wpAny_pyIter_tupleiter st h
theorem Zmb {P:Program}{w:World}{K:W.Frag}{tg:Expr}(it:Addr) (lo:Int) (n:Nat):Turn P w K tg (Itr lo n) [it] it (λi h=>IsRangeIter h it (lo+(i:Nat)*1) ((n:Int)-(i:Nat)) 1) where
 mem:=by simp
 obj:=λi h st b hb=>by
  have e:b=it:=by simpa using hb
  subst e;exact⟨_,st,λv z=>by
   have z':Data.fields _=Data.cell v:=z;cases z'⟩
 keep:=λi h h' st k=>k it (by simp) _ st
 item:=by
  intro X hP hw hK hc i pins s σ H E I hf st hg;subst hP hw hK;obtain⟨f0,f1,f2,f3,f4,f5⟩:=hf it (by simp);have W:=Walks.range (prog:=X.prog) (w:=X.w) (I.ok.hd hc) it lo 1 n;refine W.item i s _ _ hg st λv h' tk hv st' kk=>?_;obtain⟨t,rfl⟩:=hv;have I1:Inv X pins σ H { s with heap:=h',toks:=tk }:=I.turned (λb o hb e=>kk b o (by simpa using hb) e) f0 f1 f3 f4 f5;refine⟨_,rfl,Zr0 (s:={ s with heap:=h',toks:=tk }) (n:="range_iterator") st' rfl rfl (by decide) ⟨.int<|lo+i,H,I1,⟨t,?_⟩,⟨rfl,rfl⟩,st',λb hb=>(hf b hb).1⟩⟩;rw[Int.mul_one]
 done:=by
  intro X hP hw hK hc i pins s σ H E I hf st hg;subst hP hw hK;obtain⟨f0,f1,f2,f3,f4,f5⟩:=hf it (by simp);exact wpAny_pyNext_range_end (I.ok.hd hc) st (by have:n<=i:=hg;omega) λh' eb=>⟨rfl,I.turned (t':=s.toks) (λb o hb e=>eb b o hb e) f0 f1 f3 f4 f5⟩
 self:=λ_ _ _ _ _ st h=>wpAny_pyIter_rangeiter st h
end L2
namespace L2
open PySem PySem.Spec PyProof.Rows
section
variable {X:Cx}{tg:Expr}
def iList (K:W.Frag) (tl:TE):TI:=λσ H R=>tl σ H λx H1=>∃a,x=.ref a/\(∃xs,SqL K H1 a xs)/\R (Itl K a) H1
def iTup (K:W.Frag) (tl:TE):TI:=λσ H R=>tl σ H λx H1=>∃a,x=.ref a/\(∃xs,SqT K H1 a xs)/\R (Itt K a) H1
theorem Ztu {l:Expr}{tl:TE}(hl:PE X l tl):PI X tg l (iList X.K tl):=by
 intro pins s σ H R I h;refine thn (hl pins s σ H _ I h) λv s1 ⟨x,H1,I1,r1,q1⟩=>?_;obtain⟨a,e,⟨xs,hq⟩,q⟩:=q1;subst e;cases r1;obtain⟨its,rv,p,hz⟩:=I1.list hq;refine wpAny_pyIter_list p.isList ?_;refine⟨s1.heap.objs.size,[s1.heap.objs.size],_,_,H1,rfl,I1.kept (t':=s1.toks) λb o e=>Wac _ e,Zoy a _,⟨_,Wao _ rfl,rfl,rfl⟩,λb hb=>?_,q⟩;have e:b=s1.heap.objs.size:=by simpa using hb
 subst e;exact I1.fpOk (Wak _)<|I1.hok.fresh<|Wak _
theorem Zwz {l:Expr}{tl:TE}(hl:PE X l tl):PI X tg l (iTup X.K tl):=by
 intro pins s σ H R I h;refine thn (hl pins s σ H _ I h) λv s1 ⟨x,H1,I1,r1,q1⟩=>?_;obtain⟨a,e,⟨xs,hq⟩,q⟩:=q1;subst e;cases r1;obtain⟨its,rv,p,hz⟩:=I1.tuple hq;refine wpAny_pyIter_tuple (show s1.heap.IsTuple a its.toArray from p) ?_;refine⟨s1.heap.objs.size,[s1.heap.objs.size],_,_,H1,rfl,I1.kept (t':=s1.toks) λb o e=>Wac _ e,Zmg a _,⟨_,Wao _ rfl,rfl,rfl⟩,λb hb=>?_,q⟩;have e:b=s1.heap.objs.size:=by simpa using hb
 subst e;exact I1.fpOk (Wak _)<|I1.hok.fresh<|Wak _
theorem range_it {pins:List (Addr × Obj)}{σ:St}{H:Hp}{s:Shared}{R:It->Hp->Prop}{E:Value->Shared->Prop}{lo hi:Int}{t u v:Tok}{tk:Nat}(I:Inv X pins σ H s) (h1:-(2 ^ 62)<=lo) (h2:lo<2 ^ 62) (h3:-(2 ^ 62)<=hi) (h4:hi<2 ^ 62)
  (q:R (Itr lo (hi-lo).toNat) H):wpAny (model X.prog X.w) X.A (pyIter (.ref s.heap.objs.size)) (PIE X pins σ tg R) E { s with heap:=s.heap.push { cls:=.type "range",data:=.fields #[.int lo t,.int hi u,.int 1 v] },toks:=tk }:=by
 refine wpAny_pyIter_range (IsRange.new ..) (small_one h1 h2 h3 h4) ?_;have I1:Inv X pins σ H { s with heap:=s.heap.push { cls:=.type "range",data:=.fields #[.int lo t,.int hi u,.int 1 v] },toks:=tk }:=I.kept λb o e=>Wac _ e;refine⟨(s.heap.push { cls:=.type "range",data:=.fields #[.int lo t,.int hi u,.int 1 v] }).objs.size,[(s.heap.push { cls:=.type "range",data:=.fields #[.int lo t,.int hi u,.int 1 v] }).objs.size],_,_,H,rfl,
  I1.kept (t':=tk) λb o e=>Wac _ e,Zmb _ lo (hi-lo).toNat,?_,λb hb=>?_,q⟩
 ·have e1:lo+((0:Nat):Int)*1=lo:=by simp
  have e2:(((hi-lo).toNat:Nat):Int)-((0:Nat):Int)=Builtin.Range.rangeSize lo hi 1:=by rw[rangeSize_one];split <;> omega
  show IsRangeIter _ _ (lo+((0:Nat):Int)*1) ((((hi-lo).toNat:Nat):Int)-((0:Nat):Int)) 1;rw[e1,e2];exact Wao _ rfl
 ·have e:b=(s.heap.push { cls:=.type "range",data:=.fields #[.int lo t,.int hi u,.int 1 v] }).objs.size:=by simpa using hb
  subst e;exact I1.fpOk (Wak _)<|I1.hok.fresh<|Wak _
def iRng1 (ta:TA):TI:=λσ H R=>ta σ H λvs H1=>∃j:Int,vs=[.int j] /\ -(2 ^ 62)<=j/\j<2 ^ 62/\R (Itr 0 j.toNat) H1
theorem Zbg {a:Expr}{ta:TA}{p pos:Pos}(hg:Gl X "range") (hm:X.mg "range" = none) (ha:PA X [a] ta) (hs:starEach [a] X.env=[(false,eval a X.env)]:=by rfl):PI X tg (.Call (.Name "range" p) [a] [] pos) (iRng1 ta):=by
 intro pins s σ H R I h;refine Call_<|Zew I hg hm boot_range<|PyProof.Rows.callWith_type1 (thn (ha pos pins s σ H _ I h) λus s1 ⟨vs,H1,I1,r1,q1⟩=>?_) hs rfl;obtain⟨j,e,q1,q2,q⟩:=q1;subst e;cases r1 with
 |cons r rr=>
  cases rr;obtain⟨t,rfl⟩:=r;exact call_range_1<|range_it I1 (by omega) (by omega) q1 q2 (by simpa using q)
def tFor (wi:TI) (g:TG) (tb:TS):TS:=λD σ H=>wi σ H λJ H1=>∃W:Nat->Nat->St->Hp->Prop,(∃m,W 0 m σ H1)/\∀i m σ H,W i m σ H →
 (J.stop i H/\D.nx σ H)\/(J.go i H/\∃N:St->Hp->Prop,(∀σ' H',N σ' H' -> ∃m',m'<m/\W (i+1) m' σ' H')/\∀x H',J.yld i H x H' -> g x σ H' λσ2 H2=>tb { D with nx:=N,ct:=N,bk:=D.nx } σ2 H2)
def pinsAt (fp:List Addr) (h:Heap):List (Addr × Obj):=fp.filterMap λb=>(h.get? b).map λo=>(b,o)
theorem Zci {fp:List Addr}{h:Heap}{b:Addr}{o:Obj}(hb:b∈fp) (e:h.get? b=some o):(b,o)∈pinsAt fp h:=List.mem_filterMap.mpr ⟨b,hb,by rw[e];rfl⟩
theorem Zns {fp:List Addr}{h:Heap}{p:Addr × Obj}(hp:p∈pinsAt fp h):p.1∈fp/\h.get? p.1=some p.2:=by
 obtain⟨b,hb,e⟩:=List.mem_filterMap.mp hp;cases q:h.get? b with
 |none=>rw[q]at e;cases e
 |some o=>
  rw[q]at e;have e':(b,o)=p:=Wa6.inj e;subst e';exact⟨hb,q⟩
theorem Inv.pinned {pins:List (Addr × Obj)}{σ:St}{H:Hp}{s:Shared}{fp:List Addr}(I:Inv X pins σ H s) (hf:∀b∈fp,FpOk X pins H b) (ho:∀b∈fp,∃o,s.heap.get? b=some o/\∀v,o.data≠.cell v):Inv X (pins++pinsAt fp s.heap) σ H s:=
 I.pins_of λp hp=>(Wbp.mp hp).elim (λz=>I.pin p<|Wa0 _ z) λz=>by
  obtain⟨hb,e⟩:=Zns z;obtain⟨f0,f1,f2,_⟩:=hf p.1 hb;obtain⟨o,e',d⟩:=ho p.1 hb;rw[e]at e';cases e';exact⟨e,f0,f1,f2,d⟩
theorem Inv.unpinned {pins pl:List (Addr × Obj)}{σ:St}{H:Hp}{s:Shared}(I:Inv X (pins++pl) σ H s):Inv X pins σ H s:=I.pins_of λp hp=>I.pin p<|Wa0 _<|Wci _ hp
theorem Zd3 {iter:Expr}{body:List Stmt}{wi:TI}{g:TG}{tb:TS}{pos:Pos}(hp:PassesOwn (model X.prog X.w) X.A X.env X.xe) (hc:X.calm=true) (hi:PI X tg iter wi) (hg:PG X tg g) (hb:PSs X body tb)
  (hs:∀x,foldedSetIterable iter X.env x=pure x:=by intro _;rfl):PS X (.For tg iter body [] pos) (tFor wi g tb):=by
 intro pins s σ H D I h;refine wpAny_For (thn (hi pins s σ H _ I h) λv s1 h1=>thn h1 λitv s2 h2=>?_) hs;obtain⟨it,fp,tn,J,H2,e,I2,T,st2,f2,W,⟨m0,w0⟩,turn⟩:=h2;subst e
 -- what stays true of the iterator's objects through the loop
 have stat:∀{H':Hp},(∀b∈fp,H' b=none)->∀b∈fp,FpOk X pins H' b:=λhn b hb=>⟨hn b hb,(f2 b hb).2⟩;refine codeAny_forLoop_any (λn s'=>∃i σ' H',Inv X pins σ' H' s' /\ tn i s'.heap/\(∀b∈fp,H' b=none)/\W i n σ' H') ?_ m0 ⟨0,σ,H2,I2,st2,λb hb=>(f2 b hb).1,w0⟩;rintro n s3 ⟨i,σ3,H3,I3,st3,fr3,w3⟩;rcases turn i n σ3 H3 w3 with ⟨stop,qn⟩|⟨go,N,hN,step⟩
 ·refine wpAny_passesOwn hp (thn (T.done X rfl rfl rfl hc i pins s3 σ3 H3 X.xe I3 (stat fr3) st3 stop) λr s4 ⟨hr,I4⟩=>?_)
  subst hr;exact wpAny_execs_nil ⟨σ3,H3,I4,qn⟩
 ·refine wpAny_passesOwn hp (thn (T.item X rfl rfl rfl hc i pins s3 σ3 H3 X.xe I3 (stat fr3) st3 go) λr s4 ⟨u,hr,h4⟩=>?_)
  subst hr;refine wpAny_passesOwn hp (thn h4 λ_ s5 ⟨x,H5,I5,r5,y5,st5,fr5⟩=>?_);have I5':=I5.pinned (stat fr5)<|T.obj _ _ st5;refine wpAny_passesOwn hp (thn (hg _ s5 σ3 H5 x u _ I5' r5<|step x H5 y5) λ_ s6 ⟨σ6,H6,I6,q6⟩=>?_);refine wpAny_passesOwn hp (thn (hb _ s6 σ6 H6 _ I6 q6) λf s7 q7=>?_);have again:∀{σ7:St}{H7:Hp},Inv X (pins++pinsAt fp s5.heap) σ7 H7 s7->N σ7 H7->∃m,m<n/\∃i σ' H',Inv X pins σ' H' s7/\tn i s7.heap/\(∀b∈fp,H' b=none)/\W i m σ' H':=λ{σ7 H7} I7 n7=>by
   obtain⟨m',hm,w7⟩:=hN σ7 H7 n7;refine⟨m',hm,i+1,σ7,H7,I7.unpinned,T.keep _ _ _ st5 λb hb o e=>(I7.pin (b,o)<|Wa0 _<|Wa0 _<|Zci hb e).1,λb hb=>?_,w7⟩;obtain⟨o,e,d⟩:=T.obj _ _ st5 b hb;exact(I7.pin (b,o)<|Wa0 _<|Wa0 _<|Zci hb e).2.1
  cases f with
  |next=>obtain⟨σ7,H7,I7,n7⟩:=q7;exact again I7 n7
  |cont=>obtain⟨σ7,H7,I7,n7⟩:=q7;exact again I7 n7
  |brk=>obtain⟨σ7,H7,I7,q7⟩:=q7;exact⟨σ7,H7,I7.unpinned,q7⟩
  |ret v=>obtain⟨x7,σ7,H7,I7,r7,q7⟩:=q7;exact⟨x7,σ7,H7,I7.unpinned,r7,q7⟩
end
end L2
namespace L2
open PySem PySem.Spec PyProof.Rows
abbrev R2:=V->V->Hp->VK->Prop
def OpR (X:Cx) (f:Value->Value->Sem Value) (r:R2):Prop:=
 ∀(pins:List (Addr × Obj)) (s:Shared) (σ:St) (H:Hp) (x y:V) (v u:Value) (Q:VK),Inv X pins σ H s->RelV x v->RelV y u->r x y H Q →
  wpAny (model X.prog X.w) X.A (f v u) (EP X pins σ Q) X.xe s
def CallR (X:Cx) (f:Value) (r:List V->Hp->VK->Prop):Prop:=
 ∀(pins:List (Addr × Obj)) (s:Shared) (σ:St) (H:Hp) (xs:List V) (us:List Value) (Q:VK),Inv X pins σ H s->Vals xs us->r xs H Q →
  wpAny (model X.prog X.w) X.A (call f us) (EP X pins σ Q) X.xe s
def TruR (X:Cx) (r:V->Hp->(Bool->Hp->Prop)->Prop):Prop:=
 ∀(pins:List (Addr × Obj)) (s:Shared) (σ:St) (H:Hp) (x:V) (v:Value) (Q:Bool->Hp->Prop),Inv X pins σ H s->RelV x v->r x H Q →
  wpAny (model X.prog X.w) X.A (truthy v) (TP X pins σ Q) X.xe s
def tOp (r:R2) (ta tb:TE):TE:=λσ H Q=>ta σ H λx H1=>tb σ H1 λy H2=>r x y H2 Q
def tUn (r:V->Hp->VK->Prop) (ta:TE):TE:=λσ H Q=>ta σ H λx H1=>r x H1 Q
def rI (C:Int->Int->Prop) (g:Int->Int->V):R2:=λx y H Q=>∃i j,x=.int i/\y=.int j/\C i j/\Q (g i j) H
def rI0 (g:Int->Int->V):R2:=λx y H Q=>∃i j,x=.int i/\y=.int j/\Q (g i j) H
section
variable {X:Cx}{a b c:Expr}{ta tb tc:TE}{pos:Pos}
theorem binT (ha:PE X a ta) (hb:PE X b tb) {pins:List (Addr × Obj)}{s:Shared}{σ:St}{H:Hp}{R:V->V->Hp->Prop}(I:Inv X pins σ H s)
  (h:ta σ H λx H1=>tb σ H1 λy H2=>R x y H2) {Q:Value->Shared->Prop}{f:Value->Value->Sem Value}
  (hf:∀v u s2 x y H2,Inv X pins σ H2 s2->RelV x v->RelV y u->R x y H2->wpAny (model X.prog X.w) X.A (f v u) Q X.xe s2) :
  wpAny (model X.prog X.w) X.A (eval a X.env) (λv s₁=>wpAny (model X.prog X.w) X.A (eval b X.env) (λu s₂=>wpAny (model X.prog X.w) X.A (f v u) Q X.xe s₂) X.xe s₁) X.xe s:=by
 refine thn (ha pins s σ H _ I h) λv s1 ⟨x,H1,I1,r1,q1⟩=>?_;refine thn (hb pins s1 σ H1 _ I1 q1) λu s2 ⟨y,H2,I2,r2,q2⟩=>?_;exact hf v u s2 x y H2 I2 r1 r2 q2
theorem Zax {op:Operator}{r:R2}(ho:OpR X (binaryOp op) r) (ha:PE X a ta) (hb:PE X b tb):PE X (.BinOp a op b pos) (tOp r ta tb):=by
 intro pins s σ H Q I h;exact wpAny_BinOp (binT ha hb I h λv u s2 x y H2 I2 rx ry q=>ho pins s2 σ H2 x y v u Q I2 rx ry q)
theorem opI {f:Value->Value->Sem Value}{C:Int->Int->Prop}{g:Int->Int->Int}
  (rule:∀(i j:Int) (t u:Tok) (s:Shared) (Q:Value->Shared->Prop) (E:Value->Shared->Prop),C i j->Q (.int (g i j) s.toks) { s with toks:=s.toks+1 } -> wpAny (model X.prog X.w) X.A (f (.int i t) (.int j u)) Q E s) :
  OpR X f (rI C λi j=>.int<|g i j):=by
 intro pins s σ H x y v u Q I rx ry h;obtain⟨i,j,rfl,rfl,hc,q⟩:=h;obtain⟨t,rfl⟩:=rx;obtain⟨t',rfl⟩:=ry;exact rule i j t t' s _ _ hc ⟨.int<|g i j,H,I.tok _,⟨_,rfl⟩,q⟩
theorem opI0 {f:Value->Value->Sem Value}{g:Int->Int->Int}
  (rule:∀(i j:Int) (t u:Tok) (s:Shared) (Q:Value->Shared->Prop) (E:Value->Shared->Prop),Q (.int (g i j) s.toks) { s with toks:=s.toks+1 } -> wpAny (model X.prog X.w) X.A (f (.int i t) (.int j u)) Q E s) :
  OpR X f (rI0 λi j=>.int<|g i j):=by
 intro pins s σ H x y v u Q I rx ry h;obtain⟨i,j,rfl,rfl,q⟩:=h;obtain⟨t,rfl⟩:=rx;obtain⟨t',rfl⟩:=ry;exact rule i j t t' s _ _ ⟨.int<|g i j,H,I.tok _,⟨_,rfl⟩,q⟩
theorem opB0 {f:Value->Value->Sem Value}{g:Int->Int->Bool}
  (rule:∀(i j:Int) (t u:Tok) (s:Shared) (Q:Value->Shared->Prop) (E:Value->Shared->Prop),Q (.bool<|g i j) s->wpAny (model X.prog X.w) X.A (f (.int i t) (.int j u)) Q E s) :
  OpR X f (rI0 λi j=>.bl<|g i j):=by
 intro pins s σ H x y v u Q I rx ry h;obtain⟨i,j,rfl,rfl,q⟩:=h;obtain⟨t,rfl⟩:=rx;obtain⟨t',rfl⟩:=ry;exact rule i j t t' s _ _ ⟨.bl<|g i j,H,I,rfl,q⟩
def CDiv (i j:Int):Prop:=0<j/\j<1073741824
def CPow (i j:Int):Prop:=0<=j/\j<=1000000/\i.natAbs<2 ^ 64
def CMul (i j:Int):Prop:=(-(2 ^ 64)<i/\i<2 ^ 64)\/(-(2 ^ 64)<j/\j<2 ^ 64)
theorem CMul.ok {i j:Int}(h:CMul i j):IntMulOk i j:=by
 rcases h with ⟨h1,h2⟩|⟨h1,h2⟩
 ·exact .of_left<|intBits_le_64 h1 h2
 ·exact .of_right<|intBits_le_64 h1 h2
theorem Zwh:OpR X (binaryOp .Add) (rI0 λi j=>.int<|i+j):=opI0 λ_ _ _ _ _ _ _ q=>add_int q
theorem Zpr:OpR X (binaryOp .Sub) (rI0 λi j=>.int<|i-j):=opI0 λ_ _ _ _ _ _ _ q=>sub_int q
theorem Zcl:OpR X (binaryOp .Mult) (rI CMul λi j=>.int<|i*j):=opI λ_ _ _ _ _ _ _ hc q=>mul_int q hc.ok
theorem Zh7:OpR X (binaryOp .FloorDiv) (rI CDiv λi j=>.int<|i / j):=opI λi j _ _ _ _ _ hc q=>by
 have h1:(0:Int)<j:=hc.1;have h2:j<1073741824:=hc.2;exact floordiv_int (by omega) (by rw[Int.fdiv_eq_ediv_of_nonneg i (by omega)];exact q) (.inl<|PyProof.noPylong_small (by omega))
theorem Zcg:OpR X (binaryOp .Mod) (rI (λ_ j=>0<j) λi j=>.int<|i % j):=opI λi j _ _ _ _ _ hc q=>by
 have h1:(0:Int)<j:=hc;exact mod_int' (by omega) (by rw[Int.fmod_eq_emod_of_nonneg i (by omega)];exact q)
theorem Zwl:OpR X (binaryOp .Pow) (rI CPow λi j=>.int<|i ^ j.toNat):=opI λ_ _ _ _ _ _ _ hc q=>pow_int_small hc.1 hc.2.1 hc.2.2 q
theorem Zwo:OpR X (binaryOp .BitXor) (rI0 λi j=>.int<|Builtin.bitXor i j):=opI0 λ_ _ _ _ _ _ _ q=>xor_int q
end
def scal:V->V->Bool
 |.non,.non=>true|.non,.int _=>true|.int _,.non=>true|.non,.bl _=>true|.bl _,.non=>true|.non,.str _=>true|.str _,.non=>true
 |.int _,.int _=>true|.bl _,.bl _=>true|.str _,.str _=>true|.byt _,.byt _=>true
 |.int _,.str _=>true|.str _,.int _=>true|.bl _,.str _=>true|.str _,.bl _=>true
 |_,_=>false
def rEq:R2:=λx y H Q=>scal x y=true/\Q (.bl<|decide (x=y)) H
def rNe:R2:=λx y H Q=>scal x y=true/\Q (.bl (!decide (x=y))) H
theorem Zid {i j:Int}:decide (V.int i=V.int j)=(i == j):=by
 rw[Wcw];simp
theorem Zsb {i j:Bool}:decide (V.bl i=V.bl j)=(i == j):=by
 rw[Wcw];simp
theorem Zm3 {i j:Str}:decide (V.str i=V.str j)=(i == j):=by
 rw[Wcw];simp
theorem Zpt {i j:Array UInt8}:decide (V.byt i=V.byt j)=(i.toList == j.toList):=by
 rw[Wcw];cases i;cases j;simp
section
variable {X:Cx}{a b c:Expr}{ta tb tc:TE}{pos:Pos}
theorem Zbf {pins:List (Addr × Obj)}{σ:St}{H:Hp}{s:Shared}{Q:VK}{k k':Bool}(I:Inv X pins σ H s) (q:Q (.bl k) H) (e:k=k'):EP X pins σ Q (.bool k') s:=by
 subst e;exact⟨.bl k,H,I,rfl,q⟩
theorem Zxf:OpR X (compareOp .Eq) rEq:=by
 intro pins s σ H x y v u Q I rx ry h;obtain⟨hs,q⟩:=h;cases x with
 |non=>
  cases rx;cases y with
  |non=>cases ry;exact PySem.EqNone.eq_none_none (Zbf I q (by simp))
  |bl j=>cases ry;exact PySem.EqNone.eq_none_bool (Zbf I q (by simp))
  |int j=>obtain⟨t',rfl⟩:=ry;exact PySem.EqNone.eq_none_int (Zbf I q (by simp))
  |str j=>obtain⟨t',rfl⟩:=ry;exact PySem.EqNone.eq_none_str (Zbf I q (by simp))
  |_=>exact absurd (show false=true from hs) Wam
 |bl i=>
  cases rx;cases y with
  |non=>cases ry;exact PySem.EqNone.eq_bool_none (Zbf I q (by simp))
  |bl j=>cases ry;exact eq_bool (Zbf I q Zsb)
  |str j=>obtain⟨t',rfl⟩:=ry;exact PySem.EqMixed.eq_bool_str (Zbf I q (by simp))
  |_=>exact absurd (show false=true from hs) Wam
 |int i=>
  obtain⟨t,rfl⟩:=rx;cases y with
  |non=>cases ry;exact PySem.EqNone.eq_int_none (Zbf I q (by simp))
  |int j=>obtain⟨t',rfl⟩:=ry;exact eq_int (Zbf I q Zid)
  |str j=>obtain⟨t',rfl⟩:=ry;exact PySem.EqMixed.eq_int_str (Zbf I q (by simp))
  |_=>exact absurd (show false=true from hs) Wam
 |str i=>
  obtain⟨t,rfl⟩:=rx;cases y with
  |non=>cases ry;exact PySem.EqNone.eq_str_none (Zbf I q (by simp))
  |bl j=>cases ry;exact PySem.EqMixed.eq_str_bool (Zbf I q (by simp))
  |int j=>obtain⟨t',rfl⟩:=ry;exact PySem.EqMixed.eq_str_int (Zbf I q (by simp))
  |str j=>obtain⟨t',rfl⟩:=ry;exact eq_str (Zbf I q Zm3)
  |_=>exact absurd (show false=true from hs) Wam
 |byt i=>
  obtain⟨t,rfl⟩:=rx;cases y with
  |byt j=>obtain⟨t',rfl⟩:=ry;exact PySem.W.eq_bytes (Zbf I q Zpt)
  |_=>exact absurd (show false=true from hs) Wam
 |_=>cases y <;> exact absurd (show false=true from hs) Wam
theorem Zxc:OpR X (compareOp .NotEq) rNe:=by
 intro pins s σ H x y v u Q I rx ry h;obtain⟨hs,q⟩:=h;cases x with
 |non=>
  cases rx;cases y with
  |non=>cases ry;exact PySem.EqNone.ne_none_none (Zbf I q (by simp))
  |bl j=>cases ry;exact PySem.EqNone.ne_none_bool (Zbf I q (by simp))
  |int j=>obtain⟨t',rfl⟩:=ry;exact PySem.EqNone.ne_none_int (Zbf I q (by simp))
  |str j=>obtain⟨t',rfl⟩:=ry;exact PySem.EqNone.ne_none_str (Zbf I q (by simp))
  |_=>exact absurd (show false=true from hs) Wam
 |bl i=>
  cases rx;cases y with
  |non=>cases ry;exact PySem.EqNone.ne_bool_none (Zbf I q (by simp))
  |bl j=>cases ry;exact ne_bool (Zbf I q (congrArg not Zsb))
  |str j=>obtain⟨t',rfl⟩:=ry;exact PySem.EqMixed.ne_bool_str (Zbf I q (by simp))
  |_=>exact absurd (show false=true from hs) Wam
 |int i=>
  obtain⟨t,rfl⟩:=rx;cases y with
  |non=>cases ry;exact PySem.EqNone.ne_int_none (Zbf I q (by simp))
  |int j=>obtain⟨t',rfl⟩:=ry;exact ne_int (Zbf I q (congrArg not Zid))
  |str j=>obtain⟨t',rfl⟩:=ry;exact PySem.EqMixed.ne_int_str (Zbf I q (by simp))
  |_=>exact absurd (show false=true from hs) Wam
 |str i=>
  obtain⟨t,rfl⟩:=rx;cases y with
  |non=>cases ry;exact PySem.EqNone.ne_str_none (Zbf I q (by simp))
  |bl j=>cases ry;exact PySem.EqMixed.ne_str_bool (Zbf I q (by simp))
  |int j=>obtain⟨t',rfl⟩:=ry;exact PySem.EqMixed.ne_str_int (Zbf I q (by simp))
  |str j=>obtain⟨t',rfl⟩:=ry;exact ne_str (Zbf I q (congrArg not Zm3))
  |_=>exact absurd (show false=true from hs) Wam
 |byt i=>
  obtain⟨t,rfl⟩:=rx;cases y with
  |byt j=>obtain⟨t',rfl⟩:=ry;exact PySem.W.ne_bytes (Zbf I q (congrArg not Zpt))
  |_=>exact absurd (show false=true from hs) Wam
 |_=>cases y <;> exact absurd (show false=true from hs) Wam
theorem Zxg:OpR X (compareOp .Lt) (rI0 λi j=>.bl<|decide (i<j)):=opB0 λ_ _ _ _ _ _ _ q=>lt_int q
theorem Zmm:OpR X (compareOp .Gt) (rI0 λi j=>.bl<|decide (j<i)):=opB0 λ_ _ _ _ _ _ _ q=>gt_int q
theorem Zxb:OpR X (compareOp .GtE) (rI0 λi j=>.bl<|decide (j<=i)):=opB0 λ_ _ _ _ _ _ _ q=>ge_int q
theorem Zw2:OpR X (compareOp .Is) (λx y H Q=>y=.non/\Q (.bl<|decide (x=.non)) H):=by
 intro pins s σ H x y v u Q I rx ry h;obtain⟨rfl,q⟩:=h;cases ry;refine is_none_gen<|Zbf I q ?_;cases x <;> first
  | (cases rx;rfl)
  | (obtain⟨t,rfl⟩:=rx;rfl)
theorem OpR.or {f:Value->Value->Sem Value}{r r':R2}(h:OpR X f r) (h':OpR X f r'):OpR X f (λx y H Q=>r x y H Q\/r' x y H Q):=by
 intro pins s σ H x y v u Q I rx ry q;rcases q with q|q
 ·exact h pins s σ H x y v u Q I rx ry q
 ·exact h' pins s σ H x y v u Q I rx ry q
theorem nomark (b:Expr) {op:CmpOp}(h:op≠.In:=by decide) (h2:op≠.NotIn:=by decide):behindInMarks op b=false:=by
 have e1:(op == CmpOp.In)=false:=by cases op <;> first|rfl|exact absurd rfl h
 have e2:(op == CmpOp.NotIn)=false:=by cases op <;> first|rfl|exact absurd rfl h2
 cases b <;> simp[behindInMarks,e1,e2]
theorem Zis {op:CmpOp}{r:R2}(ho:OpR X (compareOp op) r) (ha:PE X a ta) (hb:PE X b tb) (hm:behindInMarks op b=false):PE X (.Compare a [op] [b] pos) (tOp r ta tb):=by
 intro pins s σ H Q I h;exact wpAny_Compare1 (binT ha hb I h λv u s2 x y H2 I2 rx ry q=>ho pins s2 σ H2 x y v u Q I2 rx ry q) hm
def tTest (t:TE):TT:=λσ H Q=>t σ H λx H'=>∃k,x=.bl k/\Q k H'
theorem Zao {op:CmpOp}{r:R2}(ho:OpR X (compareOp op) r) (ha:PE X a ta) (hb:PE X b tb) (hm:behindInMarks op b=false):PT X (.Compare a [op] [b] pos) (tTest<|tOp r ta tb):=by
 intro pins s σ H Q I h;refine wpAny_isTrue_Compare1 (thn (ha pins s σ H _ I h) λv s1 ⟨x,H1,I1,r1,q1⟩=>thn (hb pins s1 σ H1 _ I1 q1) λu s2 ⟨y,H2,I2,r2,q2⟩=>
  thn (ho pins s2 σ H2 x y v u _ I2 r1 r2 q2) λc s3 ⟨z,H3,I3,r3,k,e,q3⟩=>?_) hm
 subst e;cases r3;exact wpAny_truthy_bool ⟨H3,I3,q3⟩
def TruV (K:W.Frag) (x:V) (H:Hp) (k:Bool):Prop:=
 match x with
 |.non=>k=false
 |.bl b=>k=b
 |.int i=>k=(i != 0)
 |.str y=>y.length<=sizeLine/\k=((y.length:Int) != 0)
 |.byt y=>y.size<=sizeLine/\k=((y.size:Int) != 0)
 |.ref p=>(∃xs,SqL K H p xs/\k = !xs.isEmpty)\/(∃xs,SqT K H p xs/\k = !xs.isEmpty)\/∃kvs,H p=some (.dK kvs)/\k = !kvs.isEmpty
 |_=>False
theorem Zmz {κ:Type}{kvs:List (κ × V)}{vs:List (κ × Value)}(r:KV kvs vs):(!vs.isEmpty) = !kvs.isEmpty:=by
 cases r <;> rfl
theorem Zhw {xs:List V}{its:List Value}(r:Vals xs its):(!its.toArray.isEmpty) = !xs.isEmpty:=by
 cases r <;> simp
theorem line63:(sizeLine:Nat)<2 ^ 63:=by rw[sizeLine_eq];decide
theorem Zwx:TruR X (λx H Q=>∃k,TruV X.K x H k/\Q k H):=by
 intro pins s σ H x v Q I rx h;obtain⟨k,e,q⟩:=h;have hl:=line63;have hs:sizeLine=16777216:=sizeLine_eq;cases x with
 |non=>
  cases rx;have e':k=false:=e;subst e';exact truthy_none ⟨H,I,q⟩
 |bl b=>
  cases rx;have e':k=b:=e;subst e';exact wpAny_truthy_bool ⟨H,I,q⟩
 |int i=>
  obtain⟨t,rfl⟩:=rx;have e':k=(i != 0):=e;subst e';exact PySem.P.truthy_int ⟨H,I,q⟩
 |str y=>
  obtain⟨t,rfl⟩:=rx;obtain⟨hy,e'⟩:y.length<=sizeLine/\k=((y.length:Int) != 0):=e;subst e';exact PySem.P.truthy_str (by omega) ⟨H,I.tok _,q⟩
 |byt y=>
  obtain⟨t,rfl⟩:=rx;obtain⟨hy,e'⟩:y.size<=sizeLine/\k=((y.size:Int) != 0):=e;subst e';exact PySem.W.truthy_bytes (by omega) ⟨H,I.tok _,q⟩
 |ref p=>
  cases rx;have e':(∃xs,SqL X.K H p xs/\k = !xs.isEmpty)\/(∃xs,SqT X.K H p xs/\k = !xs.isEmpty)\/∃kvs,H p=some (.dK kvs)/\k = !kvs.isEmpty:=e;rcases e' with ⟨xs,hx,e'⟩|⟨xs,hx,e'⟩|⟨kvs,hx,e'⟩
  ·subst e'
   obtain⟨its,r,pl,hz⟩:=I.list hx;have hlen:=r.length;exact wpAny_truthy_list pl.isList (by simp only[Wah];omega) ⟨H,I.tok _,by rw[Zhw r];exact q⟩
  ·subst e'
   obtain⟨its,r,pl,hz⟩:=I.tuple hx;have hlen:=r.length;exact truthy_tuple pl (by simp only[Wah];omega) ⟨H,I.tok _,by rw[Zhw r];exact q⟩
  ·subst e'
   obtain⟨hz,hS,vs,r,m⟩:kvs.length<=sizeLine/\(p == sysModules)=false/\∃vs,KV kvs vs/\s.heap.DictOf (mixKind X.prog X.w) p vs:=I.hok p _ hx;have hlen:kvs.length=vs.length:=Paired.length r;exact wpAny_truthy_dict hS m (by omega) ⟨H,I.tok _,by rw[Zmz r];exact q⟩
 |_=>exact(show False from e).elim
theorem Zqw (ha:PE X a ta) (he:∀whole,isTrue a X.env whole=(do let v ← whole;standAt a.pos;holding [v] (truthy v))) :
  PT X a (λσ H Q=>ta σ H λx H'=>∃k,TruV X.K x H' k/\Q k H'):=by
 intro pins s σ H Q I h;exact isTrue_plain (thn (ha pins s σ H _ I h) λv s1 ⟨x,H1,I1,r1,q1⟩=>Zwx pins s1 σ H1 x v Q I1 r1 q1)<|he _
theorem vals1 {x:V}{us:List Value}(r:Vals [x] us):∃u,us=[u]/\RelV x u:=by
 cases r with
 |cons r1 r2=>cases r2;exact⟨_,rfl,r1⟩
theorem vals2 {x y:V}{us:List Value}(r:Vals [x,y] us):∃u w',us=[u,w']/\RelV x u/\RelV y w':=by
 cases r with
 |cons r1 r2=>
  cases r2 with
  |cons r3 r4=>cases r4;exact⟨_,_,rfl,r1,r3⟩
theorem Zit:CallR X (.builtin "abs") (λxs H Q=>∃i,xs=[.int i]/\Q (.int (if i<0 then -i else i)) H):=by
 intro pins s σ H xs us Q I r h;obtain⟨i,rfl,q⟩:=h;obtain⟨u,rfl,t,rfl⟩:=vals1 r;exact call_abs_int λu tk=>⟨.int (if i<0 then -i else i),H,I.tok _,⟨_,rfl⟩,q⟩
theorem Zjb (hc:X.calm=true):CallR X (.builtin "max") (λxs H Q=>∃i j,xs=[.int i,.int j]/\Q (.int (if j > i then j else i)) H):=by
 intro pins s σ H xs us Q I r h;obtain⟨i,j,rfl,q⟩:=h;obtain⟨u,w',rfl,⟨t,rfl⟩,⟨t',rfl⟩⟩:=vals2 r;refine max_two_ints (I.ok.hd hc) λh' tk k=>⟨_,H,I.kept k,?_,q⟩;by_cases hj:j > i
 ·rw[if_pos hj,if_pos hj];exact⟨_,rfl⟩
 ·rw[if_neg hj,if_neg hj];exact⟨_,rfl⟩
theorem Zjm (hc:X.calm=true):CallR X (.builtin "min") (λxs H Q=>∃i j,xs=[.int i,.int j]/\Q (.int (if j<i then j else i)) H):=by
 intro pins s σ H xs us Q I r h;obtain⟨i,j,rfl,q⟩:=h;obtain⟨u,w',rfl,⟨t,rfl⟩,⟨t',rfl⟩⟩:=vals2 r;refine min_two_ints (I.ok.hd hc) λh' tk k=>⟨_,H,I.kept k,?_,q⟩;by_cases hj:j<i
 ·rw[if_pos hj,if_pos hj];exact⟨_,rfl⟩
 ·rw[if_neg hj,if_neg hj];exact⟨_,rfl⟩
end
end L2
namespace L2
open PySem PySem.Spec PyProof.Rows
structure ObjM (h:Heap) (x dx C:Addr) (mA:Str->Option Value):Prop where
 obj:h.get? x=some (PySem.W.instObj C dx)
 ns:h.Ns1 dx mA
 ne:dx≠x
theorem Zn4 {h:Heap}{dx:Addr}{mA:Str->Option Value}(n:h.Ns1 dx mA):∃od,h.get? dx=some od/\∀name,PySem.W.lookIn name od=some (mA name):=by
 obtain⟨o,es,ep,ho,hd,hk,_,hm⟩:=n;refine⟨o,ho,λname=>?_⟩;have e:=hm name;unfold nsFind findBy at e;rw[<- Array.find?_toList]at e;unfold PySem.W.lookIn;rw[hd];dsimp only;split
 ·rename_i y q
  rw[q]at e;exact congrArg some e
 ·rename_i q
  rw[q]at e;have a:es.toList.any (·.refKey)=false:=by
   rw[List.any_eq_false];intro y hy;obtain⟨z,t,hkey⟩:=hk y<|Array.mem_toList_iff.mp hy;simp[DictEntry.refKey,hkey]
  have a':¬ es.toList.any (·.refKey)=true:=by rw[a];exact Wam
  rw[if_neg a'];exact congrArg some e
theorem ObjM.look {h:Heap}{x dx C:Addr}{mA:Str->Option Value}(I:ObjM h x dx C mA):∃od,PySem.W.InstAt h x (PySem.W.instObj C dx) C (some od)/\∀name,PySem.W.lookIn name od=some (mA name):=
 let ⟨od,ho,hl⟩:=Zn4 I.ns
 ⟨od,⟨I.obj,rfl,rfl,ho⟩,hl⟩
theorem RelO.some_of {v:V}{o:Option Value}(r:RelO (some v) o):∃u,o=some u/\RelV v u:=by
 cases o with
 |none=>exact(show False from r).elim
 |some u=>exact⟨u,rfl,r⟩
section
variable {P:Program}{w:World}{H H':Hp}{h h':Heap}{a C dx:Addr}{fs fs':List (Str × V)}
theorem Zuk (hok:HOk P w H h) (e:H a=some (.ins C dx fs)):∃mA,ObjM h a dx C mA/\(∀f,RelO (fs.lookup f) (mA f))/\PySem.Within mA (fs.map (·.1))/\fs.length<=1000/\H dx=some (.own a):=by
 obtain⟨d,z,ne,ob,mA,n,r,q⟩:=(show ObjOk P w H h a (.ins C dx fs) from hok a _ e);exact⟨mA,⟨ob,n,ne⟩,r,q,z,d⟩
end
structure Cls (K:W.Frag) (C:Addr):Prop where
 pg:PySem.W.plainGet K C Str.empty=true
 hd:PySem.W.hasDictIn K C=true
 po:PySem.W.plainOver K C=true
 sa:PySem.W.findIn K (.ref C) "__setattr__" = some (some (.builtin "object.__setattr__"))
theorem Cls.get {K:W.Frag}{C:Addr}(c:Cls K C) (f:Str):PySem.W.plainGet K C f=true:=c.pg
section
variable {X:Cx}{pins:List (Addr × Obj)}{σ:St}{H:Hp}{s:Shared}{a C dx:Addr}{fs:List (Str × V)}{f:Str}{v:V}{A:Around}{E:Value->Shared->Prop}
end
section
variable {X:Cx}{pins:List (Addr × Obj)}{σ:St}{H:Hp}{s:Shared}{A:Around}{E:Value->Shared->Prop}{Q:Value->Shared->Prop}{c:Value}{b:Bool}
inductive TyOf (K:W.Frag) (H:Hp):V->Value->Prop where
 |non:TyOf K H .non (.type "NoneType")
 |bl (x:Bool):TyOf K H (.bl x) (.type "bool")
 |int (i:Int):TyOf K H (.int i) (.type "int")
 |str (x:Str):TyOf K H (.str x) (.type "str")
 |flt (x:UInt64):TyOf K H (.flt x) (.type "float")
 |lst {a:Addr}{xs:List V}(e:H a=some (.lst xs)):TyOf K H (.ref a) (.type "list")
 |frz {a:Addr}{o:Obj}{xs:List V}(e:H a=some (.frz o (.lst xs))):TyOf K H (.ref a) (.type "list")
 |tup {a:Addr}{xs:List V}(e:H a=some (.tup xs)):TyOf K H (.ref a) (.type "tuple")
 |dK {a:Addr}{kvs:List (Key × V)}(e:H a=some (.dK kvs)):TyOf K H (.ref a) (.type "dict")
 |dT {a:Addr}{kvs:List (List Key × V)}(e:H a=some (.dT kvs)):TyOf K H (.ref a) (.type "dict")
 |ins {a C dx:Addr}{fs:List (Str × V)}(e:H a=some (.ins C dx fs)) (cl:Cls K C) (ha:PySem.W.findIn K (.ref C) "__class__" = some (some (.builtin "object.__class__")))
   (hn:PySem.W.specialIn K (.builtin "object.__class__") "__get__" = some (some (.builtin "getset_descriptor.__get__"))) (htk:PySem.W.takesIn K (.builtin "object.__class__")=some true)
   (hm:PySem.W.mroIn K C (.type "object")=some true):TyOf K H (.ref a) (.ref C)
theorem Zol {x:V}{u t:Value}(I:Inv X pins σ H s) (rx:RelV x u) (ty:TyOf X.K H x t) (e:PySem.W.kitOne X.K t c=some b) (h:∀tk,Q (.bool b) { s with toks:=tk }) :
  wpAny (model X.prog X.w) A (call (.builtin "isinstance") [u,c]) Q E s:=by
 cases ty with
 |non=>cases (show u=Value.none from rx);exact PySem.W.kia_one PySem.W.kitx_none I.kIn True.intro e (λz=>nomatch z) h
 |bl y=>cases (show u=Value.bool y from rx);exact PySem.W.kia_one PySem.W.kitx_bool I.kIn True.intro e (λz=>nomatch z) h
 |int i=>obtain⟨t,q⟩:=(show ∃t,u=Value.int i t from rx);cases q;exact PySem.W.kia_one PySem.W.kitx_int I.kIn True.intro e (λz=>nomatch z) h
 |str y=>obtain⟨t,q⟩:=(show ∃t,u=Value.str y t from rx);cases q;exact PySem.W.kia_one PySem.W.kitx_str I.kIn True.intro e (λz=>nomatch z) h
 |flt y=>obtain⟨t,q⟩:=(show ∃t,u=Value.float y t from rx);cases q;exact PySem.W.kia_one PySem.W.kitx_float I.kIn True.intro e (λz=>nomatch z) h
 |@lst a xs ea=>
  cases (show u=Value.ref a from rx);obtain⟨_,_,n,_,h1⟩:=(show ObjOk X.prog X.w H s.heap a (.lst xs) from I.hok a _ ea);exact PySem.W.kia_one PySem.W.kitx_list I.kIn ⟨_,h1,rfl⟩ e (λz=>nomatch z) h
 |@frz a ob xs ea=>
  cases (show u=Value.ref a from rx);obtain⟨_,_,_,n,_,h1⟩:=(show ObjOk X.prog X.w H s.heap a (.frz ob (.lst xs)) from I.hok a _ ea);exact PySem.W.kia_one PySem.W.kitx_list I.kIn ⟨_,h1,rfl⟩ e (λz=>nomatch z) h
 |@tup a xs ea=>
  cases (show u=Value.ref a from rx);obtain⟨_,_,_,p⟩:=(show ObjOk X.prog X.w H s.heap a (.tup xs) from I.hok a _ ea);obtain⟨o,h1,⟨h2,_⟩,_⟩:=p;exact PySem.W.kia_one PySem.W.kitx_tuple I.kIn ⟨o,h1,h2⟩ e (λz=>nomatch z) h
 |@dK a kvs ea=>
  cases (show u=Value.ref a from rx);obtain⟨_,_,vs,_,p⟩:=(show ObjOk X.prog X.w H s.heap a (.dK kvs) from I.hok a _ ea);obtain⟨o,es,ep,h1,h2,_⟩:=p;exact PySem.W.kia_one PySem.W.kitx_dict I.kIn ⟨o,h1,h2.1⟩ e (λz=>nomatch z) h
 |@dT a kvs ea=>
  cases (show u=Value.ref a from rx);obtain⟨_,_,xs,_,o,es,ep,h1,h2,_⟩:=(show ObjOk X.prog X.w H s.heap a (.dT kvs) from I.hok a _ ea);exact PySem.W.kia_one PySem.W.kitx_dict I.kIn ⟨o,h1,h2.1⟩ e (λz=>nomatch z) h
 |@ins a C dx fs ea cl ha hn htk hm=>
  cases (show u=Value.ref a from rx);obtain⟨mA,O,_⟩:=Zuk I.hok ea;obtain⟨od,J,_⟩:=O.look;exact PySem.W.kia_one (PySem.W.kitx_own (cl.get _) cl.hd ha hn htk hm) I.kIn J e (λz=>nomatch z) h
end
end L2
namespace L2
open PySem PySem.Spec PyProof.Rows
structure Room (k:Nat) (A:Around):Prop where
 hd:A.handled=none
 dp:A.depth+3*k+5<recursionLimit
 un:A.units+16*k+200<cLine
 gd:A.guards=some []
theorem Room.mono {j k:Nat}{A:Around}(r:Room k A) (h:j<=k):Room j A:=⟨r.hd,by have:=r.dp;omega,by have:=r.un;omega,r.gd⟩
theorem Room.deeper {k:Nat}{A:Around}(r:Room (k+1) A) (env:Env):Room k (A.deeper env):=
 ⟨r.hd,by have:=r.dp;show A.depth+1+3*k+5<_;omega,by have:=r.un;show A.units+3+16*k+200<_;omega,r.gd⟩
theorem Room.depth {k:Nat}{A:Around}(r:Room k A):A.depth<recursionLimit:=by have:=r.dp;omega
theorem Room.units {k:Nat}{A:Around}(r:Room k A):A.units+64<cLine:=by have:=r.un;omega
def tNil:TA:=λ_ H Q=>Q [] H
def tCons (ta:TE) (tr:TA):TA:=λσ H Q=>ta σ H λx H1=>tr σ H1 λxs H2=>Q (x::xs) H2
section
variable {X:Cx}{e:Expr}{es:List Expr}{te:TE}{t:TA}{pos:Pos}
theorem Zad:PA X [] tNil:=λ_ _ _ _ H Q I h=>Calls.spliced_nil ⟨[],H,I,.nil,h⟩
theorem Zaa (ha:PE X e te) (hr:PA X es t) (hs:starEach (e::es) X.env=(false,eval e X.env)::starEach es X.env:=by rfl):PA X (e::es) (tCons te t):=by
 intro pos pins s σ H Q I h;rw[hs];show wpAny _ _ (spliced ((false,eval e X.env)::backTo pos (starEach es X.env))) _ _ s;refine Calls.spliced_cons (thn (ha pins s σ H _ I h) λu s1 ⟨x,H1,I1,r1,q1⟩=>?_);exact thn (hr pos pins s1 σ H1 _ I1 q1) λus s2 ⟨xs,H2,I2,r2,q2⟩=>⟨x::xs,H2,I2,.cons r1 r2,q2⟩
def tTup (t:TA):TE:=λσ H Q=>t σ H λxs H1=>xs.length<=sizeLine/\∀p,H1 p=none->Q (.ref p) (upd H1 p (.tup xs))
def tLst (t:TA):TE:=λσ H Q=>t σ H λxs H1=>xs.length<=sizeLine/\∀p,H1 p=none->Q (.ref p) (upd H1 p (.lst xs))
theorem Zbq {x1} (h:PA X es t):PE X (.Tuple es x1 pos) (tTup t):=by
 intro pins s σ H Q I hq;refine wpAny_Tuple_spliced (thn (h pos pins s σ H _ I hq) λus s1 ⟨xs,H1,I1,r,z,q⟩=>⟨by rw[<- r.length];exact z,?_⟩);have hf:H1 s1.heap.objs.size=none:=I1.hok.fresh<|Wak _;refine⟨.ref s1.heap.objs.size,upd H1 s1.heap.objs.size (.tup xs),I1.laid (t':=s1.toks) (λb u e=>Wac _ e) (Wak _) ?_,rfl,q _ hf⟩;exact⟨z,us,r,⟨_,Wao _ rfl,⟨rfl,_,rfl⟩,rfl⟩⟩
theorem Zc9 (h:PA X es t):PE X (.List es pos) (tLst t):=by
 intro pins s σ H Q I hq;refine wpAny_List_spliced (thn (h pos pins s σ H _ I hq) λus s1 ⟨xs,H1,I1,r,z,q⟩=>⟨by rw[<- r.length];exact z,?_⟩);have hf:H1 s1.heap.objs.size=none:=I1.hok.fresh<|Wak _;refine⟨.ref s1.heap.objs.size,upd H1 s1.heap.objs.size (.lst xs),I1.laid (t':=s1.toks) (λb u e=>Wac _ e) (Wak _) ?_,rfl,q _ hf⟩;exact⟨z,us,0,r,Wao _ rfl⟩
end
abbrev Sp:=List V->Hp->VK->XK->Prop
abbrev CXT:=List Env->Hp->Shared->XK->Value->Shared->Prop
structure Env0 (P:Program) (w:World) (K:W.Frag) (mg:Str->Option Value) (base:Heap) (A:Around) (outer:List Env) (s:Shared) (H:Hp):Prop where
 frames:A.frames=some outer
 mod:Mod K mg base
 bs:∀b o,base.get? b=some o->s.heap.get? b=some o/\H b=none
 bsz:base.objs.size<=s.heap.objs.size
 funs:s.heap.FunFrames base outer
 frf:∀b∈frs outer,H b=none
 hok:HOk P w H s.heap
 bare:AllBare s.gens
def CE (outer:List Env) (P:Program) (w:World) (H:Hp) (s:Shared) (Q:VK) (u:Value) (s':Shared):Prop:=
 ∃v H',s'.os=s.os/\AllBare s'.gens/\Un (frs outer) [] H H' s.heap s'.heap/\HOk P w H' s'.heap/\RelV v u/\Q v H'
def CR (CX:CXT) (outer:List Env) (P:Program) (w:World) (H:Hp) (s:Shared) (Q:VK) (E:XK) (r:Result) (s':Shared):Prop:=
 match r with
 |.ok (.ret u)=>CE outer P w H s Q u s'
 |.ok _=>False
 |.error e=>CX outer H s E e s'
structure FnOk (P:Program) (w:World) (K:W.Frag) (mg:Str->Option Value) (base:Heap) (CX:CXT) (k:Nat) (f:Addr) (fd:FuncData) (ps:List Str) (sp:Sp):Prop where
 len:∀vs H Q E,sp vs H Q E->vs.length=ps.length
 run:∀(A:Around) (outer:List Env) (s:Shared) (H:Hp) (args:Args) (us:List Value) (vs:List V) (Q:VK) (E:XK),Room k A->Env0 P w K mg base A outer s H->BindsTo s fd args (ps.zip us)->Vals vs us->sp vs H Q E →
  codeAny (model P w) A (.call (.ref f) args) (CR CX outer P w H s Q E) s
theorem FnOk.imp {P:Program}{w:World}{K:W.Frag}{mg:Str->Option Value}{base:Heap}{CX:CXT}{k:Nat}{f:Addr}{fd:FuncData}{ps:List Str}{sp sp':Sp}(F:FnOk P w K mg base CX k f fd ps sp)
  (h:∀vs H Q E,sp' vs H Q E->sp vs H Q E):FnOk P w K mg base CX k f fd ps sp':=
 ⟨λvs H Q E q=>F.len vs H Q E<|h _ _ _ _ q,λA outer s H args us vs Q E hr he hb hv hs=>F.run A outer s H args us vs Q E hr he hb hv<|h _ _ _ _ hs⟩
section
variable {X:Cx}{pins:List (Addr × Obj)}{σ:St}{H:Hp}{s s':Shared}
theorem Inv.env0 (I:Inv X pins σ H s):Env0 X.prog X.w X.K X.mg X.base X.A X.stack s H:=
 ⟨I.ok.frames,I.ok.mod,I.bs,Wby I.ok.bsz I.sz,I.stack,I.stkFree,I.hok,I.bare⟩
theorem Inv.after {Q:VK}{u:Value}(I:Inv X pins σ H s) (h:CE X.stack X.prog X.w H s Q u s'):EP X pins σ Q u s':=by
 obtain⟨v,H',os,bare,un,hok,r,q⟩:=h;obtain⟨hh,g,d,t,os'⟩:=s';obtain rfl:os'=s.os:=os;exact⟨v,H',I.call (h':=hh) (g':=g) (d':=d) (t':=t) (ch:=[]) un hok bare (λb z=>absurd z<|by simp),r,q⟩
end
def tCall (sp:Sp) (dvs:List V) (E:XK) (t:TA):TE:=λσ H Q=>t σ H λvs H1=>sp (vs++dvs) H1 Q E
def Binds (K:W.Frag) (fd:FuncData) (ps:List Str) (ds:List Value):Prop:=
 ∀(s:Shared) (us:List Value),K.In s.heap->(us++ds).length=ps.length->BindsTo s fd ⟨us,[]⟩ (ps.zip<|us++ds)
theorem Binds.all {K:W.Frag}{fd:FuncData}{ps:List Str}(h:∀us:List Value,us.length=ps.length->bindArgs fd ⟨us,[]⟩=pure (ps.zip us)):Binds K fd ps []:=λs us _ hl=>by
 rw[Wa3]at hl ⊢;exact .of_eq<|h us hl
def Passes (CX:CXT) (X:Cx) (E:XK):Prop:=∀(pins:List (Addr × Obj)) (σ:St) (H:Hp) (s:Shared) (e:Value) (s':Shared),Inv X pins σ H s->CX X.stack H s E e s' -> X.xe e s'
section
variable {X:Cx}{CX:CXT}{k:Nat}{f C:Addr}{fd:FuncData}{ps:List Str}{sp:Sp}{dvs:List V}{ds:List Value}{E:XK}{x m:Str}{p pos apos:Pos}{e o:Expr}{es:List Expr}{ta:TE}{t:TA}
theorem Zvm {pins:List (Addr × Obj)}{σ:St}{H:Hp}{s:Shared}{Q:VK}{us:List Value}{vs:List V}(F:FnOk X.prog X.w X.K X.mg X.base CX k f fd ps sp) (hr:Room k X.A) (hb:Binds X.K fd ps ds) (hd:Vals dvs ds) (hx:Passes CX X E)
  (I:Inv X pins σ H s) (r:Vals vs us) (h:sp (vs++dvs) H Q E):wpAny (model X.prog X.w) X.A (call (.ref f) us) (EP X pins σ Q) X.xe s:=by
 have r2:Vals (vs++dvs) (us++ds):=r.append hd;have hl:(us++ds).length=ps.length:=by rw[<- r2.length];exact F.len _ _ _ _ h
 refine wpAny_call (codeAny_mono (F.run X.A X.stack s H ⟨us,[]⟩ (us++ds) (vs++dvs) Q E hr I.env0 (hb s us I.kIn hl) r2 h) λr s' hq=>?_);cases r with
 |error e=>exact hx pins σ H s e s' I hq
 |ok fl=>
  cases fl with
  |ret u=>exact I.after hq
  |next=>exact False.elim hq
  |brk=>exact False.elim hq
  |cont=>exact False.elim hq
theorem Zoq (F:FnOk X.prog X.w X.K X.mg X.base CX k f fd ps sp) (hr:Room k X.A) (hg:Gl X x) (hm:X.mg x=some (.ref f)) (hk:W.keepIn X.K (.ref f)=true) (hb:Binds X.K fd ps ds) (hd:Vals dvs ds) (hx:Passes CX X E)
  (ha:PA X (e::es) t) (hdb:(x == ("__debug__":Str))=false:=by decide) (he:starEach (e::es) X.env=(false,eval e X.env)::starEach es X.env:=by rfl) (hpl:(backTo pos<|starEach es X.env).any (·.1)=false:=by rfl) :
  PE X (.Call (.Name x p) (e::es) [] pos) (tCall sp dvs E t):=by
 intro pins s σ H Q I h;refine wpAny_Call_Name_kw<|Zfz I hg hm ?_ hdb;refine PySem.W.callWith_K (h₀:=X.base) I.ok.mod.kin hk (thn (ha pos pins s σ H _ I h) λus s1 ⟨vs,H1,I1,r,q⟩=>⟨I1.kIn,?_⟩) he hpl;exact Zvm F hr hb hd hx I1 r q
end
section
variable {X:Cx}{CX:CXT}{k:Nat}{f C:Addr}{fd:FuncData}{ps ks:List Str}{sp:Sp}{E:XK}{x m:Str}{p pos apos kpos:Pos}{e o:Expr}{es:List Expr}{kws:List Keyword}{te ta:TE}{t tk:TA}{nm:Option Str}
variable {g:List Value->List Value->List Value}{gV:List V->List V->List V}
end
structure FnScope (N P:List Str) (sc:Scope):Prop where
 kind:sc.kind=.function
 co:sc.isCoroutine=false
 gen:sc.isGenerator=false
 nd:N.Nodup
 pre:N.take P.length=P
 par:∀x∈P,sc.names.lookup x=some .local\/sc.names.lookup x=some .cell
 nofree:∀y∈sc.names,y.2≠.free
theorem Zj4 {kindOf:Str->Option NameKind}{x:Str}:∀{binds:List (Str × Value)}{m:Str->Option Value},(∀v,(x,v) ∉ binds)->bindL kindOf binds m x=m x
 |[],_,_=>rfl
 | (n,v)::r,m,h=>by
  unfold bindL;rw[Zj4 λw hw=>h w (Way _ hw)];split
  ·have:x≠n:=by rintro rfl;exact h v Wat
   simp[this]
  ·rfl
theorem Zjv {kindOf:Str->Option NameKind}{x:Str}:∀{binds:List (Str × Value)}{m:Str->Option Value},(∀v,(x,v) ∉ binds)->bindC kindOf binds m x=m x
 |[],_,_=>rfl
 | (n,v)::r,m,h=>by
  unfold bindC;rw[Zjv λw hw=>h w (Way _ hw)];split
  ·rfl
  ·have:x≠n:=by rintro rfl;exact h v Wat
   simp[this]
theorem Zjd {kindOf:Str->Option NameKind}{x:Str}{v:Value}:∀{P:List Str}{vs:List Value}{i:Nat}{m:Str->Option Value},P.Nodup->P[i]?=some x->vs[i]?=some v->kindOf x=some .local →
  bindL kindOf (P.zip vs) m x=some v
 |[],_,_,_,_,h,_,_=>by simp at h
 |_::_,[],_,_,_,_,h,_=>by simp at h
 |p::P,w::vs,0,m,nd,h1,h2,hk=>by
  simp at h1 h2;subst h1;subst h2;show bindL kindOf ((p,w)::P.zip vs) m p=_;unfold bindL;rw[Zj4 λv hv=>(Wcg.mp nd).1 (List.of_mem_zip hv).1,if_pos hk];simp
 |p::P,w::vs,i+1,m,nd,h1,h2,hk=>by
  show bindL kindOf ((p,w)::P.zip vs) m x=_;unfold bindL;exact Zjd (i:=i) (Wcg.mp nd).2 (by simpa using h1) (by simpa using h2) hk
theorem Ziw {kindOf:Str->Option NameKind}{x:Str}{v:Value}:∀{P:List Str}{vs:List Value}{i:Nat}{m:Str->Option Value},P.Nodup->P[i]?=some x->vs[i]?=some v->kindOf x≠some .local →
  bindC kindOf (P.zip vs) m x=some v
 |[],_,_,_,_,h,_,_=>by simp at h
 |_::_,[],_,_,_,_,h,_=>by simp at h
 |p::P,w::vs,0,m,nd,h1,h2,hk=>by
  simp at h1 h2;subst h1;subst h2;show bindC kindOf ((p,w)::P.zip vs) m p=_;unfold bindC;rw[Zjv λv hv=>(Wcg.mp nd).1 (List.of_mem_zip hv).1,if_neg hk];simp
 |p::P,w::vs,i+1,m,nd,h1,h2,hk=>by
  show bindC kindOf ((p,w)::P.zip vs) m x=_;unfold bindC;exact Ziw (i:=i) (Wcg.mp nd).2 (by simpa using h1) (by simpa using h2) hk
def start (N:List Str) (vs:List V):St:=vs.map some++Wae (N.length-vs.length) none
def cxOf (CX:CXT) (P:Program) (w:World) (K:W.Frag) (mg:Str->Option Value) (base:Heap) (N:List Str) (qual:Str) (scope:Scope) (f:Addr) (cd:Value) (A:Around) (outer:List Env) (s:Shared) (H:Hp) (E:XK):Cx where
 prog:=P
 w:=w
 K:=K
 mg:=mg
 base:=base
 A:=A.deeper<|envOfC qual scope s.heap.objs.size f cd
 N:=N
 s₀:=s
 H₀:=H
 env:=envOfC qual scope s.heap.objs.size f cd
 outer:=outer
 stack:=envOfC qual scope s.heap.objs.size f cd::outer
 ex:=[]
 calm:=true
 fn:=λ_=>true
 pn:=[]
 xe:=λe s'=>wpAny (model P w) (A.deeper<|envOfC qual scope s.heap.objs.size f cd) (leaving (envOfC qual scope s.heap.objs.size f cd) e) (λ_ s''=>CX outer H s E e s'') (λe' s''=>CX outer H s E e' s'') s'
theorem Zkx {sc:Scope}{n:Nat}{x:Str}(h:sc.names.lookup x=some .cell):∃c,(cellsFrom n sc.names []).lookup x=some c:=by
 have q:=PySem.W.cellsFrom_some sc.names n [] (.inl h);exact Option.isSome_iff_exists.mp q
theorem Zou {CX:CXT}{P:Program}{w:World}{K:W.Frag}{mg:Str->Option Value}{base:Heap}{N ps:List Str}{qual:Str}{scope:Scope}{f:Addr}{cd:Value}{A:Around}{outer:List Env}{s s1:Shared}{H:Hp}{E:XK}{us:List Value}{vs:List V}
  (S:FnScope N ps scope) (hd:A.handled=none) (e0:Env0 P w K mg base A outer s H) (hl:vs.length=ps.length) (r:Vals vs us)
  (x:InCallC s s.heap.objs.size (bindL (envOfC qual scope s.heap.objs.size f cd).kindOf (ps.zip us) λ_=>none) (cellsFrom (s.heap.objs.size+1) scope.names []) (bindC (envOfC qual scope s.heap.objs.size f cd).kindOf (ps.zip us) λ_=>none) s1) :
  Inv (cxOf CX P w K mg base N qual scope f cd A outer s H E) [] (start N vs) H s1:=by
 have hpl:ps.length<=N.length:=by have:=congrArg Wa9 S.pre;rw[Wbk]at this;omega
 obtain⟨h1,tk,rfl,hk⟩:=x.done;have noA:∀b:Addr,b ∉ (cxOf CX P w K mg base N qual scope f cd A outer s H E).ex:=λb z=>absurd (show b∈([]:List Addr) from z) (by simp);refine⟨⟨e0.mod,S.kind,rfl,rfl,Wak _,λy z c h1 h2=>?_,λy hy=>?_,λy c _ h=>?_,λ_=>hd,Around.frames_deeper e0.frames,.inr ⟨rfl,rfl⟩,λb z=>absurd z (noA b),e0.bs,e0.bsz,λb _ _=>noA b,λb z=>absurd z (noA b),e0.funs,e0.frf⟩,
  rfl,e0.bare,Un.kept hk,⟨_,x.toInCall.ns,λi y v h1 h2 h3=>?_⟩,λy c h=>⟨_,x.cell y c h⟩,e0.hok.fresh (Wak _),λy c h=>?_,λp hp=>absurd (show p∈([]:List (Addr × Obj)) from hp) (by simp),e0.hok.kept hk,?_⟩
 ·exact name_of_addr x.apart (PySem.mem_of_lookup h1)<|PySem.mem_of_lookup h2
 ·have hy:scope.names.lookup y=some .cell\/scope.names.lookup y=some .free:=hy
  rcases hy with hy|hy
  ·exact Zkx hy
  ·exact absurd rfl<|S.nofree _<|PySem.mem_of_lookup hy
 ·exact Wb8<|x.above y c<|PySem.mem_of_lookup h
 ·have hi:i<vs.length:=by
   unfold start at h2;by_cases hi:i<vs.length
   ·exact hi
   ·rw[Wbc (by simpa using hi)]at h2
    rw[Wcx]at h2;split at h2 <;> cases h2
  have ha:vs[i]?=some v:=by
   unfold start at h2;rw[Wbm (by simpa using hi),Wad]at h2;cases e:vs[i]? with
   |none=>rw[e]at h2;cases h2
   |some a=>rw[e]at h2;cases h2;rfl
  obtain⟨u,hu,rv⟩:=r.get ha;have hp:ps[i]?=some y:=by
   rw[<- S.pre,List.getElem?_take_of_lt (by omega)];exact h1
  have ndP:ps.Nodup:=by rw[<- S.pre];exact S.nd.sublist<|List.take_sublist _ _
  refine⟨u,rv,?_⟩;rcases S.par y (Wai hp) with k|k
  ·exact .inl ⟨k,Zjd ndP hp hu k⟩
  ·obtain⟨c,e⟩:=Zkx (n:=s.heap.objs.size+1) k
   refine .inr ⟨.inl k,c,e,?_⟩;have q:=x.cell y c e;rw[Ziw ndP hp hu (by show scope.names.lookup y≠_;rw[k];decide)]at q;exact q
 ·exact e0.hok.fresh<|Wb8<|x.above y c<|PySem.mem_of_lookup h
 ·unfold start
  show _=N.length;rw[Waj,Waa,Wa2];omega
theorem Zvq {CX:CXT}{P:Program}{w:World}{K:W.Frag}{mg:Str->Option Value}{base:Heap}{k:Nat}{f:Addr}{name qual:Str}{params:Arguments}{body:List Stmt}{scope:Scope}{dV kV doc pm cdv ct oc:Value}{an od:Option Addr}
  {osl:Array (Option Value)}{N ps:List Str}{sp:Sp}(lk:K.lookup f=some ⟨oc,od,.func<|W.fnOf name qual params body scope dV kV doc pm an cdv ct,osl⟩) (hcd:W.codeIn K cdv qual=true) (S:FnScope N ps scope)
  (len:∀vs H Q E,sp vs H Q E->vs.length=ps.length)
  (hbody:∀(A:Around) (outer:List Env) (s:Shared) (H:Hp) (vs:List V) (Q:VK) (E:XK),Room k (A.deeper (envOfC qual scope s.heap.objs.size f cdv))->sp vs H Q E →
   ∃t,PSs (cxOf CX P w K mg base N qual scope f cdv A outer s H E) body t/\t { nx:=λ_ H'=>Q .non H',rt:=Q } (start N vs) H) :
  FnOk P w K mg base CX (k+1) f (W.fnOf name qual params body scope dV kV doc pm an cdv ct) ps sp:=by
 refine⟨len,λA outer s H args us vs Q E hr e0 hb r hsp=>?_⟩;have hl:=len _ _ _ _ hsp;have KX:K.In s.heap:=e0.mod.kin.keeps λb o e=>(e0.bs b o e).1;have lim:s.heap.NoLimit:=e0.mod.nolimit.keeps λb o e=>(e0.bs b o e).1;have hkind:∀y∈ps.zip us,scope.names.lookup y.1=some .local\/(scope.names.lookup y.1=some .cell/\((cellsFrom (s.heap.objs.size+1) scope.names []).lookup y.1).isSome=true):=λ⟨n,v⟩ hy=>by
  rcases S.par n (List.of_mem_zip hy).1 with q|q
  ·exact .inl q
  ·exact .inr ⟨q,PySem.W.cellsFrom_some _ _ _ (.inl q)⟩
 refine codeAny_call_function hr.depth (KX _ _ lk) rfl S.co S.gen rfl (PySem.W.codeRec_of KX hcd)<|hb _ _ _ _ ?_;refine wpAny_newFunctionEnv_cells S.kind hkind λenv he s1 x=>?_;subst he;refine⟨lim.keeps x.toInCall.keep,codeAny_func ?_⟩;obtain⟨t,ht,hq⟩:=hbody A outer s H vs Q E (hr.deeper _) hsp;have I:Inv (cxOf CX P w K mg base N qual scope f cdv A outer s H E) [] (start N vs) H s1:=Zou S hr.hd e0 hl r x;refine wpAny_mono (ht [] s1 (start N vs) H _ I hq) (λfl s' hs=>?_) λe s' hs=>hs;have fin:∀{σ':St}{H':Hp}{v:V}{u:Value},Inv (cxOf CX P w K mg base N qual scope f cdv A outer s H E) [] σ' H' s' -> RelV v u->Q v H' -> CE outer P w H s Q u s':=
  λ{σ' H' v u} J rv q=>⟨v,H',J.os,J.bare,J.base,J.hok,rv,q⟩
 cases fl with
 |ret u=>
  obtain⟨v,σ',H',J,rv,q⟩:=hs;exact fin J rv q
 |next=>
  obtain⟨σ',H',J,q⟩:=hs;exact fin (v:=V.non) (u:=Value.none) J rfl q
 |brk=>
  obtain⟨_,_,_,q⟩:=hs;exact False.elim q
 |cont=>
  obtain⟨_,_,_,q⟩:=hs;exact False.elim q
end L2
namespace L2
open PySem PySem.Spec PyProof.Rows
section
variable {X:Cx}{x:Str}{p pos:Pos}{e:Expr}{es:List Expr}{t:TA}{id T:String}{r:List V->Hp->VK->Prop}
def tCB (r:List V->Hp->VK->Prop) (t:TA):TE:=λσ H Q=>t σ H λvs H1=>r vs H1 Q
theorem Zah (hc:CallR X (.builtin id) r) (hg:Gl X x) (hm:X.mg x=none) (hv:bootBuiltins x=some (.builtin id)) (ha:PA X (e::es) t) (hn:x ≠ "__name__":=by decide) (hdb:(x == ("__debug__":Str))=false:=by decide)
  (he:starEach (e::es) X.env=(false,eval e X.env)::starEach es X.env:=by rfl) (hpl:(backTo pos<|starEach es X.env).any (·.1)=false:=by rfl):PE X (.Call (.Name x p) (e::es) [] pos) (tCB r t):=by
 intro pins s σ H Q I h;refine wpAny_Call_Name_kw<|Zew I hg hm hv ?_ hn hdb;exact PyProof.Rows.callWith_builtin1 (thn (ha pos pins s σ H _ I h) λus s1 ⟨vs,H1,I1,r1,q1⟩=>hc pins s1 σ H1 vs us Q I1 r1 q1) he hpl
theorem Za2 (hc:CallR X (.type T) r) (hg:Gl X x) (hm:X.mg x=none) (hv:bootBuiltins x=some (.type T)) (ha:PA X (e::es) t) (hn:x ≠ "__name__":=by decide) (hdb:(x == ("__debug__":Str))=false:=by decide)
  (he:starEach (e::es) X.env=(false,eval e X.env)::starEach es X.env:=by rfl) (hpl:(backTo pos<|starEach es X.env).any (·.1)=false:=by rfl):PE X (.Call (.Name x p) (e::es) [] pos) (tCB r t):=by
 intro pins s σ H Q I h;refine wpAny_Call_Name_kw<|Zew I hg hm hv ?_ hn hdb;exact PyProof.Rows.callWith_type1 (thn (ha pos pins s σ H _ I h) λus s1 ⟨vs,H1,I1,r1,q1⟩=>hc pins s1 σ H1 vs us Q I1 r1 q1) he hpl
theorem Zl5 (hc:CallR X (.type T) r) (hg:Gl X x) (hm:X.mg x=none) (hv:bootBuiltins x=some (.type T)) (hn:x ≠ "__name__":=by decide) (hdb:(x == ("__debug__":Str))=false:=by decide) :
  PE X (.Call (.Name x p) [] [] pos) (tCB r tNil):=by
 intro pins s σ H Q I h;refine wpAny_Call_Name_kw<|Zew I hg hm hv ?_ hn hdb;exact PyProof.Rows.callWith_type0<|hc pins s σ H [] [] Q I .nil h
end
end L2
namespace HT
open PySem PyProof.Rows
section
open PySem.SeqAt
open PySem.AutoSeq1 (wpAny_loadPart')
open PySem.MeetsSeq PySem.MeetsSeq2 PySem.MeetsSeq3
end
section
variable {prog:Program}{w:World}{A:Around}{E:Value->Shared->Prop}{s:Shared}
theorem cat_tup {t b:Addr}{vs ws:List Value}{Q:Value->Shared->Prop}(ht:IsTup s.heap t vs.toArray) (hb:IsTup s.heap b ws.toArray) (hv:vs≠[])
  (h1:ws=[]->Q (.ref t) s) (h2:ws≠[]->Q (.ref s.heap.objs.size) { s with heap:=s.heap.push { cls:=.type "tuple",data:=.seq (vs++ws).toArray } })
  (hsz:vs.length+ws.length<=sizeLine):wpAny (model prog w) A (binaryOp .Add (.ref t) (.ref b)) Q E s:=by
 obtain⟨⟨cls,dd,data,sl⟩,ho,hc,n,hd⟩:=id ht;obtain⟨⟨cls2,dd2,data2,sl2⟩,ho2,hc2,n2,hd2⟩:=id hb;simp only at hc hd hc2 hd2;subst hc hd hc2 hd2;have e:vs.toArray++ws.toArray=(vs++ws).toArray:=by simp
 by_cases hw:ws=[]
 ·exact concat_meets ⟨_,ho,rfl⟩ ⟨_,ho2,rfl⟩ noFill_tuple_add seq_tuple_add PySem.F.slot_tuple_add PySem.F.entry_tuple_add (PySem.F.args_tuple_add_2 _ _)
   (tuple_addW1 t b vs.toArray ws.toArray n n2 dd dd2 sl sl2 (by simpa using hv) (by simp[hw])) ⟨ho,ho2,h1 hw⟩
 ·refine concat_meets ⟨_,ho,rfl⟩ ⟨_,ho2,rfl⟩ noFill_tuple_add seq_tuple_add PySem.F.slot_tuple_add PySem.F.entry_tuple_add (PySem.F.args_tuple_add_2 _ _)
   (tuple_addW2 t b vs.toArray ws.toArray n n2 dd dd2 sl sl2 (by simpa using hv) (by simpa using hw) (by rw[Wah,Wah];exact hsz)) ⟨ho,ho2,?_⟩
  rw[e];exact h2 hw
def sIx (n d:Nat):Option Int->Nat
 |none=>d
 |some v=>if v<0 then (v+(n:Int)).toNat else min v.toNat n
theorem sIx_none (n d:Nat):sIx n d none=d:=rfl
theorem sIx_nat (n d k:Nat):sIx n d (some (k:Int))=min k n:=by
 show (if (k:Int)<0 then ((k:Int)+(n:Int)).toNat else min (k:Int).toNat n)=min k n;rw[if_neg (by omega),Wa7]
theorem Zvt (n d:Nat) (hd:d<=n) (o:Option Int):sIx n d o<=n:=by
 cases o with
 |none=>exact hd
 |some v=>
  show (if v<0 then (v+(n:Int)).toNat else min v.toNat n)<=n;by_cases hv:v<0
  ·rw[if_pos hv];omega
  ·rw[if_neg hv];exact Nat.min_le_right _ _
theorem Zoc (v:Int) (n d:Nat):(if v<0 then max (v+(n:Int)) 0 else min v (n:Int))=((sIx n d (some v):Nat):Int):=by
 show (if v<0 then max (v+(n:Int)) 0 else min v (n:Int))=(((if v<0 then (v+(n:Int)).toNat else min v.toNat n):Nat):Int);by_cases hv:v<0
 ·simp only[if_pos hv];omega
 ·simp only[if_neg hv];omega
theorem Zmq (lo hi:Option Int) (n:Nat):Builtin.Slice.sliceAdjust lo hi 1 (n:Int)=(((sIx n 0 lo:Nat):Int),((sIx n n hi:Nat):Int)):=by
 have h1:¬ ((1:Int)<0):=by omega
 unfold Builtin.Slice.sliceAdjust;simp only[h1,if_false];refine Prod.ext ?_ ?_
 ·cases lo with
  |none=>rfl
  |some v=>exact Zoc v n 0
 ·cases hi with
  |none=>rfl
  |some v=>exact Zoc v n n
theorem Zmd (i j:Nat):Builtin.Slice.slicePlaces (i:Int) (j:Int) 1=j-i:=by
 unfold Builtin.Slice.slicePlaces;have h1:(1:Int) > 0:=by omega
 simp only[h1,if_true,Int.ediv_one];split <;> omega
theorem Zhm {v:Value}{o:Option Int}{Q:Option Int->Shared->Prop}(p:IsPart v o) (h:Q o s):wpAny (model prog w) A (Builtin.Slice.slicePartIndex v) Q E s:=by
 cases p with
 |none=>exact slicePart_none h
 |int i t=>exact slicePart_int h
theorem Zd2 {sl:Addr}{vl vu:Value}{lo hi:Option Int}{n:Nat}{Q:Int × Int × Nat->Shared->Prop}(hs:s.heap.IsSliceOf sl vl vu .none) (pl:IsPart vl lo) (pu:IsPart vu hi)
  (h:Q (((sIx n 0 lo:Nat):Int),1,sIx n n hi-sIx n 0 lo) s):wpAny (model prog w) A (Builtin.Slice.sliceApplied (.ref sl)<|pure (n:Int)) Q E s:=by
 obtain⟨os,hos,hcs,hds⟩:=id hs;unfold Builtin.Slice.sliceApplied Builtin.Slice.sliceFields;refine wpAny_bind<|wpAny_bind<|wpAny_field hos hds (x:=vl) rfl<|wpAny_bind<|wpAny_field hos hds (x:=vu) rfl<|wpAny_bind<|wpAny_field hos hds (x:=.none) rfl<|wpAny_pure ?_;refine wpAny_bind<|slicePart_none ?_;show wpAny _ _ (if ((1:Int) == 0)=true then _ else _) _ _ s;rw[if_neg (by decide)];refine wpAny_bind<|Zhm pl<|wpAny_bind<|Zhm pu<|wpAny_bind<|wpAny_pure ?_;show wpAny _ _ (match Builtin.Slice.sliceAdjust lo hi 1 (n:Int) with|(lo,hi)=>pure (lo,(1:Int),Builtin.Slice.slicePlaces lo hi 1)) _ _ s;rw[Zmq lo hi n];show wpAny _ _ (pure (((sIx n 0 lo:Nat):Int),(1:Int),Builtin.Slice.slicePlaces ((sIx n 0 lo:Nat):Int) ((sIx n n hi:Nat):Int) 1)) _ _ s;rw[Zmd];exact wpAny_pure h
theorem Zqt (xs:Array Value) (i k:Nat):((Waq k).filterMap λ(m:Nat)=>xs[((i:Int)+(m:Int)*1).toNat]?).toArray=((xs.toList.drop i).take k).toArray:=by
 have e:(λ(m:Nat)=>xs[((i:Int)+(m:Int)*1).toNat]?)=λm=>xs[i+m]?:=by
  funext m
  have:((i:Int)+(m:Int)*1).toNat=i+m:=by omega
  rw[this]
 rw[e];have:=pick_run xs i k;rw[List.filterMap_map]at this;have e2:((λx=>xs[x]?)∘λx=>i+x)=λm=>xs[i+m]?:=rfl;rw[e2]at this;rw[this]
theorem getItem_tuple_cut {t sl:Addr}{items:Array Value}{vl vu:Value}{lo hi:Option Int}{Q:Value->Shared->Prop}(ht:IsTup s.heap t items) (hs:s.heap.IsSliceOf sl vl vu .none) (pl:IsPart vl lo) (pu:IsPart vu hi)
  (hw:¬ (sIx items.size 0 lo=0/\sIx items.size items.size hi=items.size))
  (h:Q (.ref s.heap.objs.size) { s with heap:=s.heap.push { cls:=.type "tuple",data:=.seq ((items.toList.drop<|sIx items.size 0 lo).take (sIx items.size items.size hi-sIx items.size 0 lo)).toArray } })
  (hsz:items.size<=sizeLine):wpAny (model prog w) A (getItem (.ref t) (.ref sl)) Q E s:=by
 have htake:sizeOk (.seq ((items.toList.drop<|sIx items.size 0 lo).take (sIx items.size items.size hi-sIx items.size 0 lo)).toArray):=by
  show ((items.toList.drop<|sIx items.size 0 lo).take (sIx items.size items.size hi-sIx items.size 0 lo)).toArray.size<=sizeLine;rw[Wah,Wbk,Wb4,Array.length_toList];omega
 have hj:sIx items.size items.size hi<=items.size:=Zvt _ _ (Wak _) hi;obtain⟨os,hos,hcs,hds⟩:=id hs;have hTs:s.TypeIs (.ref sl) "slice":=⟨os,hos,hcs⟩;unfold getItem
 try with_reducible refine wpAny_holding ?_
 first|refine wpAny_bind (wpAny_pure ?_)|skip
 refine wpAny_bind (wpAny_sequenceKey ht.typeIs (by decide) ?_);refine wpAny_bind (wpAny_callSpecial?_slot (name:=Str.ofString "__getitem__") ht.typeIs PyProof.Rows.slot_tuple_getitem
  (wpAny_call_entry PyProof.Rows.slot_tuple_getitem ht.typeIs entry_tuple_getitem ?_ (args_tuple_getitem _ _)))
 show wpAny _ _ (Builtin.Tuple.tupleItemsOf (.ref t) >>= _) _ _ s;refine wpAny_bind<|tupleItemsOf_ ht ?_;refine wpAny_bind<|wpAny_typeOf hTs ?_;rw[if_pos (by decide)];refine wpAny_bind<|Zd2 hs pl pu ?_;have hno:¬ ((((sIx items.size 0 lo:Nat):Int) == 0 && (1:Int) == 1 && (sIx items.size items.size hi-sIx items.size 0 lo) == items.size)=true):=by
  intro q;rw[Wbw,Wbw]at q;have q1:((sIx items.size 0 lo:Nat):Int)=0:=eq_of_beq q.1.1;have q2:sIx items.size items.size hi-sIx items.size 0 lo=items.size:=eq_of_beq q.2;exact hw ⟨by omega,by omega⟩
 show wpAny _ _ (if (((sIx items.size 0 lo:Nat):Int) == 0 && (1:Int) == 1 && (sIx items.size items.size hi-sIx items.size 0 lo) == items.size)=true then _ else _) _ _ s;rw[if_neg hno,Zqt]
 first
  |exact wpAny_bind (m:=Builtin.Tuple.tupleExact _) (wpAny_newObj_type (wpAny_pure ⟨_,rfl,wpAny_pure h⟩) htake)
  |exact wpAny_bind (m:=Builtin.Tuple.tupleExact _) (wpAny_newObj_type (wpAny_bind (wpAny_pure (wpAny_pure ⟨_,rfl,wpAny_pure h⟩))) htake)
  |exact wpAny_bind (wpAny_bind (m:=Builtin.Tuple.tupleExact _) (wpAny_newObj_type (wpAny_pure (wpAny_pure ⟨_,rfl,wpAny_pure h⟩)) htake))
  |exact wpAny_bind (wpAny_bind (m:=Builtin.Tuple.tupleExact _) (wpAny_newObj_type (wpAny_pure ⟨_,rfl,wpAny_pure h⟩) htake))
end
end HT
namespace L2
open PySem PySem.Spec PyProof.Rows
abbrev TO:=St->Hp->(Option Int->Hp->Prop)->Prop
def PO (X:Cx) (e:Option Expr) (t:TO):Prop:=
 ∀(pins:List (Addr × Obj)) (s:Shared) (σ:St) (H:Hp) (Q:Option Int->Hp->Prop),Inv X pins σ H s->t σ H Q →
  wpAny (model X.prog X.w) X.A (evalPart e X.env) (λu s'=>∃o H',Inv X pins σ H' s' /\ IsPart u o/\Q o H') X.xe s
def tNoPart:TO:=λ_ H Q=>Q none H
def tPart (t:TE):TO:=λσ H Q=>t σ H λx H1=>∃i,x=.int i/\Q (some i) H1
theorem Zb0 {ns:List Int}:∀{us:List Value},Vals (ns.map V.int) us->IntsAre us ns:=by
 induction ns with
 |nil=>intro us r;rw[List.map_nil]at r;cases r;exact .nil
 |cons n ns ih=>
  intro us r;rw[Wa1]at r;cases r with
  |cons r1 r2=>
   obtain⟨t,e⟩:=r1;subst e;exact .cons n t<|ih r2
section
variable {X:Cx}{e:Expr}{te:TE}{lo hi:Option Expr}{tl th:TO}{pos p2:Pos}
theorem Zcc:PO X none tNoPart:=by
 intro pins s σ H Q I h;rw[evalPart_none];exact wpAny_pure ⟨none,H,I,.none,h⟩
theorem Zcd (h:PE X e te):PO X (some e) (tPart te):=by
 intro pins s σ H Q I hw;rw[evalPart_some];refine thn (h pins s σ H _ I hw) λu s1 ⟨x,H1,I1,r1,q1⟩=>?_;obtain⟨i,rfl,q⟩:=q1;obtain⟨t,rfl⟩:=r1;exact⟨some i,H1,I1,.int i t,q⟩
def SlR (X:Cx) (r:V->Option Int->Option Int->Hp->VK->Prop):Prop:=
 ∀(pins:List (Addr × Obj)) (s:Shared) (σ:St) (H:Hp) (x:V) (v vl vu:Value) (lo hi:Option Int) (sl:Addr) (Q:VK),Inv X pins σ H s->RelV x v->s.heap.IsSliceOf sl vl vu .none->IsPart vl lo->IsPart vu hi->r x lo hi H Q →
  ∃T id,typeLookup (.type T) "__getitem__" = pure (some (.builtin id))/\s.TypeIs v T/\wpAny (model X.prog X.w) X.A (getItem v (.ref sl)) (EP X pins σ Q) X.xe s
theorem SlR.or {r r':V->Option Int->Option Int->Hp->VK->Prop}(h:SlR X r) (h':SlR X r'):SlR X (λx lo hi H Q=>r x lo hi H Q\/r' x lo hi H Q):=by
 intro pins s σ H x v vl vu lo hi sl Q I rx hs pl pu q;rcases q with q|q
 ·exact h pins s σ H x v vl vu lo hi sl Q I rx hs pl pu q
 ·exact h' pins s σ H x v vl vu lo hi sl Q I rx hs pl pu q
def tSl (r:V->Option Int->Option Int->Hp->VK->Prop) (te:TE) (tl th:TO):TE:=λσ H Q=>te σ H λx H1=>tl σ H1 λl H2=>th σ H2 λu H3=>r x l u H3 Q
theorem Zbo {r:V->Option Int->Option Int->Hp->VK->Prop}(hr:SlR X r) (he:PE X e te) (hl:PO X lo tl) (hu:PO X hi th):PE X (.Subscript e (.Slice lo hi none p2) pos) (tSl r te tl th):=by
 intro pins s σ H Q I h;refine Subscript_ (thn (he pins s σ H _ I h) λv s1 ⟨x,H1,I1,r1,q1⟩=>?_);refine wpAny_Slice (thn (hl pins s1 σ H1 _ I1 q1) λvl s2 ⟨l,H2,I2,pl,q2⟩=>thn (hu pins s2 σ H2 _ I2 q2) λvu s3 ⟨u,H3,I3,pu,q3⟩=>?_);rw[evalPart_none];refine wpAny_pure ?_;have I4:Inv X pins σ H3 { s3 with heap:=s3.heap.push { cls:=.type "slice",data:=.fields #[vl,vu,.none] } }:=I3.kept (t':=s3.toks) λb ob q=>Wac _ q;obtain⟨T,id,hT,ht,hg⟩:=hr pins { s3 with heap:=s3.heap.push { cls:=.type "slice",data:=.fields #[vl,vu,.none] } } σ H3 x v vl vu l u s3.heap.objs.size Q I4 r1 (Heap.IsSliceOf.new ..) pl pu q3;show wpAny (model X.prog X.w) X.A (subscriptTail e (.Slice lo hi none p2) v (.ref s3.heap.objs.size)) (EP X pins σ Q) X.xe { s3 with heap:=s3.heap.push { cls:=.type "slice",data:=.fields #[vl,vu,.none] } };exact tail_any (ops:=[.ref s3.heap.objs.size,v]) ht hT hg (by with_unfolding_all rfl)
def cutV (xs:List V) (lo hi:Option Int):List V:=(xs.drop<|HT.sIx xs.length 0 lo).take (HT.sIx xs.length xs.length hi-HT.sIx xs.length 0 lo)
theorem Zg3 (xs:List V) (lo hi:Option Int):(cutV xs lo hi).length<=xs.length:=by
 unfold cutV;rw[Wbk,Wb4];omega
def rSlT (K:W.Frag):V->Option Int->Option Int->Hp->VK->Prop:=λx lo hi H Q=>∃a xs,x=.ref a/\SqT K H a xs ∧
 ¬ (HT.sIx xs.length 0 lo=0/\HT.sIx xs.length xs.length hi=xs.length)/\∀p,H p=none->Q (.ref p) (upd H p (.tup<|cutV xs lo hi))
theorem Zwq:SlR X (rSlT X.K):=by
 intro pins s σ H x v vl vu lo hi sl Q I rx hs pl pu h;obtain⟨a,xs,rfl,hx,hw,q⟩:=h;cases rx;obtain⟨its,r,ht,hz⟩:=I.tuple hx;have hlen:its.toArray.size=xs.length:=by rw[Wah];exact r.length.symm
 refine⟨"tuple",_,PyProof.Rows.slot_tuple_getitem.lookup,ht.typeIs,?_⟩;refine HT.getItem_tuple_cut ht hs pl pu (by rw[hlen];exact hw) ?_ (by rw[hlen];exact hz);rw[hlen];refine⟨.ref s.heap.objs.size,_,I.laid (t':=s.toks) (o:=.tup<|cutV xs lo hi) (λb ob q=>Wac _ q) (Wak _) ?_,rfl,q _<|I.hok.fresh<|Wak _⟩;exact⟨Wby (Zg3 xs lo hi) hz,_,(r.drop<|HT.sIx xs.length 0 lo).take (HT.sIx xs.length xs.length hi-HT.sIx xs.length 0 lo),IsTupN.new _ _⟩
def rCatT (K:W.Frag):R2:=λx y H Q=>∃a b xs ys,x=.ref a/\y=.ref b/\SqT K H a xs/\SqT K H b ys/\xs≠[]/\xs.length+ys.length<=sizeLine ∧
 (ys=[]->Q (.ref a) H)/\(ys≠[]->∀p,H p=none->Q (.ref p) (upd H p (.tup<|xs++ys)))
theorem Vals.nil_iff {xs:List V}{us:List Value}(r:Vals xs us):us=[]↔xs=[]:=by
 cases r with
 |nil=>simp
 |cons _ _=>simp
theorem Zuj:OpR X (binaryOp .Add) (rCatT X.K):=by
 intro pins s σ H x y v u Q I rx ry h;obtain⟨a,b,xs,ys,rfl,rfl,ha,hb,hx,hz,q1,q2⟩:=h;cases rx;cases ry;obtain⟨its,r1,p1,_⟩:=I.tuple ha;obtain⟨its2,r2,p2,_⟩:=I.tuple hb;refine HT.cat_tup p1 p2 (λz=>hx<|r1.nil_iff.mp z) (λz=>⟨.ref a,H,I,rfl,q1<|r2.nil_iff.mp z⟩) (λz=>?_) (by rw[<- r1.length,<- r2.length];exact hz);refine⟨.ref s.heap.objs.size,_,I.laid (t':=s.toks) (o:=.tup<|xs++ys) (λb ob q=>Wac _ q) (Wak _) ?_,rfl,q2 (λw=>z<|r2.nil_iff.mpr w) _<|I.hok.fresh<|Wak _⟩;exact⟨by rw[Waj];exact hz,_,r1.append r2,IsTupN.new _ _⟩
end
end L2
namespace L2
open PySem PySem.Spec PyProof.Rows
def ixN (n:Nat) (i:Int):Option Nat:=if 0<=i then (if i<n then some i.toNat else none) else if -(n:Int)<=i then some (i+n).toNat else none
def atI {α:Type}(xs:List α) (i:Int):Option α:=(ixN xs.length i).bind λj=>xs[j]?
theorem Zop {n:Nat}{i:Int}{j:Nat}(h:ixN n i=some j):seqIndex? i n=some j/\j<n /\ -(n:Int)<=i/\i<n:=by
 unfold ixN at h;by_cases h0:0<=i
 ·rw[if_pos h0]at h
  by_cases h1:i<n
  ·rw[if_pos h1]at h
   have e:i.toNat=j:=Wa6.inj h;exact⟨by rw[seqIndex_of h0 h1,e],by omega,by omega,h1⟩
  ·rw[if_neg h1]at h;cases h
 ·rw[if_neg h0]at h
  by_cases h1:-(n:Int)<=i
  ·rw[if_pos h1]at h
   have e:(i+n).toNat=j:=Wa6.inj h;exact⟨by rw[seqIndex_neg (by omega) h1,e],by omega,h1,by omega⟩
  ·rw[if_neg h1]at h;cases h
theorem Zkm {α:Type}{xs:List α}{i:Int}{v:α}(h:atI xs i=some v):∃j,seqIndex? i xs.length=some j/\xs[j]?=some v/\j<xs.length /\ -(xs.length:Int)<=i/\i<xs.length:=by
 unfold atI at h;cases e:ixN xs.length i with
 |none=>rw[e]at h;cases h
 |some j=>
  rw[e]at h;obtain⟨h1,h2,h3,h4⟩:=Zop e;exact⟨j,h1,h,h2,h3,h4⟩
theorem Zcy {α:Type}{xs:List α}{j:Nat}{v:α}(h:xs[j]?=some v):atI xs (j:Int)=some v:=by
 have hj:j<xs.length:=(Wag.mp h).1;have e:ixN xs.length (j:Int)=some j:=by
  unfold ixN;rw[if_pos (by omega),if_pos (by omega)];simp
 unfold atI;rw[e];exact h
def PlainIx (b:Expr):Prop:=∀o i,subscripted b false o i=operate [o,i] (getItem o i)
def IxR (X:Cx) (r:R2):Prop:=
 ∀(value slice:Expr) (pins:List (Addr × Obj)) (s:Shared) (σ:St) (H:Hp) (x y:V) (v u:Value) (Q:VK),Inv X pins σ H s->RelV x v->RelV y u->r x y H Q →
  subscripted slice false v u=operate [v,u] (getItem v u)->wpAny (model X.prog X.w) X.A (subscriptTail value slice v u) (EP X pins σ Q) X.xe s
def MtR (X:Cx) (id:String) (r:V->List V->Hp->VK->Prop):Prop:=
 ∀(pins:List (Addr × Obj)) (s:Shared) (σ:St) (H:Hp) (x:V) (xs:List V) (v:Value) (us:List Value) (Q:VK),Inv X pins σ H s->RelV x v->Vals xs us->r x xs H Q →
  wpAny (model X.prog X.w) X.A (call (.builtin id) (v::us)) (EP X pins σ Q) X.xe s
section
variable {X:Cx}{a b:Expr}{ta tb:TE}{pos:Pos}
theorem IxR.or {r r':R2}(h:IxR X r) (h':IxR X r'):IxR X (λx y H Q=>r x y H Q\/r' x y H Q):=by
 intro value slice pins s σ H x y v u Q I rx ry q hs;rcases q with q|q
 ·exact h value slice pins s σ H x y v u Q I rx ry q hs
 ·exact h' value slice pins s σ H x y v u Q I rx ry q hs
theorem Zbe {r:R2}(hr:IxR X r) (ha:PE X a ta) (hb:PE X b tb) (hs:PlainIx b):PE X (.Subscript a b pos) (tOp r ta tb):=by
 intro pins s σ H Q I h;exact Subscript_ (binT ha hb I h λv u s2 x y H2 I2 rx ry q=>hr a b pins s2 σ H2 x y v u Q I2 rx ry q<|hs _ _)
def rIxL (K:W.Frag):R2:=λx y H Q=>∃p xs i v,x=.ref p/\y=.int i/\SqL K H p xs/\atI xs i=some v/\Q v H
def rIxT (K:W.Frag):R2:=λx y H Q=>∃p xs i v,x=.ref p/\y=.int i/\SqT K H p xs/\atI xs i=some v/\Q v H
def rIxS:R2:=λx y H Q=>∃z i c,x=.str z/\y=.int i/\z.length<=sizeLine/\atI z.cps.toList i=some c/\Q (.str ⟨#[c]⟩) H
theorem Zsr:IxR X (rIxL X.K):=by
 intro value slice pins s σ H x y v u Q I rx ry h hs;obtain⟨p,xs,i,z,rfl,rfl,hq,he,q⟩:=h;cases rx;obtain⟨t,rfl⟩:=ry;obtain⟨its,r,pl,hz⟩:=I.list hq;obtain⟨j,h1,h2,h3,h4,h5⟩:=Zkm he;obtain⟨w,ew,rw'⟩:=r.get h2;have hl:=r.length;have hn:=line63;have fin:EP X pins σ Q w s:=⟨z,H,I,rw',q⟩;by_cases h0:0<=i
 ·have hj:i.toNat=j:=by
   rw[seqIndex_of h0 h5]at h1;exact Wa6.inj h1
  exact item_listR pl.isList h0 (by omega) (by rw[hj];simpa using ew) fin hs
 ·have hj:(i+(its.toArray.size:Int)).toNat=j:=by
   rw[seqIndex_neg (by omega) h4]at h1;rw[Wah,<- hl];exact Wa6.inj h1
  exact subscriptTail_builtinR (x:=w) pl.isList.typeIs slot_list_getitem.lookup
   (wpAny_getItem_list_neg (Q:=λr s'=>r=w/\EP X pins σ Q r s') pl.isList (by omega) (by rw[Wah] <;> omega) (by omega) (by rw[hj];simpa using ew) ⟨rfl,fin⟩) hs
theorem Zvz:IxR X (rIxT X.K):=by
 intro value slice pins s σ H x y v u Q I rx ry h hs;obtain⟨p,xs,i,z,rfl,rfl,hq,he,q⟩:=h;cases rx;obtain⟨t,rfl⟩:=ry;obtain⟨its,r,pl,hz⟩:=I.tuple hq;obtain⟨j,h1,h2,h3,h4,h5⟩:=Zkm he;obtain⟨w,ew,rw'⟩:=r.get h2;have hl:=r.length;have hn:=line63;have fin:EP X pins σ Q w s:=⟨z,H,I,rw',q⟩;exact subscriptTail_builtinR (x:=w) pl.typeIs slot_tuple_getitem.lookup
  (getItem_tuple (j:=j) (Q:=λr s'=>r=w/\EP X pins σ Q r s') pl (by omega) (by omega) (by rw[Wah,<- hl];exact h1) (by simpa using ew) ⟨rfl,fin⟩) hs
theorem Zvg:IxR X rIxS:=by
 intro value slice pins s σ H x y v u Q I rx ry h hs;obtain⟨z,i,c,rfl,rfl,hz,he,q⟩:=h;obtain⟨t,rfl⟩:=rx;obtain⟨t',rfl⟩:=ry;obtain⟨j,h1,h2,h3,h4,h5⟩:=Zkm he;have hl:z.cps.toList.length=z.length:=by simp[Str.length]
 rw[hl]at h1 h4 h5;have hn:=line63;exact tail_any (typeIs_str s z t) slot_str_getitem.lookup (getItem_str (c:=c) (by
  have e1:decide (i < -(2 ^ 63:Int))=false:=decide_eq_false (by omega);have e2:decide (i ≥ 2 ^ 63)=false:=decide_eq_false (by omega);rw[e1,e2,Bool.or_false]) (by rw[h1];simpa using h2) ⟨.str ⟨#[c]⟩,H,I.tok _,⟨_,rfl⟩,q⟩) hs
def rIx (K:W.Frag):R2:=λx y H Q=>rIxL K x y H Q\/rIxT K x y H Q\/rIxS x y H Q
theorem Zu5:IxR X (rIx X.K):=Zsr.or<|Zvz.or Zvg
theorem Zmo (its:List Value) (n j:Nat) (u:Value):Obj.mapSeq (·.setIfInBounds j u) { cls:=.type "list",data:=.seq its.toArray n } = { cls:=.type "list",data:=.seq (its.set j u).toArray n }:=by
 simp[Obj.mapSeq]
theorem Inv.lst {pins:List (Addr × Obj)}{σ:St}{H:Hp}{s:Shared}{p:Addr}{xs:List V}(I:Inv X pins σ H s) (h:H p=some (.lst xs)) :
  ∃(its:List Value) (n:Nat),Vals xs its/\s.heap.get? p=some { cls:=.type "list",data:=.seq its.toArray n } /\ xs.length<=sizeLine:=by
 obtain⟨z,its,n,r,e⟩:=I.hok p _ h;exact⟨its,n,r,e,z⟩
theorem Inv.lstUpd {pins:List (Addr × Obj)}{σ:St}{H:Hp}{s:Shared}{p:Addr}{xs ys:List V}{its its':List Value}{n n':Nat}{f:Obj->Obj}(I:Inv X pins σ H s) (h:H p=some (.lst xs))
  (ho:s.heap.get? p=some { cls:=.type "list",data:=.seq its.toArray n }) (hf:f { cls:=.type "list",data:=.seq its.toArray n } = { cls:=.type "list",data:=.seq its'.toArray n' }) (r:Vals ys its') (hz:ys.length<=sizeLine) (t:Nat) :
  Inv X pins σ (upd H p (.lst ys)) { s with heap:=s.heap.update p f,toks:=t }:=by
 have e:(s.heap.update p f).get? p=some { cls:=.type "list",data:=.seq its'.toArray n' }:=by
  rw[Wb7 f ho (by rw[hf] <;> rfl),hf]
 refine I.write (x:=p) (e:=p) (by rw[h];trivial) (.inl rfl) (λb u hb q=>(Wbu _ _<|Ne.symm hb).trans q) ⟨_,e⟩ ?_;exact⟨hz,its',n',r,e⟩
def rSetL:V->V->V->Hp->(Hp->Prop)->Prop:=λo i v H Q=>∃p xs k j,o=.ref p/\i=.int k/\H p=some (.lst xs)/\ixN xs.length k=some j/\Q (upd H p (.lst<|xs.set j v))
theorem Zqy:PSet X rSetL:=by
 intro pins s σ H o i v ov iv u Q I ro ri rv h;obtain⟨p,xs,k,j,rfl,rfl,hp,hj,q⟩:=h;cases ro;obtain⟨t,rfl⟩:=ri;obtain⟨its,n,r,ho,hz⟩:=I.lst hp;obtain⟨h1,h2,h3,h4⟩:=Zop hj;have hl:=r.length;have hn:=line63;have I':Inv X pins σ (upd H p (.lst<|xs.set j v)) { s with heap:=s.heap.update p (Obj.mapSeq (·.setIfInBounds j u)) }:=
  I.lstUpd hp ho (Zmo its n j u) (r.set rv j) (by rw[Wcu];exact hz) s.toks
 by_cases h0:0<=k
 ·have hk:k.toNat=j:=by
   rw[seqIndex_of h0 h4]at h1;exact Wa6.inj h1
  exact PySem.W.ki_setAt ho h0 (by omega) (by rw[Wah,<- hl];exact h4) (by rw[hk];exact⟨_,I',q⟩)
 ·have hk:(k+(its.toArray.size:Int)).toNat=j:=by
   rw[seqIndex_neg (by omega) h3]at h1;rw[Wah,<- hl];exact Wa6.inj h1
  exact PySem.W.ki_setBack ho (by omega) (by rw[Wah,<- hl];exact h3) (by omega) (by rw[hk];exact⟨_,I',q⟩)
theorem Zi1 (lo hi:Option Int) (n:Nat):(sliceBounds lo hi none n).1=((HT.sIx n 0 lo:Nat):Int)/\(sliceBounds lo hi none n).2.1=((HT.sIx n n hi:Nat):Int)/\(sliceBounds lo hi none n).2.2=1:=by
 refine⟨?_,?_,rfl⟩
 ·cases lo with
  |none=>simp[sliceBounds,HT.sIx]
  |some i=>
   simp only[sliceBounds,HT.sIx,Option.getD_none,show (1:Int) > 0 by decide,if_true];by_cases h:i<0
   ·simp only[h,if_true] <;> omega
   ·simp only[h,if_false] <;> omega
 ·cases hi with
  |none=>simp[sliceBounds,HT.sIx]
  |some i=>
   simp only[sliceBounds,HT.sIx,Option.getD_none,show (1:Int) > 0 by decide,if_true];by_cases h:i<0
   ·simp only[h,if_true] <;> omega
   ·simp only[h,if_false] <;> omega
theorem Zie (its:List Value) (lo hi:Option Int):slicePick its.toArray lo hi none=((its.drop<|HT.sIx its.length 0 lo).take (HT.sIx its.length its.length hi-HT.sIx its.length 0 lo)).toArray:=by
 obtain⟨h1,h2,h3⟩:=Zi1 lo hi its.toArray.size;unfold slicePick;rw[h1,h2,h3];simp only[sliceRange_one,pick_run,Wah] <;> rfl
def rSlL (K:W.Frag):V->Option Int->Option Int->Hp->VK->Prop:=λx lo hi H Q=>∃a xs,x=.ref a/\SqL K H a xs/\∀p,H p=none->Q (.ref p) (upd H p (.lst<|cutV xs lo hi))
theorem Zs0:SlR X (rSlL X.K):=by
 intro pins s σ H x v vl vu lo hi sl Q I rx hs pl pu h;obtain⟨a,xs,rfl,hx,q⟩:=h;cases rx;obtain⟨its,r,ht,hz⟩:=I.list hx;have hlen:=r.length;refine⟨"list",_,slot_list_getitem.lookup,ht.isList.typeIs,?_⟩;refine wpAny_getItem_list_slice ht.isList hs pl pu .none (by simp) ?_ (by rw[Wah] <;> omega)
 rw[Zie,<- hlen];refine⟨.ref s.heap.objs.size,_,I.laid (t':=s.toks) (o:=.lst<|cutV xs lo hi) (λb ob q=>Wac _ q) (Wak _) ?_,rfl,q _<|I.hok.fresh<|Wak _⟩;exact⟨Wby (Zg3 xs lo hi) hz,_,0,(r.drop<|HT.sIx xs.length 0 lo).take (HT.sIx xs.length xs.length hi-HT.sIx xs.length 0 lo),Wao _ rfl⟩
def flatV:V->Bool
 |.non=>true
 |.bl _=>true
 |.int _=>true
 |.str _=>true
 |_=>false
def eqV:V->V->Bool
 |.non,.non=>true
 |.bl a,.bl b=>a == b
 |.bl a,.int b=>(if a then 1 else 0) == b
 |.int a,.bl b=>a == (if b then 1 else 0)
 |.int a,.int b=>a == b
 |.str a,.str b=>a == b
 |_,_=>false
theorem Zsa {A:Around}{s:Shared}{y x:V}{u v:Value}(ry:RelV y u) (rx:RelV x v) (fy:flatV y=true) (fx:flatV x=true):SeqAt.EqAt A s u v (eqV y x):=by
 cases y with
 |non=>
  cases ry;cases x with
  |non=>cases rx;exact SeqAt.EqAt.same _
  |bl b=>cases rx;exact SeqAt.EqAt.none_bool b
  |int b=>obtain⟨t,rfl⟩:=rx;exact SeqAt.EqAt.none_int b t
  |str b=>obtain⟨t,rfl⟩:=rx;exact SeqAt.EqAt.none_str b t
  |_=>exact absurd (show false=true from fx) Wam
 |bl a=>
  cases ry;cases x with
  |non=>cases rx;exact SeqAt.EqAt.bool_none a
  |bl b=>cases rx;exact SeqAt.EqAt.bool_bool a b
  |int b=>obtain⟨t,rfl⟩:=rx;exact SeqAt.EqAt.bool_int a b t
  |str b=>obtain⟨t,rfl⟩:=rx;exact SeqAt.EqAt.bool_str a b t
  |_=>exact absurd (show false=true from fx) Wam
 |int a=>
  obtain⟨t',rfl⟩:=ry;cases x with
  |non=>cases rx;exact SeqAt.EqAt.int_none a t'
  |bl b=>cases rx;exact SeqAt.EqAt.int_bool a t' b
  |int b=>obtain⟨t,rfl⟩:=rx;exact SeqAt.EqAt.int_int a t' b t
  |str b=>obtain⟨t,rfl⟩:=rx;exact SeqAt.EqAt.int_str a t' b t
  |_=>exact absurd (show false=true from fx) Wam
 |str a=>
  obtain⟨t',rfl⟩:=ry;cases x with
  |non=>cases rx;exact SeqAt.EqAt.str_none a t'
  |bl b=>cases rx;exact SeqAt.EqAt.str_bool a t' b
  |int b=>obtain⟨t,rfl⟩:=rx;exact SeqAt.EqAt.str_int a t' b t
  |str b=>obtain⟨t,rfl⟩:=rx;exact SeqAt.EqAt.str_str a t' b t
  |_=>exact absurd (show false=true from fx) Wam
 |_=>exact absurd (show false=true from fy) Wam
def eqU (x:V) (u:Value):Bool:=match u with
 |.none=>eqV .non x
 |.bool b=>eqV (.bl b) x
 |.int i _=>eqV (.int i) x
 |.str z _=>eqV (.str z) x
 |_=>false
theorem Zlv {x y:V}{u:Value}(r:RelV y u) (f:flatV y=true):eqU x u=eqV y x:=by
 cases y with
 |non=>cases r;rfl
 |bl b=>cases r;rfl
 |int i=>obtain⟨t,rfl⟩:=r;rfl
 |str z=>obtain⟨t,rfl⟩:=r;rfl
 |_=>exact absurd (show false=true from f) Wam
theorem Zj7 {x:V}:∀{xs:List V}{us:List Value},Vals xs us->xs.all flatV=true->us.any (eqU x)=xs.any λy=>eqV y x
 |_,_,.nil,_=>rfl
 |y::xs,u::us,.cons r t,f=>by
  rw[Wds,Wbw]at f;rw[Wcr,Wcr,Zlv r f.1,Zj7 t f.2]
theorem Zii {A:Around}{s:Shared}{x:V}{v:Value}(rx:RelV x v) (fx:flatV x=true):∀{xs:List V}{us:List Value},Vals xs us->xs.all flatV=true->∀u∈us,SeqAt.EqAt A s u v (eqU x u)
 |_,_,.nil,_=>λu hu=>by cases hu
 |y::xs,u::us,.cons r t,f=>λu' hu=>by
  rw[Wds,Wbw]at f;rcases Wap.mp hu with rfl|hu
  ·rw[Zlv r f.1];exact Zsa r rx f.1 fx
  ·exact Zii rx fx t f.2 u' hu
def inV (x:V) (xs:List V):Bool:=xs.any λy=>eqV y x
def rIn (K:W.Frag) (neg:Bool):R2:=λx y H Q=>∃p xs,y=.ref p/\(SqL K H p xs\/SqT K H p xs)/\flatV x=true/\xs.all flatV=true/\Q (.bl (if neg then !inV x xs else inV x xs)) H
theorem Zjc:OpR X (compareOp .NotIn) (rIn X.K true):=by
 intro pins s σ H x y v u Q I rx ry h;obtain⟨p,xs,rfl,hq,fx,fs,q⟩:=h;cases ry;rcases hq with hq|hq
 ·obtain⟨its,r,pl,hz⟩:=I.list hq
  refine SeqAt.notIn_listAt (eqU x) pl.isList (λw hw=>Zii rx fx r fs w (by simpa using hw)) ⟨.bl _,H,I,rfl,?_⟩;rw[show its.toArray.any (eqU x)=its.any (eqU x) by simp,Zj7 r fs];exact q
 ·obtain⟨its,r,pl,hz⟩:=I.tuple hq
  refine SeqAt.notIn_tupleAt (eqU x) pl (λw hw=>Zii rx fx r fs w (by simpa using hw)) ⟨.bl _,H,I,rfl,?_⟩;rw[show its.toArray.any (eqU x)=its.any (eqU x) by simp,Zj7 r fs];exact q
theorem Zjl:CallR X (.builtin "len") (λxs H Q=>∃p ys,xs=[.ref p]/\(SqL X.K H p ys\/SqT X.K H p ys)/\Q (.int ys.length) H):=by
 intro pins s σ H xs us Q I r h;obtain⟨p,ys,rfl,hq,q⟩:=h;obtain⟨u,rfl,rx⟩:=vals1 r;cases rx;have hn:=line63;rcases hq with hq|hq
 ·obtain⟨its,r',pl,hz⟩:=I.list hq
  have hlen:=r'.length;exact Calls.call_len_list pl.isList (by simp only[Wah] <;> omega) ⟨.int ys.length,H,I.tok _,⟨s.toks+1,by rw[Wah,hlen]⟩,q⟩
 ·obtain⟨its,r',pl,hz⟩:=I.tuple hq
  have hlen:=r'.length;exact len_tuple pl (by simp only[Wah] <;> omega) ⟨.int ys.length,H,I.tok _,⟨s.toks+1,by rw[Wah,hlen]⟩,q⟩
theorem CallR.or {f:Value}{r r':List V->Hp->VK->Prop}(h:CallR X f r) (h':CallR X f r'):CallR X f (λxs H Q=>r xs H Q\/r' xs H Q):=by
 intro pins s σ H xs us Q I rs q;rcases q with q|q
 ·exact h pins s σ H xs us Q I rs q
 ·exact h' pins s σ H xs us Q I rs q
theorem Zjk:CallR X (.type "list") (λxs H Q=>∃p ys,xs=[.ref p]/\(SqL X.K H p ys\/SqT X.K H p ys)/\∀l,H l=none->Q (.ref l) (upd H l (.lst ys))):=by
 intro pins s σ H xs us Q I r h;obtain⟨p,ys,rfl,hq,q⟩:=h;obtain⟨u,rfl,rx⟩:=vals1 r;cases rx;have fin:∀(its:List Value),Vals ys its->ys.length<=sizeLine->∀(h':Heap) (c':Nat),(∀b o',s.heap.get? b=some o' -> h'.get? b=some o') →
   h'.get? s.heap.objs.size=some { cls:=.type "list",dict:=none,data:=.seq its.toArray c',slots:=#[] } -> EP X pins σ Q (.ref s.heap.objs.size) { s with heap:=h' }:=λits r' hz h' c' kp e=>
  ⟨.ref s.heap.objs.size,_,I.laid (t':=s.toks) kp (Wak _) (show ObjOk X.prog X.w _ h' _ (.lst ys) from ⟨hz,its,c',r',e⟩),rfl,q _<|I.hok.fresh<|Wak _⟩
 rcases hq with hq|hq
 ·obtain⟨its,r',pl,hz⟩:=I.list hq
  have hlen:=r'.length;obtain⟨o,ho,hc,n,hd⟩:=pl.isList;exact call_list_seq p (.inl rfl) ho hc hd (λh' c' kp e=>fin its r' hz h' c' kp e) (by simp only[Wah] <;> omega)
 ·obtain⟨its,r',pl,hz⟩:=I.tuple hq
  have hlen:=r'.length;obtain⟨o,ho,hc,n,hd⟩:=pl;exact call_list_seq p (.inr rfl) ho hc hd (λh' c' kp e=>fin its r' hz h' c' kp e) (by simp only[Wah] <;> omega)
theorem Zih:CallR X (.type "tuple") (λxs H Q=>∃p ys,xs=[.ref p]/\((SqL X.K H p ys/\∀l,H l=none->Q (.ref l) (upd H l (.tup ys)))\/(SqT X.K H p ys/\Q (.ref p) H))):=by
 intro pins s σ H xs us Q I r h;obtain⟨p,ys,rfl,h⟩:=h;obtain⟨u,rfl,rx⟩:=vals1 r;cases rx;rcases h with ⟨hq,q⟩|⟨hq,q⟩
 ·obtain⟨its,r',pl,hz⟩:=I.list hq
  have hlen:=r'.length;refine call_tuple_list pl.isList (λh' kp=>?_) (by simp only[Wah] <;> omega)
  have I1:Inv X pins σ H { s with heap:=h' }:=I.kept (t':=s.toks) kp;have I2:Inv X pins σ (upd H h'.objs.size (.tup ys)) { s with heap:=h'.push { cls:=.type "tuple",data:=.seq its.toArray } }:=
   I1.laid (t':=s.toks) (λb o e=>Wac _ e) (Wak _) (show ObjOk X.prog X.w _ _ _ (.tup ys) from ⟨hz,its,r',IsTupN.new _ _⟩)
  exact⟨.ref h'.objs.size,_,I2,rfl,q _<|I1.hok.fresh<|Wak _⟩
 ·obtain⟨its,r',pl,hz⟩:=I.tuple hq
  exact call_tuple_same pl ⟨.ref p,H,I,rfl,q⟩
def tyV (K:W.Frag) (T:String) (x:V) (H:Hp):Prop:=match x with
 |.str _=>T = "str"
 |.int _=>T = "int"
 |.ref p=>(T = "list" /\ ∃xs,SqL K H p xs)\/(T = "tuple" /\ ((∃o,K.lookup p=some o/\o.cls=.type "tuple" /\ o.dict=none)\/∃xs,H p=some (.tup xs))) ∨
   (T = "dict" /\ ((∃kvs,H p=some (.dK kvs))\/∃kvs,H p=some (.dT kvs)))\/(T = "set" /\ ∃S n,H p=some (.set S n))
 |_=>False
theorem Zv8 {pins:List (Addr × Obj)}{σ:St}{H:Hp}{s:Shared}{T:String}{x:V}{v:Value}(I:Inv X pins σ H s) (r:RelV x v) (ty:tyV X.K T x H) :
  s.TypeIs v T/\∀a,v=.ref a->∃ob,s.heap.get? a=some ob/\ob.dict=none:=by
 cases x with
 |str z=>
  obtain⟨t,rfl⟩:=r;cases (show T = "str" from ty);exact⟨typeIs_str s z t,λ_ e=>nomatch e⟩
 |int i=>
  obtain⟨t,rfl⟩:=r;cases (show T = "int" from ty);exact⟨typeIs_int s i t,λ_ e=>nomatch e⟩
 |ref p=>
  cases r;rcases ty with ⟨rfl,xs,hq⟩|⟨rfl,(⟨o,hk,hc,hd⟩|⟨xs,hk⟩)⟩|⟨rfl,hk⟩|⟨rfl,S,n,hk⟩
  ·obtain⟨its,_,pl,_⟩:=I.list hq
   refine⟨pl.isList.typeIs,λa e=>?_⟩;cases e;obtain⟨o,n,e,c,hd,_⟩:=pl;exact⟨o,e,hd⟩
  ·refine⟨⟨o,I.kIn p o hk,hc⟩,λa e=>?_⟩
   cases e;exact⟨o,I.kIn _ o hk,hd⟩
  ·obtain⟨_,_,_,o,e,⟨hc,_⟩,hd⟩:=I.hok p _ hk
   refine⟨⟨o,e,hc⟩,λa e2=>?_⟩;cases e2;exact⟨o,e,hd⟩
  ·have z:∃o,s.heap.get? p=some o/\o.ExactDict:=by
    rcases hk with ⟨kvs,hk⟩|⟨kvs,hk⟩
    ·obtain⟨_,_,_,_,o,_,_,e,ex,_⟩:=I.hok p _ hk
     exact⟨o,e,ex⟩
    ·obtain⟨_,_,_,_,o,_,_,e,ex,_⟩:=I.hok p _ hk
     exact⟨o,e,ex⟩
   obtain⟨o,e,ex⟩:=z;refine⟨⟨o,e,ex.1⟩,λa e2=>?_⟩;cases e2;exact⟨o,e,ex.2.1⟩
  ·obtain⟨o,_,_,_,e,ex,_⟩:=I.hok p _ hk
   refine⟨⟨o,e,ex.1⟩,λa e2=>?_⟩;cases e2;exact⟨o,e,ex.2.1⟩
 |_=>exact False.elim ty
def tBM (K:W.Frag) (T:String) (r:V->List V->Hp->VK->Prop) (to:TE) (t:TA):TE:=λσ H Q=>to σ H λx H1=>tyV K T x H1/\t σ H1 λxs H2=>r x xs H2 Q
variable {o e:Expr}{es:List Expr}{to:TE}{t:TA}{name:Str}{apos cpos:Pos}{T id:String}{r:V->List V->Hp->VK->Prop}
theorem Zxi (pa:PlainAttrs T) (slot:Slot T name id) (hty:typeOf (.builtin id)=pure (.type "method_descriptor")) (hm:MtR X id r) (ho:PE X o to) (ha:PA X (e::es) t)
  (hbase:attributeBase o name X.env (eval o X.env)=eval o X.env:=by rfl)
  (hfew:((backTo cpos (starEach (e::es) X.env)).all (λx=>!x.1) && (backToKw cpos (keywordEach [] X.env)).all (λx=>x.1.isSome)
   && decide ((e::es).length+([]:List Keyword).length+(if ([]:List Keyword).isEmpty then 0 else 1)<30))=true:=by rfl)
  (hline:(apos.endLine == cpos.line)=true:=by rfl) (hs:starEach (e::es) X.env=(false,eval e X.env)::starEach es X.env:=by rfl) (hplain:(backTo cpos<|starEach es X.env).any (·.1)=false:=by rfl) :
  PE X (.Call (.Attribute o name apos) (e::es) [] cpos) (tBM X.K T r to t):=by
 intro pins s σ H Q I h;refine wpAny_Call_method_late hbase hfew hline rfl (thn (ho pins s σ H _ I h) λv s1 ⟨x,H1,I1,r1,ty,q1⟩=>?_);obtain⟨h1,h2⟩:=Zv8 I1 r1 ty;refine⟨T,id,pa,slot,hty,h1,h2,?_⟩;have hA:=ha cpos pins s1 σ H1 _ I1 q1;rw[hs]at hA ⊢;refine Calls.callWith_builtin (by show (false || (backTo cpos<|starEach es X.env).any (·.1))=false;rw[hplain] <;> rfl)<|Calls.evalArgs_plain ?_
 exact thn hA λus s2 ⟨vs,H2,I2,r2,q2⟩=>hm pins s2 σ H2 x vs v us Q I2 r1 r2 q2
end
end L2
namespace L2
open PySem PySem.Spec PyProof.Rows
def MtM (X:Cx) (id:String) (r:V->List V->Hp->VK->Prop):Prop:=
 ∀(pins:List (Addr × Obj)) (s:Shared) (σ:St) (H:Hp) (x:V) (xs:List V) (v:Value) (us:List Value) (Q:VK),Inv X pins σ H s->RelV x v->Vals xs us->r x xs H Q →
  wpAny (model X.prog X.w) X.A (call (.builtin id) (v::us)) (EP X pins σ Q) X.xe s
theorem Vals.one:∀{x:V}{us:List Value},Vals [x] us->∃u,us=[u]/\RelV x u:=by
 intro x us h;cases h with|cons r t=>cases t;exact⟨_,rfl,r⟩
theorem Vals.two:∀{x y:V}{us:List Value},Vals [x,y] us->∃u v,us=[u,v]/\RelV x u/\RelV y v:=by
 intro x y us h;cases h with|cons r t=>cases t with|cons q t=>cases t;exact⟨_,_,rfl,r,q⟩
section
variable {X:Cx}{pins:List (Addr × Obj)}{σ:St}{H:Hp}{s:Shared}{l b:Addr}{xs ys zs:List V}
theorem Inv.lset {its its':List Value}{n:Nat}{f:Array Value->Array Value}{t':Nat}(I:Inv X pins σ H s) (hH:H l=some (.lst xs))
  (e:s.heap.get? l=some { cls:=.type "list",data:=.seq its.toArray n }) (hf:f its.toArray=its'.toArray) (hv:Vals ys its') (hz:ys.length<=sizeLine) :
  Inv X pins σ (upd H l (.lst ys)) { s with heap:=s.heap.update l<|Obj.mapSeq f,toks:=t' }:=by
 have q:=PySem.IsL.update e f;rw[hf]at q;refine I.write (x:=l) (e:=l) (by rw[hH];exact trivial) (.inl rfl) (λb' u hb hu=>(Wbu s.heap (Obj.mapSeq f)<|Ne.symm hb).trans hu) ⟨_,q⟩ ?_;exact⟨hz,its',_,hv,q⟩
theorem Inv.lnew {its:List Value}{t':Nat}(I:Inv X pins σ H s) (hv:Vals ys its) (hz:ys.length<=sizeLine) :
  Inv X pins σ (upd H s.heap.objs.size (.lst ys)) { s with heap:=s.heap.push { cls:=.type "list",data:=.seq its.toArray },toks:=t' }:=
 I.laid (λ_ _ q=>Wac _ q) (Wak _) ⟨hz,its,0,hv,Wao _ rfl⟩
theorem Inv.fresh (I:Inv X pins σ H s):H s.heap.objs.size=none:=I.hok.fresh<|Wak _
theorem Inv.lstM (I:Inv X pins σ H s) (hH:H l=some (.lst xs)):xs.length<=sizeLine/\∃(its:List Value) (n:Nat),Vals xs its/\xs.length=its.length/\s.heap.get? l=some { cls:=.type "list",data:=.seq its.toArray n }:=by
 obtain⟨z,its,n,r,e⟩:=I.hok l _ hH;exact⟨z,its,n,r,r.length,e⟩
end
section
variable {X:Cx}
def rAppend:V->List V->Hp->VK->Prop:=λx vs H Q=>∃l xs y,x=.ref l/\vs=[y]/\H l=some (.lst xs)/\xs.length<sizeLine/\Q .non (upd H l (.lst<|xs++[y]))
theorem Zb9:MtM X "list.append" rAppend:=by
 intro pins s σ H x vs v us Q I rx rv h;obtain⟨l,xs,y,rfl,rfl,hH,hz,q⟩:=h;cases rx;obtain⟨u,rfl,ru⟩:=rv.one;obtain⟨z,its,n,r,hl,e⟩:=I.lstM hH;refine call_meets F.slot_list_append ⟨_,e,rfl⟩ F.entry_list_append (F.args_list_append_2 _ _) (PySem.list_append l its.toArray n u (by rw[Wah];omega)) ⟨e,?_⟩;refine⟨.non,_,I.lset (its':=its++[u]) hH e (by simp) (r.append (.cons ru .nil)) ?_,rfl,q⟩;rw[Waj,Wcq];omega
def rCat:R2:=λx y H Q=>∃l b xs zs,x=.ref l/\y=.ref b/\H l=some (.lst xs)/\H b=some (.lst zs)/\xs.length+zs.length<=sizeLine/\∀p,H p=none->Q (.ref p) (upd H p (.lst<|xs++zs))
theorem Zvn:OpR X (binaryOp .Add) rCat:=by
 intro pins s σ H x y v u Q I rx ry h;obtain⟨l,b,xs,zs,rfl,rfl,hH,hB,hz,q⟩:=h;cases rx;cases ry;obtain⟨z,its,n,r,hl,e⟩:=I.lstM hH;obtain⟨z2,its2,n2,r2,hl2,e2⟩:=I.lstM hB;refine PySem.P.add_list e e2 ?_ (by rw[Wah,Wah];omega);have ea:its.toArray++its2.toArray=(its++its2).toArray:=by simp
 rw[ea];exact⟨.ref _,_,I.lnew (t':=s.toks) (r.append r2) (by rw[Waj];omega),rfl,q _ I.fresh⟩
end
end L2
namespace Att
open PySem PySem.W PySem.Calls PyProof.Rows
theorem Zgn {P:Params}{h:Heap}:∀(ns:List Int) (vs:List Value),WellAll P h vs (ns.map WData.int)->IntsAre vs ns:=by
 intro ns
 induction ns with
 |nil=>
  intro vs w;rw[List.map_nil]at w;cases w;exact .nil
 |cons n ns ih=>
  intro vs w;rw[Wa1]at w;cases w with
  |cons a b=>
   cases a;exact .cons _ _<|ih _ b
theorem Zoh {l:OpenLaw}{n:Nat}(hn:l.most=some n) {P:Params}{h:Heap}{args:List WData}{vals:List Value}
  (hpre:l.row.toRowW.claim.pre args=true) (hwl:WellAll P h vals args) :
  ∃a vs ns,vals=[Value.ref a]/\args=[WData.list (ns.map WData.int)]/\h.get? a=some { cls:=.type "list",data:=.seq vs.toArray } /\ IntsAre vs ns/\ns.length<=n:=by
 have hsh:WShape.hasAll [] args [.list .int]=true:=(pre_splitW hpre).1;have hc:l.pre.holds [] { args:=args } = true:=(pre_splitW hpre).2;obtain⟨d,r,rfl,h1,h2⟩:=hasAllW_cons hsh;obtain rfl:=hasAllW_nil h2;obtain⟨xs,rfl,h3⟩:=hasW_list h1;obtain⟨ns,rfl⟩:=items_int h3;have hlen:ns.length<=n:=by
  unfold OpenLaw.pre at hc;have h4:(WTm.not (.lt (.lit (.int (n:Int))) (.len (.arg 0)))).holds [] { args:=[.list (ns.map .int)] } = true:=by
   have h4:=(holds_andW hc).1;rw[hn]at h4;exact h4
  have h5:=condW_of h4<|w_not<|w_lt w_lit<|w_len_list<|w_arg rfl;rw[Waa]at h5;refine Nat.le_of_not_lt λq=>?_;have q':(n:Int)<((ns.length:Nat):Int):=by omega
  first
   | (rw[decide_eq_true q']at h5;exact absurd h5 (by decide))
   | (simp at h5;omega)
 cases hwl with
 |cons w1 w2=>
  cases w2;cases w1 with
  |list ho hall=>exact⟨_,_,ns,rfl,rfl,ho,Zgn ns _ hall,hlen⟩
theorem Znz (l:OpenLaw) (args:List WData):l.row.toRowW.claim.post args (.bool true) args=true:=
 postW_of (r:=l.row.toRowW) (X:=(true == true))
  (show WShape.has [] (.bool true) .bool=true by first|rfl|decide|simp[WShape.has,WShape.arms,WShape.armsAll])
  (show (WTm.eq .res (.lit (.bool true))).value [] { args:=args,res:=some (.bool true),after:=args } = some (.bool (true == true)) from w_eq_bool (w_res rfl) w_lit) rfl
theorem attach_call {l:OpenLaw}{n:Nat}{q:Program}{loose:List Str}{XP:(Str->Option Value)->Heap->Prop}{YP:World->Heap->Prop}{d:DefRec}
  (hn:l.most=some n) (hdf:d.params.defaults=[])
  (call:∀(w:World) (s₀ s₁:Shared) (mg mb:Str->Option Value) (fa:Addr) (o:Obj) (pm cd doc:Value) (a:Addr) (vs:List Value) (ns:List Int),
   Ground q loose [] XP w s₀ mg mb s₁.heap->YP w s₁.heap →
   s₁.heap.get? fa=some o->o.data=.func (docDef d.name d.params d.body d.scope pm cd doc)->s₁.heap.CodeRec cd d.name->mg d.name=some (.ref fa) →
   s₁.heap.get? a=some { cls:=.type "list",data:=.seq vs.toArray } -> IntsAre vs ns->ns.length<=n->s₁.gens = #[] →
   codeAny (model l.prog w) callerA (.call (.ref fa) ⟨[.ref a],[]⟩) (λr s'=>r=.ok (.ret (.bool true))/\OldK s₁.heap s'.heap/\s'.os=s₁.os/\AllBare s'.gens) s₁) :
  WalkO q loose XP YP l.row.toRowW d [] (λf vs=>PySem.call f vs):=by
 intro w s₀ s₁ mg mb G Y fa o pm cd doc dV kV ho hd hcd hD hmg hg args vals as hpre hlay hrd hwl hlo;obtain rfl:dV=.none:=Dflts.none hD hdf;obtain rfl:kV=.none:=Dflts.noKw hD;obtain⟨a,vs,ns,rfl,rfl,hobj,hints,hlen⟩:=Zoh hn hpre hwl;refine enter_call (codeAny_mono (call w s₀ s₁ mg mb fa o pm cd doc a vs ns G Y ho (fd_plain hd) hcd hmg hobj hints hlen hg) λr s' hq=>?_);obtain⟨rfl,h2,h3,h4⟩:=hq;exact⟨.inl ⟨.bool true,.bool true,[],rfl,λ_=>rfl,.bool true,Znz l _,λ_=>⟨List.Pairwise.nil,λ_ hm=>(nomatch hm)⟩⟩,h2,h3,h4⟩
section
variable {prog:Program}{w:World}{A:Around}{E:Value->Shared->Prop}{s:Shared}{K:Frag}
def noObjs (h:Heap):Heap:={ h with objs:=#[] }
end
end Att
namespace L2
open PySem PySem.Spec PyProof.Rows
theorem Zeg:∀{vs:List Value}{ns:List Int},IntsAre vs ns->Vals (ns.map V.int) vs
 |_,_,.nil=>.nil
 |_,_,.cons n t h=>.cons ⟨t,rfl⟩ (Zeg h)
def Only (H:Hp):Prop:=∀b,H b=none\/∃o xs,H b=some (.frz o (.lst xs))
theorem Zrf {P:Program}{w:World}{K:W.Frag}{mg mb:Str->Option Value}{CX:CXT}{k:Nat}{fa a:Addr}{fd:FuncData}{x:Str}{sp:Sp}{s₁:Shared}{vs:List Value}{ns:List Int}
  (KX:K.In s₁.heap) (hns:s₁.heap.Ns mainGlobals mg) (hb:s₁.heap.Ns builtinsNs mb) (hbb:∀x:Str,x ≠ "__name__" -> mb x=bootBuiltins x) (hlim:s₁.heap.NoLimit) (hg:s₁.gens = #[])
  (ha:s₁.heap.get? a=some { cls:=.type "list",data:=.seq vs.toArray }) (hi:IntsAre vs ns) (hl:ns.length<=sizeLine) (hr:Room k callerA)
  (F:∀base:Heap,K.In base->base.Ns mainGlobals mg->FnOk P w K mg base CX k fa fd [x] sp) (hbind:∀(s:Shared) (u:Value),BindsTo s fd ⟨[u],[]⟩ [(x,u)])
  (hsp:∀H:Hp,Only H->SqL K H a (ns.map V.int)->sp [.ref a] H (λv _=>v=.bl true) λ_ _ _=>False)
  (hCX:∀H e s',CX [] H s₁ (λ_ _ _=>False) e s' -> False) :
  codeAny (model P w) callerA (.call (.ref fa) ⟨[.ref a],[]⟩) (λr s'=>r=.ok (.ret (.bool true))/\OldK s₁.heap s'.heap/\s'.os=s₁.os/\AllBare s'.gens) s₁:=by
 have rv:=Zeg hi;have lenV:=hi.length
 -- from an abstract heap in which nothing but the script may be tracked
 have core:∀H:Hp,Only H->SqL K H a (ns.map V.int)->HOk P w H s₁.heap->(∀b,H b≠none->b=a)->(H a≠none->K.lookup a=none) →
   codeAny (model P w) callerA (.call (.ref fa) ⟨[.ref a],[]⟩) (λr s'=>r=.ok (.ret (.bool true))/\OldK s₁.heap s'.heap/\s'.os=s₁.os/\AllBare s'.gens) s₁:=by
  intro H hO hS hok hA hK;have base_of:∀{b:Addr}{o:Obj},s₁.heap.get? b=some o->H b=none->(hidT s₁.heap H).get? b=some o:=λe n=>Zrw e n;have noA:∀{b:Addr}{o:Obj}{es:Array DictEntry}{ep:Nat},s₁.heap.get? b=some o->o.data=.dict es ep->H b=none:=λ{b o es ep} e d=>by
   cases q:H b with
   |none=>rfl
   |some u=>
    have e':b=a:=hA b (by rw[q];simp);subst e';rw[ha]at e;cases e;have d':Data.seq vs.toArray _=Data.dict es ep:=d;cases d'
  have nsK:∀{b:Addr}{m:Str->Option Value},s₁.heap.Ns b m->(hidT s₁.heap H).Ns b m:=λ{b m} ⟨o,es,ep,e,d,r⟩=>⟨o,es,ep,base_of e (noA e d),d,r⟩;have hKb:K.In (hidT s₁.heap H):=λb o e=>base_of (KX b o e) (by
   cases q:H b with
   |none=>rfl
   |some u=>
    have e':b=a:=hA b (by rw[q];simp);subst e';rw[hK (by rw[q];simp)]at e;cases e)
  have hM:Mod K mg (hidT s₁.heap H):=⟨hKb,nsK hns,⟨mb,nsK hb,hbb⟩,let ⟨mc,h1,h2⟩:=hlim; ⟨mc,nsK h1,h2⟩⟩;have e0:Env0 P w K mg (hidT s₁.heap H) callerA [] s₁ H:=⟨rfl,hM,λb o e=>Zsw e,Nat.le_of_eq<|Zo4 _ _,trivial,λb hb=>absurd (show b∈([]:List Addr) from hb) (by simp),hok,.of_eq hg⟩;refine codeAny_mono ((F _ hKb<|nsK hns).run callerA [] s₁ H ⟨[.ref a],[]⟩ [.ref a] [.ref a] _ _ hr e0 (hbind s₁ (.ref a)) (.cons rfl .nil) (hsp H hO hS)) λr s' h=>?_;cases r with
  |error e=>exact(hCX H e s' h).elim
  |ok fl=>
   cases fl with
   |next=>exact False.elim h
   |brk=>exact False.elim h
   |cont=>exact False.elim h
   |ret u=>
    obtain⟨v,H',os,bare,un,hok',r',q⟩:=h;have q':v=.bl true:=q;subst q';obtain rfl:u=Value.bool true:=r';refine⟨rfl,OldK.of_keep λb o e=>?_,os,bare⟩;cases q:H b with
    |none=>exact un.keep b o e q (by intro z;exact absurd (show b∈([]:List Addr) from z) (by simp)) (by simp)
    |some u=>
     rcases hO b with z|⟨ob,xs,z⟩
     ·rw[q]at z;cases z
     ·have z2:=un.frzs b ob _ z
      obtain⟨e1,_⟩:=hok b _ z;obtain⟨e2,_⟩:=hok' b _ z2;rw[e]at e1;cases e1;exact e2
 cases hk:K.lookup a with
 |some o=>
  -- the script is one of the module's own objects
  have e:=KX a o hk;rw[ha]at e;cases e;refine core (λ_=>none) (λ_=>.inl rfl) (.inr ⟨_,vs.toArray,_,hk,rfl,rfl,rfl,by rw[Wah,lenV];exact hl,by simpa using rv⟩) (λb u z=>by have z':(none:Option HO)=some u:=z;cases z') (λb z=>absurd rfl z) λz=>absurd rfl z
 |none=>
  refine core (λb=>if b=a then some (.frz { cls:=.type "list",data:=.seq vs.toArray } (.lst<|ns.map V.int)) else none) (λb=>?_) (.inl (.inr ⟨{ cls:=.type "list",data:=.seq vs.toArray },if_pos rfl⟩)) (λb u z=>?_) (λb z=>?_) λ_=>hk
  ·by_cases hb:b=a
   ·exact .inr ⟨_,_,if_pos hb⟩
   ·exact .inl<|if_neg hb
  ·by_cases hb:b=a
   ·have z':=(if_pos hb).symm.trans z
    cases z';subst hb;exact⟨ha,by rw[Waa];exact hl,vs,_,rv,ha⟩
   ·have z':=(if_neg hb).symm.trans z
    cases z'
  ·by_cases hb:b=a
   ·exact hb
   ·exact absurd (if_neg hb) z
end L2
namespace L2
open PySem PySem.Spec PyProof.Rows
theorem walk_of {l:PySem.W.OpenLaw}{n k:Nat}{q:Program}{loose:List Str}{XP:(Str->Option Value)->Heap->Prop}{YP:World->Heap->Prop}{d:DefRec}{K:Params->W.Frag}{CX:World->CXT}{sp:World->Sp}{x:Str}
  (hn:l.most=some n) (hn2:n<=sizeLine) (hdf:d.params.defaults=[]) (hr:Room k callerA)
  (hY:∀(w:World) (h:Heap),YP w h->(K w.params).In h)
  (F:∀(w:World) (mg:Str->Option Value) (fa:Addr) (h:Heap),(K w.params).In h->h.Ns mainGlobals mg->mg d.name=some (.ref fa) →
   ∃fd:FuncData,(∀(s:Shared) (u:Value),BindsTo s fd ⟨[u],[]⟩ [(x,u)]) ∧
    ∀base:Heap,(K w.params).In base->base.Ns mainGlobals mg->FnOk l.prog w (K w.params) mg base (CX w) k fa fd [x] (sp w))
  (hsp:∀(w:World) (H:Hp) (a:Addr) (ns:List Int),ns.length<=n->Only H->SqL (K w.params) H a (ns.map V.int)->sp w [.ref a] H (λv _=>v=.bl true) λ_ _ _=>False)
  (hCX:∀(w:World) (H:Hp) (s:Shared) (e:Value) (s':Shared),CX w [] H s (λ_ _ _=>False) e s' -> False) :
  PySem.W.WalkO q loose XP YP l.row.toRowW d [] (λf vs=>PySem.call f vs):=by
 refine Att.attach_call hn hdf λw s₀ s₁ mg mb fa o pm cd doc a vs ns G Y ho hd hcd hmg hobj hints hlen hg=>?_;have KX:=hY w _ Y;obtain⟨fd,hb,hF⟩:=F w mg fa _ KX G.T.g hmg;exact Zrf KX G.T.g G.T.b G.T.builtins G.T.nolimit hg hobj hints (Wby hlen hn2) hr hF hb (λH hO hS=>hsp w H a ns hlen hO hS) λH e s'=>hCX w H s₁ e s'
end L2
namespace L2
open PySem PySem.Spec PyProof.Rows
def defArgs (s:Stmt):Arguments:=match s with
 |.FunctionDef _ a _ _ _ _ _ _ _ _=>a
 |_=>{ posonlyargs:=[],args:=[],vararg:=none,kwonlyargs:=[],kw_defaults:=[],kwarg:=none,defaults:=[] }
def defBody (s:Stmt):List Stmt:=match s with
 |.FunctionDef _ _ b _ _ _ _ _ _ _=>b
 |_=>[]
def defScope (s:Stmt):Scope:=match s with
 |.FunctionDef _ _ _ _ _ _ sc _ _ _=>sc
 |_=>{ kind:=.function,names:=[],isGenerator:=false,isCoroutine:=false }
abbrev CX0:CXT:=λ_ _ _ _ _ _=>False
abbrev E0:XK:=λ_ _ _=>False
theorem pass0 {X:Cx}:Passes CX0 X E0:=λ_ _ _ _ _ _ _ h=>h.elim
structure Fun (K:W.Frag) (x qual:Str) (st:Stmt) (f:Addr) (fd:FuncData):Prop where
 ex:∃(oc:Value) (od:Option Addr) (kV doc pm:Value) (an:Option Addr) (cdv ct:Value) (osl:Array (Option Value)),
  fd=W.fnOf x qual (defArgs st) (defBody st) (defScope st) .none kV doc pm an cdv ct/\K.lookup f=some ⟨oc,od,.func fd,osl⟩ /\ W.codeIn K cdv qual=true
 kp:W.keepIn K (.ref f)=true
section
variable {P:Program}{w:World}{K:W.Frag}{mg:Str->Option Value}{base:Heap}
theorem Fun.ok {x qual:Str}{st:Stmt}{f:Addr}{fd:FuncData}{N ps:List Str}{k:Nat}{sp:Sp}(F:Fun K x qual st f fd) (S:FnScope N ps (defScope st)) (len:∀vs H Q E,sp vs H Q E->vs.length=ps.length)
  (hbody:∀(cdv:Value) (A:Around) (outer:List Env) (s:Shared) (H:Hp) (vs:List V) (Q:VK) (E:XK),Room k (A.deeper (envOfC qual (defScope st) s.heap.objs.size f cdv))->sp vs H Q E →
   ∃t,PSs (cxOf CX0 P w K mg base N qual (defScope st) f cdv A outer s H E).nox (defBody st) t/\t { nx:=λ_ H'=>Q .non H',rt:=Q } (start N vs) H):FnOk P w K mg base CX0 (k+1) f fd ps sp:=by
 obtain⟨oc,od,kV,doc,pm,an,cdv,ct,osl,rfl,lk,hcd⟩:=F.ex;refine Zvq lk hcd S len λA outer s H vs Q E hr hsp=>?_;obtain⟨t,h,q⟩:=hbody cdv A outer s H vs Q E hr hsp;exact⟨t,h.nox,q⟩
theorem Fun.binds {x qual:Str}{st:Stmt}{f:Addr}{fd:FuncData}{ps:List Str}(F:Fun K x qual st f fd)
  (h:∀(kV doc pm:Value) (an:Option Addr) (cdv ct:Value) (us:List Value),us.length=ps.length->bindArgs (W.fnOf x qual (defArgs st) (defBody st) (defScope st) .none kV doc pm an cdv ct) ⟨us,[]⟩=pure (ps.zip us)):Binds K fd ps []:=by
 obtain⟨oc,od,kV,doc,pm,an,cdv,ct,osl,rfl,lk,hcd⟩:=F.ex;exact .all<|h kV doc pm an cdv ct
theorem Zwm {x qual:Str}{st:Stmt}{f:Addr}{oc:Value}{od an:Option Addr}{osl:Array (Option Value)}{kV doc pm cdv ct:Value}(l:K.lookup f=some ⟨oc,od,.func<|W.fnOf x qual (defArgs st) (defBody st) (defScope st) .none kV doc pm an cdv ct,osl⟩)
  (c:W.codeIn K cdv qual=true) (k:W.keepIn K (.ref f)=true):Fun K x qual st f (W.fnOf x qual (defArgs st) (defBody st) (defScope st) .none kV doc pm an cdv ct):=⟨⟨oc,od,kV,doc,pm,an,cdv,ct,osl,rfl,l,c⟩,k⟩
end
theorem Zbv {A:Around}{k:Nat}(hr:Room k A):A.units+1<cLine:=Wch (Wd7 (by decide:1<=64) _) hr.units
theorem small1000 {n:Nat}(h:n<=1000):n<sizeLine:=Wch h (by decide)
section
variable {X:Cx}
theorem pv (i:Nat) {x:Str}{pos:Pos}(hN:X.N[i]?=some x:=by rfl) (hv:Vis X.env.scope x:=by first|exact Or.inl rfl|exact Or.inr (Or.inl rfl)|exact Or.inr<|Or.inr rfl) (hd:(x == ("__debug__":Str))=false:=by decide)
  (hcd:(x == ("__classdict__":Str))=false:=by decide):PE X (.Name x pos) (tVar i):=Zve hN hv hd hcd
end
theorem iteF {A B:Prop}(h:B):if false=true then A else B:=by
 rw[if_neg Wam];exact h
theorem iteT {A B:Prop}(h:A):if true=true then A else B:=by
 rw[if_pos rfl];exact h
theorem ite2 {c A B:Prop}[Decidable c] (h1:c->A) (h2:¬ c->B):if c then A else B:=by
 by_cases h:c
 ·rw[if_pos h]
  exact h1 h
 ·rw[if_neg h]
  exact h2 h
def Same (H H':Hp):Prop:=∀b o,H b=some o->H' b=some o
theorem Same.refl (H:Hp):Same H H:=λ_ _ h=>h
theorem Same.trans {H H1 H2:Hp}(a:Same H H1) (b:Same H1 H2):Same H H2:=λc o h=>b c o<|a c o h
theorem Same.seq {K:W.Frag}{H H':Hp}{a:Addr}{xs:List V}(e:Same H H') (h:SqL K H a xs):SqL K H' a xs:=by
 rcases h with (h|⟨o,h⟩)|h
 ·exact .inl (.inl<|e _ _ h)
 ·exact .inl (.inr ⟨o,e _ _ h⟩)
 ·exact .inr h
end L2
namespace L2
open PySem PySem.Spec PyProof.Rows
section
variable {κ:Type}[DecidableEq κ]
def valV (kvs:List (κ × V)) (k:κ):Option V:=(kvs.find? λkv=>decide (kv.1=k)).map (·.2)
def putK (kvs:List (κ × V)) (k:κ) (v:V):List (κ × V):=
 if (kvs.any λkv=>decide (kv.1=k))=true then kvs.map (λkv=>if kv.1=k then (kv.1,v) else kv) else kvs++[(k,v)]
theorem Ze8 {p:κ × V}{r:List (κ × V)}{k:κ}(e:p.1=k):valV (p::r) k=some p.2:=by simp[valV,Wbq,e]
theorem Zfk {p:κ × V}{r:List (κ × V)}{k:κ}(e:¬ p.1=k):valV (p::r) k=valV r k:=by simp[valV,Wbq,e]
theorem Zl0 (k:κ):∀kvs:List (κ × V),(kvs.any λkv=>decide (kv.1=k))=(valV kvs k).isSome
 |[]=>rfl
 |p::r=>by
  rw[Wcr];by_cases e:p.1=k
  ·simp only[Ze8 e,decide_eq_true e,Bool.true_or,Option.isSome_some]
  ·rw[Zfk e,decide_eq_false e,Bool.false_or];exact Zl0 k r
theorem Zd1 (kvs:List (κ × V)) (k:κ) (v:V):(putK kvs k v).length<=kvs.length+1:=by
 unfold putK;split
 ·rw[Waa];omega
 ·rw[Waj,Wan,Wdx];omega
theorem RelO.isSome_eq {o:Option V}{u:Option Value}(r:RelO o u):o.isSome=u.isSome:=by
 cases o with
 |none=>cases u with
  |none=>rfl
  |some _=>exact(show False from r).elim
 |some _=>cases u with
  |none=>exact(show False from r).elim
  |some _=>rfl
theorem RelO.getD {o:Option V}{u:Option Value}{d:V}{d':Value}(r:RelO o u) (rd:RelV d d'):RelV (o.getD d) (u.getD d'):=by
 cases o with
 |none=>cases u with
  |none=>exact rd
  |some _=>exact(show False from r).elim
 |some _=>cases u with
  |none=>exact(show False from r).elim
  |some _=>exact r
theorem KV.val {kvs:List (κ × V)}{vs:List (κ × Value)}(r:KV kvs vs) (k:κ):RelO (valV kvs k) (valueAt vs k):=by
 unfold KV at r
 induction r with
 |nil=>exact True.intro
 |@cons p q ps qs h t ih=>
  obtain⟨h1,h2⟩:=h;by_cases e:p.1=k
  ·have e':q.1=k:=h1.symm.trans e
   have b:valueAt (q::qs) k=some q.2:=by simp[valueAt,Wbq,e']
   rw[Ze8 e,b];exact h2
  ·have e':¬ q.1=k:=λz=>e (h1.trans z)
   have b:valueAt (q::qs) k=valueAt qs k:=by simp[valueAt,Wbq,e']
   rw[Zfk e,b];exact ih
theorem KV.any {kvs:List (κ × V)}{vs:List (κ × Value)}(r:KV kvs vs) (k:κ):(kvs.any λkv=>decide (kv.1=k))=vs.any λkv=>decide (kv.1=k):=by
 unfold KV at r
 induction r with
 |nil=>rfl
 |cons h t ih=>rw[Wcr,Wcr,ih,h.1]
theorem KV.repl {kvs:List (κ × V)}{vs:List (κ × Value)}(r:KV kvs vs) (k:κ) {y:V}{u:Value}(ry:RelV y u) :
  KV (kvs.map λkv=>if kv.1=k then (kv.1,y) else kv) (vs.map λkv=>if kv.1=k then (kv.1,u) else kv):=by
 unfold KV at r ⊢
 induction r with
 |nil=>exact .nil
 |@cons p q ps qs h t ih=>
  rw[Wa1,Wa1];refine .cons ?_ ih;obtain⟨h1,h2⟩:=h;by_cases e:p.1=k
  ·rw[if_pos e,if_pos (h1.symm.trans e)];exact⟨h1,ry⟩
  ·rw[if_neg e,if_neg (λz=>e<|h1.trans z)];exact⟨h1,h2⟩
theorem KV.put {kvs:List (κ × V)}{vs:List (κ × Value)}(r:KV kvs vs) (k:κ) {y:V}{u:Value}(ry:RelV y u):KV (putK kvs k y) (stored vs k u):=by
 unfold putK stored;rw[r.any k];by_cases e:(vs.any λkv=>decide (kv.1=k))=true
 ·rw[if_pos e,if_pos e];exact r.repl k ry
 ·rw[if_neg e,if_neg e];exact Paired.snoc r ⟨rfl,ry⟩
theorem KV.length {kvs:List (κ × V)}{vs:List (κ × Value)}(r:KV kvs vs):kvs.length=vs.length:=Paired.length r
end
theorem Zl9 {P:Program}{w:World}{k:Key}{u:Value}(r:RelV (kV k) u):(mixKind P w).is k u=true:=by
 cases k with
 |inl i=>obtain⟨t,e⟩:=(show ∃t,u=Value.int i t from r);subst e;exact Zkl P w i t
 |inr x=>obtain⟨t,e⟩:=(show ∃t,u=Value.str x t from r);subst e;exact Zkd P w x t
theorem Zi3 {P:Program}{w:World}:∀{ks:List Key}{us:List Value},Vals (ks.map kV) us->ItemsAre (mixKind P w) ks us
 |[],_,r=>by rw[List.map_nil]at r;cases r;exact .nil
 |k::ks,_,r=>by
  rw[Wa1]at r;cases r with
  |cons h t=>exact .cons (Zl9 h) (Zi3 t)
abbrev KT (H:Hp):List (List Key × V)->List (List Key × Addr × Value)->Prop:=Paired λp q=>p.1=q.1/\H q.2.1=some (.tup<|p.1.map kV)/\RelV p.2 q.2.2
theorem KT.val {H:Hp}{kvs:List (List Key × V)}{xs:List (List Key × Addr × Value)}(r:KT H kvs xs) (k:List Key):RelO (valV kvs k) ((atKey xs k).map (·.2)):=by
 induction r with
 |nil=>exact True.intro
 |@cons p q ps qs h t ih=>
  obtain⟨h1,_,h2⟩:=h;by_cases e:p.1=k
  ·have e':q.1=k:=h1.symm.trans e
   have b:atKey (q::qs) k=some q.2:=by simp[atKey,Wbq,e']
   rw[Ze8 e,b];exact h2
  ·have e':¬ q.1=k:=λz=>e (h1.trans z)
   have b:atKey (q::qs) k=atKey qs k:=by simp[atKey,Wbq,e']
   rw[Zfk e,b];exact ih
theorem KT.repl {H:Hp}{kvs:List (List Key × V)}{xs:List (List Key × Addr × Value)}(r:KT H kvs xs) (k:List Key) {y:V}{u:Value}(ry:RelV y u) :
  KT H (kvs.map λkv=>if kv.1=k then (kv.1,y) else kv) (xs.map<|putAt k u):=by
 induction r with
 |nil=>exact .nil
 |@cons p q ps qs h t ih=>
  rw[Wa1,Wa1];refine .cons ?_ ih;obtain⟨h1,h2,h3⟩:=h;unfold putAt;by_cases e:p.1=k
  ·rw[if_pos e,if_pos (h1.symm.trans e)];exact⟨h1,h2,ry⟩
  ·rw[if_neg e,if_neg (λz=>e<|h1.trans z)];exact⟨h1,h2,h3⟩
theorem KT.put {H:Hp}{kvs:List (List Key × V)}{xs:List (List Key × Addr × Value)}(r:KT H kvs xs) (k:List Key) {b:Addr}{y:V}{u:Value}(hb:H b=some (.tup<|k.map kV)) (ry:RelV y u) :
  KT H (putK kvs k y) (storedH xs k b u):=by
 have e:(kvs.any λkv=>decide (kv.1=k))=(atKey xs k).isSome:=by
  rw[Zl0,(r.val k).isSome_eq,Option.isSome_map]
 unfold putK storedH;rw[e];by_cases q:(atKey xs k).isSome=true
 ·rw[if_pos q,if_pos q];exact r.repl k ry
 ·rw[if_neg q,if_neg q];exact Paired.snoc r ⟨rfl,hb,ry⟩
theorem KT.keeps {H H':Hp}{kvs:List (List Key × V)}{xs:List (List Key × Addr × Value)}(r:KT H kvs xs) (ht:∀b ys,H b=some (.tup ys)->H' b=some (.tup ys)):KT H' kvs xs:=
 Paired.mapP r λ_ _ z=>⟨z.1,ht _ _ z.2.1,z.2.2⟩
section
variable {P:Program}{w:World}{H:Hp}{h:Heap}{a:Addr}
theorem Zv0 {u:HO}(ok:HOk P w H h) (e:Rd H a u):ObjOk P w H h a u:=e.ok ok
theorem Zmi {kvs:List (Key × V)}(ok:HOk P w H h) (e:Rd H a (.dK kvs)):kvs.length<=sizeLine/\(a == sysModules)=false/\∃vs,KV kvs vs/\h.DictOf (mixKind P w) a vs:=
 show ObjOk P w H h a (.dK kvs) from Zv0 ok e
theorem Zt1 {kvs:List (Key × V)}(ok:HOk P w H h) (e:H a=some (.dK kvs)):kvs.length<=sizeLine/\(a == sysModules)=false/\∃vs,KV kvs vs/\h.DictOf (mixKind P w) a vs:=Zmi ok (.inl e)
theorem Zhq {ks:List Key}(ok:HOk P w H h) (e:H a=some (.tup<|ks.map kV)):(tupleKind<|mixKind P w).is h ks a:=by
 obtain⟨_,its,r,o,h1,⟨h2,n,h3⟩,_⟩:=(show ObjOk P w H h a (.tup<|ks.map kV) from ok a _ e);exact⟨o,its.toArray,n,h1,h2,h3,by simpa using Zi3 r⟩
theorem Zot {kvs:List (List Key × V)}(ok:HOk P w H h) (e:Rd H a (.dT kvs)):kvs.length<=sizeLine/\(a == sysModules)=false ∧
  ∃xs,KT H kvs xs/\h.DictOfH (tupleKind<|mixKind P w) a xs:=by
 obtain⟨z,y,xs,r,o,es,ep,h1,h2,h3,h4,h5⟩:=(show ObjOk P w H h a (.dT kvs) from Zv0 ok e);refine⟨z,y,xs,r,o,es,ep,h1,h2,h3,h4,λx hx=>?_,h5⟩;have all:∀{l:List (List Key × V)}{m:List (List Key × Addr × Value)},KT H l m->∀x∈m,(tupleKind<|mixKind P w).is h x.1 x.2.1:=by
  intro l m q
  induction q with
  |nil=>intro x hx;exact nomatch hx
  |@cons p q ps qs hq t ih=>
   intro x hx;rcases Wap.mp hx with e|hx
   ·subst e
    exact Zhq ok (by rw[<- hq.1];exact hq.2.1)
   ·exact ih x hx
 exact all r x hx
theorem Zvu {kvs:List (List Key × V)}(ok:HOk P w H h) (e:H a=some (.dT kvs)):kvs.length<=sizeLine/\(a == sysModules)=false ∧
  ∃xs,KT H kvs xs/\h.DictOfH (tupleKind<|mixKind P w) a xs:=Zot ok (.inl e)
end
def DGet (H:Hp) (a:Addr) (y:V) (r:Option V):Prop:=
 (∃kvs k,Rd H a (.dK kvs)/\y=kV k/\r=valV kvs k)\/∃kvs k b,Rd H a (.dT kvs)/\y=.ref b/\H b=some (.tup<|k.map kV)/\r=valV kvs k
def DPut (H:Hp) (a:Addr) (y v:V) (H':Hp):Prop:=
 (∃kvs k,H a=some (.dK kvs)/\y=kV k/\kvs.length<sizeLine/\H'=upd H a (.dK<|putK kvs k v)) ∨
 ∃kvs k b,H a=some (.dT kvs)/\y=.ref b/\H b=some (.tup<|k.map kV)/\kvs.length<sizeLine/\H'=upd H a (.dT<|putK kvs k v)
theorem DGet.k {H:Hp}{a:Addr}{kvs:List (Key × V)}{k:Key}(e:H a=some (.dK kvs)):DGet H a (kV k) (valV kvs k):=.inl ⟨kvs,k,.inl e,rfl,rfl⟩
theorem DGet.t {H:Hp}{a b:Addr}{kvs:List (List Key × V)}{k:List Key}(e:H a=some (.dT kvs)) (eb:H b=some (.tup<|k.map kV)):DGet H a (.ref b) (valV kvs k):=.inr ⟨kvs,k,b,.inl e,rfl,eb,rfl⟩
theorem DPut.k {H:Hp}{a:Addr}{kvs:List (Key × V)}{k:Key}{v:V}(e:H a=some (.dK kvs)) (hl:kvs.length<sizeLine):DPut H a (kV k) v (upd H a (.dK<|putK kvs k v)):=.inl ⟨kvs,k,e,rfl,hl,rfl⟩
section
variable {X:Cx}{pins:List (Addr × Obj)}{σ:St}{H:Hp}{s:Shared}{a:Addr}{y v:V}{u r:Value}{o:Option V}{A:Around}{E:Value->Shared->Prop}
theorem Inv.big (I:Inv X pins σ H s):sysModules<s.heap.objs.size:=by
 have h:mainGlobals<s.heap.objs.size:=(I.mod.glob.keeps I.bk).lt;exact Nat.lt_trans (by decide) h
theorem Znf {Q:Value->Shared->Prop}(hu:A.units+1<cLine) (I:Inv X pins σ H s) (g:DGet H a y (some v)) (ry:RelV y u) (h:∀w' s',Inv X pins σ H s' -> RelV v w' -> Q w' s') :
  wpAny (model X.prog X.w) A (getItem (.ref a) u) Q E s:=by
 rcases g with ⟨kvs,k,e,ey,l⟩|⟨kvs,k,b,e,ey,eb,l⟩
 ·subst ey
  obtain⟨z,hd,vs,rel,dd⟩:=Zmi I.hok e;obtain⟨w',hw,rw'⟩:=RelO.some_of (v:=v) (o:=valueAt vs k) (by rw[l];exact rel.val k);exact wpAny_getItem_of (Zl9 ry) dd.mapOf hw<|h w' _ (I.tok _) rw'
 ·subst ey
  cases (show u=Value.ref b from ry);obtain⟨z,hd,xs,rel,dd⟩:=Zot I.hok e;obtain⟨w',hw,rw'⟩:=RelO.some_of (v:=v) (o:=(atKey xs k).map (·.2)) (by rw[l];exact rel.val k);obtain⟨p,hp,hp2⟩:=Option.map_eq_some_iff.mp hw;refine wpAny_getItem_heap (tupleKind_room_in1 hu) (Zhq I.hok eb) dd hp ?_;rw[hp2];exact h w' _ (I.tok _) rw'
theorem Zun {Q:Value->Shared->Prop}(hu:A.units+1<cLine) (I:Inv X pins σ H s) (g:DGet H a y o) (ry:RelV y u) (h:∀s',Inv X pins σ H s' -> Q (.bool (!o.isSome)) s') :
  wpAny (model X.prog X.w) A (compareOp .NotIn u (.ref a)) Q E s:=by
 rcases g with ⟨kvs,k,e,ey,l⟩|⟨kvs,k,b,e,ey,eb,l⟩
 ·subst ey
  obtain⟨z,hd,vs,rel,dd⟩:=Zmi I.hok e;refine wpAny_notIn_of (Zl9 ry) hd dd.mapOf ?_;rw[<- (rel.val k).isSome_eq,<- l];exact h _<|I.tok _
 ·subst ey
  cases (show u=Value.ref b from ry);obtain⟨z,hd,xs,rel,dd⟩:=Zot I.hok e;refine wpAny_notIn_heap (tupleKind_room_in1 hu) (Zhq I.hok eb) hd dd ?_;have q:=(rel.val k).isSome_eq;rw[Option.isSome_map]at q;rw[<- q,<- l];exact h _<|I.tok _
theorem Zg0 {h':Heap}{t':Nat}{ob:HO}(I:Inv X pins σ H s) (mu:Mut (H a)) (hs:Heap.SameBut a s.heap h') (he:∃q,h'.get? a=some q) (new:ObjOk X.prog X.w (upd H a ob) h' a ob) :
  Inv X pins σ (upd H a ob) { s with heap:=h',toks:=t' }:=
 I.write (x:=a) (e:=a) mu (.inl rfl) (λb q hb z=>(hs.2 b hb).trans z) he new
theorem Zsg {P:Program}{w:World}{H':Hp}{h':Heap}{kvs:List (Key × V)}{vs:List (Key × Value)}(z:kvs.length<=sizeLine) (hd:(a == sysModules)=false) (rel:KV kvs vs) (dd:h'.DictOf (mixKind P w) a vs) :
  ObjOk P w H' h' a (.dK kvs):=⟨z,hd,vs,rel,dd⟩
theorem Zoj {H':Hp}{Q:Unit->Shared->Prop}(hu:A.units+1<cLine) (I:Inv X pins σ H s) (g:DPut H a y v H') (ry:RelV y u) (rv:RelV v r) (h:∀s',Inv X pins σ H' s' -> Q () s') :
  wpAny (model X.prog X.w) A (setItem (.ref a) u r) Q E s:=by
 rcases g with ⟨kvs,k,e,ey,l,eH⟩|⟨kvs,k,b,e,ey,eb,l,eH⟩
 ·subst ey eH
  obtain⟨z,hd,vs,rel,dd⟩:=Zt1 I.hok e;have hz:vs.length<=sizeLine:=by rw[<- rel.length];exact z
  have hl:(putK kvs k v).length<=sizeLine:=by have:=Zd1 kvs k v;omega
  refine wpAny_setItem_pairs (hsz:=hz) (Zl9 ry) dd λh' dd' hs=>h _ ?_;have he:∃q,h'.get? a=some q:=let ⟨q,_,_,hq,_⟩:=dd'; ⟨q,hq⟩
  exact Zg0 I (by rw[e];exact True.intro) hs he<|Zsg hl hd (rel.put k rv) dd'
 ·subst ey eH
  cases (show u=Value.ref b from ry);obtain⟨z,hd,xs,rel,dd⟩:=Zvu I.hok e;have hz:xs.length<=sizeLine:=by rw[<- Paired.length rel];exact z
  have hl:(putK kvs k v).length<=sizeLine:=by have:=Zd1 kvs k v;omega
  refine wpAny_setItem_heap (hsz:=hz) (tupleKind_room_in1 hu) (Zhq I.hok eb) dd λh' dd' hs=>h _ ?_;obtain⟨q,es,ep,hq,h2,h3,h4,_,h5⟩:=dd';refine Zg0 I (by rw[e];exact True.intro) hs ⟨q,hq⟩ ⟨hl,hd,_,(rel.put k eb rv).keeps λc ys ec=>?_,q,es,ep,hq,h2,h3,h4,h5⟩;rw[Zan (Zu6 ec e λz=>nomatch z)];exact ec
end
section
variable {X:Cx}{pins:List (Addr × Obj)}{σ:St}{H:Hp}{s:Shared}{a:Addr}{kvs:List (Key × V)}{k:Key}{u:Value}{A:Around}{E:Value->Shared->Prop}
theorem Zxd {Q:Value->Shared->Prop}(I:Inv X pins σ H s) (e:Rd H a (.dK kvs)) (h:∀t s',Inv X pins σ H s' -> Q (.int kvs.length t) s'):wpAny (model X.prog X.w) A (call (.builtin "len") [.ref a]) Q E s:=by
 obtain⟨z,hd,vs,rel,dd⟩:=Zmi I.hok e;refine call_len_dict hd dd (by rw[<- rel.length];rw[sizeLine_eq]at z;omega) ?_;rw[<- rel.length];exact h _ _<|I.tok _
end
theorem Zku {X:Cx}{pins:List (Addr × Obj)}{σ:St}{H:Hp}{s:Shared}{a:Addr}{y:V}{o:Option V}(I:Inv X pins σ H s) (g:DGet H a y o):s.TypeIs (.ref a) "dict":=by
 rcases g with ⟨kvs,k,e,_,_⟩|⟨kvs,k,b,e,_,_,_⟩
 ·obtain⟨_,_,vs,_,dd⟩:=Zmi I.hok e
  exact dd.typeIs
 ·obtain⟨_,_,xs,_,dd⟩:=Zot I.hok e
  exact dd.typeIs
theorem Zl1 {P:Program}{w:World}{H:Hp}(h:Heap) (hb:sysModules<h.objs.size):ObjOk P w H (h.push { cls:=.type "dict",data:=.dict #[] }) h.objs.size (.dK []):=
 ⟨Wbx _,beq_eq_false_iff_ne.mpr<|Ne.symm<|Wa8 hb,[],.nil,Heap.DictOf.new h⟩
theorem Zrx {P:Program}{w:World}{H:Hp}(h:Heap) (hb:sysModules<h.objs.size):ObjOk P w H (h.push { cls:=.type "dict",data:=.dict #[] }) h.objs.size (.dT []):=
 ⟨Wbx _,beq_eq_false_iff_ne.mpr<|Ne.symm<|Wa8 hb,[],.nil,_,#[],0,Wao _ rfl,⟨rfl,rfl,rfl⟩,rfl,rfl,Wd2⟩
def tDNewK:TE:=λ_ H Q=>∀p,H p=none->Q (.ref p) (upd H p (.dK []))
section
variable {X:Cx}{pos:Pos}
theorem Zlb:PE X (.Dict [] [] pos) tDNewK:=λpins s σ H Q I h=>
 wpAny_Dict_empty ⟨.ref s.heap.objs.size,_,I.laid (a:=s.heap.objs.size) (o:=.dK []) (t':=s.toks) (λ_ _ q=>Wac _ q) (Wak _)<|Zl1 s.heap I.big,rfl,h _<|I.hok.fresh<|Wak _⟩
end
section
variable {X:Cx}{pins:List (Addr × Obj)}{σ:St}{H:Hp}{s:Shared}{a:Addr}{y d:V}{u r:Value}{o:Option V}{A:Around}{E:Value->Shared->Prop}
theorem Zwf {Q:Value->Shared->Prop}(hu:A.units+1<cLine) (I:Inv X pins σ H s) (g:DGet H a y o) (ry:RelV y u) (rd:RelV d r) (h:∀w' s',Inv X pins σ H s' -> RelV (o.getD d) w' -> Q w' s') :
  wpAny (model X.prog X.w) A (call (.builtin "dict.get") [.ref a,u,r]) Q E s:=by
 rcases g with ⟨kvs,k,e,ey,l⟩|⟨kvs,k,b,e,ey,eb,l⟩
 ·subst ey
  obtain⟨z,hd,vs,rel,dd⟩:=Zmi I.hok e;refine call_meetsIn PySem.F.slot_dict_get dd.typeIs PySem.F.entry_dict_get (PySem.F.args_dict_get_3 _ _ _) (meets_dict_get_default (mixKind X.prog X.w) a (Zl9 ry) hd r) ⟨_,dd.mapOf,h _ _ (I.tok _) ?_⟩;rw[l];exact(rel.val k).getD rd
 ·subst ey
  cases (show u=Value.ref b from ry);obtain⟨z,hd,xs,rel,dd⟩:=Zot I.hok e;refine call_meetsIn PySem.F.slot_dict_get dd.typeIs PySem.F.entry_dict_get (PySem.F.args_dict_get_3 _ _ _) (meetsH_dict_get_default (tupleKind<|mixKind X.prog X.w) a b hd r) ⟨tupleKind_room_in1 hu,k,xs,Zhq I.hok eb,dd,h _ _ (I.tok _) ?_⟩;rw[l];exact(rel.val k).getD rd
end
section
variable {X:Cx}{pins:List (Addr × Obj)}{σ:St}{H:Hp}{s:Shared}{a:Addr}{kvs:List (Key × V)}{A:Around}{E:Value->Shared->Prop}
end
end L2
namespace L2
open PySem PySem.Spec PyProof.Rows
section
variable {X:Cx}
theorem Zn7:CallR X (.builtin "len") (λxs H Q=>∃a kvs,xs=[V.ref a]/\H a=some (.dK kvs)/\Q (.int kvs.length) H):=by
 intro pins s σ H xs us Q I r h;obtain⟨a,kvs,rfl,ha,q⟩:=h;obtain⟨u,rfl,ru⟩:=vals1 r;cases ru;exact Zxd I (.inl ha) λt s' I'=>⟨.int kvs.length,H,I',⟨t,rfl⟩,q⟩
end
def clOf (env:Env):List (Str × NameKind)->List (Str × Addr)->List (Str × Addr)
 |[],cs=>cs
 | (n,k)::r,cs=>if k == .free then (match env.cells.lookup n with
     |some a=>clOf env r ((n,a)::cs)
     |none=>clOf env r cs) else clOf env r cs
theorem Zg1 {env:Env}:∀(names:List (Str × NameKind)) (cs:List (Str × Addr)),(∀n,(n,NameKind.free)∈names->∃a,env.cells.lookup n=some a) →
  (forIn names cs λ(x:Str × NameKind) (cs:List (Str × Addr))=>if (x.2 == .free)=true then (do let a ← cellOf env x.1;pure (ForInStep.yield ((x.1,a)::cs))) else pure (ForInStep.yield cs):Sem (List<|Str × Addr))=pure (clOf env names cs)
 |[],cs,_=>rfl
 | (n,k)::r,cs,h=>by
  rw[List.forIn_cons];have hr:∀m,(m,NameKind.free)∈r->∃a,env.cells.lookup m=some a:=λm hm=>h m<|Way _ hm;cases hk:k == NameKind.free with
  |false=>
   have e:clOf env ((n,k)::r) cs=clOf env r cs:=by simp[clOf,hk]
   rw[e,<- Zg1 r cs hr];simp only[hk,Wde,if_false];rfl
  |true=>
   have hk':k=.free:=by simpa using hk
   subst hk';obtain⟨a,ha⟩:=h n Wat;have e:clOf env ((n,.free)::r) cs=clOf env r ((n,a)::cs):=by simp[clOf,ha]
   have ec:cellOf env n=pure a:=by simp[cellOf,ha]
   rw[e,<- Zg1 r ((n,a)::cs) hr];simp only[hk,if_true,ec];rfl
theorem Zbp {env:Env}{scope:Scope}(h:∀n,(n,NameKind.free)∈scope.names->∃a,env.cells.lookup n=some a):closureFor scope env=pure (clOf env scope.names []):=by
 rw[<- Zg1 scope.names [] h];simp only[closureFor];exact Eq.trans (bind_pure _) rfl
theorem Zby {env:Env}:∀(names:List (Str × NameKind)) (cs:List (Str × Addr)) {x:Str}{c:Addr},(∀y d,cs.lookup y=some d->env.cells.lookup y=some d)->(clOf env names cs).lookup x=some c->env.cells.lookup x=some c
 |[],cs,x,c,h,e=>h x c e
 | (n,k)::r,cs,x,c,h,e=>by
  unfold clOf at e;split at e
  ·split at e
   ·rename_i a ha
    refine Zby r ((n,a)::cs) (λy d q=>?_) e;rw[Wcn]at q;split at q
    ·rename_i hy
     have hy':y=n:=by simpa using hy
     cases q;rw[hy'];exact ha
    ·exact h y d q
   ·exact Zby r cs h e
  ·exact Zby r cs h e
theorem Ze9 {env:Env}:∀(names:List (Str × NameKind)) (cs:List (Str × Addr)) {x:Str},(∃c,cs.lookup x=some c)->∃c,(clOf env names cs).lookup x=some c
 |[],cs,x,h=>h
 | (n,k)::r,cs,x,h=>by
  have h2:∀a,∃c,((n,a)::cs).lookup x=some c:=λa=>by
   rw[Wcn];split
   ·exact⟨_,rfl⟩
   ·exact h
  unfold clOf;split
  ·split
   ·exact Ze9 r _<|h2 _
   ·exact Ze9 r cs h
  ·exact Ze9 r cs h
theorem Zfg {env:Env}:∀(names:List (Str × NameKind)) (cs:List (Str × Addr)) {x:Str},(x,NameKind.free)∈names->(∃a,env.cells.lookup x=some a)->∃c,(clOf env names cs).lookup x=some c
 |[],_,_,h,_=>by simp at h
 | (n,k)::r,cs,x,h,⟨a,ha⟩=>by
  rcases Wap.mp h with e|hm
  ·have e1:n=x:=(congrArg Prod.fst e).symm
   have e2:k=.free:=(congrArg Prod.snd e).symm;subst e1;subst e2;have e:clOf env ((n,.free)::r) cs=clOf env r ((n,a)::cs):=by simp[clOf,ha]
   rw[e];exact Ze9 r _ ⟨a,by simp⟩
  ·unfold clOf
   split
   ·split
    ·exact Zfg r _ hm ⟨a,ha⟩
    ·exact Zfg r _ hm ⟨a,ha⟩
   ·exact Zfg r _ hm ⟨a,ha⟩
def relab (osc scope:Scope):Scope:=
 { scope with names:=scope.names.map λ(n,k)=>if (k == .free && osc.kind == .function && osc.names.lookup n == some .cell) then (n,.cell) else (n,k) }
theorem Zji {osc scope:Scope}{x:Str}{k:NameKind}(hk:k=.cell\/k=.free) (hc:∀y∈scope.names,y.2≠.cell) (h:(relab osc scope).names.lookup x=some k):(x,NameKind.free)∈scope.names:=by
 have hm:=PySem.mem_of_lookup h;obtain⟨⟨n,j⟩,hy,e⟩:=Was.mp hm;dsimp only at e;split at e
 ·rename_i hj
  have e1:n=x:=congrArg Prod.fst e;have hj':j=.free:=by
   simp only[Wbw,beq_iff_eq]at hj;exact hj.1.1
  rw[<- e1,<- hj'];exact hy
 ·have e1:n=x:=congrArg Prod.fst e
  have e2:j=k:=congrArg Prod.snd e;rcases hk with z|z
  ·exact absurd (show ((n,j):Str × NameKind).2=.cell from e2.trans z)<|hc _ hy
  ·rw[<- e1,<- z,<- e2];exact hy
theorem Zhp {osc:Scope}{x:Str}:∀{names:List (Str × NameKind)},names.lookup x=some .free →
  (names.map λ(n,k)=>if (k == NameKind.free && osc.kind == .function && osc.names.lookup n == some .cell) then (n,NameKind.cell) else (n,k)).lookup x=some .cell ∨
  (names.map λ(n,k)=>if (k == NameKind.free && osc.kind == .function && osc.names.lookup n == some .cell) then (n,NameKind.cell) else (n,k)).lookup x=some .free
 |[],h=>by simp at h
 | (n,k)::r,h=>by
  have ih:=@Zhp osc x r;rw[Wa1];cases hx:x == n with
  |true=>
   simp only[Wcn,hx]at h;cases h;dsimp only;split
   ·left;simp[Wcn,hx]
   ·right;simp[Wcn,hx]
  |false=>
   simp only[Wcn,hx]at h;dsimp only;split
   ·simpa only[Wcn,hx] using ih h
   ·simpa only[Wcn,hx] using ih h
structure CompSc (osc:Scope) (oN:List Str) (scope:Scope) (fvs:List Str) (sel:List Nat):Prop where
 kind:scope.kind=.function
 nocell:∀y∈scope.names,y.2≠.cell
 names:∀y∈scope.names,y.2=.local->scope.names.lookup y.1=some .local
 free:∀y∈scope.names,y.2=.free->osc.names.lookup y.1=some .cell\/osc.names.lookup y.1=some .free
 len:fvs.length=sel.length
 fv:∀p∈fvs.zip sel,oN[p.2]?=some p.1/\scope.names.lookup p.1=some .free
def compCx (X:Cx) (scope:Scope) (N:List Str) (C:Addr) (s:Shared) (H:Hp) (ex:List Addr) (pn:List (Addr × Obj)):Cx where
 prog:=X.prog
 w:=X.w
 K:=X.K
 mg:=X.mg
 base:=X.base
 A:=X.A
 N:=N
 s₀:=s
 H₀:=H
 env:=compEnvC scope (clOf X.env scope.names []) C X.env
 outer:=X.stack
 stack:=X.stack
 ex:=ex
 fn:=λ_=>false
 calm:=X.calm
 pn:=pn
 xe:=λ_ _=>False
def compSt (n:Nat) (sel:List Nat) (σ:St):St:=Wae n none++sel.map λi=>(σ[i]?).getD none
section
variable {X:Cx}{pins:List (Addr × Obj)}{σ:St}{H:Hp}{s:Shared}{fp:List Addr}{scope:Scope}{tgs fvs:List Str}{sel:List Nat}
theorem Zcp (S:CompSc X.env.scope X.N scope fvs sel) (ok:X.Ok):∀n,(n,NameKind.free)∈scope.names->∃a,X.env.cells.lookup n=some a:=λn hn=>
 ok.has n (S.free _ hn rfl)
theorem Zua (S:CompSc X.env.scope X.N scope fvs sel) (N:List Str) (I:Inv X pins σ H s) (hf:∀b∈fp,FpOk X pins H b) (hlt:∀b∈fp,b<s.heap.objs.size):(compCx X scope N s.heap.objs.size s H fp<|X.pn++pins).Ok where
 mod:=I.ok.mod
 kind:=S.kind
 glob:=I.ok.glob
 blt:=I.ok.blt
 above:=Wak _
 inj:=λx y c h1 h2=>I.ok.inj x y c (Zby _ _ (λ_ _ z=>by simp at z) h1)<|Zby _ _ (λ_ _ z=>by simp at z) h2
 has:=λx hx=>by
  have hm:(x,NameKind.free)∈scope.names:=by
   rcases hx with z|z
   ·exact Zji (osc:=X.env.scope) (.inl rfl) S.nocell z
   ·exact Zji (osc:=X.env.scope) (.inr rfl) S.nocell z
  exact Zfg scope.names [] hm<|Zcp S I.ok x hm
 cab:=λx c h _=>by cases h
 hd:=I.ok.hd
 frames:=I.ok.frames
 stk:=.inl rfl
 exf:=λb hb=>⟨Wa8<|hlt b hb,λx c e=>(hf b hb).2.2.2.2.1 x c (Zby _ _ (λ_ _ z=>by simp at z) e)⟩
 bs:=I.bs
 bsz:=Wby I.ok.bsz I.sz
 noex:=λb o e hb=>by
  rcases(hf b hb).2.2.2.1 with z|z
  ·exact I.ok.noex b o e z
  ·exact absurd (Wbh (Wax e)<|Wby I.ok.bsz z)<|Wdf _
 exfs:=λb hb z=>by
  rcases Wap.mp (I.stkSub b z) with e|z
  ·exact(hf b hb).2.1 e
  ·exact(hf b hb).2.2.1 z
 funs:=I.stack
 frf:=I.stkFree
theorem Zhy (S:CompSc X.env.scope X.N scope fvs sel) (I:Inv X pins σ H s) (hf:∀b∈fp,FpOk X pins H b) (hlt:∀b∈fp,b<s.heap.objs.size) {h':Heap}{tk:Nat}{m:Str->Option Value}
  (hns:h'.Ns s.heap.objs.size m) (old:∀b o,s.heap.get? b=some o->h'.get? b=some o) :
  Inv (compCx X scope (tgs++fvs) s.heap.objs.size s H fp<|X.pn++pins) [] (compSt tgs.length sel σ) H { s with heap:=h',toks:=tk } where
 ok:=Zua S _ I hf hlt
 os:=rfl
 bare:=I.bare
 base:=Un.kept old
 loc:=by
  refine⟨m,hns,λi x v h1 h2 h3=>?_⟩;have h1:(tgs++fvs)[i]?=some x:=h1;unfold compSt at h2;by_cases hi:i<tgs.length
  ·rw[Wbm (by simpa using hi),Wcx,if_pos hi]at h2
   cases h2
  ·have hi':tgs.length<=i:=Nat.le_of_not_lt hi
   rw[Wbc (by simpa using hi'),Wad,Wa2]at h2;rw[Wbc hi']at h1;cases hj:sel[i-tgs.length]? with
   |none=>rw[hj]at h2;cases h2
   |some j=>
    rw[hj]at h2;have h2:(σ[j]?).getD none=some v:=by simpa using h2
    have hz:(x,j)∈fvs.zip sel:=by
     refine Wai (i:=i-tgs.length) ?_;rw[Wce];exact⟨h1,hj⟩
    obtain⟨hN,hfr⟩:=S.fv _ hz;have hσ:σ[j]?=some (some v):=by
     cases q:σ[j]? with
     |none=>rw[q]at h2;cases h2
     |some o=>rw[q]at h2;exact congrArg some h2
    have hko:X.env.scope.names.lookup x=some .cell\/X.env.scope.names.lookup x=some .free:=S.free (x,.free) (PySem.mem_of_lookup hfr) rfl;obtain⟨m0,hn0,hl0⟩:=I.loc;obtain⟨u,r,l⟩:=hl0 j x v hN hσ (.inr hko);refine⟨u,r,.inr ⟨Zhp hfr,?_⟩⟩;rcases l with ⟨hk,_⟩|⟨_,c,hc,hcell⟩
    ·have hk:X.env.scope.names.lookup x=some .local:=hk
     rcases hko with z|z <;> (rw[hk]at z;cases z)
    ·obtain⟨c',hc'⟩:=Zfg scope.names [] (PySem.mem_of_lookup hfr) ⟨c,hc⟩
     have e:=Zby scope.names [] (λ_ _ z=>by simp at z) hc';rw[hc]at e;cases e;obtain⟨o,ho,hd⟩:=hcell;exact⟨c,hc',o,old _ _ ho,hd⟩
 cell:=λx c e=>by
  obtain⟨v,o,ho,hd⟩:=I.cell x c<|Zby _ _ (λ_ _ z=>by simp at z) e;exact⟨v,o,old _ _ ho,hd⟩
 free:=I.hok.fresh<|Wak _
 freeC:=λx c e=>I.freeC x c<|Zby _ _ (λ_ _ z=>by simp at z) e
 pin:=λp hp=>by
  have hp:p∈(X.pn++pins)++[]:=hp;rw[Wa3]at hp;obtain⟨e,n,ne,nf,d⟩:=I.pin p hp;refine⟨old _ _ e,n,Wa8<|Wax e,λz=>?_,d⟩;rcases Wap.mp (I.stkSub p.1 z) with q|q
  ·exact ne q
  ·exact nf q
 hok:=I.hok.kept old
 len:=by
  unfold compSt;show _=(tgs++fvs).length;rw[Waj,Waj,Wa2,Waa,S.len]
theorem Zd9 {N:List Str}{σ':St}{H':Hp}{s':Shared}{h':Heap}(I:Inv X pins σ H s) (hf:∀b∈fp,FpOk X pins H b)
  (J:Inv (compCx X scope N s.heap.objs.size s H fp<|X.pn++pins) [] σ' H' s') (sb:Heap.SameBut s.heap.objs.size s'.heap h'):Inv X pins σ H' { s' with heap:=h' }:=by
 have B:Un (frs X.stack) fp H H' s.heap s'.heap:=J.base;have ne:∀b o,s.heap.get? b=some o->b≠s.heap.objs.size:=λb o e=>Wa8<|Wax e;have fr:H' s.heap.objs.size=none:=J.free;refine I.call' (s':={ s' with heap:=h' }) (ch:=fp) J.os ⟨λb o e n h1 h2=>?_,λb o e n h1 h2=>?_,B.free,λb o e h2=>?_,B.tups,B.frzs,B.tbls⟩ (λb ob e=>?_) J.bare λb hb=>?_
 ·exact(sb.2 b<|ne b o e).trans (B.keep b o e n h1 h2)
 ·obtain⟨sl,q⟩:=B.slot b o e n h1 h2
  exact⟨sl,(sb.2 b<|ne b o e).trans q⟩
 ·obtain⟨o',q⟩:=B.there b o e h2
  exact⟨o',(sb.2 b<|ne b o e).trans q⟩
 ·refine(J.hok b ob e).stay (λc w' hc q=>(sb.2 c ?_).trans q) (λ_ q=>q) λ_ _ q=>q
  intro z;rcases hc with hc|hc
  ·rw[<- hc,z,fr]at e;cases e
  ·rw[z,fr]at hc;cases hc
 ·exact⟨(hf b hb).2.2.2.1,(hf b hb).2.1,(hf b hb).2.2.2.2.1,(hf b hb).2.2.2.2.2⟩
end
def PTs (X:Cx) (ifs:List Expr) (t:TT):Prop:=
 ∀(pins:List (Addr × Obj)) (s:Shared) (σ:St) (H:Hp) (Q:Bool->Hp->Prop),Inv X pins σ H s->t σ H Q →
  wpAny (model X.prog X.w) X.A (forIn ifs true λc r=>if r=true then do let ok ← isTrue c X.env (eval c X.env);pure (ForInStep.yield ok) else pure (ForInStep.yield r)) (TP X pins σ Q) X.xe s
def tTrue:TT:=λ_ H Q=>Q true H
theorem Zbb {X:Cx}:PTs X [] tTrue:=λpins s σ H Q I h=>wpAny_tests_nil ⟨H,I,h⟩
theorem Ze2 {X:Cx}{c:Expr}{t:TT}(h:PT X c t):PTs X [c] t:=λpins s σ H Q I hq=>wpAny_tests_one<|h pins s σ H Q I hq
def tComp (n:Nat) (sel:List Nat) (wi:TI) (g:TG) (tc:TT) (te:TE):TE:=λσ H Q=>wi σ H λJ H1=>∀acc,H1 acc=none->∃W:Nat->Nat->St->Hp->Prop,
 (∃m,W 0 m (compSt n sel σ) (upd H1 acc (.lst [])))/\∀i m σ' H',W i m σ' H' →
  (J.stop i H' /\ Q (.ref acc) H')\/(J.go i H' /\ ∃N:St->Hp->Prop,(∀σ2 H2,N σ2 H2->∃m',m'<m/\W (i+1) m' σ2 H2) ∧
   ∀x H2,J.yld i H' x H2->g x σ' H2 λσ2 H3=>tc σ2 H3 λb H4=>if b=true then te σ2 H4 λy H5=>∃ys,H5 acc=some (.lst ys)/\ys.length<sizeLine/\N σ2 (upd H5 acc (.lst (ys++[y]))) else N σ2 H4)
section
variable {X:Cx}
theorem Ziz {elt tg iter:Expr}{ifs:List Expr}{scope:Scope}{pos:Pos}{tgs fvs:List Str}{sel:List Nat}{g:TG}{tc:TT}{te:TE}(S:CompSc X.env.scope X.N scope fvs sel) {Cm:Cx->Prop}(hc:∀C s H ex pn,Cm (compCx X scope (tgs++fvs) C s H ex pn))
  (hg:∀C s H ex pn,PG (compCx X scope (tgs++fvs) C s H ex pn) tg g) (ht:∀C s H ex pn,PTs (compCx X scope (tgs++fvs) C s H ex pn) ifs tc) (he:∀C s H ex pn,PE (compCx X scope (tgs++fvs) C s H ex pn) elt te)
  {pins:List (Addr × Obj)}{σ:St}{s:Shared}{itv:Value}{Q:VK}{E:Value->Shared->Prop}{RR:Value->Addr->Result->Shared->Prop}
  (h2:PIEG Cm X pins σ tg (λJ H1=>∀acc,H1 acc=none->∃W:Nat->Nat->St->Hp->Prop,
   (∃m,W 0 m (compSt tgs.length sel σ) (upd H1 acc (.lst [])))/\∀i m σ' H',W i m σ' H' →
   (J.stop i H' /\ Q (.ref acc) H')\/(J.go i H' /\ ∃N:St->Hp->Prop,(∀σ2 H2,N σ2 H2->∃m',m'<m/\W (i+1) m' σ2 H2) ∧
   ∀x H2,J.yld i H' x H2->g x σ' H2 λσ2 H3=>tc σ2 H3 λb H4=>if b=true then te σ2 H4 λy H5=>∃ys,H5 acc=some (.lst ys)/\ys.length<sizeLine/\N σ2 (upd H5 acc (.lst (ys++[y]))) else N σ2 H4)) itv s)
  (fin:∀(s':Shared) (C acc:Addr) (H':Hp) (m:Str->Option Value),s'.heap.Ns C m->FpOk X pins H' C->(∀h',Heap.SameBut C s'.heap h' -> Inv X pins σ H' { s' with heap:=h' })->Q (.ref acc) H' -> RR (.ref acc) C (.ok .next) s') :
  wpAny (model X.prog X.w) X.A (newList []) (λacc s3=>wpAny (model X.prog X.w) X.A (newFunctionEnv scope X.env.globals (clOf X.env scope.names []) [] X.env.qual none .none (some X.env)) (λcenv s4=>
   codeAny (model X.prog X.w) X.A (.compStart (.ListComp elt [⟨tg,iter,ifs,0⟩] scope pos) 0 itv acc { cenv with scope:=relabel scope X.env }) (RR acc cenv.locals) s4) E s3) E s:=by
 obtain⟨it,fp,tn,J,H1,e,I,T,st,f2,h2⟩:=h2;subst e;have hlt:∀b∈fp,b<s.heap.objs.size:=λb hb=>let ⟨o,ho,_⟩:=T.obj 0 _ st b hb; Wax ho
 refine wpAny_newObj_type<|wpAny_newFunctionEnv S.nocell (by intro y hy;simp at hy) (λh1 hns hsb=>?_) S.kind;dsimp only at hns hsb ⊢;have I3:Inv X pins σ (upd H1 s.heap.objs.size (.lst [])) { s with heap:=s.heap.push { cls:=.type "list",data:=.seq ([]:List Value).toArray },toks:=s.toks }:=I.lnew (its:=[]) .nil (by decide);have hacc:H1 s.heap.objs.size=none:=I.hok.fresh<|Wak _;obtain⟨W,⟨m0,w0⟩,turn⟩:=h2 s.heap.objs.size hacc;generalize hs3:({ s with heap:=s.heap.push { cls:=.type "list",data:=.seq ([]:List Value).toArray },toks:=s.toks }:Shared)=s3 at I3;have hh3:s3.heap=s.heap.push { cls:=.type "list",data:=.seq ([]:List Value).toArray }:=by rw[<- hs3]
 have old3:∀b o,s.heap.get? b=some o->s3.heap.get? b=some o:=λb o q=>by rw[hh3];exact Wac _ q
 have hf3:∀b∈fp,FpOk X pins (upd H1 s.heap.objs.size (.lst [])) b:=λb hb=>⟨by rw[Zan (Wa8<|hlt b hb)];exact(f2 b hb).1,(f2 b hb).2⟩;have hlt3:∀b∈fp,b<s3.heap.objs.size:=λb hb=>by rw[hh3,Wcf];exact Wck<|hlt b hb
 have tn3:tn 0 s3.heap:=T.keep 0 _ _ st λb hb o q=>old3 b o q;have old4:∀b o,s3.heap.get? b=some o->h1.get? b=some o:=λb o q=>by
  have hb:b≠s3.heap.objs.size:=Wa8<|Wax q;rw[hh3]at hb q;exact(hsb.2 b hb).trans (Wac _ q)
 have tn4:tn 0 h1:=T.keep 0 _ _ tn3 λb hb o q=>old4 b o q;have hC:(s.heap.push { cls:=.type "list",data:=.seq ([]:List Value).toArray }).objs.size=s3.heap.objs.size:=by rw[hh3]
 rw[hC]at hns;have J0:=Zhy (tgs:=tgs) (tk:=s.toks+([]:List (Str × Value)).length) S I3 hf3 hlt3 hns old4;have es:({ s3 with heap:=h1,toks:=s.toks+([]:List (Str × Value)).length }:Shared) = { s with heap:=h1,toks:=s.toks+([]:List (Str × Value)).length }:=by rw[<- hs3]
 rw[es]at J0;generalize hY:compCx X scope (tgs++fvs) s3.heap.objs.size s3 (upd H1 s.heap.objs.size (.lst [])) fp (X.pn++pins)=Y at J0;have hYp:Y.prog=X.prog:=by rw[<- hY];rfl
 have hYw:Y.w=X.w:=by rw[<- hY];rfl
 have hYK:Y.K=X.K:=by rw[<- hY];rfl
 have hYA:Y.A=X.A:=by rw[<- hY];rfl
 have hYc:Cm Y:=by rw[<- hY];exact hc _ _ _ _ _
 have hYx:Y.xe=λ_ _=>False:=by rw[<- hY];rfl
 have hYe:Y.env=compEnvC scope (clOf X.env scope.names []) s3.heap.objs.size X.env:=by rw[<- hY];rfl
 have stat:∀{H':Hp},(∀b∈fp,H' b=none)->∀b∈fp,FpOk Y [] H' b:=λhn b hb=>by
  rw[<- hY];refine⟨hn b hb,Wa8<|hlt3 b hb,λz=>?_,.inl hb,λx c e=>?_,λp hp z=>?_⟩
  ·rcases Wap.mp (I3.stkSub b z) with q|q
   ·exact(hf3 b hb).2.1 q
   ·exact(hf3 b hb).2.2.1 q
  ·exact(hf3 b hb).2.2.2.2.1 x c (Zby _ _ (λ_ _ z=>by simp at z) e)
  ·have hp:p∈(X.pn++pins)++[]:=hp
   rw[Wa3]at hp;exact(hf3 b hb).2.2.2.2.2 p hp z
 have loop:codeAny (model X.prog X.w) X.A (.compLoop (.ListComp elt [⟨tg,iter,ifs,0⟩] scope pos) 0 (.ref it) (.ref s.heap.objs.size) Y.env) (RR (.ref s.heap.objs.size) s3.heap.objs.size)
   { s with heap:=h1,toks:=s.toks+([]:List (Str × Value)).length }:=by
  refine codeAny_loop rfl (λn s'=>∃i σ' H',Inv Y [] σ' H' s' /\ tn i s'.heap/\(∀b∈fp,H' b=none)/\W i n σ' H') ?_ m0 ⟨0,_,_,J0,tn4,λb hb=>(hf3 b hb).1,w0⟩;rintro n s5 ⟨i,σ5,H5,I5,st5,fr5,w5⟩;show wpAny _ X.A ((compTurn (.ListComp elt [⟨tg,iter,ifs,0⟩] scope pos) 0 (.ref it) (.ref s.heap.objs.size) Y.env).onRaise (λx=>do noteFrame x Y.env;theTreesLotGoes x)) _ _ s5;refine wpAny_noted (wpAny_mono (E:=λ_ _=>False) ?_ (λ_ _ q=>q) λ_ _ z=>z.elim);rw[compTurn_list];refine wpAny_bind<|wpAny_standAt<|wpAny_bind ?_;rcases turn i n σ5 H5 w5 with ⟨stop,qn⟩|⟨go,N,hN,step⟩
  ·have D:=T.done Y hYp hYw hYK hYc i [] s5 σ5 H5 (λ_ _=>False) I5 (stat fr5) st5 stop
   rw[hYA]at D;refine thn D λr s6 ⟨hr,I6⟩=>?_;subst hr;refine wpAny_pure ?_;obtain⟨m6,hn6,_⟩:=I6.loc;rw[hYe]at hn6;refine fin s6 _ _ H5 m6 hn6 (I3.fpOk (Wak _) (by have z:=I6.free;rw[hYe]at z;exact z)) (λh' sb=>?_) qn;have I6':Inv (compCx X scope (tgs++fvs) s3.heap.objs.size s3 (upd H1 s.heap.objs.size (.lst [])) fp<|X.pn++pins) [] σ5 H5 s6:=by rw[hY];exact I6
   exact Zd9 I3 hf3 I6' sb
  ·have D:=T.item Y hYp hYw hYK hYc i [] s5 σ5 H5 (λ_ _=>False) I5 (stat fr5) st5 go
   rw[hYA]at D;refine thn D λr s6 ⟨u,hr,h6⟩=>?_;subst hr;refine wpAny_bind (thn h6 λ_ s7 ⟨x,H7,I7,r7,y7,st7,fr7⟩=>?_);have I7':=I7.pinned (stat fr7)<|T.obj _ _ st7;have G:=hg s3.heap.objs.size s3 (upd H1 s.heap.objs.size (.lst [])) fp<|X.pn++pins;have TT:=ht s3.heap.objs.size s3 (upd H1 s.heap.objs.size (.lst [])) fp<|X.pn++pins;have EE:=he s3.heap.objs.size s3 (upd H1 s.heap.objs.size (.lst [])) fp<|X.pn++pins;rw[hY]at G TT EE;have G1:=G _ s7 σ5 H7 x u _ I7' r7<|step x H7 y7;rw[hYp,hYw,hYA,hYx]at G1;refine wpAny_bind (thn G1 λ_ s8 ⟨σ8,H8,I8,q8⟩=>?_);have T1:=TT _ s8 σ8 H8 _ I8 q8;rw[hYp,hYw,hYA,hYx]at T1;refine wpAny_bind (thn T1 λok s9 ⟨H9,I9,q9⟩=>?_);have again:∀{s':Shared}{σ':St}{H':Hp},Inv Y ([]++pinsAt fp s7.heap) σ' H' s' -> N σ' H' -> ∃m,m<n/\∃i σ' H',Inv Y [] σ' H' s' /\ tn i s'.heap/\(∀b∈fp,H' b=none)/\W i m σ' H':=λ{s' σ' H'} K7 n7=>by
    obtain⟨m',hm,w7⟩:=hN σ' H' n7;refine⟨m',hm,i+1,σ',H',K7.unpinned,T.keep _ _ _ st7 λb hb o e=>(K7.pin (b,o)<|Wa0 _<|Wa0 _<|Zci hb e).1,λb hb=>?_,w7⟩;obtain⟨o,e,d⟩:=T.obj _ _ st7 b hb;exact(K7.pin (b,o)<|Wa0 _<|Wa0 _<|Zci hb e).2.1
   cases ok with
   |false=>
    have q9:N σ8 H9:=q9;exact wpAny_pure ⟨by rw[hYe],again I9 q9⟩
   |true=>
    have q9:te σ8 H9 λy H5=>∃ys,H5 s.heap.objs.size=some (.lst ys)/\ys.length<sizeLine/\N σ8 (upd H5 s.heap.objs.size (.lst<|ys++[y])):=q9;have E1:=EE _ s9 σ8 H9 _ I9 q9;rw[hYp,hYw,hYA,hYx]at E1;refine wpAny_bind<|wpAny_bind (thn E1 λv sa ⟨y,Ha,Ia,ra,ys,ea,za,na⟩=>?_);have M:=Zb9 (X:=Y) _ sa σ8 Ha (.ref s.heap.objs.size) [y] (.ref s.heap.objs.size) [v] (λ_ H=>N σ8 H) Ia rfl (.cons ra .nil) ⟨_,ys,y,rfl,rfl,ea,za,na⟩;rw[hYp,hYw,hYA,hYx]at M;refine wpAny_bind (thn M λ_ sb ⟨_,Hb,Ib,_,nb⟩=>wpAny_pure<|wpAny_pure ⟨by rw[hYe],again Ib nb⟩)
 have hcs:(relabel scope X.env)=(relabel scope X.env):=rfl;have loop':=loop;rw[hYe]at loop';show codeAny (model X.prog X.w) X.A (.compStart (.ListComp elt [⟨tg,iter,ifs,0⟩] scope pos) 0 (.ref it) (.ref s.heap.objs.size)<|compEnvC scope (clOf X.env scope.names []) (s.heap.push { cls:=.type "list",data:=.seq ([]:List Value).toArray }).objs.size X.env) (RR (.ref s.heap.objs.size) (s.heap.push { cls:=.type "list",data:=.seq ([]:List Value).toArray }).objs.size) _;rw[hC];exact codeAny_compStart_list loop'<|T.self _ 0 _ _ _ tn4 loop'
theorem Za3 {elt tg iter:Expr}{ifs:List Expr}{scope:Scope}{pos:Pos}{fvs:List Str}{sel:List Nat}{wi:TI}{g:TG}{tc:TT}{te:TE}(tgs:List Str) (S:CompSc X.env.scope X.N scope fvs sel) (hc:X.calm=true)
  (hi:PI X tg iter wi) (hg:∀C s H ex pn,PG (compCx X scope (tgs++fvs) C s H ex pn) tg g) (ht:∀C s H ex pn,PTs (compCx X scope (tgs++fvs) C s H ex pn) ifs tc) (he:∀C s H ex pn,PE (compCx X scope (tgs++fvs) C s H ex pn) elt te)
  (hs:∀x,foldedSetIterable iter X.env x=pure x:=by intro _;rfl) :
  PE X (.ListComp elt [⟨tg,iter,ifs,0⟩] scope pos) (tComp tgs.length sel wi g tc te):=by
 intro pins s σ H Q I h;rw[eval_ListComp];refine wpAny_comprehension_free (use:=none) rfl hs (Zbp<|Zcp S I.ok) S.kind S.names (thn (hi pins s σ H _ I h) λv s1 h1=>thn h1 λitv s2 h2=>?_);refine Ziz (Cm:=λX=>X.calm=true) S (λ_ _ _ _ _=>hc) hg ht he (RR:=λacc C=>compPost (model X.prog X.w) X.A X.xe none (EP X pins σ Q) acc C) (Q:=Q) h2 ?_;intro s' C acc H' m hn _ hI q;exact⟨m,hn,λh' sb=>⟨.ref acc,H',hI h' sb,rfl,q⟩⟩
theorem Zdf {elt tg iter:Expr}{ifs:List Expr}{scope:Scope}{pos spos py:Pos}{fvs:List Str}{sel:List Nat}{wi:TI}{g:TG}{tc:TT}{te:TE}{i:Nat}{y:Str}(tgs:List Str) (S:CompSc X.env.scope X.N scope fvs sel) (hc:X.calm=true)
  (hN:X.N.Nodup) (hiy:X.N[i]?=some y) (hx:Loc X.env.scope y)
  (hi:PI X tg iter wi) (hg:∀C s H ex pn,PG (compCx X scope (tgs++fvs) C s H ex pn) tg g) (ht:∀C s H ex pn,PTs (compCx X scope (tgs++fvs) C s H ex pn) ifs tc) (he:∀C s H ex pn,PE (compCx X scope (tgs++fvs) C s H ex pn) elt te)
  (hs:∀x,foldedSetIterable iter X.env x=pure x:=by intro _;rfl) (hsw:swapsWith (.ListComp elt [⟨tg,iter,ifs,0⟩] scope pos) (some (.Name y py)) spos.line X.env=pure true:=by rfl)
  (hf:X.fn y=true\/X.env.scope.names.lookup y=some .local:=by first|exact .inl rfl|exact .inr rfl|assumption) :
  PS X (.Assign [.Name y py] (.ListComp elt [⟨tg,iter,ifs,0⟩] scope pos) spos) (tAsg (tComp tgs.length sel wi g tc te)<|gName i):=by
 intro pins s σ H D I h;rw[exec_Assign_Name_used _ _ _ _ hsw];refine wpAny_bind (wpAny_standAt (wpAny_bind ?_));show wpAny _ X.A (do let _ ← comprehension (.ListComp elt [⟨tg,iter,ifs,0⟩] scope pos) scope X.env _ (newList []) false (eval iter X.env) (some (assign (.Name y py) X.env))) _ _ s;refine wpAny_bind (wpAny_mono (wpAny_comprehension_free (use:=some (assign (.Name y py) X.env)) (Q:=λ_ s'=>SP X pins D .next s') rfl hs (Zbp (Zcp S I.ok)) S.kind S.names
  (thn (hi pins s σ H _ I h) λv s1 h1=>thn h1 λitv s2 h2=>?_)) (λ_ s' hq=>wpAny_pure (wpAny_pure hq)) λ_ _ e=>e)
 refine Ziz (Cm:=λX=>X.calm=true) S (λ_ _ _ _ _=>hc) hg ht he (RR:=λacc C=>compPost (model X.prog X.w) X.A X.xe (some<|assign (.Name y py) X.env) (λ_ s'=>SP X pins D .next s') acc C) (Q:=λv H'=>D.nx (σ.set i<|some v) H') h2 ?_;intro s' C acc H' m hn fp hI q;have I0:Inv X pins σ H' s':=hI s'.heap (.refl ..);show wpAny _ X.A (assign (.Name y py) X.env (.ref acc)) _ _ _;refine wpAny_assign_Name<|Zgx (v:=.ref acc) I0 hN hiy hx rfl (λs2 I2 hsb=>?_) hf;obtain⟨a,sb,ha⟩:=hsb;have hCa:C≠a:=by
  rcases ha with z|z
  ·rw[z];exact fp.2.1
  ·exact Ne.symm<|fp.2.2.2.2.1 y a z
 refine⟨m,hn.sameBut sb hCa,λh' sb'=>?_⟩;obtain⟨f0,f1,f2,f3,f4,f5⟩:=fp;exact⟨_,H',I2.turned (t':=s2.toks) (it:=C) (λb o hb e=>(sb'.2 b hb).trans e) f0 f1 f3 f4 f5,q⟩
end
def InsC (a C:Addr) (h:Heap):Prop:=∃ox vs,h.get? a=some ox/\ox.cls=.ref C/\ox.data=.fields vs/\vs[2]?=some .none
inductive D where
 |non|bl (b:Bool)|int (i:Int)|str (x:Str)|ty (n:String)|tup (ds:List D)|lst (ds:List D)|scr (ds:List D)|adr (a:Addr)|dct (ks:List Key) (ds:List D)|exc (a C:Addr)
mutual
inductive Rep (K:W.Frag) (G:Hp):V->D->Prop
 |non:Rep K G .non .non
 |bl (b:Bool):Rep K G (.bl b) (.bl b)
 |int (i:Int):Rep K G (.int i) (.int i)
 |str (x:Str):Rep K G (.str x) (.str x)
 |ty (n:String):Rep K G (.ty n) (.ty n)
 |tup {a:Addr}{vs:List V}{ds:List D}:G a=some (.tup vs)->Reps K G vs ds->Rep K G (.ref a) (.tup ds)
 |lst {a:Addr}{vs:List V}{ds:List D}:G a=some (.lst vs)->Reps K G vs ds->Rep K G (.ref a) (.lst ds)
 |scr {a:Addr}{vs:List V}{ds:List D}:SqL K G a vs->Reps K G vs ds->Rep K G (.ref a) (.scr ds)
 |adr (a:Addr):Rep K G (.ref a) (.adr a)
 |dct {a:Addr}{ks:List Key}{vs:List V}{ds:List D}:G a=some (.dK (ks.zip vs))->ks.length=vs.length->Reps K G vs ds->Rep K G (.ref a) (.dct ks ds)
 |exc {a C:Addr}:G a=some (.ext (InsC a C))->Rep K G (.ref a) (.exc a C)
inductive Reps (K:W.Frag) (G:Hp):List V->List D->Prop
 |nil:Reps K G [] []
 |cons {v:V}{d:D}{vs:List V}{ds:List D}:Rep K G v d->Reps K G vs ds->Reps K G (v::vs) (d::ds)
end
def RepI (K:W.Frag) (G:Hp) (v:V):D->Prop
 |.non=>v=.non
 |.bl b=>v=.bl b
 |.int i=>v=.int i
 |.str x=>v=.str x
 |.ty n=>v=.ty n
 |.tup ds=>∃a vs,v=.ref a/\G a=some (.tup vs)/\Reps K G vs ds
 |.lst ds=>∃a vs,v=.ref a/\G a=some (.lst vs)/\Reps K G vs ds
 |.scr ds=>∃a vs,v=.ref a/\SqL K G a vs/\Reps K G vs ds
 |.adr a=>v=.ref a
 |.dct ks ds=>∃a vs,v=.ref a/\G a=some (.dK (ks.zip vs))/\ks.length=vs.length/\Reps K G vs ds
 |.exc a C=>v=.ref a/\G a=some (.ext (InsC a C))
theorem Rep.inv {K:W.Frag}{G:Hp}{v:V}{d:D}(r:Rep K G v d):RepI K G v d:=by
 cases r with
 |tup h r=>exact⟨_,_,rfl,h,r⟩
 |lst h r=>exact⟨_,_,rfl,h,r⟩
 |scr h r=>exact⟨_,_,rfl,h,r⟩
 |dct h l r=>exact⟨_,_,rfl,h,l,r⟩
 |exc h=>exact⟨rfl,h⟩
 |_=>rfl
def RepsI (K:W.Frag) (G:Hp) (vs:List V):List D->Prop
 |[]=>vs=[]
 |d::ds=>∃v ws,vs=v::ws/\Rep K G v d/\Reps K G ws ds
theorem Reps.inv {K:W.Frag}{G:Hp}{vs:List V}{ds:List D}(r:Reps K G vs ds):RepsI K G vs ds:=by
 cases r with
 |nil=>rfl
 |cons a b=>exact⟨_,_,rfl,a,b⟩
section
variable {K:W.Frag}{G G' H H':Hp}
mutual
theorem Rep.mono (s:Same G G'):∀{v:V}{d:D},Rep K G v d->Rep K G' v d
 |_,_,.non=>.non
 |_,_,.bl b=>.bl b
 |_,_,.int i=>.int i
 |_,_,.str x=>.str x
 |_,_,.ty n=>.ty n
 |_,_,.tup h r=>.tup (s _ _ h) (Reps.mono s r)
 |_,_,.lst h r=>.lst (s _ _ h) (Reps.mono s r)
 |_,_,.scr h r=>.scr (s.seq h) (Reps.mono s r)
 |_,_,.adr a=>.adr a
 |_,_,.dct h l r=>.dct (s _ _ h) l (Reps.mono s r)
 |_,_,.exc h=>.exc (s _ _ h)
theorem Reps.mono (s:Same G G'):∀{vs:List V}{ds:List D},Reps K G vs ds->Reps K G' vs ds
 |_,_,.nil=>.nil
 |_,_,.cons h r=>.cons (Rep.mono s h) (Reps.mono s r)
end
theorem Reps.length:∀{vs:List V}{ds:List D},Reps K G vs ds->vs.length=ds.length
 |_,_,.nil=>rfl
 |_,_,.cons _ r=>by rw[Wan,Wan,r.length]
theorem Reps.get:∀{vs:List V}{ds:List D}{i:Nat}{d:D},Reps K G vs ds->ds[i]?=some d->∃v,vs[i]?=some v/\Rep K G v d
 |_,_,_,_,.nil,e=>by simp at e
 |_,_,0,_,.cons r _,e=>by simp at e;subst e;exact⟨_,rfl,r⟩
 |_,_,i+1,d,.cons _ t,e=>by
  obtain⟨u,h1,h2⟩:=Reps.get (i:=i) (d:=d) t (by simpa using e);exact⟨u,by simpa using h1,h2⟩
theorem Reps.append:∀{vs ws:List V}{ds es:List D},Reps K G vs ds->Reps K G ws es->Reps K G (vs++ws) (ds++es)
 |_,_,_,_,.nil,s=>s
 |_,_,_,_,.cons r t,s=>.cons r (Reps.append t s)
theorem Reps.take:∀{vs:List V}{ds:List D}(n:Nat),Reps K G vs ds->Reps K G (vs.take n) (ds.take n)
 |_,_,0,_=>.nil
 |_,_,_+1,.nil=>.nil
 |_,_,n+1,.cons r t=>.cons r (Reps.take n t)
theorem Reps.drop:∀{vs:List V}{ds:List D}(n:Nat),Reps K G vs ds->Reps K G (vs.drop n) (ds.drop n)
 |_,_,0,r=>r
 |_,_,_+1,.nil=>.nil
 |_,_,n+1,.cons _ t=>Reps.drop n t
theorem Reps.reverse {vs:List V}{ds:List D}(h:Reps K G vs ds):Reps K G vs.reverse ds.reverse:=by
 induction vs generalizing ds with
 |nil=>cases h;exact .nil
 |cons v vs ih=>
  cases h with
  |cons r t=>rw[List.reverse_cons,List.reverse_cons];exact(ih t).append (.cons r .nil)
theorem Reps.set:∀{vs:List V}{ds:List D}{v:V}{d:D}(i:Nat),Reps K G vs ds->Rep K G v d->Reps K G (vs.set i v) (ds.set i d)
 |_,_,_,_,_,.nil,_=>.nil
 |_,_,_,_,0,.cons _ t,q=>.cons q t
 |_,_,_,_,i+1,.cons r t,q=>.cons r (Reps.set i t q)
theorem Reps.ints {vs:List V}:∀{ns:List Int},Reps K G vs (ns.map D.int)->vs=ns.map V.int:=by
 induction vs with
 |nil=>intro ns h;cases ns with
  |nil=>rfl
  |cons n ns=>cases h
 |cons v vs ih=>intro ns h;cases ns with
  |nil=>cases h
  |cons n ns=>
   cases h with
   |cons r t=>cases r.inv;rw[ih t];rfl
theorem Reps.ofInts:∀(ns:List Int),Reps K G (ns.map V.int) (ns.map D.int)
 |[]=>.nil
 |n::ns=>.cons (.int n) (Reps.ofInts ns)
theorem Zir {vs:List V}{ds:List D}{i:Int}{d:D}(r:Reps K G vs ds) (h:atI ds i=some d):∃v,atI vs i=some v/\Rep K G v d:=by
 unfold atI at h ⊢;rw[<- r.length]at h;cases e:ixN vs.length i with
 |none=>rw[e]at h;cases h
 |some j=>rw[e]at h;exact r.get h
end
inductive OD where
 |lst (ds:List D)|dct (kvs:List (Key × D))|set (S:Int->Bool) (n:Nat)|dtt (kvs:List (List Key × D))|ext (R:Hp->(Heap->Prop)->Prop)
def OwnRep (K:W.Frag) (G:Hp):HO->OD->Prop
 |.lst vs,.lst ds=>Reps K G vs ds
 |.dK kvs,.dct kds=>Paired (λ(p:Key × V) (q:Key × D)=>p.1=q.1/\Rep K G p.2 q.2) kvs kds
 |.set S n,.set S' n'=>S=S' /\ n=n'
 |.dT kvs,.dtt kds=>Paired (λ(p:List Key × V) (q:List Key × D)=>p.1=q.1/\Rep K G p.2 q.2) kvs kds
 |.ext φ,.ext R=>∃G0,Same G0 G/\R G0 φ
 |_,_=>False
theorem OwnRep.mono {K:W.Frag}{G G':Hp}(s:Same G G') {o:HO}{od:OD}(h:OwnRep K G o od):OwnRep K G' o od:=by
 cases o <;> cases od <;> first
  |exact h.elim
  |exact Reps.mono s h
  |exact Paired.mapP h λ_ _ z=>⟨z.1,z.2.mono s⟩
  |exact(let ⟨g0,s0,r⟩:=h; ⟨g0,s0.trans s,r⟩)
  |exact h
inductive Slot where
 |any|val (d:D)|own (o:OD)|bor (o:OD)|ownA (a:Addr) (o:OD)
abbrev Evt:=List Slot
def Slot.od:Slot->Option OD
 |.own o=>some o
 |.bor o=>some o
 |.ownA _ o=>some o
 |_=>none
structure Gm where
 B:Addr->Prop
 F:Hp
 Hz:Hp
 Xo:Hp
def SlotAt (g:Gm) (x:Slot) (a:Addr):Prop:=match x with
 |.own _=>g.Hz a=none
 |.bor _=>g.B a
 |.ownA b _=>b=a/\g.Hz a=none
 |_=>True
structure Ok (K:W.Frag) (g:Gm) (G H:Hp) (σ:St) (Δ:Evt):Prop where
 same:∀b o,¬ g.B b->g.Hz b=some o->H b=some o
 lent:∀b,g.B b->H b≠none
 sub:Same g.F G
 frz:∀b o,G b=some o->H b=some o/\(g.Hz b=none\/g.F b=some o)
 ext:∀b o,g.Xo b=some o->H b=some o/\G b=none/\∀(i:Nat) x od,Δ[i]?=some x->x.od=some od -> σ[i]?≠some (some (.ref b))
 len:Δ.length = σ.length
 val:∀(i:Nat) d,Δ[i]?=some (.val d)->∃v,σ[i]?=some (some v)/\Rep K G v d
 own:∀(i:Nat) x od,Δ[i]?=some x->x.od=some od->∃a o,σ[i]?=some (some (.ref a))/\H a=some o/\OwnRep K G o od/\G a=none/\SlotAt g x a
 dis:∀(i j:Nat) x y od od' a,Δ[i]?=some x->x.od=some od -> Δ[j]?=some y->y.od=some od' -> σ[i]?=some (some (.ref a)) -> σ[j]?=some (some (.ref a))->i=j
section
variable {K:W.Frag}{g:Gm}{G H G' H':Hp}{σ:St}{Δ:Evt}
theorem Ok.live (k:Ok K g G H σ Δ):Same G H:=λb o e=>(k.frz b o e).1
theorem Ok.there (k:Ok K g G H σ Δ) {b:Addr}(h:H b=none):g.Hz b=none:=by
 cases e:g.Hz b with
 |none=>rfl
 |some o=>
  by_cases hb:g.B b
  ·exact absurd h<|k.lent b hb
  ·have:=k.same b o hb e
   rw[h]at this;cases this
theorem Ok.grow (k:Ok K g G H σ Δ) (sg:Same G G') (sh:Same H H') (hg:∀b o,G' b=some o->H' b=some o/\(G b=some o\/H b=none)):Ok K g G' H' σ Δ where
 same:=λb o hb e=>sh b o<|k.same b o hb e
 lent:=λb hb z=>by
  cases e:H b with
  |none=>exact k.lent b hb e
  |some o=>rw[sh b o e]at z;cases z
 sub:=k.sub.trans sg
 frz:=λb o e=>by
  obtain⟨h1,h2⟩:=hg b o e;refine⟨h1,?_⟩;rcases h2 with z|z
  ·exact(k.frz b o z).2
  ·exact .inl<|k.there z
 ext:=λb o e=>by
  obtain⟨h1,h2,h3⟩:=k.ext b o e;refine⟨sh b o h1,?_,h3⟩;cases q:G' b with
  |none=>rfl
  |some o'=>
   rcases(hg b o' q).2 with z|z
   ·rw[h2]at z;cases z
   ·rw[h1]at z;cases z
 len:=k.len
 val:=λi d e=>by
  obtain⟨v,h1,h2⟩:=k.val i d e;exact⟨v,h1,h2.mono sg⟩
 own:=λi x od e1 e2=>by
  obtain⟨a,o,h1,h2,h3,h4,h5⟩:=k.own i x od e1 e2;refine⟨a,o,h1,sh a o h2,h3.mono sg,?_,h5⟩;cases q:G' a with
  |none=>rfl
  |some o'=>
   rcases(hg a o' q).2 with z|z
   ·rw[h4]at z;cases z
   ·rw[h2]at z;cases z
 dis:=k.dis
theorem Ok.laid (k:Ok K g G H σ Δ) {p:Addr}(hp:H p=none) (o:HO):Ok K g (upd G p o) (upd H p o) σ Δ /\ Same G (upd G p o):=by
 have hG:G p=none:=by
  cases e:G p with
  |none=>rfl
  |some u=>rw[k.live p u e]at hp;cases hp
 have sg:Same G (upd G p o):=λb u e=>by rw[Zan (Zap e hG)];exact e
 refine⟨k.grow sg (λb u e=>by rw[Zan (Zap e hp)];exact e) λb u e=>?_,sg⟩;by_cases hb:b=p
 ·subst hb;rw[Zat]at e ⊢;exact⟨e,.inr hp⟩
 ·rw[Zan hb]at e ⊢;exact⟨k.live b u e,.inl e⟩
theorem Ok.lt (k:Ok K g G H σ Δ) {i:Nat}{x:Slot}(h:Δ[i]?=some x):i < σ.length:=by
 rw[<- k.len];exact(Wag.mp h).1
def Pend (K:W.Frag) (g:Gm) (G H:Hp) (σ:St) (Δ:Evt) (a:Addr) (od:OD):Prop:=
 ∃o,H a=some o/\OwnRep K G o od/\G a=none/\g.Hz a=none/\g.Xo a=none/\∀(i:Nat) x od',Δ[i]?=some x->x.od=some od' -> σ[i]?≠some (some (.ref a))
theorem Ok.setVal (k:Ok K g G H σ Δ) {v:V}{d:D}{i:Nat}(hi:i < Δ.length) (r:Rep K G v d):Ok K g G H (σ.set i<|some v) (Δ.set i (.val d)):=by
 have hs:i < σ.length:=by rw[<- k.len];exact hi
 have old:∀(j:Nat) x od,(Δ.set i (.val d))[j]?=some x->x.od=some od->j≠i /\ Δ[j]?=some x/\(σ.set i<|some v)[j]? = σ[j]?:=λj x od e1 e2=>by
  by_cases hj:j=i
  ·subst hj
   rw[Wau hi]at e1;cases e1;cases e2
  ·rw[Waw (Ne.symm hj)]at e1
   exact⟨hj,e1,Waw<|Ne.symm hj⟩
 refine⟨k.same,k.lent,k.sub,k.frz,λb o e=>?_,by simp[k.len],λj e h=>?_,λj x od e1 e2=>?_,λj l x y od od' a e1 e2 e3 e4 e5 e6=>?_⟩
 ·obtain⟨h1,h2,h3⟩:=k.ext b o e
  refine⟨h1,h2,λj x od e1 e2=>?_⟩;obtain⟨_,q1,q2⟩:=old j x od e1 e2;rw[q2];exact h3 j x od q1 e2
 ·by_cases hj:j=i
  ·subst hj
   rw[Wau hi]at h;cases h;exact⟨v,Wau hs,r⟩
  ·rw[Waw (Ne.symm hj)]at h ⊢
   exact k.val j e h
 ·obtain⟨_,q1,q2⟩:=old j x od e1 e2
  rw[q2];exact k.own j x od q1 e2
 ·obtain⟨_,q1,q2⟩:=old j x od e1 e2
  obtain⟨_,q3,q4⟩:=old l y od' e3 e4;rw[q2]at e5;rw[q4]at e6;exact k.dis j l x y od od' a q1 e2 q3 e4 e5 e6
theorem Ok.setOwn (k:Ok K g G H σ Δ) {a:Addr}{od:OD}{i:Nat}(hi:i < Δ.length) (p:Pend K g G H σ Δ a od):Ok K g G H (σ.set i<|some (.ref a)) (Δ.set i (.own od)):=by
 obtain⟨o,p1,p2,p3,p4,p5,p6⟩:=p;have hs:i < σ.length:=by rw[<- k.len];exact hi
 have old:∀(j:Nat) x,j≠i->(Δ.set i (.own od))[j]?=some x -> Δ[j]?=some x/\(σ.set i<|some (.ref a))[j]? = σ[j]?:=λj x hj e1=>by
  rw[Waw (Ne.symm hj)]at e1;exact⟨e1,Waw<|Ne.symm hj⟩
 refine⟨k.same,k.lent,k.sub,k.frz,λb ob e=>?_,by simp[k.len],λj e h=>?_,λj x od' e1 e2=>?_,λj l x y od1 od2 c e1 e2 e3 e4 e5 e6=>?_⟩
 ·obtain⟨h1,h2,h3⟩:=k.ext b ob e
  refine⟨h1,h2,λj x od' e1 e2=>?_⟩;by_cases hj:j=i
  ·subst hj
   rw[Wau hs];intro z;cases z;rw[p5]at e;cases e
  ·obtain⟨q1,q2⟩:=old j x hj e1
   rw[q2];exact h3 j x od' q1 e2
 ·by_cases hj:j=i
  ·subst hj
   rw[Wau hi]at h;cases h
  ·rw[Waw (Ne.symm hj)]at h ⊢
   exact k.val j e h
 ·by_cases hj:j=i
  ·subst hj
   rw[Wau hi]at e1;cases e1;cases e2;exact⟨a,o,Wau hs,p1,p2,p3,p4⟩
  ·obtain⟨q1,q2⟩:=old j x hj e1
   rw[q2];exact k.own j x od' q1 e2
 ·by_cases hj:j=i
  ·by_cases hl:l=i
   ·rw[hj,hl]
   ·obtain⟨q3,q4⟩:=old l y hl e3
    rw[q4]at e6;rw[hj,Wau hs]at e5;cases e5;exact absurd e6<|p6 l y od2 q3 e4
  ·obtain⟨q1,q2⟩:=old j x hj e1
   rw[q2]at e5;by_cases hl:l=i
   ·rw[hl,Wau hs]at e6
    cases e6;exact absurd e5<|p6 j x od1 q1 e2
   ·obtain⟨q3,q4⟩:=old l y hl e3
    rw[q4]at e6;exact k.dis j l x y od1 od2 c q1 e2 q3 e4 e5 e6
def Slot.put:Slot->OD->Slot
 |.own _,o=>.own o
 |.bor _,o=>.bor o
 |.ownA a _,o=>.ownA a o
 |x,_=>x
theorem SlotAt.put {g:Gm}{x:Slot}{a:Addr}{o:OD}(h:SlotAt g x a):SlotAt g (x.put o) a:=by cases x <;> exact h
theorem SlotAt.free {g:Gm}{x:Slot}{a:Addr}{od:OD}(h:SlotAt g x a) (ho:x.od=some od):g.Hz a=none\/g.B a:=by
 cases x with
 |any=>cases ho
 |val d=>cases ho
 |own o=>exact .inl h
 |bor o=>exact .inr h
 |ownA b o=>exact .inl h.2
theorem Slot.put_od {x:Slot}{od o:OD}(h:x.od=some od):(x.put o).od=some o:=by cases x <;> cases h <;> rfl
theorem Ok.write (k:Ok K g G H σ Δ) {a:Addr}{od od':OD}{x:Slot}{i:Nat}{o':HO}(hx:Δ[i]?=some x) (hod:x.od=some od) (ha:σ[i]?=some (some (.ref a))) (r:OwnRep K G o' od'):Ok K g G (upd H a o') σ (Δ.set i<|x.put od'):=by
 obtain⟨a',o,q1,q2,q3,q4,q5⟩:=k.own i x od hx hod;rw[ha]at q1;cases q1;have hi:i < Δ.length:=(Wag.mp hx).1;have other:∀(j:Nat) y od2,(Δ.set i<|x.put od')[j]?=some y->y.od=some od2->j≠i -> Δ[j]?=some y:=λj y od2 e1 e2 hj=>by
  rw[Waw (Ne.symm hj)]at e1;exact e1
 have anyOd:∀(j:Nat) y od2,(Δ.set i<|x.put od')[j]?=some y->y.od=some od2->∃y' od3,Δ[j]?=some y' /\ y'.od=some od3:=λj y od2 e1 e2=>by
  by_cases hj:j=i
  ·subst hj;exact⟨x,od,hx,hod⟩
  ·exact⟨y,od2,other j y od2 e1 e2 hj,e2⟩
 refine⟨λb u hb e=>?_,λb hb=>?_,k.sub,λb u e=>?_,λb u e=>?_,by simp[k.len],λj e h=>?_,λj y od2 e1 e2=>?_,λj l y z od1 od2 c e1 e2 e3 e4 e5 e6=>?_⟩
 ·have hba:b≠a:=by
   intro z;subst z;rcases q5.free hod with z|z
   ·rw[z]at e;cases e
   ·exact hb z
  rw[Zan hba];exact k.same b u hb e
 ·by_cases hba:b=a
  ·subst hba;rw[Zat];intro z;cases z
  ·rw[Zan hba];exact k.lent b hb
 ·have hba:b≠a:=by intro z;subst z;rw[q4]at e;cases e
  rw[Zan hba];exact k.frz b u e
 ·obtain⟨h1,h2,h3⟩:=k.ext b u e
  have hba:b≠a:=by intro z;subst z;exact h3 i x od hx hod ha
  rw[Zan hba];refine⟨h1,h2,λj y od2 e1 e2=>?_⟩;obtain⟨y',od3,z1,z2⟩:=anyOd j y od2 e1 e2;exact h3 j y' od3 z1 z2
 ·by_cases hj:j=i
  ·subst hj
   rw[Wau hi]at h;cases x <;> cases hod <;> cases h
  ·rw[Waw (Ne.symm hj)]at h
   exact k.val j e h
 ·by_cases hj:j=i
  ·subst hj
   rw[Wau hi]at e1;cases e1;rw[Slot.put_od hod]at e2;cases e2;exact⟨a,o',ha,Zat,r,q4,q5.put⟩
  ·have e1':=other j y od2 e1 e2 hj
   obtain⟨c,oc,w1,w2,w3,w4,w5⟩:=k.own j y od2 e1' e2;have hca:c≠a:=by
    intro z;subst z;exact hj<|k.dis j i y x od2 od c e1' e2 hx hod w1 ha
   exact⟨c,oc,w1,by rw[Zan hca];exact w2,w3,w4,w5⟩
 ·obtain⟨y',od3,z1,z2⟩:=anyOd j y od1 e1 e2
  obtain⟨y'',od4,z3,z4⟩:=anyOd l z od2 e3 e4;exact k.dis j l y' y'' od3 od4 c z1 z2 z3 z4 e5 e6
theorem Ok.freeze (k:Ok K g G H σ Δ) {a:Addr}{ds:List D}{vs:List V}(p:Pend K g G H σ Δ a (.lst ds)) (hv:H a=some (.lst vs)):Ok K g (upd G a (.lst vs)) H σ Δ /\ Same G (upd G a (.lst vs))/\Rep K (upd G a (.lst vs)) (.ref a) (.lst ds):=by
 obtain⟨o,p1,p2,p3,p4,p5,p6⟩:=p;rw[hv]at p1;cases p1;have p2:Reps K G vs ds:=p2;have sg:Same G (upd G a (.lst vs)):=λb u e=>by rw[Zan (Zap e p3)];exact e
 refine⟨⟨k.same,k.lent,k.sub.trans sg,λb u e=>?_,λb u e=>?_,k.len,λj d h=>?_,λj x od e1 e2=>?_,k.dis⟩,sg,.lst Zat<|p2.mono sg⟩
 ·by_cases hb:b=a
  ·subst hb;rw[Zat]at e;cases e;exact⟨hv,.inl p4⟩
  ·rw[Zan hb]at e;exact k.frz b u e
 ·obtain⟨h1,h2,h3⟩:=k.ext b u e
  have hb:b≠a:=by intro z;subst z;rw[p5]at e;cases e
  exact⟨h1,by rw[Zan hb];exact h2,h3⟩
 ·obtain⟨v,h1,h2⟩:=k.val j d h
  exact⟨v,h1,h2.mono sg⟩
 ·obtain⟨c,o,w1,w2,w3,w4,w5⟩:=k.own j x od e1 e2
  have hc:c≠a:=by intro z;subst z;exact p6 j x od e1 e2 w1
  exact⟨c,o,w1,w2,w3.mono sg,by rw[Zan hc];exact w4,w5⟩
theorem Ok.drop (k:Ok K g G H σ Δ) (i:Nat):Ok K g G H σ (Δ.set i .any):=by
 have old:∀(j:Nat) x,(Δ.set i .any)[j]?=some x->x=.any\/(Δ[j]?=some x/\j≠i):=λj x e1=>by
  by_cases hj:j=i
  ·subst hj
   rw[Wcv]at e1;simp at e1;exact .inl e1.2.symm
  ·rw[Waw (Ne.symm hj)]at e1
   exact .inr ⟨e1,hj⟩
 have oldO:∀(j:Nat) x od,(Δ.set i .any)[j]?=some x->x.od=some od -> Δ[j]?=some x:=λj x od e1 e2=>by
  rcases old j x e1 with z|z
  ·subst z;cases e2
  ·exact z.1
 refine⟨k.same,k.lent,k.sub,k.frz,λb o e=>?_,by simp[k.len],λj e h=>?_,λj x od e1 e2=>k.own j x od (oldO j x od e1 e2) e2,λj l x y od od' a e1 e2 e3 e4=>k.dis j l x y od od' a (oldO j x od e1 e2) e2 (oldO l y od' e3 e4) e4⟩
 ·obtain⟨h1,h2,h3⟩:=k.ext b o e
  exact⟨h1,h2,λj x od e1 e2=>h3 j x od (oldO j x od e1 e2) e2⟩
 ·rcases old j _ h with z|z
  ·cases z
  ·exact k.val j e z.1
theorem Ok.take (k:Ok K g G H σ Δ) {i:Nat}{od:OD}(h:Δ[i]?=some (.own od)):∃a,σ[i]?=some (some (.ref a))/\Pend K g G H σ (Δ.set i .any) a od:=by
 obtain⟨a,o,h1,h2,h3,h4,h5⟩:=k.own i _ od h rfl;have h5:g.Hz a=none:=h5;refine⟨a,h1,o,h2,h3,h4,h5,?_,λj x od' e1 e2 e3=>?_⟩
 ·cases q:g.Xo a with
  |none=>rfl
  |some u=>exact absurd h1 ((k.ext a u q).2.2 i _ od h rfl)
 ·by_cases hj:j=i
  ·subst hj
   rw[Wcv]at e1;simp at e1;obtain⟨_,e1⟩:=e1;subst e1;cases e2
  ·rw[Waw (Ne.symm hj)]at e1
   exact hj<|k.dis j i x _ od' od a e1 e2 h rfl e3 h1
end
def Cont (K:W.Frag) (g:Gm) (G:Hp) (σ:St) (P:D->Evt->Prop) (Q:VK):Prop:=
 ∀v d G' H' Δ',Ok K g G' H' σ Δ' -> Same G G' -> Rep K G' v d->P d Δ' -> Q v H'
def JE (K:W.Frag) (t:TE) (Δ:Evt) (P:D->Evt->Prop):Prop:=
 ∀g G H σ Q,Ok K g G H σ Δ -> Cont K g G σ P Q->t σ H Q
def JT (K:W.Frag) (t:TT) (Δ:Evt) (P:Bool->Evt->Prop):Prop:=
 ∀g G H σ Q,Ok K g G H σ Δ -> (∀b G' H' Δ',Ok K g G' H' σ Δ' -> Same G G' -> P b Δ' -> Q b H')->t σ H Q
def JA (K:W.Frag) (t:TA) (Δ:Evt) (P:List D->Evt->Prop):Prop:=
 ∀g G H σ Q,Ok K g G H σ Δ -> (∀vs ds G' H' Δ',Ok K g G' H' σ Δ' -> Same G G' -> Reps K G' vs ds->P ds Δ' -> Q vs H')->t σ H Q
def JO (K:W.Frag) (t:TE) (Δ:Evt) (P:OD->Evt->Prop):Prop:=
 ∀g G H σ Q,Ok K g G H σ Δ -> (∀a od G' H' Δ',Ok K g G' H' σ Δ' -> Same G G' -> Pend K g G' H' σ Δ' a od->P od Δ' -> Q (.ref a) H')->t σ H Q
def JR2 (K:W.Frag) (r:R2) (d e:D) (Δ:Evt) (P:D->Evt->Prop):Prop:=
 ∀g G H σ Q x y,Ok K g G H σ Δ -> Rep K G x d->Rep K G y e->Cont K g G σ P Q->r x y H Q
def JR1 (K:W.Frag) (r:V->Hp->VK->Prop) (d:D) (Δ:Evt) (P:D->Evt->Prop):Prop:=
 ∀g G H σ Q x,Ok K g G H σ Δ -> Rep K G x d->Cont K g G σ P Q->r x H Q
def JC (K:W.Frag) (r:List V->Hp->VK->Prop) (ds:List D) (Δ:Evt) (P:D->Evt->Prop):Prop:=
 ∀g G H σ Q vs,Ok K g G H σ Δ -> Reps K G vs ds->Cont K g G σ P Q->r vs H Q
structure Pst where
 nx:Evt->Prop
 rt:D->Evt->Prop
 bk:Evt->Prop:=λ_=>False
 ct:Evt->Prop:=λ_=>False
 ro:OD->Evt->Prop:=λ_ _=>False
structure SCont (K:W.Frag) (g:Gm) (P:Pst) (E:Ends):Prop where
 nx:∀σ G H Δ,Ok K g G H σ Δ -> P.nx Δ -> E.nx σ H
 rt:∀v d σ G H Δ,Ok K g G H σ Δ -> Rep K G v d->P.rt d Δ -> E.rt v H
 bk:∀σ G H Δ,Ok K g G H σ Δ -> P.bk Δ -> E.bk σ H
 ct:∀σ G H Δ,Ok K g G H σ Δ -> P.ct Δ -> E.ct σ H
 ro:∀a od σ G H Δ,Ok K g G H σ Δ -> Pend K g G H σ Δ a od->P.ro od Δ -> E.rt (.ref a) H
def JS (K:W.Frag) (t:TS) (Δ:Evt) (P:Pst):Prop:=
 ∀g G H σ E,Ok K g G H σ Δ -> SCont K g P E->t E σ H
def JG (K:W.Frag) (t:TG) (d:D) (Δ:Evt) (P:Evt->Prop):Prop:=
 ∀g G H σ v (R:St->Hp->Prop),Ok K g G H σ Δ -> Rep K G v d->(∀σ' G' H' Δ',Ok K g G' H' σ' Δ' -> Same G G' -> P Δ' -> R σ' H')->t v σ H R
def JGs (K:W.Frag) (t:TGs) (ds:List D) (Δ:Evt) (P:Evt->Prop):Prop:=
 ∀g G H σ vs (R:St->Hp->Prop),Ok K g G H σ Δ -> Reps K G vs ds->(∀σ' G' H' Δ',Ok K g G' H' σ' Δ' -> Same G G' -> P Δ' -> R σ' H')->t vs σ H R
section
variable {K:W.Frag}{Δ:Evt}
theorem Cont.up {g:Gm}{G G1:Hp}{σ:St}{P:D->Evt->Prop}{Q:VK}(c:Cont K g G σ P Q) (s:Same G G1):Cont K g G1 σ P Q:=
 λv d G' H' Δ' k s' r p=>c v d G' H' Δ' k (s.trans s') r p
theorem JE.mono {t:TE}{P P':D->Evt->Prop}(h:JE K t Δ P) (hp:∀d Δ,P d Δ -> P' d Δ):JE K t Δ P':=
 λg G H σ Q k c=>h g G H σ Q k λv d G' H' Δ' k' s r p=>c v d G' H' Δ' k' s r<|hp d Δ' p
theorem JS.mono {t:TS}{P P':Pst}(h:JS K t Δ P) (hn:∀Δ,P.nx Δ -> P'.nx Δ) (hr:∀d Δ,P.rt d Δ -> P'.rt d Δ) (hb:∀Δ,P.bk Δ -> P'.bk Δ) (hc:∀Δ,P.ct Δ -> P'.ct Δ) (ho:∀od Δ,P.ro od Δ -> P'.ro od Δ):JS K t Δ P':=
 λg G H σ E k c=>h g G H σ E k ⟨λσ' G' H' Δ' k' p=>c.nx σ' G' H' Δ' k'<|hn _ p,λv d σ' G' H' Δ' k' r p=>c.rt v d σ' G' H' Δ' k' r<|hr _ _ p,λσ' G' H' Δ' k' p=>c.bk σ' G' H' Δ' k'<|hb _ p,λσ' G' H' Δ' k' p=>c.ct σ' G' H' Δ' k'<|hc _ p,λa od σ' G' H' Δ' k' r p=>c.ro a od σ' G' H' Δ' k' r<|ho _ _ p⟩
theorem Zac {i:Nat}{d:D}{P:D->Evt->Prop}(h:Δ[i]?=some (.val d)) (p:P d Δ):JE K (tVar i) Δ P:=λg G H σ Q k c=>by
 obtain⟨v,h1,h2⟩:=k.val i d h;exact⟨v,h1,c v d G H Δ k (Same.refl _) h2 p⟩
theorem Zc8 {i:Nat}{ds:List D}{P:D->Evt->Prop}(h:Δ[i]?=some (.own (.lst ds))) (p:P (.lst ds) (Δ.set i (.val (.lst ds)))):JE K (tVar i) Δ P:=λg G H σ Q k c=>by
 obtain⟨a,h1,pd⟩:=k.take h;obtain⟨o,q1,q2,_⟩:=id pd;cases o with
 |lst vs=>
  obtain⟨k2,sg,r⟩:=(k.drop i).freeze pd q1;have k3:=k2.setVal (i:=i) (by simpa using (Wag.mp h).1) r;have e1:σ.set i (some (.ref a)) = σ:=by
   apply Wb3;intro j;by_cases hj:j=i
   ·subst hj;rw[Wau (k.lt h),h1]
   ·rw[Waw (Ne.symm hj)]
  rw[e1,List.set_set]at k3;exact⟨.ref a,h1,c _ _ _ H _ k3 sg r p⟩
 |_=>exact absurd q2 (λz=>z)
theorem Zak {i:Int}{P:D->Evt->Prop}(p:P (.int i) Δ):JE K (tC (.int i)) Δ P:=λg G H σ Q k c=>c _ _ G H Δ k (Same.refl _) (.int i) p
theorem Zgi {b:Bool}{P:D->Evt->Prop}(p:P (.bl b) Δ):JE K (tC (.bl b)) Δ P:=λg G H σ Q k c=>c _ _ G H Δ k (Same.refl _) (.bl b) p
theorem Zhh {P:D->Evt->Prop}(p:P .non Δ):JE K (tC .non) Δ P:=λg G H σ Q k c=>c _ _ G H Δ k (Same.refl _) .non p
theorem Zfo {x:Str}{P:D->Evt->Prop}(p:P (.str x) Δ):JE K (tC (.str x)) Δ P:=λg G H σ Q k c=>c _ _ G H Δ k (Same.refl _) (.str x) p
theorem Zec {x:String}{P:D->Evt->Prop}(p:P (.ty x) Δ):JE K (tC (.ty x)) Δ P:=λg G H σ Q k c=>c _ _ G H Δ k (Same.refl _) (.ty x) p
theorem Zam {r:R2}{ta tb:TE}{P:D->Evt->Prop}(h:JE K ta Δ λd Δ1=>JE K tb Δ1 λe Δ2=>JR2 K r d e Δ2 P):JE K (tOp r ta tb) Δ P:=λg G H σ Q k c=>
 h g G H σ _ k λx d G1 H1 Δ1 k1 s1 r1 p1=>p1 g G1 H1 σ _ k1 λy e G2 H2 Δ2 k2 s2 r2 p2=>p2 g G2 H2 σ Q x y k2 (r1.mono s2) r2<|c.up<|s1.trans s2
theorem Zxe {r:V->Hp->VK->Prop}{ta:TE}{P:D->Evt->Prop}(h:JE K ta Δ λd Δ1=>JR1 K r d Δ1 P):JE K (tUn r ta) Δ P:=λg G H σ Q k c=>
 h g G H σ _ k λx d G1 H1 Δ1 k1 s1 r1 p1=>p1 g G1 H1 σ Q x k1 r1<|c.up s1
theorem Zae {P:List D->Evt->Prop}(p:P [] Δ):JA K tNil Δ P:=λg G H σ Q k c=>c [] [] G H Δ k (Same.refl _) .nil p
theorem Zab {ta:TE}{tr:TA}{P:List D->Evt->Prop}(h:JE K ta Δ λd Δ1=>JA K tr Δ1 λds Δ2=>P (d::ds) Δ2):JA K (tCons ta tr) Δ P:=λg G H σ Q k c=>
 h g G H σ _ k λx d G1 H1 Δ1 k1 s1 r1 p1=>p1 g G1 H1 σ _ k1 λvs ds G2 H2 Δ2 k2 s2 r2 p2=>c _ _ G2 H2 Δ2 k2 (s1.trans s2) (.cons (r1.mono s2) r2) p2
theorem Zas {r:List V->Hp->VK->Prop}{ta:TA}{P:D->Evt->Prop}(h:JA K ta Δ λds Δ1=>JC K r ds Δ1 P):JE K (tCB r ta) Δ P:=λg G H σ Q k c=>
 h g G H σ _ k λvs ds G1 H1 Δ1 k1 s1 r1 p1=>p1 g G1 H1 σ Q vs k1 r1<|c.up s1
theorem Zbs {ta:TA}{P:D->Evt->Prop}(h:JA K ta Δ λds Δ1=>ds.length<=sizeLine/\P (.tup ds) Δ1):JE K (tTup ta) Δ P:=λg G H σ Q k c=>
 h g G H σ _ k λvs ds G1 H1 Δ1 k1 s1 r1 ⟨z,p1⟩=>⟨by rw[r1.length];exact z,λp hp=>by
  obtain⟨k2,sg⟩:=k1.laid hp (.tup vs);exact c _ _ _ _ Δ1 k2 (s1.trans sg) (.tup Zat (r1.mono sg)) p1⟩
theorem Zf6 {ta:TA}{P:D->Evt->Prop}(h:JA K ta Δ λds Δ1=>ds.length<=sizeLine/\P (.lst ds) Δ1):JE K (tLst ta) Δ P:=λg G H σ Q k c=>
 h g G H σ _ k λvs ds G1 H1 Δ1 k1 s1 r1 ⟨z,p1⟩=>⟨by rw[r1.length];exact z,λp hp=>by
  obtain⟨k2,sg⟩:=k1.laid hp (.lst vs);exact c _ _ _ _ Δ1 k2 (s1.trans sg) (.lst Zat (r1.mono sg)) p1⟩
theorem Ok.fresh {g:Gm}{G H:Hp}{σ:St}(k:Ok K g G H σ Δ) {p:Addr}{o:HO}{od:OD}(hp:H p=none) (r:OwnRep K G o od):Ok K g G (upd H p o) σ Δ /\ Pend K g G (upd H p o) σ Δ p od:=by
 have hG:G p=none:=by
  cases e:G p with
  |none=>rfl
  |some u=>rw[k.live p u e]at hp;cases hp
 refine⟨k.grow (Same.refl _) (λb u e=>by rw[Zan (Zap e hp)];exact e) λb u e=>⟨?_,.inl e⟩,o,Zat,r,hG,k.there hp,?_,λj x od' e1 e2 e3=>?_⟩
 ·have hb:b≠p:=by intro z;subst z;rw[hG]at e;cases e
  rw[Zan hb];exact k.live b u e
 ·cases q:g.Xo p with
  |none=>rfl
  |some u=>have z:=(k.ext p u q).1;rw[hp]at z;cases z
 ·obtain⟨a,oo,w1,w2,_⟩:=k.own j x od' e1 e2
  rw[e3]at w1;cases w1;rw[hp]at w2;cases w2
theorem Zfh {ta:TA}{P:OD->Evt->Prop}(h:JA K ta Δ λds Δ1=>ds.length<=sizeLine/\P (.lst ds) Δ1):JO K (tLst ta) Δ P:=λg G H σ Q k c=>
 h g G H σ _ k λvs ds G1 H1 Δ1 k1 s1 r1 ⟨z,p1⟩=>⟨by rw[r1.length];exact z,λp hp=>by
  obtain⟨k2,pd⟩:=k1.fresh (od:=.lst ds) hp (show OwnRep K G1 (.lst vs) (.lst ds) from r1);exact c p _ G1 _ Δ1 k2 s1 pd p1⟩
theorem Za8 {t:TE}{P:D->Evt->Prop}(h:JO K t Δ λod Δ1=>∃ds,od=.lst ds/\P (.lst ds) Δ1):JE K t Δ P:=λg G H σ Q k c=>
 h g G H σ Q k λa od G1 H1 Δ1 k1 s1 pd hq_=>by
  obtain⟨ds,e,p1⟩:=hq_;subst e;obtain⟨o,q1,q2,_⟩:=id pd;cases o with
  |lst vs=>
   obtain⟨k2,sg,r⟩:=k1.freeze pd q1;exact c _ _ _ H1 Δ1 k2 (s1.trans sg) r p1
  |_=>exact absurd q2 (λz=>z)
theorem Zay {t:TE}{P:Bool->Evt->Prop}(h:JE K t Δ λd Δ1=>∃b,d=.bl b/\P b Δ1):JT K (tTest t) Δ P:=λg G H σ Q k c=>
 h g G H σ _ k λv d G1 H1 Δ1 k1 s1 r1 hq_=>by obtain⟨b,e,p1⟩:=hq_;subst e;cases r1.inv;exact⟨b,rfl,c b G1 H1 Δ1 k1 s1 p1⟩
theorem Zj1 {a b:TT}{P:Bool->Evt->Prop}(h:JT K a Δ λx Δ1=>if x=true then JT K b Δ1 P else P false Δ1):JT K (tAnd a b) Δ P:=λg G H σ Q k c=>
 h g G H σ _ k λx G1 H1 Δ1 k1 s1 p1=>by
  cases x with
  |true=>exact(show JT K b Δ1 P from p1) g G1 H1 σ _ k1 λy G2 H2 Δ2 k2 s2 p2=>c y G2 H2 Δ2 k2 (s1.trans s2) p2
  |false=>exact c false G1 H1 Δ1 k1 s1 p1
theorem Zer {a b:TT}{P:Bool->Evt->Prop}(h:JT K a Δ λx Δ1=>if x=true then P true Δ1 else JT K b Δ1 P):JT K (tOr a b) Δ P:=λg G H σ Q k c=>
 h g G H σ _ k λx G1 H1 Δ1 k1 s1 p1=>by
  cases x with
  |true=>exact c true G1 H1 Δ1 k1 s1 p1
  |false=>exact(show JT K b Δ1 P from p1) g G1 H1 σ _ k1 λy G2 H2 Δ2 k2 s2 p2=>c y G2 H2 Δ2 k2 (s1.trans s2) p2
theorem Zca {a:TT}{P:Bool->Evt->Prop}(h:JT K a Δ λx Δ1=>P (!x) Δ1):JT K (tNot a) Δ P:=λg G H σ Q k c=>
 h g G H σ _ k λx G1 H1 Δ1 k1 s1 p1=>c (!x) G1 H1 Δ1 k1 s1 p1
theorem Zba {P:Bool->Evt->Prop}(p:P true Δ):JT K tTrue Δ P:=λg G H σ Q k c=>c true G H Δ k (Same.refl _) p
theorem Zpy {P:Pst}(p:P.nx Δ):JS K tNext Δ P:=λg G H σ E k c=>c.nx σ G H Δ k p
theorem Zsd {t u:TS}{P:Pst}(h:JS K t Δ { P with nx:=λΔ1=>JS K u Δ1 P }):JS K (tSeq t u) Δ P:=λg G H σ E k c=>
 h g G H σ _ k ⟨λσ1 G1 H1 Δ1 k1 p1=>p1 g G1 H1 σ1 E k1 c,c.rt,c.bk,c.ct,c.ro⟩
theorem Zvx {te:TE}{P:Pst}(h:JE K te Δ P.rt):JS K (tRet te) Δ P:=λg G H σ E k c=>
 h g G H σ _ k λv d G1 H1 Δ1 k1 s1 r1 p1=>c.rt v d σ G1 H1 Δ1 k1 r1 p1
theorem Ztq {te:TE}{P:Pst}(h:JO K te Δ P.ro):JS K (tRet te) Δ P:=λg G H σ E k c=>
 h g G H σ _ k λa od G1 H1 Δ1 k1 s1 pd p1=>c.ro a od σ G1 H1 Δ1 k1 pd p1
theorem Zxh {c:TT}{t u:TS}{P:Pst}(h:JT K c Δ λb Δ1=>if b=true then JS K t Δ1 P else JS K u Δ1 P):JS K (tIfS c t u) Δ P:=λg G H σ E k q=>
 h g G H σ _ k λb G1 H1 Δ1 k1 s1 p1=>by
  cases b with
  |true=>exact(show JS K t Δ1 P from p1) g G1 H1 σ E k1 q
  |false=>exact(show JS K u Δ1 P from p1) g G1 H1 σ E k1 q
theorem Zw6 {te:TE}{t:TG}{P:Pst}(h:JE K te Δ λd Δ1=>JG K t d Δ1 P.nx):JS K (tAsg te t) Δ P:=λg G H σ E k c=>
 h g G H σ _ k λv d G1 H1 Δ1 k1 s1 r1 p1=>p1 g G1 H1 σ v _ k1 r1 λσ2 G2 H2 Δ2 k2 s2 p2=>c.nx σ2 G2 H2 Δ2 k2 p2
theorem Zj6 {P:Evt->Prop}(p:P Δ):JGs K gNil [] Δ P:=λg G H σ vs R k r c=>by cases r;exact⟨rfl,c σ G H Δ k (Same.refl _) p⟩
theorem Zeh {t:TG}{u:TGs}{d:D}{ds:List D}{P:Evt->Prop}(h:JG K t d Δ λΔ1=>JGs K u ds Δ1 P):JGs K (gCons t u) (d::ds) Δ P:=λg G H σ vs R k r c=>by
 obtain⟨_,_,rfl,r1,rr⟩:=r.inv
 next=>exact⟨_,_,rfl,h g G H σ _ _ k r1 λσ1 G1 H1 Δ1 k1 s1 p1=>p1 g G1 H1 σ1 _ R k1 (rr.mono s1) λσ2 G2 H2 Δ2 k2 s2 p2=>c σ2 G2 H2 Δ2 k2 (s1.trans s2) p2⟩
theorem Zo3 {n:Nat}{t:TGs}{ds:List D}{P:Evt->Prop}(hl:ds.length=n) (h:JGs K t ds Δ P):JG K (gTup K n t) (.tup ds) Δ P:=λg G H σ v R k r c=>by
 obtain⟨_,_,rfl,ha,rs⟩:=r.inv
 next=>exact⟨_,_,rfl,SqT.of<|k.live _ _ ha,by rw[rs.length];exact hl,h g G H σ _ R k rs c⟩
def ItOk (K:W.Frag) (G:Hp) (J:It) (ds:List D):Prop:=
 ∀G1 H1,Same G G1->Same G1 H1->J.stop ds.length H1/\∀(i:Nat) d,ds[i]?=some d->J.go i H1/\∀x H2,J.yld i H1 x H2->∃G2,Same G1 G2/\Same H1 H2/\(∀b o,G2 b=some o->H2 b=some o/\(G1 b=some o\/H1 b=none))/\Rep K G2 x d
def JI (K:W.Frag) (wi:TI) (Δ:Evt) (P:List D->Evt->Prop):Prop:=
 ∀g G H σ (R:It->Hp->Prop),Ok K g G H σ Δ -> (∀J ds G' H' Δ',Ok K g G' H' σ Δ' -> Same G G' -> ItOk K G' J ds->P ds Δ' -> R J H')->wi σ H R
theorem Zwr {tl:TE}{P:List D->Evt->Prop}(h:JE K tl Δ λd Δ1=>∃ds,d=.tup ds/\P ds Δ1):JI K (iTup K tl) Δ P:=λg G H σ R k c=>
 h g G H σ _ k λv d G1 H1 Δ1 k1 s1 r1 hq_=>by
  obtain⟨ds,e,p1⟩:=hq_;subst e;obtain⟨a,vs,rfl,ha,rs⟩:=r1.inv
  next=>
   refine⟨a,rfl,⟨vs,SqT.of<|k1.live _ _ ha⟩,c _ ds G1 H1 Δ1 k1 s1 (λG2 H2 sg sh=>⟨⟨vs,SqT.of<|sh _ _<|sg _ _ ha,by rw[rs.length];exact Wak _⟩,λi d e=>?_⟩) p1⟩;obtain⟨v,hv,rv⟩:=rs.get e;refine⟨⟨vs,v,SqT.of<|sh _ _<|sg _ _ ha,hv⟩,λx H3 ⟨e3,y3⟩=>⟨G2,Same.refl _,by rw[e3];exact Same.refl _,λb o q=>⟨by rw[e3];exact sh b o q,.inl q⟩,?_⟩⟩;have:=y3 vs<|SqT.of<|sh _ _<|sg _ _ ha;rw[hv]at this;cases this;exact rv.mono sg
theorem Zt4 {tl:TE}{P:List D->Evt->Prop}(h:JE K tl Δ λd Δ1=>∃ds,(d=.lst ds\/d=.scr ds)/\P ds Δ1):JI K (iList K tl) Δ P:=λg G H σ R k c=>
 h g G H σ _ k λv d G1 H1 Δ1 k1 s1 r1 hq_=>by
  obtain⟨ds,e,p1⟩:=hq_;obtain⟨a,vs,ea,hs,rs⟩:∃a vs,v=.ref a/\SqL K G1 a vs/\Reps K G1 vs ds:=by
   rcases e with e|e
   ·subst e;cases r1 with|lst ha rs=>exact⟨_,_,rfl,SqL.of ha,rs⟩
   ·subst e;cases r1 with|scr ha rs=>exact⟨_,_,rfl,ha,rs⟩
  subst ea;refine⟨a,rfl,⟨vs,k1.live.seq hs⟩,c _ ds G1 H1 Δ1 k1 s1 (λG2 H2 sg sh=>⟨⟨vs,sh.seq<|sg.seq hs,by rw[rs.length];exact Wak _⟩,λi d e=>?_⟩) p1⟩;obtain⟨v,hv,rv⟩:=rs.get e;refine⟨⟨vs,v,sh.seq<|sg.seq hs,hv⟩,λx H3 ⟨e3,y3⟩=>⟨G2,Same.refl _,by rw[e3];exact Same.refl _,λb o q=>⟨by rw[e3];exact sh b o q,.inl q⟩,?_⟩⟩;have:=y3 vs<|sh.seq<|sg.seq hs;rw[hv]at this;cases this;exact rv.mono sg
def rngD (lo:Int) (n:Nat):List D:=(Waq n).map λi:Nat=>D.int<|lo+(i:Int)
theorem Zbc (lo:Int) (n:Nat):(rngD lo n).length=n:=by simp[rngD]
theorem Zb5 {lo:Int}{n i:Nat}{d:D}(h:(rngD lo n)[i]?=some d):i<n/\d=.int (lo+(i:Int)):=by
 unfold rngD at h;rw[Wad]at h;cases e:(Waq n)[i]? with
 |none=>rw[e]at h;cases h
 |some j=>
  rw[e]at h;obtain⟨h1,h2⟩:=Wag.mp e;rw[Wdd]at h2;subst h2;exact⟨by simpa using h1,(Wa6.inj h).symm⟩
theorem Zru {G:Hp}(lo:Int) (n:Nat):ItOk K G (Itr lo n) (rngD lo n):=λG1 H1 sg sh=>by
 refine⟨by show n<=(rngD lo n).length;rw[Zbc];exact Wak _,λi d e=>?_⟩;obtain⟨h1,h2⟩:=Zb5 e;subst h2;refine⟨h1,λx H2 ⟨e2,y2⟩=>⟨G1,Same.refl _,by rw[e2];exact Same.refl _,λb o q=>⟨by rw[e2];exact sh b o q,.inl q⟩,?_⟩⟩;subst y2;exact .int _
theorem Zbi {ta:TA}{P:List D->Evt->Prop}(h:JA K ta Δ λds Δ1=>∃n:Int,ds=[.int n] /\ -(2 ^ 62)<=n/\n<2 ^ 62/\P (rngD 0 n.toNat) Δ1):JI K (iRng1 ta) Δ P:=λg G H σ R k c=>
 h g G H σ _ k λvs ds G1 H1 Δ1 k1 s1 r1 hq_=>by
  obtain⟨n,e,h1,h2,p1⟩:=hq_;subst e;obtain⟨_,_,rfl,ra,rr⟩:=r1.inv
  next=>
   cases rr.inv;cases ra.inv;exact⟨n,rfl,h1,h2,c _ _ G1 H1 Δ1 k1 s1 (Zru 0 _) p1⟩
theorem Zvw {wi:TI}{t:TG}{tb:TS}{P:Pst}(h:JI K wi Δ λds Δ1=>∃I:Nat->Evt->Prop,I 0 Δ1/\(∀i d Δ2,ds[i]?=some d->I i Δ2->JG K t d Δ2 λΔ3=>JS K tb Δ3 ⟨I<|i+1,P.rt,P.nx,I<|i+1,P.ro⟩)/\∀Δ2,I ds.length Δ2->P.nx Δ2) :
  JS K (tFor wi t tb) Δ P:=λg G H σ E k c=>
 h g G H σ _ k λJ ds G1 H1 Δ1 k1 s1 it hq_=>by
  obtain⟨I,h0,ht,he⟩:=hq_;refine⟨λi m σ H=>m=ds.length-i/\i<=ds.length/\∃G Δ,Ok K g G H σ Δ /\ Same G1 G/\I i Δ,⟨ds.length,by simp,Wbx _,G1,Δ1,k1,Same.refl _,h0⟩,?_⟩;rintro i m σ2 H2 ⟨rfl,hi,G2,Δ2,k2,s2,h2⟩;obtain⟨stop,go⟩:=it G2 H2 s2 k2.live;by_cases hlt:i<ds.length
  ·obtain⟨g1,g2⟩:=go i _ (Wab hlt)
   refine .inr ⟨g1,λσ' H'=>i+1<=ds.length/\∃G Δ,Ok K g G H' σ' Δ /\ Same G1 G/\I (i+1) Δ,λσ' H' p'=>⟨ds.length-(i+1),by omega,rfl,p'.1,p'.2⟩,λx H3 y=>?_⟩;obtain⟨G3,a1,a2,a3,a4⟩:=g2 x H3 y;have k3:=k2.grow a1 a2 a3;refine ht i _ Δ2 (Wab hlt) h2 { g with F:=G3,Xo:=g.Xo } G3 H3 σ2 x _ ?_ a4 λσ4 G4 H4 Δ4 k4 s4 p4=>?_
   ·exact⟨k3.same,k3.lent,Same.refl _,λb o q=>⟨(k3.frz b o q).1,.inr q⟩,k3.ext,k3.len,k3.val,k3.own,k3.dis⟩
   ·have cv:∀{G5 H5:Hp}{σ5:St}{Δ5:Evt},Ok K { g with F:=G3,Xo:=g.Xo } G5 H5 σ5 Δ5->Ok K g G5 H5 σ5 Δ5/\Same G1 G5:=λ{G5 H5 σ5 Δ5} k5=>
     ⟨⟨k5.same,k5.lent,k3.sub.trans k5.sub,λb o q=>by
      obtain⟨q1,q2⟩:=k5.frz b o q;refine⟨q1,?_⟩;rcases q2 with z|z
      ·exact .inl z
      ·exact(k3.frz b o z).2,k5.ext,k5.len,k5.val,k5.own,k5.dis⟩,s2.trans (a1.trans k5.sub)⟩
    refine p4 _ G4 H4 σ4 _ k4 ⟨λσ5 G5 H5 Δ5 k5 p5=>?_,λv d σ5 G5 H5 Δ5 k5 r5 p5=>?_,λσ5 G5 H5 Δ5 k5 p5=>?_,λσ5 G5 H5 Δ5 k5 p5=>?_,λa od σ5 G5 H5 Δ5 k5 pd5 p5=>?_⟩
    ·exact⟨hlt,G5,Δ5,(cv k5).1,(cv k5).2,p5⟩
    ·exact c.rt v d σ5 G5 H5 Δ5 (cv k5).1 r5 p5
    ·exact c.nx σ5 G5 H5 Δ5 (cv k5).1 p5
    ·exact⟨hlt,G5,Δ5,(cv k5).1,(cv k5).2,p5⟩
    ·exact c.ro a od σ5 G5 H5 Δ5 (cv k5).1 pd5 p5
  ·have e:i=ds.length:=by omega
   subst e;exact .inl ⟨stop,c.nx σ2 G2 H2 Δ2 k2<|he Δ2 h2⟩
theorem Zqs {c:TT}{tb:TS}{P:Pst}(I:Nat->Evt->Prop) (h0:∃m,I m Δ) (ht:∀m Δ1,I m Δ1->JT K c Δ1 λb Δ2=>if b=true then JS K tb Δ2 ⟨λΔ3=>∃m',m'<m/\I m' Δ3,P.rt,P.nx,λΔ3=>∃m',m'<m/\I m' Δ3,P.ro⟩ else P.nx Δ2) :
  JS K (tWhile c tb) Δ P:=λg G H σ E k q=>by
 obtain⟨m,h0⟩:=h0;refine⟨λm σ H=>∃G Δ,Ok K g G H σ Δ /\ I m Δ,⟨m,G,Δ,k,h0⟩,?_⟩;rintro m σ1 H1 ⟨G1,Δ1,k1,h1⟩;refine ht m Δ1 h1 g G1 H1 σ1 _ k1 λb G2 H2 Δ2 k2 s2 p2=>?_;cases b with
 |true=>
  refine⟨λσ' H'=>∃m',m'<m/\∃G Δ,Ok K g G H' σ' Δ /\ I m' Δ,λσ' H' ⟨m',hm,z⟩=>⟨m',hm,z⟩,?_⟩;refine(show JS K tb Δ2 _ from p2) g G2 H2 σ1 _ k2 ⟨λσ5 G5 H5 Δ5 k5 ⟨m',hm,p5⟩=>⟨m',hm,G5,Δ5,k5,p5⟩,q.rt,q.nx,λσ5 G5 H5 Δ5 k5 ⟨m',hm,p5⟩=>⟨m',hm,G5,Δ5,k5,p5⟩,q.ro⟩
 |false=>exact q.nx σ1 G2 H2 Δ2 k2 p2
end
section
variable {K:W.Frag}{Δ:Evt}{P:D->Evt->Prop}
theorem jr_I {C:Int->Int->Prop}{f:Int->Int->Int}{i j:Int}(hc:C i j) (p:P (.int<|f i j) Δ):JR2 K (rI C λi j=>.int<|f i j) (.int i) (.int j) Δ P:=λg G H σ Q x y k rx ry c=>by
 cases rx.inv;cases ry.inv;exact⟨i,j,rfl,rfl,hc,c _ _ G H Δ k (Same.refl _) (.int _) p⟩
theorem Zuh {f:Int->Int->Int}{i j:Int}(p:P (.int<|f i j) Δ):JR2 K (rI0 λi j=>.int<|f i j) (.int i) (.int j) Δ P:=λg G H σ Q x y k rx ry c=>by
 cases rx.inv;cases ry.inv;exact⟨i,j,rfl,rfl,c _ _ G H Δ k (Same.refl _) (.int _) p⟩
theorem Zne {f:Int->Int->Bool}{i j:Int}(p:P (.bl<|f i j) Δ):JR2 K (rI0 λi j=>.bl<|f i j) (.int i) (.int j) Δ P:=λg G H σ Q x y k rx ry c=>by
 cases rx.inv;cases ry.inv;exact⟨i,j,rfl,rfl,c _ _ G H Δ k (Same.refl _) (.bl _) p⟩
theorem Zeq {i j:Int}(p:P (.bl<|decide (i=j)) Δ):JR2 K rEq (.int i) (.int j) Δ P:=λg G H σ Q x y k rx ry c=>by
 cases rx.inv;cases ry.inv;refine⟨rfl,?_⟩;have e:decide (V.int i=V.int j)=decide (i=j):=by rw[Zid];exact(Wdy i j)
 rw[e];exact c _ _ G H Δ k (Same.refl _) (.bl _) p
theorem Zha {i j:Int}(p:P (.bl (!decide (i=j))) Δ):JR2 K rNe (.int i) (.int j) Δ P:=λg G H σ Q x y k rx ry c=>by
 cases rx.inv;cases ry.inv;refine⟨rfl,?_⟩;have e:decide (V.int i=V.int j)=decide (i=j):=by rw[Zid];exact(Wdy i j)
 rw[e];exact c _ _ G H Δ k (Same.refl _) (.bl _) p
theorem Zu2 {ds:List D}{i:Int}{d:D}(h:atI ds i=some d) (p:P d Δ):JR2 K (rIxT K) (.tup ds) (.int i) Δ P:=λg G H σ Q x y k rx ry c=>by
 obtain⟨_,_,rfl,ha,rs⟩:=rx.inv
 next=>
  cases ry.inv;obtain⟨v,h1,h2⟩:=Zir rs h;exact⟨_,_,i,v,rfl,rfl,SqT.of<|k.live _ _ ha,h1,c v d G H Δ k (Same.refl _) h2 p⟩
theorem Zvs {ds:List D}{i:Int}{d:D}(h:atI ds i=some d) (p:P d Δ):JR2 K (rIxL K) (.lst ds) (.int i) Δ P:=λg G H σ Q x y k rx ry c=>by
 obtain⟨_,_,rfl,ha,rs⟩:=rx.inv
 next=>
  cases ry.inv;obtain⟨v,h1,h2⟩:=Zir rs h;exact⟨_,_,i,v,rfl,rfl,SqL.of<|k.live _ _ ha,h1,c v d G H Δ k (Same.refl _) h2 p⟩
theorem Zp8 {n:Nat}{te:TE}{Pp:Pst}{x:Slot}{od:OD}(hx:Δ[n]?=some x) (ho:x.od=some od) (hod:∃ds,od=.lst ds)
  (h:JE K te Δ λd Δ1=>∃y ds,Δ1[n]?=some y/\y.od=some (.lst ds)/\ds.length<sizeLine/\Pp.nx (Δ1.set n<|y.put (.lst<|ds++[d]))) :
  JS K (tDrop<|tBM K "list" rAppend (tVar n)<|tCons te tNil) Δ Pp:=λg G H σ E k c=>by
 obtain⟨a,o,h1,h2,h3,h4,h5⟩:=k.own n x _ hx ho;obtain⟨ds0,hod⟩:=hod;subst hod;cases o with
 |lst vs0=>
  refine⟨.ref a,h1,.inl ⟨rfl,_,SqL.of h2⟩,h g G H σ _ k λv d G1 H1 Δ1 k1 s1 r1 ⟨y,ds,q1,q2,q3,p⟩=>?_⟩;obtain⟨a',o',w1,w2,w3,w4,w5⟩:=k1.own n y _ q1 q2;rw[h1]at w1;cases w1;cases o' with
  |lst vs=>
   have w3:Reps K G1 vs ds:=w3;exact⟨a,vs,v,rfl,rfl,w2,by rw[w3.length];exact q3,c.nx σ G1 _ _ (k1.write q1 q2 h1 (show OwnRep K G1 (.lst<|vs++[v]) (.lst<|ds++[d]) from w3.append (.cons r1 .nil))) p⟩
  |_=>exact absurd w3 (λz=>z)
 |_=>exact absurd h3 (λz=>z)
theorem Zwb {ds es:List D}(he:ds=[.lst es]\/ds=[.tup es]) (p:P (.int es.length) Δ) :
  JC K (λxs H Q=>∃p ys,xs=[.ref p]/\(SqL K H p ys\/SqT K H p ys)/\Q (.int ys.length) H) ds Δ P:=λg G H σ Q vs k rs c=>by
 rcases he with he|he <;> subst he
 ·obtain⟨_,_,rfl,r,t⟩:=rs.inv
  next=>
   cases t.inv;obtain⟨_,_,rfl,ha,rs⟩:=r.inv
   next=>
    refine⟨_,_,rfl,.inl<|SqL.of<|k.live _ _ ha,?_⟩;rw[rs.length];exact c _ _ G H Δ k (Same.refl _) (.int _) p
 ·obtain⟨_,_,rfl,r,t⟩:=rs.inv
  next=>
   cases t.inv;obtain⟨_,_,rfl,ha,rs⟩:=r.inv
   next=>
    refine⟨_,_,rfl,.inr<|SqT.of<|k.live _ _ ha,?_⟩;rw[rs.length];exact c _ _ G H Δ k (Same.refl _) (.int _) p
theorem Zs6 {n:Nat}{x:Slot}{ds:List D}(hx:Δ[n]?=some x) (ho:x.od=some (.lst ds)) (p:P (.int ds.length) Δ) :
  JE K (tCB (λxs H Q=>∃p ys,xs=[.ref p]/\(SqL K H p ys\/SqT K H p ys)/\Q (.int ys.length) H)<|tCons (tVar n) tNil) Δ P:=λg G H σ Q k c=>by
 obtain⟨a,o,h1,h2,h3,h4,h5⟩:=k.own n x _ hx ho;cases o with
 |lst vs=>
  have h3:Reps K G vs ds:=h3;refine⟨.ref a,h1,a,vs,rfl,.inl<|SqL.of h2,?_⟩;rw[h3.length];exact c _ _ G H Δ k (Same.refl _) (.int _) p
 |_=>exact absurd h3 (λz=>z)
theorem Zv1 {i:Int}(p:P (.int (if i<0 then -i else i)) Δ):JC K (λxs H Q=>∃i,xs=[.int i]/\Q (.int (if i<0 then -i else i)) H) [.int i] Δ P:=λg G H σ Q vs k rs c=>by
 obtain⟨_,_,rfl,r,t⟩:=rs.inv
 next=>cases t.inv;cases r.inv;exact⟨i,rfl,c _ _ G H Δ k (Same.refl _) (.int _) p⟩
theorem Zlo {f:Int->Int->Int}{i j:Int}(p:P (.int<|f i j) Δ):JC K (λxs H Q=>∃i j,xs=[.int i,.int j]/\Q (.int<|f i j) H) [.int i,.int j] Δ P:=λg G H σ Q vs k rs c=>by
 obtain⟨_,_,rfl,r,t⟩:=rs.inv
 next=>
  obtain⟨_,_,rfl,r',t⟩:=t.inv
  next=>cases t.inv;cases r.inv;cases r'.inv;exact⟨i,j,rfl,c _ _ G H Δ k (Same.refl _) (.int _) p⟩
theorem Zqq {ds es:List D}(he:ds=[.lst es]\/ds=[.tup es]) (p:P (.tup es) Δ) :
  JC K (λxs H Q=>∃p ys,xs=[.ref p]/\((SqL K H p ys/\∀l,H l=none->Q (.ref l) (upd H l (.tup ys)))\/(SqT K H p ys/\Q (.ref p) H))) ds Δ P:=λg G H σ Q vs k rs c=>by
 rcases he with he|he <;> subst he
 ·obtain⟨_,_,rfl,r,t⟩:=rs.inv
  next=>
   cases t.inv;obtain⟨_,_,rfl,ha,rs⟩:=r.inv
   next=>
    refine⟨_,_,rfl,.inl ⟨SqL.of<|k.live _ _ ha,λl hl=>?_⟩⟩;obtain⟨k2,sg⟩:=k.laid hl (.tup _);exact c _ _ _ _ Δ k2 sg (.tup Zat<|rs.mono sg) p
 ·obtain⟨_,_,rfl,r,t⟩:=rs.inv
  next=>
   cases t.inv;obtain⟨_,_,rfl,ha,rs⟩:=r.inv
   next=>exact⟨_,_,rfl,.inr ⟨SqT.of<|k.live _ _ ha,c _ _ G H Δ k (Same.refl _) (.tup ha rs) p⟩⟩
def glue (F H H':Hp):Hp:=λb=>match H b with
 |none=>H' b
 |some _=>F b
theorem Zff {F H H':Hp}{b:Addr}(h:H b=none):glue F H H' b=H' b:=by unfold glue;rw[h]
theorem Zdu {F H H':Hp}{b:Addr}{o:HO}(h:H b=some o):glue F H H' b=F b:=by unfold glue;rw[h]
theorem Ze6 {G H H':Hp}(l:Same G H):Same G (glue G H H'):=λb o e=>by rw[Zdu (l b o e)];exact e
theorem Zg7 {G H H':Hp}(l:Same G H) (sh:∀b o,G b=some o->H b=some o->H' b=some o):∀b o,glue G H H' b=some o->H' b=some o/\(G b=some o\/H b=none):=λb o e=>by
 cases q:H b with
 |none=>rw[Zff q]at e;exact⟨e,.inr rfl⟩
 |some u=>rw[Zdu q]at e;exact⟨sh b o e (l b o e),.inl e⟩
abbrev DSp:=List D->(D->Prop)->Prop
def spD (K:W.Frag) (f:DSp):Sp:=λvs H Q _=>∃F ds Post,Same F H/\Reps K F vs ds/\f ds Post/\∀r H' d,Same H H' -> Rep K (glue F H H') r d->Post d->Q r H'
theorem Zaw {f:DSp}{ta:TA}{E:XK}(h:JA K ta Δ λds Δ1=>f ds λd=>P d Δ1):JE K (tCall (spD K f) [] E ta) Δ P:=λg G H σ Q k c=>
 h g G H σ _ k λvs ds G1 H1 Δ1 k1 s1 r1 p1=>by
  show spD K f (vs++[]) H1 Q E;rw[Wa3];refine⟨G1,ds,_,k1.live,r1,p1,λr H' d sh rr pd=>?_⟩;have sg:=Ze6 (H':=H') k1.live;exact c r d _ H' Δ1 (k1.grow sg sh (Zg7 k1.live λb o _ e=>sh b o e)) (s1.trans sg) rr pd
abbrev BSp:=List D->List D->(D->List D->Prop)->Prop
def spB (K:W.Frag) (f:BSp):Sp:=λvs H Q _=>∃F a us ws ps ds Post,vs=.ref a::ws/\Same F H/\F a=none/\H a=some (.lst us)/\Reps K F us ps/\Reps K F ws ds/\f ps ds Post ∧
 ∀r H' us' ps' d,(∀b o,b≠a->H b=some o->H' b=some o)->H' a=some (.lst us')->Reps K (glue F H H') us' ps' -> Rep K (glue F H H') r d->Post d ps' -> Q r H'
theorem Ok.lend {g:Gm}{G H H':Hp}{σ:St}(k:Ok K g G H σ Δ) {i:Nat}{x:Slot}{ps ps':List D}{us':List V}{a:Addr}(hx:Δ[i]?=some x) (ho:x.od=some (.lst ps)) (ha:σ[i]?=some (some (.ref a)))
  (sh:∀b o,b≠a->H b=some o->H' b=some o) (hn:H' a=some (.lst us')) (r:Reps K (glue G H H') us' ps'):Ok K g (glue G H H') H' σ (Δ.set i<|x.put (.lst ps'))/\Same G (glue G H H'):=by
 obtain⟨a',o,h1,h2,h3,h4,h5⟩:=k.own i x _ hx ho;rw[ha]at h1;cases h1;have sg:=Ze6 (H':=H') k.live;have k2:Ok K g (glue G H H') (upd H' a o) σ Δ:=by
  refine k.grow sg (λb u e=>?_) λb u e=>?_
  ·by_cases hb:b=a
   ·subst hb;rw[Zat,<- h2];exact e
   ·rw[Zan hb];exact sh b u hb e
  ·have hb:b≠a:=by intro z;subst z;rw[Zdu h2,h4]at e;cases e
   rw[Zan hb];exact Zg7 k.live (λc w e1 e2=>sh c w (λz=>by subst z;rw[h4]at e1;cases e1) e2) b u e
 have k3:=k2.write hx ho ha (show OwnRep K (glue G H H') (.lst us') (.lst ps') from r);rw[Zs1]at k3;have e:upd H' a (.lst us')=H':=by
  funext b
  by_cases hb:b=a
  ·subst hb;rw[Zat,hn]
  ·rw[Zan hb]
 rw[e]at k3;exact⟨k3,sg⟩
theorem Zbj {f:BSp}{ta:TA}{E:XK}{i:Nat}{x:Slot}{od:OD}(hx:Δ[i]?=some x) (ho:x.od=some od) (h:JA K ta Δ λds Δ1=>∃y ps,Δ1[i]?=some y/\y.od=some (.lst ps)/\f ps ds λd ps'=>P d (Δ1.set i<|y.put (.lst ps'))) :
  JE K (tCall (spB K f) [] E<|tCons (tVar i) ta) Δ P:=λg G H σ Q k c=>by
 obtain⟨a,o,h1,h2,h3,h4,h5⟩:=k.own i x _ hx ho;refine⟨.ref a,h1,h g G H σ _ k λvs ds G1 H1 Δ1 k1 s1 r1 ⟨y,ps,q1,q2,p1⟩=>?_⟩;show spB K f ((.ref a::vs)++[]) H1 Q E;rw[Wa3];obtain⟨a',o',w1,w2,w3,w4,w5⟩:=k1.own i y _ q1 q2;rw[h1]at w1;cases w1;cases o' with
 |lst us=>
  refine⟨G1,a,us,vs,ps,ds,_,rfl,k1.live,w4,w2,w3,r1,p1,λr H' us' ps' d sh hn rr rd pd=>?_⟩;obtain⟨k2,sg⟩:=k1.lend q1 q2 h1 sh hn rr;exact c r d _ H' _ k2 (s1.trans sg) rd pd
 |_=>exact absurd w3 (λz=>z)
abbrev NSp:=List D->(List D->Prop)->Prop
def spN (K:W.Frag) (f:NSp):Sp:=λvs H Q _=>∃F ds Post,Same F H/\Reps K F vs ds/\f ds Post ∧
 ∀a H' us ps,Same H H' -> H a=none->H' a=some (.lst us)->Reps K (λb=>if b=a then none else glue F H H' b) us ps->Post ps->Q (.ref a) H'
theorem Zcq {f:NSp}{ta:TA}{E:XK}{Po:OD->Evt->Prop}(h:JA K ta Δ λds Δ1=>f ds λps=>Po (.lst ps) Δ1):JO K (tCall (spN K f) [] E ta) Δ Po:=λg G H σ Q k c=>
 h g G H σ _ k λvs ds G1 H1 Δ1 k1 s1 r1 p1=>by
  show spN K f (vs++[]) H1 Q E;rw[Wa3];refine⟨G1,ds,_,k1.live,r1,p1,λa H' us ps sh ha hn rr pd=>?_⟩;have sg:Same G1 (λb=>if b=a then none else glue G1 H1 H' b):=λb o e=>by
   have hb:b≠a:=by intro z;subst z;rw[k1.live _ _ e]at ha;cases ha
   try dsimp only
   rw[if_neg hb];exact Ze6 k1.live b o e
  have k2:Ok K g (λb=>if b=a then none else glue G1 H1 H' b) H' σ Δ1:=k1.grow sg sh λb o e=>by
   try dsimp only at e
   by_cases hb:b=a
   ·rw[if_pos hb]at e;cases e
   ·rw[if_neg hb]at e;exact Zg7 k1.live (λb o _ e=>sh b o e) b o e
  refine c a _ _ H' Δ1 k2 (s1.trans sg) ⟨.lst us,hn,(show OwnRep K _ (.lst us) (.lst ps) from rr),by simp,k1.there ha,?_,λj x od' e1 e2 e3=>?_⟩ pd
  ·cases q:g.Xo a with
   |none=>rfl
   |some u=>have z:=(k1.ext a u q).1;rw[ha]at z;cases z
  ·obtain⟨b,oo,w1,w2,_⟩:=k1.own j x od' e1 e2
   rw[e3]at w1;cases w1;rw[ha]at w2;cases w2
end
def startD (N:List Str) (ds:List D):Evt:=ds.map .val++Wae (N.length-ds.length) .any
section
variable {K:W.Frag}
theorem Zf9 {g:Gm}{G H:Hp}{N:List Str}{vs:List V}{ds:List D}(rs:Reps K G vs ds) (hl:ds.length<=N.length) (same:∀b o,¬ g.B b->g.Hz b=some o->H b=some o) (lent:∀b,g.B b->H b≠none) (sub:Same g.F G)
  (frz:∀b o,G b=some o->H b=some o/\(g.Hz b=none\/g.F b=some o)) (ext:∀b,g.Xo b=none):Ok K g G H (start N vs) (startD N ds):=by
 have noOd:∀(i:Nat) x od,(startD N ds)[i]?=some x->x.od=some od->False:=λi x od e1 e2=>by
  have hm:=Wai e1;rcases Wbp.mp hm with z|z
  ·obtain⟨d,_,rfl⟩:=Was.mp z;cases e2
  ·rw[Wco]at z;rw[z.2]at e2;cases e2
 refine⟨same,lent,sub,frz,λb o e=>(by rw[ext b]at e;cases e),?_,λi d e=>?_,λi x od e1 e2=>(noOd i x od e1 e2).elim,λi j x y od od' a e1 e2=>(noOd i x od e1 e2).elim⟩
 ·unfold start startD
  rw[Waj,Waj,Waa,Waa,Wa2,Wa2,rs.length]
 ·unfold startD at e
  unfold start;by_cases hi:i<ds.length
  ·rw[Wbm (by simpa using hi),Wad]at e
   cases q:ds[i]? with
   |none=>rw[q]at e;cases e
   |some d'=>
    rw[q]at e;have e:Slot.val d'=Slot.val d:=by simpa using e
    cases e;obtain⟨v,h1,h2⟩:=rs.get q;refine⟨v,?_,h2⟩;rw[Wbm (by rw[Waa,rs.length];exact hi),Wad,h1];rfl
  ·rw[Wbc (by simpa using hi),Wcx]at e
   split at e <;> cases e
theorem Zdt {f:DSp}{t:TS}{N:List Str}{vs:List V}{H:Hp}{Q:VK}{E:XK}(ht:∀ds Post,f ds Post->ds.length<=N.length/\JS K t (startD N ds) ⟨λ_=>Post .non,λd _=>Post d,λ_=>False,λ_=>False,λ_ _=>False⟩) (h:spD K f vs H Q E) :
  t { nx:=λ_ H'=>Q .non H',rt:=Q } (start N vs) H:=by
 obtain⟨F,ds,Post,l,rs,hf,q⟩:=h;obtain⟨hl,hj⟩:=ht ds Post hf;have fin:∀{v:V}{d:D}{σ:St}{G H':Hp}{Δ:Evt},Ok K ⟨λ_=>False,F,H,λ_=>none⟩ G H' σ Δ -> Rep K G v d->Post d->Q v H':=λ{v d σ G H' Δ} k r p=>by
  refine q v H' d (λb o e=>k.same b o (λz=>z) e) (r.mono λb o e=>?_) p;obtain⟨e1,e2⟩:=k.frz b o e;rcases e2 with z|z
  ·rw[Zff z];exact e1
  ·rw[Zdu (l b o z)];exact z
 refine hj ⟨λ_=>False,F,H,λ_=>none⟩ F H (start N vs) _ (Zf9 rs hl (λ_ _ _ e=>e) (λ_ z=>z.elim) (Same.refl _) (λb o e=>⟨l b o e,.inr e⟩) λ_=>rfl) ⟨λσ G H' Δ k p=>fin k .non p,λv d σ G H' Δ k r p=>fin k r p,λ_ _ _ _ _ z=>z.elim,λ_ _ _ _ _ z=>z.elim,λ_ _ _ _ _ _ _ _ z=>z.elim⟩
theorem Zmw {f:NSp}{t:TS}{N:List Str}{vs:List V}{H:Hp}{Q:VK}{E:XK}(ht:∀ds Post,f ds Post->ds.length<=N.length/\JS K t (startD N ds) ⟨λ_=>False,λ_ _=>False,λ_=>False,λ_=>False,λod _=>∃ps,od=.lst ps/\Post ps⟩) (h:spN K f vs H Q E) :
  t { nx:=λ_ H'=>Q .non H',rt:=Q } (start N vs) H:=by
 obtain⟨F,ds,Post,l,rs,hf,q⟩:=h;obtain⟨hl,hj⟩:=ht ds Post hf;refine hj ⟨λ_=>False,F,H,λ_=>none⟩ F H (start N vs) _ (Zf9 rs hl (λ_ _ _ e=>e) (λ_ z=>z.elim) (Same.refl _) (λb o e=>⟨l b o e,.inr e⟩) λ_=>rfl) ⟨λ_ _ _ _ _ z=>z.elim,λ_ _ _ _ _ _ _ _ z=>z.elim,λ_ _ _ _ _ z=>z.elim,λ_ _ _ _ _ z=>z.elim,λa od σ G H' Δ k pd ⟨ps,e,p⟩=>?_⟩;subst e;obtain⟨o,h1,h2,h3,h4,h5,h6⟩:=pd;cases o with
 |lst us=>
  refine q a H' us ps (λb o e=>k.same b o (λz=>z) e) h4 h1 (Reps.mono (λb o e=>?_) (show Reps K G us ps from h2)) p;have hb:b≠a:=by intro z;subst z;rw[h3]at e;cases e
  try dsimp only
  rw[if_neg hb];obtain⟨e1,e2⟩:=k.frz b o e;rcases e2 with z|z
  ·rw[Zff z];exact e1
  ·rw[Zdu (l b o z)];exact z
 |_=>exact absurd h2 (λz=>z)
theorem Zhc {f:BSp}{t:TS}{N:List Str}{vs:List V}{H:Hp}{Q:VK}{E:XK}(ht:∀ps ds Post,f ps ds Post->ds.length+1<=N.length/\JS K t (.bor (.lst ps)::startD N.tail ds) ⟨λΔ=>∃ps',Δ[0]?=some (.bor (.lst ps'))/\Post .non ps',λd Δ=>∃ps',Δ[0]?=some (.bor (.lst ps'))/\Post d ps',λ_=>False,λ_=>False,λ_ _=>False⟩) (h:spB K f vs H Q E) :
  t { nx:=λ_ H'=>Q .non H',rt:=Q } (start N vs) H:=by
 obtain⟨F,a,us,ws,ps,ds,Post,rfl,l,fa,ha,ru,rs,hf,q⟩:=h;obtain⟨hl,hj⟩:=ht ps ds Post hf;have fin:∀{v:V}{d:D}{σ:St}{G H':Hp}{Δ:Evt}{ps':List D},Ok K ⟨λb=>b=a,F,H,λ_=>none⟩ G H' σ Δ -> Δ[0]?=some (.bor (.lst ps'))->Rep K G v d->Post d ps' -> Q v H':=λ{v d σ G H' Δ ps'} k e0 r p=>by
  obtain⟨a',o,h1,h2,h3,h4,h5⟩:=k.own 0 _ _ e0 rfl;have ea:a'=a:=h5;subst ea;cases o with
  |lst us'=>
   have up:Same G (glue F H H'):=λb o e=>by
    obtain⟨e1,e2⟩:=k.frz b o e;rcases e2 with z|z
    ·rw[Zff z];exact e1
    ·rw[Zdu (l b o z)];exact z
   exact q v H' us' ps' d (λb o hb e=>k.same b o hb e) h2 (Reps.mono up (show Reps K G us' ps' from h3)) (r.mono up) p
  |_=>exact absurd h3 (λz=>z)
 cases N with
 |nil=>simp at hl
 |cons n0 N=>
  have hl':ds.length<=N.length:=by simpa using hl
  have k0:=Zf9 (K:=K) (H:=H) (g:=⟨λb=>b=a,F,H,λ_=>none⟩) (N:=N) rs hl' (λ_ _ _ e=>e) (λb z=>by subst z;rw[ha];intro w;cases w) (Same.refl _) (λb o e=>⟨l b o e,.inr e⟩) λ_=>rfl;have e1:start (n0::N) (.ref a::ws)=some (.ref a)::start N ws:=by
   unfold start;rw[Wa1,Wan,Wan,Nat.add_sub_add_right];rfl
  rw[e1];have noOd:∀(i:Nat) x od,(startD N ds)[i]?=some x->x.od=some od->False:=λi x od e1 e2=>by
   have hm:=Wai e1;rcases Wbp.mp hm with z|z
   ·obtain⟨d,_,rfl⟩:=Was.mp z;cases e2
   ·rw[Wco]at z;rw[z.2]at e2;cases e2
  have k1:Ok K ⟨λb=>b=a,F,H,λ_=>none⟩ F H (some (.ref a)::start N ws) (.bor (.lst ps)::startD N ds):=by
   refine⟨k0.same,k0.lent,k0.sub,k0.frz,λb o e=>(by cases e),(by rw[Wan,Wan,k0.len]),λi d e=>?_,λi x od e1 e2=>?_,λi j x y od od' c e1 e2 e3 e4 _ _=>?_⟩
   ·cases i with
    |zero=>cases e
    |succ i=>exact k0.val i d e
   ·cases i with
    |zero=>cases e1;cases e2;exact⟨a,.lst us,rfl,ha,ru,fa,rfl⟩
    |succ i=>exact(noOd i x od e1 e2).elim
   ·cases i with
    |zero=>cases j with
     |zero=>rfl
     |succ j=>exact(noOd j y od' e3 e4).elim
    |succ i=>exact(noOd i x od e1 e2).elim
  exact hj _ F H _ _ k1 ⟨λσ G H' Δ k ⟨ps',e,p⟩=>fin k e .non p,λv d σ G H' Δ k r ⟨ps',e,p⟩=>fin k e r p,λ_ _ _ _ _ z=>z.elim,λ_ _ _ _ _ z=>z.elim,λ_ _ _ _ _ _ _ _ z=>z.elim⟩
theorem Zbu {f:DSp}{n:Nat}(h:∀ds Post,f ds Post->ds.length=n):∀vs H Q E,spD K f vs H Q E->vs.length=n:=λvs H Q E hq_=>by obtain⟨F,ds,Post,l,rs,hf,q⟩:=hq_;rw[rs.length];exact h ds Post hf
theorem Zfr {f:NSp}{n:Nat}(h:∀ds Post,f ds Post->ds.length=n):∀vs H Q E,spN K f vs H Q E->vs.length=n:=λvs H Q E hq_=>by obtain⟨F,ds,Post,l,rs,hf,q⟩:=hq_;rw[rs.length];exact h ds Post hf
theorem Zdi {f:BSp}{n:Nat}(h:∀ps ds Post,f ps ds Post->ds.length+1=n):∀vs H Q E,spB K f vs H Q E->vs.length=n:=λvs H Q E hq_=>by obtain⟨F,a,us,ws,ps,ds,Post,e,l,fa,ha,ru,rs,hf,q⟩:=hq_;rw[e,Wan,rs.length];exact h ps ds Post hf
end
def JGn (K:W.Frag) (n:Nat) (t:TG) (d:D) (Δ:Evt) (P:Evt->Prop):Prop:=
 ∀g G H σ v (R:St->Hp->Prop),Ok K g G H σ Δ -> Rep K G v d->(∀σ' G' H' Δ',Ok K g G' H' σ' Δ' -> Same G G' -> (∀j,n<=j -> σ'[j]? = σ[j]?)->P Δ' -> R σ' H')->t v σ H R
def JGsn (K:W.Frag) (n:Nat) (t:TGs) (ds:List D) (Δ:Evt) (P:Evt->Prop):Prop:=
 ∀g G H σ vs (R:St->Hp->Prop),Ok K g G H σ Δ -> Reps K G vs ds->(∀σ' G' H' Δ',Ok K g G' H' σ' Δ' -> Same G G' -> (∀j,n<=j -> σ'[j]? = σ[j]?)->P Δ' -> R σ' H')->t vs σ H R
section
variable {K:W.Frag}{Δ:Evt}
theorem Zq3 {n i:Nat}{d:D}{P:Evt->Prop}(hn:i<n) (hi:i < Δ.length) (p:P (Δ.set i (.val d))):JGn K n (gName i) d Δ P:=λg G H σ v R k r c=>
 c _ G H _ (k.setVal hi r) (Same.refl _) (λj hj=>Waw<|by omega) p
theorem Zqk {n:Nat}{P:Evt->Prop}(p:P Δ):JGsn K n gNil [] Δ P:=λg G H σ vs R k r c=>by cases r;exact⟨rfl,c σ G H Δ k (Same.refl _) (λ_ _=>rfl) p⟩
theorem Zjw {n:Nat}{t:TG}{u:TGs}{d:D}{ds:List D}{P:Evt->Prop}(h:JGn K n t d Δ λΔ1=>JGsn K n u ds Δ1 P):JGsn K n (gCons t u) (d::ds) Δ P:=λg G H σ vs R k r c=>by
 obtain⟨_,_,rfl,r1,rr⟩:=r.inv
 next=>exact⟨_,_,rfl,h g G H σ _ _ k r1 λσ1 G1 H1 Δ1 k1 s1 e1 p1=>p1 g G1 H1 σ1 _ R k1 (rr.mono s1) λσ2 G2 H2 Δ2 k2 s2 e2 p2=>c σ2 G2 H2 Δ2 k2 (s1.trans s2) (λj hj=>(e2 j hj).trans (e1 j hj)) p2⟩
theorem Zug {n m:Nat}{t:TGs}{ds:List D}{P:Evt->Prop}(hl:ds.length=m) (h:JGsn K n t ds Δ P):JGn K n (gTup K m t) (.tup ds) Δ P:=λg G H σ v R k r c=>by
 obtain⟨_,_,rfl,ha,rs⟩:=r.inv
 next=>exact⟨_,_,rfl,SqT.of<|k.live _ _ ha,by rw[rs.length];exact hl,h g G H σ _ R k rs c⟩
end
def compD (n:Nat) (sel:List Nat) (Δ:Evt):Evt:=Wae n .any++sel.map λi=>(Δ[i]?).getD .any
def backAt (n:Nat) (sel:List Nat) (Δi:Evt) (i:Nat) (x:Slot):Slot:=match x with
 |.val d=>.val d
 |.any=>.any
 |x=>match sel.idxOf? i with
  |none=>x
  |some j=>match Δi[n+j]? with
   |some (.own o)=>.own o
   |some (.bor o)=>.bor o
   |some (.ownA a o)=>.ownA a o
   |_=>.any
def backD (n:Nat) (sel:List Nat) (Δi:Evt):Nat->Evt->Evt
 |_,[]=>[]
 |i,x::r=>backAt n sel Δi i x::backD n sel Δi (i+1) r
theorem Zdk (n:Nat) (sel:List Nat) (Δi:Evt):∀(Δ:Evt) (k i:Nat),(backD n sel Δi k Δ)[i]?=(Δ[i]?).map (backAt n sel Δi<|k+i)
 |[],k,i=>by simp[backD]
 |x::r,k,0=>by simp[backD]
 |x::r,k,i+1=>by
  have:=Zdk n sel Δi r (k+1) i;simp only[backD,List.getElem?_cons_succ];rw[this,show k+1+i=k+(i+1) by omega]
theorem Zjh (n:Nat) (sel:List Nat) (Δi:Evt):∀(Δ:Evt) (k:Nat),(backD n sel Δi k Δ).length = Δ.length
 |[],k=>rfl
 |x::r,k=>by simp[backD,Zjh n sel Δi r (k+1)]
theorem Zfl {sel:List Nat}{i j:Nat}(h:sel.idxOf? i=some j):sel[j]?=some i:=by
 have h2:=List.idxOf?_eq_some_iff.mp h;obtain⟨hj,e,_⟩:=h2;rw[Wab hj,e]
theorem Znv {n:Nat}{sel:List Nat}{Δi:Evt}{i:Nat}{x y:Slot}{od:OD}(h:backAt n sel Δi i x=y) (ho:y.od=some od) :
  (x=y/\sel.idxOf? i=none)\/∃j,sel[j]?=some i /\ Δi[n+j]?=some y/\∃od',x.od=some od':=by
 unfold backAt at h;cases x with
 |any=>subst h;cases ho
 |val d=>subst h;cases ho
 |own o=>
  dsimp only at h;cases q:sel.idxOf? i with
  |none=>rw[q]at h;exact .inl ⟨h,rfl⟩
  |some j=>
   rw[q]at h;dsimp only at h;refine .inr ⟨j,Zfl q,?_,o,rfl⟩;cases e:Δi[n+j]? with
   |none=>rw[e]at h;subst h;cases ho
   |some z=>rw[e]at h;cases z <;> (subst h;first|rfl|cases ho)
 |ownA a o=>
  dsimp only at h;cases q:sel.idxOf? i with
  |none=>rw[q]at h;exact .inl ⟨h,rfl⟩
  |some j=>
   rw[q]at h;dsimp only at h;refine .inr ⟨j,Zfl q,?_,o,rfl⟩;cases e:Δi[n+j]? with
   |none=>rw[e]at h;subst h;cases ho
   |some z=>rw[e]at h;cases z <;> (subst h;first|rfl|cases ho)
 |bor o=>
  dsimp only at h;cases q:sel.idxOf? i with
  |none=>rw[q]at h;exact .inl ⟨h,rfl⟩
  |some j=>
   rw[q]at h;dsimp only at h;refine .inr ⟨j,Zfl q,?_,o,rfl⟩;cases e:Δi[n+j]? with
   |none=>rw[e]at h;subst h;cases ho
   |some z=>rw[e]at h;cases z <;> (subst h;first|rfl|cases ho)
section
variable {K:W.Frag}{Δ:Evt}
open Classical in
noncomputable def aside (g:Gm) (sel:List Nat) (σ:St) (Δ:Evt) (H:Hp) (acc:Addr) (ys:List V):Hp:=λb=>
 if b=acc then some (.lst ys) else if ∃(i:Nat) (x:Slot) (od:OD),Δ[i]?=some x/\x.od=some od/\i ∉ sel /\ σ[i]?=some (some (.ref b)) then H b else g.Xo b
theorem Zc0 {n:Nat}{sel:List Nat}{σ:St}{j i:Nat}(h:sel[j]?=some i):(compSt n sel σ)[n+j]?=some ((σ[i]?).getD none):=by
 unfold compSt;rw[Wbc (by rw[Wa2];omega),Wa2,Nat.add_sub_cancel_left,Wad,h];rfl
theorem Zb7 {n:Nat}{sel:List Nat}{Δ:Evt}{k:Nat}{x:Slot}(h:(compD n sel Δ)[k]?=some x):x=.any\/∃j i,k=n+j/\sel[j]?=some i /\ Δ[i]?=some x:=by
 unfold compD at h;by_cases hk:k<n
 ·rw[Wbm (by simpa using hk),Wcx,if_pos hk]at h
  exact .inl (Wa6.inj h).symm
 ·rw[Wbc (by simpa using hk),Wa2,Wad]at h
  cases e:sel[k-n]? with
  |none=>rw[e]at h;cases h
  |some i=>
   rw[e]at h;have h:(Δ[i]?).getD .any=x:=by simpa using h
   cases q:Δ[i]? with
   |none=>rw[q]at h;exact .inl h.symm
   |some y=>rw[q]at h;cases h;exact .inr ⟨k-n,i,by omega,e,q⟩
theorem Zhl {g:Gm}{G1 H1:Hp}{σ:St}{Δ1:Evt}{n:Nat}{sel:List Nat}{acc:Addr}{X0:Hp}(hsel:sel.Nodup) (k1:Ok K g G1 H1 σ Δ1) (hacc:H1 acc=none)
  (hX:∀b o,X0 b=some o->(b=acc/\o=.lst [])\/(b≠acc/\(((∃(i:Nat) (x:Slot) (od:OD),Δ1[i]?=some x/\x.od=some od/\i ∉ sel /\ σ[i]?=some (some (.ref b)))/\H1 b=some o)\/g.Xo b=some o))):Ok K ⟨g.B,G1,g.Hz,X0⟩ G1 (upd H1 acc (.lst [])) (compSt n sel σ) (compD n sel Δ1):=by
 have hsl:∀{j j' i:Nat},sel[j]?=some i->sel[j']?=some i->j=j':=λ{j j' i} a b=>by
  obtain⟨h1,e1⟩:=Wag.mp a;obtain⟨h2,e2⟩:=Wag.mp b;exact(Wdm hsel).mp (e1.trans e2.symm)
 have hGa:G1 acc=none:=by
  cases e:G1 acc with
  |none=>rfl
  |some u=>rw[k1.live _ _ e]at hacc;cases hacc
 have cs:∀{j i:Nat}{a:Addr},sel[j]?=some i->(compSt n sel σ)[n+j]?=some (some (.ref a)) -> σ[i]?=some (some (.ref a)):=λ{j i a} ej e3=>by
  rw[Zc0 ej]at e3;cases q:σ[i]? with
  |none=>rw[q]at e3;cases e3
  |some w=>rw[q]at e3;cases e3;rfl
 have oldH:∀b o,H1 b=some o->(upd H1 acc (.lst [])) b=some o:=λb o e=>by rw[Zan (Zap e hacc)];exact e
 refine⟨λb o hb e=>oldH b o<|k1.same b o hb e,λb hb z=>?_,Same.refl _,λb o e=>⟨oldH b o<|k1.live b o e,.inr e⟩,λb o e=>?_,?_,λi d e=>?_,λi x od e1 e2=>?_,λi j x y od od' a e1 e2 e3 e4 e5 e6=>?_⟩
 ·cases q:H1 b with
  |none=>exact k1.lent b hb q
  |some u=>rw[oldH b u q]at z;cases z
 ·rcases hX b o e with ⟨rfl,rfl⟩|⟨hb,⟨⟨i0,x0,od0,f1,f2,f3,f4⟩,e⟩|e⟩
  ·refine⟨Zat,hGa,λi x od e1 e2 e3=>?_⟩
   rcases Zb7 e1 with z|⟨j,i',ei,ej,z⟩
   ·subst z;cases e2
   ·subst ei
    obtain⟨a,o,w1,w2,_⟩:=k1.own i' x od z e2;rw[cs ej e3]at w1;cases w1;rw[hacc]at w2;cases w2
  ·obtain⟨a,oo,w1,w2,w3,w4,w5⟩:=k1.own i0 x0 od0 f1 f2
   rw[f4]at w1;cases w1;refine⟨oldH b o e,w4,λi x od e1 e2 e3=>?_⟩;rcases Zb7 e1 with z|⟨j,i',ei,ej,z⟩
   ·subst z;cases e2
   ·subst ei
    have:=k1.dis i0 i' x0 x od0 od b f1 f2 z e2 f4<|cs ej e3;subst this;exact f3<|Wai ej
  ·obtain⟨w1,w2,w3⟩:=k1.ext b o e
   refine⟨oldH b o w1,w2,λi x od e1 e2 e3=>?_⟩;rcases Zb7 e1 with z|⟨j,i',ei,ej,z⟩
   ·subst z;cases e2
   ·subst ei;exact w3 i' x od z e2<|cs ej e3
 ·unfold compD compSt
  simp
 ·rcases Zb7 e with z|⟨j,i',ei,ej,z⟩
  ·cases z
  ·subst ei
   obtain⟨v,w1,w2⟩:=k1.val i' d z;exact⟨v,by rw[Zc0 ej,w1];rfl,w2⟩
 ·rcases Zb7 e1 with z|⟨j,i',ei,ej,z⟩
  ·subst z;cases e2
  ·subst ei
   obtain⟨a,o,w1,w2,w3,w4,w5⟩:=k1.own i' x od z e2;exact⟨a,o,by rw[Zc0 ej,w1];rfl,oldH a o w2,w3,w4,w5⟩
 ·rcases Zb7 e1 with z|⟨j1,i1,ei,ej,z⟩
  ·subst z;cases e2
  ·rcases Zb7 e3 with z'|⟨j2,i2,ei',ej',z'⟩
   ·subst z';cases e4
   ·subst ei;subst ei'
    have:=k1.dis i1 i2 x y od od' a z e2 z' e4 (cs ej e5)<|cs ej' e6;subst this;rw[hsl ej ej']
theorem Zim {σ σ2:St}{Δ1 Δ2:Evt}{n:Nat}{sel:List Nat}(hσ:∀j,n<=j -> σ2[j]?=(compSt n sel σ)[j]?) (i:Nat) (y:Slot) (od:OD) (e1:(backD n sel Δ2 0 Δ1)[i]?=some y) (e2:y.od=some od) :
  ∃x od',Δ1[i]?=some x/\x.od=some od' /\ ((x=y/\i ∉ sel)\/∃j,sel[j]?=some i /\ Δ2[n+j]?=some y /\ σ2[n+j]?=some ((σ[i]?).getD none)):=by
 rw[Zdk]at e1;cases q:Δ1[i]? with
 |none=>rw[q]at e1;cases e1
 |some x=>
  rw[q]at e1;have e1:backAt n sel Δ2 i x=y:=by simpa using e1
  rcases Znv e1 e2 with ⟨z1,z2⟩|⟨j,z1,z2,od',z3⟩
  ·refine⟨x,od,rfl,by rw[z1];exact e2,.inl ⟨z1,λhm=>?_⟩⟩
   rw[List.idxOf?_eq_none_iff]at z2;exact z2 hm
  ·exact⟨x,od',rfl,z3,.inr ⟨j,z1,z2,by rw[hσ (n+j) (by omega)];exact Zc0 z1⟩⟩
theorem Zgo {g:Gm}{G1 H1 G2 H2 Xv:Hp}{σ σ2:St}{Δ1 Δ2:Evt}{n:Nat}{sel:List Nat}{acc:Addr}(k1:Ok K g G1 H1 σ Δ1) (hacc:H1 acc=none) (k2:Ok K ⟨g.B,G1,g.Hz,Xv⟩ G2 H2 σ2 Δ2) (hσ:∀j,n<=j -> σ2[j]?=(compSt n sel σ)[j]?)
  (hX:∀b o,b≠acc->(∃(i:Nat) (x:Slot) (od:OD),Δ1[i]?=some x/\x.od=some od/\i ∉ sel /\ σ[i]?=some (some (.ref b)))->H1 b=some o->Xv b=some o) (hY:∀b o,b≠acc->¬ (∃(i:Nat) (x:Slot) (od:OD),Δ1[i]?=some x/\x.od=some od/\i ∉ sel /\ σ[i]?=some (some (.ref b)))->g.Xo b=some o->Xv b=some o):Ok K g G2 H2 σ (backD n sel Δ2 0 Δ1):=by
 have s2:Same G1 G2:=k2.sub;have src:=Zim (Δ1:=Δ1) (Δ2:=Δ2) hσ;refine⟨k2.same,k2.lent,k1.sub.trans s2,λb o e=>?_,λb o e=>?_,by rw[Zjh,k1.len],λi d e=>?_,λi y od e1 e2=>?_,λi j x y od od' a e1 e2 e3 e4 e5 e6=>?_⟩
 ·obtain⟨q1,q2⟩:=k2.frz b o e
  refine⟨q1,?_⟩;rcases q2 with z|z
  ·exact .inl z
  ·exact(k1.frz b o z).2
 ·obtain⟨w1,w2,w3⟩:=k1.ext b o e
  have hne:b≠acc:=by intro z;subst z;rw[hacc]at w1;cases w1
  obtain⟨u1,u2,u3⟩:=k2.ext b o<|hY b o hne (λ⟨i,x,od,f1,f2,f3,f4⟩=>w3 i x od f1 f2 f4) e;refine⟨u1,u2,λi y od e1 e2 e3=>?_⟩;obtain⟨x,od',f1,f2,_⟩:=src i y od e1 e2;exact w3 i x od' f1 f2 e3
 ·rw[Zdk]at e
  cases q:Δ1[i]? with
  |none=>rw[q]at e;cases e
  |some x=>
   rw[q]at e;have e:backAt n sel Δ2 (0+i) x=.val d:=by simpa using e
   have ex:x=.val d:=by
    unfold backAt at e;cases x with
    |any=>cases e
    |val d'=>exact e
    |own o=>dsimp only at e;split at e <;> first|cases e|(split at e <;> cases e)
    |bor o=>dsimp only at e;split at e <;> first|cases e|(split at e <;> cases e)
    |ownA a o=>dsimp only at e;split at e <;> first|cases e|(split at e <;> cases e)
   subst ex;obtain⟨v,w1,w2⟩:=k1.val i d q;exact⟨v,w1,w2.mono s2⟩
 ·obtain⟨x,od',f1,f2,f3⟩:=src i y od e1 e2
  rcases f3 with ⟨f3,f4⟩|⟨j,f3,f4,f5⟩
  ·subst f3
   obtain⟨a,o,w1,w2,w3,w4,w5⟩:=k1.own i x od f1 e2;have hne:a≠acc:=by intro z;subst z;rw[hacc]at w2;cases w2
   obtain⟨u1,u2,u3⟩:=k2.ext a o<|hX a o hne ⟨i,x,od,f1,e2,f4,w1⟩ w2;exact⟨a,o,w1,u1,w3.mono s2,u2,w5⟩
  ·obtain⟨a,o,w1,w2,w3,w4,w5⟩:=k2.own (n+j) y od f4 e2
   obtain⟨a0,o0,v1,_⟩:=k1.own i x od' f1 f2;rw[f5,v1]at w1;have ea:a0=a:=by cases w1;rfl
   subst ea;exact⟨a0,o,v1,w2,w3,w4,w5⟩
 ·obtain⟨x',od1,f1,f2,_⟩:=src i x od e1 e2
  obtain⟨y',od2,f3,f4,_⟩:=src j y od' e3 e4;exact k1.dis i j x' y' od1 od2 a f1 f2 f3 f4 e5 e6
theorem Ok.base {g:Gm}{G1 F X G5 H5:Hp}{σ5:St}{Δ5:Evt}(sF:Same G1 F) (hF:∀b o,F b=some o->(g.Hz b=none\/G1 b=some o)) (k5:Ok K ⟨g.B,F,g.Hz,X⟩ G5 H5 σ5 Δ5):Ok K ⟨g.B,G1,g.Hz,X⟩ G5 H5 σ5 Δ5:=
 ⟨k5.same,k5.lent,sF.trans k5.sub,λb o q=>by
  obtain⟨q1,q2⟩:=k5.frz b o q;refine⟨q1,?_⟩;rcases q2 with z|z
  ·exact .inl z
  ·exact hF b o z,k5.ext,k5.len,k5.val,k5.own,k5.dis⟩
theorem Znu {n:Nat}{sel:List Nat}{wi:TI}{t:TG}{tc:TT}{te:TE}{P:OD->Evt->Prop}(hsel:sel.Nodup)
  (h:JI K wi Δ λds Δ1=>ds.length<sizeLine/\∃I:Nat->List D->Evt->Prop,I 0 [] (compD n sel Δ1) ∧
   (∀i d ys Δ2,ds[i]?=some d->I i ys Δ2->JGn K n t d Δ2 λΔ3=>JT K tc Δ3 λb Δ4=>if b=true then JE K te Δ4 λe Δ5=>I (i+1) (ys++[e]) Δ5 else I (i+1) ys Δ4) ∧
   ∀ys Δ2,I ds.length ys Δ2->P (.lst ys) (backD n sel Δ2 0 Δ1)):JO K (tComp n sel wi t tc te) Δ P:=λg G H σ Q k c=>
 h g G H σ _ k λJ ds G1 H1 Δ1 k1 s1 it ⟨hz,I,h0,ht,he⟩ acc hacc=>by
  have nacc:∀(i:Nat) x od,Δ1[i]?=some x->x.od=some od -> σ[i]?≠some (some (.ref acc)):=λi x od e1 e2 e3=>by
   obtain⟨a,o,w1,w2,_⟩:=k1.own i x od e1 e2;rw[e3]at w1;cases w1;rw[hacc]at w2;cases w2
  -- the word at each turn
  let Wd:Nat->St->Hp->Prop:=λi σ' H'=>i<=ds.length/\(∀j,n<=j -> σ'[j]?=(compSt n sel σ)[j]?)/\∃G ys vs Δi,ys.length<=i/\Reps K G vs ys/\Ok K ⟨g.B,G1,g.Hz,aside g sel σ Δ1 H1 acc vs⟩ G H' σ' Δi/\I i ys Δi
  refine⟨λi m σ' H'=>m=ds.length-i/\Wd i σ' H',⟨ds.length,by simp,Wbx _,λ_ _=>rfl,G1,[],[],compD n sel Δ1,Wak _,.nil,?_,h0⟩,?_⟩
  ·refine Zhl hsel k1 hacc λb o e=>?_
   have e:aside g sel σ Δ1 H1 acc [] b=some o:=e;unfold aside at e;by_cases hb:b=acc
   ·rw[if_pos hb]at e;cases e;exact .inl ⟨hb,rfl⟩
   ·rw[if_neg hb]at e
    split at e
    case isTrue hx=>exact .inr ⟨hb,.inl ⟨hx,e⟩⟩
    case isFalse hx=>exact .inr ⟨hb,.inr e⟩
  ·rintro i m σ2 H2 ⟨rfl,hi,hσ,G2,ys,vs,Δ2,hy,ry,k2,h2⟩
   have s2:Same G1 G2:=k2.sub;obtain⟨stop,go⟩:=it G2 H2 s2 k2.live;have hacc2:∀{G' H':Hp}{σ':St}{Δ':Evt}{vs:List V}{F:Hp},Ok K ⟨g.B,F,g.Hz,aside g sel σ Δ1 H1 acc vs⟩ G' H' σ' Δ' -> H' acc=some (.lst vs)/\G' acc=none/\∀(i:Nat) x od,Δ'[i]?=some x->x.od=some od -> σ'[i]?≠some (some (.ref acc)):=λ{G' H' σ' Δ' vs F} kk=>
    kk.ext acc (.lst vs) (by show aside g sel σ Δ1 H1 acc vs acc=_;unfold aside;rw[if_pos rfl])
   by_cases hlt:i<ds.length
   ·obtain⟨g1,g2⟩:=go i _ (Wab hlt)
    refine .inr ⟨g1,λσ' H'=>Wd (i+1) σ' H',λσ' H' p'=>⟨ds.length-(i+1),by omega,rfl,p'⟩,λx H3 y=>?_⟩;obtain⟨G3,a1,a2,a3,a4⟩:=g2 x H3 y;have k3:=k2.grow a1 a2 a3;have hG3:∀b o,G3 b=some o->(g.Hz b=none\/G1 b=some o):=λb o q=>(k3.frz b o q).2;have k3':Ok K ⟨g.B,G3,g.Hz,aside g sel σ Δ1 H1 acc vs⟩ G3 H3 σ2 Δ2:=⟨k3.same,k3.lent,Same.refl _,λb o q=>⟨(k3.frz b o q).1,.inr q⟩,k3.ext,k3.len,k3.val,k3.own,k3.dis⟩;have ry3:Reps K G3 vs ys:=ry.mono a1;have s13:Same G1 G3:=s2.trans a1;refine ht i _ ys Δ2 (Wab hlt) h2 ⟨g.B,G3,g.Hz,aside g sel σ Δ1 H1 acc vs⟩ G3 H3 σ2 x _ k3' a4 λσ4 G4 H4 Δ4 k4 s4 e4 p4=>?_;have hσ4:∀j,n<=j -> σ4[j]?=(compSt n sel σ)[j]?:=λj hj=>(e4 j hj).trans (hσ j hj);refine p4 _ G4 H4 σ4 _ k4 λb G5 H5 Δ5 k5 s5 p5=>?_;cases b with
    |false=>exact⟨hlt,hσ4,G5,ys,vs,Δ5,by omega,ry3.mono (s4.trans s5),k5.base s13 hG3,p5⟩
    |true=>
     refine(show JE K te Δ5 _ from p5) _ G5 H5 σ4 _ k5 λv d G6 H6 Δ6 k6 s6 r6 p6=>?_;have ry6:Reps K G6 vs ys:=ry3.mono<|s4.trans<|s5.trans s6;obtain⟨b1,b2,b3⟩:=hacc2 k6;refine⟨vs,b1,by rw[ry6.length];omega,hlt,hσ4,G6,ys++[d],vs++[v],Δ6,by rw[Waj,Wcq];omega,ry6.append (.cons r6 .nil),?_,p6⟩;have k7:=k6.base s13 hG3;have oldH:∀b o,b≠acc->H6 b=some o->(upd H6 acc (.lst<|vs++[v])) b=some o:=λb o hb e=>by rw[Zan hb];exact e
     have aNe:∀b o,b≠acc->aside g sel σ Δ1 H1 acc (vs++[v]) b=some o->aside g sel σ Δ1 H1 acc vs b=some o:=λb o hb e=>by
      unfold aside at e ⊢;rw[if_neg hb]at e ⊢;exact e
     refine⟨λb o hb e=>?_,λb hb=>?_,k7.sub,λb o e=>?_,λb o e=>?_,k7.len,k7.val,λi x od e1 e2=>?_,k7.dis⟩
     ·have hne:b≠acc:=by
       intro z;subst z;have e:g.Hz b=some o:=e;rw[k1.there hacc]at e;cases e
      exact oldH b o hne<|k7.same b o hb e
     ·by_cases hne:b=acc
      ·subst hne;rw[Zat];intro z;cases z
      ·rw[Zan hne];exact k7.lent b hb
     ·have hne:b≠acc:=by intro z;subst z;rw[b2]at e;cases e
      exact⟨oldH b o hne (k7.frz b o e).1,(k7.frz b o e).2⟩
     ·by_cases hne:b=acc
      ·subst hne
       have e:aside g sel σ Δ1 H1 b (vs++[v]) b=some o:=e;unfold aside at e;rw[if_pos rfl]at e;cases e;exact⟨Zat,b2,b3⟩
      ·obtain⟨w1,w2,w3⟩:=k7.ext b o (aNe b o hne e)
       exact⟨oldH b o hne w1,w2,w3⟩
     ·obtain⟨a,o,w1,w2,w3,w4,w5⟩:=k7.own i x od e1 e2
      have hne:a≠acc:=by intro z;subst z;exact b3 i x od e1 e2 w1
      exact⟨a,o,w1,oldH a o hne w2,w3,w4,w5⟩
   ·have e:i=ds.length:=by omega
    subst e;refine .inl ⟨stop,?_⟩;obtain⟨b1,b2,b3⟩:=hacc2 k2;have src:=Zim (Δ1:=Δ1) (Δ2:=Δ2) hσ;have k9:Ok K g G2 H2 σ (backD n sel Δ2 0 Δ1):=Zgo k1 hacc k2 hσ (λb o hb hx e=>by show aside g sel σ Δ1 H1 acc vs b=_;unfold aside;rw[if_neg hb,if_pos hx];exact e) (λb o hb hx e=>by show aside g sel σ Δ1 H1 acc vs b=_;unfold aside;rw[if_neg hb,if_neg hx];exact e);refine c acc _ G2 H2 _ k9 (s1.trans s2) ⟨.lst vs,b1,(show OwnRep K G2 (.lst vs) (.lst ys) from ry),b2,k1.there hacc,?_,λi y od e1 e2 e3=>?_⟩<|he ys Δ2 h2
    ·cases q:g.Xo acc with
     |none=>rfl
     |some u=>have z:=(k1.ext acc u q).1;rw[hacc]at z;cases z
    ·obtain⟨x',od1,f1,f2,_⟩:=src i y od e1 e2
     exact nacc i x' od1 f1 f2 e3
theorem Zox {n:Nat}{sel:List Nat}{wi:TI}{t:TG}{tc:TT}{te:TE}{P:D->Evt->Prop}(hsel:sel.Nodup)
  (h:JI K wi Δ λds Δ1=>ds.length<sizeLine/\∃I:Nat->List D->Evt->Prop,I 0 [] (compD n sel Δ1) ∧
   (∀i d ys Δ2,ds[i]?=some d->I i ys Δ2->JGn K n t d Δ2 λΔ3=>JT K tc Δ3 λb Δ4=>if b=true then JE K te Δ4 λe Δ5=>I (i+1) (ys++[e]) Δ5 else I (i+1) ys Δ4) ∧
   ∀ys Δ2,I ds.length ys Δ2->P (.lst ys) (backD n sel Δ2 0 Δ1)):JE K (tComp n sel wi t tc te) Δ P:=
 Za8 (Znu hsel λg G H σ R k c=>h g G H σ R k λJ ds G' H' Δ' k' s' it ⟨z,I,h0,ht,he⟩=>c J ds G' H' Δ' k' s' it ⟨z,I,h0,ht,λys Δ2 q=>⟨ys,rfl,he ys Δ2 q⟩⟩)
theorem Zll {n:Nat}{sel:List Nat}{wi:TI}{t:TG}{tc:TT}{te:TE}{P:D->Evt->Prop}(hsel:sel.Nodup)
  (h:JI K wi Δ λds Δ1=>ds.length<sizeLine/\∃(fix:Evt) (p:D->Bool) (f:D->D),compD n sel Δ1=Wae n .any++fix ∧
   (∀(i:Nat) d (ts:Evt),ds[i]?=some d->ts.length=n->JGn K n t d (ts++fix) λΔ3=>JT K tc Δ3 λb Δ4=>b=p d/\if b=true then JE K te Δ4 λe Δ5=>e=f d/\∃ts',ts'.length=n /\ Δ5=ts'++fix else ∃ts',ts'.length=n /\ Δ4=ts'++fix) ∧
   P (.lst ((ds.filter p).map f)) (backD n sel (Wae n .any++fix) 0 Δ1)):JE K (tComp n sel wi t tc te) Δ P:=by
 refine Zox hsel λg G H σ R k c=>h g G H σ R k λJ ds G' H' Δ' k' s' it ⟨z,fix,p,f,e0,ht,he⟩=>c J ds G' H' Δ' k' s' it ⟨z,λi ys Δ=>ys=((ds.take i).filter p).map f/\∃ts:Evt,ts.length=n /\ Δ = ts++fix,?_,?_,?_⟩
 ·exact⟨by simp,_,by simp,e0⟩
 ·rintro i d ys Δ2 hd ⟨rfl,ts,hts,rfl⟩
  have tk:ds.take (i+1)=ds.take i++[d]:=by
   rw[Wbi,hd];rfl
  intro g G H σ v R k r c;refine ht i d ts hd hts g G H σ v R k r λσ' G' H' Δ' k' s' e' q=>c σ' G' H' Δ' k' s' e' λg G H σ Q k c=>q g G H σ Q k λb G' H' Δ' k' s' ⟨eb,q⟩=>c b G' H' Δ' k' s' ?_;cases b with
  |true=>
   rw[if_pos rfl]at q ⊢;refine q.mono λe Δ5 ⟨e1,ts',h1,h2⟩=>⟨?_,ts',h1,h2⟩;rw[tk,Wb9,War,Wbt,<- eb,e1];rfl
  |false=>
   rw[if_neg Wam]at q ⊢;obtain⟨ts',h1,h2⟩:=q;refine⟨?_,ts',h1,h2⟩;rw[tk,Wb9,War,Wbt,<- eb];simp
 ·rintro ys Δ2 ⟨rfl,ts,hts,rfl⟩
  rw[Wbo];have e:backD n sel (ts++fix) 0 Δ'=backD n sel (Wae n .any++fix) 0 Δ':=by
   apply Wb3;intro i;rw[Zdk,Zdk];congr 1
   funext x
   unfold backAt;have e2:∀j,(ts++fix)[n+j]?=(Wae n Slot.any++fix)[n+j]?:=λj=>by
    rw[Wbc (by omega),Wbc (by simp),hts,Wa2]
   simp only[e2]
  rw[e];exact he
end
end L2
set_option Elab.async false
set_option linter.all false
set_option maxRecDepth 100000
namespace HT
open PySem PyProof.Rows
section
variable {prog:Program}{w:World}{A:Around}{E:Value->Shared->Prop}{s:Shared}
theorem getItem_tuple_whole {t sl:Addr}{items:Array Value}{vl vu:Value}{lo hi:Option Int}{Q:Value->Shared->Prop}(ht:IsTup s.heap t items) (hs:s.heap.IsSliceOf sl vl vu .none) (pl:IsPart vl lo) (pu:IsPart vu hi)
  (hw:sIx items.size 0 lo=0/\sIx items.size items.size hi=items.size) (h:Q (.ref t) s):wpAny (model prog w) A (getItem (.ref t) (.ref sl)) Q E s:=by
 obtain⟨os,hos,hcs,hds⟩:=id hs;have hTs:s.TypeIs (.ref sl) "slice":=⟨os,hos,hcs⟩;unfold getItem
 try with_reducible refine wpAny_holding ?_
 first|refine wpAny_bind (wpAny_pure ?_)|skip
 refine wpAny_bind (wpAny_sequenceKey ht.typeIs (by decide) ?_);refine wpAny_bind (wpAny_callSpecial?_slot (name:=Str.ofString "__getitem__") ht.typeIs PyProof.Rows.slot_tuple_getitem
  (wpAny_call_entry PyProof.Rows.slot_tuple_getitem ht.typeIs entry_tuple_getitem ?_ (args_tuple_getitem _ _)))
 show wpAny _ _ (Builtin.Tuple.tupleItemsOf (.ref t) >>= _) _ _ s;refine wpAny_bind<|tupleItemsOf_ ht ?_;refine wpAny_bind<|wpAny_typeOf hTs ?_;rw[if_pos (by decide)];refine wpAny_bind<|Zd2 hs pl pu ?_;have hyes:(((sIx items.size 0 lo:Nat):Int) == 0 && (1:Int) == 1 && (sIx items.size items.size hi-sIx items.size 0 lo) == items.size)=true:=by
  rw[hw.1,hw.2];simp
 show wpAny _ _ (if (((sIx items.size 0 lo:Nat):Int) == 0 && (1:Int) == 1 && (sIx items.size items.size hi-sIx items.size 0 lo) == items.size)=true then _ else _) _ _ s;rw[if_pos hyes]
 first
  |exact wpAny_pure ⟨_,rfl,wpAny_pure h⟩
  |exact wpAny_pure ⟨_,rfl,h⟩
  |exact wpAny_bind (wpAny_pure (wpAny_pure ⟨_,rfl,wpAny_pure h⟩))
  | (refine wpAny_bind (wpAny_bind (wpAny_typeOf ht.typeIs (wpAny_pure ?_)))
     rw[if_pos (by decide)];exact wpAny_bind (wpAny_rule (wpAny_pure ⟨_,rfl,wpAny_pure h⟩)))
theorem tuple_index {t:Addr}{items:Array Value}{x:Value}{e:Value->Bool}{j:Nat}{Q:Value->Shared->Prop}(ht:IsTup s.heap t items) (he:∀y∈items,PySem.SeqAt.EqAt A.in1 s y x (e y)) (hj:j<items.size)
  (hit:e items[j]=true) (hno:∀m (hm:m<items.size),m<j->e items[m]=false) (h:Q (.int j s.toks) { s with toks:=s.toks+1 }) :
  wpAny (model prog w) A (call (.builtin "tuple.index") [.ref t,x]) Q E s:=by
 refine wpAny_call_entry PySem.F.slot_tuple_index ht.typeIs PySem.F.entry_tuple_index ?_<|PySem.F.args_tuple_index_2 _ _;show wpAny _ _ (Builtin.Tuple.tupleItemsOf (.ref t) >>= _) _ _ s;refine wpAny_bind<|tupleItemsOf_ ht ?_;refine wpAny_bind<|wpAny_pure<|wpAny_bind<|wpAny_pure<|wpAny_bind ?_;rw[Wee];simp only[Std.Legacy.Range.forIn_eq_forIn_range',Std.Legacy.Range.size,Wd0,Nat.add_sub_cancel,Nat.div_one];refine wpAny_mono (Q:=λb s'=>s' = { s with toks:=s.toks+1 } /\ b.1=some (Fin.done (.ret (.int j s.toks)))) ?_ (λb s' hb=>?_) λ_ _ z=>z;refine wpAny_forIn_list _ (λl b s'=>s'=s/\∃i,l=List.range' i (items.size-i)/\i<=j) _ ?_ ?_ _ _ ⟨rfl,0,rfl,Wbx _⟩
 ·rintro i rest b s' ⟨rfl,k,hl,hk⟩
  have hk2:items.size-k=(items.size-k-1)+1:=by omega
  rw[hk2,List.range'_succ]at hl;injection hl with hl1 hl2
  subst hl1;have hi:i<items.size:=by omega
  rw[Array.getElem?_eq_getElem hi];refine wpAny_bind<|he _ (Array.getElem_mem hi) prog w _ _ ?_;by_cases hij:i=j
  ·subst hij
   rw[hit,if_pos rfl];exact wpAny_bind<|wpAny_bind<|wpAny_mkInt<|wpAny_pure<|wpAny_pure ⟨rfl,rfl⟩
  ·rw[hno i hi (by omega),if_neg Wam]
   exact wpAny_pure ⟨rfl,i+1,by rw[hl2,show items.size-i-1=items.size-(i+1) by omega],by omega⟩
 ·rintro b s' ⟨rfl,k,hl,hk⟩
  have:=congrArg Wa9 hl;simp at this;omega
 ·obtain⟨rfl,e1⟩:=hb
  obtain⟨b1,b2⟩:=b;dsimp only at e1;subst e1;exact wpAny_pure ⟨_,rfl,h⟩
end
end HT
namespace L2
open PySem PySem.Spec PyProof.Rows
section
variable {X:Cx}
def rSlT' (K:W.Frag):V->Option Int->Option Int->Hp->VK->Prop:=λx lo hi H Q=>∃a xs,x=.ref a/\SqT K H a xs ∧
 ((HT.sIx xs.length 0 lo=0/\HT.sIx xs.length xs.length hi=xs.length)->Q (.ref a) H) ∧
 (¬ (HT.sIx xs.length 0 lo=0/\HT.sIx xs.length xs.length hi=xs.length)->∀p,H p=none->Q (.ref p) (upd H p (.tup<|cutV xs lo hi)))
theorem Zsu:SlR X (rSlT' X.K):=by
 intro pins s σ H x v vl vu lo hi sl Q I rx hs pl pu h;obtain⟨a,xs,rfl,hx,q1,q2⟩:=h;by_cases hw:HT.sIx xs.length 0 lo=0/\HT.sIx xs.length xs.length hi=xs.length
 ·cases rx
  obtain⟨its,r,ht,hz⟩:=I.tuple hx;have hlen:its.toArray.size=xs.length:=by rw[Wah];exact r.length.symm
  exact⟨"tuple",_,PyProof.Rows.slot_tuple_getitem.lookup,ht.typeIs,HT.getItem_tuple_whole ht hs pl pu (by rw[hlen];exact hw) ⟨.ref a,H,I,rfl,q1 hw⟩⟩
 ·exact Zwq pins s σ H (.ref a) v vl vu lo hi sl Q I rx hs pl pu ⟨a,xs,rfl,hx,hw,q2 hw⟩
def rSlU (K:W.Frag):V->Option Int->Option Int->Hp->VK->Prop:=λx lo hi H Q=>rSlL K x lo hi H Q\/rSlT' K x lo hi H Q
theorem slU:SlR X (rSlU X.K):=Zs0.or Zsu
def tSlR (K:W.Frag) (te:TE):TE:=λσ H Q=>te σ H λx H1=>∃a xs,x=.ref a/\SqT K H1 a xs/\∀p,H1 p=none->Q (.ref p) (upd H1 p (.tup xs.reverse))
def rCatT' (K:W.Frag):R2:=λx y H Q=>∃a b xs ys,x=.ref a/\y=.ref b/\SqT K H a xs/\SqT K H b ys/\xs.length+ys.length<=sizeLine ∧
 (xs=[]->Q (.ref b) H)/\(xs≠[]->ys=[]->Q (.ref a) H)/\(xs≠[]->ys≠[]->∀p,H p=none->Q (.ref p) (upd H p (.tup<|xs++ys)))
theorem Zqj:OpR X (binaryOp .Add) (rCatT' X.K):=by
 intro pins s σ H x y v u Q I rx ry h;obtain⟨a,b,xs,ys,rfl,rfl,ha,hb,hz,q0,q1,q2⟩:=h;by_cases hx:xs=[]
 ·cases rx
  cases ry;obtain⟨its,r1,p1,_⟩:=I.tuple ha;obtain⟨its2,r2,p2,_⟩:=I.tuple hb;obtain⟨⟨cls,dd,data,sl⟩,ho,hc,n,hd⟩:=id p1;obtain⟨⟨cls2,dd2,data2,sl2⟩,ho2,hc2,n2,hd2⟩:=id p2;simp only at hc hd hc2 hd2;subst hc hd hc2 hd2;exact concat_meets ⟨_,ho,rfl⟩ ⟨_,ho2,rfl⟩ noFill_tuple_add seq_tuple_add PySem.F.slot_tuple_add PySem.F.entry_tuple_add (PySem.F.args_tuple_add_2 _ _)
   (tuple_addW0 a b its.toArray its2.toArray n n2 dd dd2 sl sl2 (by simp[r1.nil_iff.mpr hx])) ⟨ho,ho2,⟨.ref b,H,I,rfl,q0 hx⟩⟩
 ·exact Zuj pins s σ H (.ref a) (.ref b) v u Q I rx ry ⟨a,b,xs,ys,rfl,rfl,ha,hb,hx,hz,q1 hx,q2 hx⟩
def rAddU (K:W.Frag):R2:=λx y H Q=>rI0 (λi j=>.int<|i+j) x y H Q\/(rCatT' K x y H Q\/rCat x y H Q)
theorem Ztt:OpR X (binaryOp .Add) (rAddU X.K):=Zwh.or<|Zqj.or Zvn
theorem Zbm:OpR X (compareOp .Eq) rEq:=Zxf
theorem Zez:OpR X (compareOp .NotEq) rNe:=Zxc
def rIxD:R2:=λx y H Q=>∃a v,x=.ref a/\DGet H a y (some v)/\Q v H
theorem Zt7 (hu:X.A.units+1<cLine):IxR X rIxD:=by
 intro value slice pins s σ H x y v u Q I rx ry h hs;obtain⟨a,w',rfl,g,q⟩:=h;cases rx;exact tail_any (Zku I g) PySem.F.slot_dict_getitem.lookup (Znf hu I g ry λw2 s3 I3 rw'=>⟨w',H,I3,rw',q⟩) hs
def rIxU (K:W.Frag):R2:=λx y H Q=>rIx K x y H Q\/rIxD x y H Q
theorem ixU (hu:X.A.units+1<cLine):IxR X (rIxU X.K):=Zu5.or<|Zt7 hu
def rSetD:V->V->V->Hp->(Hp->Prop)->Prop:=λo i v H Q=>∃a H',o=.ref a/\DPut H a i v H' /\ Q H'
theorem Zqx (hu:X.A.units+1<cLine):PSet X rSetD:=by
 intro pins s σ H o i v ov iv u Q I ro ri rv h;obtain⟨a,H',rfl,g,q⟩:=h;cases ro;exact Zoj hu I g ri rv λs' I'=>⟨H',I',q⟩
theorem PSet.or {t t':TSet}(h:PSet X t) (h':PSet X t'):PSet X (λo i v H Q=>t o i v H Q\/t' o i v H Q):=by
 intro pins s σ H o i v ov iv u Q I ro ri rv q;rcases q with q|q
 ·exact h pins s σ H o i v ov iv u Q I ro ri rv q
 ·exact h' pins s σ H o i v ov iv u Q I ro ri rv q
def rSetU:V->V->V->Hp->(Hp->Prop)->Prop:=λo i v H Q=>rSetL o i v H Q\/rSetD o i v H Q
theorem setU (hu:X.A.units+1<cLine):PSet X rSetU:=Zqy.or<|Zqx hu
def rLenU (K:W.Frag):List V->Hp->VK->Prop:=λxs H Q=>(∃p ys,xs=[.ref p]/\(SqL K H p ys\/SqT K H p ys)/\Q (.int ys.length) H)\/∃a kvs,xs=[V.ref a]/\H a=some (.dK kvs)/\Q (.int kvs.length) H
theorem Zo1:CallR X (.builtin "len") (rLenU X.K):=Zjl.or Zn7
def rIsi (K:W.Frag):List V->Hp->VK->Prop:=λxs H Q=>∃x n t b,xs=[x,.ty n]/\TyOf K H x t/\PySem.W.kitOne K t (.type n)=some b/\Q (.bl b) H
theorem Zke:CallR X (.builtin "isinstance") (rIsi X.K):=by
 intro pins s σ H xs us Q I r h;obtain⟨x,n,t,b,rfl,ty,e,q⟩:=h;obtain⟨u,u',rfl,rx,rn⟩:=vals2 r;cases (show u'=Value.type n from rn);exact Zol I rx ty e λtk=>⟨.bl b,H,I.tok _,rfl,q⟩
def insI (n:Nat) (i:Int):Nat:=if i<0 then (i+(n:Int)).toNat else min i.toNat n
def rInsert:V->List V->Hp->VK->Prop:=λx vs H Q=>∃l xs i y,x=.ref l/\vs=[.int i,y]/\H l=some (.lst xs)/\xs.length<sizeLine /\ -(2 ^ 62)<=i/\i<2 ^ 62/\Q .non (upd H l (.lst (xs.take (insI xs.length i)++y::xs.drop (insI xs.length i))))
theorem Zjq:MtM X "list.insert" rInsert:=by
 intro pins s σ H x vs v us Q I rx rv h;obtain⟨l,xs,i,y,rfl,rfl,hH,hz,h1,h2,q⟩:=h;cases rx;obtain⟨ui,uy,rfl,⟨t,rfl⟩,ry⟩:=rv.two;obtain⟨z,its,n,r,hl,e⟩:=I.lstM hH;refine call_meets F.slot_list_insert ⟨_,e,rfl⟩ F.entry_list_insert (F.args_list_insert_3 _ _ _) (PySem.AutoSeq1.list_insert_list_int_val_1 l its.toArray n i t uy (by
  have hf:Builtin.List.listFitsIndex i=true:=by
   unfold Builtin.List.listFitsIndex;rw[decide_eq_true (by omega),decide_eq_true (by omega)];rfl
  rw[hf];decide) (by rw[Wah];omega)) ⟨e,?_⟩
 refine⟨.non,_,I.lset (its':=its.take (insI xs.length i)++uy::its.drop (insI xs.length i)) hH e ?_ ((r.take _).append (.cons ry<|r.drop _)) ?_,rfl,q⟩
 ·have e1:(if i<0 then (i+(its.toArray.size:Int)).toNat else min i.toNat its.toArray.size)=insI xs.length i:=by
   unfold insI;rw[Wah,hl]
  dsimp only;rw[e1];apply Array.ext';simp;rw[Wcz (by rw[Wb4];exact Wak _)]
 ·rw[Waj,Wan,Wbk,Wb4]
  omega
def rIndexT (K:W.Frag):V->List V->Hp->VK->Prop:=λx vs H Q=>∃a xs y j,x=.ref a/\vs=[y]/\SqT K H a xs/\flatV y=true/\xs.all flatV=true/\j<xs.length ∧
 (∃z,xs[j]?=some z/\eqV z y=true)/\(∀m z,m<j->xs[m]?=some z->eqV z y=false)/\Q (.int j) H
theorem Zhe:MtM X "tuple.index" (rIndexT X.K):=by
 intro pins s σ H x vs v us Q I rx rv h;obtain⟨a,xs,y,j,rfl,rfl,hx,fy,fx,hj,⟨z,hz1,hz2⟩,hno,q⟩:=h;cases rx;obtain⟨u,rfl,ru⟩:=rv.one;obtain⟨its,r,ht,hz⟩:=I.tuple hx;have hl:its.length=xs.length:=r.length.symm;have key:∀w∈its.toArray,SeqAt.EqAt X.A.in1 s w u (eqU y w):=λw hw=>by
  have hw:w∈its:=by simpa using hw
  obtain⟨k,hk,e⟩:=Wc6.mp hw;have hk':k<xs.length:=by omega
  obtain⟨w',hw',rw'⟩:=r.get<|Wab hk';have ew:w'=w:=by
   rw[Wab hk]at hw';exact(Wa6.inj hw').symm.trans e
  subst ew;have fk:flatV xs[k]=true:=Wba.mp fx _<|Wbl hk';rw[Zlv rw' fk];exact Zsa rw' ru fk fy
 have at_:∀(k:Nat) (hk:k<its.toArray.size) (z:V),xs[k]?=some z->eqU y its.toArray[k]=eqV z y:=λk hk z e=>by
  obtain⟨w',hw',rw'⟩:=r.get e;have hk2:k<its.length:=by simpa using hk
  rw[Wab hk2]at hw';have ew:its.toArray[k]=w':=by simpa using Wa6.inj hw'
  rw[ew];exact Zlv rw'<|Wba.mp fx _<|Wai e
 have hj':j<its.toArray.size:=by simpa [hl] using hj
 refine HT.tuple_index ht key hj' (by rw[at_ j hj' z hz1];exact hz2) (λm hm hmj=>?_) ⟨.int j,H,I.tok _,⟨_,rfl⟩,q⟩;have hm2:m<xs.length:=by simpa [hl] using hm
 rw[at_ m hm _ (Wab hm2)];exact hno m _ hmj<|Wab hm2
end
end L2
namespace L2
open PySem PySem.Spec PyProof.Rows
section
variable {X:Cx}
theorem PI.or {tg iter:Expr}{w w':TI}(h:PI X tg iter w) (h':PI X tg iter w'):PI X tg iter (λσ H R=>w σ H R\/w' σ H R):=by
 intro pins s σ H R I q;rcases q with q|q
 ·exact h pins s σ H R I q
 ·exact h' pins s σ H R I q
def iSeq (K:W.Frag) (tl:TE):TI:=λσ H R=>iList K tl σ H R\/iTup K tl σ H R
theorem Zwa {tg l:Expr}{tl:TE}(hl:PE X l tl):PI X tg l (iSeq X.K tl):=(Ztu hl).or (Zwz hl)
def tTru (K:W.Frag) (ta:TE):TT:=λσ H Q=>ta σ H λx H'=>∃k,TruV K x H' k/\Q k H'
theorem Zvk {a:Expr}{ta:TE}(ha:PE X a ta) (he:∀whole,isTrue a X.env whole=(do let v ← whole;standAt a.pos;holding [v] (truthy v))):PT X a (tTru X.K ta):=Zqw ha he
end
section
variable {K:W.Frag}{Δ:Evt}{P:D->Evt->Prop}
theorem Zc3 {i j:Int}(p:P (.int<|i+j) Δ):JR2 K (rAddU K) (.int i) (.int j) Δ P:=λg G H σ Q x y k rx ry c=>by
 cases rx.inv;cases ry.inv;exact .inl ⟨i,j,rfl,rfl,c _ _ G H Δ k (Same.refl _) (.int _) p⟩
theorem Zpe {ds es:List D}(hz:ds.length+es.length<=sizeLine) (p:P (.tup<|ds++es) Δ):JR2 K (rAddU K) (.tup ds) (.tup es) Δ P:=λg G H σ Q x y k rx ry c=>by
 cases rx with
 |tup ha ra=>
  cases ry with
  |tup hb rb=>
   refine .inr (.inl ⟨_,_,_,_,rfl,rfl,SqT.of<|k.live _ _ ha,SqT.of<|k.live _ _ hb,by rw[ra.length,rb.length];exact hz,λe=>?_,λ_ e=>?_,λ_ _ q hq=>?_⟩)
   ·subst e;cases ra;exact c _ _ G H Δ k (Same.refl _) (.tup hb rb) p
   ·subst e;cases rb;rw[Wa3]at p;exact c _ _ G H Δ k (Same.refl _) (.tup ha ra) p
   ·obtain⟨k2,sg⟩:=k.laid hq (.tup _)
    exact c _ _ _ _ Δ k2 sg (.tup Zat ((ra.append rb).mono sg)) p
theorem Zgh {ds es:List D}(hz:ds.length+es.length<=sizeLine) (p:P (.lst<|ds++es) Δ):JR2 K (rAddU K) (.lst ds) (.lst es) Δ P:=λg G H σ Q x y k rx ry c=>by
 obtain⟨_,_,rfl,ha,ra⟩:=rx.inv
 next=>
  obtain⟨_,_,rfl,hb,rb⟩:=ry.inv
  next=>
   refine .inr (.inr ⟨_,_,_,_,rfl,rfl,k.live _ _ ha,k.live _ _ hb,by rw[ra.length,rb.length];exact hz,λq hq=>?_⟩);obtain⟨k2,sg⟩:=k.laid hq (.lst _);exact c _ _ _ _ Δ k2 sg (.lst Zat ((ra.append rb).mono sg)) p
theorem Za6 {ds:List D}{i:Int}{d:D}(h:atI ds i=some d) (p:P d Δ):JR2 K (rIxU K) (.tup ds) (.int i) Δ P:=λg G H σ Q x y k rx ry c=>
 .inl (.inr (.inl<|Zu2 h p g G H σ Q x y k rx ry c))
theorem Zee {ds:List D}{i:Int}{d:D}(h:atI ds i=some d) (p:P d Δ):JR2 K (rIxU K) (.lst ds) (.int i) Δ P:=λg G H σ Q x y k rx ry c=>
 .inl (.inl<|Zvs h p g G H σ Q x y k rx ry c)
theorem Zt9 {n:Nat}{tb:TE}{x:Slot}{ds:List D}(hx:Δ[n]?=some x) (ho:x.od=some (.lst ds)) (h:JE K tb Δ λe Δ1=>∃y es i d,Δ1[n]?=some y/\y.od=some (.lst es)/\e=.int i/\atI es i=some d/\P d Δ1):JE K (tOp (rIxU K) (tVar n) tb) Δ P:=λg G H σ Q k c=>by
 obtain⟨a,o,h1,h2,h3,h4,h5⟩:=k.own n x _ hx ho;refine⟨.ref a,h1,h g G H σ _ k λv e G1 H1 Δ1 k1 s1 r1 ⟨y,es,i,d,q1,q2,q3,q4,p⟩=>?_⟩;subst q3;cases r1.inv;obtain⟨a',o',w1,w2,w3,w4,w5⟩:=k1.own n y _ q1 q2;rw[h1]at w1;cases w1;cases o' with
 |lst vs=>
  obtain⟨u,z1,z2⟩:=Zir (show Reps K G1 vs es from w3) q4;exact .inl (.inl ⟨a,vs,i,u,rfl,rfl,SqL.of w2,z1,c u d G1 H1 Δ1 k1 s1 z2 p⟩)
 |_=>exact absurd w3 (λz=>z)
theorem Zo9 {n:Nat}{ti te:TE}{Pp:Pst}(h:JE K te Δ λd Δ1=>(∃x od,Δ1[n]?=some x/\x.od=some od)/\JE K ti Δ1 λe Δ2=>∃x ds i j,Δ2[n]?=some x/\x.od=some (.lst ds)/\e=.int i/\ixN ds.length i=some j/\Pp.nx (Δ2.set n<|x.put (.lst<|ds.set j d))) :
  JS K (tAsg te<|gSub (tVar n) ti rSetU) Δ Pp:=λg G H σ E k c=>
 h g G H σ _ k λv d G1 H1 Δ1 k1 s1 r1 hq_=>by
  obtain⟨⟨x,od,hx,ho⟩,p1⟩:=hq_;obtain⟨a,o,h1,h2,h3,h4,h5⟩:=k1.own n x _ hx ho;refine⟨.ref a,h1,p1 g G1 H1 σ _ k1 λu e G2 H2 Δ2 k2 s2 r2 ⟨y,ds,i,j,q1,q2,q3,q4,p⟩=>?_⟩;subst q3;cases r2.inv;obtain⟨a',o',w1,w2,w3,w4,w5⟩:=k2.own n y _ q1 q2;rw[h1]at w1;cases w1;cases o' with
  |lst vs=>
   have w3:Reps K G2 vs ds:=w3;exact .inl ⟨a,vs,i,j,rfl,rfl,w2,by rw[w3.length];exact q4,c.nx σ G2 _ _ (k2.write q1 q2 h1 (show OwnRep K G2 (.lst<|vs.set j v) (.lst<|ds.set j d) from w3.set j (r1.mono s2))) p⟩
  |_=>exact absurd w3 (λz=>z)
def valD (kvs:List (Key × D)) (k:Key):Option D:=(kvs.find? λkv=>decide (kv.1=k)).map (·.2)
def putD (kvs:List (Key × D)) (k:Key) (v:D):List (Key × D):=if (kvs.any λkv=>decide (kv.1=k))=true then kvs.map (λkv=>if kv.1=k then (kv.1,v) else kv) else kvs++[(k,v)]
theorem Zno {G:Hp}{k:Key}{d:D}:∀{kvs:List (Key × V)}{kds:List (Key × D)},Paired (λ(p:Key × V) (q:Key × D)=>p.1=q.1/\Rep K G p.2 q.2) kvs kds->valD kds k=some d->∃v,valV kvs k=some v/\Rep K G v d
 |_,_,.nil,h=>by cases h
 | (k1,v1)::kvs,(k2,d2)::kds,.cons ⟨e,r⟩ t,h=>by
  have e:k1=k2:=e;subst e;by_cases hk:k1=k
  ·subst hk
   have h:some d2=some d:=by simpa [valD,Wbq] using h
   cases h;exact⟨v1,Ze8 rfl,r⟩
  ·have h:valD kds k=some d:=by simpa [valD,Wbq,hk] using h
   obtain⟨v,h1,h2⟩:=Zno t h;exact⟨v,by rw[Zfk hk];exact h1,h2⟩
theorem Zos {G:Hp}{k:Key}:∀{kvs:List (Key × V)}{kds:List (Key × D)},Paired (λ(p:Key × V) (q:Key × D)=>p.1=q.1/\Rep K G p.2 q.2) kvs kds->(kvs.any λkv=>decide (kv.1=k))=(kds.any λkv=>decide (kv.1=k))
 |_,_,.nil=>rfl
 |_::_,_::_,.cons ⟨e,_⟩ t=>by rw[Wcr,Wcr,Zos t,e]
theorem Zp0 {G:Hp}{k:Key}{v:V}{d:D}(rv:Rep K G v d):∀{kvs:List (Key × V)}{kds:List (Key × D)},Paired (λ(p:Key × V) (q:Key × D)=>p.1=q.1/\Rep K G p.2 q.2) kvs kds →
  Paired (λ(p:Key × V) (q:Key × D)=>p.1=q.1/\Rep K G p.2 q.2) (kvs.map λkv=>if kv.1=k then (kv.1,v) else kv) (kds.map λkv=>if kv.1=k then (kv.1,d) else kv)
 |_,_,.nil=>.nil
 | (k1,v1)::kvs,(k2,d2)::kds,.cons ⟨e,r⟩ t=>by
  have e:k1=k2:=e;subst e;rw[Wa1,Wa1];refine .cons ?_<|Zp0 rv t;by_cases hk:k1=k
  ·rw[if_pos hk,if_pos hk];exact⟨rfl,rv⟩
  ·rw[if_neg hk,if_neg hk];exact⟨rfl,r⟩
theorem Zpi {G:Hp}{k:Key}{v:V}{d:D}{kvs:List (Key × V)}{kds:List (Key × D)}(rv:Rep K G v d) (h:Paired (λ(p:Key × V) (q:Key × D)=>p.1=q.1/\Rep K G p.2 q.2) kvs kds) :
  Paired (λ(p:Key × V) (q:Key × D)=>p.1=q.1/\Rep K G p.2 q.2) (putK kvs k v) (putD kds k d):=by
 unfold putK putD;rw[Zos h];split
 ·exact Zp0 rv h
 ·exact Paired.snoc h ⟨rfl,rv⟩
theorem Zoz {Po:OD->Evt->Prop}(p:Po (.dct []) Δ):JO K tDNewK Δ Po:=λg G H σ Q k c q hq=>by
 obtain⟨k2,pd⟩:=k.fresh (od:=.dct []) hq (show OwnRep K G (.dK []) (.dct []) from .nil);exact c q _ G _ Δ k2 (Same.refl _) pd p
theorem Zkf {n:Nat}{tb:TE}{x:Slot}{od:OD}(hx:Δ[n]?=some x) (ho:x.od=some od) (h:JE K tb Δ λe Δ1=>∃y kvs i d,Δ1[n]?=some y/\y.od=some (.dct kvs)/\e=.int i/\valD kvs (.inl i)=some d/\P d Δ1):JE K (tOp (rIxU K) (tVar n) tb) Δ P:=λg G H σ Q k c=>by
 obtain⟨a,o,h1,h2,h3,h4,h5⟩:=k.own n x _ hx ho;refine⟨.ref a,h1,h g G H σ _ k λv e G1 H1 Δ1 k1 s1 r1 ⟨y,kvs,i,d,q1,q2,q3,q4,p⟩=>?_⟩;subst q3;cases r1.inv;obtain⟨a',o',w1,w2,w3,w4,w5⟩:=k1.own n y _ q1 q2;rw[h1]at w1;cases w1;cases o' with
 |dK vs=>
  obtain⟨u,z1,z2⟩:=Zno w3 q4;exact .inr ⟨a,u,rfl,(by have:=DGet.k (k:=Sum.inl i) w2;rw[z1]at this;exact this),c u d G1 H1 Δ1 k1 s1 z2 p⟩
 |_=>exact absurd w3 (λz=>z)
theorem Ztg {n:Nat}{ti te:TE}{Pp:Pst}(h:JE K te Δ λd Δ1=>(∃x od,Δ1[n]?=some x/\x.od=some od)/\JE K ti Δ1 λe Δ2=>∃x kvs i,Δ2[n]?=some x/\x.od=some (.dct kvs)/\e=.int i/\kvs.length<sizeLine/\Pp.nx (Δ2.set n<|x.put (.dct<|putD kvs (.inl i) d))) :
  JS K (tAsg te<|gSub (tVar n) ti rSetU) Δ Pp:=λg G H σ E k c=>
 h g G H σ _ k λv d G1 H1 Δ1 k1 s1 r1 hq_=>by
  obtain⟨⟨x,od,hx,ho⟩,p1⟩:=hq_;obtain⟨a,o,h1,h2,h3,h4,h5⟩:=k1.own n x _ hx ho;refine⟨.ref a,h1,p1 g G1 H1 σ _ k1 λu e G2 H2 Δ2 k2 s2 r2 ⟨y,kvs,i,q1,q2,q3,q4,p⟩=>?_⟩;subst q3;cases r2.inv;obtain⟨a',o',w1,w2,w3,w4,w5⟩:=k2.own n y _ q1 q2;rw[h1]at w1;cases w1;cases o' with
  |dK vs=>
   have w3':Paired (λ(p:Key × V) (q:Key × D)=>p.1=q.1/\Rep K G2 p.2 q.2) vs kvs:=w3;exact .inr ⟨a,_,rfl,DPut.k (k:=Sum.inl i) w2 (by rw[Paired.length w3'];exact q4),c.nx σ G2 _ _ (k2.write q1 q2 h1 (show OwnRep K G2 (.dK<|putK vs (.inl i) v) (.dct<|putD kvs (.inl i) d) from Zpi (r1.mono s2) w3')) p⟩
  |_=>exact absurd w3 (λz=>z)
theorem Zbl {ds es:List D}(he:ds=[.lst es]\/ds=[.tup es]) (p:P (.int es.length) Δ):JC K (rLenU K) ds Δ P:=λg G H σ Q vs k rs c=>.inl<|Zwb he p g G H σ Q vs k rs c
theorem Zh3 {n:Nat}{x:Slot}{ds:List D}(hx:Δ[n]?=some x) (ho:x.od=some (.lst ds)) (p:P (.int ds.length) Δ):JE K (tCB (rLenU K)<|tCons (tVar n) tNil) Δ P:=λg G H σ Q k c=>by
 obtain⟨v,h1,h2⟩:=Zs6 hx ho p g G H σ Q k c;exact⟨v,h1,.inl h2⟩
def cutD (ds:List D) (lo hi:Option Int):List D:=(ds.drop<|HT.sIx ds.length 0 lo).take (HT.sIx ds.length ds.length hi-HT.sIx ds.length 0 lo)
theorem Zpw {α:Type}(xs:List α) (lo hi:Option Int) (h:HT.sIx xs.length 0 lo=0/\HT.sIx xs.length xs.length hi=xs.length):(xs.drop<|HT.sIx xs.length 0 lo).take (HT.sIx xs.length xs.length hi-HT.sIx xs.length 0 lo)=xs:=by
 rw[h.1,h.2];simp
def JO2 (t:TO) (Δ:Evt) (K:W.Frag) (P:Option Int->Evt->Prop):Prop:=
 ∀g G H σ (Q:Option Int->Hp->Prop),Ok K g G H σ Δ -> (∀o G' H' Δ',Ok K g G' H' σ Δ' -> Same G G' -> P o Δ' -> Q o H')->t σ H Q
theorem Zcb {P:Option Int->Evt->Prop}(p:P none Δ):JO2 tNoPart Δ K P:=λg G H σ Q k c=>c none G H Δ k (Same.refl _) p
theorem Zce {te:TE}{P:Option Int->Evt->Prop}(h:JE K te Δ λd Δ1=>∃i,d=.int i/\P (some i) Δ1):JO2 (tPart te) Δ K P:=λg G H σ Q k c=>
 h g G H σ _ k λv d G1 H1 Δ1 k1 s1 r1 hq_=>by obtain⟨i,e,p⟩:=hq_;subst e;cases r1.inv;exact⟨i,rfl,c (some i) G1 H1 Δ1 k1 s1 p⟩
def slD (d:D) (lo hi:Option Int):Option D:=match d with
 |.lst ds=>some (.lst (cutD ds lo hi))
 |.scr ds=>some (.lst (cutD ds lo hi))
 |.tup ds=>some (.tup (cutD ds lo hi))
 |_=>none
theorem Zep {te:TE}{tl th:TO}(h:JE K te Δ λd Δ1=>JO2 tl Δ1 K λlo Δ2=>JO2 th Δ2 K λhi Δ3=>∃e,slD d lo hi=some e/\P e Δ3):JE K (tSl (rSlU K) te tl th) Δ P:=λg G H σ Q k c=>
 h g G H σ _ k λv d G1 H1 Δ1 k1 s1 r1 p1=>p1 g G1 H1 σ _ k1 λlo G2 H2 Δ2 k2 s2 p2=>p2 g G2 H2 σ _ k2 λhi G3 H3 Δ3 k3 s3 hq_=>by
  obtain⟨e,he,p⟩:=hq_;have r3:=r1.mono<|s2.trans s3;have cc:=c.up<|s1.trans<|s2.trans s3;cases r3 with
  |lst ha rs=>
   cases he;refine .inl ⟨_,_,rfl,SqL.of<|k3.live _ _ ha,λq hq=>?_⟩;obtain⟨k4,sg⟩:=k3.laid hq (.lst _);refine cc _ _ _ _ Δ3 k4 sg (.lst Zat<|Reps.mono sg ?_) p;unfold cutV cutD;rw[rs.length];exact(rs.drop _).take _
  |scr ha rs=>
   cases he;refine .inl ⟨_,_,rfl,k3.live.seq ha,λq hq=>?_⟩;obtain⟨k4,sg⟩:=k3.laid hq (.lst _);refine cc _ _ _ _ Δ3 k4 sg (.lst Zat<|Reps.mono sg ?_) p;unfold cutV cutD;rw[rs.length];exact(rs.drop _).take _
  |tup ha rs=>
   cases he;refine .inr ⟨_,_,rfl,SqT.of<|k3.live _ _ ha,λhw=>?_,λhw q hq=>?_⟩
   ·rw[rs.length]at hw
    refine cc _ _ _ _ Δ3 k3 (Same.refl _) (.tup ha ?_) p;unfold cutD;rw[Zpw _ _ _ hw];exact rs
   ·obtain⟨k4,sg⟩:=k3.laid hq (.tup _)
    refine cc _ _ _ _ Δ3 k4 sg (.tup Zat<|Reps.mono sg ?_) p;unfold cutV cutD;rw[rs.length];exact(rs.drop _).take _
  |_=>cases he
theorem Zw0 {te:TE}(h:JE K te Δ λd Δ1=>∃ds,d=.tup ds/\P (.tup ds.reverse) Δ1):JE K (tSlR K te) Δ P:=λg G H σ Q k c=>
 h g G H σ _ k λv d G1 H1 Δ1 k1 s1 r1 hq_=>by
  obtain⟨ds,e,p⟩:=hq_;subst e;obtain⟨_,_,rfl,ha,rs⟩:=r1.inv
  next=>
   refine⟨_,_,rfl,SqT.of<|k1.live _ _ ha,λq hq=>?_⟩;obtain⟨k4,sg⟩:=k1.laid hq (.tup _);exact c _ _ _ _ Δ1 k4 (s1.trans sg) (.tup Zat<|rs.reverse.mono sg) p
theorem Zcn {tl:TE}{P:List D->Evt->Prop}(h:JE K tl Δ λd Δ1=>∃ds,(d=.lst ds\/d=.scr ds)/\P ds Δ1):JI K (iSeq K tl) Δ P:=λg G H σ R k c=>.inl<|Zt4 h g G H σ R k c
theorem Ze1 {tl:TE}{P:List D->Evt->Prop}(h:JE K tl Δ λd Δ1=>∃ds,d=.tup ds/\P ds Δ1):JI K (iSeq K tl) Δ P:=λg G H σ R k c=>.inr<|Zwr h g G H σ R k c
def truD:D->Option Bool
 |.non=>some false
 |.bl b=>some b
 |.int i=>some (i != 0)
 |.lst ds=>some !ds.isEmpty
 |.tup ds=>some !ds.isEmpty
 |_=>none
theorem Reps.isEmpty {G:Hp}{vs:List V}{ds:List D}(r:Reps K G vs ds):vs.isEmpty=ds.isEmpty:=by cases r <;> rfl
theorem Zbk {t:TE}{Pb:Bool->Evt->Prop}(h:JE K t Δ λd Δ1=>∃b,truD d=some b/\Pb b Δ1):JT K (tTru K t) Δ Pb:=λg G H σ Q k c=>
 h g G H σ _ k λv d G1 H1 Δ1 k1 s1 r1 hq_=>by
  obtain⟨b,e,p1⟩:=hq_;refine⟨b,?_,c b G1 H1 Δ1 k1 s1 p1⟩;cases r1 with
  |non=>cases e;rfl
  |bl b=>cases e;rfl
  |int i=>cases e;rfl
  |str x=>cases e
  |ty n=>cases e
  |scr ha rs=>cases e
  |adr a=>cases e
  |dct ha hl rs=>cases e
  |exc ha=>cases e
  |lst ha rs=>cases e;exact .inl ⟨_,SqL.of (k1.live _ _ ha),by rw[rs.isEmpty]⟩
  |tup ha rs=>cases e;exact .inr (.inl ⟨_,SqT.of (k1.live _ _ ha),by rw[rs.isEmpty]⟩)
def tyD:D->Option String
 |.non=>some "NoneType"
 |.bl _=>some "bool"
 |.int _=>some "int"
 |.str _=>some "str"
 |.lst _=>some "list"
 |.tup _=>some "tuple"
 |.dct _ _=>some "dict"
 |_=>none
theorem Zvy {d:D}{n T:String}{b:Bool}(ht:tyD d=some T) (e:∀K,PySem.W.kitOne K (.type T) (.type n)=some b) (p:P (.bl b) Δ):JC K (rIsi K) [d,.ty n] Δ P:=λg G H σ Q vs k rs c=>by
 obtain⟨_,_,rfl,r,t⟩:=rs.inv
 next=>
  obtain⟨_,_,rfl,r',t⟩:=t.inv
  next=>
   cases t.inv;cases r'.inv;refine⟨_,n,.type T,b,rfl,?_,e K,c _ _ G H Δ k (Same.refl _) (.bl b) p⟩;cases r with
   |non=>cases ht;exact .non
   |bl b=>cases ht;exact .bl b
   |int i=>cases ht;exact .int i
   |str x=>cases ht;exact .str x
   |ty n=>cases ht
   |scr ha rs=>cases ht
   |adr a=>cases ht
   |dct ha hl rs=>cases ht;exact .dK (k.live _ _ ha)
   |exc ha=>cases ht
   |lst ha rs=>cases ht;exact .lst (k.live _ _ ha)
   |tup ha rs=>cases ht;exact .tup (k.live _ _ ha)
theorem Zd4 {ta tb:TE}(h:JE K ta Δ λd Δ1=>∃b,d=.bl b/\if b=true then JE K tb Δ1 P else P (.bl false) Δ1):JE K (tAndV ta tb) Δ P:=λg G H σ Q k c=>
 h g G H σ _ k λv d G1 H1 Δ1 k1 s1 r1 hq_=>by
  obtain⟨b,e,p1⟩:=hq_;subst e;cases r1.inv;refine⟨b,rfl,?_⟩;cases b with
  |true=>exact(show JE K tb Δ1 P from p1) g G1 H1 σ Q k1 (c.up s1)
  |false=>exact c _ _ G1 H1 Δ1 k1 s1 (.bl false) p1
theorem Zw9 {ta tb:TE}(h:JE K ta Δ λd Δ1=>∃b,d=.bl b/\if b=true then P (.bl true) Δ1 else JE K tb Δ1 P):JE K (tOrV ta tb) Δ P:=λg G H σ Q k c=>
 h g G H σ _ k λv d G1 H1 Δ1 k1 s1 r1 hq_=>by
  obtain⟨b,e,p1⟩:=hq_;subst e;cases r1.inv;refine⟨b,rfl,?_⟩;cases b with
  |false=>exact(show JE K tb Δ1 P from p1) g G1 H1 σ Q k1 (c.up s1)
  |true=>exact c _ _ G1 H1 Δ1 k1 s1 (.bl true) p1
theorem Zkv {ta:TE}(h:JE K ta Δ λd Δ1=>∃b,d=.bl b/\P (.bl !b) Δ1):JE K (tNotV ta) Δ P:=λg G H σ Q k c=>
 h g G H σ _ k λv d G1 H1 Δ1 k1 s1 r1 hq_=>by
  obtain⟨b,e,p1⟩:=hq_;subst e;cases r1.inv;exact⟨b,rfl,c _ _ G1 H1 Δ1 k1 s1 (.bl !b) p1⟩
theorem Zh5 {to te:TE}(h:JE K to Δ λd Δ1=>∃ns:List Int,d=.tup (ns.map D.int)/\JE K te Δ1 λe Δ2=>∃i j,e=.int i/\ns[j]?=some i/\(∀m,m<j->ns[m]?≠some i)/\P (.int (j:Nat)) Δ2) :
  JE K (tBM K "tuple" (rIndexT K) to<|tCons te tNil) Δ P:=λg G H σ Q k c=>
 h g G H σ _ k λv d G1 H1 Δ1 k1 s1 r1 hq_=>by
  obtain⟨ns,e,p1⟩:=hq_;subst e;obtain⟨a,vs,rfl,ha,rs⟩:=r1.inv
  next=>
   refine⟨.inr (.inl ⟨rfl,.inr ⟨_,k1.live _ _ ha⟩⟩),p1 g G1 H1 σ _ k1 λu e G2 H2 Δ2 k2 s2 r2 ⟨i,j,q1,q2,q3,p⟩=>?_⟩;subst q1;cases r2.inv;have ev:vs=ns.map V.int:=rs.ints;subst ev;have hj:j<ns.length:=(Wag.mp q2).1;refine⟨a,_,.int i,j,rfl,rfl,SqT.of<|k2.live _ _<|s2 _ _ ha,rfl,?_,by simpa using hj,⟨.int i,by rw[Wad,q2];rfl,by simp[eqV]⟩,λm z hm hz=>?_,c _ _ G2 H2 Δ2 k2 (s1.trans s2) (.int _) p⟩
   ·rw[List.all_map];exact Wba.mpr λ_ _=>rfl
   ·rw[Wad]at hz
    cases e:ns[m]? with
    |none=>rw[e]at hz;cases hz
    |some w=>
     rw[e]at hz;have hz:V.int w=z:=by simpa using hz
     subst hz;have hne:w≠i:=λq=>q3 m hm (by rw[e,q]);show (w == i)=false;exact beq_eq_false_iff_ne.mpr hne
end
section
variable {K:W.Frag}{g:Gm}{G H:Hp}{σ:St}{Δ:Evt}
theorem Ok.setVal' (k:Ok K g G H σ Δ) {v:V}{d:D}(i:Nat) (r:Rep K G v d):Ok K g G H (σ.set i<|some v) (Δ.set i (.val d)):=by
 by_cases hi:i < Δ.length
 ·exact k.setVal hi r
 ·have hl:=k.len
  rw[Wdb (l:=σ) (by omega),Wdb (l:=Δ) (by omega)];exact k
theorem Ok.setOwn' (k:Ok K g G H σ Δ) {a:Addr}{od:OD}(i:Nat) (p:Pend K g G H σ Δ a od):Ok K g G H (σ.set i<|some (.ref a)) (Δ.set i (.own od)):=by
 by_cases hi:i < Δ.length
 ·exact k.setOwn hi p
 ·have hl:=k.len
  rw[Wdb (l:=σ) (by omega),Wdb (l:=Δ) (by omega)];exact k
theorem Zv2 {te:TE}{i:Nat}{P:Pst}(h:JE K te Δ λd Δ1=>P.nx (Δ1.set i (.val d))):JS K (tAsg te<|gName i) Δ P:=λg G H σ E k c=>
 h g G H σ _ k λv d G1 H1 Δ1 k1 s1 r1 p1=>c.nx _ G1 H1 _ (k1.setVal' i r1) p1
theorem Zum {te:TE}{i:Nat}{P:Pst}(h:JO K te Δ λod Δ1=>P.nx (Δ1.set i (.own od))):JS K (tAsg te<|gName i) Δ P:=λg G H σ E k c=>
 h g G H σ _ k λa od G1 H1 Δ1 k1 s1 pd p1=>c.nx _ G1 H1 _ (k1.setOwn' i pd) p1
theorem Zte {i j:Nat}{ta:TA}{P:Pst}(h:JA K ta Δ λds Δ1=>∃d e,ds=[d,e]/\P.nx ((Δ1.set i (.val d)).set j (.val e))):JS K (tPar i j ta) Δ P:=λg G H σ E k c=>
 h g G H σ _ k λvs ds G1 H1 Δ1 k1 s1 r1 hq_=>by
  obtain⟨d,e,hd,p1⟩:=hq_;subst hd;obtain⟨_,_,rfl,ra,rr⟩:=r1.inv
  next=>
   obtain⟨_,_,rfl,rb,rr⟩:=rr.inv
   next=>
    cases rr.inv;exact⟨_,_,rfl,c.nx _ G1 H1 _ ((k1.setVal' i ra).setVal' j rb) p1⟩
theorem Zb3 {i:Nat}{d:D}{P:Evt->Prop}(p:P (Δ.set i (.val d))):JG K (gName i) d Δ P:=λg G H σ v R k r c=>c _ G H _ (k.setVal' i r) (Same.refl _) p
theorem Zg8 {n i:Nat}{d:D}{P:Evt->Prop}(hn:i<n) (p:P (Δ.set i (.val d))):JGn K n (gName i) d Δ P:=λg G H σ v R k r c=>
 c _ G H _ (k.setVal' i r) (Same.refl _) (λj hj=>Waw<|by omega) p
theorem Zvb {n:Nat}{te:TE}{Pp:Pst}{x:Slot}{ds0:List D}(hx:Δ[n]?=some x) (ho:x.od=some (.lst ds0))
  (h:JE K te Δ λd Δ1=>∃y ds,Δ1[n]?=some y/\y.od=some (.lst ds)/\ds.length<sizeLine/\Pp.nx (Δ1.set n<|y.put (.lst<|ds++[d]))) :
  JS K (tDrop<|tBM K "list" rAppend (tVar n)<|tCons te tNil) Δ Pp:=Zp8 hx ho ⟨_,rfl⟩ h
end
section
variable {K:W.Frag}{Δ:Evt}{nx bk ct:Evt->Prop}{rt:D->Evt->Prop}{ro:OD->Evt->Prop}
theorem Zaz (p:nx Δ):JS K tNext Δ ⟨nx,rt,bk,ct,ro⟩:=Zpy p
theorem Zaj {t u:TS}(h:JS K t Δ ⟨λΔ1=>JS K u Δ1 ⟨nx,rt,bk,ct,ro⟩,rt,bk,ct,ro⟩):JS K (tSeq t u) Δ ⟨nx,rt,bk,ct,ro⟩:=Zsd h
theorem Zb6 {t u:TS}(I:Evt->Prop) (h1:JS K t Δ ⟨I,rt,bk,ct,ro⟩) (h2:∀Δ1,I Δ1->JS K u Δ1 ⟨nx,rt,bk,ct,ro⟩):JS K (tSeq t u) Δ ⟨nx,rt,bk,ct,ro⟩:=
 Zsd (h1.mono h2 (λ_ _ z=>z) (λ_ z=>z) (λ_ z=>z) λ_ _ z=>z)
theorem Za0 {te:TE}(h:JE K te Δ rt):JS K (tRet te) Δ ⟨nx,rt,bk,ct,ro⟩:=Zvx h
theorem Zfx {te:TE}(h:JO K te Δ ro):JS K (tRet te) Δ ⟨nx,rt,bk,ct,ro⟩:=Ztq h
theorem Zbn {c:TT}{t u:TS}(h:JT K c Δ λb Δ1=>if b=true then JS K t Δ1 ⟨nx,rt,bk,ct,ro⟩ else JS K u Δ1 ⟨nx,rt,bk,ct,ro⟩):JS K (tIfS c t u) Δ ⟨nx,rt,bk,ct,ro⟩:=Zxh h
theorem Za1 {te:TE}{i:Nat}(h:JE K te Δ λd Δ1=>nx (Δ1.set i (.val d))):JS K (tAsg te<|gName i) Δ ⟨nx,rt,bk,ct,ro⟩:=Zv2 h
theorem Zb2 {te:TE}{i:Nat}(h:JO K te Δ λod Δ1=>nx (Δ1.set i (.own od))):JS K (tAsg te<|gName i) Δ ⟨nx,rt,bk,ct,ro⟩:=Zum h
theorem Zpc {i j:Nat}{ta:TA}(h:JA K ta Δ λds Δ1=>∃d e,ds=[d,e]/\nx ((Δ1.set i (.val d)).set j (.val e))):JS K (tPar i j ta) Δ ⟨nx,rt,bk,ct,ro⟩:=Zte h
theorem Zwy {te:TE}{t:TG}(h:JE K te Δ λd Δ1=>JG K t d Δ1 nx):JS K (tAsg te t) Δ ⟨nx,rt,bk,ct,ro⟩:=Zw6 h
theorem Zf3 {n:Nat}{te:TE}{x:Slot}{ds0:List D}(hx:Δ[n]?=some x) (ho:x.od=some (.lst ds0))
  (h:JE K te Δ λd Δ1=>∃y ds,Δ1[n]?=some y/\y.od=some (.lst ds)/\ds.length<sizeLine/\nx (Δ1.set n<|y.put (.lst<|ds++[d]))) :
  JS K (tDrop<|tBM K "list" rAppend (tVar n)<|tCons te tNil) Δ ⟨nx,rt,bk,ct,ro⟩:=Zvb hx ho h
theorem Zic {n:Nat}{ti te:TE}(h:JE K te Δ λd Δ1=>(∃x ds,Δ1[n]?=some x/\x.od=some (.lst ds))/\JE K ti Δ1 λe Δ2=>∃x ds i j,Δ2[n]?=some x/\x.od=some (.lst ds)/\e=.int i/\ixN ds.length i=some j/\nx (Δ2.set n<|x.put (.lst<|ds.set j d))) :
  JS K (tAsg te<|gSub (tVar n) ti rSetU) Δ ⟨nx,rt,bk,ct,ro⟩:=Zo9 (h.mono λd Δ1 ⟨⟨x,ds,h1,h2⟩,h3⟩=>⟨⟨x,_,h1,h2⟩,h3⟩)
theorem Znm {n:Nat}{ti te:TE}(h:JE K te Δ λd Δ1=>(∃x kvs,Δ1[n]?=some x/\x.od=some (.dct kvs))/\JE K ti Δ1 λe Δ2=>∃x kvs i,Δ2[n]?=some x/\x.od=some (.dct kvs)/\e=.int i/\kvs.length<sizeLine/\nx (Δ2.set n<|x.put (.dct<|putD kvs (.inl i) d))) :
  JS K (tAsg te<|gSub (tVar n) ti rSetU) Δ ⟨nx,rt,bk,ct,ro⟩:=Ztg (h.mono λd Δ1 ⟨⟨x,ds,h1,h2⟩,h3⟩=>⟨⟨x,_,h1,h2⟩,h3⟩)
theorem Zd5 {wi:TI}{t:TG}{tb:TS}(h:JI K wi Δ λds Δ1=>∃I:Nat->Evt->Prop,I 0 Δ1/\(∀i d Δ2,ds[i]?=some d->I i Δ2->JG K t d Δ2 λΔ3=>JS K tb Δ3 ⟨I<|i+1,rt,nx,I<|i+1,ro⟩)/\∀Δ2,I ds.length Δ2->nx Δ2) :
  JS K (tFor wi t tb) Δ ⟨nx,rt,bk,ct,ro⟩:=Zvw h
theorem Zln {c:TT}{tb:TS}(I:Nat->Evt->Prop) (h0:∃m,I m Δ) (ht:∀m Δ1,I m Δ1->JT K c Δ1 λb Δ2=>if b=true then JS K tb Δ2 ⟨λΔ3=>∃m',m'<m/\I m' Δ3,rt,nx,λΔ3=>∃m',m'<m/\I m' Δ3,ro⟩ else nx Δ2) :
  JS K (tWhile c tb) Δ ⟨nx,rt,bk,ct,ro⟩:=Zqs I h0 ht
end
theorem Zn0 {α β:Type}{f:α -> β}{xs:List α}{i:Int}(h0:0<=i) (h1:i<(xs.length:Int)):∃c,xs[i.toNat]?=some c/\atI (xs.map f) i=some (f c):=by
 have hk:i.toNat<xs.length:=by omega
 have e:i=((i.toNat:Nat):Int):=by omega
 have q:xs[i.toNat]?=some xs[i.toNat]:=Wab hk;generalize xs[i.toNat]=c at q;refine⟨c,q,?_⟩;have z:atI (xs.map f) ((i.toNat:Nat):Int)=some (f c):=Zcy (by rw[Wad,q];rfl);rw[<- e]at z;exact z
theorem Zom:bootBuiltins "abs" = some (.builtin "abs"):=by decide +kernel
theorem Za5:bootBuiltins "len" = some (.builtin "len"):=by decide +kernel
theorem Zj3:bootBuiltins "min" = some (.builtin "min"):=by decide +kernel
theorem Zsl:bootBuiltins "max" = some (.builtin "max"):=by decide +kernel
theorem Za4:bootBuiltins "isinstance" = some (.builtin "isinstance"):=by decide +kernel
theorem Zgl:bootBuiltins "all" = some (.builtin "all"):=by decide +kernel
theorem Zpp:bootBuiltins "sum" = some (.builtin "sum"):=by decide +kernel
theorem Zc6:bootBuiltins "sorted" = some (.builtin "sorted"):=by decide +kernel
theorem Za9:bootBuiltins "tuple" = some (.type "tuple"):=by decide +kernel
theorem Zfw:bootBuiltins "list" = some (.type "list"):=by decide +kernel
theorem Zu1:bootBuiltins "set" = some (.type "set"):=by decide +kernel
theorem Zsj:bootBuiltins "int" = some (.type "int"):=by decide +kernel
theorem Zm6:bootBuiltins "bool" = some (.type "bool"):=by decide +kernel
theorem Zu3:bootBuiltins "zip" = some (.type "zip"):=by decide +kernel
structure Callee (P:Program) (w:World) (K:W.Frag) (mg:Str->Option Value) (base:Heap) (k:Nat) (x:Str) (ps:List Str) (sp:Sp):Prop where
 ex:∃(f:Addr) (fd:FuncData),FnOk P w K mg base CX0 k f fd ps sp/\Binds K fd ps []/\W.keepIn K (.ref f)=true/\mg x=some (.ref f)
section
variable {X:Cx}{k:Nat}{x:Str}{ps:List Str}{sp:Sp}{e:Expr}{es:List Expr}{t:TA}{p pos:Pos}
theorem Zav (C:Callee X.prog X.w X.K X.mg X.base k x ps sp) (hr:Room k X.A) (ha:PA X (e::es) t) (hg:Gl X x:=by rfl) (hdb:(x == ("__debug__":Str))=false:=by decide)
  (he:starEach (e::es) X.env=(false,eval e X.env)::starEach es X.env:=by rfl) (hpl:(backTo pos<|starEach es X.env).any (·.1)=false:=by rfl):PE X (.Call (.Name x p) (e::es) [] pos) (tCall sp [] E0 t):=by
 obtain⟨f,fd,F,b,kp,m⟩:=C.ex;exact Zoq F hr hg m kp b .nil pass0 ha hdb he hpl
end
def fixD (sel:List Nat) (Δ:Evt):Evt:=sel.map λi=>(Δ[i]?).getD .any
theorem Zej {n:Nat}{sel:List Nat}{ts Δ:Evt}(ht:ts.length=n):backD n sel (ts++fixD sel Δ) 0 Δ = Δ:=by
 apply Wb3;intro i;rw[Zdk];cases q:Δ[i]? with
 |none=>rfl
 |some x=>
  show some (backAt n sel (ts++fixD sel Δ) (0+i) x)=some x;congr 1;rw[Wdz];have key:∀j,sel.idxOf? i=some j->(ts++fixD sel Δ)[n+j]?=some x:=λj hj=>by
   rw[Wbc (by omega),ht,Nat.add_sub_cancel_left];unfold fixD;rw[Wad,Zfl hj];show some ((Δ[i]?).getD .any)=_;rw[q];rfl
  unfold backAt;cases x with
  |any=>rfl
  |val d=>rfl
  |own o=>
   dsimp only;cases e:sel.idxOf? i with
   |none=>rfl
   |some j=>dsimp only;rw[key j e]
  |bor o=>
   dsimp only;cases e:sel.idxOf? i with
   |none=>rfl
   |some j=>dsimp only;rw[key j e]
  |ownA a o=>
   dsimp only;cases e:sel.idxOf? i with
   |none=>rfl
   |some j=>dsimp only;rw[key j e]
section
variable {K:W.Frag}{Δ:Evt}{P:D->Evt->Prop}
theorem Za7 {sel:List Nat}{wi:TI}{tc:TT}{te:TE}(hsel:sel.Nodup)
  (h:JI K wi Δ λds Δ1=>ds.length<sizeLine/\∃(p:D->Bool) (f:D->D),
   (∀(i:Nat) d,ds[i]?=some d->JT K tc (.val d::fixD sel Δ1) λb Δ4=>b=p d/\if b=true then JE K te Δ4 λe Δ5=>e=f d/\∃x,Δ5=x::fixD sel Δ1 else ∃x,Δ4=x::fixD sel Δ1) ∧
   P (.lst ((ds.filter p).map f)) Δ1):JE K (tComp 1 sel wi (gName 0) tc te) Δ P:=by
 refine Zll hsel λg G H σ R k c=>h g G H σ R k λJ ds G' H' Δ' k' s' it ⟨z,p,f,ht,he⟩=>c J ds G' H' Δ' k' s' it ⟨z,fixD sel Δ',p,f,rfl,λi d ts hd hts=>?_,?_⟩
 ·refine Zg8 (by decide) ?_
  obtain⟨x,rfl⟩:∃x,ts=[x]:=by
   match ts,hts with
   |[x],_=>exact⟨x,rfl⟩
  intro g G H σ Q k c;refine ht i d hd g G H σ Q k λb G1 H1 Δ1 k1 s1 ⟨e1,q⟩=>c b G1 H1 Δ1 k1 s1 ⟨e1,?_⟩;cases b with
  |true=>
   rw[if_pos rfl]at q ⊢;exact q.mono λe Δ5 ⟨e2,x,e3⟩=>⟨e2,[x],rfl,e3⟩
  |false=>
   rw[if_neg Wam]at q ⊢;obtain⟨x,e3⟩:=q;exact⟨[x],rfl,e3⟩
 ·rw[Zej (by simp)];exact he
theorem Zeo {sel:List Nat}{wi:TI}{tc:TT}{te:TE}{Po:OD->Evt->Prop}(hsel:sel.Nodup)
  (h:JI K wi Δ λds Δ1=>ds.length<sizeLine/\∃(p:D->Bool) (f:D->D),
   (∀(i:Nat) d,ds[i]?=some d->JT K tc (.val d::fixD sel Δ1) λb Δ4=>b=p d/\if b=true then JE K te Δ4 λe Δ5=>e=f d/\∃x,Δ5=x::fixD sel Δ1 else ∃x,Δ4=x::fixD sel Δ1) ∧
   Po (.lst ((ds.filter p).map f)) Δ1):JO K (tComp 1 sel wi (gName 0) tc te) Δ Po:=by
 refine Znu hsel λg G H σ R k c=>h g G H σ R k λJ ds G' H' Δ' k' s' it ⟨z,p,f,ht,he⟩=>c J ds G' H' Δ' k' s' it ⟨z,λi ys Δ=>ys=((ds.take i).filter p).map f/\∃x,Δ = x::fixD sel Δ',⟨by simp,.any,rfl⟩,?_,?_⟩
 ·rintro i d ys Δ2 hd ⟨rfl,x,rfl⟩
  have tk:ds.take (i+1)=ds.take i++[d]:=by
   rw[Wbi,hd];rfl
  refine Zg8 (by decide) ?_;intro g G H σ Q k c;refine ht i d hd g G H σ Q k λb G1 H1 Δ1 k1 s1 ⟨e1,q⟩=>c b G1 H1 Δ1 k1 s1 ?_;cases b with
  |true=>
   rw[if_pos rfl]at q ⊢;refine q.mono λe Δ5 ⟨e2,x,e3⟩=>⟨?_,x,e3⟩;rw[tk,Wb9,War,Wbt,<- e1,e2];rfl
  |false=>
   rw[if_neg Wam]at q ⊢;obtain⟨x,e3⟩:=q;refine⟨?_,x,e3⟩;rw[tk,Wb9,War,Wbt,<- e1];simp
 ·rintro ys Δ2 ⟨rfl,x,rfl⟩
  rw[Wbo,show (x::fixD sel Δ')=[x]++fixD sel Δ' from rfl,Zej (by simp)];exact he
theorem Zio {sel:List Nat}{wi:TI}{tc:TT}{te:TE}(hsel:sel.Nodup)
  (h:JI K wi Δ λds Δ1=>ds.length<sizeLine/\∃(p:D->Bool) (f:D->D),
   (∀(i:Nat) d,ds[i]?=some d->∃a b,d=.tup [a,b]/\JT K tc (.val a::.val b::fixD sel Δ1) λt Δ4=>t=p d/\if t=true then JE K te Δ4 λe Δ5=>e=f d/\∃x y,Δ5=x::y::fixD sel Δ1 else ∃x y,Δ4=x::y::fixD sel Δ1) ∧
   P (.lst ((ds.filter p).map f)) Δ1):JE K (tComp 2 sel wi (gTup K 2 (gCons (gName 0) (gCons (gName 1) gNil))) tc te) Δ P:=by
 refine Zll hsel λg G H σ R k c=>h g G H σ R k λJ ds G' H' Δ' k' s' it ⟨z,p,f,ht,he⟩=>c J ds G' H' Δ' k' s' it ⟨z,fixD sel Δ',p,f,rfl,λi d ts hd hts=>?_,?_⟩
 ·obtain⟨a,b,rfl,hj⟩:=ht i d hd
  refine Zug rfl<|Zjw<|Zg8 (by decide)<|Zjw<|Zg8 (by decide)<|Zqk ?_;obtain⟨x,y,rfl⟩:∃x y,ts=[x,y]:=by
   match ts,hts with
   |[x,y],_=>exact⟨x,y,rfl⟩
  intro g G H σ Q k c;refine hj g G H σ Q k λb G1 H1 Δ1 k1 s1 ⟨e1,q⟩=>c b G1 H1 Δ1 k1 s1 ⟨e1,?_⟩;cases b with
  |true=>
   rw[if_pos rfl]at q ⊢;exact q.mono λe Δ5 ⟨e2,x,y,e3⟩=>⟨e2,[x,y],rfl,e3⟩
  |false=>
   rw[if_neg Wam]at q ⊢;obtain⟨x,y,e3⟩:=q;exact⟨[x,y],rfl,e3⟩
 ·rw[Zej (by simp)];exact he
end
def tGhost (base:Nat) (t:TS):TS:=λE σ H=>t { E with nx:=λσ' H'=>∃σ2:St,σ2.length = σ'.length/\(∀i,i<base -> σ2[i]? = σ'[i]?)/\E.nx σ2 H' } σ H
theorem Zri {X:Cx}{st:Stmt}{t:TS}(base:Nat) (hv:∀x∈X.N.drop base,X.env.scope.names.lookup x=none) (h:PS X st t):PS X st (tGhost base t):=by
 intro pins s σ H E I hw;refine thn (h pins s σ H _ I hw) λf s1 q=>?_;cases f with
 |next=>
  obtain⟨σ',H',I',σ2,hl,hs,q⟩:=q;refine⟨σ2,H',⟨I'.ok,I'.os,I'.bare,I'.base,?_,I'.cell,I'.free,I'.freeC,I'.pin,I'.hok,hl.trans I'.len⟩,q⟩;obtain⟨m,hn,hl'⟩:=I'.loc;refine⟨m,hn,λi x v e1 e2 e3=>?_⟩;by_cases hi:i<base
  ·rw[hs i hi]at e2;exact hl' i x v e1 e2 e3
  ·have hm:x∈X.N.drop base:=by
    refine Wai (i:=i-base) ?_;rw[List.getElem?_drop,show base+(i-base)=i by omega];exact e1
   have z:=hv x hm;rcases e3 with w|w|w <;> (rw[z]at w;cases w)
 |ret v=>exact q
 |brk=>exact q
 |cont=>exact q
def Nest (K:W.Frag) (g:Gm) (G H:Hp) (σ:St) (Δ:Evt) (cs:List (Addr × HO)) (ods:List OD):Prop:=
 (cs.map (·.1)).Nodup/\Paired (λ(c:Addr × HO) (od:OD)=>OwnRep K G c.2 od) cs ods/\∀c∈cs,H c.1=some c.2/\G c.1=none/\g.Hz c.1=none/\g.Xo c.1=none/\∀(i:Nat) x od',Δ[i]?=some x->x.od=some od' -> σ[i]?≠some (some (.ref c.1))
def JN (K:W.Frag) (t:TE) (Δ:Evt) (P:List OD->Evt->Prop):Prop:=
 ∀g G H σ Q,Ok K g G H σ Δ -> (∀acc cs ods G' H' Δ',Ok K g G' H' σ Δ' -> Same G G' -> Rep K G' (.ref acc) (.lst (cs.map λ(c:Addr × HO)=>D.adr c.1))->g.Hz acc=none->Nest K g G' H' σ Δ' cs ods->P ods Δ' -> Q (.ref acc) H')->t σ H Q
section
variable {K:W.Frag}{Δ:Evt}
def cellAt (cs:List (Addr × HO)) (b:Addr):Option HO:=(cs.find? λc=>decide (c.1=b)).map (·.2)
theorem Ze4 {cs:List (Addr × HO)}{b:Addr}:cellAt cs b=none ↔ ∀c∈cs,c.1≠b:=by
 unfold cellAt;rw[Option.map_eq_none_iff,List.find?_eq_none];constructor
 ·intro h c hc e;exact h c hc<|decide_eq_true e
 ·intro h c hc e;exact h c hc<|of_decide_eq_true e
theorem Zhs {cs:List (Addr × HO)}(nd:(cs.map (·.1)).Nodup) {c:Addr × HO}(hc:c∈cs):cellAt cs c.1=some c.2:=by
 induction cs with
 |nil=>cases hc
 |cons d r ih=>
  rw[Wa1,Wcg]at nd;unfold cellAt;rcases Wap.mp hc with e|hc
  ·subst e;simp
  ·have hne:d.1≠c.1:=λe=>nd.1 (by rw[e];exact Was.mpr ⟨c,hc,rfl⟩)
   rw[Wcc (by simpa using hne)];exact ih nd.2 hc
open Classical in
noncomputable def asideN (g:Gm) (sel:List Nat) (σ:St) (Δ:Evt) (H:Hp) (acc:Addr) (cs:List (Addr × HO)):Hp:=λb=>
 if b=acc then some (.lst (cs.map λc=>V.ref c.1)) else match cellAt cs b with
  |some o=>some o
  |none=>if ∃(i:Nat) (x:Slot) (od:OD),Δ[i]?=some x/\x.od=some od/\i ∉ sel /\ σ[i]?=some (some (.ref b)) then H b else g.Xo b
theorem Zdm {g:Gm}{sel:List Nat}{σ:St}{Δ:Evt}{H:Hp}{acc:Addr}{cs:List (Addr × HO)}:asideN g sel σ Δ H acc cs acc=some (.lst (cs.map λc=>V.ref c.1)):=by unfold asideN;rw[if_pos rfl]
theorem Zc2 {g:Gm}{sel:List Nat}{σ:St}{Δ:Evt}{H:Hp}{acc b:Addr}{o:HO}{cs:List (Addr × HO)}(hb:b≠acc) (e:cellAt cs b=some o):asideN g sel σ Δ H acc cs b=some o:=by unfold asideN;rw[if_neg hb,e]
theorem Zdq {g:Gm}{sel:List Nat}{σ:St}{Δ:Evt}{H:Hp}{acc b:Addr}{cs:List (Addr × HO)}(hb:b≠acc) (e:cellAt cs b=none) (hx:∃(i:Nat) (x:Slot) (od:OD),Δ[i]?=some x/\x.od=some od/\i ∉ sel /\ σ[i]?=some (some (.ref b))):asideN g sel σ Δ H acc cs b=H b:=by
 unfold asideN;rw[if_neg hb,e];exact if_pos hx
theorem Zc4 {g:Gm}{sel:List Nat}{σ:St}{Δ:Evt}{H:Hp}{acc b:Addr}{cs:List (Addr × HO)}(hb:b≠acc) (e:cellAt cs b=none) (hx:¬ ∃(i:Nat) (x:Slot) (od:OD),Δ[i]?=some x/\x.od=some od/\i ∉ sel /\ σ[i]?=some (some (.ref b))):asideN g sel σ Δ H acc cs b=g.Xo b:=by
 unfold asideN;rw[if_neg hb,e];exact if_neg hx
theorem Zs4 {n:Nat}{sel:List Nat}{wi:TI}{t:TG}{tc:TT}{te:TE}{P:List OD->Evt->Prop}(hsel:sel.Nodup)
  (h:JI K wi Δ λds Δ1=>ds.length<sizeLine/\∃I:Nat->List OD->Evt->Prop,I 0 [] (compD n sel Δ1) ∧
   (∀i d ys Δ2,ds[i]?=some d->I i ys Δ2->JGn K n t d Δ2 λΔ3=>JT K tc Δ3 λb Δ4=>if b=true then JO K te Δ4 λe Δ5=>I (i+1) (ys++[e]) Δ5 else I (i+1) ys Δ4) ∧
   ∀ys Δ2,I ds.length ys Δ2->P ys (backD n sel Δ2 0 Δ1)):JN K (tComp n sel wi t tc te) Δ P:=λg G H σ Q k c=>
 h g G H σ _ k λJ ds G1 H1 Δ1 k1 s1 it ⟨hz,I,h0,ht,he⟩ acc hacc=>by
  have nacc:∀(i:Nat) x od,Δ1[i]?=some x->x.od=some od -> σ[i]?≠some (some (.ref acc)):=λi x od e1 e2 e3=>by
   obtain⟨a,o,w1,w2,_⟩:=k1.own i x od e1 e2;rw[e3]at w1;cases w1;rw[hacc]at w2;cases w2
  let Wd:Nat->St->Hp->Prop:=λi σ' H'=>i<=ds.length/\(∀j,n<=j -> σ'[j]?=(compSt n sel σ)[j]?)/\∃G ys cs Δi,cs.length<=i/\(cs.map (·.1)).Nodup/\(∀c∈cs,c.1≠acc/\g.Hz c.1=none/\g.Xo c.1=none/\∀(i:Nat) x od,Δ1[i]?=some x->x.od=some od->i ∉ sel -> σ[i]?≠some (some (.ref c.1)))/\Paired (λ(c:Addr × HO) (od:OD)=>OwnRep K G c.2 od) cs ys ∧
   Ok K ⟨g.B,G1,g.Hz,asideN g sel σ Δ1 H1 acc cs⟩ G H' σ' Δi/\I i ys Δi
  refine⟨λi m σ' H'=>m=ds.length-i/\Wd i σ' H',⟨ds.length,by simp,Wbx _,λ_ _=>rfl,G1,[],[],compD n sel Δ1,Wak _,Wd2,λc hc=>(nomatch hc),.nil,?_,h0⟩,?_⟩
  ·refine Zhl hsel k1 hacc λb o e=>?_
   have e:asideN g sel σ Δ1 H1 acc [] b=some o:=e;by_cases hb:b=acc
   ·subst hb;rw[Zdm]at e;cases e;exact .inl ⟨rfl,rfl⟩
   ·by_cases hx:∃(i:Nat) (x:Slot) (od:OD),Δ1[i]?=some x/\x.od=some od/\i ∉ sel /\ σ[i]?=some (some (.ref b))
    ·rw[Zdq hb rfl hx]at e;exact .inr ⟨hb,.inl ⟨hx,e⟩⟩
    ·rw[Zc4 hb rfl hx]at e;exact .inr ⟨hb,.inr e⟩
  ·rintro i m σ2 H2 ⟨rfl,hi,hσ,G2,ys,cs,Δ2,hy,nd,hcs,ry,k2,h2⟩
   have s2:Same G1 G2:=k2.sub;obtain⟨stop,go⟩:=it G2 H2 s2 k2.live;by_cases hlt:i<ds.length
   ·obtain⟨g1,g2⟩:=go i _ (Wab hlt)
    refine .inr ⟨g1,λσ' H'=>Wd (i+1) σ' H',λσ' H' p'=>⟨ds.length-(i+1),by omega,rfl,p'⟩,λx H3 y=>?_⟩;obtain⟨G3,a1,a2,a3,a4⟩:=g2 x H3 y;have k3:=k2.grow a1 a2 a3;have hG3:∀b o,G3 b=some o->(g.Hz b=none\/G1 b=some o):=λb o q=>(k3.frz b o q).2;have k3':Ok K ⟨g.B,G3,g.Hz,asideN g sel σ Δ1 H1 acc cs⟩ G3 H3 σ2 Δ2:=⟨k3.same,k3.lent,Same.refl _,λb o q=>⟨(k3.frz b o q).1,.inr q⟩,k3.ext,k3.len,k3.val,k3.own,k3.dis⟩;have ry3:Paired (λ(c:Addr × HO) (od:OD)=>OwnRep K G3 c.2 od) cs ys:=Paired.mapP ry λ_ _ z=>z.mono a1;have s13:Same G1 G3:=s2.trans a1;refine ht i _ ys Δ2 (Wab hlt) h2 ⟨g.B,G3,g.Hz,asideN g sel σ Δ1 H1 acc cs⟩ G3 H3 σ2 x _ k3' a4 λσ4 G4 H4 Δ4 k4 s4 e4 p4=>?_;have hσ4:∀j,n<=j -> σ4[j]?=(compSt n sel σ)[j]?:=λj hj=>(e4 j hj).trans (hσ j hj);refine p4 _ G4 H4 σ4 _ k4 λb G5 H5 Δ5 k5 s5 p5=>?_;cases b with
    |false=>exact⟨hlt,hσ4,G5,ys,cs,Δ5,by omega,nd,hcs,Paired.mapP ry3 λ_ _ z=>z.mono (s4.trans s5),k5.base s13 hG3,p5⟩
    |true=>
     refine(show JO K te Δ5 _ from p5) _ G5 H5 σ4 _ k5 λa od G6 H6 Δ6 k6 s6 pd p6=>?_;have ry6:Paired (λ(c:Addr × HO) (od:OD)=>OwnRep K G6 c.2 od) cs ys:=Paired.mapP ry3 λ_ _ z=>z.mono<|s4.trans<|s5.trans s6;obtain⟨b1,b2,b3⟩:=k6.ext acc _ Zdm;obtain⟨oa,d1,d2,d3,d4,d5,d6⟩:=pd;have d5:asideN g sel σ Δ1 H1 acc cs a=none:=d5;have hane:a≠acc:=by intro z;subst z;rw[Zdm]at d5;cases d5
     have hac:cellAt cs a=none:=by
      cases q:cellAt cs a with
      |none=>rfl
      |some o=>rw[Zc2 hane q]at d5;cases d5
     have hax:∀(i:Nat) x od,Δ1[i]?=some x->x.od=some od->i ∉ sel -> σ[i]?≠some (some (.ref a)):=λi x od e1 e2 e3 e4=>by
      rw[Zdq hane hac ⟨i,x,od,e1,e2,e3,e4⟩]at d5;obtain⟨a',o',w1,w2,_⟩:=k1.own i x od e1 e2;rw[e4]at w1;cases w1;rw[d5]at w2;cases w2
     have hagx:g.Xo a=none:=by
      rw[Zc4 hane hac (λ⟨i,x,od,e1,e2,e3,e4⟩=>hax i x od e1 e2 e3 e4)]at d5;exact d5
     have hnm:=Ze4.mp hac;refine⟨cs.map λc=>V.ref c.1,b1,by rw[Waa];omega,hlt,hσ4,G6,ys++[od],cs++[(a,oa)],Δ6,by rw[Waj,Wcq];omega,?_,λc hc=>?_,Paired.snoc ry6 d2,?_,p6⟩
     ·rw[War]
      refine Wcs.mpr ⟨nd,by simp,λx hx y hy=>?_⟩;rw[List.map_singleton,Wbs]at hy;subst hy;obtain⟨c,hc,rfl⟩:=Was.mp hx;exact hnm c hc
     ·rcases Wbp.mp hc with hc|hc
      ·exact hcs c hc
      ·rw[Wbs.mp hc];exact⟨hane,d4,hagx,hax⟩
     ·have k7:=k6.base s13 hG3
      have nd':((cs++[(a,oa)]).map (·.1)).Nodup:=by
       rw[War];refine Wcs.mpr ⟨nd,by simp,λx hx y hy=>?_⟩;rw[List.map_singleton,Wbs]at hy;subst hy;obtain⟨c,hc,rfl⟩:=Was.mp hx;exact hnm c hc
      have er:(cs++[(a,oa)]).map (λc=>V.ref c.1)=(cs.map λc=>V.ref c.1)++[V.ref a]:=by simp
      have oldH:∀b o,b≠acc->H6 b=some o->(upd H6 acc (.lst ((cs.map λc=>V.ref c.1)++[V.ref a]))) b=some o:=λb o hb e=>by rw[Zan hb];exact e
      refine⟨λb o hb e=>?_,λb hb=>?_,k7.sub,λb o e=>?_,λb o e=>?_,k7.len,k7.val,λi x od e1 e2=>?_,k7.dis⟩
      ·have hne:b≠acc:=by
        intro z;subst z;have e:g.Hz b=some o:=e;rw[k1.there hacc]at e;cases e
       exact oldH b o hne<|k7.same b o hb e
      ·by_cases hne:b=acc
       ·subst hne;rw[Zat];intro z;cases z
       ·rw[Zan hne];exact k7.lent b hb
      ·have hne:b≠acc:=by intro z;subst z;rw[b2]at e;cases e
       exact⟨oldH b o hne (k7.frz b o e).1,(k7.frz b o e).2⟩
      ·have e:asideN g sel σ Δ1 H1 acc (cs++[(a,oa)]) b=some o:=e
       by_cases hne:b=acc
       ·subst hne
        rw[Zdm,er]at e;cases e;exact⟨Zat,b2,b3⟩
       ·by_cases hba:b=a
        ·subst hba
         rw[Zc2 hne (Zhs nd' (c:=(b,oa))<|Wa0 _<|Wbs.mpr rfl)]at e;cases e;exact⟨oldH b _ hne d1,d3,d6⟩
        ·have ec:cellAt (cs++[(a,oa)]) b=cellAt cs b:=by
          unfold cellAt;rw[Wea];cases (cs.find? λc=>decide (c.1=b)) with
          |some c=>rfl
          |none=>
           rw[Wcc (by simpa using Ne.symm hba)];rfl
         have e':asideN g sel σ Δ1 H1 acc cs b=some o:=by
          cases q:cellAt cs b with
          |some o'=>rw[Zc2 hne (ec.trans q)]at e;rw[Zc2 hne q];exact e
          |none=>
           by_cases hx:∃(i:Nat) (x:Slot) (od:OD),Δ1[i]?=some x/\x.od=some od/\i ∉ sel /\ σ[i]?=some (some (.ref b))
           ·rw[Zdq hne (ec.trans q) hx]at e;rw[Zdq hne q hx];exact e
           ·rw[Zc4 hne (ec.trans q) hx]at e;rw[Zc4 hne q hx];exact e
         obtain⟨w1,w2,w3⟩:=k7.ext b o e';exact⟨oldH b o hne w1,w2,w3⟩
      ·obtain⟨a',o,w1,w2,w3,w4,w5⟩:=k7.own i x od e1 e2
       have hne:a'≠acc:=by intro z;subst z;exact b3 i x od e1 e2 w1
       exact⟨a',o,w1,oldH a' o hne w2,w3,w4,w5⟩
   ·have e:i=ds.length:=by omega
    subst e;refine .inl ⟨stop,?_⟩;obtain⟨b1,b2,b3⟩:=k2.ext acc _ Zdm;have src:=Zim (Δ1:=Δ1) (Δ2:=Δ2) hσ;have k9:Ok K g G2 H2 σ (backD n sel Δ2 0 Δ1):=Zgo k1 hacc k2 hσ (λb o hb hx e=>by
      show asideN g sel σ Δ1 H1 acc cs b=_;rw[Zdq hb (Ze4.mpr λc hc z=>?_) hx]
      ·exact e
      ·obtain⟨i0,x0,od0,f1,f2,f3,f4⟩:=hx
       exact(hcs c hc).2.2.2 i0 x0 od0 f1 f2 f3 (by rw[z];exact f4)) (λb o hb hx e=>by
      show asideN g sel σ Δ1 H1 acc cs b=_;rw[Zc4 hb (Ze4.mpr λc hc z=>?_) hx]
      ·exact e
      ·have:=(hcs c hc).2.2.1;rw[z,e]at this;cases this)
    -- the outer list is frozen
    have nslot:∀(i:Nat) y od,(backD n sel Δ2 0 Δ1)[i]?=some y->y.od=some od -> σ[i]?≠some (some (.ref acc)):=λi y od e1 e2=>by
     obtain⟨x',od1,f1,f2,_⟩:=src i y od e1 e2;exact nacc i x' od1 f1 f2
    have refs:∀{G:Hp}(l:List (Addr × HO)),Reps K G (l.map λc=>V.ref c.1) (l.map λc=>D.adr c.1):=λ{G} l=>by
     induction l with
     |nil=>exact .nil
     |cons c r ih=>exact .cons (.adr _) ih
    have gX:g.Xo acc=none:=by
     cases q:g.Xo acc with
     |none=>rfl
     |some u=>have z:=(k1.ext acc u q).1;rw[hacc]at z;cases z
    obtain⟨kf,sf,rf⟩:=k9.freeze (a:=acc) (ds:=cs.map λ(c:Addr × HO)=>D.adr c.1) (vs:=cs.map λ(c:Addr × HO)=>V.ref c.1) ⟨_,b1,(show Reps K G2 (cs.map λ(c:Addr × HO)=>V.ref c.1) (cs.map λ(c:Addr × HO)=>D.adr c.1) from refs cs),b2,k1.there hacc,gX,nslot⟩ b1;refine c acc cs ys _ H2 _ kf (s1.trans<|s2.trans sf) rf (k1.there hacc) ⟨nd,Paired.mapP ry λ_ _ z=>z.mono sf,λcc hc=>?_⟩<|he ys Δ2 h2;obtain⟨f1,f2,f3,f4⟩:=hcs cc hc;obtain⟨u1,u2,u3⟩:=k2.ext cc.1 cc.2<|Zc2 f1<|Zhs nd hc;refine⟨u1,by rw[Zan f1];exact u2,f2,f3,λi y od e1 e2 e3=>?_⟩;obtain⟨x,od',w1,w2,w3⟩:=src i y od e1 e2;rcases w3 with ⟨w3,w4⟩|⟨j,w3,w4,w5⟩
    ·exact f4 i x od' w1 w2 w4 e3
    ·exact u3 (n+j) y od w4 e2 (by rw[w5,e3];rfl)
def putN:Nat->List (Addr × OD)->Evt->Evt
 |_,[],Δ=>Δ
 |b,c::r,Δ=>putN (b+1) r (Δ.set b (.ownA c.1 c.2))
def putS:Nat->List Addr->St->St
 |_,[],σ=>σ
 |b,a::r,σ=>putS (b+1) r (σ.set b (some (.ref a)))
theorem Zlx:∀(as:List Addr) (b:Nat) (σ:St),(putS b as σ).length = σ.length
 |[],_,_=>rfl
 |a::r,b,σ=>by rw[putS,Zlx r (b+1),Wcu]
theorem Zhi:∀(as:List Addr) (b:Nat) (σ:St) (i:Nat),i<b->(putS b as σ)[i]? = σ[i]?
 |[],_,_,_,_=>rfl
 |a::r,b,σ,i,h=>by rw[putS,Zhi r (b+1) _ i (by omega),Waw (by omega)]
theorem Ok.setOwnA {g:Gm}{G H:Hp}{σ:St}(k:Ok K g G H σ Δ) {a:Addr}{od:OD}{i:Nat}(hi:i < Δ.length) (p:Pend K g G H σ Δ a od):Ok K g G H (σ.set i<|some (.ref a)) (Δ.set i (.ownA a od)):=by
 have k1:=k.setOwn hi p;obtain⟨o,p1,p2,p3,p4,p5,p6⟩:=p;have hs:i < σ.length:=by rw[<- k.len];exact hi
 have old:∀(j:Nat) x,j≠i->(Δ.set i (.ownA a od))[j]?=some x->(Δ.set i (.own od))[j]?=some x:=λj x hj e=>by
  rw[Waw (Ne.symm hj)]at e ⊢;exact e
 have cv:∀(j:Nat) x od',(Δ.set i (.ownA a od))[j]?=some x->x.od=some od' -> ∃y,(Δ.set i (.own od))[j]?=some y/\y.od=some od':=λj x od' e1 e2=>by
  by_cases hj:j=i
  ·subst hj
   rw[Wau hi]at e1;cases e1;cases e2;exact⟨.own od,Wau hi,rfl⟩
  ·exact⟨x,old j x hj e1,e2⟩
 refine⟨k1.same,k1.lent,k1.sub,k1.frz,λb u e=>?_,by simp[k.len],λj d e=>?_,λj x od' e1 e2=>?_,λj l x y od1 od2 c e1 e2 e3 e4 e5 e6=>?_⟩
 ·obtain⟨h1,h2,h3⟩:=k1.ext b u e
  refine⟨h1,h2,λj x od' e1 e2=>?_⟩;obtain⟨y,f1,f2⟩:=cv j x od' e1 e2;exact h3 j y od' f1 f2
 ·by_cases hj:j=i
  ·subst hj
   rw[Wau hi]at e;cases e
  ·exact k1.val j d<|old j _ hj e
 ·by_cases hj:j=i
  ·subst hj
   rw[Wau hi]at e1;cases e1;cases e2;exact⟨a,o,Wau hs,p1,p2,p3,rfl,p4⟩
  ·exact k1.own j x od' (old j x hj e1) e2
 ·obtain⟨x',f1,f2⟩:=cv j x od1 e1 e2
  obtain⟨y',f3,f4⟩:=cv l y od2 e3 e4;exact k1.dis j l x' y' od1 od2 c f1 f2 f3 f4 e5 e6
theorem Ok.putN {g:Gm}{G H:Hp}:∀(cs:List (Addr × HO)) (ods:List OD) (b:Nat) (σ:St) (Δ:Evt),Ok K g G H σ Δ -> b+ods.length <= Δ.length->Nest K g G H σ Δ cs ods →
  Ok K g G H (putS b (cs.map (·.1)) σ) (L2.putN b ((cs.map (·.1)).zip ods) Δ)
 |[],[],_,_,_,k,_,_=>k
 |[],_::_,_,_,_,_,_,n=>by cases n.2.1
 |_::_,[],_,_,_,_,_,n=>by cases n.2.1
 |c::cs,od::ods,b,σ,Δ,k,hl,⟨nd,pr,al⟩=>by
  cases pr with
  |cons r t=>
   obtain⟨h1,h2,h3,h4,h5⟩:=al c Wat;rw[Wa1,Wcg]at nd;have hb:b < Δ.length:=by rw[Wan]at hl;omega
   have k1:=k.setOwnA hb ⟨c.2,h1,r,h2,h3,h4,h5⟩;refine Ok.putN cs ods (b+1) _ _ k1 (by rw[Wcu];rw[Wan]at hl;omega) ⟨nd.2,t,λd hd=>?_⟩;obtain⟨f1,f2,f3,f4,f5⟩:=al d<|Way _ hd;have hne:d.1≠c.1:=λe=>nd.1 (by rw[<- e];exact Was.mpr ⟨d,hd,rfl⟩);refine⟨f1,f2,f3,f4,λj x od' e1 e2=>?_⟩;by_cases hj:j=b
   ·subst hj
    rw[Wau (by rw[<- k.len];exact hb)];intro z;have:c.1=d.1:=by
     have z1:=Wa6.inj<|Wa6.inj z;injection z1
    exact hne this.symm
   ·rw[Waw (Ne.symm hj)]at e1 ⊢
    exact f5 j x od' e1 e2
theorem Zpg:∀(l:List (Addr × OD)) (R T:Evt) (m:Nat),l.length<=m->L2.putN R.length l (R++Wae m Slot.any++T)=R++l.map (λc=>Slot.ownA c.1 c.2)++Wae (m-l.length) Slot.any++T
 |[],R,T,m,_=>by simp[L2.putN]
 |c::r,R,T,m,h=>by
  obtain⟨m',rfl⟩:∃m',m=m'+1:=⟨m-1,by rw[Wan]at h;omega⟩;have e:(R++Wae (m'+1) Slot.any++T).set R.length (.ownA c.1 c.2)=(R++[.ownA c.1 c.2])++Wae m' Slot.any++T:=by
   rw[Wcl];simp[List.set_append_right]
  rw[L2.putN,e];have:=Zpg r (R++[.ownA c.1 c.2]) T m' (by rw[Wan]at h;omega);rw[Waj,Wcq]at this;rw[this];simp
theorem Ztv {te:TE}{i base:Nat}{nx bk ct:Evt->Prop}{rt:D->Evt->Prop}{ro:OD->Evt->Prop}
  (h:JN K te Δ λods Δ1=>i<base/\base+ods.length <= Δ1.length/\∀as:List Addr,as.length=ods.length->as.Nodup->nx (L2.putN base (as.zip ods) (Δ1.set i (.val (.lst<|as.map D.adr))))) :
  JS K (tGhost base<|tAsg te<|gName i) Δ ⟨nx,rt,bk,ct,ro⟩:=λg G H σ E k c=>
 h g G H σ _ k λacc cs ods G1 H1 Δ1 k1 s1 rr _ nn hq_=>by
  obtain⟨hi,hb,p⟩:=hq_;have hl:cs.length=ods.length:=Paired.length nn.2.1;have e0:(cs.map λc=>D.adr c.1)=(cs.map (·.1)).map D.adr:=by rw[Wal];rfl
  have k2:=k1.setVal' i rr;have n2:Nest K g G1 H1 (σ.set i<|some (.ref acc)) (Δ1.set i (.val (.lst (cs.map λc=>D.adr c.1)))) cs ods:=by
   obtain⟨nd,pr,al⟩:=nn;refine⟨nd,pr,λd hd=>?_⟩;obtain⟨f1,f2,f3,f4,f5⟩:=al d hd;refine⟨f1,f2,f3,f4,λj x od' e1 e2=>?_⟩;by_cases hj:j=i
   ·subst hj
    by_cases hlt:j < Δ1.length
    ·rw[Wau hlt]at e1;cases e1;cases e2
    ·rw[Wbr (by rw[Wcu];omega)]at e1;cases e1
   ·rw[Waw (Ne.symm hj)]at e1 ⊢
    exact f5 j x od' e1 e2
  have k3:=Ok.putN cs ods base _ _ k2 (by rw[Wcu];exact hb) n2;refine⟨putS base (cs.map (·.1)) (σ.set i<|some (.ref acc)),Zlx _ _ _,λj hj=>Zhi _ _ _ j hj,?_⟩;rw[e0]at k3;exact c.nx _ G1 H1 _ k3<|p (cs.map (·.1)) (by rw[Waa,hl]) nn.1
theorem Zps {n j:Nat}{a:Addr}{ds:List D}{P:D->Evt->Prop}(hx:Δ[n]?=some (.val (.adr a))) (hj:Δ[j]?=some (.ownA a (.lst ds))) (p:P (.int ds.length) Δ):JE K (tCB (rLenU K)<|tCons (tVar n) tNil) Δ P:=λg G H σ Q k c=>by
 obtain⟨v,h1,h2⟩:=k.val n _ hx;cases h2;obtain⟨a',o,w1,w2,w3,w4,w5⟩:=k.own j _ _ hj rfl;obtain⟨rfl,_⟩:=w5;cases o with
 |lst vs=>
  have w3:Reps K G vs ds:=w3;refine⟨_,h1,.inl ⟨_,vs,rfl,.inl<|SqL.of w2,?_⟩⟩;rw[w3.length];exact c _ _ G H Δ k (Same.refl _) (.int _) p
 |_=>exact absurd w3 (λz=>z)
theorem Zuq {n:Nat}{t1 t2:TE}{a:Addr}{j0:Nat}{ds0:List D}{nx bk ct:Evt->Prop}{rt:D->Evt->Prop}{ro:OD->Evt->Prop}(hx:Δ[n]?=some (.val (.adr a))) (hj0:Δ[j0]?=some (.ownA a (.lst ds0)))
  (h:JE K t1 Δ λe1 Δ1=>JE K t2 Δ1 λe2 Δ2=>∃j i ds,e1=.int i /\ Δ2[j]?=some (.ownA a (.lst ds))/\ds.length<sizeLine /\ -(2 ^ 62)<=i/\i<2 ^ 62/\nx (Δ2.set j (.ownA a (.lst (ds.take (insI ds.length i)++e2::ds.drop (insI ds.length i)))))) :
  JS K (tDrop<|tBM K "list" rInsert (tVar n)<|tCons t1<|tCons t2 tNil) Δ ⟨nx,rt,bk,ct,ro⟩:=λg G H σ E k c=>by
 obtain⟨v,h1,h2⟩:=k.val n _ hx;cases h2;obtain⟨a',o,w1,w2,w3,w4,w5⟩:=k.own j0 _ _ hj0 rfl;obtain⟨rfl,_⟩:=w5;cases o with
 |lst vs0=>
  refine⟨_,h1,.inl ⟨rfl,_,SqL.of w2⟩,h g G H σ _ k λv1 e1 G1 H1 Δ1 k1 s1 r1 p1=>p1 g G1 H1 σ _ k1 λv2 e2 G2 H2 Δ2 k2 s2 r2 ⟨j,i,ds,q1,q2,q3,q4,q5,p⟩=>?_⟩;subst q1;cases r1.inv;obtain⟨a2,o2,u1,u2,u3,u4,u5⟩:=k2.own j _ _ q2 rfl;obtain⟨rfl,_⟩:=u5;cases o2 with
  |lst vs=>
   have u3:Reps K G2 vs ds:=u3;refine⟨_,vs,i,v2,rfl,rfl,u2,by rw[u3.length];exact q3,q4,q5,?_⟩;have k3:=k2.write q2 rfl u1 (show OwnRep K G2 (.lst (vs.take (insI vs.length i)++v2::vs.drop (insI vs.length i))) (.lst (ds.take (insI ds.length i)++e2::ds.drop (insI ds.length i))) from by
    rw[u3.length];exact(u3.take _).append (.cons r2 (u3.drop _)))
   exact c.nx σ G2 _ _ k3 p
  |_=>exact absurd u3 (λz=>z)
 |_=>exact absurd w3 (λz=>z)
theorem JS.conv {t:TS}{Δ':Evt}{P:Pst}(hc:∀g G H σ,Ok K g G H σ Δ -> ∃G',Same G G' /\ Ok K g G' H σ Δ') (h:JS K t Δ' P):JS K t Δ P:=λg G H σ E k c=>by
 obtain⟨G',s,k'⟩:=hc g G H σ k;exact h g G' H σ E k' c
theorem Ok.freezeA {g:Gm}{G H:Hp}{σ:St}(k:Ok K g G H σ Δ) {i:Nat}{a:Addr}{ds:List D}(h:Δ[i]?=some (.ownA a (.lst ds))):∃G',Same G G' /\ Ok K g G' H σ (Δ.set i .any)/\Rep K G' (.ref a) (.lst ds):=by
 obtain⟨a',o,w1,w2,w3,w4,w5⟩:=k.own i _ _ h rfl;obtain⟨rfl,w6⟩:=w5;cases o with
 |lst vs=>
  have pd:Pend K g G H σ (Δ.set i .any) a (.lst ds):=by
   refine⟨.lst vs,w2,w3,w4,w6,?_,λj x od' e1 e2 e3=>?_⟩
   ·cases q:g.Xo a with
    |none=>rfl
    |some u=>exact absurd w1 ((k.ext a u q).2.2 i _ _ h rfl)
   ·by_cases hj:j=i
    ·subst hj
     rw[Wcv]at e1;simp at e1;obtain⟨_,e1⟩:=e1;subst e1;cases e2
    ·rw[Waw (Ne.symm hj)]at e1
     exact hj<|k.dis j i x _ od' _ a e1 e2 h rfl e3 w1
  obtain⟨k2,sg,r⟩:=(k.drop i).freeze pd w2;exact⟨_,sg,k2,r⟩
 |_=>exact absurd w3 (λz=>z)
theorem Ok.freezeN {g:Gm}{H:Hp}{σ:St}:∀(cs:List (Addr × List D)) (R T:Evt) (G:Hp),Ok K g G H σ (R++cs.map (λc=>Slot.ownA c.1 (.lst c.2))++T) →
  ∃G',Same G G' /\ Ok K g G' H σ (R++Wae cs.length .any++T)/\∀c∈cs,Rep K G' (.ref c.1) (.lst c.2)
 |[],R,T,G,k=>⟨G,Same.refl _,by simpa using k,λc hc=>nomatch hc⟩
 |c::r,R,T,G,k=>by
  have hi:(R++(c::r).map (λc=>Slot.ownA c.1 (.lst c.2))++T)[R.length]?=some (.ownA c.1 (.lst c.2)):=by simp
  obtain⟨G1,s1,k1,r1⟩:=k.freezeA hi;have e:(R++(c::r).map (λc=>Slot.ownA c.1 (.lst c.2))++T).set R.length .any=(R++[.any])++r.map (λc=>Slot.ownA c.1 (.lst c.2))++T:=by
   simp[List.set_append_right]
  rw[e]at k1;obtain⟨G2,s2,k2,r2⟩:=Ok.freezeN r (R++[.any]) T G1 k1;refine⟨G2,s1.trans s2,?_,λd hd=>?_⟩
  ·have e2:(R++[Slot.any])++Wae r.length Slot.any++T=R++Wae (c::r).length Slot.any++T:=by
    rw[Wan,Wcl];simp
   rw[e2]at k2;exact k2
  ·rcases Wap.mp hd with e|hd
   ·subst e;exact r1.mono s2
   ·exact r2 d hd
theorem Ok.thaw {g:Gm}{G H:Hp}{σ:St}{cs:List (Addr × List D)}{R T:Evt}{i:Nat}(k:Ok K g G H σ (R++cs.map (λc=>Slot.ownA c.1 (.lst c.2))++T)) (hi:R[i]?=some (.val (.lst (cs.map λc=>D.adr c.1)))) :
  ∃G',Same G G' /\ Ok K g G' H σ (R.set i (.val (.lst (cs.map λc=>D.lst c.2)))++Wae cs.length .any++T):=by
 have hlt:i<R.length:=(Wag.mp hi).1;obtain⟨v,h1,h2⟩:=k.val i _ (by rw[Wbe,Wbm hlt];exact hi);obtain⟨G1,s1,k1,r1⟩:=Ok.freezeN cs R T G k;refine⟨G1,s1,?_⟩;have rr:Rep K G1 v (.lst (cs.map λc=>D.lst c.2)):=by
  cases h2 with
  |lst ha rs=>
   refine .lst (s1 _ _ ha) ?_;have key:∀(l:List (Addr × List D)) (vs:List V),(∀c∈l,Rep K G1 (.ref c.1) (.lst c.2))->Reps K G vs (l.map λc=>D.adr c.1)->Reps K G1 vs (l.map λc=>D.lst c.2):=by
    intro l
    induction l with
    |nil=>intro vs _ h;cases h;exact .nil
    |cons c r ih=>
     intro vs hc h;cases h with
     |cons h1 h2=>
      cases h1;exact .cons (hc c Wat)<|ih _ (λd hd=>hc d<|Way _ hd) h2
   exact key cs _ r1 rs
 have k2:=k1.setVal' i rr;have e1:σ.set i (some v) = σ:=by
  apply Wb3;intro j;by_cases hj:j=i
  ·subst hj;rw[Wau (by obtain⟨z,_⟩:=Wag.mp h1;exact z),h1]
  ·rw[Waw (Ne.symm hj)]
 rw[e1]at k2;have e2:(R++Wae cs.length Slot.any++T).set i (.val (.lst (cs.map λc=>D.lst c.2)))=R.set i (.val (.lst (cs.map λc=>D.lst c.2)))++Wae cs.length Slot.any++T:=by
  rw[Wbe,Wbe,List.set_append_left _ _ hlt]
 rw[e2]at k2;exact k2
end
section
variable {X:Cx}(K:W.Frag)
theorem ixK (hu:X.A.units+1<cLine) (hK:X.K=K:=by rfl):IxR X (rIxU K):=hK ▸ ixU hu
theorem slK (hK:X.K=K:=by rfl):SlR X (rSlU K):=hK ▸ slU
theorem addK (hK:X.K=K:=by rfl):OpR X (binaryOp .Add) (rAddU K):=hK ▸ Ztt
theorem lenK (hK:X.K=K:=by rfl):CallR X (.builtin "len") (rLenU K):=hK ▸ Zo1
def rTup (K:W.Frag):List V->Hp->VK->Prop:=λxs H Q=>∃p ys,xs=[.ref p]/\((SqL K H p ys/\∀l,H l=none->Q (.ref l) (upd H l (.tup ys)))\/(SqT K H p ys/\Q (.ref p) H))
theorem tupK (hK:X.K=K:=by rfl):CallR X (.type "tuple") (rTup K):=hK ▸ Zih
def rLst (K:W.Frag):List V->Hp->VK->Prop:=λxs H Q=>∃p ys,xs=[.ref p]/\(SqL K H p ys\/SqT K H p ys)/\∀l,H l=none->Q (.ref l) (upd H l (.lst ys))
theorem lstK (hK:X.K=K:=by rfl):CallR X (.type "list") (rLst K):=hK ▸ Zjk
theorem idxK (hK:X.K=K:=by rfl):MtM X "tuple.index" (rIndexT K):=hK ▸ Zhe
theorem seqK {tg l:Expr}{tl:TE}(hl:PE X l tl) (hK:X.K=K:=by rfl):PI X tg l (iSeq K tl):=hK ▸ Zwa hl
theorem truK {a:Expr}{ta:TE}(ha:PE X a ta) (he:∀whole,isTrue a X.env whole=(do let v ← whole;standAt a.pos;holding [v] (truthy v))) (hK:X.K=K:=by rfl):PT X a (tTru K ta):=hK ▸ Zvk ha he
theorem gtupK {es:List Expr}{k:Nat}{t:TGs}{n:Nat}{pos:Pos}(hc:X.calm=true) (h:PGs X es t)
  (hn:(assignEach es X.env).length=n:=by rfl) (hst:(assignEach es X.env).findIdx? (·.1)=none:=by rfl) (hK:X.K=K:=by rfl):PG X (.Tuple es k pos) (gTup K n t):=hK ▸ Zvr hc h hn hst
variable {o e:Expr}{es:List Expr}{to:TE}{t:TA}{name:Str}{apos cpos:Pos}{T id:String}{r:V->List V->Hp->VK->Prop}
theorem bmK (pa:PlainAttrs T) (slot:PySem.Slot T name id) (hty:typeOf (.builtin id)=pure (.type "method_descriptor")) (hm:MtR X id r) (ho:PE X o to) (ha:PA X (e::es) t)
  (hbase:attributeBase o name X.env (eval o X.env)=eval o X.env:=by rfl)
  (hfew:((backTo cpos (starEach (e::es) X.env)).all (λx=>!x.1) && (backToKw cpos (keywordEach [] X.env)).all (λx=>x.1.isSome)
   && decide ((e::es).length+([]:List Keyword).length+(if ([]:List Keyword).isEmpty then 0 else 1)<30))=true:=by rfl)
  (hline:(apos.endLine == cpos.line)=true:=by rfl) (hs:starEach (e::es) X.env=(false,eval e X.env)::starEach es X.env:=by rfl) (hplain:(backTo cpos<|starEach es X.env).any (·.1)=false:=by rfl) (hK:X.K=K:=by rfl) :
  PE X (.Call (.Attribute o name apos) (e::es) [] cpos) (tBM K T r to t):=hK ▸ Zxi pa slot hty hm ho ha hbase hfew hline hs hplain
end
section
variable {K:W.Frag}{Δ:Evt}{P:D->Evt->Prop}
theorem Zcf {ds es:List D}(he:ds=[.lst es]\/ds=[.tup es]) (p:P (.tup es) Δ):JC K (rTup K) ds Δ P:=Zqq he p
theorem Zk4 {ds es:List D}(he:ds=[.lst es]\/ds=[.tup es]) (p:P (.lst es) Δ):JC K (rLst K) ds Δ P:=λg G H σ Q vs k rs c=>by
 rcases he with he|he <;> subst he
 ·obtain⟨_,_,rfl,r,t⟩:=rs.inv
  next=>
   cases t.inv;obtain⟨_,_,rfl,ha,rs⟩:=r.inv
   next=>
    refine⟨_,_,rfl,.inl<|SqL.of<|k.live _ _ ha,λl hl=>?_⟩;obtain⟨k2,sg⟩:=k.laid hl (.lst _);exact c _ _ _ _ Δ k2 sg (.lst Zat<|rs.mono sg) p
 ·obtain⟨_,_,rfl,r,t⟩:=rs.inv
  next=>
   cases t.inv;obtain⟨_,_,rfl,ha,rs⟩:=r.inv
   next=>
    refine⟨_,_,rfl,.inr<|SqT.of<|k.live _ _ ha,λl hl=>?_⟩;obtain⟨k2,sg⟩:=k.laid hl (.lst _);exact c _ _ _ _ Δ k2 sg (.lst Zat<|rs.mono sg) p
theorem Zrg {sel:List Nat}{wi:TI}{tc:TT}{te:TE}{Po:List OD->Evt->Prop}(hsel:sel.Nodup)
  (h:JI K wi Δ λds Δ1=>ds.length<sizeLine/\∃(p:D->Bool) (f:D->OD),
   (∀(i:Nat) d,ds[i]?=some d->JT K tc (.val d::fixD sel Δ1) λb Δ4=>b=p d/\if b=true then JO K te Δ4 λe Δ5=>e=f d/\∃x,Δ5=x::fixD sel Δ1 else ∃x,Δ4=x::fixD sel Δ1) ∧
   Po ((ds.filter p).map f) Δ1):JN K (tComp 1 sel wi (gName 0) tc te) Δ Po:=by
 refine Zs4 hsel λg G H σ R k c=>h g G H σ R k λJ ds G' H' Δ' k' s' it ⟨z,p,f,ht,he⟩=>c J ds G' H' Δ' k' s' it ⟨z,λi ys Δ=>ys=((ds.take i).filter p).map f/\∃x,Δ = x::fixD sel Δ',⟨by simp,.any,rfl⟩,?_,?_⟩
 ·rintro i d ys Δ2 hd ⟨rfl,x,rfl⟩
  have tk:ds.take (i+1)=ds.take i++[d]:=by
   rw[Wbi,hd];rfl
  refine Zg8 (by decide) ?_;intro g G H σ Q k c;refine ht i d hd g G H σ Q k λb G1 H1 Δ1 k1 s1 ⟨e1,q⟩=>c b G1 H1 Δ1 k1 s1 ?_;cases b with
  |true=>
   rw[if_pos rfl]at q ⊢;intro g G H σ Q k c;refine q g G H σ Q k λa od G2 H2 Δ2 k2 s2 pd ⟨e2,x,e3⟩=>c a od G2 H2 Δ2 k2 s2 pd ⟨?_,x,e3⟩;rw[tk,Wb9,War,Wbt,<- e1,e2];rfl
  |false=>
   rw[if_neg Wam]at q ⊢;obtain⟨x,e3⟩:=q;refine⟨?_,x,e3⟩;rw[tk,Wb9,War,Wbt,<- e1];simp
 ·rintro ys Δ2 ⟨rfl,x,rfl⟩
  rw[Wbo,show (x::fixD sel Δ')=[x]++fixD sel Δ' from rfl,Zej (by simp)];exact he
end
def fLaw:DSp:=λds Post=>∃ns:List Int,ds=[.scr (ns.map .int)]/\ns.length<=63/\Post (.bl true)
def spLaw (K:W.Frag):Sp:=λvs H Q _=>∃(a:Addr) (ns:List Int),vs=[.ref a]/\SqL K H a (ns.map V.int)/\ns.length<=63/\∀H',Q (.bl true) H'
theorem Zre {K:W.Frag}{vs:List V}{H:Hp}{Q:VK}{E:XK}(h:spLaw K vs H Q E):spD K fLaw vs H Q E:=by
 obtain⟨a,ns,rfl,hs,hl,q⟩:=h;refine⟨H,[.scr (ns.map .int)],λd=>d=.bl true,Same.refl _,.cons (.scr hs<|Reps.ofInts ns) .nil,⟨ns,rfl,hl,rfl⟩,λr H' d sh rr e=>?_⟩;subst e;cases rr.inv;exact q H'
theorem walk_law {l:PySem.W.OpenLaw}{q:Program}{loose:List Str}{XP:(Str->Option Value)->Heap->Prop}{YP:World->Heap->Prop}{d:DefRec}{K:Params->W.Frag}{k:Nat}{x:Str}(hk:Room k callerA) (hn:l.most=some 63) (hdf:d.params.defaults=[])
  (hY:∀(w:World) (h:Heap),YP w h->(K w.params).In h)
  (F:∀(w:World) (mg:Str->Option Value) (fa:Addr) (h:Heap),(K w.params).In h->h.Ns mainGlobals mg->mg d.name=some (.ref fa) →
   ∃fd:FuncData,(∀(s:Shared) (u:Value),BindsTo s fd ⟨[u],[]⟩ [(x,u)])/\∀base:Heap,(K w.params).In base->base.Ns mainGlobals mg->FnOk l.prog w (K w.params) mg base CX0 k fa fd [x] (spD (K w.params) fLaw)) :
  PySem.W.WalkO q loose XP YP l.row.toRowW d [] (λf vs=>PySem.call f vs):=
 L2.walk_of (n:=63) (k:=k) (x:=x) (CX:=λ_=>CX0) (sp:=λw=>spLaw<|K w.params) hn (by decide) hdf hk hY
  (λw mg fa h h1 h2 h3=>by
   obtain⟨fd,b,f⟩:=F w mg fa h h1 h2 h3;exact⟨fd,b,λbase kb nb=>(f base kb nb).imp λvs H Q E z=>Zre z⟩)
  (λ_ _ a ns hl _ hS=>⟨a,ns,rfl,hS,hl,λ_=>rfl⟩) λ_ _ _ _ _ z=>z
def SqB (b:Bool) (K:W.Frag) (H:Hp) (a:Addr) (xs:List V):Prop:=match b with|true=>SqT K H a xs|false=>SqL K H a xs
def ItB (b:Bool) (h:Heap) (j a:Addr) (i:Nat):Prop:=match b with|true=>h.IsTupleIter j a i|false=>h.IsListIter j a i
def HsB (b:Bool) (h:Heap) (a:Addr) (ws:Array Value):Prop:=match b with|true=>h.IsTuple a ws|false=>h.IsList a ws
theorem ItB.at {b:Bool}{h h':Heap}{j a:Addr}{i:Nat}(x:ItB b h j a i) (e:∀o,h.get? j=some o->h'.get? j=some o):ItB b h' j a i:=by
 cases b
 ·exact Heap.IsListIter.at (show h.IsListIter j a i from x) e
 ·exact Heap.IsTupleIter.at (show h.IsTupleIter j a i from x) e
theorem ItB.off {b:Bool}{h h':Heap}{j a c:Addr}{i:Nat}(x:ItB b h j a i) (e:Heap.ExtBut c h h') (n:j≠c):ItB b h' j a i:=x.at λo q=>e j o n q
theorem ItB.obj {b:Bool}{h:Heap}{j a:Addr}{i:Nat}(x:ItB b h j a i):∃o,h.get? j=some o/\o.data=.fields #[.ref a,.int i 0]:=by
 cases b <;> (obtain⟨o,e,_,d⟩:=x;exact⟨o,e,d⟩)
theorem HsB.off {b:Bool}{h h':Heap}{a c:Addr}{ws:Array Value}(x:HsB b h a ws) (e:Heap.ExtBut c h h') (n:a≠c):HsB b h' a ws:=by
 cases b <;> (obtain⟨o,q,r⟩:=x;exact⟨o,e a o n q,r⟩)
theorem HsB.lt {b:Bool}{h:Heap}{a:Addr}{ws:Array Value}(x:HsB b h a ws):a<h.objs.size:=by
 cases b <;> (obtain⟨o,q,r⟩:=x;exact Wax q)
theorem Inv.seqB {X:Cx}{pins:List (Addr × Obj)}{σ:St}{H:Hp}{s:Shared}{b:Bool}{a:Addr}{xs:List V}(I:Inv X pins σ H s) (h:SqB b X.K H a xs):∃its:List Value,Vals xs its/\HsB b s.heap a its.toArray:=by
 cases b
 ·obtain⟨its,r,p,_⟩:=I.list h
  exact⟨its,r,p.isList⟩
 ·obtain⟨its,r,p,_⟩:=I.tuple h
  exact⟨its,r,p⟩
theorem Inv.seqB_inj {X:Cx}{pins:List (Addr × Obj)}{σ:St}{H:Hp}{s:Shared}{b:Bool}{a:Addr}{xs ys:List V}(I:Inv X pins σ H s) (h:SqB b X.K H a xs) (h':SqB b X.K H a ys):xs=ys:=by
 cases b
 ·exact I.list_inj h h'
 ·exact I.tuple_inj h h'
section
variable {prog:Program}{w:World}{A:Around}{E:Value->Shared->Prop}{s:Shared}
theorem Zh0 {b:Bool}{j a:Addr}{i:Nat}{ws:Array Value}{x:Value}{Q:Value->Shared->Prop}(g:ItB b s.heap j a i) (l:HsB b s.heap a ws) (e:ws[i]?=some x)
  (q:∀h',ItB b h' j a (i+1)->Heap.SameBut j s.heap h' -> Q x { s with heap:=h' }):wpAny (model prog w) A (Builtin.SmallTypes.nextOf (.ref j)) Q E s:=by
 cases b
 ·exact wpAny_nextOf_list_item g l e q
 ·obtain⟨o,g1,g2,g3⟩:=id g
  obtain⟨u,l1,_,n,l2⟩:=l;have ty:s.TypeIs (.ref j) "tuple_iterator":=⟨o,g1,g2⟩;unfold Builtin.SmallTypes.nextOf;refine wpAny_bind<|wpAny_callSpecial?_slot (name:=Str.ofString "__next__") ty F.slot_tuple_iterator_next<|wpAny_call_entry F.slot_tuple_iterator_next ty F.entry_tuple_iterator_next ?_<|F.args_tuple_iterator_next_1 _;refine(show wpAny _ _ (field (.ref j) 0 >>= _) _ _ s from wpAny_bind (wpAny_field g1 g3 (x:=.ref a) rfl ?_));refine(show wpAny _ _ (if (Value.ref a == Value.none)=true then _ else _) _ _ s from ?_);rw[if_neg (by exact Wam)];refine(show wpAny _ _ (field (.ref j) 1 >>= _) _ _ s from wpAny_bind (wpAny_field g1 g3 (x:=.int i 0) rfl ?_));refine(show wpAny _ _ (seqItems? (.ref a) >>= _) _ _ s from wpAny_bind (wpAny_seqItems l1 l2 ?_));simp only[Wa7,e];refine wpAny_bind<|wpAny_setField g1 g3 (by simp)<|wpAny_pure ⟨x,rfl,wpAny_pure<|q _ ⟨_,Wb7 _ g1<|Obj.isFreed_of_fields<|Obj.data_mapFields g3 _,(Obj.cls_mapFields ..).trans g2,?_⟩<|Heap.SameBut.update ..⟩;rw[Obj.data_mapFields g3];simp[rawInt]
theorem Zp4 {b:Bool}{j a:Addr}{i:Nat}{ws:Array Value}{Q:Value->Shared->Prop}(hh:A.handled=none) (g:ItB b s.heap j a i) (l:HsB b s.heap a ws) (e:ws[i]?=none)
  (q:∀h' x,Heap.ExtBut j s.heap h' -> (∃o,h'.get? x=some o/\o.cls=.type "StopIteration")->E (.ref x) { s with heap:=h' }):wpAny (model prog w) A (Builtin.SmallTypes.nextOf (.ref j)) Q E s:=by
 cases b
 ·exact wpAny_nextOf_list_end hh g l e q
 ·obtain⟨o,g1,g2,g3⟩:=id g
  obtain⟨u,l1,_,n,l2⟩:=l;have ty:s.TypeIs (.ref j) "tuple_iterator":=⟨o,g1,g2⟩;unfold Builtin.SmallTypes.nextOf;refine wpAny_bind<|wpAny_callSpecial?_slot (name:=Str.ofString "__next__") ty F.slot_tuple_iterator_next<|wpAny_call_entry F.slot_tuple_iterator_next ty F.entry_tuple_iterator_next ?_<|F.args_tuple_iterator_next_1 _;refine(show wpAny _ _ (field (.ref j) 0 >>= _) _ _ s from wpAny_bind (wpAny_field g1 g3 (x:=.ref a) rfl ?_));refine(show wpAny _ _ (if (Value.ref a == Value.none)=true then _ else _) _ _ s from ?_);rw[if_neg (by exact Wam)];refine(show wpAny _ _ (field (.ref j) 1 >>= _) _ _ s from wpAny_bind (wpAny_field g1 g3 (x:=.int i 0) rfl ?_));refine(show wpAny _ _ (seqItems? (.ref a) >>= _) _ _ s from wpAny_bind (wpAny_seqItems l1 l2 ?_));simp only[Wa7,e];refine wpAny_bind<|wpAny_rule<|wpAny_bind<|wpAny_setField g1 g3 (by simp) (show wpAny _ _ (newExc (.type "StopIteration") [] >>= _) _ _ _ from wpAny_bind ?_);simp only[newExc,newTuple];refine wpAny_bind<|wpAny_newObj_type (wpAny_bind (m:=firstArgMember _ _)<|wpAny_of_eq (a:=Value.none) (by first|rfl|(simp only[firstArgMember];rfl))<|wpAny_newObj_type ?_ (by size_fits)) (by size_fits);simp only[raiseNew];refine wpAny_bind<|wpAny_handled ?_
  first|rw[show A.in1.handled=none from hh]|rw[hh]
  exact wpAny_bind<|wpAny_pure<|wpAny_throw<|q _ _ (((Heap.SameBut.update ..).extBut.push _).push _) ⟨_,Wao _ rfl,rfl⟩
theorem Zuo {b c:Bool}{z U O j1 j2 a1 a2:Addr}{k1 k2:Nat}{vs us:Array Value}{x y p r:Value}{Q:Option Value->Shared->Prop}(D:ZipApart z U O j1 j2 a1 a2)
  (gz:IsZip s.heap z U O .none) (gU:IsPair s.heap U (.ref j1) (.ref j2)) (gO:IsPair s.heap O p r) (g1:ItB b s.heap j1 a1 k1) (g2:ItB c s.heap j2 a2 k2) (l1:HsB b s.heap a1 vs) (l2:HsB c s.heap a2 us) (ex:vs[k1]?=some x) (ey:us[k2]?=some y)
  (q:∀h',IsZip h' z U O (rawInt s.heap.objs.size)->IsPair h' O x y->ItB b h' j1 a1 (k1+1)->ItB c h' j2 a2 (k2+1)->IsPair h' s.heap.objs.size x y->h'.objs.size=s.heap.objs.size+1 →
   (∀d o,d≠z->d≠O->d≠j1->d≠j2->s.heap.get? d=some o->h'.get? d=some o)->Q (some (.ref s.heap.objs.size)) { s with heap:=h' }):wpAny (model prog w) A (pyNext (.ref z)) Q E s:=by
 have ty:s.TypeIs (.ref z) "zip":=⟨_,gz,rfl⟩;unfold pyNext;refine wpAny_bind<|wpAny_attempt<|wpAny_callSpecial?_slot (name:=Str.ofString "__next__") ty F.slot_zip_next<|wpAny_call_entry F.slot_zip_next ty F.entry_zip_next ?_<|F.args_zip_next_1 _;refine(show wpAny _ _ (field (.ref z) 2 >>= _) _ _ _ from wpAny_bind (wpAny_field gz rfl (x:=.bool false) rfl ?_));refine(show wpAny _ _ (field (.ref z) 3 >>= _) _ _ _ from wpAny_bind (wpAny_field gz rfl (x:=.ref U) rfl<|wpAny_bind<|wpAny_seqItems gU rfl ?_));refine(show wpAny _ _ (Builtin.SmallTypes.ownedTupleIsFree (.ref z) >>= _) _ _ _ from wpAny_bind ?_);unfold Builtin.SmallTypes.ownedTupleIsFree;refine wpAny_bind<|wpAny_field gz rfl (x:=.none) rfl<|wpAny_pure ?_;simp only[if_true];refine wpAny_bind<|wpAny_rule<|wpAny_bind<|wpAny_field gz rfl (x:=.ref O) rfl<|wpAny_bind (wpAny_setField_rec gz (by simp) λh₁ z₁ s₁=>wpAny_bind ?_)
 replace z₁:IsZip h₁ z U O .ellipsis:=z₁
 simp only[List.zipIdx_cons,List.zipIdx_nil,List.forIn_cons,List.forIn_nil];refine wpAny_bind<|wpAny_bind<|wpAny_onRaise (show wpAny _ _ (Builtin.SmallTypes.nextOf (.ref j1) >>= _) _ _ _ from wpAny_bind (Zh0 (g1.off s₁.extBut D.i1z) (l1.off s₁.extBut D.l1z) ex λh₂ g₂ s₂=>wpAny_pure ?_));have o₂:IsPair h₂ O p r:=s₂.extBut _ _ D.TOi1<|s₁.extBut _ _ D.TOz gO;refine wpAny_bind<|wpAny_seqItems o₂ rfl<|wpAny_bind (wpAny_updateSeq_pair o₂ λh₃ o₃ s₃=>wpAny_bind<|wpAny_letGo<|wpAny_pure ?_)
 replace o₃:IsPair h₃ O x r:=o₃
 refine wpAny_bind<|wpAny_bind<|wpAny_onRaise (show wpAny _ _ (Builtin.SmallTypes.nextOf (.ref j2) >>= _) _ _ _ from wpAny_bind (Zh0 (((g2.off s₁.extBut D.i2z).off s₂.extBut D.i12.symm).off s₃.extBut D.TOi2.symm) (((l2.off s₁.extBut D.l2z).off s₂.extBut D.l2i1).off s₃.extBut D.l2TO) ey λh₄ g₄ s₄=>wpAny_pure ?_));have o₄:IsPair h₄ O x r:=s₄.extBut _ _ D.TOi2 o₃;refine wpAny_bind<|wpAny_seqItems o₄ rfl<|wpAny_bind (wpAny_updateSeq_pair o₄ λh₅ o₅ s₅=>wpAny_bind<|wpAny_letGo<|wpAny_pure<|wpAny_pure ?_)
 replace o₅:IsPair h₅ O x y:=o₅
 refine wpAny_bind<|wpAny_seqItems o₅ rfl<|wpAny_bind<|wpAny_newTuple ?_;have n5:h₅.objs.size=s.heap.objs.size:=by rw[s₅.1,s₄.1,s₃.1,s₂.1,s₁.1]
 have z₅:IsZip h₅ z U O .ellipsis:=s₅.extBut _ _ D.TOz.symm<|s₄.extBut _ _ D.i2z.symm<|s₃.extBut _ _ D.TOz.symm<|s₂.extBut _ _ D.i1z.symm z₁;have old:∀d o,d≠z->d≠O->d≠j1->d≠j2->s.heap.get? d=some o->h₅.get? d=some o:=λd o c1 c2 c3 c4 e=>s₅.extBut _ _ c2<|s₄.extBut _ _ c4<|s₃.extBut _ _ c2<|s₂.extBut _ _ c3<|s₁.extBut _ _ c1 e;have t1:ItB b h₅ j1 a1 (k1+1):=((g₂.off s₃.extBut D.TOi1.symm).off s₄.extBut D.i12).off s₅.extBut D.TOi1.symm;have t2:ItB c h₅ j2 a2 (k2+1):=g₄.off s₅.extBut D.TOi2.symm;have zl:z<h₅.objs.size:=Wax z₅;refine(show wpAny _ _ (Builtin.SmallTypes.ownedTupleHandOut (.ref z) (.ref h₅.objs.size) >>= _) _ _ _ from wpAny_bind ?_);unfold Builtin.SmallTypes.ownedTupleHandOut;have z₆:IsZip (h₅.push { cls:=.type "tuple",data:=.seq #[x,y] }) z U O .ellipsis:=Wac _ z₅;refine wpAny_bind (wpAny_setField_rec z₆ (by simp) λh₇ z₇ s₇=>?_)
 replace z₇:IsZip h₇ z U O (rawInt h₅.objs.size):=z₇
 refine wpAny_setField_rec z₇ (by simp) λh₈ z₈ s₈=>?_
 replace z₈:IsZip h₈ z U O (rawInt h₅.objs.size):=z₈
 have up:∀d o,d≠z->h₅.get? d=some o->h₈.get? d=some o:=λd o c1 e=>s₈.extBut _ _ c1<|s₇.extBut _ _ c1<|Wac _ e;have new8:IsPair h₈ h₅.objs.size x y:=s₈.extBut _ _ (Wdl zl)<|s₇.extBut _ _ (Wdl zl)<|Wao _ rfl;have n8:h₈.objs.size=h₅.objs.size+1:=by rw[s₈.1,s₇.1,Wcf]
 rw[n5]at z₈ new8 n8;refine wpAny_pure ⟨_,rfl,wpAny_pure ?_⟩;refine(show Q (some (.ref h₅.objs.size)) _ from ?_);rw[n5];exact q h₈ z₈ (up _ _ D.TOz o₅) (t1.at λo e=>up _ o D.i1z e) (t2.at λo e=>up _ o D.i2z e) new8 n8 λd o c1 c2 c3 c4 e=>up d o c1<|old d o c1 c2 c3 c4 e
theorem Zv4 {b c:Bool}{z U O j1 j2 a1 a2:Addr}{k1 k2:Nat}{vs us:Array Value}{p r:Value}{Q:Option Value->Shared->Prop}(hh:A.handled=none) (D:ZipApart z U O j1 j2 a1 a2)
  (gz:IsZip s.heap z U O .none) (gU:IsPair s.heap U (.ref j1) (.ref j2)) (gO:IsPair s.heap O p r) (g1:ItB b s.heap j1 a1 k1) (g2:ItB c s.heap j2 a2 k2) (l1:HsB b s.heap a1 vs) (l2:HsB c s.heap a2 us) (e:vs[k1]?=none\/us[k2]?=none)
  (q:∀h',(∀d o,d≠z->d≠O->d≠j1->d≠j2->s.heap.get? d=some o->h'.get? d=some o)->Q none { s with heap:=h' }):wpAny (model prog w) A (pyNext (.ref z)) Q E s:=by
 have ty:s.TypeIs (.ref z) "zip":=⟨_,gz,rfl⟩;have fin:∀{h':Heap}{x:Addr},(∀d o,d≠z->d≠O->d≠j1->d≠j2->s.heap.get? d=some o->h'.get? d=some o)->(∃o,h'.get? x=some o/\o.cls=.type "StopIteration")->wpAny (model prog w) A (do if (← isInstance (.ref x) (.type "StopIteration")) then pure none else throw (.ref x)) Q E { s with heap:=h' }:=λ{h' x} hk ⟨o,ho,hc⟩=>by
  refine wpAny_bind<|wpAny_isInstance (T:="StopIteration") (b:=true) ⟨o,ho,hc⟩ isSubtype_stop ?_;exact wpAny_pure<|q _ hk
 unfold pyNext;refine wpAny_bind<|wpAny_attempt<|wpAny_callSpecial?_slot (name:=Str.ofString "__next__") ty F.slot_zip_next<|wpAny_call_entry F.slot_zip_next ty F.entry_zip_next ?_<|F.args_zip_next_1 _;refine(show wpAny _ _ (field (.ref z) 2 >>= _) _ _ _ from wpAny_bind (wpAny_field gz rfl (x:=.bool false) rfl ?_));refine(show wpAny _ _ (field (.ref z) 3 >>= _) _ _ _ from wpAny_bind (wpAny_field gz rfl (x:=.ref U) rfl<|wpAny_bind<|wpAny_seqItems gU rfl ?_));refine(show wpAny _ _ (Builtin.SmallTypes.ownedTupleIsFree (.ref z) >>= _) _ _ _ from wpAny_bind ?_);unfold Builtin.SmallTypes.ownedTupleIsFree;refine wpAny_bind<|wpAny_field gz rfl (x:=.none) rfl<|wpAny_pure ?_;simp only[if_true];refine wpAny_bind<|wpAny_rule<|wpAny_bind<|wpAny_field gz rfl (x:=.ref O) rfl<|wpAny_bind (wpAny_setField_rec gz (by simp) λh₁ z₁ s₁=>wpAny_bind ?_)
 replace z₁:IsZip h₁ z U O .ellipsis:=z₁
 simp only[List.zipIdx_cons,List.zipIdx_nil,List.forIn_cons,List.forIn_nil];refine wpAny_bind<|wpAny_bind<|wpAny_onRaise (show wpAny _ _ (Builtin.SmallTypes.nextOf (.ref j1) >>= _) _ _ _ from ?_);cases ex:vs[k1]? with
 |none=>
  refine wpAny_bind (Zp4 hh (g1.off s₁.extBut D.i1z) (l1.off s₁.extBut D.l1z) ex λh₂ y s₂ ⟨u,u1,u2⟩=>?_);have z₂:IsZip h₂ z U O .ellipsis:=s₂ _ _ D.i1z.symm z₁;have yz:y≠z:=λx=>by subst x;rw[z₂]at u1;cases u1;simp at u2
  exact wpAny_setField_rec z₂ (by simp) λh₃ _ s₃=>fin (λd o c1 _ c3 _ x=>s₃.extBut _ _ c1<|s₂ _ _ c3<|s₁.extBut _ _ c1 x) ⟨u,s₃.extBut _ _ yz u1,u2⟩
 |some x=>
  have ey:us[k2]?=none:=by rcases e with h|h;rw[ex]at h;cases h;exact h
  refine wpAny_bind (Zh0 (g1.off s₁.extBut D.i1z) (l1.off s₁.extBut D.l1z) ex λh₂ g₂ s₂=>wpAny_pure ?_);have o₂:IsPair h₂ O p r:=s₂.extBut _ _ D.TOi1<|s₁.extBut _ _ D.TOz gO;refine wpAny_bind<|wpAny_seqItems o₂ rfl<|wpAny_bind (wpAny_updateSeq_pair o₂ λh₃ o₃ s₃=>wpAny_bind<|wpAny_letGo<|wpAny_pure ?_);refine wpAny_bind<|wpAny_bind<|wpAny_onRaise (show wpAny _ _ (Builtin.SmallTypes.nextOf (.ref j2) >>= _) _ _ _ from ?_);refine wpAny_bind (Zp4 hh (((g2.off s₁.extBut D.i2z).off s₂.extBut D.i12.symm).off s₃.extBut D.TOi2.symm) (((l2.off s₁.extBut D.l2z).off s₂.extBut D.l2i1).off s₃.extBut D.l2TO) ey λh₄ y s₄ ⟨u,u1,u2⟩=>?_);have z₄:IsZip h₄ z U O .ellipsis:=s₄ _ _ D.i2z.symm<|s₃.extBut _ _ D.TOz.symm<|s₂.extBut _ _ D.i1z.symm z₁;have yz:y≠z:=λx=>by subst x;rw[z₄]at u1;cases u1;simp at u2
  exact wpAny_setField_rec z₄ (by simp) λh₅ _ s₅=>fin (λd o c1 c2 c3 c4 x=>s₅.extBut _ _ c1<|s₄ _ _ c4<|s₃.extBut _ _ c2<|s₂.extBut _ _ c3<|s₁.extBut _ _ c1 x) ⟨u,s₅.extBut _ _ yz u1,u2⟩
end
section
abbrev zt1 (h:Heap) (a:Addr):Heap:=h.push ⟨.type "tuple_iterator",none,.fields #[.ref a,.int 0 0],#[]⟩
abbrev zt2 (h:Heap) (a c:Addr):Heap:=(zt1 h a).push ⟨.type "tuple_iterator",none,.fields #[.ref c,.int 0 0],#[]⟩
abbrev zt3 (h:Heap) (a c:Addr):Heap:=(zt2 h a c).push ⟨.type "tuple",none,.seq #[.ref h.objs.size,.ref (zt1 h a).objs.size],#[]⟩
abbrev zt4 (h:Heap) (a c:Addr):Heap:=(zt3 h a c).push ⟨.type "tuple",none,.seq #[.none,.none],#[]⟩
abbrev zt5 (h:Heap) (a c:Addr):Heap:=(zt4 h a c).push ⟨.type "zip",none,.fields #[.none,.bool false,.bool false,.ref (zt2 h a c).objs.size,.ref (zt3 h a c).objs.size],#[]⟩
theorem Zqi (a c:Addr) (vs us:Array Value) :
  Meets (Builtin.«zip.__new__» ⟨[.type "zip",.ref a,.ref c],[]⟩) (λ_ R s=>s.heap.IsTuple a vs/\s.heap.IsTuple c us/\R (.ok (.ret (.ref (zt4 s.heap a c).objs.size))) { s with heap:=zt5 s.heap a c }):=.of_wp λprog w A R s h=>by
 obtain⟨hp,g,d,tk,os⟩:=s;obtain⟨u1,u2,h⟩:=h;have sub0:=sub_zip;have v1:Heap.IsTuple (Shared.heap ⟨hp,g,d,tk,os⟩) a vs:=u1;have v2:Heap.IsTuple (Shared.heap ⟨hp.push { cls:=.type "tuple_iterator",data:=.fields #[.ref a,.int 0 0] },g,d,tk,os⟩) c us:=Heap.IsTuple.push u2 _
 wp_walk using wpAny_pyIter_tuple v1,wpAny_pyIter_tuple v2
 exact⟨_,rfl,h⟩
variable {prog:Program}{w:World}{A:Around}{E:Value->Shared->Prop}{s:Shared}
theorem Zuc {b:Bool}{a c:Addr}{vs us:Array Value}{Q:Value->Shared->Prop}(l1:HsB b s.heap a vs) (l2:HsB b s.heap c us)
  (q:∀h',IsZip h' (s.heap.objs.size+4) (s.heap.objs.size+2) (s.heap.objs.size+3) .none->IsPair h' (s.heap.objs.size+2) (.ref s.heap.objs.size) (.ref (s.heap.objs.size+1))->IsPair h' (s.heap.objs.size+3) .none .none →
   ItB b h' s.heap.objs.size a 0->ItB b h' (s.heap.objs.size+1) c 0->(∀d o,s.heap.get? d=some o->h'.get? d=some o)->Q (.ref (s.heap.objs.size+4)) { s with heap:=h' }):wpAny (model prog w) A (call (.type "zip") [.ref a,.ref c]) Q E s:=by
 cases b
 ·exact call_zip_2 l1 l2 λh' b1 b2 b3 b4 b5 b6 hk=>q h' b1 b2 b3 b4 b5 hk
 ·refine callType_new F.called_zip (by decide) (F.typeCall_zip_2 _ _) (F.newCall_zip_2 _ _) (λobj=>F.args_object_init_3 obj _ _) F.entry_zip_new (Zqi a c vs us) ⟨l1,l2,?_⟩
  have z1:(zt1 s.heap a).objs.size=s.heap.objs.size+1:=Wcf ..;have z2:(zt2 s.heap a c).objs.size=s.heap.objs.size+2:=by rw[Wcf,z1]
  have z3:(zt3 s.heap a c).objs.size=s.heap.objs.size+3:=by rw[Wcf,z2]
  have z4:(zt4 s.heap a c).objs.size=s.heap.objs.size+4:=by rw[Wcf,z3]
  have p5:(zt5 s.heap a c).get? (zt4 s.heap a c).objs.size=some _:=Wao _ rfl;have p4:(zt5 s.heap a c).get? (zt3 s.heap a c).objs.size=some _:=Wac _<|Wao _ rfl;have p3:(zt5 s.heap a c).get? (zt2 s.heap a c).objs.size=some _:=Wac _<|Wac _<|Wao _ rfl;have p2:(zt5 s.heap a c).get? (zt1 s.heap a).objs.size=some _:=Wac _<|Wac _<|Wac _<|Wao _ rfl;have p1:(zt5 s.heap a c).get? s.heap.objs.size=some _:=Wac _<|Wac _<|Wac _<|Wac _<|Wao _ rfl;show _/\_;rw[z2,z3,z4]at p5;rw[z1,z2]at p3;rw[z3]at p4;rw[z1]at p2;rw[z4];exact⟨⟨_,p5,rfl⟩,q _ p5 p3 p4 ⟨_,p1,rfl,rfl⟩ ⟨_,p2,rfl,rfl⟩ λd o e=>Wac _<|Wac _<|Wac _<|Wac _<|Wac _ e⟩
end
def Izb (b:Bool) (K:W.Frag) (l1 l2:Addr):It:=
 ⟨λi H=>∃xs ys x y,SqB b K H l1 xs/\SqB b K H l2 ys/\xs[i]?=some x/\ys[i]?=some y,
  λi H v H'=>∃p x y,H p=none/\v=.ref p/\H'=upd H p (.tup [x,y])/\∀xs ys,SqB b K H l1 xs->SqB b K H l2 ys->xs[i]?=some x/\ys[i]?=some y,
  λi H=>∃xs ys,SqB b K H l1 xs/\SqB b K H l2 ys/\(xs.length<=i\/ys.length<=i)⟩
theorem Zsq {b:Bool}{P:Program}{w:World}{K:W.Frag}{es:List Expr}{kk:Nat}{tp:Pos}(l1 l2 z TI TO i1 i2:Addr) (D:ZipApart z TI TO i1 i2 l1 l2):Turn P w K (.Tuple es kk tp) (Izb b K l1 l2) [z,TI,TO,i1,i2] z
  (λi h=>IsZip h z TI TO .none/\IsPair h TI (.ref i1) (.ref i2)/\(∃a b,IsPair h TO a b)/\ItB b h i1 l1 i/\ItB b h i2 l2 i) where
 mem:=by simp
 obj:=λi h st b2 hb=>by
  obtain⟨hz,hTI,⟨a,b',hTO⟩,h1,h2⟩:=st;obtain⟨o1,e1,d1⟩:=h1.obj;obtain⟨o2,e2,d2⟩:=h2.obj;simp only[Wap,Wb2,or_false]at hb;rcases hb with rfl|rfl|rfl|rfl|rfl
  ·exact⟨_,hz,λv q=>by cases q⟩
  ·exact⟨_,hTI,λv q=>by cases q⟩
  ·exact⟨_,hTO,λv q=>by cases q⟩
  ·exact⟨o1,e1,λv q=>by rw[d1]at q;cases q⟩
  ·exact⟨o2,e2,λv q=>by rw[d2]at q;cases q⟩
 keep:=λi h h' st k=>by
  obtain⟨hz,hTI,⟨a,b',hTO⟩,h1,h2⟩:=st;exact⟨k z (by simp) _ hz,k TI (by simp) _ hTI,⟨a,b',k TO (by simp) _ hTO⟩,h1.at λo e=>k i1 (by simp) o e,h2.at λo e=>k i2 (by simp) o e⟩
 item:=by
  intro X hP hw hK hc i pins s σ H E I hf st hg;subst hP hw hK;obtain⟨hz,hTI,⟨a,b',hTO⟩,h1,h2⟩:=st;obtain⟨xs,ys,x,y,hq1,hq2,hx,hy⟩:=hg;obtain⟨its1,r1,p1⟩:=I.seqB hq1;obtain⟨its2,r2,p2⟩:=I.seqB hq2;obtain⟨u1,hu1,ru1⟩:=r1.get hx;obtain⟨u2,hu2,ru2⟩:=r2.get hy;refine Zuo D hz hTI hTO h1 h2 p1 p2 (x:=u1) (y:=u2) (by simpa using hu1) (by simpa using hu2) λh' b1 b2 b3 b4 b5 b6 hk=>?_;refine⟨_,rfl,wpAny_letOwnedTupleGo_zip (s:={ s with heap:=h' }) b1 λh'' hz'' hs''=>?_⟩;have lt:∀{c o},s.heap.get? c=some o->c≠s.heap.objs.size:=λe=>Wa8<|Wax e;have hTz:s.heap.objs.size≠z:=Ne.symm<|lt hz;have hTfree:H s.heap.objs.size=none:=I.hok.fresh<|Wak _;have kept:∀c o,c ∉ [z,TI,TO,i1,i2]->s.heap.get? c=some o->h''.get? c=some o:=λc o hc e=>by
   simp only[Wap,Wb2,or_false,not_or]at hc;exact hs''.extBut _ _ hc.1<|hk c o hc.1 hc.2.2.1 hc.2.2.2.1 hc.2.2.2.2 e
  have hT:h''.get? s.heap.objs.size=some { cls:=.type "tuple",data:=.seq #[u1,u2] }:=hs''.extBut _ _ hTz b5;have ntr:∀c o,H c=some o->c ∉ [z,TI,TO,i1,i2]:=λc o e hc=>by rw[(hf c hc).1]at e;cases e
  have hok:HOk X.prog X.w (upd H s.heap.objs.size (.tup [x,y])) h'':=λc o e=>by
   by_cases hcT:c=s.heap.objs.size
   ·subst hcT
    rw[Zat]at e;cases e;exact⟨by show 2<=sizeLine;decide,[u1,u2],.cons ru1 (.cons ru2 .nil),_,hT,⟨rfl,_,rfl⟩,rfl⟩
   ·rw[Zan hcT]at e
    refine(I.hok c o e).stay (λd v hd q=>kept d v ?_ q) (λd q=>by rw[Zan (Zap q hTfree)];exact q) λd zs q=>by rw[Zan (Zap q hTfree)];exact q
    rcases hd with hd|hd
    ·rw[hd];exact ntr c o e
    ·exact ntr d _ hd
  have I2:Inv X pins σ (upd H s.heap.objs.size (.tup [x,y])) { s with heap:=h'' }:=by
   refine I.call (g':=s.gens) (t':=s.toks) (d':=s.drawn) (ch:=[z,TI,TO,i1,i2]) ⟨λc o e n hc hx=>kept c o hx e,λc o e n hc hx=>⟨o.slots,kept c o hx e⟩,λc o e n hx=>by rw[Zan (lt e)];exact n,λc o e hx=>⟨o,kept c o hx e⟩,
    λc zs q=>by rw[Zan (Zap q hTfree)];exact q,λc o zs q=>by rw[Zan (Zap q hTfree)];exact q,λc zs q=>⟨#[],by rw[Zan (Zap q hTfree),q];simp⟩⟩ hok I.bare λc hcc=>?_
   obtain⟨f0,f1,f2,f3,f4,f5⟩:=hf c hcc;exact⟨f3,f1,f4,f5⟩
  refine⟨.ref s.heap.objs.size,_,I2,rfl,⟨s.heap.objs.size,x,y,hTfree,rfl,rfl,λxs' ys' q1 q2=>?_⟩,⟨hz'',hs''.extBut _ _ D.TIz<|hk _ _ D.TIz D.TITO D.TIi1 D.TIi2 hTI,⟨_,_,hs''.extBut _ _ D.TOz b2⟩,b3.off hs''.extBut D.i1z,b4.off hs''.extBut D.i2z⟩,λc hcc=>?_⟩
  ·rw[I.seqB_inj q1 hq1,I.seqB_inj q2 hq2];exact⟨hx,hy⟩
  ·have hcl:c≠s.heap.objs.size:=by
    simp only[Wap,Wb2,or_false]at hcc;obtain⟨_,e1,_⟩:=h1.obj;obtain⟨_,e2,_⟩:=h2.obj;rcases hcc with rfl|rfl|rfl|rfl|rfl
    ·exact lt hz
    ·exact lt hTI
    ·exact lt hTO
    ·exact lt e1
    ·exact lt e2
   rw[Zan hcl];exact(hf c hcc).1
 done:=by
  intro X hP hw hK hc i pins s σ H E I hf st hg;subst hP hw hK;obtain⟨hz,hTI,⟨a,b',hTO⟩,h1,h2⟩:=st;obtain⟨xs,ys,hq1,hq2,hend⟩:=hg;obtain⟨its1,r1,p1⟩:=I.seqB hq1;obtain⟨its2,r2,p2⟩:=I.seqB hq2;have l1':=r1.length;have l2':=r2.length;refine Zv4 (I.ok.hd hc) D hz hTI hTO h1 h2 p1 p2 ?_ λh' hk=>⟨rfl,?_⟩
  ·rcases hend with q|q
   ·left;simp;omega
   ·right;simp;omega
  ·have kept:∀c o,c ∉ [z,TI,TO,i1,i2]->s.heap.get? c=some o->h'.get? c=some o:=λc o hc e=>by
    simp only[Wap,Wb2,or_false,not_or]at hc;exact hk c o hc.1 hc.2.2.1 hc.2.2.2.1 hc.2.2.2.2 e
   have ntr:∀c o,H c=some o->c ∉ [z,TI,TO,i1,i2]:=λc o e hc=>by rw[(hf c hc).1]at e;cases e
   refine I.call (g':=s.gens) (t':=s.toks) (d':=s.drawn) (ch:=[z,TI,TO,i1,i2]) ⟨λc o e n hc hx=>kept c o hx e,λc o e n hc hx=>⟨o.slots,kept c o hx e⟩,λc o e n hx=>n,λc o e hx=>⟨o,kept c o hx e⟩,
    λc zs q=>q,λc o zs q=>q,λc zs q=>⟨#[],by rw[q];simp⟩⟩ (λc o e=>?_) I.bare λc hcc=>?_
   ·refine(I.hok c o e).stay (λd v hd q=>kept d v ?_ q) (λd q=>q) λd zs q=>q
    rcases hd with hd|hd
    ·rw[hd];exact ntr c o e
    ·exact ntr d _ hd
   ·obtain⟨f0,f1,f2,f3,f4,f5⟩:=hf c hcc
    exact⟨f3,f1,f4,f5⟩
 self:=λ_ _ _ _ _ st h=>wpAny_pyIter_zip st.1 h
section
variable {X:Cx}
def iZip (K:W.Frag) (ta:TA):TI:=λσ H R=>ta σ H λvs H1=>∃b l1 l2,vs=[.ref l1,.ref l2]/\(∃xs,SqB b K H1 l1 xs)/\(∃ys,SqB b K H1 l2 ys)/\R (Izb b K l1 l2) H1
theorem Zwe (K:W.Frag) {es:List Expr}{kk:Nat}{tp:Pos}{a b:Expr}{ta:TA}{p pos:Pos}(hg:Gl X "zip") (hm:X.mg "zip" = none) (ha:PA X [a,b] ta) (hs:starEach [a,b] X.env=[(false,eval a X.env),(false,eval b X.env)]:=by rfl) (hs2:starEach [b] X.env=[(false,eval b X.env)]:=by rfl) (hK:X.K=K:=by rfl) :
  PI X (.Tuple es kk tp) (.Call (.Name "zip" p) [a,b] [] pos) (iZip K ta):=by
 subst hK;intro pins s σ H R I h;refine Call_<|Zew I hg hm (Zu3)<|PyProof.Rows.callWith_type1 (thn (ha pos pins s σ H _ I h) λus s1 ⟨vs,H1,I1,r1,q1⟩=>?_) (by rw[hs,hs2]) (by rw[hs2];rfl);obtain⟨b,l1,l2,e,⟨xs,hx⟩,⟨ys,hy⟩,q⟩:=q1;subst e;obtain⟨u1,u2,rfl,q1,q2⟩:=r1.two;cases (show u1=Value.ref l1 from q1);cases (show u2=Value.ref l2 from q2);obtain⟨its1,w1,p1⟩:=I1.seqB hx;obtain⟨its2,w2,p2⟩:=I1.seqB hy;have lt1:l1<s1.heap.objs.size:=p1.lt;have lt2:l2<s1.heap.objs.size:=p2.lt;refine Zuc p1 p2 λh' b1 b2 b3 b4 b5 hk=>?_;refine wpAny_pyIter_zip b1 ?_;have I2:Inv X pins σ H1 { s1 with heap:=h' }:=I1.kept (t':=s1.toks) hk;refine⟨s1.heap.objs.size+4,[s1.heap.objs.size+4,s1.heap.objs.size+2,s1.heap.objs.size+3,s1.heap.objs.size,s1.heap.objs.size+1],_,_,H1,rfl,I2,Zsq l1 l2 _ _ _ _ _<|zipApart_new lt1 lt2,⟨b1,b2,⟨_,_,b3⟩,b4,b5⟩,λb hb=>?_,q⟩;have hge:s1.heap.objs.size<=b:=by
  simp only[Wap,Wb2,or_false]at hb;rcases hb with rfl|rfl|rfl|rfl|rfl <;> omega
 exact I1.fpOk hge<|I1.hok.fresh hge
def rAll (K:W.Frag):List V->Hp->VK->Prop:=λxs H Q=>∃(p:Addr) (bs:List Bool),xs=[.ref p]/\SqL K H p (bs.map V.bl)/\Q (.bl<|bs.all id) H
theorem allK (K:W.Frag) (hc:X.calm=true) (hK:X.K=K:=by rfl):CallR X (.builtin "all") (rAll K):=by
 subst hK;intro pins s σ H xs us Q I r h;obtain⟨p,bs,rfl,hx,q⟩:=h;obtain⟨u,rfl,ru⟩:=vals1 r;cases (show u=Value.ref p from ru);obtain⟨its,w1,p1,_⟩:=I.list hx;have hlt:p<s.heap.objs.size:=by obtain⟨o,e,_⟩:=p1.isList;exact Wax e
 have hval:∀(bs:List Bool) (its:List Value),Vals (bs.map V.bl) its->its=bs.map Value.bool:=by
  intro bs
  induction bs with
  |nil=>intro its h;cases h;rfl
  |cons b r ih=>intro its h;cases h with|cons h1 h2=>cases (show _=Value.bool b from h1);rw[ih _ h2];rfl
 have e:=hval bs its w1;subst e;refine call_all_walk<|wpAny_pyIter_list p1.isList ?_;refine⟨s.heap.objs.size,_,_,_,_,_,λi=>bs.getD i false,rfl,Walks.list (prog:=X.prog) (w:=X.w) (A:=X.A.in1) (show X.A.in1.handled=none from I.ok.hd hc) s.heap.objs.size p (Wa8 hlt) (bs.map Value.bool).toArray,⟨⟨_,Wao _ rfl,rfl,rfl⟩,p1.isList.push _⟩,?_,λh' tk hk=>?_⟩
 ·intro i v s0 Q0 E0 hv hq
  have hv:(bs.map Value.bool).toArray[i]?=some v:=hv;have hv:(bs.map Value.bool)[i]?=some v:=by simpa using hv
  rw[Wad]at hv;cases z:bs[i]? with
  |none=>rw[z]at hv;cases hv
  |some b=>
   rw[z]at hv;have hv:Value.bool b=v:=by simpa using hv
   subst hv;have e0:bs.getD i false=b:=by rw[Waf,z];rfl
   have hq:Q0 (bs.getD i false) s0:=hq;rw[e0]at hq;exact wpAny_truthy_bool hq
 ·have e:(Waq (bs.map Value.bool).toArray.size).all (λi=>bs.getD i false)=bs.all id:=by
   rw[Wah,Waa];rw[Wcw,Wba,Wba];constructor
   ·intro hh b hb
    obtain⟨i,hi,rfl⟩:=Wc6.mp hb;have:=hh i<|Wav.mpr hi;rw[Waf,Wab hi]at this;exact this
   ·intro hh i hi
    rw[Wav]at hi;rw[Waf,Wab hi];exact hh _<|Wbl hi
  rw[e];have I0:Inv X pins σ H { s with heap:=s.heap.push { cls:=.type "list_iterator",data:=.fields #[.ref p,.int 0 0] },toks:=s.toks }:=I.kept λb o e=>Wac _ e;refine⟨.bl<|bs.all id,H,I0.turned (it:=s.heap.objs.size) (λb o hb e=>hk b o (by simpa using hb) e) (I.hok.fresh<|Wak _) (Wdl I.lt) (.inr I.sz) ?_ ?_,rfl,q⟩
  ·have:=I.fpOk (b:=s.heap.objs.size) (H':=H) (Wak _) (I.hok.fresh<|Wak _)
   exact this.2.2.2.2.1
  ·have:=I.fpOk (b:=s.heap.objs.size) (H':=H) (Wak _) (I.hok.fresh<|Wak _)
   exact this.2.2.2.2.2
def rIsiU (K:W.Frag):List V->Hp->VK->Prop:=λxs H Q=>rIsi K xs H Q\/∃(x:V) (p:Addr) (ns:List String) (T:String) (b:Bool),xs=[x,.ref p]/\H p=some (.tup<|ns.map V.ty)/\TyOf K H x (.type T)/\PySem.W.kitAny K (.type T) (ns.map Value.type)=some b/\Q (.bl b) H
theorem Zmf {pins:List (Addr × Obj)}{σ:St}{H:Hp}{s:Shared}{x:V}{u t:Value}(I:Inv X pins σ H s) (rx:RelV x u) (ty:TyOf X.K H x t) (nt:∃T,t=.type T):∃Hh:Heap->Prop,PySem.W.KitX X.K u t Hh/\Hh s.heap/\u≠.builtin "__main__.__loader__#opaque":=by
 cases ty with
 |non=>cases (show u=Value.none from rx);exact⟨_,PySem.W.kitx_none,True.intro,λz=>nomatch z⟩
 |bl y=>cases (show u=Value.bool y from rx);exact⟨_,PySem.W.kitx_bool,True.intro,λz=>nomatch z⟩
 |int i=>obtain⟨t,q⟩:=(show ∃t,u=Value.int i t from rx);cases q;exact⟨_,PySem.W.kitx_int,True.intro,λz=>nomatch z⟩
 |str y=>obtain⟨t,q⟩:=(show ∃t,u=Value.str y t from rx);cases q;exact⟨_,PySem.W.kitx_str,True.intro,λz=>nomatch z⟩
 |flt y=>obtain⟨t,q⟩:=(show ∃t,u=Value.float y t from rx);cases q;exact⟨_,PySem.W.kitx_float,True.intro,λz=>nomatch z⟩
 |@lst a xs ea=>
  cases (show u=Value.ref a from rx);obtain⟨_,_,n,_,h1⟩:=(show ObjOk X.prog X.w H s.heap a (.lst xs) from I.hok a _ ea);exact⟨_,PySem.W.kitx_list,⟨_,h1,rfl⟩,λz=>nomatch z⟩
 |@frz a ob xs ea=>
  cases (show u=Value.ref a from rx);obtain⟨_,_,_,n,_,h1⟩:=(show ObjOk X.prog X.w H s.heap a (.frz ob (.lst xs)) from I.hok a _ ea);exact⟨_,PySem.W.kitx_list,⟨_,h1,rfl⟩,λz=>nomatch z⟩
 |@tup a xs ea=>
  cases (show u=Value.ref a from rx);obtain⟨_,_,_,p⟩:=(show ObjOk X.prog X.w H s.heap a (.tup xs) from I.hok a _ ea);obtain⟨o,h1,⟨h2,_⟩,_⟩:=p;exact⟨_,PySem.W.kitx_tuple,⟨o,h1,h2⟩,λz=>nomatch z⟩
 |@dK a kvs ea=>
  cases (show u=Value.ref a from rx);obtain⟨_,_,vs,_,p⟩:=(show ObjOk X.prog X.w H s.heap a (.dK kvs) from I.hok a _ ea);obtain⟨o,es,ep,h1,h2,_⟩:=p;exact⟨_,PySem.W.kitx_dict,⟨o,h1,h2.1⟩,λz=>nomatch z⟩
 |@dT a kvs ea=>
  cases (show u=Value.ref a from rx);obtain⟨_,_,xs,_,o,es,ep,h1,h2,_⟩:=(show ObjOk X.prog X.w H s.heap a (.dT kvs) from I.hok a _ ea);exact⟨_,PySem.W.kitx_dict,⟨o,h1,h2.1⟩,λz=>nomatch z⟩
 |@ins a C dx fs ea cl ha hn htk hm=>obtain⟨T,e⟩:=nt;cases e
theorem isiUK (K:W.Frag) (hK:X.K=K:=by rfl):CallR X (.builtin "isinstance") (rIsiU K):=by
 subst hK;refine CallR.or Zke ?_;intro pins s σ H xs us Q I r h;obtain⟨x,p,ns,T,b,rfl,hp,ty,e,q⟩:=h;obtain⟨u,u',rfl,rx,rn⟩:=vals2 r;cases (show u'=Value.ref p from rn);obtain⟨Hh,Z,hz,hne⟩:=Zmf I rx ty ⟨T,rfl⟩;obtain⟨_,its,rv,o,ho,⟨hc,n,hd⟩,hdd⟩:=I.hok p _ hp;have hv:∀(ns:List String) (its:List Value),Vals (ns.map V.ty) its->its=ns.map Value.type:=by
  intro ns
  induction ns with
  |nil=>intro its h;cases h;rfl
  |cons b r ih=>intro its h;cases h with|cons h1 h2=>cases (show _=Value.type b from h1);rw[ih _ h2];rfl
 have e2:=hv ns its rv;subst e2;obtain⟨cls,dd,data,sl⟩:=o;simp only at hc hd hdd;subst hc hd hdd;exact PySem.W.kia_tup Z I.kIn hz ho e hne λtk=>⟨.bl b,H,I.tok _,rfl,q⟩
end
section
variable {K:W.Frag}{Δ:Evt}
theorem Zky {b:Bool}{G:Hp}{l1 l2:Addr}{xs ys:List V}{ds es:List D}(h1:∀G1 H1,Same G G1->Same G1 H1->SqB b K H1 l1 xs) (h2:∀G1 H1,Same G G1->Same G1 H1->SqB b K H1 l2 ys) (r1:Reps K G xs ds) (r2:Reps K G ys es) (hl:ds.length=es.length) :
  ItOk K G (Izb b K l1 l2) ((ds.zip es).map λp=>D.tup [p.1,p.2]):=λG1 H1 sg sh=>by
 have hl1:=r1.length;have hl2:=r2.length;have e1:=h1 G1 H1 sg sh;have e2:=h2 G1 H1 sg sh;refine⟨⟨xs,ys,e1,e2,.inl (by rw[Waa,Wdw];omega)⟩,λi d hd=>?_⟩;rw[Wad]at hd;cases q:(ds.zip es)[i]? with
 |none=>rw[q]at hd;cases hd
 |some pr=>
  rw[q]at hd;have hd:D.tup [pr.1,pr.2]=d:=by simpa using hd
  subst hd;rw[Wce]at q;obtain⟨u,hu,ru⟩:=r1.get q.1;obtain⟨v,hv,rv⟩:=r2.get q.2;refine⟨⟨xs,ys,u,v,e1,e2,hu,hv⟩,λx H2 ⟨p,a,b',hp,ex,eH,hab⟩=>?_⟩;obtain⟨ha,hb⟩:=hab xs ys e1 e2;rw[hu]at ha;rw[hv]at hb;cases ha;cases hb;subst ex;subst eH;have hG:G1 p=none:=by
   cases z:G1 p with
   |none=>rfl
   |some o=>rw[sh _ _ z]at hp;cases hp
  refine⟨upd G1 p (.tup [u,v]),λc o e=>by rw[Zan (Zap e hG)];exact e,λc o e=>by rw[Zan (Zap e hp)];exact e,λc o e=>?_,?_⟩
  ·by_cases hc:c=p
   ·subst hc;rw[Zat]at e ⊢;exact⟨e,.inr hp⟩
   ·rw[Zan hc]at e ⊢;exact⟨sh c o e,.inl e⟩
  ·have sg2:Same G1 (upd G1 p (.tup [u,v])):=λc o e=>by rw[Zan (Zap e hG)];exact e
   exact .tup Zat (.cons ((ru.mono sg).mono sg2) (.cons ((rv.mono sg).mono sg2) .nil))
theorem Zw3 {ta:TA}{P:List D->Evt->Prop}(h:JA K ta Δ λds Δ1=>∃as bs,ds=[.lst as,.lst bs]/\as.length=bs.length/\P ((as.zip bs).map λp=>D.tup [p.1,p.2]) Δ1):JI K (iZip K ta) Δ P:=λg G H σ R k c=>
 h g G H σ _ k λvs ds G1 H1 Δ1 k1 s1 r1 hq_=>by
  obtain⟨as,bs,e,hl,p1⟩:=hq_;subst e;obtain⟨_,_,rfl,ra,rr⟩:=r1.inv
  next=>
   obtain⟨_,_,rfl,rb,rr⟩:=rr.inv
   next=>
    cases rr.inv;obtain⟨_,_,rfl,ha,rsa⟩:=ra.inv
    next=>
     obtain⟨_,_,rfl,hb,rsb⟩:=rb.inv
     next=>
      exact⟨false,_,_,rfl,⟨_,SqL.of<|k1.live _ _ ha⟩,⟨_,SqL.of<|k1.live _ _ hb⟩,c _ _ G1 H1 Δ1 k1 s1 (Zky (λ_ _ sg sh=>SqL.of<|sh _ _<|sg _ _ ha) (λ_ _ sg sh=>SqL.of<|sh _ _<|sg _ _ hb) rsa rsb hl) p1⟩
theorem Zuy {ta:TA}{P:List D->Evt->Prop}(h:JA K ta Δ λds Δ1=>∃as bs,ds=[.tup as,.tup bs]/\as.length=bs.length/\P ((as.zip bs).map λp=>D.tup [p.1,p.2]) Δ1):JI K (iZip K ta) Δ P:=λg G H σ R k c=>
 h g G H σ _ k λvs ds G1 H1 Δ1 k1 s1 r1 hq_=>by
  obtain⟨as,bs,e,hl,p1⟩:=hq_;subst e;obtain⟨_,_,rfl,ra,rr⟩:=r1.inv
  next=>
   obtain⟨_,_,rfl,rb,rr⟩:=rr.inv
   next=>
    cases rr.inv;obtain⟨_,_,rfl,ha,rsa⟩:=ra.inv
    next=>
     obtain⟨_,_,rfl,hb,rsb⟩:=rb.inv
     next=>
      exact⟨true,_,_,rfl,⟨_,SqT.of<|k1.live _ _ ha⟩,⟨_,SqT.of<|k1.live _ _ hb⟩,c _ _ G1 H1 Δ1 k1 s1 (Zky (λ_ _ sg sh=>SqT.of<|sh _ _<|sg _ _ ha) (λ_ _ sg sh=>SqT.of<|sh _ _<|sg _ _ hb) rsa rsb hl) p1⟩
theorem Zf4 {bs:List Bool}{P:D->Evt->Prop}(p:P (.bl<|bs.all id) Δ):JC K (rAll K) [.lst (bs.map D.bl)] Δ P:=λg G H σ Q vs k rs c=>by
 obtain⟨_,_,rfl,r,t⟩:=rs.inv
 next=>
  cases t.inv;obtain⟨a,ws,rfl,ha,rs⟩:=r.inv
  next=>
   have e:∀(bs:List Bool) (ws:List V),Reps K G ws (bs.map D.bl)->ws=bs.map V.bl:=by
    intro bs
    induction bs with
    |nil=>intro ws h;cases h;rfl
    |cons b r ih=>intro ws h;cases h with|cons h1 h2=>cases h1;rw[ih _ h2];rfl
   have:=e bs ws rs;subst this;exact⟨_,bs,rfl,SqL.of<|k.live _ _ ha,c _ _ G H Δ k (Same.refl _) (.bl _) p⟩
theorem Zcx {d:D}{n T:String}{b:Bool}{P:D->Evt->Prop}(ht:tyD d=some T) (e:∀K,PySem.W.kitOne K (.type T) (.type n)=some b) (p:P (.bl b) Δ):JC K (rIsiU K) [d,.ty n] Δ P:=λg G H σ Q vs k rs c=>.inl<|Zvy ht e p g G H σ Q vs k rs c
theorem Znq {d:D}{ns:List String}{T:String}{b:Bool}{P:D->Evt->Prop}(ht:tyD d=some T) (e:∀K,PySem.W.kitAny K (.type T) (ns.map Value.type)=some b) (p:P (.bl b) Δ):JC K (rIsiU K) [d,.tup (ns.map D.ty)] Δ P:=λg G H σ Q vs k rs c=>by
 obtain⟨_,_,rfl,r,t⟩:=rs.inv
 next=>
  obtain⟨_,_,rfl,r',t⟩:=t.inv
  next=>
   cases t.inv;obtain⟨a,ws,rfl,ha,rs⟩:=r'.inv
   next=>
    have e1:∀(ns:List String) (ws:List V),Reps K G ws (ns.map D.ty)->ws=ns.map V.ty:=by
     intro ns
     induction ns with
     |nil=>intro ws h;cases h;rfl
     |cons b r ih=>intro ws h;cases h with|cons h1 h2=>cases h1;rw[ih _ h2];rfl
    have:=e1 ns ws rs;subst this;refine .inr ⟨_,a,ns,T,b,rfl,k.live _ _ ha,?_,e K,c _ _ G H Δ k (Same.refl _) (.bl b) p⟩;cases r with
    |non=>cases ht;exact .non
    |bl b=>cases ht;exact .bl b
    |int i=>cases ht;exact .int i
    |str x=>cases ht;exact .str x
    |ty n=>cases ht
    |scr ha rs=>cases ht
    |adr a=>cases ht
    |dct ha hl rs=>cases ht;exact .dK (k.live _ _ ha)
    |exc ha=>cases ht
    |lst ha rs=>cases ht;exact .lst (k.live _ _ ha)
    |tup ha rs=>cases ht;exact .tup (k.live _ _ ha)
end
section
variable {prog:Program}{w:World}{A:Around}{E:Value->Shared->Prop}{s:Shared}
theorem Zsv {b:Bool}{e j a:Addr}{i:Nat}{ws:Array Value}{x old:Value}{Q:Option Value->Shared->Prop}(ge:IsEnum s.heap e j i old) (g:ItB b s.heap j a i) (l:HsB b s.heap a ws) (ex:ws[i]?=some x) (ne:e≠j)
  (q:∀h',IsEnumOut h' e j ((i:Int)+1) x s.heap.objs.size->ItB b h' j a (i+1)->h'.get? s.heap.objs.size=some { cls:=.type "tuple",data:=.seq #[.int i s.toks,x] } →
   (∀c o,c≠e->c≠j->s.heap.get? c=some o->h'.get? c=some o)->Q (some (.ref s.heap.objs.size)) { s with heap:=h',toks:=s.toks+1 }):wpAny (model prog w) A (pyNext (.ref e)) Q E s:=by
 cases b
 ·exact wpAny_pyNext_enum_item ge g l ex ne λh' b1 b2 b3 _ b4=>q h' b1 b2 b3 b4
 obtain⟨hp,g0,d,tk,os⟩:=s;have ty:Shared.TypeIs ⟨hp,g0,d,tk,os⟩ (.ref e) "enumerate":=⟨_,ge,rfl⟩;unfold pyNext;refine wpAny_bind<|wpAny_attempt<|wpAny_callSpecial?_slot (name:=Str.ofString "__next__") ty F.slot_enumerate_next<|wpAny_call_entry F.slot_enumerate_next ty F.entry_enumerate_next ?_<|F.args_enumerate_next_1 _;refine(show wpAny _ _ (field (.ref e) 2 >>= _) _ _ _ from wpAny_bind (wpAny_field ge rfl (x:=.ref j) rfl<|wpAny_bind (Zh0 (b:=true) g l ex λh₁ g₁ s₁=>?_)))
 replace s₁:Heap.SameBut j hp h₁:=s₁
 have e₁:IsEnum h₁ e j i old:=(s₁.2 e ne).trans ge;refine(show wpAny _ _ (field (.ref e) 3 >>= _) _ _ ⟨h₁,g0,d,tk,os⟩ from wpAny_bind (wpAny_field e₁ rfl (x:=rawInt i) rfl ?_));refine(show wpAny _ _ (field (.ref e) 4 >>= _) _ _ ⟨h₁,g0,d,tk,os⟩ from wpAny_bind (wpAny_field e₁ rfl (x:=.none) rfl ?_));refine(show wpAny _ _ (mkInt i >>= _) _ _ ⟨h₁,g0,d,tk,os⟩ from wpAny_bind (wpAny_mkInt ?_));refine(show wpAny _ _ (setField (.ref e) 3 (rawInt ((i:Int)+1)) >>= _) _ _ ⟨h₁,g0,d,tk+1,os⟩ from wpAny_bind (wpAny_setField_rec e₁ (by simp) λh₂ e₂ s₂=>?_))
 replace s₂:Heap.SameBut e h₁ h₂:=s₂
 replace e₂:IsEnum h₂ e j ((i:Int)+1) old:=e₂
 refine(show wpAny _ _ (setField (.ref e) 4 .none >>= _) _ _ ⟨h₂,g0,d,tk+1,os⟩ from wpAny_bind (wpAny_setField_rec e₂ (by simp) λh₃ e₃ s₃=>?_))
 replace s₃:Heap.SameBut e h₂ h₃:=s₃
 replace e₃:IsEnum h₃ e j ((i:Int)+1) old:=e₃
 refine(show wpAny _ _ (newTuple [.int i tk,x] >>= _) _ _ ⟨h₃,g0,d,tk+1,os⟩ from wpAny_bind (wpAny_newTuple ?_));have e₄:IsEnum (h₃.push { cls:=.type "tuple",data:=.seq #[.int i tk,x] }) e j ((i:Int)+1) old:=Wac _ e₃;generalize eh₄:h₃.push { cls:=.type "tuple",data:=.seq #[.int i tk,x] } = h₄ at e₄;have n3:h₃.objs.size=hp.objs.size:=by rw[s₃.1,s₂.1,s₁.1]
 have el:e<hp.objs.size:=Wax ge;have t₄:h₄.get? hp.objs.size=some { cls:=.type "tuple",data:=.seq #[.int i tk,x] }:=by rw[<- eh₄,<- n3];exact Wao _ rfl
 have k₄:∀c o,c≠e->c≠j->hp.get? c=some o->h₄.get? c=some o:=λc o c1 c2 z=>by rw[<- eh₄];exact Wac _<|s₃.extBut c o c1<|s₂.extBut c o c1<|s₁.extBut c o c2 z
 have g₄:ItB true h₄ j a (i+1):=by rw[<- eh₄];exact((g₁.off s₂.extBut<|Ne.symm ne).off s₃.extBut (Ne.symm ne)).at λo z=>Wac _ z
 refine(show wpAny _ _ (Builtin.SmallTypes.ownedTupleIsFree (.ref e) >>= _) _ _ ⟨h₄,g0,d,tk+1,os⟩ from ?_);rw[n3];clear eh₄ e₃ s₃ e₂ s₂ e₁ s₁ g₁ n3 h₃ h₂ h₁;refine wpAny_bind ?_;unfold Builtin.SmallTypes.ownedTupleIsFree;refine wpAny_bind<|wpAny_field e₄ rfl (x:=.none) rfl<|wpAny_pure ?_;simp only[if_true];refine wpAny_bind<|wpAny_rule<|wpAny_bind<|wpAny_field e₄ rfl (x:=old) rfl<|wpAny_bind (wpAny_setField_rec e₄ (by simp) λh₅ e₅ s₅=>?_)
 replace s₅:Heap.SameBut e h₄ h₅:=s₅
 replace e₅:IsEnum h₅ e j ((i:Int)+1) x:=e₅
 refine(show wpAny _ _ (Builtin.SmallTypes.ownedTupleHandOut (.ref e) (.ref hp.objs.size) >>= _) _ _ ⟨h₅,g0,d,tk+1,os⟩ from wpAny_bind ?_);unfold Builtin.SmallTypes.ownedTupleHandOut;refine wpAny_bind (wpAny_setField_rec e₅ (by simp) λh₆ e₆ s₆=>?_)
 replace s₆:Heap.SameBut e h₅ h₆:=s₆
 replace e₆:IsEnumOut h₆ e j ((i:Int)+1) x hp.objs.size:=e₆
 refine wpAny_setField_rec e₆ (by simp) λh₇ e₇ s₇=>?_
 replace s₇:Heap.SameBut e h₆ h₇:=s₇
 replace e₇:IsEnumOut h₇ e j ((i:Int)+1) x hp.objs.size:=e₇
 have up:∀c o,c≠e->h₄.get? c=some o->h₇.get? c=some o:=λc o c1 z=>s₇.extBut c o c1<|s₆.extBut c o c1<|s₅.extBut c o c1 z;exact wpAny_bind<|wpAny_letGo<|wpAny_pure ⟨_,rfl,wpAny_pure (q h₇ e₇ (g₄.at λo z=>up j o (Ne.symm ne) z) (up _ _ (Wdl el) t₄) λc o c1 c2 z=>up c o c1<|k₄ c o c1 c2 z)⟩
theorem Zwv {b:Bool}{e j a:Addr}{i:Nat}{ws:Array Value}{old:Value}{Q:Option Value->Shared->Prop}(hh:A.handled=none) (ge:IsEnum s.heap e j i old) (g:ItB b s.heap j a i) (l:HsB b s.heap a ws) (ex:ws[i]?=none)
  (q:∀h',Heap.ExtBut j s.heap h' -> Q none { s with heap:=h' }):wpAny (model prog w) A (pyNext (.ref e)) Q E s:=by
 have ty:s.TypeIs (.ref e) "enumerate":=⟨_,ge,rfl⟩;unfold pyNext;refine wpAny_bind<|wpAny_attempt<|wpAny_callSpecial?_slot (name:=Str.ofString "__next__") ty F.slot_enumerate_next<|wpAny_call_entry F.slot_enumerate_next ty F.entry_enumerate_next ?_<|F.args_enumerate_next_1 _;refine(show wpAny _ _ (field (.ref e) 2 >>= _) _ _ _ from wpAny_bind (wpAny_field ge rfl (x:=.ref j) rfl<|wpAny_bind (Zp4 hh g l ex λh' x e' ⟨o,ho,hc⟩=>?_)));exact wpAny_bind<|wpAny_isInstance (T:="StopIteration") (b:=true) ⟨o,ho,hc⟩ isSubtype_stop<|wpAny_pure<|q _ e'
theorem Zra (a:Addr) (ws:Array Value) (n:Nat) (dct:Option Addr) (sl:Array (Option Value)) :
  Meets (Builtin.«enumerate.__new__» ⟨[.type "enumerate",.ref a],[]⟩) (λ_ R s=>s.heap.get? a=some ⟨.type "tuple",dct,.seq ws n,sl⟩ ∧
   R (.ok (.ret (.ref (zt1 s.heap a).objs.size))) { s with heap:=(zt1 s.heap a).push ⟨.type "enumerate",none,.fields #[.none,.bool false,.ref s.heap.objs.size,rawInt 0,.none,.none],#[]⟩ }):=.of_wp λprog w A R s h=>by
 obtain⟨hp,g,d,tk,os⟩:=s;obtain⟨l,h⟩:=h;have sub0:=sub_enumerate;have t0:Heap.IsTuple (Shared.heap ⟨hp,g,d,tk,os⟩) a ws:=⟨_,l,rfl,n,rfl⟩
 wp_walk using AutoSeq1.wpAny_loadPart' l
 refine wpAny_stack_any λst=>wpAny_pure ?_;split
 ·rename_i c _ _ _ _ _
  cases (c == Value.type "enumerate") <;> (wp_walk using AutoSeq1.wpAny_loadPart' l,wpAny_pyIter_tuple t0;exact⟨_,rfl,h⟩)
 ·wp_walk using AutoSeq1.wpAny_loadPart' l,wpAny_pyIter_tuple t0
  exact⟨_,rfl,h⟩
theorem Zus {b:Bool}{a:Addr}{ws:Array Value}{Q:Value->Shared->Prop}(l:HsB b s.heap a ws)
  (q:∀h',IsEnum h' (s.heap.objs.size+1) s.heap.objs.size 0 .none->ItB b h' s.heap.objs.size a 0->(∀c o,s.heap.get? c=some o->h'.get? c=some o)->Q (.ref<|s.heap.objs.size+1) { s with heap:=h' }):wpAny (model prog w) A (call (.type "enumerate") [.ref a]) Q E s:=by
 cases b
 ·exact call_enumerate_list l λh' b1 b2 _ b3=>q h' b1 b2 b3
 ·obtain⟨⟨oc,od,oda,os⟩,l1,hc,n,hd⟩:=l
  dsimp only at hc hd;subst hc hd;refine callType_new F.called_enumerate (by decide) (F.typeCall_enumerate_1 _) (F.newCall_enumerate_1 _) (λobj=>F.args_object_init_2 obj _) F.entry_enumerate_new (Zra a ws n od os) ⟨l1,?_⟩;have z1:(zt1 s.heap a).objs.size=s.heap.objs.size+1:=Wcf ..;show _/\_;rw[z1];have he:IsEnum ((zt1 s.heap a).push ⟨.type "enumerate",none,.fields #[.none,.bool false,.ref s.heap.objs.size,rawInt 0,.none,.none],#[]⟩) (s.heap.objs.size+1) s.heap.objs.size 0 .none:=by
   rw[<- z1];exact Wao _ rfl
  exact⟨⟨_,he,rfl⟩,q _ he ⟨_,Wac _<|Wao _ rfl,rfl,rfl⟩ λc o z=>Wac _<|Wac _ z⟩
end
def Ieb (b:Bool) (K:W.Frag) (l:Addr):It:=
 ⟨λi H=>∃xs x,SqB b K H l xs/\xs[i]?=some x,
  λi H v H'=>∃p x,H p=none/\v=.ref p/\H'=upd H p (.tup [.int (i:Int),x])/\∀xs,SqB b K H l xs->xs[i]?=some x,
  λi H=>∃xs,SqB b K H l xs/\xs.length<=i⟩
theorem Zsz {b:Bool}{P:Program}{w:World}{K:W.Frag}{es:List Expr}{kk:Nat}{tp:Pos}(l z j:Addr) (D:z≠j):Turn P w K (.Tuple es kk tp) (Ieb b K l) [z,j] z
  (λi h=>(∃old,IsEnum h z j i old)/\ItB b h j l i) where
 mem:=by simp
 obj:=λi h st b2 hb=>by
  obtain⟨⟨old,hz⟩,h1⟩:=st;obtain⟨o1,e1,d1⟩:=h1.obj;simp only[Wap,Wb2,or_false]at hb;rcases hb with rfl|rfl
  ·exact⟨_,hz,λv q=>by cases q⟩
  ·exact⟨o1,e1,λv q=>by rw[d1]at q;cases q⟩
 keep:=λi h h' st k=>by
  obtain⟨⟨old,hz⟩,h1⟩:=st;exact⟨⟨old,k z (by simp) _ hz⟩,h1.at λo e=>k j (by simp) o e⟩
 item:=by
  intro X hP hw hK hc i pins s σ H E I hf st hg;subst hP hw hK;obtain⟨⟨old,hz⟩,h1⟩:=st;obtain⟨xs,x,hq1,hx⟩:=hg;obtain⟨its1,r1,p1⟩:=I.seqB hq1;obtain⟨u1,hu1,ru1⟩:=r1.get hx;refine Zsv hz h1 p1 (x:=u1) (by simpa using hu1) D λh' b1 b2 b3 hk=>?_;refine⟨_,rfl,wpAny_letOwnedTupleGo_enum (s:={ s with heap:=h',toks:=s.toks+1 }) b1 λh'' hz'' hs''=>?_⟩;have lt:∀{c o},s.heap.get? c=some o->c≠s.heap.objs.size:=λe=>Wa8<|Wax e;have hTz:s.heap.objs.size≠z:=Ne.symm<|lt hz;have hTfree:H s.heap.objs.size=none:=I.hok.fresh<|Wak _;have kept:∀c o,c ∉ [z,j]->s.heap.get? c=some o->h''.get? c=some o:=λc o hc e=>by
   simp only[Wap,Wb2,or_false,not_or]at hc;exact hs''.extBut _ _ hc.1<|hk c o hc.1 hc.2 e
  have hT:h''.get? s.heap.objs.size=some { cls:=.type "tuple",data:=.seq #[.int i s.toks,u1] }:=hs''.extBut _ _ hTz b3;have ntr:∀c o,H c=some o->c ∉ [z,j]:=λc o e hc=>by rw[(hf c hc).1]at e;cases e
  have hok:HOk X.prog X.w (upd H s.heap.objs.size (.tup [.int (i:Int),x])) h'':=λc o e=>by
   by_cases hcT:c=s.heap.objs.size
   ·subst hcT
    rw[Zat]at e;cases e;exact⟨by show 2<=sizeLine;decide,[.int i s.toks,u1],.cons ⟨_,rfl⟩ (.cons ru1 .nil),_,hT,⟨rfl,_,rfl⟩,rfl⟩
   ·rw[Zan hcT]at e
    refine(I.hok c o e).stay (λd v hd q=>kept d v ?_ q) (λd q=>by rw[Zan (Zap q hTfree)];exact q) λd zs q=>by rw[Zan (Zap q hTfree)];exact q
    rcases hd with hd|hd
    ·rw[hd];exact ntr c o e
    ·exact ntr d _ hd
  have I2:Inv X pins σ (upd H s.heap.objs.size (.tup [.int (i:Int),x])) { s with heap:=h'',toks:=s.toks+1 }:=by
   refine I.call (g':=s.gens) (t':=s.toks+1) (d':=s.drawn) (ch:=[z,j]) ⟨λc o e n hc hx=>kept c o hx e,λc o e n hc hx=>⟨o.slots,kept c o hx e⟩,λc o e n hx=>by rw[Zan (lt e)];exact n,λc o e hx=>⟨o,kept c o hx e⟩,
    λc zs q=>by rw[Zan (Zap q hTfree)];exact q,λc o zs q=>by rw[Zan (Zap q hTfree)];exact q,λc zs q=>⟨#[],by rw[Zan (Zap q hTfree),q];simp⟩⟩ hok I.bare λc hcc=>?_
   obtain⟨f0,f1,f2,f3,f4,f5⟩:=hf c hcc;exact⟨f3,f1,f4,f5⟩
  refine⟨.ref s.heap.objs.size,_,I2,rfl,⟨s.heap.objs.size,x,hTfree,rfl,rfl,λxs' q1=>?_⟩,⟨⟨_,by have:=hz'';push_cast at this ⊢;exact this⟩,b2.off hs''.extBut<|Ne.symm D⟩,λc hcc=>?_⟩
  ·rw[I.seqB_inj q1 hq1];exact hx
  ·have hcl:c≠s.heap.objs.size:=by
    simp only[Wap,Wb2,or_false]at hcc;obtain⟨_,e1,_⟩:=h1.obj;rcases hcc with rfl|rfl
    ·exact lt hz
    ·exact lt e1
   rw[Zan hcl];exact(hf c hcc).1
 done:=by
  intro X hP hw hK hc i pins s σ H E I hf st hg;subst hP hw hK;obtain⟨⟨old,hz⟩,h1⟩:=st;obtain⟨xs,hq1,hend⟩:=hg;obtain⟨its1,r1,p1⟩:=I.seqB hq1;have l1':=r1.length;refine Zwv (I.ok.hd hc) hz h1 p1 (by simp;omega) λh' hk=>⟨rfl,?_⟩;have kept:∀c o,c ∉ [z,j]->s.heap.get? c=some o->h'.get? c=some o:=λc o hc e=>by
   simp only[Wap,Wb2,or_false,not_or]at hc;exact hk c o hc.2 e
  have ntr:∀c o,H c=some o->c ∉ [z,j]:=λc o e hc=>by rw[(hf c hc).1]at e;cases e
  refine I.call (g':=s.gens) (t':=s.toks) (d':=s.drawn) (ch:=[z,j]) ⟨λc o e n hc hx=>kept c o hx e,λc o e n hc hx=>⟨o.slots,kept c o hx e⟩,λc o e n hx=>n,λc o e hx=>⟨o,kept c o hx e⟩,
   λc zs q=>q,λc o zs q=>q,λc zs q=>⟨#[],by rw[q];simp⟩⟩ (λc o e=>?_) I.bare λc hcc=>?_
  ·refine(I.hok c o e).stay (λd v hd q=>kept d v ?_ q) (λd q=>q) λd zs q=>q
   rcases hd with hd|hd
   ·rw[hd];exact ntr c o e
   ·exact ntr d _ hd
  ·obtain⟨f0,f1,f2,f3,f4,f5⟩:=hf c hcc
   exact⟨f3,f1,f4,f5⟩
 self:=λ_ _ _ _ _ st h=>by
  obtain⟨⟨old,hz⟩,_⟩:=st;exact wpAny_pyIter_enum hz h
theorem Zjt:bootBuiltins "enumerate" = some (.type "enumerate"):=by kernel_rfl
section
variable {X:Cx}
def iEnum (K:W.Frag) (ta:TA):TI:=λσ H R=>ta σ H λvs H1=>∃b l,vs=[.ref l]/\(∃xs,SqB b K H1 l xs)/\R (Ieb b K l) H1
theorem Zea (K:W.Frag) {es:List Expr}{kk:Nat}{tp:Pos}{a:Expr}{ta:TA}{p pos:Pos}(hg:Gl X "enumerate") (hm:X.mg "enumerate" = none) (ha:PA X [a] ta) (hs:starEach [a] X.env=[(false,eval a X.env)]:=by rfl) (hs2:starEach [] X.env=[]:=by rfl) (hK:X.K=K:=by rfl) :
  PI X (.Tuple es kk tp) (.Call (.Name "enumerate" p) [a] [] pos) (iEnum K ta):=by
 subst hK;intro pins s σ H R I h;refine Call_<|Zew I hg hm (Zjt)<|PyProof.Rows.callWith_type1 (thn (ha pos pins s σ H _ I h) λus s1 ⟨vs,H1,I1,r1,q1⟩=>?_) (by rw[hs,hs2]) (by rw[hs2];rfl);obtain⟨b,l1,e,⟨xs,hx⟩,q⟩:=q1;subst e;obtain⟨u1,rfl,q1⟩:=vals1 r1;cases (show u1=Value.ref l1 from q1);obtain⟨its1,w1,p1⟩:=I1.seqB hx;refine Zus p1 λh' b1 b2 hk=>?_;refine wpAny_pyIter_enum b1 ?_;have I2:Inv X pins σ H1 { s1 with heap:=h' }:=I1.kept (t':=s1.toks) hk;refine⟨s1.heap.objs.size+1,[s1.heap.objs.size+1,s1.heap.objs.size],_,_,H1,rfl,I2,Zsz l1 _ _<|Nat.succ_ne_self _,⟨⟨_,b1⟩,b2⟩,λb hb=>?_,q⟩;have hge:s1.heap.objs.size<=b:=by
  simp only[Wap,Wb2,or_false]at hb;rcases hb with rfl|rfl <;> omega
 exact I1.fpOk hge<|I1.hok.fresh hge
def rMin1 (K:W.Frag):List V->Hp->VK->Prop:=λxs H Q=>∃(b:Bool) (p:Addr) (ns:List Int),xs=[.ref p]/\SqB b K H p (ns.map V.int)/\0<ns.length/\∀m,m∈ns->(∀a∈ns,m<=a)->Q (.int m) H
theorem minK (K:W.Frag) (hc:X.calm=true) (hK:X.K=K:=by rfl):CallR X (.builtin "min") (rMin1 K):=by
 subst hK;intro pins s σ H xs us Q I r h;obtain⟨b,p,ns,rfl,hx,hne,q⟩:=h;obtain⟨u,rfl,ru⟩:=vals1 r;cases (show u=Value.ref p from ru);obtain⟨its,w1,p1⟩:=I.seqB hx;have hlt:=p1.lt;have hl:=w1.length;rw[Waa]at hl;have hv:∀(i:Nat) v,its.toArray[i]?=some v->∃t,v=Value.int (ns.getD i 0) t:=λi v e=>by
  have hi:i<its.length:=by simpa using (Array.getElem?_eq_some_iff.mp e).1
  obtain⟨v',e1,t,e2⟩:=w1.get (i:=i) (x:=.int<|ns.getD i 0) (by rw[Wad,Waf,Wab (by omega)];rfl);rw[List.getElem?_toArray,e1]at e;cases e;exact⟨t,e2⟩
 have fin:∀{h':Heap}{tk:Nat}{v:Value},its.toArray[argBest (λi j=>decide (ns.getD i 0<ns.getD j 0)) (its.toArray.size-1)]?=some v->(∀c o,s.heap.get? c=some o->h'.get? c=some o)->EP X pins σ Q v { s with heap:=h',toks:=tk }:=λ{h' tk v} hP hk=>by
  obtain⟨t,rfl⟩:=hv _ _ hP;obtain⟨h1,h2⟩:=argBest_lt (λi=>ns.getD i 0)<|its.toArray.size-1;have hz:its.toArray.size=ns.length:=by simp[hl]
  rw[hz]at h1 h2 ⊢;refine⟨.int<|ns.getD (argBest (λi j=>decide (ns.getD i 0<ns.getD j 0))<|ns.length-1) 0,H,I.kept hk,⟨_,rfl⟩,q _ ?_ λa ha=>?_⟩
  ·rw[Waf,Wab (by omega)];exact Wbl _
  ·obtain⟨j,hj,rfl⟩:=Wc6.mp ha
   have:=h2 j (by omega);rw[Waf (l:=ns) (i:=j),Wab hj]at this;exact this
 have old:∀{o:Obj}{h':Heap},(∀c u,c ∉ [s.heap.objs.size]->(s.heap.push o).get? c=some u->h'.get? c=some u)->∀c u,s.heap.get? c=some u->h'.get? c=some u:=λhk c u e=>hk c u (λhm=>by
  have:c=s.heap.objs.size:=by simpa using hm
  exact absurd (this ▸ Wax e) (Wdf _)) (Wac _ e)
 have fp:∀o:Obj,∀c∈[s.heap.objs.size,p],c<(s.heap.push o).objs.size:=λo c hc=>by
  rw[Wcf];simp only[Wap,Wb2,or_false]at hc;rcases hc with rfl|rfl
  ·exact Nat.lt_succ_self _
  ·exact Wck hlt
 cases b
 ·refine call_min_walk (wpAny_pyIter_list p1 ?_)
  exact⟨_,_,_,_,_,_,_,rfl,Walks.list (A:=X.A.in1) (I.ok.hd hc) _ p (Wa8 hlt) its.toArray,⟨⟨_,Wao _ rfl,rfl,rfl⟩,Heap.IsList.push p1 _⟩,fp _,by simp;omega,CmpOf.ints_lt (λi=>ns.getD i 0) hv,λv h' tk hP hk=>fin hP<|old hk⟩
 ·refine call_min_walk (wpAny_pyIter_tuple p1 ?_)
  exact⟨_,_,_,_,_,_,_,rfl,Walks.tuple (A:=X.A.in1) (I.ok.hd hc) _ p (Wa8 hlt) its.toArray,⟨⟨_,Wao _ rfl,rfl,rfl⟩,Heap.IsTuple.push p1 _⟩,fp _,by simp;omega,CmpOf.ints_lt (λi=>ns.getD i 0) hv,λv h' tk hP hk=>fin hP<|old hk⟩
end
section
variable {K:W.Frag}{Δ:Evt}
theorem Zko {ns:List Int}{m:Int}{d:D}{P:D->Evt->Prop}(hd:d=.lst (ns.map .int)\/d=.tup (ns.map .int)) (hm:m∈ns) (hle:∀a∈ns,m<=a) (p:P (.int m) Δ):JC K (rMin1 K) [d] Δ P:=λg G H σ Q vs k rs c=>by
 have fin:∀m',m'∈ns->(∀a∈ns,m' <= a)->Q (.int m') H:=λm' h1 h2=>by
  have:m'=m:=Int.le_antisymm (h2 m hm)<|hle m' h1;subst this;exact c _ _ G H Δ k (Same.refl _) (.int _) p
 have pos:0<ns.length:=Wc0 hm;obtain⟨_,_,rfl,r,t⟩:=rs.inv
 next=>
  cases t.inv;rcases hd with hd|hd <;> subst hd
  ·obtain⟨_,_,rfl,ha,rs⟩:=r.inv
   next=>have:=rs.ints;subst this;exact⟨false,_,ns,rfl,SqL.of<|k.live _ _ ha,pos,fin⟩
  ·obtain⟨_,_,rfl,ha,rs⟩:=r.inv
   next=>have:=rs.ints;subst this;exact⟨true,_,ns,rfl,SqT.of<|k.live _ _ ha,pos,fin⟩
def enD (ds:List D):List D:=ds.zipIdx.map λp=>D.tup [.int (p.2:Int),p.1]
theorem Zfy (ds:List D):(enD ds).length=ds.length:=by unfold enD;rw[Waa,List.length_zipIdx]
theorem Zkb {ds:List D}{i:Nat}{e:D}(h:(enD ds)[i]?=some e):∃d,ds[i]?=some d/\e=.tup [.int (i:Int),d]:=by
 unfold enD at h;rw[Wad,List.getElem?_zipIdx]at h;cases q:ds[i]? with
 |none=>rw[q]at h;cases h
 |some d=>rw[q]at h;refine⟨d,rfl,?_⟩;simpa using h.symm
theorem Zjz {b:Bool}{G:Hp}{l1:Addr}{xs:List V}{ds:List D}(h1:∀G1 H1,Same G G1->Same G1 H1->SqB b K H1 l1 xs) (r1:Reps K G xs ds):ItOk K G (Ieb b K l1) (enD ds):=λG1 H1 sg sh=>by
 have hl1:=r1.length;have e1:=h1 G1 H1 sg sh;refine⟨⟨xs,e1,by rw[Zfy];omega⟩,λi d hd=>?_⟩;obtain⟨d0,q,rfl⟩:=Zkb hd;obtain⟨u,hu,ru⟩:=r1.get q;refine⟨⟨xs,u,e1,hu⟩,λx H2 ⟨p,a,hp,ex,eH,hab⟩=>?_⟩;have ha:=hab xs e1;rw[hu]at ha;cases ha;subst ex;subst eH;have hG:G1 p=none:=by
  cases z:G1 p with
  |none=>rfl
  |some o=>rw[sh _ _ z]at hp;cases hp
 refine⟨upd G1 p (.tup [.int (i:Int),u]),λc o e=>by rw[Zan (Zap e hG)];exact e,λc o e=>by rw[Zan (Zap e hp)];exact e,λc o e=>?_,?_⟩
 ·by_cases hc:c=p
  ·subst hc;rw[Zat]at e ⊢;exact⟨e,.inr hp⟩
  ·rw[Zan hc]at e ⊢;exact⟨sh c o e,.inl e⟩
 ·have sg2:Same G1 (upd G1 p (.tup [.int (i:Int),u])):=λc o e=>by rw[Zan (Zap e hG)];exact e
  exact .tup Zat (.cons (.int _) (.cons ((ru.mono sg).mono sg2) .nil))
theorem Zkn {ta:TA}{P:List D->Evt->Prop}(h:JA K ta Δ λds Δ1=>∃as,(ds=[.lst as]\/ds=[.tup as])/\P (enD as) Δ1):JI K (iEnum K ta) Δ P:=λg G H σ R k c=>
 h g G H σ _ k λvs ds G1 H1 Δ1 k1 s1 r1 hq_=>by
  obtain⟨as,e,p1⟩:=hq_;rcases e with e|e
  ·subst e
   obtain⟨_,_,rfl,ra,rr⟩:=r1.inv
   next=>
    cases rr.inv;obtain⟨_,_,rfl,ha,rsa⟩:=ra.inv
    next=>exact⟨false,_,rfl,⟨_,SqL.of<|k1.live _ _ ha⟩,c _ _ G1 H1 Δ1 k1 s1 (Zjz (λ_ _ sg sh=>SqL.of<|sh _ _<|sg _ _ ha) rsa) p1⟩
  ·subst e
   obtain⟨_,_,rfl,ra,rr⟩:=r1.inv
   next=>
    cases rr.inv;obtain⟨_,_,rfl,ha,rsa⟩:=ra.inv
    next=>exact⟨true,_,rfl,⟨_,SqT.of<|k1.live _ _ ha⟩,c _ _ G1 H1 Δ1 k1 s1 (Zjz (λ_ _ sg sh=>SqT.of<|sh _ _<|sg _ _ ha) rsa) p1⟩
end
open PySem PySem.Spec PyProof.Rows PySem.SeqAt
theorem Zms (l b:Addr) (items items2:Array Value) (n n2:Nat) (dd dd2:Option Addr) (sl sl2:Array (Option Value)) :
  Meets (Builtin.«tuple.__lt__» ⟨[.ref l,.ref b],[]⟩)
   (λA R s=>s.heap.get? l=some { cls:=.type "tuple",dict:=dd,data:=.seq items n,slots:=sl } /\ s.heap.get? b=some { cls:=.type "tuple",dict:=dd2,data:=.seq items2 n2,slots:=sl2 } ∧
    (items2.size=0\/∃(y x:Int) (ty tx:Tok) (ys xs:List Value),items.toList=.int y ty::ys/\items2.toList=.int x tx::xs/\x<y) ∧
    R (.ok (.ret (.bool false))) s):=
 .of_wp λprog w A R s h=>by
  obtain⟨hp,g,d,tk,os⟩:=s;obtain⟨hl,hb,he,h⟩:=h;have f2:=AutoSeq1.sub_tuple_tuple
  wp_walk using wpAny_loadPart' hl,wpAny_loadPart' hb,wpAny_forIn_list _ (λrest b s'=>b.1=none/\s'=⟨hp,g,d,tk,os⟩ /\ rest=items.toList.zip items2.toList) _
  case turn=>
   rintro⟨y,x⟩ rest b s' ⟨hb',rfl,hz⟩;rcases he with he|⟨y',x',ty,tx,ys,xs,e1,e2,hlt⟩
   ·have:items2.toList=[]:=by rw[Array.toList_eq_nil_iff];exact Array.eq_empty_of_size_eq_zero he
    rw[this,List.zip_nil_right]at hz;cases hz
   ·rw[e1,e2,Wc2]at hz
    injection hz with hz1 hz2
    injection hz1 with hy hx
    subst hy hx;refine wpAny_bind<|EqAt.int_int y' ty x' tx prog w _ _ ?_;have e:(y' == x')=false:=by rw[beq_eq_false_iff_ne];omega
    rw[e];simp only[Bool.not_false,if_true];refine wpAny_bind<|wpAny_rule<|wpAny_bind ?_;refine PyProof.Rows.lt_int ?_;rw[decide_eq_false (show ¬ y'<x' by omega)];exact wpAny_bind<|wpAny_pure<|wpAny_pure<|wpAny_pure ⟨_,rfl,h⟩
  case fin=>
   rintro⟨b1,b2⟩ s' ⟨hb',rfl,hz⟩;simp only at hb';subst hb';have hz2:items2.size=0:=by
    rcases he with he|⟨y',x',ty,tx,ys,xs,e1,e2,hlt⟩
    ·exact he
    ·rw[e1,e2,Wc2]at hz;cases hz
   refine wpAny_pure ⟨_,rfl,?_⟩;rw[hz2];exact h
  case h=>
   exact⟨rfl,rfl,rfl⟩
theorem Zo0:∀n:Nat,n<200->minRun' n n 0<=n:=by decide +kernel
section
variable {prog:Program}{w:World}{A:Around}{E:Value->Shared->Prop}{s:Shared}
theorem Ztx {st:SortSt}{nrem a:Nat}{Q:AscSt->SortSt->Prop}(hc:∀i,1<=i->i<nrem->∀Q:Option Bool->SortSt->Prop,Q (some false) st->wpS (model prog w) A E s (ltAt' i<|i-1) Q st) (ha:1<=a) (han:a<=nrem) (h:Q (none,nrem) st) :
  wpS (model prog w) A E s (ascLoop a nrem) Q st:=by
 unfold ascLoop;refine wpS_forRange (I:=λx c st'=>st'=st/\c=(none,x)) ?step ?fin ⟨rfl,rfl⟩
 case fin=>
  rintro c st' ⟨rfl,rfl⟩;rw[show max a nrem=nrem by omega];exact h
 case step=>
  rintro x c st' hax hxn ⟨rfl,rfl⟩;dsimp only;refine wpS_bind<|hc x (by omega) hxn _ ?_;simp only[Wde,if_false];exact wpS_pure ⟨rfl,rfl⟩
theorem Zrl {st:SortSt}{n:Nat}{Q:Unit->SortSt->Prop}(hs:(arrOf st).size=n) (hp:pendingOf st = #[]) (h2:2<=n) (hn:n<200) (hc:∀i,1<=i->i<n->∀Q:Option Bool->SortSt->Prop,Q (some false) st->wpS (model prog w) A E s (ltAt' i<|i-1) Q st)
  (h:∀st',arrOf st'=arrOf st->failedOf st'=failedOf st->Q () st'):wpS (model prog w) A E s sortRuns' Q st:=by
 have hmr:=Zo0 n hn;rw[sortRuns'_eq];refine wpS_bind (wpS_get ?_);dsimp only;simp only[hs];refine wpS_bind (wpS_mono (wpS_forRange
  (I:=λx c st'=>(x=0/\c=(none,0)/\st'=st)\/(1<=x/\c=(none,n)/\st'=setPending st #[(0,n,0)]))
  (Q:=λc st'=>c=(none,n)/\st'=setPending st #[(0,n,0)]) ?step ?fin (.inl ⟨rfl,rfl,rfl⟩)) ?post)
 case fin=>
  rintro c st' (⟨hx,_,_⟩|⟨_,hc,hD⟩)
  ·omega
  ·exact⟨hc,hD⟩
 case step=>
  rintro x c st' _ hx (⟨rfl,rfl,rfl⟩|⟨hx1,rfl,rfl⟩)
  ·dsimp only
   rw[if_neg (by omega)];simp only[Wd0,Wdz];rw[countRun0_eq];refine wpS_bind<|wpS_bind<|Ztx hc (Wak 1) (by omega) ?_;dsimp only;rw[if_pos (by simp)];refine wpS_pure ?_;dsimp only;rw[if_neg (by omega)];refine wpS_bind<|wpS_get ?_;rw[hp];refine wpS_bind<|wpS_modify<|wpS_pure (.inr ⟨by omega,rfl,?_⟩);rw[hp];rfl
  ·dsimp only
   rw[if_pos (Wak _)];exact wpS_pure ⟨rfl,rfl⟩
 case post=>
  rintro c st' ⟨rfl,rfl⟩;dsimp only;refine wpS_bind<|wpS_mono (wpS_forRange (I:=λ_ c st''=>st''=setPending st #[(0,n,0)]/\c=(none,())) (Q:=λc st''=>st''=setPending st #[(0,n,0)]/\c=(none,())) ?_ (λ_ _ hh=>hh) ⟨rfl,rfl⟩) ?_
  ·rintro x c st'' _ _ ⟨rfl,rfl⟩
   refine wpS_bind<|wpS_get ?_;rw[if_pos (show (pendingOf<|setPending st #[(0,n,0)]).size<=1 from Wak 1)];exact wpS_pure ⟨rfl,rfl⟩
  ·rintro c st'' ⟨rfl,rfl⟩
   exact wpS_pure<|h _ rfl rfl
def KeepBut (a:Addr) (h h':Heap):Prop:=∀b o,b≠a->h.get? b=some o->h'.get? b=some o
theorem Zhz {a:Addr}{vs:List Value}{n:Nat}{κ:SortKind}{P:Fin->Shared->Prop}(ho:s.heap.get? a=some (seqObj "list" vs.toArray n)) (hz:vs.length<200)
  (hk:2<=vs.length->∀h',KeepBut a s.heap h' -> ∀Q:SortKind->Shared->Prop,Q κ { s with heap:=h' } -> wpAny (model prog w) A (keyKind' vs.toArray) Q E { s with heap:=h' })
  (hc:∀h',KeepBut a s.heap h' -> ∀i,1<=i->i<vs.length->∀(E:Value->Shared->Prop) (Q:Bool->Shared->Prop),Q false { s with heap:=h' } -> wpAny (model prog w) A (keyLt' κ (vs.getD i .none)<|vs.getD (i-1) .none) Q E { s with heap:=h' })
  (h:P (.done (.ret .none)) { s with heap:=sortedHeap s.heap a vs vs.toArray }):wpAny (model prog w) A (Builtin.«list.sort» ⟨[.ref a],[]⟩) P E s:=by
 rw[list_sort_plain];have ha:a<s.heap.objs.size:=Wax ho;have hsz:vs.toArray.size=vs.length:=by simp
 have hline:vs.length<=sizeLine:=by rw[sizeLine_eq];omega
 refine wpAny_bind<|listItems_at ho rfl ?_;refine wpAny_bind<|listUpdate_at ho rfl ?_ (by rw[hsz];exact hline)<|Wbx _;obtain⟨e1,ho1⟩:∃e1,(s.heap.update a (Obj.mapSeq λ_=>#[])).get? a=some (seqObj "list" #[] e1):=⟨_,get?_update_seq ho λ_=>#[]⟩;refine wpAny_bind<|seqEpoch_at ho1 rfl ?_;refine wpAny_bind<|wpAny_newTuple ?_ hline;refine wpAny_bind<|wpAny_newList ?_<|Wbx _;refine wpAny_holding ?_;have ho6:(((s.heap.update a (Obj.mapSeq λ_=>#[])).push (seqObj "tuple" vs.toArray 0)).push (seqObj "list" #[] 0)).get? a=some (seqObj "list" #[] e1):=by
  rw[Wdr _ _ _ (by rw[size_push',Wdv];exact Wa8<|Wck ha),Wdr _ _ _ (by rw[Wdv];exact Wa8 ha)];exact ho1
 have keep:KeepBut a s.heap (((s.heap.update a (Obj.mapSeq λ_=>#[])).push (seqObj "tuple" vs.toArray 0)).push (seqObj "list" #[] 0)):=λb o hb q=>
  Wac _ (Wac _ ((Heap.get?_update_ne _ _ _ _ hb).trans q))
 show wpAny (model prog w) A _ P E { s with heap:=((s.heap.update a (Obj.mapSeq λ_=>#[])).push (seqObj "tuple" vs.toArray 0)).push (seqObj "list" #[] 0) };dsimp only;have out:((vs.toArray.zip vs.toArray).map (·.2))=vs.toArray:=by
  apply Array.toList_inj.mp;rw[Array.toList_map,Array.toList_zip];exact List.map_snd_zip<|Wak _
 by_cases h2:vs.toArray.size<2
 ·rw[if_pos h2,if_pos h2]
  refine wpAny_bind<|wpAny_pure ?_;rw[StateT.run_pure];refine wpAny_bind<|wpAny_pure ?_;dsimp only;refine wpAny_bind<|seqEpoch_at ho6 rfl ?_;rw[show arrOf (SortSt.mk' general' (vs.toArray.zip vs.toArray) #[] 7 none)=vs.toArray.zip vs.toArray from rfl,out];refine wpAny_bind<|listUpdate_at ho6 rfl ?_ (Wbx _) (by rw[hsz];exact Nat.le_succ_of_le hline);simp only[bne_self_eq_false,Wde,if_false];exact wpAny_pure h
 ·rw[if_neg h2,if_neg h2]
  refine wpAny_bind<|hk (by omega) _ keep _ ?_;refine wpAny_bind (wpAny_mono (Zrl (n:=vs.length) (st:=SortSt.mk' κ (vs.toArray.zip vs.toArray) #[] 7 none) (Q:=λ_ st'=>arrOf st'=vs.toArray.zip vs.toArray/\failedOf st'=none) ?_ rfl (by omega) hz ?_ ?_) ?_ λ_ _ e=>e)
  ·show (vs.toArray.zip vs.toArray).size=_
   rw[Array.size_zip,hsz,Wee]
  ·intro i h1 hi Q hq
   have g:∀j,j<vs.length->(arrOf<|SortSt.mk' κ (vs.toArray.zip vs.toArray) #[] 7 none)[j]?=some (vs.getD j .none,vs.getD j .none):=λj hj=>by
    show (vs.toArray.zip vs.toArray)[j]?=_;rw[<- Array.getElem?_toList,Array.toList_zip];show (vs.zip vs)[j]?=_;rw[Wce,Waf,Wab hj];exact⟨rfl,rfl⟩
   rw[ltAt'_eq];refine wpS_bind<|wpS_get ?_;show wpS _ _ _ _ (do let x ← elem' (arrOf<|SortSt.mk' κ (vs.toArray.zip vs.toArray) #[] 7 none) i;let y ← elem' (arrOf<|SortSt.mk' κ (vs.toArray.zip vs.toArray) #[] 7 none) (i-1);lt' x y) Q _;rw[elem'_eq,elem'_eq,g i hi,g (i-1) (by omega)];refine wpS_bind<|wpS_pure<|wpS_bind<|wpS_pure ?_;rw[lt'_eq];refine wpS_bind<|wpS_get ?_;refine wpS_bind<|wpS_lift<|wpAny_attempt<|hc _ keep i h1 hi _ _ ⟨rfl,?_⟩;exact wpS_pure hq
  ·exact λst' a1 a2=>⟨a1,a2⟩
  rintro⟨⟨⟩,st'⟩ s' ⟨rfl,har,hf⟩;dsimp only;refine wpAny_bind<|seqEpoch_at ho6 rfl ?_;rw[har,out];refine wpAny_bind<|listUpdate_at ho6 rfl ?_ (Wbx _) (by rw[hsz];exact Nat.le_succ_of_le hline);rw[hf];simp only[bne_self_eq_false,Wde,if_false];exact wpAny_pure h
theorem Zho {l:Addr}{vs:List Value}{κ:SortKind}{Q:Value->Shared->Prop}(hl:s.heap.IsList l vs.toArray) (hz:vs.length<200)
  (hk:2<=vs.length->∀h',(∀b o,s.heap.get? b=some o->h'.get? b=some o)->∀(E:Value->Shared->Prop) (Q:SortKind->Shared->Prop),Q κ { s with heap:=h' } -> wpAny (model prog w) A.in1.in1 (keyKind' vs.toArray) Q E { s with heap:=h' })
  (hc:∀h',(∀b o,s.heap.get? b=some o->h'.get? b=some o)->∀i,1<=i->i<vs.length->∀(E:Value->Shared->Prop) (Q:Bool->Shared->Prop),Q false { s with heap:=h' } -> wpAny (model prog w) A.in1.in1 (keyLt' κ (vs.getD i .none)<|vs.getD (i-1) .none) Q E { s with heap:=h' })
  (h:Q (.ref<|s.heap.objs.size+1) { s with heap:=sortedAll s.heap vs vs.toArray }):wpAny (model prog w) A (call (.builtin "sorted") [.ref l]) Q E s:=by
 have hline:vs.length<=sizeLine:=by rw[sizeLine_eq];omega
 refine Calls.call_function_entry kind_sorted plain_sorted entry_sorted (args_sorted1 _) ?_;unfold Builtin.«sorted»;refine wpAny_bind (m:=checkCount "sorted" 1 1 _)<|wpAny_pure ?_;refine wpAny_bind<|collect_list hl ?_ hline;refine wpAny_bind<|wpAny_newList ?_ hline;have hsz:((s.heap.push<|seqObj "list" #[] 0).update s.heap.objs.size (Obj.mapSeq (· ++ vs.toArray))).objs.size=s.heap.objs.size+1:=by
  rw[Wdv,size_push']
 have hoL:(((s.heap.push<|seqObj "list" #[] 0).update s.heap.objs.size (Obj.mapSeq (· ++ vs.toArray))).push (seqObj "list" vs.toArray 0)).get? (s.heap.objs.size+1)=some (seqObj "list" vs.toArray 0):=by
  rw[<- hsz];exact Wao _ rfl
 have keep:∀b o,s.heap.get? b=some o->(((s.heap.push<|seqObj "list" #[] 0).update s.heap.objs.size (Obj.mapSeq (· ++ vs.toArray))).push (seqObj "list" vs.toArray 0)).get? b=some o:=λb o q=>by
  have hlt:b<s.heap.objs.size:=Wax q;rw[Wdr _ _ _ (by rw[hsz];exact Wa8<|Wck hlt),Heap.get?_update_ne _ _ _ _ (Wa8 hlt),Wdr _ _ _ (Wa8 hlt)];exact q
 have up:∀h',KeepBut (s.heap.objs.size+1) (((s.heap.push<|seqObj "list" #[] 0).update s.heap.objs.size (Obj.mapSeq (· ++ vs.toArray))).push (seqObj "list" vs.toArray 0)) h' -> ∀b o,s.heap.get? b=some o->h'.get? b=some o:=λh' k b o q=>
  k b o (Wa8<|Wck<|Wax q) (keep b o q)
 show wpAny _ _ _ _ _ { s with heap:=((s.heap.push<|seqObj "list" #[] 0).update s.heap.objs.size (Obj.mapSeq (· ++ vs.toArray))).push (seqObj "list" vs.toArray 0) };rw[hsz];refine wpAny_bind<|wpAny_holding<|wpAny_call_entry slot_list_sort ⟨_,hoL,rfl⟩ entry_list_sort (Zhz (κ:=κ) hoL hz (λh2 h' k Q q=>hk h2 h' (up h' k) _ Q q) (λh' k i h1 hi E Q q=>hc h' (up h' k) i h1 hi E Q q) ⟨_,rfl,?_⟩)<|args_list_sort _;exact wpAny_pure ⟨_,rfl,h⟩
end
def rowLe (a b:List Int):Prop:=a=[]\/∃x y s t,a=x::s/\b=y::t/\x<y
def Asc (rs:List (List Int)):Prop:=∀i a b,rs[i]?=some a->rs[i+1]?=some b->rowLe a b
def RowAt (h:Heap) (v:Value) (r:List Int):Prop:=∃(a:Addr) (its:List Value),v=.ref a/\IsTup h a its.toArray/\IntsAre its r
theorem RowAt.keep {h h':Heap}{v:Value}{r:List Int}(x:RowAt h v r) (k:∀b o,h.get? b=some o->h'.get? b=some o):RowAt h' v r:=by
 obtain⟨a,its,e,⟨o,ho,hc⟩,i⟩:=x;exact⟨a,its,e,⟨o,k a o ho,hc⟩,i⟩
theorem Zch {its:List Value}{x:Int}{r:List Int}(h:IntsAre its (x::r)):∃t us,its=.int x t::us/\IntsAre us r:=by
 cases its with
 |nil=>have:=h.length;simp at this
 |cons v us=>
  cases h with
  |cons _ _ b=>exact⟨_,_,rfl,b⟩
theorem Zg9 {its:List Value}(h:IntsAre its []):its=[]:=by
 cases its with
 |nil=>rfl
 |cons v us=>have:=h.length;simp at this
section
variable {prog:Program}{w:World}{A:Around}{E:Value->Shared->Prop}{s:Shared}
theorem Zgw:∀(vs:List Value) (rs:List (List Int)) {Q:List (Option Value)->Shared->Prop},Paired (RowAt s.heap) vs rs →
  (∀fs:List (Option Value),Paired (λ(f:Option Value) (r:List Int)=>(r=[]/\f=none)\/∃x t l,r=x::l/\f=some (.int x t)) fs rs->Q fs s)->wpAny (model prog w) A (vs.mapM firstOfTuple') Q E s
 |[],[],_,_,h=>by rw[List.mapM_nil];exact wpAny_pure (h [] .nil)
 |v::vs,r::rs,Q,.cons p t,h=>by
  obtain⟨a,its,rfl,⟨o,ho,hc,n,hd⟩,hi⟩:=p;rw[List.mapM_cons];refine wpAny_bind ?_;rw[PySem.W.kas_first_eq];refine wpAny_bind<|PySem.W.Looks.here (show PySem.W.Looks (model prog w) s.heap (typeOf (.ref a)) o.cls from (PySem.W.Looks.ld ho).andThen .now) ?_;rw[hc,if_neg (by first|decide|simp)];refine wpAny_bind<|listItems_at ho hd<|wpAny_pure ?_;refine wpAny_bind (Zgw vs rs (Q:=λbs s'=>wpAny _ A (pure (its.toArray[0]?::bs)) Q E s') t λfs pf=>wpAny_pure<|h _ (.cons ?_ pf));cases r with
  |nil=>rw[Zg9 hi];exact .inl ⟨rfl,rfl⟩
  |cons x l=>
   obtain⟨t,us,rfl,_⟩:=Zch hi;exact .inr ⟨x,t,l,rfl,by simp⟩
theorem Zmj {vs:List Value}{rs:List (List Int)}(p:Paired (RowAt s.heap) vs rs):∀v∈vs,PySem.W.Looks (model prog w) s.heap (typeOf v) (.type "tuple"):=by
 intro v hv
 induction p with
 |nil=>cases hv
 |cons q t ih=>
  rcases Wap.mp hv with e|hv
  ·subst e
   obtain⟨a,its,rfl,⟨o,ho,hc,_⟩,_⟩:=q;have z:PySem.W.Looks (model prog w) s.heap (typeOf (.ref a)) o.cls:=(PySem.W.Looks.ld ho).andThen .now;rw[hc]at z;exact z
  ·exact ih hv
theorem Zl8 {vs:List Value}{rs:List (List Int)}{Q:SortKind->Shared->Prop}(p:Paired (RowAt s.heap) vs ([]::rs)) (h:Q oneType' s):wpAny (model prog w) A (keyKind' vs.toArray) Q E s:=by
 have hT:=Zmj (prog:=prog) (w:=w) p;rw[keyKind'_eq,List.mapM_toArray,map_eq_pure_bind];refine wpAny_bind<|wpAny_bind (Zgw vs _ p λfs pf=>wpAny_pure ?_);cases pf with
 |@cons f _ fs _ hf _=>
  have hf:f=none:=by
   rcases hf with z|⟨x,t,l,z,_⟩
   ·exact z.2
   ·cases z
  subst hf;rw[if_neg (by simp),if_neg (by simp)];rw[oneTypeOnly'_eq,List.mapM_toArray,map_eq_pure_bind];refine wpAny_bind<|wpAny_bind<|wpAny_bind<|PySem.W.kas_mapM (r:=.type "tuple") _ (λv hv Q' hq=>(hT v hv).here hq)<|wpAny_pure ?_;cases p with
  |@cons v _ vs _ _ _=>
   have hall:((Wbn (λ_=>Value.type "tuple") (v::vs)).toArray.all λx=>x == Value.type "tuple")=true:=by
    simp only[List.all_toArray,List.all_map,Wba];intro _ _;exact(by decide:(Value.type "tuple" == Value.type "tuple")=true)
   have h0:(Wbn (λ_=>Value.type "tuple") (v::vs)).toArray[0]?=some (Value.type "tuple"):=by simp
   rw[h0];simp only[hall,if_true];exact wpAny_pure<|wpAny_pure h
theorem Zl6 {vs:List Value}{rs:List (List Int)}{Q:SortKind->Shared->Prop}(p:Paired (RowAt s.heap) vs rs) (hne:∀r∈rs,r≠[]) (h1:rs≠[]) (h:Q (tuples' true) s):wpAny (model prog w) A (keyKind' vs.toArray) Q E s:=by
 have ex:∃fs:List Value,PySem.W.KatTups s.heap vs fs/\fs.length=rs.length/\∀v∈fs,PySem.W.Looks (model prog w) s.heap (typeOf v) (.type "int"):=by
  clear h h1
  induction p with
  |nil=>exact⟨[],trivial,rfl,λ_ h=>nomatch h⟩
  |@cons v r vs rs q t ih=>
   obtain⟨fs,k1,k2,k3⟩:=ih λr hr=>hne r<|Way _ hr;obtain⟨a,its,rfl,⟨o,ho,hc,n,hd⟩,hi⟩:=q;cases r with
   |nil=>exact absurd rfl (hne [] Wat)
   |cons x l=>
    obtain⟨tk,us,rfl,_⟩:=Zch hi;refine⟨.int x tk::fs,.cons ho hc hd (by simp) k1,by rw[Wan,Wan,k2],λv hv=>?_⟩;rcases Wap.mp hv with e|hv
    ·subst e;exact .now
    ·exact k3 v hv
 obtain⟨fs,k1,k2,k3⟩:=ex;have hpos:0<rs.length:=Wda.mpr h1;exact PySem.W.kat_kind k1 (by omega) k3 (by decide) h
theorem Zrq {v u:Value}{a b:List Int}{Q:Bool->Shared->Prop}(hu:A.units<cLine) (pa:RowAt s.heap u a) (pb:RowAt s.heap v b) (hle:rowLe a b) (h:Q false s):wpAny (model prog w) A (keyLt' oneType' v u) Q E s:=by
 obtain⟨l,its,rfl,⟨⟨c1,d1,dt1,sl1⟩,ho,hc,n,hd⟩,hi⟩:=pb;obtain⟨k,its2,rfl,⟨⟨c2,d2,dt2,sl2⟩,ho2,hc2,n2,hd2⟩,hi2⟩:=pa;simp only at hc hd hc2 hd2;subst hc hd hc2 hd2;rw[keyLt'_oneType,oneLt'_eq];simp only[if_true];refine wpAny_bind<|wpAny_cRoomFor hu ?_;refine wpAny_bind<|wpAny_callSpecialIfBound?_slot (T:="tuple") ⟨_,ho,rfl⟩ F.slot_tuple_lt<|call_meets F.slot_tuple_lt ⟨_,ho,rfl⟩ F.entry_tuple_lt (F.args_tuple_lt_2 _ _) (Zms l k its.toArray its2.toArray n n2 d1 d2 sl1 sl2) ⟨ho,ho2,?_,?_⟩
 ·rcases hle with z|⟨x,y,s',t',rfl,rfl,hlt⟩
  ·subst z;rw[Zg9 hi2];exact .inl rfl
  ·obtain⟨t1,us1,rfl,_⟩:=Zch hi
   obtain⟨t2,us2,rfl,_⟩:=Zch hi2;exact .inr ⟨y,x,t1,t2,us1,us2,rfl,rfl,hlt⟩
 ·exact wpAny_truthy_bool h
theorem Zqv {v u:Value}{a b:List Int}{Q:Bool->Shared->Prop}(pa:RowAt s.heap u a) (pb:RowAt s.heap v b) (hne:a≠[]) (hle:rowLe a b) (h:Q false s):wpAny (model prog w) A (keyLt' (tuples' true) v u) Q E s:=by
 obtain⟨l,its,rfl,⟨o1,ho,hc,n,hd⟩,hi⟩:=pb;obtain⟨k,its2,rfl,⟨o2,ho2,hc2,n2,hd2⟩,hi2⟩:=pa;rcases hle with z|⟨x,y,s',t',rfl,rfl,hlt⟩
 ·exact absurd z hne
 ·obtain⟨t1,us1,rfl,_⟩:=Zch hi
  obtain⟨t2,us2,rfl,_⟩:=Zch hi2;refine PySem.W.kat_lt ho hd ho2 hd2 ?_;show PySem.W.KatLex prog w A true _ Q ((Value.int y t1,Value.int x t2)::us1.zip us2) 0 s;refine PySem.W.kat_cons<|EqAt.int_int y t1 x t2 prog w _ _ ?_;have e:(y == x)=false:=by rw[beq_eq_false_iff_ne];omega
  rw[e];refine PySem.W.kat_no ?_;refine oneLt_int ?_;rw[decide_eq_false (show ¬ y<x by omega)];exact h
end
section
variable {X:Cx}
def rInU (K:W.Frag) (neg:Bool):R2:=λx y H Q=>rIn K neg x y H Q\/(∃a o,y=.ref a/\DGet H a x o/\Q (.bl (if neg then !o.isSome else o.isSome)) H) ∨
 ∃a S n i,y=.ref a/\x=.int i/\H a=some (.set S n)/\Q (.bl (if neg then !S i else S i)) H
theorem notinK (K:W.Frag) (hu:X.A.units+1<cLine) (hK:X.K=K:=by rfl):OpR X (compareOp .NotIn) (rInU K true):=by
 subst hK;intro pins s σ H x y v u Q I rx ry h;rcases h with h|⟨a,o,rfl,hd,q⟩|⟨a,S,n,i,rfl,rfl,hs,q⟩
 ·exact Zjc pins s σ H x y v u Q I rx ry h
 ·cases ry
  exact Zun hu I hd rx λs' I'=>⟨.bl _,H,I',rfl,q⟩
 ·cases ry
  obtain⟨t,rfl⟩:=rx;exact wpAny_notInSet_of (knd:=intKind X.prog X.w) (k:=i) (by simp[intKind,Value.isInt]) rfl (I.hok a _ hs) ⟨.bl _,H,I.tok _,rfl,q⟩
def rSet0:List V->Hp->VK->Prop:=λxs H Q=>xs=[]/\∀p,H p=none->Q (.ref p) (upd H p (.set (λ_=>false) 0))
theorem Zng:CallR X (.type "set") rSet0:=by
 intro pins s σ H xs us Q I r h;obtain⟨rfl,q⟩:=h;cases r;refine call_set_0 λled=>⟨.ref s.heap.objs.size,_,I.laid (t':=s.toks) (λ_ _ z=>Wac _ z) (Wak _) ?_,rfl,q _<|I.hok.fresh<|Wak _⟩;exact(setObjOf_fresh (knd:=intKind X.prog X.w) led).setOf (Wao _ rfl) (by decide)
def rSAdd:V->List V->Hp->VK->Prop:=λx vs H Q=>∃a S n i,x=.ref a/\vs=[.int i]/\H a=some (.set S n)/\n+1<4096/\Q .non (upd H a (.set (λk=>S k || decide (k=i)) (if S i then n else n+1)))
theorem Zur:MtM X "set.add" rSAdd:=by
 intro pins s σ H x vs v us Q I rx rv h;obtain⟨a,S,n,i,rfl,rfl,hs,hn,q⟩:=h;cases rx;obtain⟨u,rfl,ru⟩:=rv.one;obtain⟨t,rfl⟩:=ru;have hS:s.heap.SetOf (intKind X.prog X.w) a S n:=I.hok a _ hs;refine call_set_add (knd:=intKind X.prog X.w) (k:=i) (by simp[intKind,Value.isInt]) rfl hS hn λh' sb hS'=>?_;refine⟨.non,_,Zg0 I (by rw[hs];trivial) sb ?_ ?_,rfl,q⟩
 ·obtain⟨o,_,_,_,ho,_⟩:=hS';exact⟨o,ho⟩
 ·exact hS'
def rIndexL (K:W.Frag):V->List V->Hp->VK->Prop:=λx vs H Q=>∃(a:Addr) (ns:List Int) (i:Int),x=.ref a/\vs=[.int i]/\SqL K H a (ns.map V.int)/\ns.length<=1000/\i∈ns/\Q (.int (ns.idxOf i:Nat)) H
theorem idxLK (K:W.Frag) (hK:X.K=K:=by rfl):MtM X "list.index" (rIndexL K):=by
 subst hK;intro pins s σ H x vs v us Q I rx rv h;obtain⟨a,ns,i,rfl,rfl,hx,hl,hm,q⟩:=h;cases rx;obtain⟨u,rfl,ru⟩:=rv.one;obtain⟨t,rfl⟩:=ru;obtain⟨its,r,pl,hz⟩:=I.list hx;have hi:=Zb0 r;have hlen:=hi.length;obtain⟨⟨cls,dd,data,sl⟩,ho,hc,n,hd⟩:=pl.isList;simp only at hc hd;subst hc hd;have hj:ns.idxOf i<ns.length:=List.idxOf_lt_length_iff.mpr hm;refine call_meets PySem.F.slot_list_index ⟨_,ho,rfl⟩ PySem.F.entry_list_index (PySem.F.args_list_index_2 _ _)
  (list_indexAt a its.toArray n dd sl (.int i t) (isInt i) (ns.idxOf i) (by simpa [hlen] using hj) (by omega) ?_ ?_) ⟨ho,λy hy=>(eq_isInt i t hi y (by simpa using hy)).at _ _,⟨.int _,H,I.tok _,⟨_,rfl⟩,q⟩⟩
 ·show isInt i its[ns.idxOf i]=true
  rw[isInt_at i hi _ (by omega) hj];simpa using List.getElem_idxOf hj
 ·intro j hjs hlt
  show isInt i its[j]=false;rw[isInt_at i hi j (by simpa using hjs) (by omega)];exact ne_of_lt_idxOf hlt _
def rSortR (K:W.Frag):List V->Hp->VK->Prop:=λxs H Q=>∃p us rs,xs=[.ref p]/\SqL K H p us/\us.length<200/\Paired (λ(u:V) (r:List Int)=>∃a,u=.ref a/\SqT K H a (r.map V.int)) us rs/\Asc rs/\∀l,H l=none->Q (.ref l) (upd H l (.lst us))
theorem Znd {pins:List (Addr × Obj)}{σ:St}{H:Hp}{s:Shared}(I:Inv X pins σ H s):∀{us:List V}{its:List Value}{rs:List (List Int)},Vals us its->Paired (λ(u:V) (r:List Int)=>∃a,u=.ref a/\SqT X.K H a (r.map V.int)) us rs->Paired (RowAt s.heap) its rs
 |_,_,_,.nil,.nil=>.nil
 |_,_,_,.cons r t,.cons p q=>by
  obtain⟨a,rfl,hs⟩:=p;cases r;obtain⟨its,r',pl,_⟩:=I.tuple hs;exact .cons ⟨a,its,rfl,pl,Zb0 r'⟩<|Znd I t q
theorem Paired.getD {R:Value->List Int->Prop}:∀{vs:List Value}{rs:List (List Int)}{i:Nat},Paired R vs rs->i<vs.length->∃r,rs[i]?=some r/\R (vs.getD i .none) r
 |_,_,0,.cons p _,_=>⟨_,rfl,p⟩
 |_,_,i+1,.cons _ t,h=>by
  obtain⟨r,h1,h2⟩:=Paired.getD (i:=i) t (by simpa using h);exact⟨r,by simpa using h1,by simpa using h2⟩
theorem Paired.len {R:Value->List Int->Prop}:∀{vs:List Value}{rs:List (List Int)},Paired R vs rs->vs.length=rs.length
 |_,_,.nil=>rfl
 |_,_,.cons _ t=>by rw[Wan,Wan,Paired.len t]
theorem Paired.up {R R':Value->List Int->Prop}(f:∀v r,R v r->R' v r):∀{vs:List Value}{rs:List (List Int)},Paired R vs rs->Paired R' vs rs
 |_,_,.nil=>.nil
 |_,_,.cons p t=>.cons (f _ _ p) (Paired.up f t)
theorem Zws {rs:List (List Int)}(h:Asc rs) (h0:∀r,rs[0]?=some r->r≠[]):∀r∈rs,r≠[]:=by
 have all:∀(i:Nat) r,rs[i]?=some r->r≠[]:=by
  intro i
  induction i with
  |zero=>exact h0
  |succ i ih=>
   intro b hb;have hi:i<rs.length:=by have:=(Wag.mp hb).1;omega
   have ha:=Wab hi;rcases h i _ b ha hb with z|⟨x,y,s,t,_,e,_⟩
   ·exact absurd z<|ih _ ha
   ·rw[e];exact List.cons_ne_nil _ _
 intro r hr;obtain⟨i,hi⟩:=Wbg.mp hr;exact all i r hi
theorem sortRK (K:W.Frag) (hu:X.A.units+8<cLine) (hK:X.K=K:=by rfl):CallR X (.builtin "sorted") (rSortR K):=by
 subst hK;intro pins s σ H xs us Q I r h;obtain⟨p,ys,rs,rfl,hx,hl,hp,ha,q⟩:=h;obtain⟨u,rfl,ru⟩:=vals1 r;cases (show u=Value.ref p from ru);obtain⟨its,w1,p1,hz⟩:=I.list hx;have pr:=Znd I w1 hp;have hlen:=w1.length;have hrl:=Paired.len pr;have fin:EP X pins σ Q (.ref<|s.heap.objs.size+1) { s with heap:=sortedAll s.heap its its.toArray }:=by
  obtain⟨e,he⟩:=sortedAll_at s.heap its its.toArray;refine⟨.ref<|s.heap.objs.size+1,_,I.laid (t':=s.toks) (λ_ _ z=>sortedAll_old z) (Wdt _) (show ObjOk X.prog X.w _ _ _ (.lst ys) from ⟨hz,its,e,w1,he⟩),rfl,q _<|I.hok.fresh<|Wdt _⟩
 have hu2:X.A.in1.in1.units<cLine:=Wch (by show X.A.units+1+1<=X.A.units+8;omega) hu;have cmp:∀i,1<=i->i<its.length->∃a b,rs[i-1]?=some a/\RowAt s.heap (its.getD (i-1) .none) a/\RowAt s.heap (its.getD i .none) b/\rowLe a b:=λi h1 hi=>by
  obtain⟨a,ha1,ha2⟩:=Paired.getD (i:=i-1) pr (by omega);obtain⟨b,hb1,hb2⟩:=Paired.getD (i:=i) pr hi;exact⟨a,b,ha1,ha2,hb2,ha (i-1) a b ha1 (by rw[show i-1+1=i by omega];exact hb1)⟩
 by_cases h0:rs[0]?=some []
 ·refine Zho (κ:=oneType') p1.isList (by omega) (λ_ h' k E Q hq=>?_) (λh' k i h1 hi E Q hq=>?_) fin
  ·cases rs with
   |nil=>cases h0
   |cons r0 rs=>
    have:r0=[]:=by simpa using h0
    subst this;exact Zl8 (s:={ s with heap:=h' }) (Paired.up (λv r z=>z.keep k) pr) hq
  ·obtain⟨a,b,_,c1,c2,c3⟩:=cmp i h1 hi
   exact Zrq (s:={ s with heap:=h' }) hu2 (c1.keep k) (c2.keep k) c3 hq
 ·have hne:∀r∈rs,r≠[]:=Zws ha λr hr e=>h0 (by rw[hr,e])
  refine Zho (κ:=tuples' true) p1.isList (by omega) (λh2 h' k E Q hq=>?_) (λh' k i h1 hi E Q hq=>?_) fin
  ·exact Zl6 (s:={ s with heap:=h' }) (Paired.up (λv r z=>z.keep k) pr) hne (by intro z;subst z;rw[Wdx]at hrl;omega) hq
  ·obtain⟨a,b,c0,c1,c2,c3⟩:=cmp i h1 hi
   exact Zqv (s:={ s with heap:=h' }) (c1.keep k) (c2.keep k) (hne a<|Wai c0) c3 hq
end
section
variable {K:W.Frag}{Δ:Evt}{P:D->Evt->Prop}
theorem Zj2 {G:Hp}{k:Key}:∀{kvs:List (Key × V)}{kds:List (Key × D)},Paired (λ(p:Key × V) (q:Key × D)=>p.1=q.1/\Rep K G p.2 q.2) kvs kds->(valV kvs k).isSome=(valD kds k).isSome
 |_,_,.nil=>rfl
 | (k1,v1)::kvs,(k2,d2)::kds,.cons ⟨e,r⟩ t=>by
  have e:k1=k2:=e;subst e;have ih:=Zj2 (k:=k) t;unfold valV valD at ih ⊢;by_cases h:k1=k
  ·rw[Wc1 (by simpa using h),Wc1 (by simpa using h)];rfl
  ·rw[Wcc (by simpa using h),Wcc (by simpa using h)];exact ih
theorem Zu7 {neg:Bool}{n:Nat}{ta:TE}(h:JE K ta Δ λd Δ1=>∃x kvs i,Δ1[n]?=some x/\x.od=some (.dct kvs)/\d=.int i/\P (.bl (if neg then !(valD kvs (.inl i)).isSome else (valD kvs (.inl i)).isSome)) Δ1):JE K (tOp (rInU K neg) ta<|tVar n) Δ P:=λg G H σ Q k c=>
 h g G H σ _ k λv d G1 H1 Δ1 k1 s1 r1 hq_=>by
  obtain⟨x,kvs,i,q1,q2,q3,p⟩:=hq_;subst q3;cases r1.inv;obtain⟨a,o,w1,w2,w3,w4,w5⟩:=k1.own n x _ q1 q2;cases o with
  |dK vs=>
   refine⟨.ref a,w1,.inr (.inl ⟨a,_,rfl,DGet.k (k:=Sum.inl i) w2,?_⟩)⟩;rw[Zj2 (K:=K) (G:=G1) w3];exact c _ _ G1 H1 Δ1 k1 s1 (.bl _) p
  |_=>exact absurd w3 (λz=>z)
theorem Zvl {neg:Bool}{n:Nat}{ta:TE}(h:JE K ta Δ λd Δ1=>∃x S m i,Δ1[n]?=some x/\x.od=some (.set S m)/\d=.int i/\P (.bl (if neg then !S i else S i)) Δ1):JE K (tOp (rInU K neg) ta<|tVar n) Δ P:=λg G H σ Q k c=>
 h g G H σ _ k λv d G1 H1 Δ1 k1 s1 r1 hq_=>by
  obtain⟨x,S,m,i,q1,q2,q3,p⟩:=hq_;subst q3;cases r1.inv;obtain⟨a,o,w1,w2,w3,w4,w5⟩:=k1.own n x _ q1 q2;cases o with
  |set S' m'=>
   obtain⟨e1,e2⟩:S'=S/\m'=m:=w3;subst e1 e2;exact⟨.ref a,w1,.inr (.inr ⟨a,S',m',i,rfl,rfl,w2,c _ _ G1 H1 Δ1 k1 s1 (.bl _) p⟩)⟩
  |_=>exact absurd w3 (λz=>z)
theorem Zs3 {Po:OD->Evt->Prop}(p:Po (.set (λ_=>false) 0) Δ):JO K (tCB rSet0 tNil) Δ Po:=λg G H σ Q k c=>by
 refine⟨rfl,λl hl=>?_⟩;obtain⟨k2,pd⟩:=k.fresh (od:=.set (λ_=>false) 0) hl (show OwnRep K G (.set (λ_=>false) 0) (.set (λ_=>false) 0) from ⟨rfl,rfl⟩);exact c l _ G _ Δ k2 (Same.refl _) pd p
theorem Zub {n:Nat}{te:TE}{x:Slot}{S0:Int->Bool}{n0:Nat}{nx bk ct:Evt->Prop}{rt:D->Evt->Prop}{ro:OD->Evt->Prop}(hx:Δ[n]?=some x) (ho:x.od=some (.set S0 n0))
  (h:JE K te Δ λd Δ1=>∃y S m i,Δ1[n]?=some y/\y.od=some (.set S m)/\d=.int i/\m+1<4096/\nx (Δ1.set n<|y.put (.set (λk=>S k || decide (k=i)) (if S i then m else m+1)))) :
  JS K (tDrop<|tBM K "set" rSAdd (tVar n)<|tCons te tNil) Δ ⟨nx,rt,bk,ct,ro⟩:=λg G H σ E k c=>by
 obtain⟨a,o,h1,h2,h3,h4,h5⟩:=k.own n x _ hx ho;cases o with
 |set S1 n1=>
  refine⟨.ref a,h1,.inr (.inr (.inr ⟨rfl,_,_,h2⟩)),h g G H σ _ k λv d G1 H1 Δ1 k1 s1 r1 ⟨y,S,m,i,q1,q2,q3,q4,p⟩=>?_⟩;subst q3;cases r1.inv;obtain⟨a',o',w1,w2,w3,w4,w5⟩:=k1.own n y _ q1 q2;rw[h1]at w1;cases w1;cases o' with
  |set S' m'=>
   obtain⟨e1,e2⟩:S'=S/\m'=m:=w3;subst e1 e2;exact⟨a,S',m',i,rfl,rfl,w2,q4,c.nx σ G1 _ _ (k1.write q1 q2 h1 (show OwnRep K G1 (.set _ _) (.set _ _) from ⟨rfl,rfl⟩)) p⟩
  |_=>exact absurd w3 (λz=>z)
 |_=>exact absurd h3 (λz=>z)
theorem Zix {to te:TE}(h:JE K to Δ λd Δ1=>∃ns:List Int,d=.lst (ns.map D.int)/\ns.length<=1000/\JE K te Δ1 λe Δ2=>∃i,e=.int i/\i∈ns/\P (.int (ns.idxOf i:Nat)) Δ2) :
  JE K (tBM K "list" (rIndexL K) to<|tCons te tNil) Δ P:=λg G H σ Q k c=>
 h g G H σ _ k λv d G1 H1 Δ1 k1 s1 r1 hq_=>by
  obtain⟨ns,e,hl,p1⟩:=hq_;subst e;obtain⟨a,vs,rfl,ha,rs⟩:=r1.inv
  next=>
   refine⟨.inl ⟨rfl,_,SqL.of<|k1.live _ _ ha⟩,p1 g G1 H1 σ _ k1 λu e G2 H2 Δ2 k2 s2 r2 ⟨i,q1,q2,p⟩=>?_⟩;subst q1;cases r2.inv;have ev:vs=ns.map V.int:=rs.ints;subst ev;exact⟨a,ns,i,rfl,rfl,SqL.of<|k2.live _ _<|s2 _ _ ha,hl,q2,c _ _ G2 H2 Δ2 k2 (s1.trans s2) (.int _) p⟩
def rowD (r:List Int):D:=.tup<|r.map D.int
theorem Zlc {G H:Hp}(l:Same G H):∀{vs:List V}{rs:List (List Int)},Reps K G vs (rs.map rowD)->Paired (λ(u:V) (r:List Int)=>∃a,u=.ref a/\SqT K H a (r.map V.int)) vs rs
 |[],[],_=>.nil
 |[],_::_,h=>by cases h
 |_::_,[],h=>by cases h
 |v::vs,r::rs,h=>by
  cases h with
  |cons r1 t=>
   obtain⟨a,us,rfl,ha,rr⟩:=r1.inv
   next=>
    have ev:=rr.ints;subst ev;exact .cons ⟨a,rfl,SqT.of<|l _ _ ha⟩<|Zlc l t
theorem Zk9 {ta:TA}{Po:OD->Evt->Prop}(h:JA K ta Δ λds Δ1=>∃rs:List (List Int),ds=[.lst (rs.map rowD)]/\rs.length<200/\Asc rs/\Po (.lst<|rs.map rowD) Δ1):JO K (tCB (rSortR K) ta) Δ Po:=λg G H σ Q k c=>
 h g G H σ _ k λvs ds G1 H1 Δ1 k1 s1 r1 hq_=>by
  obtain⟨rs,e,hl,ha,p⟩:=hq_;subst e;obtain⟨_,_,rfl,r,t⟩:=r1.inv
  next=>
   cases t.inv;obtain⟨a,us,rfl,ha',rr⟩:=r.inv
   next=>
    have hlen:=rr.length;rw[Waa]at hlen;refine⟨a,us,rs,rfl,SqL.of<|k1.live _ _ ha',by omega,Zlc k1.live rr,ha,λl hl=>?_⟩;obtain⟨k2,pd⟩:=k1.fresh (od:=.lst<|rs.map rowD) hl (show OwnRep K G1 (.lst us) (.lst<|rs.map rowD) from rr);exact c l _ G1 _ Δ1 k2 s1 pd p
end
theorem Zg5 {A:Around}{k:Nat}(hr:Room k A):A.units+8<cLine:=Wch (Wd7 (by decide:8<=64) _) hr.units
open PySem PySem.Spec PyProof.Rows PySem.SeqAt
def flatD:D->Option V
 |.non=>some .non
 |.bl b=>some (.bl b)
 |.int i=>some (.int i)
 |.str x=>some (.str x)
 |_=>none
def eqFlat (d e:D):Bool:=match flatD d,flatD e with
 |some x,some y=>eqV x y
 |_,_=>false
def eqF:Nat->D->D->Bool
 |0,_,_=>false
 |n+1,.tup xs,.tup ys=>xs.length == ys.length && (xs.zip ys).all λp=>eqF n p.1 p.2
 |n+1,.lst xs,.lst ys=>xs.length == ys.length && (xs.zip ys).all λp=>eqF n p.1 p.2
 |_+1,d,e=>eqFlat d e
def Dp:Nat->D->Prop
 |0,_=>False
 |_+1,.int _=>True
 |n+1,.tup xs=>∀d∈xs,Dp n d
 |n+1,.lst xs=>∀d∈xs,Dp n d
 |_,_=>False
theorem Rep.uniq {K:W.Frag}{G:Hp}:∀(n:Nat) {v:V}{d e:D},Rep K G v d->Rep K G v e->Dp n d->Dp n e->d=e
 |0,_,_,_,_,_,h,_=>h.elim
 |n+1,v,d,e,hd,he,pd,pe=>by
  have all:∀{vs:List V}{xs ys:List D},Reps K G vs xs->Reps K G vs ys->(∀d∈xs,Dp n d)->(∀d∈ys,Dp n d)->xs=ys:=by
   intro vs
   induction vs with
   |nil=>intro xs ys h1 h2 _ _;cases h1;cases h2;rfl
   |cons v vs ih=>
    intro xs ys h1 h2 p1 p2;cases h1 with
    |cons a1 b1=>
     cases h2 with
     |cons a2 b2=>
      rw[Rep.uniq n a1 a2 (p1 _ Wat) (p2 _ Wat),ih b1 b2 (λd hd=>p1 d<|Way _ hd) λd hd=>p2 d (Way _ hd)]
  cases d with
  |int i=>cases hd;cases he;rfl
  |tup xs=>
   cases hd with
   |tup ha ra=>
    cases e with
    |tup ys=>cases he with|tup hb rb=>rw[ha]at hb;cases hb;rw[all ra rb pd pe]
    |lst ys=>cases he with|lst hb rb=>rw[ha]at hb;cases hb
    |int i=>cases he
    |_=>exact pe.elim
  |lst xs=>
   cases hd with
   |lst ha ra=>
    cases e with
    |lst ys=>cases he with|lst hb rb=>rw[ha]at hb;cases hb;rw[all ra rb pd pe]
    |tup ys=>cases he with|tup hb rb=>rw[ha]at hb;cases hb
    |int i=>cases he
    |_=>exact pe.elim
  |_=>exact pd.elim
theorem Zh4:∀(n:Nat) (d:D),Dp n d->eqF n d d=true
 |0,_,h=>h.elim
 |n+1,.int i,_=>by show (i == i)=true;simp
 |n+1,.tup xs,h=>by
  show (xs.length == xs.length && (xs.zip xs).all λp=>eqF n p.1 p.2)=true;rw[beq_self_eq_true,Wd8,Wba];intro p hp;obtain⟨i,hi⟩:=Wbg.mp hp;rw[Wce]at hi;have e:p.1=p.2:=Wa6.inj<|hi.1.symm.trans hi.2;rw[<- e];exact Zh4 n _<|h _<|Wai hi.1
 |n+1,.lst xs,h=>by
  show (xs.length == xs.length && (xs.zip xs).all λp=>eqF n p.1 p.2)=true;rw[beq_self_eq_true,Wd8,Wba];intro p hp;obtain⟨i,hi⟩:=Wbg.mp hp;rw[Wce]at hi;have e:p.1=p.2:=Wa6.inj<|hi.1.symm.trans hi.2;rw[<- e];exact Zh4 n _<|h _<|Wai hi.1
 |_+1,.non,h=>h.elim
 |_+1,.bl _,h=>h.elim
 |_+1,.str _,h=>h.elim
 |_+1,.ty _,h=>h.elim
 |_+1,.scr _,h=>h.elim
 |_+1,.adr _,h=>h.elim
 |_+1,.dct _ _,h=>h.elim
 |_+1,.exc _ _,h=>h.elim
def atZip (n:Nat) (xs ys:List D) (j:Nat):Bool:=match xs[j]?,ys[j]? with
 |some a,some b=>eqF n a b
 |_,_=>false
theorem Zj5 (n:Nat):∀(xs ys:List D),(Waq<|min xs.length ys.length).all (atZip n xs ys)=(xs.zip ys).all λp=>eqF n p.1 p.2
 |[],ys=>by simp
 |_::_,[]=>by simp
 |x::xs,y::ys=>by
  rw[Wan,Wan,Nat.succ_min_succ,List.range_succ_eq_map,Wds,List.all_map,Wc2,Wds,<- Zj5 n xs ys];rfl
section
variable {X:Cx}
theorem Zse:∀(n:Nat) {A:Around}{pins:List (Addr × Obj)}{σ:St}{H G:Hp}{s:Shared}{x y:V}{v u:Value}{d e:D},Inv X pins σ H s->Same G H->Rep X.K G x d->Rep X.K G y e->RelV x v->RelV y u->Dp n d->Dp n e->A.units+n<cLine →
  EqAt A s v u (eqF n d e)/\(∀a b,v=.ref a->u=.ref b->RcAt A s v u (eqF n d e))
 |0,_,_,_,_,_,_,_,_,_,_,_,_,_,_,_,_,_,_,h,_,_=>h.elim
 |n+1,A,pins,σ,H,G,s,x,y,v,u,d,e,I,sg,rx,ry,rv,ru,pd,pe,hu=>by
  have hu0:A.units<cLine:=by omega
  have hu1:A.in1.units+n<cLine:=by show A.units+1+n<cLine;omega
  have items:∀{vs us:List V}{its its2:List Value}{xs ys:List D},Vals vs its->Vals us its2->Reps X.K G vs xs->Reps X.K G us ys->(∀d∈xs,Dp n d)->(∀d∈ys,Dp n d) →
    ∀j (h1:j<its.toArray.size) (h2:j<its2.toArray.size),EqAt A.in1 s its.toArray[j] its2.toArray[j] (atZip n xs ys j):=by
   intro vs us its its2 xs ys w1 w2 r1 r2 p1 p2 j h1 h2;have l1:=w1.length;have l2:=r1.length;have l3:=w2.length;have l4:=r2.length;have h1':j<its.length:=by simpa using h1
   have h2':j<its2.length:=by simpa using h2
   have hx:j<xs.length:=by omega
   have hy:j<ys.length:=by omega
   obtain⟨a,ha1,ha2⟩:=r1.get<|Wab hx;obtain⟨b,hb1,hb2⟩:=r2.get<|Wab hy;obtain⟨va,hv1,hv2⟩:=w1.get ha1;obtain⟨vb,hw1,hw2⟩:=w2.get hb1;have e1:its.toArray[j]=va:=by
    rw[Wab h1']at hv1;simpa using Wa6.inj hv1
   have e2:its2.toArray[j]=vb:=by
    rw[Wab h2']at hw1;simpa using Wa6.inj hw1
   have e3:atZip n xs ys j=eqF n xs[j] ys[j]:=by unfold atZip;rw[Wab hx,Wab hy]
   rw[e1,e2,e3];exact(Zse n I sg ha2 hb2 hv2 hw2 (p1 _<|Wbl hx) (p2 _<|Wbl hy) hu1).1
  have same:∀a,v=.ref a->u=.ref a->eqF (n+1) d e=true:=λa h1 h2=>by
   have hx:x=.ref a:=by cases x <;> simp[RelV,h1]at rv <;> first|(rw[rv])|skip
   have hy:y=.ref a:=by cases y <;> simp[RelV,h2]at ru <;> first|(rw[ru])|skip
   rw[hx]at rx;rw[hy]at ry;rw[Rep.uniq (n+1) rx ry pd pe];exact Zh4 (n+1) e pe
  have lift:(∃a,v=.ref a)->(∃b,u=.ref b)->(∀a b,v=.ref a->u=.ref b->RcAt A s v u (eqF (n+1) d e))->EqAt A s v u (eqF (n+1) d e)/\(∀a b,v=.ref a->u=.ref b->RcAt A s v u (eqF (n+1) d e)):=by
   rintro⟨a,rfl⟩ ⟨b,rfl⟩ h;refine⟨?_,h⟩;by_cases hab:a=b
   ·subst hab
    rw[same a rfl rfl];exact EqAt.same _
   ·exact .of_refs hab<|h a b rfl rfl
  cases d with
  |int i=>
   cases rx;obtain⟨t,rfl⟩:=rv;refine⟨?_,λa b z=>nomatch z⟩;cases e with
   |int j=>
    cases ry;obtain⟨t',rfl⟩:=ru;exact EqAt.int_int i t j t'
   |tup ys=>
    cases ry with
    |tup hb rb=>
     cases ru;obtain⟨its,w1,pl,_⟩:=I.tuple<|SqT.of<|sg _ _ hb;exact EqAt.int_tuple i t pl hu0
   |lst ys=>
    cases ry with
    |lst hb rb=>
     cases ru;obtain⟨its,w1,pl,_⟩:=I.list<|SqL.of<|sg _ _ hb;exact EqAt.int_list i t pl.isList hu0
   |_=>exact pe.elim
  |tup xs=>
   cases rx with
   |@tup a vs _ ha ra=>
    cases rv;obtain⟨its,w1,pl,_⟩:=I.tuple<|SqT.of<|sg _ _ ha;cases e with
    |int j=>
     cases ry;obtain⟨t',rfl⟩:=ru;exact⟨EqAt.tuple_int j t' pl hu0,λa b _ z=>nomatch z⟩
    |tup ys=>
     cases ry with
     |@tup b us _ hb rb=>
      cases ru;obtain⟨its2,w2,pl2,_⟩:=I.tuple<|SqT.of<|sg _ _ hb;refine lift ⟨_,rfl⟩ ⟨_,rfl⟩ λ_ _ _ _=>?_;have z:=RcAt.tuples (A:=A) (s:=s) pl pl2 hu0<|items w1 w2 ra rb pd pe;have e1:((Waq<|min its.toArray.size its2.toArray.size).all (atZip n xs ys) && its.toArray.size == its2.toArray.size)=eqF (n+1) (.tup xs) (.tup ys):=by
       show _=(xs.length == ys.length && (xs.zip ys).all λp=>eqF n p.1 p.2);rw[<- Zj5,Wah,Wah,<- w1.length,<- w2.length,ra.length,rb.length,Bool.and_comm]
      rw[e1]at z;exact z
    |lst ys=>
     cases ry with
     |@lst b us _ hb rb=>
      cases ru;obtain⟨its2,w2,pl2,_⟩:=I.list<|SqL.of<|sg _ _ hb;exact⟨EqAt.tuple_list pl pl2.isList hu0,λ_ _ _ _=>RcAt.tuple_list pl pl2.isList hu0⟩
    |_=>exact pe.elim
  |lst xs=>
   cases rx with
   |@lst a vs _ ha ra=>
    cases rv;obtain⟨its,w1,pl,_⟩:=I.list<|SqL.of<|sg _ _ ha;cases e with
    |int j=>
     cases ry;obtain⟨t',rfl⟩:=ru;exact⟨EqAt.list_int j t' pl.isList hu0,λa b _ z=>nomatch z⟩
    |tup ys=>
     cases ry with
     |@tup b us _ hb rb=>
      cases ru;obtain⟨its2,w2,pl2,_⟩:=I.tuple<|SqT.of<|sg _ _ hb;exact⟨EqAt.list_tuple pl.isList pl2 hu0,λ_ _ _ _=>RcAt.list_tuple pl.isList pl2 hu0⟩
    |lst ys=>
     cases ry with
     |@lst b us _ hb rb=>
      cases ru;obtain⟨its2,w2,pl2,_⟩:=I.list<|SqL.of<|sg _ _ hb;refine lift ⟨_,rfl⟩ ⟨_,rfl⟩ λ_ _ _ _=>?_;have l1:=w1.length;have l2:=w2.length;have l3:=ra.length;have l4:=rb.length;by_cases hl:xs.length=ys.length
      ·have hsz:its.toArray.size=its2.toArray.size:=by rw[Wah,Wah];omega
       have z:=RcAt.lists (A:=A) (s:=s) pl.isList pl2.isList hsz hu0<|items w1 w2 ra rb pd pe;have e1:(Waq its.toArray.size).all (atZip n xs ys)=eqF (n+1) (.lst xs) (.lst ys):=by
        show _=(xs.length == ys.length && (xs.zip ys).all λp=>eqF n p.1 p.2);rw[<- Zj5,Wah,hl,beq_self_eq_true,Wd8,Wee,show its.length=ys.length by omega]
       rw[e1]at z;exact z
      ·have z:=RcAt.lists_lengths (A:=A) (s:=s) pl.isList pl2.isList (by rw[Wah,Wah];simp;omega) hu0
       have e1:eqF (n+1) (.lst xs) (.lst ys)=false:=by
        show (xs.length == ys.length && (xs.zip ys).all λp=>eqF n p.1 p.2)=false;rw[beq_eq_false_iff_ne.mpr hl,Wd3]
       rw[e1];exact z
    |_=>exact pe.elim
  |_=>exact pd.elim
def rEqD (K:W.Frag):R2:=λx y H Q=>∃G d e n,Same G H/\Rep K G x d/\Rep K G y e/\Dp n d/\Dp n e/\n<=5/\(∃a,x=.ref a)/\(∃b,y=.ref b)/\Q (.bl<|eqF n d e) H
theorem eqDK (K:W.Frag) (hv:X.A.units+8<cLine) (hK:X.K=K:=by rfl):OpR X (compareOp .Eq) (rEqD K):=by
 subst hK;intro pins s σ H x y v u Q I rx ry h;obtain⟨G,d,e,n,sg,r1,r2,p1,p2,hn,⟨a,rfl⟩,⟨b,rfl⟩,q⟩:=h;cases rx;cases ry;exact(Zse n I sg r1 r2 rfl rfl p1 p2 (A:=X.A)<|by omega).2 a b rfl rfl X.prog X.w _ _ ⟨.bl _,H,I,rfl,q⟩
def rSortI (K:W.Frag):List V->Hp->VK->Prop:=λxs H Q=>∃(p:Addr) (ns:List Int),xs=[.ref p]/\SqL K H p (ns.map V.int)/\ns.length<64/\∀(l:Addr) (ms:List Int),ms.Perm ns->ms.Pairwise (· <= ·)->H l=none->Q (.ref l) (upd H l (.lst<|ms.map V.int))
theorem Zes:∀{vs:List Value}{ns:List Int},vs.length=ns.length->(∀(i:Nat) v,vs[i]?=some v->∃t,v=.int (ns.getD i 0) t)->IntsAre vs ns
 |[],[],_,_=>.nil
 |[],_::_,h,_=>by simp at h
 |_::_,[],h,_=>by simp at h
 |v::vs,n::ns,h,g=>by
  obtain⟨t,rfl⟩:=g 0 v rfl;exact .cons n t (Zes (by simpa using h) λi u e=>by simpa using g (i+1) u (by simpa using e))
theorem sortIK (K:W.Frag) (hK:X.K=K:=by rfl):CallR X (.builtin "sorted") (rSortI K):=by
 subst hK;intro pins s σ H xs us Q I r h;obtain⟨p,ns,rfl,hx,hl,q⟩:=h;obtain⟨u,rfl,ru⟩:=vals1 r;cases (show u=Value.ref p from ru);obtain⟨its,w1,p1,hz⟩:=I.list hx;have hi:=Zb0 w1;have hlen:=hi.length;refine sorted_ints p1.isList hi (by omega) λout ms o1 o2 o3=>?_;obtain⟨e,he⟩:=sortedAll_at s.heap its out;have hml:=o2.length_eq;refine⟨.ref<|s.heap.objs.size+1,_,I.laid (t':=s.toks) (λ_ _ z=>sortedAll_old z) (Wdt _) (show ObjOk X.prog X.w _ _ _ (.lst<|ms.map V.int) from ⟨?_,out.toList,e,Zeg o1,?_⟩),rfl,q _ ms o2 o3<|I.hok.fresh<|Wdt _⟩
 ·rw[Waa];exact Wb8 (small1000<|by omega)
 ·rw[Array.toArray_toList];exact he
def tLR (ta:TA):TE:=λσ H Q=>ta σ H λvs H1=>∃n:Nat,vs=[.int (n:Int)]/\n<=1000/\∀l,H1 l=none->Q (.ref l) (upd H1 l (.lst ((Waq n).map λi:Nat=>V.int (i:Int))))
theorem Zde {a:Expr}{ta:TA}{p p2 pos pos2:Pos}(hc:X.calm=true) (hgL:Gl X "list") (hmL:X.mg "list" = none) (hgR:Gl X "range") (hmR:X.mg "range" = none) (ha:PA X [a] ta) (hs:starEach [a] X.env=[(false,eval a X.env)]:=by rfl)
  (he:starEach [.Call (.Name "range" p2) [a] [] pos2] X.env=[(false,eval (.Call (.Name "range" p2) [a] [] pos2) X.env)]:=by rfl) :
  PE X (.Call (.Name "list" p) [.Call (.Name "range" p2) [a] [] pos2] [] pos) (tLR ta):=by
 intro pins s σ H Q I h;refine wpAny_Call_Name_kw<|Zew I hgL hmL Zfw ?_;refine PyProof.Rows.callWith_type1 ?_ he rfl;rw[he];show wpAny _ _ (spliced ((false,eval (.Call (.Name "range" p2) [a] [] pos2) X.env)::backTo pos [])) _ _ s;refine Calls.spliced_cons ?_;refine Call_<|Zew I hgR hmR boot_range<|PyProof.Rows.callWith_type1 (thn (ha pos2 pins s σ H _ I h) λus s1 ⟨vs,H1,I1,r1,q1⟩=>?_) hs rfl;obtain⟨n,e,hn,q⟩:=q1;subst e;cases r1 with
 |cons r rr=>
  cases rr;obtain⟨t,rfl⟩:=r;refine call_range_1<|Calls.spliced_nil ?_;have I2:Inv X pins σ H1 { s1 with heap:=s1.heap.push { cls:=.type "range",data:=.fields #[.int 0 s1.toks,.int (n:Int) t,.int 1 (s1.toks+1)] },toks:=s1.toks+1+1 }:=I1.kept λb o e=>Wac _ e;refine call_list_range (a:=0) (b:=(n:Int)) (c:=1) (n:=n) (I1.ok.hd hc) (IsRange.new ..) (small_one (by decide) (by decide) (by omega)<|by omega) (by rw[rangeSize_one];split <;> omega) (by omega) λh' tk acc c' hk hD hI=>?_
  have hl:acc.size=n:=hI.1;refine⟨.ref _,_,I2.laid (t':=tk) hk (Wak _) (show ObjOk X.prog X.w _ h' _ (.lst ((Waq n).map λi:Nat=>V.int (i:Int))) from ⟨?_,acc.toList,c',?_,?_⟩),rfl,q _<|I2.hok.fresh<|Wak _⟩
  ·rw[Waa,Wa5];exact Wb8<|small1000 hn
  ·have:IntsAre acc.toList ((Waq n).map λi:Nat=>(i:Int)):=by
    refine Zes (by rw[Array.length_toList,hl,Waa,Wa5]) λi v e=>?_;have hi:i<n:=by
     have:=(Wag.mp e).1;rw[Array.length_toList,hl]at this;exact this
    obtain⟨t',rfl⟩:=hI.2 i v (by rw[<- Array.getElem?_toList];exact e);refine⟨t',?_⟩;rw[Waf,Wad,Wb1 hi];show Value.int (0+(i:Int)*1) t'=Value.int (i:Int) t';rw[Wb5,Int.mul_one]
   have:=Zeg this;rw[Wal]at this;exact this
  ·rw[Array.toArray_toList];exact hD
end
section
variable {K:W.Frag}{Δ:Evt}{P:D->Evt->Prop}
def isSeqD:D->Bool
 |.tup _=>true
 |.lst _=>true
 |_=>false
theorem Zpb {G:Hp}{x:V}{d:D}(r:Rep K G x d) (h:isSeqD d=true):∃a,x=.ref a:=by
 cases r with
 |tup _ _=>exact⟨_,rfl⟩
 |lst _ _=>exact⟨_,rfl⟩
 |_=>cases h
theorem Zv9 {n:Nat}{d e:D}(hn:n<=5) (pd:Dp n d) (pe:Dp n e) (sd:isSeqD d=true) (se:isSeqD e=true) (p:P (.bl<|eqF n d e) Δ):JR2 K (rEqD K) d e Δ P:=λg G H σ Q x y k rx ry c=>
 ⟨G,d,e,n,k.live,rx,ry,pd,pe,hn,Zpb rx sd,Zpb ry se,c _ _ G H Δ k (Same.refl _) (.bl _) p⟩
theorem Zld {ta:TA}{Po:OD->Evt->Prop}(h:JA K ta Δ λds Δ1=>∃ns:List Int,ds=[.lst (ns.map .int)]/\ns.length<64/\∀ms:List Int,ms.Perm ns->ms.Pairwise (· <= ·)->Po (.lst<|ms.map .int) Δ1):JO K (tCB (rSortI K) ta) Δ Po:=λg G H σ Q k c=>
 h g G H σ _ k λvs ds G1 H1 Δ1 k1 s1 r1 hq_=>by
  obtain⟨ns,e,hl,p⟩:=hq_;subst e;obtain⟨_,_,rfl,r,t⟩:=r1.inv
  next=>
   cases t.inv;obtain⟨a,us,rfl,ha,rr⟩:=r.inv
   next=>
    have ev:=rr.ints;subst ev;refine⟨a,ns,rfl,SqL.of<|k1.live _ _ ha,hl,λl ms o1 o2 hl=>?_⟩;obtain⟨k2,pd⟩:=k1.fresh (od:=.lst<|ms.map .int) hl (show OwnRep K G1 (.lst<|ms.map V.int) (.lst<|ms.map .int) from Reps.ofInts ms);exact c l _ G1 _ Δ1 k2 s1 pd<|p ms o1 o2
theorem Zqm {ta:TA}{Po:OD->Evt->Prop}(h:JA K ta Δ λds Δ1=>∃n:Nat,ds=[.int (n:Int)]/\n<=1000/\Po (.lst ((Waq n).map λi:Nat=>D.int (i:Int))) Δ1):JO K (tLR ta) Δ Po:=λg G H σ Q k c=>
 h g G H σ _ k λvs ds G1 H1 Δ1 k1 s1 r1 hq_=>by
  obtain⟨n,e,hl,p⟩:=hq_;subst e;obtain⟨_,_,rfl,r,t⟩:=r1.inv
  next=>
   cases t.inv;cases r.inv;refine⟨n,rfl,hl,λl hl=>?_⟩;obtain⟨k2,pd⟩:=k1.fresh (od:=.lst ((Waq n).map λi:Nat=>D.int (i:Int))) hl (show OwnRep K G1 (.lst ((Waq n).map λi:Nat=>V.int (i:Int))) (.lst ((Waq n).map λi:Nat=>D.int (i:Int))) from by
    have:=Reps.ofInts (K:=K) (G:=G1) ((Waq n).map λi:Nat=>(i:Int));rw[Wal,Wal]at this;exact this)
   exact c l _ G1 _ Δ1 k2 s1 pd p
theorem Ztf {n:Nat}{t1 t2:TE}{x:Slot}{ds0:List D}{nx bk ct:Evt->Prop}{rt:D->Evt->Prop}{ro:OD->Evt->Prop}(hx:Δ[n]?=some x) (ho:x.od=some (.lst ds0))
  (h:JE K t1 Δ λe1 Δ1=>JE K t2 Δ1 λe2 Δ2=>∃y i ds,e1=.int i /\ Δ2[n]?=some y/\y.od=some (.lst ds)/\ds.length<sizeLine /\ -(2 ^ 62)<=i/\i<2 ^ 62/\nx (Δ2.set n<|y.put (.lst (ds.take (insI ds.length i)++e2::ds.drop (insI ds.length i))))) :
  JS K (tDrop<|tBM K "list" rInsert (tVar n)<|tCons t1<|tCons t2 tNil) Δ ⟨nx,rt,bk,ct,ro⟩:=λg G H σ E k c=>by
 obtain⟨a,o,h1,h2,h3,h4,h5⟩:=k.own n x _ hx ho;cases o with
 |lst vs0=>
  refine⟨.ref a,h1,.inl ⟨rfl,_,SqL.of h2⟩,h g G H σ _ k λv1 e1 G1 H1 Δ1 k1 s1 r1 p1=>p1 g G1 H1 σ _ k1 λv2 e2 G2 H2 Δ2 k2 s2 r2 ⟨y,i,ds,q1,q2,q2',q3,q4,q5,p⟩=>?_⟩;subst q1;cases r1.inv;obtain⟨a2,o2,u1,u2,u3,u4,u5⟩:=k2.own n y _ q2 q2';rw[h1]at u1;cases u1;cases o2 with
  |lst vs=>
   have u3:Reps K G2 vs ds:=u3;refine⟨_,vs,i,v2,rfl,rfl,u2,by rw[u3.length];exact q3,q4,q5,?_⟩;have k3:=k2.write q2 q2' h1 (show OwnRep K G2 (.lst (vs.take (insI vs.length i)++v2::vs.drop (insI vs.length i))) (.lst (ds.take (insI ds.length i)++e2::ds.drop (insI ds.length i))) from by
    rw[u3.length];exact(u3.take _).append (.cons r2 (u3.drop _)))
   exact c.nx σ G2 _ _ k3 p
  |_=>exact absurd u3 (λz=>z)
 |_=>exact absurd h3 (λz=>z)
end
open PySem PySem.Spec PyProof.Rows PySem.SeqAt
section
variable {prog:Program}{w:World}
end
section
variable {prog:Program}{w:World}{A:Around}{E:Value->Shared->Prop}{s:Shared}
end
end L2
namespace L2
open PySem PySem.Spec PyProof.Rows PySem.SeqAt
end L2
namespace L2
open PySem PySem.Spec PyProof.Rows PySem.SeqAt
section
variable {prog:Program}{w:World}{A:Around}{E:Value->Shared->Prop}{s:Shared}
end
end L2
namespace L2
open PySem PySem.Spec PyProof.Rows PySem.SeqAt
end L2
namespace L2
open PySem PySem.Spec PyProof.Rows PySem.SeqAt
end L2
namespace L2
open PySem PySem.Spec PyProof.Rows PySem.SeqAt
section
variable {K:W.Frag}{Δ:Evt}
end
section
variable {X:Cx}
end
open PySem PySem.Spec PyProof.Rows PySem.SeqAt
section
variable {X:Cx}
theorem intsAt {its:List Value}{ns:List Int}(hi:IntsAre its ns):∀j (h:j<its.length),∃t,its[j]=.int (ns.getD j 0) t:=by
 induction hi with
 |nil=>intro j h;simp at h
 |cons n t _ ih=>
  intro j h;cases j with
  |zero=>exact⟨t,rfl⟩
  |succ j=>simpa using ih j (by simpa using h)
def rNeI (K:W.Frag):R2:=λx y H Q=>∃(a b:Addr) (ns:List Int),x=.ref a/\y=.ref b/\SqL K H a (ns.map V.int)/\SqL K H b (ns.map V.int)/\Q (.bl false) H
theorem neIK (K:W.Frag) (hv:X.A.units+8<cLine) (hK:X.K=K:=by rfl):OpR X (compareOp .NotEq) (rNeI K):=by
 subst hK;intro pins s σ H x y v u Q I rx ry h;obtain⟨a,b,ns,rfl,rfl,ha,hb,q⟩:=h;cases rx;cases ry;obtain⟨its,w1,p1,_⟩:=I.list ha;obtain⟨its2,w2,p2,_⟩:=I.list hb;have i1:=Zb0 w1;have i2:=Zb0 w2;have l1:=i1.length;have l2:=i2.length;have hsz:its.toArray.size=its2.toArray.size:=by rw[Wah,Wah];omega
 refine RcNeAt.lists (A:=X.A) (s:=s) (e:=λ_=>true) p1.isList p2.isList hsz (by omega) (λj h1 h2=>?_) X.prog X.w _ _ ?_
 ·rw[Wah]at h1 h2
  obtain⟨t1,e1⟩:=intsAt i1 j h1;obtain⟨t2,e2⟩:=intsAt i2 j h2;rw[Wbf,Wbf,e1,e2];have:=EqAt.int_int (A:=X.A.in1) (s:=s) (ns.getD j 0) t1 (ns.getD j 0) t2;rw[beq_self_eq_true]at this;exact this
 ·have:(!(Waq its.toArray.size).all λ_=>true)=false:=by
   rw[Wba.mpr (λ_ _=>rfl)];rfl
  rw[this];exact⟨.bl false,H,I,rfl,q⟩
theorem Zgy (ns:List Int):∀k,k<=ns.length->preSum (λi=>ns.getD i 0) k=(ns.take k).sum
 |0,_=>by rw[Wb6];rfl
 |k+1,hk=>by
  show preSum _ k+ns.getD k 0=_;have e:ns.take (k+1)=ns.take k++[ns[k]]:=by rw[Wbi,Wab (by omega:k<ns.length)];rfl
  rw[Zgy ns k (by omega),e,List.sum_append,Waf,Wab (by omega:k<ns.length)];show _+ns[k]=_+(ns[k]+0);rw[Int.add_zero]
def rSum (K:W.Frag):List V->Hp->VK->Prop:=λxs H Q=>∃(p:Addr) (ns:List Int),xs=[.ref p]/\SqL K H p (ns.map V.int)/\Q (.int ns.sum) H
theorem sumK (K:W.Frag) (hc:X.calm=true) (hK:X.K=K:=by rfl):CallR X (.builtin "sum") (rSum K):=by
 subst hK;intro pins s σ H xs us Q I r h;obtain⟨p,ns,rfl,hx,q⟩:=h;obtain⟨u,rfl,ru⟩:=vals1 r;cases (show u=Value.ref p from ru);obtain⟨its,w1,p1,_⟩:=I.list hx;have hi:=Zb0 w1;have hlen:=hi.length;have hlt:p<s.heap.objs.size:=by obtain⟨o,e,_⟩:=p1.isList;exact Wax e
 refine call_sum_walkG<|wpAny_pyIter_list p1.isList ?_;refine⟨s.heap.objs.size,_,_,_,_,_,λi=>ns.getD i 0,rfl,Walks.list (prog:=X.prog) (w:=X.w) (A:=X.A.in1) (show X.A.in1.handled=none from I.ok.hd hc) s.heap.objs.size p (Wa8 hlt) its.toArray,⟨⟨_,Wao _ rfl,rfl,rfl⟩,p1.isList.push _⟩,?_,?_,λh' tk t' hk=>?_⟩
 ·intro b hb
  show b<(s.heap.push _).objs.size;rw[size_push'];simp only[Wap,Wb2,or_false]at hb;rcases hb with z|z
  ·rw[z];exact Nat.lt_succ_self _
  ·rw[z];exact Wck hlt
 ·intro i v hv
  have hv:its[i]?=some v:=by simpa using (show its.toArray[i]?=some v from hv)
  obtain⟨h1,h2⟩:=Wag.mp hv;obtain⟨t,e⟩:=intsAt hi i h1;exact⟨t,by rw[<- h2,e]⟩
 ·have e:preSum (λi=>ns.getD i 0) its.toArray.size=ns.sum:=by
   rw[Wah,show its.length=ns.length by omega,Zgy ns _ (Wak _),Wbo]
  rw[e];have I0:Inv X pins σ H { s with heap:=s.heap.push { cls:=.type "list_iterator",data:=.fields #[.ref p,.int 0 0] },toks:=s.toks }:=I.kept λb o e=>Wac _ e;have fp:=I.fpOk (b:=s.heap.objs.size) (H':=H) (Wak _)<|I.hok.fresh<|Wak _;exact⟨.int ns.sum,H,I0.turned (it:=s.heap.objs.size) (λb o hb e=>hk b o (by simpa using hb) e) (I.hok.fresh<|Wak _) (Wdl I.lt) (.inr I.sz) fp.2.2.2.2.1 fp.2.2.2.2.2,⟨_,rfl⟩,q⟩
end
section
variable {K:W.Frag}{Δ:Evt}{P:D->Evt->Prop}
theorem Zn3 {ns:List Int}(p:P (.int ns.sum) Δ):JC K (rSum K) [.lst (ns.map D.int)] Δ P:=λg G H σ Q vs k rs c=>by
 obtain⟨_,_,rfl,r,t⟩:=rs.inv
 next=>
  cases t.inv;obtain⟨a,us,rfl,ha,rr⟩:=r.inv
  next=>
   have ev:=rr.ints;subst ev;exact⟨a,ns,rfl,SqL.of<|k.live _ _ ha,c _ _ G H Δ k (Same.refl _) (.int _) p⟩
theorem Zsh {ns:List Int}(p:P (.bl false) Δ):JR2 K (rNeI K) (.lst<|ns.map .int) (.lst<|ns.map .int) Δ P:=λg G H σ Q x y k rx ry c=>by
 obtain⟨a,vs,rfl,ha,rs⟩:=rx.inv
 next=>
  obtain⟨b,us,rfl,hb,rt⟩:=ry.inv
  next=>
   have e1:=rs.ints;have e2:=rt.ints;subst e1 e2;exact⟨a,b,ns,rfl,rfl,SqL.of<|k.live _ _ ha,SqL.of<|k.live _ _ hb,c _ _ G H Δ k (Same.refl _) (.bl _) p⟩
end
section
variable {K:W.Frag}{Δ:Evt}
theorem Zdh {i:Nat}{d:D}{ds:List D}{P:List D->Evt->Prop}(h:Δ[i]?=some (.val d)) (hd:d=.tup ds\/d=.lst ds) (p:P ds Δ):JI K (iSeq K<|tVar i) Δ P:=by
 rcases hd with rfl|rfl
 ·exact Ze1<|Zac h ⟨_,rfl,p⟩
 ·exact Zcn<|Zac h ⟨_,Or.inl rfl,p⟩
end
open PySem PySem.Spec PyProof.Rows PySem.SeqAt
section
variable {K:W.Frag}{Δ:Evt}{P:D->Evt->Prop}
end
section
variable {K:W.Frag}{Δ:Evt}
end
section
variable {prog:Program}{w:World}{A:Around}{E:Value->Shared->Prop}{s:Shared}
theorem Zkh {l:Addr}{vs:List Value}{Q:List Value->Shared->Prop}(hl:s.heap.IsTuple l vs.toArray)
  (h:Q vs { s with heap:=(s.heap.push<|seqObj "list" #[] 0).update s.heap.objs.size (Obj.mapSeq (· ++ vs.toArray)) }) (hsz:vs.length<=sizeLine) :
  wpAny (model prog w) A (collect (.ref l)) Q E s:=by
 obtain⟨o,ho,hc,n,hd⟩:=id hl;unfold collect;refine wpAny_bind<|wpAny_runValue<|codeAny_builtin entry_proto_collect' ?_;show wpAny _ _ (do again (.builtin "list.__iadd__" ⟨[← newList [],.ref l],[]⟩)) _ _ s;refine wpAny_bind<|wpAny_newList<|wpAny_pure ⟨Code.quiet_builtin _ (by decide +kernel),codeAny_builtin entry_list_iadd' ?_⟩;show wpAny _ _ (Builtin.List.listExtendWith (.ref s.heap.objs.size) (.ref l) (.ref s.heap.objs.size)) _ _ { s with heap:=s.heap.push (seqObj "list" #[] 0) };unfold Builtin.List.listExtendWith;have ho':(s.heap.push<|seqObj "list" #[] 0).get? l=some o:=Wac _ ho;refine wpAny_bind<|wpAny_typeOf (T:="tuple") ⟨o,ho',hc⟩ ?_;have ht:(Value.type "tuple" == Value.type "tuple")=true:=by rfl
 rw[if_pos (by rw[ht];simp)];refine wpAny_bind (listItems_at ho' hd ?_);refine wpAny_bind (listItems_at (xs:=#[]) (n:=0) (Wao _ rfl) rfl ?_);rw[if_neg (by simp)];refine wpAny_bind (listUpdate_at (xs:=#[]) (n:=0) (Wao _ rfl) rfl ?_ (Wbx _) (by show (#[]++vs.toArray).size<=sizeLine+1;simp only[Array.size_append,Wah,Wdx];omega));refine wpAny_pure ?_;show wpAny (model prog w) A (do
   let o ← load s.heap.objs.size
   match o.data with
   |.seq xs _=>pure xs.toList
   |_=>unsupported "internal:collect") Q E { s with heap:=(s.heap.push (seqObj "list" #[] 0)).update s.heap.objs.size (Obj.mapSeq (· ++ vs.toArray)) }
 refine wpAny_bind<|wpAny_load (get?_update_seq (Wao _ rfl) _) ?_;show wpAny _ _ (pure ((#[]:Array Value)++vs.toArray).toList) Q E _;rw[show ((#[]:Array Value)++vs.toArray).toList=vs by simp];exact wpAny_pure h
theorem Zjs {l:Addr}{vs:List Value}{ns:List Int}{Q:Value->Shared->Prop}(hl:s.heap.IsTuple l vs.toArray) (hI:IntsAre vs ns) (h64:vs.length<64)
  (h:∀(out:Array Value) (ns':List Int),IntsAre out.toList ns' -> ns'.Perm ns->ns'.Pairwise (· <= ·)->Q (.ref<|s.heap.objs.size+1) { s with heap:=sortedAll s.heap vs out }) :
  wpAny (model prog w) A (call (.builtin "sorted") [.ref l]) Q E s:=by
 refine Calls.call_function_entry kind_sorted plain_sorted entry_sorted (args_sorted1 _) ?_;unfold Builtin.«sorted»;refine wpAny_bind (m:=checkCount "sorted" 1 1 _)<|wpAny_pure ?_;refine wpAny_bind (Zkh hl ?_<|Wb8 (small1000<|by omega));refine wpAny_bind<|wpAny_newList ?_;have hsz:((s.heap.push<|seqObj "list" #[] 0).update s.heap.objs.size (Obj.mapSeq (· ++ vs.toArray))).objs.size=s.heap.objs.size+1:=by
  rw[Wdv,size_push']
 have hoL:(((s.heap.push<|seqObj "list" #[] 0).update s.heap.objs.size (Obj.mapSeq (· ++ vs.toArray))).push (seqObj "list" vs.toArray 0)).get? (s.heap.objs.size+1)=some (seqObj "list" vs.toArray 0):=by
  rw[<- hsz];exact Wao _ rfl
 show wpAny _ _ _ _ _ { s with heap:=((s.heap.push<|seqObj "list" #[] 0).update s.heap.objs.size (Obj.mapSeq (· ++ vs.toArray))).push (seqObj "list" vs.toArray 0) };rw[hsz];refine wpAny_bind<|wpAny_holding<|wpAny_call_entry slot_list_sort ⟨_,hoL,rfl⟩ entry_list_sort (list_sort_tree hoL hI h64 λout ns' a1 a2 a3=>⟨_,rfl,?_⟩)<|args_list_sort _;exact wpAny_pure ⟨_,rfl,h out ns' a1 a2 a3⟩
end
section
variable {X:Cx}
def rSortT (K:W.Frag):List V->Hp->VK->Prop:=λxs H Q=>∃(p:Addr) (ns:List Int),xs=[.ref p]/\SqT K H p (ns.map V.int)/\ns.length<64/\∀(l:Addr) (ms:List Int),ms.Perm ns->ms.Pairwise (· <= ·)->H l=none->Q (.ref l) (upd H l (.lst<|ms.map V.int))
theorem sortTK (K:W.Frag) (hK:X.K=K:=by rfl):CallR X (.builtin "sorted") (rSortT K):=by
 subst hK;intro pins s σ H xs us Q I r h;obtain⟨p,ns,rfl,hx,hl,q⟩:=h;obtain⟨u,rfl,ru⟩:=vals1 r;cases (show u=Value.ref p from ru);obtain⟨its,w1,p1⟩:=I.seqB (b:=true) hx;have hi:=Zb0 w1;have hlen:=hi.length;refine Zjs p1 hi (by omega) λout ms o1 o2 o3=>?_;obtain⟨e,he⟩:=sortedAll_at s.heap its out;have hml:=o2.length_eq;refine⟨.ref<|s.heap.objs.size+1,_,I.laid (t':=s.toks) (λ_ _ z=>sortedAll_old z) (Wdt _) (show ObjOk X.prog X.w _ _ _ (.lst<|ms.map V.int) from ⟨?_,out.toList,e,Zeg o1,?_⟩),rfl,q _ ms o2 o3<|I.hok.fresh<|Wdt _⟩
 ·rw[Waa];exact Wb8 (small1000<|by omega)
 ·rw[Array.toArray_toList];exact he
end
section
variable {K:W.Frag}{Δ:Evt}{P:D->Evt->Prop}
theorem Ziu {ta:TA}{Po:OD->Evt->Prop}(h:JA K ta Δ λds Δ1=>∃ns:List Int,ds=[.tup (ns.map .int)]/\ns.length<64/\∀ms:List Int,ms.Perm ns->ms.Pairwise (· <= ·)->Po (.lst<|ms.map .int) Δ1):JO K (tCB (rSortT K) ta) Δ Po:=λg G H σ Q k c=>
 h g G H σ _ k λvs ds G1 H1 Δ1 k1 s1 r1 hq_=>by
  obtain⟨ns,e,hl,p⟩:=hq_;subst e;obtain⟨_,_,rfl,r,t⟩:=r1.inv
  next=>
   cases t.inv;obtain⟨a,us,rfl,ha,rr⟩:=r.inv
   next=>
    have ev:=rr.ints;subst ev;refine⟨a,ns,rfl,SqT.of<|k1.live _ _ ha,hl,λl ms o1 o2 hl=>?_⟩;obtain⟨k2,pd⟩:=k1.fresh (od:=.lst<|ms.map .int) hl (show OwnRep K G1 (.lst<|ms.map V.int) (.lst<|ms.map .int) from Reps.ofInts ms);exact c l _ G1 _ Δ1 k2 s1 pd<|p ms o1 o2
end
section
variable {X:Cx}
end
section
variable {K:W.Frag}{Δ:Evt}{P:D->Evt->Prop}
theorem Zv6 {x:Str}(p:P (.bl false) Δ):JR2 K rNe (.str x) (.str x) Δ P:=λg G H σ Q u v k rx ry c=>by
 cases rx.inv;cases ry.inv;refine⟨rfl,?_⟩;rw[decide_eq_true rfl];exact c _ _ G H Δ k (Same.refl _) (.bl _) p
end
section
variable {X:Cx}
end
abbrev TB:=St->Hp->(St->Hp->Prop)->Prop
def LoopR (g:TG) (tb:TB) (R:St->Hp->Prop) (σ0:St):It->Hp->Prop:=λJ H1=>∃W:Nat->Nat->St->Hp->Prop,(∃m,W 0 m σ0 H1)/\∀i m σ H,W i m σ H →
 (J.stop i H/\R σ H)\/(J.go i H/\∃N:St->Hp->Prop,(∀σ' H',N σ' H' -> ∃m',m'<m/\W (i+1) m' σ' H')/\∀x H',J.yld i H x H' -> g x σ H' λσ2 H2=>tb σ2 H2 N)
def tLoop (wi:TI) (g:TG) (tb:TB):TB:=λσ H R=>wi σ H<|LoopR g tb R σ
def PB (Y:Cx) (body:Sem Unit) (tb:TB):Prop:=∀(pins:List (Addr × Obj)) (s:Shared) (σ:St) (H:Hp) (N:St->Hp->Prop),Inv Y pins σ H s->tb σ H N →
 wpAny (model Y.prog Y.w) Y.A body (λ_ s'=>∃σ' H',Inv Y pins σ' H' s' /\ N σ' H') (λ_ _=>False) s
def PBT (Y:Cx) (rest:Sem Fin) (c:Code) (tb:TB):Prop:=∀(pins:List (Addr × Obj)) (s:Shared) (σ:St) (H:Hp) (N:St->Hp->Prop),Inv Y pins σ H s->tb σ H N →
 wpAny (model Y.prog Y.w) Y.A rest (λf s'=>f=.again c/\∃σ' H',Inv Y pins σ' H' s' /\ N σ' H') (λ_ _=>False) s
theorem PB.rest {Y:Cx}{body:Sem Unit}{c:Code}{tb:TB}(h:PB Y body tb):PBT Y (do body;again c) c tb:=λpins s σ H N I q=>
 wpAny_bind (thn (h pins s σ H N I q) λ_ s' z=>wpAny_pure ⟨rfl,z⟩)
structure Plain (e:Expr):Prop where
 tu:∀(P:Program) (w:World) (A:Around) (d:Nat) (it acc:Value) (env:Env),A.under (.compLoop e d it acc env)=A/\(model P w).den (.compLoop e d it acc env)=(compTurn e d it acc env).onRaise (λx=>do noteFrame x env;theTreesLotGoes x)
 su:∀(P:Program) (w:World) (A:Around) (d:Nat) (it acc:Value) (env:Env),A.under (.compStart e d it acc env)=A/\(model P w).den (.compStart e d it acc env)=(compStart e d it acc env).onRaise (λx=>do noteFrame x env;standAt theWindowsPlace)
theorem Zfq (elt:Expr) (gs:List Comprehension) (sc:Scope) (pos:Pos):Plain (.ListComp elt gs sc pos):=⟨λ_ _ _ _ _ _ _=>⟨rfl,rfl⟩,λ_ _ _ _ _ _ _=>⟨rfl,rfl⟩⟩
theorem Zfv (k v:Expr) (gs:List Comprehension) (sc:Scope) (pos:Pos):Plain (.DictComp k v gs sc pos):=⟨λ_ _ _ _ _ _ _=>⟨rfl,rfl⟩,λ_ _ _ _ _ _ _=>⟨rfl,rfl⟩⟩
theorem Zi4 {Y:Cx}{e tg:Expr}{d:Nat}{p:Pos}{acc:Value}{rest:Value->Sem Fin}{g:TG}{tb:TB}(hpl:Plain e) (hc:Y.calm=true) (hx:Y.xe=λ_ _=>False)
  (hct:∀it,compTurn e d it acc Y.env=(do
   standAt p
   match ← pyNext it with
   |none=>pure (.done .next)
   |some v=>
    letOwnedTupleGo tg it v
    assign tg Y.env v
    rest it))
  (hg:PG Y tg g) (hb:∀it,PBT Y (rest it) (.compLoop e d it acc Y.env) tb) {pins:List (Addr × Obj)}{σ:St}{s:Shared}{itv:Value}{R:St->Hp->Prop}(h:PIE Y pins σ tg (LoopR g tb R σ) itv s) :
  codeAny (model Y.prog Y.w) Y.A (.compLoop e d itv acc Y.env) (λr s'=>r=.ok .next/\∃σ' H',Inv Y pins σ' H' s' /\ R σ' H') s:=by
 obtain⟨it,fp,tn,J,H2,e0,I2,T,st2,f2,W,⟨m0,w0⟩,turn⟩:=h;subst e0;have stat:∀{H':Hp},(∀b∈fp,H' b=none)->∀b∈fp,FpOk Y pins H' b:=λhn b hb=>⟨hn b hb,(f2 b hb).2⟩;refine codeAny_loop rfl (λn s'=>∃i σ' H',Inv Y pins σ' H' s' /\ tn i s'.heap/\(∀b∈fp,H' b=none)/\W i n σ' H') ?_ m0 ⟨0,σ,H2,I2,st2,λb hb=>(f2 b hb).1,w0⟩;rintro n s3 ⟨i,σ3,H3,I3,st3,fr3,w3⟩;obtain⟨z1,z2⟩:=hpl.tu Y.prog Y.w Y.A d (.ref it) acc Y.env;rw[z1,z2];refine wpAny_noted (wpAny_mono (E:=λ_ _=>False) ?_ (λ_ _ q=>q) λ_ _ z=>z.elim);rw[hct];refine wpAny_bind<|wpAny_standAt<|wpAny_bind ?_;rcases turn i n σ3 H3 w3 with ⟨stop,qn⟩|⟨go,N,hN,step⟩
 ·refine thn (T.done Y rfl rfl rfl hc i pins s3 σ3 H3 (λ_ _=>False) I3 (stat fr3) st3 stop) λr s4 ⟨hr,I4⟩=>?_
  subst hr;exact wpAny_pure ⟨rfl,σ3,H3,I4,qn⟩
 ·refine thn (T.item Y rfl rfl rfl hc i pins s3 σ3 H3 (λ_ _=>False) I3 (stat fr3) st3 go) λr s4 ⟨u,hr,h4⟩=>?_
  subst hr;refine wpAny_bind (thn h4 λ_ s5 ⟨x,H5,I5,r5,y5,st5,fr5⟩=>?_);have I5':=I5.pinned (stat fr5)<|T.obj _ _ st5;have G1:=hg _ s5 σ3 H5 x u _ I5' r5<|step x H5 y5;rw[hx]at G1;refine wpAny_bind (thn G1 λ_ s6 ⟨σ6,H6,I6,q6⟩=>?_);refine thn (hb _ _ s6 σ6 H6 N I6 q6) λfn s7 ⟨hfn,σ7,H7,I7,n7⟩=>?_;subst hfn;refine⟨rfl,?_⟩;obtain⟨m',hm,w7⟩:=hN σ7 H7 n7;refine⟨m',hm,i+1,σ7,H7,I7.unpinned,T.keep _ _ _ st5 λb hb o e=>(I7.pin (b,o)<|Wa0 _<|Wa0 _<|Zci hb e).1,λb hb=>?_,w7⟩;obtain⟨o,e,_⟩:=T.obj _ _ st5 b hb;exact(I7.pin (b,o)<|Wa0 _<|Wa0 _<|Zci hb e).2.1
theorem Zf2 {Y:Cx}{e tg it0:Expr}{ifs:List Expr}{d:Nat}{acc:Value}{pins:List (Addr × Obj)}{σ:St}{s:Shared}{itv:Value}{RR:It->Hp->Prop}{R:Result->Shared->Prop}(hpl:Plain e) (hcl:(clausesOf e)[d]?=some ⟨tg,it0,ifs,0⟩)
  (h:PIE Y pins σ tg RR itv s) (h0:codeAny (model Y.prog Y.w) Y.A (.compLoop e d itv acc Y.env) R s):codeAny (model Y.prog Y.w) Y.A (.compStart e d itv acc Y.env) R s:=by
 obtain⟨it,fp,tn,J,H2,e0,I2,T,st2,f2,_⟩:=h;subst e0;refine codeAny_of_tree ?_;obtain⟨z1,z2⟩:=hpl.su Y.prog Y.w Y.A d (.ref it) acc Y.env;rw[z1,z2];refine wpAny_notedAt ?_;unfold compStart;rw[hcl];show wpAny _ _ (ask >>= _) _ _ s;refine wpAny_bind<|wpAny_askSetting<|wpAny_ite ?_;split
 ·first
   |exact wpAny_bind (wpAny_pure (wpAny_pure (And.intro rfl h0)))
   |exact wpAny_pure (And.intro rfl h0)
 ·refine wpAny_bind (wpAny_rule ?_)
  show wpAny _ _ (standAt it0.pos >>= _) _ _ s;exact wpAny_bind<|wpAny_standAt<|wpAny_bind<|T.self _ 0 _ _ _ st2<|wpAny_pure<|And.intro rfl h0
theorem Zlp {Y:Cx}{e tg it2:Expr}{acc:Value}{wi:TI}{g:TG}{tb:TB}{rest:Value->Sem Fin}{c:Code}(hpl:Plain e) (hc:Y.calm=true) (hx:Y.xe=λ_ _=>False) (hcl:(clausesOf e)[1]?=some ⟨tg,it2,[],0⟩)
  (hct:∀it,compTurn e 1 it acc Y.env=(do
   standAt it2.pos
   match ← pyNext it with
   |none=>pure (.done .next)
   |some v=>
    letOwnedTupleGo tg it v
    assign tg Y.env v
    rest it))
  (hi:PI Y tg it2 wi) (hg:PG Y tg g) (hb:∀it,PBT Y (rest it) (.compLoop e 1 it acc Y.env) tb) (hs:∀x,foldedSetIterable it2 Y.env x=pure x) :
  PBT Y (do
   let x ← eval it2 Y.env
   standAt it2.pos
   let x ← foldedSetIterable it2 Y.env x
   let _ ← runOwn (.compStart e 1 (← holding [x] (pyIter x)) acc Y.env) Y.env
   again c) c (tLoop wi g tb):=λpins s σ H N I h=>by
 have h1:=hi pins s σ H _ I h;rw[hx]at h1;refine wpAny_bind (thn h1 λv s1 h2=>wpAny_bind<|wpAny_standAt<|wpAny_bind<|wpAny_of_eq (hs v)<|wpAny_bind<|wpAny_holding (thn h2 λitv s2 h3=>?_));refine wpAny_bind<|wpAny_runOwn ?_;refine codeAny_mono (Zf2 hpl hcl h3<|Zi4 hpl hc hx hct hg hb h3) λr s' ⟨hr,q⟩=>?_;subst hr;exact wpAny_pure ⟨rfl,q⟩
section
variable {X:Cx}
def tPutK (tk tv:TE) (D:Addr):TB:=λσ H N=>tk σ H λx H1=>tv σ H1 λy H2=>∃kvs k,x=kV k/\H2 D=some (.dK kvs)/\kvs.length<sizeLine/\N σ (upd H2 D (.dK<|putK kvs k y))
def tComp2 (n:Nat) (sel:List Nat) (wi1:TI) (g1:TG) (wi2:TI) (g2:TG) (ho:HO) (tem:Addr->TB):TE:=λσ H Q=>wi1 σ H λJ H1=>∀acc,H1 acc=none->LoopR g1 (tLoop wi2 g2<|tem acc) (λ_ H'=>Q (.ref acc) H') (compSt n sel σ) J (upd H1 acc ho)
theorem Zfc (k v gens scope pos) (env:Env):eval (.DictComp k v gens scope pos) env=comprehension (.DictComp k v gens scope pos) scope env (firstIterPos gens pos) newDict (firstAsync gens) (firstIter gens env):=by rfl
theorem Zwn {Y:Cx}{kx vx:Expr}{tk tv:TE}{p:Pos}(hx:Y.xe=λ_ _=>False) (hk:PE Y kx tk) (hv:PE Y vx tv) (D:Addr):PB Y (do
   let kv ← eval kx Y.env
   let vv ← holding [kv] (eval vx Y.env)
   standAt p
   holding [kv,vv] (dictSet D kv vv)) (tPutK tk tv D):=λpins s σ H N I h=>by
 have h1:=hk pins s σ H _ I h;rw[hx]at h1;refine wpAny_bind (thn h1 λu s1 ⟨x,H1,I1,rx,h2⟩=>?_);have h3:=hv pins s1 σ H1 _ I1 h2;rw[hx]at h3;refine wpAny_bind<|wpAny_holding (thn h3 λr s2 ⟨y,H2,I2,ry,kvs,k,ex,hD,hl,hN⟩=>wpAny_bind<|wpAny_standAt<|wpAny_holding ?_);subst ex;obtain⟨z,hd,vs,rel,dd⟩:=Zt1 I2.hok hD;have hz:vs.length<=sizeLine:=by rw[<- rel.length];exact z
 have hl':(putK kvs k y).length<=sizeLine:=by have:=Zd1 kvs k y;omega
 refine wpAny_dictSet_pairs (hsz:=hz) (Zl9 rx) dd λh' dd' hs=>⟨σ,_,?_,hN⟩;have he:∃q,h'.get? D=some q:=let ⟨q,_,_,hq,_⟩:=dd'; ⟨q,hq⟩
 exact Zg0 I2 (by rw[hD];exact True.intro) hs he<|Zsg hl' hd (rel.put k ry) dd'
end
section
variable {K:W.Frag}{Δ:Evt}
def KD (K:W.Frag) (G:Hp):List (Key × V)->List (Key × D)->Prop:=Paired λ(p:Key × V) (q:Key × D)=>p.1=q.1/\Rep K G p.2 q.2
theorem KD.len {G:Hp}{vs:List (Key × V)}{ds:List (Key × D)}(h:KD K G vs ds):vs.length=ds.length:=Paired.length h
end
def Itc (lo c:Int) (n:Nat):It:=⟨λi _=>i<n,λi H x H'=>H'=H/\x=.int (lo+(i:Nat)*c),λi _=>n<=i⟩
theorem Zog {P:Program}{w:World}{K:W.Frag}{tg:Expr}(it:Addr) (lo c:Int) (n:Nat):Turn P w K tg (Itc lo c n) [it] it (λi h=>IsRangeIter h it (lo+(i:Nat)*c) ((n:Int)-(i:Nat)) c) where
 mem:=by simp
 obj:=λi h st b hb=>by
  have e:b=it:=by simpa using hb
  subst e;exact⟨_,st,λv z=>by
   have z':Data.fields _=Data.cell v:=z;cases z'⟩
 keep:=λi h h' st k=>k it (by simp) _ st
 item:=by
  intro X hP hw hK hc i pins s σ H E I hf st hg;subst hP hw hK;obtain⟨f0,f1,f2,f3,f4,f5⟩:=hf it (by simp);have W:=Walks.range (prog:=X.prog) (w:=X.w) (I.ok.hd hc) it lo c n;refine W.item i s _ _ hg st λv h' tk hv st' kk=>?_;obtain⟨t,rfl⟩:=hv;have I1:Inv X pins σ H { s with heap:=h',toks:=tk }:=I.turned (λb o hb e=>kk b o (by simpa using hb) e) f0 f1 f3 f4 f5;exact⟨_,rfl,Zr0 (s:={ s with heap:=h',toks:=tk }) (n:="range_iterator") st' rfl rfl (by decide) ⟨.int<|lo+(i:Nat)*c,H,I1,⟨t,rfl⟩,⟨rfl,rfl⟩,st',λb hb=>(hf b hb).1⟩⟩
 done:=by
  intro X hP hw hK hc i pins s σ H E I hf st hg;subst hP hw hK;obtain⟨f0,f1,f2,f3,f4,f5⟩:=hf it (by simp);exact wpAny_pyNext_range_end (I.ok.hd hc) st (by have:n<=i:=hg;omega) λh' eb=>⟨rfl,I.turned (t':=s.toks) (λb o hb e=>eb b o hb e) f0 f1 f3 f4 f5⟩
 self:=λ_ _ _ _ _ st h=>wpAny_pyIter_rangeiter st h
def stepN (a b c:Int):Nat:=(Builtin.Range.rangeSize a b c).toNat
def iRng3 (ta:TA):TI:=λσ H R=>ta σ H λvs H1=>∃a b c:Int,vs=[.int a,.int b,.int c]/\(-1000<=a/\a<=1000 /\ -1000<=b/\b<=1000/\(c=2\/c = -1))/\R (Itc a c<|stepN a b c) H1
theorem Zf7 (a b:Int):Builtin.Range.rangeSize a b 2=if a<b then (b-a-1) / 2+1 else 0:=by
 unfold Builtin.Range.rangeSize;rw[if_pos (by decide)]
theorem Zq5 (a b:Int):Builtin.Range.rangeSize a b (-1)=if a > b then a-b else 0:=by
 unfold Builtin.Range.rangeSize;rw[if_neg (by decide)];split <;> simp
theorem Zmp {a b c:Int}(h:-1000<=a/\a<=1000 /\ -1000<=b/\b<=1000/\(c=2\/c = -1)):Builtin.Range.small a b c=true/\0<=Builtin.Range.rangeSize a b c/\Builtin.Range.rangeSize a b c<=4000:=by
 obtain⟨h1,h2,h3,h4,h5⟩:=h;unfold Builtin.Range.small;simp only[Builtin.Range.rangeFitsLong,Wbw,Bool.or_eq_true,decide_eq_true_eq,beq_iff_eq];rcases h5 with rfl|rfl
 ·rw[Zf7];split <;> (refine⟨?_,?_,?_⟩ <;> (try split) <;> (try simp) <;> omega)
 ·rw[Zq5];split <;> (refine⟨?_,?_,?_⟩ <;> (try split) <;> (try simp) <;> omega)
section
variable {X:Cx}{tg:Expr}
theorem Zqe {a b c:Expr}{ta:TA}{p pos:Pos}(hg:Gl X "range") (hm:X.mg "range" = none) (ha:PA X [a,b,c] ta) (hs:starEach [a,b,c] X.env=[(false,eval a X.env),(false,eval b X.env),(false,eval c X.env)]:=by rfl) (hs2:starEach [b,c] X.env=[(false,eval b X.env),(false,eval c X.env)]:=by rfl) :
  PI X tg (.Call (.Name "range" p) [a,b,c] [] pos) (iRng3 ta):=by
 intro pins s σ H R I h;refine Call_<|Zew I hg hm boot_range<|PyProof.Rows.callWith_type1 (thn (ha pos pins s σ H _ I h) λus s1 ⟨vs,H1,I1,r1,q1⟩=>?_) (by rw[hs,hs2]) (by rw[hs2];rfl);obtain⟨i,j,k,e,hb,q⟩:=q1;subst e;cases r1 with
 |cons r rr=>
  cases rr with
  |cons r' rr=>
   cases rr with
   |cons r2 rr=>
    cases rr;obtain⟨t,rfl⟩:=r;obtain⟨t',rfl⟩:=r';obtain⟨t2,rfl⟩:=r2;obtain⟨z1,z2,z3⟩:=Zmp hb;refine call_range_3 (by omega) ?_ (Or.inl (PyProof.noPylong_small (by omega)));refine wpAny_pyIter_range (IsRange.new ..) z1 ?_;have I2:Inv X pins σ H1 { s1 with heap:=s1.heap.push { cls:=.type "range",data:=.fields #[.int i t,.int j t',.int k t2] },toks:=s1.toks }:=I1.kept λb o e=>Wac _ e;refine⟨(s1.heap.push { cls:=.type "range",data:=.fields #[.int i t,.int j t',.int k t2] }).objs.size,[(s1.heap.push { cls:=.type "range",data:=.fields #[.int i t,.int j t',.int k t2] }).objs.size],_,_,H1,rfl,
     I2.kept (t':=s1.toks) λb o e=>Wac _ e,Zog _ i k (stepN i j k),?_,λb hb=>?_,q⟩
    ·show IsRangeIter _ _ (i+((0:Nat):Int)*k) (((stepN i j k:Nat):Int)-((0:Nat):Int)) k
     have e1:i+((0:Nat):Int)*k=i:=by simp
     have e2:((stepN i j k:Nat):Int)-((0:Nat):Int)=Builtin.Range.rangeSize i j k:=by unfold stepN;omega
     rw[e1,e2];exact Wao _ rfl
    ·have e:b=(s1.heap.push { cls:=.type "range",data:=.fields #[.int i t,.int j t',.int k t2] }).objs.size:=by simpa using hb
     subst e;exact I2.fpOk (Wak _)<|I2.hok.fresh<|Wak _
end
section
variable {K:W.Frag}{Δ:Evt}{P:D->Evt->Prop}
def stpD (lo c:Int) (n:Nat):List D:=(Waq n).map λi:Nat=>D.int<|lo+(i:Int)*c
theorem Zlm (lo c:Int) (n:Nat):(stpD lo c n).length=n:=by simp[stpD]
theorem Zlh {lo c:Int}{n i:Nat}{d:D}(h:(stpD lo c n)[i]?=some d):i<n/\d=.int (lo+(i:Int)*c):=by
 unfold stpD at h;rw[Wad]at h;by_cases hi:i<n
 ·rw[Wb1 hi]at h
  exact⟨hi,(Wa6.inj h).symm⟩
 ·rw[Wbr (by rw[Wa5];omega)]at h;cases h
theorem Zr3 {G:Hp}(lo c:Int) (n:Nat):ItOk K G (Itc lo c n) (stpD lo c n):=λG1 H1 sg sh=>by
 refine⟨by show n<=(stpD lo c n).length;rw[Zlm];exact Wak _,λi d e=>?_⟩;obtain⟨h1,h2⟩:=Zlh e;subst h2;refine⟨h1,λx H2 ⟨e2,y2⟩=>⟨G1,Same.refl _,by rw[e2];exact Same.refl _,λb o q=>⟨by rw[e2];exact sh b o q,.inl q⟩,?_⟩⟩;subst y2;exact .int _
theorem Zo6 {ta:TA}{P:List D->Evt->Prop}(h:JA K ta Δ λds Δ1=>∃a b c:Int,ds=[.int a,.int b,.int c]/\(-1000<=a/\a<=1000 /\ -1000<=b/\b<=1000/\(c=2\/c = -1))/\P (stpD a c<|stepN a b c) Δ1):JI K (iRng3 ta) Δ P:=λg G H σ R k c=>
 h g G H σ _ k λvs ds G1 H1 Δ1 k1 s1 r1 hq_=>by
  obtain⟨x,y,z,e,hb,p1⟩:=hq_;subst e;obtain⟨_,_,rfl,ra,rr⟩:=r1.inv
  next=>
   obtain⟨_,_,rfl,rb,rr⟩:=rr.inv
   next=>
    obtain⟨_,_,rfl,rc,rr⟩:=rr.inv
    next=>
     cases rr.inv;cases ra.inv;cases rb.inv;cases rc.inv;exact⟨x,y,z,rfl,hb,c _ _ G1 H1 Δ1 k1 s1 (Zr3 x z _) p1⟩
theorem Zkg {n:Nat}{x:Slot}{kvs:List (Key × D)}(hx:Δ[n]?=some x) (ho:x.od=some (.dct kvs)) (p:P (.int kvs.length) Δ):JE K (tCB (rLenU K)<|tCons (tVar n) tNil) Δ P:=λg G H σ Q k c=>by
 obtain⟨a,o,h1,h2,h3,h4,h5⟩:=k.own n x _ hx ho;cases o with
 |dK vs=>
  have h3:KD K G vs kvs:=h3;refine⟨.ref a,h1,.inr ⟨a,vs,rfl,h2,?_⟩⟩;rw[h3.len];exact c _ _ G H Δ k (Same.refl _) (.int _) p
 |_=>exact absurd h3 (λz=>z)
end
theorem ObjOk.has {P:Program}{w:World}{H:Hp}{h:Heap}{a:Addr}{o:HO}(x:ObjOk P w H h a o):∃ob,h.get? a=some ob:=by
 cases o with
 |lst xs=>obtain⟨_,_,_,_,e⟩:=x;exact⟨_,e⟩
 |tup xs=>obtain⟨_,_,_,o,e,_⟩:=x;exact⟨_,e⟩
 |dK kvs=>obtain⟨_,_,_,_,o,_,_,e,_⟩:=x;exact⟨_,e⟩
 |dT kvs=>obtain⟨_,_,_,_,o,_,_,e,_⟩:=x;exact⟨_,e⟩
 |set S n=>obtain⟨o,_,_,_,e,_⟩:=x;exact⟨_,e⟩
 |ins C dx fs=>obtain⟨_,_,_,e,_⟩:=x;exact⟨_,e⟩
 |own y=>exact x
 |xd fs=>obtain⟨_,⟨_,_,_,e,_⟩,_⟩:=x;exact⟨_,e⟩
 |rng lo hi=>obtain⟨_,_,_,e⟩:=x;exact⟨_,e⟩
 |frz ob u=>obtain⟨e,_⟩:=x;exact⟨_,e⟩
 |tbl ps=>exact⟨_,x⟩
 |met f y=>exact⟨_,x⟩
 |ext φ=>exact x.2.1
theorem HOk.noneAt {P:Program}{w:World}{H:Hp}{h:Heap}{a:Addr}(x:HOk P w H h) (e:h.get? a=none):H a=none:=by
 cases q:H a with
 |none=>rfl
 |some o=>obtain⟨ob,z⟩:=(x a o q).has;rw[e]at z;cases z
structure Nw (X:Cx) (pins:List (Addr × Obj)) (H:Hp) (b:Addr):Prop where
 old:X.s₀.heap.get? b=none
 trk:H b=none
 loc:b≠X.env.locals
 cel:∀x c,X.env.cells.lookup x=some c->c≠b
 pin:∀p∈X.pn++pins,p.1≠b
section
variable {X:Cx}{pins:List (Addr × Obj)}{σ:St}{H H':Hp}{s:Shared}{h':Heap}{b:Addr}
theorem Nw.of (I:Inv X pins σ H s) (hex:X.ex=[]) (e:s.heap.get? b=none):Nw X pins H b where
 old:=by
  cases q:X.s₀.heap.get? b with
  |none=>rfl
  |some o=>obtain⟨o',z⟩:=I.base.there b o q (by rw[hex];simp);rw[e]at z;cases z
 trk:=I.hok.noneAt e
 loc:=by rintro rfl;obtain⟨m,⟨o,_,_,ho,_⟩,_⟩:=I.loc;rw[e]at ho;cases ho
 cel:=λx c hc z=>by subst z;obtain⟨v,o,ho,_⟩:=I.cell x c hc;rw[e]at ho;cases ho
 pin:=λp hp z=>by have:=(I.pin p hp).1;rw[z,e]at this;cases this
theorem Nw.at (n:Nw X pins H b) (h:H' b=none):Nw X pins H' b:=⟨n.old,h,n.loc,n.cel,n.pin⟩
theorem Inv.moved {hid:List Addr}(I:Inv X pins σ H s) (hex:X.ex=[]) (new:∀b∈hid,Nw X pins H b) (kp:∀b o,s.heap.get? b=some o->b ∉ hid->b ∉ frs X.stack->h'.get? b=some o) (up:s.heap.UpToSlots h'):Inv X pins σ H { s with heap:=h' }:=by
 have nst:∀b,b≠X.env.locals->b ∉ X.fs->b ∉ frs X.stack:=λb h1 h2 z=>(Wap.mp<|I.stkSub b z).elim h1 h2;have neL:∀b o,X.s₀.heap.get? b=some o->b≠X.env.locals:=λb o e=>Wa8<|Wbh (Wax e) I.ok.above;have nhd:∀b o,X.s₀.heap.get? b=some o->b ∉ hid:=λb o e z=>by rw[(new b z).old]at e;cases e
 have nx:∀b,b ∉ X.ex:=λb=>by rw[hex];simp
 have cellK:∀c v,s.heap.IsCell c v->h'.IsCell c v:=λc v hq=>by
  obtain⟨o,ho,hd⟩:=hq;obtain⟨sl,e⟩:=up c o ho (λvs q=>by rw[hd]at q;cases q);exact⟨_,e,hd⟩
 refine⟨I.ok,I.os,I.bare,⟨λb o e n hb hx=>?_,λb o e n hb hx=>?_,I.base.free,λb o e hx=>?_,I.base.tups,I.base.frzs,I.base.tbls⟩,?_,λx c e=>?_,I.free,I.freeC,λp hp=>?_,λb u e=>?_,I.len⟩
 ·exact kp b o (I.base.keep b o e n hb hx) (nhd b o e)<|nst b (neL b o e) hb
 ·obtain⟨sl,e1⟩:=I.base.slot b o e n hb hx
  obtain⟨_,o',ho',hd⟩:=I.funs.mem hb;rw[e1]at ho';cases ho';obtain⟨sl',e2⟩:=up b _ e1 hd;exact⟨sl',e2⟩
 ·obtain⟨o',e1⟩:=I.base.there b o e hx
  by_cases hb:b∈frs X.stack
  ·obtain⟨_,o2,ho',hd⟩:=I.stack.mem hb
   obtain⟨sl',e2⟩:=up b _ ho' hd;exact⟨_,e2⟩
  ·exact⟨o',kp b o' e1 (nhd b o e) hb⟩
 ·obtain⟨m,hn,hl⟩:=I.loc
  refine⟨m,up.ns hn,λi x v e1 e2 e3=>?_⟩;obtain⟨u,r,l⟩:=hl i x v e1 e2 e3;refine⟨u,r,?_⟩;rcases l with l|⟨k,c,e,z⟩
  ·exact .inl l
  ·exact .inr ⟨k,c,e,cellK c _ z⟩
 ·obtain⟨v,z⟩:=I.cell x c e
  exact⟨v,cellK c v z⟩
 ·obtain⟨e,n,ne,nf,d⟩:=I.pin p hp
  exact⟨kp p.1 p.2 e (λz=>(new _ z).pin p hp rfl)<|nst _ ne nf,n,ne,nf,d⟩
 ·refine(I.hok b u e).stay (λc v hc q=>kp c v q (λz=>?_) λz=>?_) (λ_ q=>q) λ_ _ q=>q
  ·have n:=(new c z).trk
   rcases hc with rfl|hc
   ·rw[e]at n;cases n
   ·rw[hc]at n;cases n
  ·have n:=I.stkFree c z
   rcases hc with rfl|hc
   ·rw[e]at n;cases n
   ·rw[hc]at n;cases n
end
def Trc (h:Heap) (a C T:Addr):Prop:=
 ∃oe vs oT ts,h.get? a=some oe/\oe.cls=.ref C/\oe.data=.fields vs/\vs[1]?=some (.ref T)/\vs[2]?=some .none/\T≠a/\h.get? T=some oT/\oT.data=.fields ts/\ts[3]?=some .none
section
variable {M:Model}{A:Around}{E:Value->Shared->Prop}{s:Shared}{Q:Unit->Shared->Prop}{env:Env}{outer:List Env}{base:Heap}{L e:Addr}{oe:Obj}{vs:Array Value}
theorem Zvi (hl:s.heap.FunFrames base (env::outer)) (he:s.heap.get? e=some oe) (hd:oe.data=.fields vs):e ∉ frs (env::outer):=λhm=>by
 obtain⟨_,o,ho,hn⟩:=hl.mem hm;rw[he]at ho;exact hn vs (Wa6.inj ho ▸ hd)
structure Noted (h h':Heap) (l:List Env) (e:Addr) (oe:Obj) (T:Addr):Prop where
 keep:∀b o,h.get? b=some o->b≠e->b ∉ frs l->h'.get? b=some o
 up:∀b o,h.get? b=some o->b≠e->(∀ws,o.data≠.fields ws)->∃sl,h'.get? b=some { o with slots:=sl }
 new:h.get? T=none
 exc:h'.get? e=some (oe.mapFields (·.setIfInBounds 1 (.ref T)))
 tb:∃oT ts,h'.get? T=some oT/\oT.data=.fields ts/\3<ts.size
theorem entryX {head:Value}{hadNext:Bool}(hfr:A.frames=some (env::outer)) (hl:s.heap.FunFrames base (env::outer)) (hf:env.frame=some L) (he:s.heap.get? e=some oe) (hd:oe.data=.fields vs) (hsz:1<vs.size)
  (h:∀h' T,Noted s.heap h' (env::outer) e oe T->Q () { s with heap:=h' }) :
  wpAny M A (do let a ← frameOf env;let pl ← entryPlaceOf L hadNext;let b ← EntryCells.newEntry head a .none (rawInt L) .none pl;setField (.ref e) 1 b) Q E s:=by
 have hene:=Zvi hl he hd;refine wpAny_bind (wpAny_frameOf_fun hfr hl hf λg1 hg=>?_);refine wpAny_bind (wpAny_entryPlaceOf λpl hp=>?_);unfold EntryCells.newEntry newFields;refine wpAny_bind<|wpAny_newObj_type ?_<|hp.sizeOk5 _ _ _ _ _;have he1:g1.get? e=some oe:=(hg.2.1 e hene).trans he;have he2:=Wac (h:=g1) { cls:=.type "traceback",dict:=none,data:=.fields ([head,.ref L,.none,rawInt L,.none]++(if pl.isEmpty then Wae 6 Value.none else pl)).toArray } he1;refine wpAny_setField he2 hd hsz<|h _ g1.objs.size ?_;have nT:g1.objs.size≠e:=Wdl<|Wax he1;have hd3:=Obj.data_mapFields hd (·.setIfInBounds 1 (Value.ref g1.objs.size));have hT3:=(Wbu (g1.push { cls:=.type "traceback",dict:=none,data:=.fields ([head,.ref L,.none,rawInt L,.none]++(if pl.isEmpty then Wae 6 Value.none else pl)).toArray }) (Obj.mapFields (·.setIfInBounds 1 (Value.ref g1.objs.size)))<|Ne.symm nT).trans (Wao g1 rfl);refine⟨λb o hb h1 h2=>?_,λb o hb h1 hn=>?_,?_,?_,⟨_,_,hT3,rfl,?_⟩⟩
 ·rw[Wbu _ _ (Ne.symm h1)]
  exact Wac _ ((hg.2.1 b h2).trans hb)
 ·obtain⟨sl,q⟩:=hg.2.2 b o hb
  exact⟨sl,by rw[Wbu _ _ (Ne.symm h1)];exact Wac _ q⟩
 ·exact Heap.get?_none_of_le (by rw[hg.1];exact Wak _)
 ·exact Wb7 _ he2<|Obj.isFreed_of_fields hd3
 ·rw[Wah,Waj,Wan,Wan,Wan,Wan]
  omega
theorem noteN (hfr:A.frames=some (env::outer)) (hl:s.heap.FunFrames base (env::outer)) (hf:env.frame=some L) (he:s.heap.get? e=some oe) (hd:oe.data=.fields vs) (h1:vs[1]?=some .none)
  (h:∀h' T,Noted s.heap h' (env::outer) e oe T->Q () { s with heap:=h' }):wpAny M A (noteFrame (.ref e) env) Q E s:=by
 unfold noteFrame;simp only[hf];refine wpAny_bind<|wpAny_field he hd h1 ?_;rw[if_neg (by decide)];exact entryX hfr hl hf he hd (Array.getElem?_eq_some_iff.mp h1).1 h
theorem noteT {T:Addr}{oT:Obj}{ts:Array Value}(hfr:A.frames=some (env::outer)) (hl:s.heap.FunFrames base (env::outer)) (hf:env.frame=some L) (he:s.heap.get? e=some oe) (hd:oe.data=.fields vs) (h1:vs[1]?=some (.ref T)) (hTe:T≠e)
  (hT:s.heap.get? T=some oT) (hdT:oT.data=.fields ts) (h3:ts[3]?=some .none) (h:∀h' T',Noted (s.heap.update T<|Obj.mapFields (·.setIfInBounds 3 .none)) h' (env::outer) e oe T' -> Q () { s with heap:=h' }):wpAny M A (noteFrame (.ref e) env) Q E s:=by
 unfold noteFrame;simp only[hf];refine wpAny_bind<|wpAny_field he hd h1 ?_;rw[if_pos (show (Value.ref T != Value.none)=true from by simp)];refine wpAny_bind<|wpAny_field hT hdT h3 ?_;rw[if_neg (show ¬ ((Value.none == rawInt L)=true) from by simp[rawInt])];refine wpAny_bind<|wpAny_setField hT hdT (Array.getElem?_eq_some_iff.mp h3).1 ?_;have ot:∀b,b≠T->(s.heap.update T<|Obj.mapFields (·.setIfInBounds 3 Value.none)).get? b=s.heap.get? b:=λb hb=>Wbu _ _<|Ne.symm hb;refine entryX (s:={ s with heap:=s.heap.update T (Obj.mapFields (·.setIfInBounds 3 .none)) }) hfr (hl.of_keeps λb o hb hn=>⟨o,(ot b λq=>?_).trans hb,rfl⟩) hf ((ot e<|Ne.symm hTe).trans he) hd (Array.getElem?_eq_some_iff.mp h1).1 λh' T' n=>h h' T' n;rw[q,hT]at hb;exact hn ts (Wa6.inj hb ▸ hdT)
end
section
variable {X:Cx}{pins:List (Addr × Obj)}{σ:St}{H H':Hp}{s:Shared}{h':Heap}{a C T:Addr}
theorem Inv.noted {h0:Heap}{oe:Obj}{vs:Array Value}{hid:List Addr}{T':Addr}(I:Inv X pins σ H s) (hex:X.ex=[]) (na:Nw X pins H a) (new:∀b∈hid,Nw X pins H b) (he:s.heap.get? a=some oe) (hc:oe.cls=.ref C) (hd:oe.data=.fields vs) (h2:vs[2]?=some .none)
  (k0:∀b,b ∉ hid->h0.get? b=s.heap.get? b) (hf0:∀b∈hid,∀o,s.heap.get? b=some o->∃ws,o.data=.fields ws) (hn0:∀b,h0.get? b=none->s.heap.get? b=none) (n:Noted h0 h' X.stack a oe T') {h3:Heap}(e3:h3=h'.update T' (Obj.mapFields (·.setIfInBounds 3 .none))) :
  Inv X pins σ H { s with heap:=h3 } /\ Trc h3 a C T' /\ Nw X pins H T':=by
 subst e3;have nT:=Nw.of I hex<|hn0 _ n.new;have ot:∀b,b≠T' -> (h'.update T'<|Obj.mapFields (·.setIfInBounds 3 Value.none)).get? b=h'.get? b:=λb hb=>Wbu _ _<|Ne.symm hb;have hTa:T'≠a:=by rintro rfl;have z:=hn0 _ n.new;rw[he]at z;cases z
 have ne:∀b o,s.heap.get? b=some o->b≠T':=λb o e z=>by subst z;rw[hn0 _ n.new]at e;cases e
 have fl:∀b,b∈a::hid->∀o,s.heap.get? b=some o->∃ws,o.data=.fields ws:=λb hb o e=>by
  rcases Wap.mp hb with rfl|hb
  ·rw[he]at e;cases e;exact⟨vs,hd⟩
  ·exact hf0 b hb o e
 refine⟨I.moved (hid:=a::hid) hex (λb hb=>(Wap.mp hb).elim (λz=>by subst z;exact na) (new b)) (λb o e h1 h2=>?_) λb o e hnf=>?_,?_,nT⟩
 ·have h1a:b≠a:=λz=>h1 (by simp[z])
  have h1b:b ∉ hid:=λz=>h1<|Way _ z;rw[ot b (ne b o e)];exact n.keep b o ((k0 b h1b).trans e) h1a h2
 ·have hb:b ∉ a::hid:=λz=>by obtain⟨ws,q⟩:=fl b z o e;exact hnf ws q
  have h1a:b≠a:=λz=>hb (by simp[z]);have h1b:b ∉ hid:=λz=>hb<|Way _ z;obtain⟨sl,q⟩:=n.up b o ((k0 b h1b).trans e) h1a hnf;exact⟨sl,(ot b<|ne b o e).trans q⟩
 ·obtain⟨oT,ts,t1,t2,t3⟩:=n.tb
  have sz:2<vs.size:=(Array.getElem?_eq_some_iff.mp h2).1;refine⟨_,_,_,_,(ot a<|Ne.symm hTa).trans n.exc,(Obj.cls_mapFields _ _).trans hc,Obj.data_mapFields hd _,?_,?_,hTa,Wb7 _ t1<|Obj.isFreed_of_fields<|Obj.data_mapFields t2 _,Obj.data_mapFields t2 _,?_⟩
  ·simp[show 1<vs.size by omega]
  ·rw[Array.getElem?_setIfInBounds_ne (by decide)];exact h2
  ·simp[t3]
variable {M:Model}{E:Value->Shared->Prop}{Q:Unit->Shared->Prop}
theorem Zly {h h':Heap}{l:List Env}{e T:Addr}{oe:Obj}{vs:Array Value}{A:Around}{s:Shared}(hd:oe.data=.fields vs) (sz:1<vs.size) (n:Noted h h' l e oe T) (h:Q () { s with heap:=h'.update T (Obj.mapFields (·.setIfInBounds 3 .none)) }) :
  wpAny M A (setFlight (.ref e) none) Q E { s with heap:=h' }:=by
 obtain⟨oT,ts,t1,t2,t3⟩:=n.tb;exact wpAny_setFlight_none (s:={ s with heap:=h' }) n.exc (Obj.data_mapFields hd _) (by simp[sz]) t1 t2 t3 h
theorem Zm0 (I:Inv X pins σ H s) (hex:X.ex=[]) (hst:X.stack=X.env::X.outer) (hf:X.env.frame=some X.env.locals) (tr:Trc s.heap a C T) (na:Nw X pins H a) (nT:Nw X pins H T)
  (h:∀h' T',Inv X pins σ H { s with heap:=h' } -> Trc h' a C T' -> Nw X pins H T' -> Q () { s with heap:=h' }):wpAny M X.A (noteFrame (.ref a) X.env) (λ_ s2=>wpAny M X.A (setFlight (.ref a) none) Q E s2) E s:=by
 obtain⟨oe,vs,oT,ts,h1,h2,h3,h4,h5,h6,h7,h8,h9⟩:=tr;have hfr:=I.ok.frames;have hl:=I.stack;rw[hst]at hfr hl;have ot:∀b,b≠T->(s.heap.update T (Obj.mapFields (·.setIfInBounds 3 Value.none))).get? b=s.heap.get? b:=λb hb=>Wbu _ _ (Ne.symm hb);refine noteT hfr hl hf h1 h3 h4 h6 h7 h8 h9 λh' T' n=>?_;refine Zly h3 (Array.getElem?_eq_some_iff.mp h4).1 n ?_;rw[<- hst]at n;obtain⟨J,t1,t2⟩:=I.noted (hid:=[T]) hex na (λb hb=>by rcases Wap.mp hb with rfl|hb;exact nT;cases hb) h1 h2 h3 h5 (λb hb=>ot b (by simpa using hb)) (λb hb o e=>by
  have hb:b=T:=by simpa using hb
  subst hb;rw[h7]at e;cases e;exact⟨ts,h8⟩) (λb e=>by
   by_cases hb:b=T
   ·subst hb
    rw[Wb7 _ h7 (Obj.isFreed_of_fields<|Obj.data_mapFields h8 _)]at e;cases e
   ·exact(ot b hb).symm.trans e) n rfl
 exact h _ T' J t1 t2
theorem Zr1 (I:Inv X pins σ H s) (hex:X.ex=[]) (hst:X.stack=X.env::X.outer) (hf:X.env.frame=some X.env.locals) (tr:Trc s.heap a C T) (na:Nw X pins H a) (nT:Nw X pins H T)
  (h:∀h' T',Inv X pins σ H { s with heap:=h' } -> Trc h' a C T' -> Nw X pins H T' -> Q () { s with heap:=h' }):wpAny M X.A (leaving X.env (.ref a)) Q E s:=by
 unfold leaving;exact wpAny_bind<|Zm0 I hex hst hf tr na nT h
theorem Znt {h1:Heap}{args:List Value}(I:Inv X pins σ H s) (hex:X.ex=[]) (hst:X.stack=X.env::X.outer) (hf:X.env.frame=some X.env.locals) (hm:Heap.MadeExcOf s.heap h1 a (.ref C) args)
  (h:∀h' T',Inv X pins σ H { s with heap:=h' } -> Trc h' a C T' -> Nw X pins H a->Nw X pins H T' -> Q () { s with heap:=h' }):wpAny M X.A (leaving X.env (.ref a)) Q E { s with heap:=h1 }:=by
 have J:Inv X pins σ H { s with heap:=h1 }:=I.kept (t':=s.toks) hm.keeps;have na:=Nw.of I hex hm.new;obtain⟨t,he,_,_⟩:=hm.there;have hfr:=J.ok.frames;have hl:=J.stack;rw[hst]at hfr hl;unfold leaving;refine wpAny_bind (noteN (s:={ s with heap:=h1 }) hfr hl hf he rfl rfl λh' T' n=>?_);refine Zly (vs:=#[.ref t,.none,.none,.none,.bool false,.none]) (s:={ s with heap:=h1 }) rfl (show 1<6 by decide) n ?_;rw[<- hst]at n;obtain⟨J2,t1,t2⟩:=J.noted (hid:=[]) hex na (λb hb=>by cases hb) he rfl rfl rfl (λb _=>rfl) (λb hb=>by cases hb) (λb e=>e) n rfl;exact h _ T' J2 t1 na t2
theorem Zrk {A:Around}(I:Inv X pins σ H s) (hex:X.ex=[]) (tr:Trc s.heap a C T) (na:Nw X pins H a) (nT:Nw X pins H T)
  (h:∀h' T',Inv X pins σ H { s with heap:=h' } -> Trc h' a C T' -> Nw X pins H T' -> Q () { s with heap:=h' }):wpAny M A (setFlight (.ref a) none) Q E s:=by
 obtain⟨oe,vs,oT,ts,h1,h2,h3,h4,h5,h6,h7,h8,h9⟩:=tr;have sz:=(Array.getElem?_eq_some_iff.mp h9).1;have ot:∀b,b≠T->(s.heap.update T<|Obj.mapFields (·.setIfInBounds 3 Value.none)).get? b=s.heap.get? b:=λb hb=>Wbu _ _<|Ne.symm hb;refine wpAny_setFlight_none h1 h3 h4 h7 h8 sz<|h _ T ?_ ?_ nT
 ·refine I.moved (hid:=[T]) hex (λb hb=>by rcases Wap.mp hb with rfl|hb;exact nT;cases hb) (λb o e hb _=>(ot b (by simpa using hb)).trans e) (λb o e hnf=>⟨o.slots,(ot b λz=>?_).trans e⟩)
  subst z;rw[h7]at e;cases e;exact hnf ts h8
 ·exact⟨oe,vs,_,_,(ot a<|Ne.symm h6).trans h1,h2,h3,h4,h5,h6,Wb7 _ h7<|Obj.isFreed_of_fields<|Obj.data_mapFields h8 _,Obj.data_mapFields h8 _,by simp[sz]⟩
end
def CXE (P:Program) (w:World):CXT:=λouter H s E e s'=>
 ∃(a C T:Addr) (H':Hp),e=.ref a/\s'.os=s.os/\AllBare s'.gens/\Un (frs outer) [] H H' s.heap s'.heap/\HOk P w H' s'.heap/\H' a=none/\s.heap.get? a=none/\H' T=none/\s.heap.get? T=none/\Trc s'.heap a C T/\E (.ref C) none H'
def Throws (X:Cx) (E:XK):Prop:=∀(pins:List (Addr × Obj)) (σ:St) (H:Hp) (s:Shared) (h1:Heap) (a C:Addr) (args:List Value),Inv X pins σ H s->Heap.MadeExcOf s.heap h1 a (.ref C) args->E (.ref C) none H->X.xe (.ref a) { s with heap:=h1 }
section
variable {P:Program}{w:World}{K:W.Frag}{mg:Str->Option Value}{base:Heap}{N:List Str}{qual:Str}{scope:Scope}{f:Addr}{cd:Value}{A:Around}{outer:List Env}{s0:Shared}{H0:Hp}{E:XK}
theorem Zsc:Passes (CXE P w) (cxOf (CXE P w) P w K mg base N qual scope f cd A outer s0 H0 E) E:=λpins σ H s e s' I hq=>by
 obtain⟨a,C,T,H',rfl,os,bare,un,hok,ha,hsa,hT,hsT,tr,hE⟩:=hq;have J:=I.call' (ch:=[]) os un hok bare (λb z=>absurd z<|by simp);have na:=(Nw.of I rfl hsa).at ha;have nT:=(Nw.of I rfl hsT).at hT;refine Zr1 J rfl rfl rfl tr na nT λh' T' J2 t1 t2=>?_;exact⟨a,C,T',H',rfl,J2.os,J2.bare,J2.base,J2.hok,ha,na.old,t2.trk,t2.old,t1,hE⟩
theorem Zdc:Throws (cxOf (CXE P w) P w K mg base N qual scope f cd A outer s0 H0 E) E:=λpins σ H s h1 a C args I hm hE=>by
 refine Znt I rfl rfl rfl hm λh' T' J2 t1 na t2=>?_;exact⟨a,C,T',H,rfl,J2.os,J2.bare,J2.base,J2.hok,na.trk,na.old,t2.trk,t2.old,t1,hE⟩
end
abbrev ExcC (K:W.Frag) (C:Addr):Prop:=PySem.W.excIn K C [.type "ValueError",.type "Exception",.type "BaseException",.type "object"] "ValueError.__new__" = true
def ExcO (h:Heap) (C:Addr) (bm:List Value):Prop:=∃N nm qn bs hd sn sub ab col dd k0 k1 k2 k3 k5 mN,h.get? C=some (excClassObj nm qn C N bs bm hd sn sub ab col dd k0 k1 k2 k3 k5 "ValueError.__new__")/\h.Ns N mN/\mN "__init__" = none/\OwnTail h [.type "ValueError",.type "Exception",.type "BaseException",.type "object"] bm
theorem Zf0 {K:W.Frag}{h:Heap}{C:Addr}(X:K.In h) (q:ExcC K C):∃bm,ExcO h C bm/\∀v b,PySem.W.mroIn K C v=some b->(Value.ref C::bm).contains v=b:=by
 unfold ExcC PySem.W.excIn at q;split at q
 next dd cd sl e=>
  split at q
  next C' bm k0 k1 k2 k3 n k5 e1 e2=>
   rw[Wbw,Wbw,Wbw,Wbw,Wbw]at q;obtain⟨⟨⟨⟨⟨q1,q2⟩,q3⟩,q4⟩,q5⟩,q6⟩:=q;have q1:=beq_iff_eq.mp q1;have q2:=beq_iff_eq.mp q2;rw[Bool.not_eq_true']at q3;subst q1;cases cd with
   |mk nm bs mro ns qn hd sn sub ab col del=>
    dsimp only at e1 q3 q5 q6;have q7:=beq_iff_eq.mp q6;subst e1;subst q3;have e3:sl = #[k0,k1,k2,k3,some (.builtin n),k5]:=by
     cases sl with
     |mk l=>exact congrArg Array.mk e2
    subst e3;subst q2;refine⟨bm,⟨ns,nm,qn,bs,hd,sn,sub,ab,col,dd,k0,k1,k2,k3,k5,_,X _ _ e,.of_isNs<|PySem.W.isNs_of_in X q5,PySem.W.nsMap_none_of_in X q5 q7,PySem.W.tail_of_in X q4⟩,λv b hv=>?_⟩;unfold PySem.W.mroIn PySem.W.clsIn at hv;rw[e]at hv;have hv:some ((Value.ref C'::bm).contains v)=some b:=hv;exact Wa6.inj hv
  next=>cases q
 next=>cases q
def tRaise (C:Addr) (E:XK) (t:TA):TS:=λ_ σ H=>t σ H λvs H1=>vs.length<=sizeLine/\E (.ref C) none H1
section
variable {X:Cx}{x:Str}{C:Addr}{np cpos pos:Pos}{e:Expr}{es:List Expr}{t:TA}{E:XK}
theorem Zdg (cl:ExcC X.K C) (hg:Gl X x) (hm:X.mg x=some (.ref C)) (hh:X.A.handled=none) (hr:Throws X E) (ha:PA X (e::es) t) (hdb:(x == ("__debug__":Str))=false:=by decide)
  (he:starEach (e::es) X.env=(false,eval e X.env)::starEach es X.env:=by rfl) (hpl:(backTo cpos<|starEach (e::es) X.env).any (·.1)=false:=by rfl):PS X (.Raise (some (.Call (.Name x np) (e::es) [] cpos)) none pos) (tRaise C E t):=by
 intro pins s σ H D I h;obtain⟨bm,⟨N,nm,qn,bs,hd,sn,sub,ab,col,dd,k0,k1,k2,k3,k5,mN,o1,o2,o3,o4⟩,_⟩:=Zf0 I.ok.mod.kin cl;refine wpAny_Raise_call_subT (C:=C) (nm:=nm) (q:=qn) (N:=N) (bs:=bs) (bm:=bm) (hdct:=hd) (sn:=sn) (sub:=sub) (ab:=ab) (col:=col) (dd:=dd) (k0:=k0) (k1:=k1) (k2:=k2) (k3:=k3) (k5:=k5) (mN:=mN) F.excBase_ValueError (o4.hasType rfl) hh hpl o3 ?_;refine Zfz I hg hm ⟨rfl,?_⟩ hdb;have e1:backTo cpos (starEach (e::es) X.env)=(false,eval e X.env)::backTo cpos (starEach es X.env):=by rw[he];rfl
 rw[e1];refine Calls.evalArgs_plain ?_;rw[<- e1];refine thn (ha cpos pins s σ H _ I h) λus s1 ⟨vs,H1,I1,r,z,q⟩=>?_;exact⟨rfl,by rw[<- r.length];exact z,I1.bk _ _ o1,o2.keeps I1.bk,o4.keeps I1.bk,λh' a hm'=>hr pins σ H1 s1 h' a C us I1 hm' q⟩
end
structure ExcI (K:W.Frag) (C:Addr):Prop where
 cl:ExcC K C
 ga:PySem.W.findIn K (.ref C) "__getattribute__" = some (some (.builtin "BaseException.__getattribute__"))
 gt:PySem.W.findIn K (.ref C) "__getattr__" = some none
 ca:PySem.W.findIn K (.ref C) "__class__" = some (some (.builtin "object.__class__"))
 gs:PySem.W.specialIn K (.builtin "object.__class__") "__get__" = some (some (.builtin "getset_descriptor.__get__"))
 tk:PySem.W.takesIn K (.builtin "object.__class__")=some true
 ob:PySem.W.mroIn K C (.type "object")=some true
 be:PySem.W.mroIn K C (.type "BaseException")=some true
theorem InsC.ty {a C:Addr}{h:Heap}{M:Model}(I:InsC a C h):PySem.W.Looks M h (typeOf (.ref a)) (.ref C):=by
 obtain⟨o,_,h1,h2,_⟩:=I;exact h2 ▸ (PySem.W.Looks.ld h1).andThen .now
section
variable {prog:Program}{w:World}{A:Around}{E:Value->Shared->Prop}{K:W.Frag}{s:Shared}{a C:Addr}
theorem Zm5 {M:Model}{nameV:Value}{Q:Unit->Shared->Prop}(X:K.In s.heap) (Z:ExcI K C) (I:InsC a C s.heap) (hq:Q () s):wpAny M A (checkBuiltinCall "BaseException.__getattribute__" ⟨[.ref a,nameV],[]⟩) Q E s:=by
 obtain⟨h,g,d,t,os⟩:=s;have hk:builtinKind "BaseException.__getattribute__" = some .slot:=by decide +kernel
 have hs:splitId "BaseException.__getattribute__" = some ("BaseException","__getattribute__"):=by decide +kernel
 obtain⟨bm,⟨N,nm,qn,bs,hd,sn,sub,ab,col,dd,k0,k1,k2,k3,k5,mN,hC,o2,o3,o4⟩,hmro⟩:=Zf0 X Z.cl;have hB:=hmro _ _ Z.be;obtain⟨ox,_,hx,hc,_⟩:=I;have ha:=F.args_bexc_ga (.ref a) nameV;simp only[checkBuiltinCall,hk,hs];refine wpAny_bind ?_;unfold isInstance
 repeat (first|(with_reducible refine wpAny_loadPart_at hx ?_;rw[hc])|(with_reducible refine wpAny_isSubtype_exc hC ?_;rw[hB])|wp_step)
 exact hq
theorem Zma {R:Result->Shared->Prop}{tp:Value}(X:K.In s.heap) (I:InsC a C s.heap) (hm:PySem.W.mroIn K C (.type "object")=some true) (h:R (.ok (.ret (.ref C))) s) :
  codeAny (model prog w) A (.call (.builtin "getset_descriptor.__get__") ⟨[.builtin "object.__class__",.ref a,tp],[]⟩) R s:=by
 obtain⟨h0,g,d,t,os⟩:=s;have l0:=I.ty (M:=model prog w);have l1:=PySem.W.looks_mroIn (M:=model prog w) X hm;have ht:(⟨h0,g,d,t,os⟩:Shared).TypeIs (.builtin "object.__class__") "getset_descriptor":=PySem.W.KF.type_class;refine codeAny_call_builtin PySem.W.KF.slot_gs.plain PySem.W.KF.entry_gs<|PySem.W.KF.slot_gs.check _ _ _ _ _ _ _ _ ht (PySem.W.KF.args_gs _ _ _) ?_;unfold Builtin.«getset_descriptor.__get__» Builtin.Getset_descriptor.descrGet;rw[PySem.W.dga_obj];refine wpAny_bind (m:=pure _)<|wpAny_pure ?_;unfold Builtin.Getset_descriptor.descrGetter Builtin.Getset_descriptor.descrCheckInstance Builtin.Getset_descriptor.descrNameAndClass isInstance;simp only[PySem.W.KF.owner_class]
 repeat lk
 refine⟨Code.quiet_builtin _ (by decide +kernel),codeAny_builtin PySem.W.KF.entry_class ?_⟩;unfold Builtin.«object.__class__» shownTypeOf
 repeat lk
 exact h
theorem Znn {Q:Option Value->Shared->Prop}(X:K.In s.heap) (Z:ExcI K C) (I:InsC a C s.heap) (h:Q (some (.ref C)) { s with toks:=s.toks+1 }):wpAny (model prog w) A (getAttr? (.ref a) "__class__") Q E s:=by
 obtain⟨hh,g,d,t,os⟩:=s;have L0:=I.ty (M:=model prog w);have L1:=PySem.W.looks_findIn (M:=model prog w) X Z.ga;have L2:=PySem.W.looks_findIn (M:=model prog w) X Z.gt;have L3:PySem.W.Looks (model prog w) hh (Builtin.ObjectAttr.find (.ref a) (.ref C) "__class__") (.bind (.builtin "getset_descriptor.__get__") (.builtin "object.__class__")):=by
  unfold Builtin.ObjectAttr.find;refine(PySem.W.looks_findIn X Z.ca).andThen ((show PySem.W.Looks (model prog w) hh (Builtin.ObjectAttr.getOf<|some (.builtin "object.__class__")) _ from PySem.W.looks_specialIn X Z.gs).andThen ?_);have q:PySem.W.Looks (model prog w) hh (Builtin.ObjectAttr.dataDescriptor? (some (.builtin "object.__class__"))<|some (.builtin "getset_descriptor.__get__")) (some (.builtin "getset_descriptor.__get__",.builtin "object.__class__")):=(PySem.W.looks_takesIn X Z.tk).andThen .now;exact q.andThen<|PySem.W.Looks.tag .now
 have f3:=F.excAttr_ValueError.ga.bind (.ref a);have hx2:(Value.builtin "BaseException.__getattribute__" == Value.builtin "object.__getattribute__")=false:=by decide +kernel
 have hx1:(onTheHeap (Value.ref C) && Value.builtin "BaseException.__getattribute__" == Value.builtin "object.__getattribute__")=false:=by rw[hx2];rfl
 unfold getAttr? getAttrBy? getAttrBy;refine wpAny_bind<|wpAny_mkText<|wpAny_bind<|wpAny_attempt<|wpAny_holding<|wpAny_bind<|L0.at<|wpAny_bind<|L1.at ?_;dsimp only;rw[hx1];rw[if_neg Wam];unfold getAttrByItsOwn hookBefore;rw[if_pos (show onTheHeap (Value.ref C)=true from rfl)];refine wpAny_bind<|L2.at<|wpAny_bind<|wpAny_attempt<|wpAny_holding ?_;unfold callGetattribute;rw[Wd3,if_neg Wam];unfold boundAndCalled;refine wpAny_bind<|wpAny_of_eq f3 ?_;refine wpAny_call<|codeAny_call_builtin F.excAttr_ValueError.ga.plain F.entry_bexc_ga<|Zm5 X Z I ?_;unfold Builtin.«object.__getattribute__»;refine wpAny_bind (m:=slotArgs _ _ _)<|wpAny_pure ?_;dsimp only;refine wpAny_bind (m:=Builtin.ObjectAttr.attrName _)<|wpAny_pure ?_;refine wpAny_bind<|L0.at<|wpAny_bind<|L3.at ?_;dsimp only;unfold Builtin.ObjectAttr.bindTo;dsimp only;refine wpAny_bind<|wpAny_holding<|wpAny_call<|Zma (s:=⟨hh,g,d,t+1,os⟩) X I Z.ob<|wpAny_pure ?_;exact PySem.W.handed_on rfl<|wpAny_pure h
theorem Zig (Z:ExcI K C):PySem.W.KitX K (.ref a) (.ref C) (InsC a C) where
 ty:=λ_ _ _ I=>I.ty
 it:=λ_ h X _=>by
  obtain⟨bm,⟨N,nm,qn,bs,hd,sn,sub,ab,col,dd,k0,k1,k2,k3,k5,mN,hC,_⟩,_⟩:=Zf0 X Z.cl;intro A' Q' E' s' k q;unfold isType loadHead;exact wpAny_bind<|wpAny_loadPart (k _ _ hC)<|wpAny_pure q
 ne:=λh tp dd its n sl X htp=>by
  obtain⟨bm,⟨N,nm,qn,bs,hd,sn,sub,ab,col,dd',k0,k1,k2,k3,k5,mN,hC,_⟩,_⟩:=Zf0 X Z.cl;refine Wdj.mpr λq=>?_;have e:C=tp:=Value.ref.inj<|beq_iff_eq.mp q;subst e;rw[hC]at htp;exact absurd (congrArg Obj.cls<|Wa6.inj htp) (by intro z;injection z with z;exact absurd z<|by decide)
 ca:=λX I k=>Znn X Z I k
end
theorem Zhb {M:Model}{A:Around}{E:Value->Shared->Prop}{K:W.Frag}{s:Shared}{a C FE:Addr}{Q:Bool->Shared->Prop}(X:K.In s.heap) (cF:ExcC K FE) (cC:ExcC K C) (hm:PySem.W.mroIn K C (.ref FE)=some true) (I:InsC a C s.heap) (hq:Q true s) :
  wpAny M A (excMatches (.ref a) (.ref FE)) Q E s:=by
 obtain⟨h,g,d,t,os⟩:=s;obtain⟨bm,⟨N,nm,qn,bs,hd,sn,sub,ab,col,dd,k0,k1,k2,k3,k5,mN,hC,_⟩,hmro⟩:=Zf0 X cC;obtain⟨bm',⟨N',nm',qn',bs',hd',sn',sub',ab',col',dd',k0',k1',k2',k3',k5',mN',hF,_,_,oF⟩,_⟩:=Zf0 X cF;have hA:=hmro _ _ hm;have hB:(Value.ref FE::bm').contains (.type "BaseException")=true:=by rw[List.contains_cons,oF.hasType (X:="BaseException") (b:=true) rfl,Bool.or_true]
 obtain⟨ox,_,hx,hc,_⟩:=I;have f:=tc_notTuple;unfold excMatches
 repeat (first|(with_reducible refine wpAny_loadPart_at hx ?_;rw[hc])|with_reducible refine wpAny_loadPart_at hF ?_|(with_reducible refine wpAny_isSubtype_exc hF ?_;rw[hB])|(with_reducible refine wpAny_isSubtype_exc hC ?_;rw[hA])|wp_step)
 exact hq
abbrev XC (X:Cx) (e:Addr):Cx:={ X with A:=X.A.mark<|some (.ref e),calm:=false,xe:=λ_ _=>False }
theorem Cx.Ok.suite {X:Cx}(ok:X.Ok) (e:Addr):(XC X e).Ok:=
 ⟨ok.mod,ok.kind,ok.glob,ok.blt,ok.above,ok.inj,ok.has,ok.cab,(λz=>nomatch z),ok.frames,ok.stk,ok.exf,ok.bs,ok.bsz,ok.noex,ok.exfs,ok.funs,ok.frf⟩
abbrev XT (X:Cx) (pn:List (Addr × Obj)) (xe:Value->Shared->Prop):Cx:={ X with pn:=pn,xe:=xe }
theorem Cx.Ok.try_ {X:Cx}(ok:X.Ok) (pn:List (Addr × Obj)) (xe:Value->Shared->Prop):(XT X pn xe).Ok:=
 ⟨ok.mod,ok.kind,ok.glob,ok.blt,ok.above,ok.inj,ok.has,ok.cab,ok.hd,ok.frames,ok.stk,ok.exf,ok.bs,ok.bsz,ok.noex,ok.exfs,ok.funs,ok.frf⟩
section
variable {X:Cx}{pins:List (Addr × Obj)}{σ:St}{H:Hp}{s:Shared}{a C:Addr}
theorem Inv.suite (I:Inv X pins σ H s) (e:Addr):Inv (XC X e) pins σ H s:=⟨I.ok.suite e,I.os,I.bare,I.base,I.loc,I.cell,I.free,I.freeC,I.pin,I.hok,I.len⟩
theorem Inv.unsuite {e:Addr}(ok:X.Ok) (I:Inv (XC X e) pins σ H s):Inv X pins σ H s:=⟨ok,I.os,I.bare,I.base,I.loc,I.cell,I.free,I.freeC,I.pin,I.hok,I.len⟩
theorem Inv.into {xe:Value->Shared->Prop}(I:Inv X pins σ H s):Inv (XT X (X.pn++pins) xe) [] σ H s:=⟨I.ok.try_ _ _,I.os,I.bare,I.base,I.loc,I.cell,I.free,I.freeC,λp hp=>I.pin p (by simpa using hp),I.hok,I.len⟩
theorem Inv.outof {xe:Value->Shared->Prop}{pins1:List (Addr × Obj)}(ok:X.Ok) (I:Inv (XT X (X.pn++pins) xe) pins1 σ H s):Inv X pins σ H s:=⟨ok,I.os,I.bare,I.base,I.loc,I.cell,I.free,I.freeC,λp hp=>I.pin p<|Wci _ hp,I.hok,I.len⟩
theorem Inv.held (I:Inv X pins σ H s) (n:Nw X pins H a) (hi:InsC a C s.heap):Inv X pins σ (upd H a (.ext<|InsC a C)) s:=by
 have keep:∀b,b≠a->upd H a (.ext<|InsC a C) b=H b:=λb hb=>Zan hb;have nn:∀b u,H b=some u->b≠a:=λb u e z=>by subst z;rw[n.trk]at e;cases e
 refine⟨I.ok,I.os,I.bare,⟨I.base.keep,I.base.slot,λb o e q hx=>?_,I.base.there,λb xs e=>?_,λb o u e=>?_,λb ps e=>?_⟩,I.loc,I.cell,?_,λx c e=>?_,λp hp=>?_,λb u e=>?_,I.len⟩
 ·rw[keep b (λz=>by subst z;rw[n.old]at e;cases e)];exact I.base.free b o e q hx
 ·have q:=I.base.tups b xs e
  rw[keep b (nn b _ q)];exact q
 ·have q:=I.base.frzs b o u e
  rw[keep b (nn b _ q)];exact q
 ·obtain⟨m,q⟩:=I.base.tbls b ps e
  exact⟨m,by rw[keep b (nn b _ q)];exact q⟩
 ·rw[keep _ (Ne.symm n.loc)];exact I.free
 ·rw[keep _ (n.cel x c e)];exact I.freeC x c e
 ·obtain⟨e,q,r⟩:=I.pin p hp
  exact⟨e,by rw[keep _ (n.pin p hp)];exact q,r⟩
 ·by_cases hb:b=a
  ·subst hb
   rw[Zat]at e;cases e;obtain⟨ox,vs,h1,h2⟩:=hi;exact⟨⟨ox,vs,h1,h2⟩,⟨ox,h1⟩,λh1' h2' ⟨o,ws,z1,z2⟩ k=>⟨o,ws,k o z1,z2⟩⟩
  ·rw[keep b hb]at e
   refine(I.hok b u e).stay (λc v _ q=>q) (λc q=>?_) λc xs q=>?_
   ·rw[keep c (nn c _ q)];exact q
   ·rw[keep c (nn c _ q)];exact q
theorem Inv.gone {M:Model}{A:Around}{E:Value->Shared->Prop}{i:Nat}{x:Str}{pos:Pos}{Q:Unit->Shared->Prop}(I:Inv X pins σ H s) (hN:X.N.Nodup) (hi:X.N[i]?=some x) (hk:X.env.scope.names.lookup x=some .local)
  (h:∀s',Inv X pins (σ.set i none) H s' -> Q () s'):wpAny M A (do bindName X.env x .none;unbindBehindTheSuite X.env x pos) Q E s:=by
 obtain⟨m,hn,hl⟩:=id I.loc;have hcls:(X.env.scope.kind == .class || (X.env.scope.kind == .module && X.env.locals != X.env.globals))=false:=by rw[I.ok.kind];rfl
 refine wpAny_nameGoes_keeps (show X.env.kindOf x=some .local from hk) hn hcls λh' v hn' hs=>h _ ?_;have cne:=I.cne;obtain⟨oL,_,_,hoL,_⟩:=id hn;have ltL:∀b o,X.s₀.heap.get? b=some o->b≠X.env.locals:=λb o e=>Wa8<|Wbh (Wax e) I.ok.above;refine⟨I.ok,I.os,I.bare,⟨λb o e n hb hx=>?_,λb o e n hb hx=>?_,I.base.free,λb o e hx=>?_,I.base.tups,I.base.frzs,I.base.tbls⟩,⟨_,hn',λj y v' e1 e2 e3=>?_⟩,λy c e=>?_,I.free,I.freeC,λp hp=>?_,λb u e=>?_,by simpa using I.len⟩
 ·exact(hs.2 b<|ltL b o e).trans (I.base.keep b o e n hb hx)
 ·obtain⟨sl,e1⟩:=I.base.slot b o e n hb hx
  exact⟨sl,(hs.2 b<|ltL b o e).trans e1⟩
 ·obtain⟨o',e1⟩:=I.base.there b o e hx
  exact⟨o',(hs.2 b<|ltL b o e).trans e1⟩
 ·have hj:j≠i:=by
   intro z;subst z;rw[Wcv]at e2;split at e2
   ·split at e2 <;> cases e2
   ·rename_i z;exact z rfl
  rw[Waw (Ne.symm hj)]at e2;obtain⟨u',r',q⟩:=hl j y v' e1 e2 e3;refine⟨u',r',?_⟩;rcases q with ⟨k,e⟩|⟨k,c,e,z⟩
  ·refine .inl ⟨k,?_⟩
   have hy:y≠x:=λe=>hj<|Zhx hN e1 (e ▸ hi);show (if y=x then v else m y)=_;rw[if_neg hy];exact e
  ·exact .inr ⟨k,c,e,z.sameBut hs<|cne y c e⟩
 ·obtain⟨w',z⟩:=I.cell y c e
  exact⟨w',z.sameBut hs<|cne y c e⟩
 ·obtain⟨e,n,ne,nf,d⟩:=I.pin p hp
  exact⟨(hs.2 p.1 ne).trans e,n,ne,nf,d⟩
 ·refine(I.hok b u e).stay (λc w' hc q=>(hs.2 c ?_).trans q) (λ_ q=>q) λ_ _ q=>q
  rintro rfl;rcases hc with rfl|hc
  ·rw[I.free]at e;cases e
  ·rw[I.free]at hc;cases hc
end
def PF (X:Cx) (e:Expr) (n:Nat):Prop:=
 ∀(pins:List (Addr × Obj)) (s:Shared) (σ:St) (H:Hp) (Q:Value->Shared->Prop),Inv X pins σ H s->(∀(x:Str) (tk:Tok) s',x.length<=n->Inv X pins σ H s' -> Q (.str x tk) s')->wpAny (model X.prog X.w) X.A (eval e X.env) Q X.xe s
def PFs (X:Cx) (es:List Expr) (n:Nat):Prop:=
 ∀(pins:List (Addr × Obj)) (s:Shared) (σ:St) (H:Hp) (acc:Str) (Q:Str->Shared->Prop),Inv X pins σ H s->acc.length+n<=sizeLine->(∀(x:Str) s',x.length<=acc.length+n->Inv X pins σ H s' -> Q x s')->Joins (model X.prog X.w) X.A X.xe (evalEach es X.env) acc Q s
def tSome:TE:=λ_ H Q=>∀x:Str,Q (.str x) H
section
variable {X:Cx}{x:Str}{j:Option Str}{p pos:Pos}{n m:Nat}{e:Expr}{es:List Expr}{v1 v2:Expr}
theorem Zsi {j} (h:x.length<=n:=by decide):PF X (.Constant (.str x) j pos) n:=λ_ s σ H Q I q=>Calls.Constant_str<|q x _ _ h<|I.tok _
theorem Zwc {i:Int}{tk:Tok}(hg:Gl X x) (hm:X.mg x=some (.int i tk)) (hz:i.natAbs.log2<1920:=by decide) (hl:(Str.ofString<|toString i).length<=n:=by decide +kernel) (hd:(x == ("__debug__":Str))=false:=by decide):PF X (.FormattedValue (.Name x p) (-1) none pos) n:=λ_ s σ H Q I q=>
 wpAny_FormattedValue_plain (Zfz I hg hm (wpAny_formatField_int hz<|q _ _ _ hl<|I.tok _) hd)
theorem Ztd:PFs X [] 0:=λ_ s σ H acc Q I z q=>q acc s (Wak _) I
theorem Zip (h:PF X e n) (hs:PFs X es m):PFs X (e::es) (n+m):=λpins s σ H acc Q I z q=>by
 show wpAny _ _ (eval e X.env) _ _ s;refine h pins s σ H _ I λy tk s' hy I'=>⟨y,tk,rfl,?_,hs pins s' σ H _ Q I' ?_ λw s2 hw I2=>q w s2 ?_ I2⟩
 ·rw[Str.length_append];omega
 ·rw[Str.length_append];omega
 ·rw[Str.length_append]at hw;omega
theorem Ztk (h:PFs X (v1::v2::es) n) (hn:n<=sizeLine:=by decide):PE X (.JoinedStr (v1::v2::es) pos) tSome:=λpins s σ H Q I q=>
 wpAny_JoinedStr (h pins s σ H Str.empty _ I (by show 0+n<=sizeLine;omega) λy s' hy I'=>⟨by have:Str.empty.length=0:=rfl;omega,.str y,H,I'.tok _,⟨_,rfl⟩,q y⟩)
end
def rIsiE (K:W.Frag):List V->Hp->VK->Prop:=λxs H Q=>∃a C b,H a=some (.ext<|InsC a C)/\ExcI K C/\Q (.bl b) H ∧
 ((∃c,xs=[.ref a,.ref c]/\PySem.W.kitOne K (.ref C) (.ref c)=some b)\/(∃t,xs=[.ref a,.ty t]/\PySem.W.kitOne K (.ref C) (.type t)=some b) ∨
  ∃(p:Addr) (cs:List Addr),xs=[.ref a,.ref p]/\H p=some (.tup (cs.map V.ref))/\PySem.W.kitAny K (.ref C) (cs.map Value.ref)=some b)
section
variable {X:Cx}
theorem isiEK (K:W.Frag) (hK:X.K=K:=by rfl):CallR X (.builtin "isinstance") (rIsiE K):=by
 subst hK;intro pins s σ H xs us Q I r h;obtain⟨a,C,b,ha,Z,q,h⟩:=h;obtain⟨hi,_⟩:=I.hok a _ ha;rcases h with ⟨c,rfl,e⟩|⟨t,rfl,e⟩|⟨p,cs,rfl,hp,e⟩
 ·obtain⟨u,u',rfl,rx,rn⟩:=vals2 r
  cases (show u=Value.ref a from rx);cases (show u'=Value.ref c from rn);exact PySem.W.kia_one (Zig Z) I.kIn hi e (λz=>nomatch z) λtk=>⟨.bl b,H,I.tok _,rfl,q⟩
 ·obtain⟨u,u',rfl,rx,rn⟩:=vals2 r
  cases (show u=Value.ref a from rx);cases (show u'=Value.type t from rn);exact PySem.W.kia_one (Zig Z) I.kIn hi e (λz=>nomatch z) λtk=>⟨.bl b,H,I.tok _,rfl,q⟩
 ·obtain⟨u,u',rfl,rx,rn⟩:=vals2 r
  cases (show u=Value.ref a from rx);cases (show u'=Value.ref p from rn);obtain⟨_,its,rv,o,ho,⟨hc,n,hd⟩,hdd⟩:=I.hok p _ hp;have hv:∀(ns:List Addr) (its:List Value),Vals (ns.map V.ref) its->its=ns.map Value.ref:=by
   intro ns
   induction ns with
   |nil=>intro its h;cases h;rfl
   |cons b r ih=>intro its h;cases h with|cons h1 h2=>cases (show _=Value.ref b from h1);rw[ih _ h2];rfl
  have e2:=hv cs its rv;subst e2;obtain⟨cls,dd,data,sl⟩:=o;simp only at hc hd hdd;subst hc hd hdd;exact PySem.W.kia_tup (Zig Z) I.kIn hi ho e (λz=>nomatch z) λtk=>⟨.bl b,H,I.tok _,rfl,q⟩
end
structure CalleeX (P:Program) (w:World) (K:W.Frag) (mg:Str->Option Value) (base:Heap) (k:Nat) (x:Str) (ps:List Str) (sp:Sp):Prop where
 ex:∃(f:Addr) (fd:FuncData),FnOk P w K mg base (CXE P w) k f fd ps sp/\Binds K fd ps []/\W.keepIn K (.ref f)=true/\mg x=some (.ref f)
section
variable {X:Cx}{k:Nat}{x:Str}{ps:List Str}{sp:Sp}{e:Expr}{es:List Expr}{t:TA}{p pos:Pos}{E:XK}
theorem Zow (C:CalleeX X.prog X.w X.K X.mg X.base k x ps sp) (hr:Room k X.A) (hx:Passes (CXE X.prog X.w) X E) (ha:PA X (e::es) t) (hg:Gl X x:=by rfl) (hdb:(x == ("__debug__":Str))=false:=by decide)
  (he:starEach (e::es) X.env=(false,eval e X.env)::starEach es X.env:=by rfl) (hpl:(backTo pos<|starEach es X.env).any (·.1)=false:=by rfl):PE X (.Call (.Name x p) (e::es) [] pos) (tCall sp [] E t):=by
 obtain⟨f,fd,F,b,kp,m⟩:=C.ex;exact Zoq F hr hg m kp b .nil hx ha hdb he hpl
end
section
variable {P:Program}{w:World}{K:W.Frag}{mg:Str->Option Value}{base:Heap}
theorem Fun.okX {x qual:Str}{st:Stmt}{f:Addr}{fd:FuncData}{N ps:List Str}{k:Nat}{sp:Sp}(F:Fun K x qual st f fd) (S:FnScope N ps (defScope st)) (len:∀vs H Q E,sp vs H Q E->vs.length=ps.length)
  (hbody:∀(cdv:Value) (A:Around) (outer:List Env) (s:Shared) (H:Hp) (vs:List V) (Q:VK) (E:XK),Room k (A.deeper (envOfC qual (defScope st) s.heap.objs.size f cdv))->sp vs H Q E →
   ∃t,PSs (cxOf (CXE P w) P w K mg base N qual (defScope st) f cdv A outer s H E) (defBody st) t/\t { nx:=λ_ H'=>Q .non H',rt:=Q } (start N vs) H):FnOk P w K mg base (CXE P w) (k+1) f fd ps sp:=by
 obtain⟨oc,od,kV,doc,pm,an,cdv,ct,osl,rfl,lk,hcd⟩:=F.ex;exact Zvq lk hcd S len λA outer s H vs Q E hr hsp=>hbody cdv A outer s H vs Q E hr hsp
end
def EW (E:XK) (Xp:Addr->Prop) (g:Gm):Prop:=∀C H',(∀b o,¬ g.B b->g.Hz b=some o->H' b=some o)->(∀b,g.B b->H' b≠none)->Same g.F H' -> (∀b o,g.Xo b=some o->H' b=some o)->Xp C->E (.ref C) none H'
def JX (K:W.Frag) (E:XK) (Xp:Addr->Prop) (t:TS) (Δ:Evt) (P:Pst):Prop:=∀g G H σ D,EW E Xp g->Ok K g G H σ Δ -> SCont K g P D->t D σ H
abbrev XSp:=List D->(D->Prop)->(Addr->Prop)->Prop
def spX (K:W.Frag) (f:XSp):Sp:=λvs H Q E=>∃F ds Post Xp,Same F H/\Reps K F vs ds/\f ds Post Xp/\(∀r H' d,Same H H' -> Rep K (glue F H H') r d->Post d->Q r H')/\∀C H',Same H H' -> Xp C->E (.ref C) none H'
section
variable {K:W.Frag}{Δ:Evt}{E:XK}{Xp:Addr->Prop}{nx bk ct:Evt->Prop}{rt:D->Evt->Prop}{ro:OD->Evt->Prop}
theorem EW.at {g:Gm}{G H H':Hp}{σ:St}{C:Addr}(w:EW E Xp g) (k:Ok K g G H σ Δ) (s:Same H H') (x:Xp C):E (.ref C) none H':=
 w C H' (λb o hb e=>s b o (k.same b o hb e)) (λb hb z=>by
  cases q:H b with
  |none=>exact k.lent b hb q
  |some o=>rw[s b o q]at z;cases z) (λb o e=>s b o (k.live b o (k.sub b o e))) (λb o e=>s b o (k.ext b o e).1) x
theorem Zib {f:XSp}{n:Nat}(h:∀ds Post Xp,f ds Post Xp->ds.length=n):∀vs H Q E,spX K f vs H Q E->vs.length=n:=λvs H Q E hq=>by
 obtain⟨F,ds,Post,Xp,l,rs,hf,q⟩:=hq;rw[rs.length];exact h ds Post Xp hf
theorem Zq8 {f:XSp}{t:TS}{N:List Str}{vs:List V}{H:Hp}{Q:VK}(ht:∀ds Post Xp,f ds Post Xp->ds.length<=N.length/\JX K E Xp t (startD N ds) ⟨λ_=>Post .non,λd _=>Post d,λ_=>False,λ_=>False,λ_ _=>False⟩) (h:spX K f vs H Q E) :
  t { nx:=λ_ H'=>Q .non H',rt:=Q } (start N vs) H:=by
 obtain⟨F,ds,Post,Xp,l,rs,hf,q,x⟩:=h;obtain⟨hl,hj⟩:=ht ds Post Xp hf;have fin:∀{v:V}{d:D}{σ:St}{G H':Hp}{Δ:Evt},Ok K ⟨λ_=>False,F,H,λ_=>none⟩ G H' σ Δ -> Rep K G v d->Post d->Q v H':=λ{v d σ G H' Δ} k r p=>by
  refine q v H' d (λb o e=>k.same b o (λz=>z) e) (r.mono λb o e=>?_) p;obtain⟨e1,e2⟩:=k.frz b o e;rcases e2 with z|z
  ·rw[Zff z];exact e1
  ·rw[Zdu (l b o z)];exact z
 refine hj ⟨λ_=>False,F,H,λ_=>none⟩ F H (start N vs) _ (λC H' h1 _ _ _ xc=>x C H' (λb o e=>h1 b o (λz=>z) e) xc) (Zf9 rs hl (λ_ _ _ e=>e) (λ_ z=>z.elim) (Same.refl _) (λb o e=>⟨l b o e,.inr e⟩) λ_=>rfl) ⟨λσ G H' Δ k p=>fin k .non p,λv d σ G H' Δ k r p=>fin k r p,λ_ _ _ _ _ z=>z.elim,λ_ _ _ _ _ z=>z.elim,λ_ _ _ _ _ _ _ _ z=>z.elim⟩
theorem Zt2 {t:TS}{P:Pst}(h:JS K t Δ P):JX K E Xp t Δ P:=λg G H σ D _ k c=>h g G H σ D k c
theorem Zex {t u:TS}(h:JX K E Xp t Δ ⟨λΔ1=>JX K E Xp u Δ1 ⟨nx,rt,bk,ct,ro⟩,rt,bk,ct,ro⟩):JX K E Xp (tSeq t u) Δ ⟨nx,rt,bk,ct,ro⟩:=λg G H σ D w k c=>
 h g G H σ _ w k ⟨λσ1 G1 H1 Δ1 k1 p1=>p1 g G1 H1 σ1 D w k1 c,c.rt,c.bk,c.ct,c.ro⟩
theorem Zkr {t u:TS}(h:JS K t Δ ⟨λΔ1=>JX K E Xp u Δ1 ⟨nx,rt,bk,ct,ro⟩,rt,bk,ct,ro⟩):JX K E Xp (tSeq t u) Δ ⟨nx,rt,bk,ct,ro⟩:=Zex<|Zt2 h
theorem Zjn {c:TT}{t u:TS}{P:Pst}(h:JT K c Δ λb Δ1=>if b=true then JX K E Xp t Δ1 P else JX K E Xp u Δ1 P):JX K E Xp (tIfS c t u) Δ P:=λg G H σ D w k q=>
 h g G H σ _ k λb G1 H1 Δ1 k1 s1 p1=>by
  cases b with
  |true=>exact(show JX K E Xp t Δ1 P from p1) g G1 H1 σ D w k1 q
  |false=>exact(show JX K E Xp u Δ1 P from p1) g G1 H1 σ D w k1 q
theorem Zd6 {P:Pst}(p:P.nx Δ):JX K E Xp tNext Δ P:=Zt2<|Zpy p
theorem Zfn {C:Addr}{ta:TA}{P:Pst}(h:JA K ta Δ λds Δ1=>ds.length<=sizeLine/\Xp C):JX K E Xp (tRaise C E ta) Δ P:=λg G H σ D w k q=>
 h g G H σ _ k λvs ds G1 H1 Δ1 k1 s1 r1 ⟨z,x⟩=>⟨by rw[r1.length];exact z,w.at k1 (Same.refl _) x⟩
def JEX (K:W.Frag) (E:XK) (Xp:Addr->Prop) (t:TE) (Δ:Evt) (P:D->Evt->Prop):Prop:=∀g G H σ Q,EW E Xp g->Ok K g G H σ Δ -> Cont K g G σ P Q->t σ H Q
theorem Zw1 {t:TE}{P:D->Evt->Prop}(h:JE K t Δ P):JEX K E Xp t Δ P:=λg G H σ Q _ k c=>h g G H σ Q k c
theorem Zia {f:XSp}{ta:TA}{P:D->Evt->Prop}(h:JA K ta Δ λds Δ1=>f ds (λd=>P d Δ1) Xp):JEX K E Xp (tCall (spX K f) [] E ta) Δ P:=λg G H σ Q w k c=>
 h g G H σ _ k λvs ds G1 H1 Δ1 k1 s1 r1 p1=>by
  show spX K f (vs++[]) H1 Q E;rw[Wa3];refine⟨G1,ds,_,_,k1.live,r1,p1,λr H' d sh rr pd=>?_,λC H' sh x=>w.at k1 sh x⟩;have sg:=Ze6 (H':=H') k1.live;exact c r d _ H' Δ1 (k1.grow sg sh (Zg7 k1.live λb o _ e=>sh b o e)) (s1.trans sg) rr pd
theorem Zqf {te:TE}{P:Pst}(h:JEX K E Xp te Δ P.rt):JX K E Xp (tRet te) Δ P:=λg G H σ D w k c=>
 h g G H σ _ w k λv d G1 H1 Δ1 k1 s1 r1 p1=>c.rt v d σ G1 H1 Δ1 k1 r1 p1
theorem Zwj {te:TE}{i:Nat}{P:Pst}(h:JEX K E Xp te Δ λd Δ1=>i < Δ1.length/\P.nx (Δ1.set i (.val d))):JX K E Xp (tAsg te<|gName i) Δ P:=λg G H σ D w k c=>
 h g G H σ _ w k λv d G1 H1 Δ1 k1 s1 r1 ⟨hi,p1⟩=>c.nx _ G1 H1 _ (k1.setVal hi r1) p1
theorem Zs7 {P:D->Evt->Prop}(p:∀x:Str,P (.str x) Δ):JE K tSome Δ P:=λg G H σ Q k c x=>c _ _ G H Δ k (Same.refl _) (.str x)<|p x
theorem Ok.unset {g:Gm}{G H:Hp}{σ:St}(k:Ok K g G H σ Δ) (i:Nat):Ok K g G H (σ.set i none) (Δ.set i .any):=by
 have ne:∀(j:Nat) x,(Δ.set i .any)[j]?=some x->x≠.any->j≠i /\ Δ[j]?=some x/\(σ.set i none)[j]? = σ[j]?:=λj x e h=>by
  by_cases hj:j=i
  ·subst hj
   rw[Wcv]at e;split at e
   ·split at e
    ·cases e;exact absurd rfl h
    ·cases e
   ·rename_i z;exact absurd rfl z
  ·rw[Waw (Ne.symm hj)]at e
   exact⟨hj,e,Waw<|Ne.symm hj⟩
 have od:∀(x:Slot) o,x.od=some o->x≠.any:=λx o e z=>by subst z;cases e
 refine⟨k.same,k.lent,k.sub,k.frz,λb o e=>?_,by simp[k.len],λj d e=>?_,λj x o e1 e2=>?_,λj l x y o o' a e1 e2 e3 e4 e5 e6=>?_⟩
 ·obtain⟨h1,h2,h3⟩:=k.ext b o e
  refine⟨h1,h2,λj x o e1 e2=>?_⟩;obtain⟨_,q1,q2⟩:=ne j x e1<|od x o e2;rw[q2];exact h3 j x o q1 e2
 ·obtain⟨_,q1,q2⟩:=ne j _ e (by intro z;cases z)
  rw[q2];exact k.val j d q1
 ·obtain⟨_,q1,q2⟩:=ne j x e1 (od x o e2)
  rw[q2];exact k.own j x o q1 e2
 ·obtain⟨_,q1,q2⟩:=ne j x e1 (od x o e2)
  obtain⟨_,q3,q4⟩:=ne l y e3<|od y o' e4;rw[q2]at e5;rw[q4]at e6;exact k.dis j l x y o o' a q1 e2 q3 e4 e5 e6
theorem Zik {a C c:Addr}{b:Bool}{P:D->Evt->Prop}(Z:ExcI K C) (e:PySem.W.kitOne K (.ref C) (.ref c)=some b) (p:P (.bl b) Δ):JC K (rIsiE K) [.exc a C,.adr c] Δ P:=λg G H σ Q vs k rs q=>by
 obtain⟨_,_,rfl,r,t⟩:=rs.inv
 next=>
  obtain⟨_,_,rfl,r',t⟩:=t.inv
  next=>
   cases t.inv;obtain⟨rfl,ha⟩:=r.inv
   next=>
    cases r'.inv;exact⟨_,C,b,k.live _ _ ha,Z,q _ _ G H Δ k (Same.refl _) (.bl b) p,.inl ⟨c,rfl,e⟩⟩
theorem Zkz {a C:Addr}{n:String}{b:Bool}{P:D->Evt->Prop}(Z:ExcI K C) (e:PySem.W.kitOne K (.ref C) (.type n)=some b) (p:P (.bl b) Δ):JC K (rIsiE K) [.exc a C,.ty n] Δ P:=λg G H σ Q vs k rs q=>by
 obtain⟨_,_,rfl,r,t⟩:=rs.inv
 next=>
  obtain⟨_,_,rfl,r',t⟩:=t.inv
  next=>
   cases t.inv;obtain⟨rfl,ha⟩:=r.inv
   next=>
    cases r'.inv;exact⟨_,C,b,k.live _ _ ha,Z,q _ _ G H Δ k (Same.refl _) (.bl b) p,.inr (.inl ⟨n,rfl,e⟩)⟩
theorem Zla {a:Addr}{P:D->Evt->Prop}(p:P (.adr a) Δ):JE K (tC (.ref a)) Δ P:=λg G H σ Q k c=>c _ _ G H Δ k (Same.refl _) (.adr a) p
end
theorem Zk8 {K:W.Frag}{C c:Addr}{b:Bool}(h1:PySem.W.isClsIn K c=true) (h2:PySem.W.typeIn K (.ref c)=some (.type "type")) (h3:PySem.W.subIn K (.ref C) (.ref c)=some b) (h4:(C == c)=true->b=true):PySem.W.kitOne K (.ref C) (.ref c)=some b:=by
 unfold PySem.W.kitOne PySem.W.kitCls;by_cases e:(Value.ref C == Value.ref c)=true
 ·rw[if_pos e]
  have e':C=c:=Value.ref.inj<|beq_iff_eq.mp e;rw[h4 (by rw[e'];exact beq_self_eq_true c)]
 ·rw[if_neg e]
  have h1:(PySem.W.clsIn K c).isSome=true:=h1;simp only[h1,h2,beq_self_eq_true,Wd9,if_true,h3]
open PySem PySem.Spec PyProof.Rows PySem.SeqAt
theorem Zcu {A:Around}{s:Shared}{x:V}{v u:Value}(h:flatV x=true) (rv:RelV x v) (ru:RelV x u):EqAt A s v u true:=by
 cases x with
 |non=>cases (show v=Value.none from rv);cases (show u=Value.none from ru);exact EqAt.same _
 |bl b=>cases (show v=Value.bool b from rv);cases (show u=Value.bool b from ru);exact EqAt.same _
 |int i=>
  obtain⟨t,rfl⟩:=rv;obtain⟨t',rfl⟩:=ru;have:=EqAt.int_int (A:=A) (s:=s) i t i t'
  rwa [beq_self_eq_true]at this
 |str i=>
  obtain⟨t,rfl⟩:=rv;obtain⟨t',rfl⟩:=ru;have:=EqAt.str_str (A:=A) (s:=s) i t i t'
  rwa [beq_self_eq_true]at this
 |_=>cases h
section
variable {K:W.Frag}{Δ:Evt}{P:D->Evt->Prop}
def flatE:D->Bool
 |.non=>true
 |.bl _=>true
 |.int _=>true
 |.str _=>true
 |_=>false
end
theorem Zh6:bootBuiltins "ValueError" = some (.type "ValueError"):=by decide +kernel
theorem Zp5 {K:W.Frag}{C:Addr}{n:String}{b:Bool}(hm:PySem.W.kitMeta n=true) (h:PySem.W.subIn K (.ref C) (.type n)=some b):PySem.W.kitOne K (.ref C) (.type n)=some b:=by
 unfold PySem.W.kitOne PySem.W.kitCls;have e:¬ (Value.ref C == Value.type n)=true:=λz=>by cases beq_iff_eq.mp z
 rw[if_neg e];simp only[hm,if_true,h]
section
variable {K:W.Frag}{Δ:Evt}
end
section
variable {X:Cx}
def CDivB (i j:Int):Prop:=0<j/\j<=100000000000000000000000000000000000000000000000000000000000
theorem Zh8:OpR X (binaryOp .FloorDiv) (rI CDivB λi j=>.int<|i / j):=opI λi j _ _ _ _ _ hc q=>by
 have h1:(0:Int)<j:=hc.1;have h2:=hc.2;refine floordiv_int (by omega) (by rw[Int.fdiv_eq_ediv_of_nonneg i (by omega)];exact q) (.inl<|PyProof.noPylong_of_log2 ?_);have h3:j.natAbs<=100000000000000000000000000000000000000000000000000000000000:=by omega
 have h4:j.natAbs<2 ^ 200:=Wch h3 (by decide);exact Nat.lt_trans ((Nat.log2_lt<|by omega).2 h4) (by decide)
end
section
variable {K:W.Frag}{Δ:Evt}{E:XK}{Xp:Addr->Prop}{P:D->Evt->Prop}
end
def keyPd:Key->PyData
 |.inl i=>.int i
 |.inr x=>.str x
mutual
def D.pd:D->PyData
 |.non=>.none
 |.bl b=>.bool b
 |.int i=>.int i
 |.str x=>.str x
 |.tup ds=>.tuple (D.pds ds)
 |.lst ds=>.list (D.pds ds)
 |.dct ks ds=>.dict ((ks.map keyPd).zip (D.pds ds))
 |_=>.none
def D.pds:List D->List PyData
 |[]=>[]
 |d::ds=>D.pd d::D.pds ds
end
mutual
def D.shw:D->Bool
 |.non=>true
 |.bl _=>true
 |.str _=>true
 |.int i=>decide (i.natAbs.log2<1920)
 |.tup ds=>D.shws ds
 |.lst ds=>D.shws ds
 |_=>false
def D.shws:List D->Bool
 |[]=>true
 |d::ds=>D.shw d && D.shws ds
end
def D.shT (d:D):Prop:=d.shw=true\/∃ks ns:List Int,d=.dct (ks.map .inl) (ns.map .int)/\(∀k∈ks,k.natAbs.log2<1920)/\∀n∈ns,n.natAbs.log2<1920
mutual
theorem Zso:∀d:D,d.shw=true->d.pd.showable=true/\d.pd.hasDict=false
 |.non,_=>⟨rfl,rfl⟩
 |.bl _,_=>⟨rfl,rfl⟩
 |.int i,h=>⟨h,rfl⟩
 |.str _,_=>⟨rfl,rfl⟩
 |.tup ds,h=>Zka ds h
 |.lst ds,h=>Zka ds h
 |.ty _,h=>by cases h
 |.scr _,h=>by cases h
 |.adr _,h=>by cases h
 |.dct _ _,h=>by cases h
 |.exc _ _,h=>by cases h
theorem Zka:∀ds:List D,D.shws ds=true->PyData.showableAll (D.pds ds)=true/\PyData.hasDictAll (D.pds ds)=false
 |[],_=>⟨rfl,rfl⟩
 |d::ds,h=>by
  have h:(d.shw && D.shws ds)=true:=h;rw[Wbw]at h;obtain⟨a1,a2⟩:=Zso d h.1;obtain⟨b1,b2⟩:=Zka ds h.2;show (d.pd.showable && PyData.showableAll (D.pds ds))=true/\(d.pd.hasDict || PyData.hasDictAll (D.pds ds))=false;rw[a1,a2,b1,b2];exact⟨rfl,rfl⟩
end
section
variable {P:Program}{w:World}{K:W.Frag}{G H:Hp}{h:Heap}
mutual
theorem Zlg (ok:HOk P w H h) (sg:Same G H):∀{v:V}{d:D}{u:Value},Rep K G v d->d.shw=true->RelV v u->∃as,Reads h u d.pd as
 |_,_,_,.non,_,r=>by cases r;exact⟨_,.none⟩
 |_,_,_,.bl b,_,r=>by cases r;exact⟨_,.bool b⟩
 |_,_,_,.int i,_,r=>by obtain⟨t,rfl⟩:=r;exact⟨_,.int i t⟩
 |_,_,_,.str x,_,r=>by obtain⟨t,rfl⟩:=r;exact⟨_,.str x t⟩
 |_,_,_,.ty _,z,_=>by cases z
 |_,_,_,.tup e rs,z,r=>by
  cases r;obtain⟨_,its,rv,o,ho,⟨hc,n,hd⟩,_⟩:=ok _ _<|sg _ _ e;obtain⟨as,ra⟩:=Ze0 ok sg rs z rv;exact⟨_,.tuple ho hc hd ra⟩
 |_,_,_,.lst e rs,z,r=>by
  cases r;obtain⟨_,its,n,rv,ho⟩:=ok _ _<|sg _ _ e;obtain⟨as,ra⟩:=Ze0 ok sg rs z rv;exact⟨_,.list ho rfl rfl ra⟩
 |_,_,_,.scr _ _,z,_=>by cases z
 |_,_,_,.adr _,z,_=>by cases z
 |_,_,_,.dct _ _ _,z,_=>by cases z
 |_,_,_,.exc _,z,_=>by cases z
theorem Ze0 (ok:HOk P w H h) (sg:Same G H):∀{vs:List V}{ds:List D}{us:List Value},Reps K G vs ds->D.shws ds=true->Vals vs us->∃as,ReadsAll h us (D.pds ds) as
 |_,_,_,.nil,_,r=>by cases r;exact⟨_,.nil⟩
 |_,_,_,.cons (d:=d) (ds:=ds) a b,z,r=>by
  have z:(d.shw && D.shws ds)=true:=z;rw[Wbw]at z;cases r with
  |cons ra rb=>
   obtain⟨as,ha⟩:=Zlg ok sg a z.1 ra;obtain⟨bs,hb⟩:=Ze0 ok sg b z.2 rb;exact⟨_,.cons ha hb⟩
end
theorem Zhu:∀{ks ns:List Int}{kvs:List (Key × Value)}{es:List DictEntry},ks.length=ns.length->KV ((ks.map (Sum.inl:Int->Key)).zip (ns.map V.int)) kvs->Pairs (mixKind P w) es kvs →
  ReadsAll h (es.map (·.key)) (ks.map PyData.int) []/\ReadsAll h (es.map (·.val)) (ns.map PyData.int) []
 |[],[],_,_,_,r,p=>by cases r;cases p;exact⟨.nil,.nil⟩
 |k::ks,n::ns,_,_,l,r,p=>by
  cases r with
  |@cons a b as bs h1 h2=>
   cases p with
   |@cons e kv es kvs q1 q2 q3=>
    obtain⟨i1,i2⟩:=Zhu (ks:=ks) (ns:=ns) (by simpa using l) h2 q3;obtain⟨hk,hv⟩:=h1;obtain⟨t,hv⟩:=hv;have q1:keyIs b.1 e.key=true:=q1;rw[<- hk]at q1;have hk2:∃t,e.key=.int k t:=Value.isInt_shape (k:=k) (v:=e.key) q1;obtain⟨t2,hk2⟩:=hk2;refine⟨?_,?_⟩
    ·rw[Wa1,Wa1,hk2];exact .cons (as:=[]) (.int k t2) i1
    ·rw[Wa1,Wa1,q2,hv];exact .cons (as:=[]) (.int n t) i2
 |[],_::_,_,_,l,_,_=>by cases l
 |_::_,[],_,_,l,_,_=>by cases l
end
theorem Zqc:∀{ks ns:List Int},ks.length=ns.length->(((ks.map Sum.inl).map keyPd).zip (D.pds<|ns.map D.int)).map (·.1)=ks.map PyData.int/\(((ks.map Sum.inl).map keyPd).zip (D.pds<|ns.map D.int)).map (·.2)=ns.map PyData.int
 |[],[],_=>⟨rfl,rfl⟩
 |k::ks,n::ns,l=>by
  obtain⟨h1,h2⟩:=Zqc (ks:=ks) (ns:=ns) (by simpa using l);simp only[Wa1,D.pds,Wc2];rw[h1,h2];exact⟨rfl,rfl⟩
 |[],_::_,l=>by cases l
 |_::_,[],l=>by cases l
theorem shkv:∀{ks ns:List Int},(∀k∈ks,k.natAbs.log2<1920)->(∀n∈ns,n.natAbs.log2<1920)->PyData.showableKv (((ks.map Sum.inl).map keyPd).zip (D.pds<|ns.map D.int))=true
 |[],_,_,_=>rfl
 |_::_,[],_,_=>rfl
 |k::ks,n::ns,h1,h2=>by
  have i:=shkv (ks:=ks) (ns:=ns) (λa ha=>h1 a<|Way _ ha) λa ha=>h2 a<|Way _ ha;show (decide (k.natAbs.log2<1920) && decide (n.natAbs.log2<1920) && PyData.showableKv _)=true;rw[Wbw,Wbw];exact⟨⟨decide_eq_true<|h1 k<|Wat ..,decide_eq_true<|h2 n<|Wat ..⟩,i⟩
def rRepr (K:W.Frag):List V->Hp->VK->Prop:=λxs H Q=>∃(G:Hp) (v:V) (d:D),xs=[v]/\Same G H/\Rep K G v d/\d.shT/\d.pd.depth<=20/\d.pd.shown.length<=sizeLine/\Q (.str d.pd.shown) H
section
variable {X:Cx}
theorem reprK (K:W.Frag) (hg:X.A.guards=some []) (hu:X.A.units+30<cLine) (hK:X.K=K:=by rfl):CallR X (.builtin "repr") (rRepr K):=by
 subst hK;intro pins s σ H xs us Q I r h;obtain⟨G,v,d,rfl,sg,rep,sh,dp,sz,q⟩:=h;obtain⟨u,rfl,ru⟩:=vals1 r;have fin:∀(a:Addr),u=.ref a->(∃as,Reads s.heap (.ref a) d.pd as/\d.pd.showable=true/\(d.pd.hasDict=true->sysModules ∉ as))->wpAny (model X.prog X.w) X.A (call (.builtin "repr") [u]) (EP X pins σ Q) X.xe s:=λa e ⟨as,h1,h2,h3⟩=>by
  subst e;exact repr_of_reads' h1 h2 h3 hg (by omega) (λ_ _ e=>e) (λh' t tk hk=>⟨.str _,H,I.kept hk,⟨_,rfl⟩,q⟩) sz
 rcases sh with z|⟨ks,ns,rfl,z1,z2⟩
 ·obtain⟨as,h1⟩:=Zlg I.hok sg rep z ru
  obtain⟨h2,h3⟩:=Zso d z;have big:∀a,u=.ref a->wpAny (model X.prog X.w) X.A (call (.builtin "repr") [u]) (EP X pins σ Q) X.xe s:=λa e=>fin a e ⟨as,e ▸ h1,h2,λh4=>by rw[h3]at h4;cases h4⟩;cases rep with
  |non=>cases ru;exact PySem.P.repr_of_none ⟨.str _,H,I.tok _,⟨_,rfl⟩,q⟩
  |bl b=>cases ru;exact PySem.P.repr_of_bool ⟨.str _,H,I.tok _,⟨_,rfl⟩,q⟩
  |int i=>obtain⟨t,rfl⟩:=ru;exact PySem.P.repr_of_int (of_decide_eq_true z) ⟨.str _,H,I.tok _,⟨_,rfl⟩,q⟩
  |str x=>obtain⟨t,rfl⟩:=ru;exact PySem.P.repr_of_str ⟨.str _,H,I.tok _,⟨_,rfl⟩,q⟩ sz
  |tup e rs=>exact big _ ru
  |lst e rs=>exact big _ ru
  |_=>cases z
 ·cases rep with
  |@dct a _ vs _ e l rs=>
   cases (show u=Value.ref a from ru);have ev:=Reps.ints rs;subst ev;have l2:ks.length=ns.length:=by simpa using l
   obtain⟨_,hS,kvs,rk,o,es,ep,ho,hc,hd,_,hp,_⟩:=Zt1 I.hok<|sg _ _ e;obtain⟨r1,r2⟩:=Zhu (h:=s.heap) l2 rk hp;obtain⟨e1,e2⟩:=Zqc l2;rw[<- e1]at r1;rw[<- e2]at r2;have rd:Reads s.heap (.ref a) (D.pd (.dct (ks.map Sum.inl)<|ns.map D.int)) (a::[]++[]):=.dict ho hc.1 hd r1 r2;refine fin a rfl ⟨_,rd,shkv z1 z2,λ_ hm=>?_⟩
   ·have hm:sysModules=a:=by simpa using hm
    subst hm;exact absurd hS (by rw[beq_self_eq_true];decide)
end
section
variable {K:W.Frag}{Δ:Evt}{P:D->Evt->Prop}
theorem Zo5:bootBuiltins "repr" = some (.builtin "repr"):=by decide +kernel
theorem Zva {A:Around}{k:Nat}(hr:Room k A):A.units+30<cLine:=Wch (Wd7 (by decide:30<=64) _) hr.units
theorem Zpu {d:D}(h1:d.shT) (h2:d.pd.depth<=20) (h3:d.pd.shown.length<=sizeLine) (p:P (.str d.pd.shown) Δ):JC K (rRepr K) [d] Δ P:=λg G H σ Q vs k rs c=>by
 obtain⟨_,_,rfl,r,t⟩:=rs.inv
 next=>cases t.inv;exact⟨G,_,d,rfl,k.live,r,h1,h2,h3,c _ _ G H Δ k (Same.refl _) (.str _) p⟩
end
section
variable {X:Cx}
end
def PV (K:W.Frag) (te:TE) (Δ:Evt) (d:D):Prop:=∀P:D->Evt->Prop,P d Δ -> JE K te Δ P
def PVs (K:W.Frag) (ta:TA) (Δ:Evt) (ds:List D):Prop:=∀P:List D->Evt->Prop,P ds Δ -> JA K ta Δ P
def PR2 (K:W.Frag) (r:R2) (d e:D) (Δ:Evt) (x:D):Prop:=∀P:D->Evt->Prop,P x Δ -> JR2 K r d e Δ P
section
variable {K:W.Frag}{Δ:Evt}
theorem Zxa {te:TE}{d:D}{P:D->Evt->Prop}(h:PV K te Δ d) (p:P d Δ):JE K te Δ P:=h P p
theorem Zsp {i:Nat}{d:D}(h:Δ[i]?=some (.val d)):PV K (tVar i) Δ d:=λP p=>Zac h p
theorem Zn8 {i:Int}:PV K (tC (.int i)) Δ (.int i):=λP p=>Zak p
theorem Zti:PVs K tNil Δ []:=λP p=>Zae p
theorem Zk7 {ta:TE}{tr:TA}{d:D}{ds:List D}(h:PV K ta Δ d) (t:PVs K tr Δ ds):PVs K (tCons ta tr) Δ (d::ds):=λP p=>Zab<|h _<|t _ p
theorem Zwp {ta:TA}{ds:List D}(h:PVs K ta Δ ds) (z:ds.length<=sizeLine):PV K (tTup ta) Δ (.tup ds):=λP p=>Zbs<|h _ ⟨z,p⟩
theorem Zs9 {r:R2}{ta tb:TE}{d e x:D}(a:PV K ta Δ d) (b:PV K tb Δ e) (h:PR2 K r d e Δ x):PV K (tOp r ta tb) Δ x:=λP p=>Zam<|a _<|b _<|h P p
theorem Ztc {i j:Int}:PR2 K (rAddU K) (.int i) (.int j) Δ (.int<|i+j):=λP p=>Zc3 p
theorem pr_I {C:Int->Int->Prop}{f:Int->Int->Int}{i j:Int}(hc:C i j):PR2 K (rI C λi j=>.int<|f i j) (.int i) (.int j) Δ (.int<|f i j):=λP p=>jr_I hc p
end
open PySem PySem.Spec PyProof.Rows PySem.SeqAt
def Sm:Nat->D->Bool
 |0,d=>flatE d
 |n+1,d=>match d with
  |.lst ds=>ds.all (Sm n)
  |.tup ds=>ds.all (Sm n)
  |d=>flatE d
section
variable {X:Cx}
theorem Zdl:∀(n:Nat) {A:Around}{pins:List (Addr × Obj)}{σ:St}{H G:Hp}{s:Shared}{x y:V}{v u:Value}{d:D},Inv X pins σ H s->Same G H->Rep X.K G x d->Rep X.K G y d->RelV x v->RelV y u->Sm n d=true->A.units+n<cLine->EqAt A s v u true
 |0,A,pins,σ,H,G,s,x,y,v,u,d,I,sg,rx,ry,rv,ru,h,hu=>by
  cases d with
  |non=>cases rx;cases ry;exact Zcu rfl rv ru
  |bl _=>cases rx;cases ry;exact Zcu rfl rv ru
  |int _=>cases rx;cases ry;exact Zcu rfl rv ru
  |str _=>cases rx;cases ry;exact Zcu rfl rv ru
  |_=>exact nomatch h
 |n+1,A,pins,σ,H,G,s,x,y,v,u,d,I,sg,rx,ry,rv,ru,h,hu=>by
  cases d with
  |non=>cases rx;cases ry;exact Zcu rfl rv ru
  |bl _=>cases rx;cases ry;exact Zcu rfl rv ru
  |int _=>cases rx;cases ry;exact Zcu rfl rv ru
  |str _=>cases rx;cases ry;exact Zcu rfl rv ru
  |lst ds=>
   cases rx with
   |@lst a vs _ ha ra=>
    cases ry with
    |@lst b us _ hb rb=>
     cases rv;cases ru;obtain⟨its,w1,pl,_⟩:=I.list<|SqL.of<|sg _ _ ha;obtain⟨its2,w2,pl2,_⟩:=I.list<|SqL.of<|sg _ _ hb;have l1:=w1.length;have l2:=w2.length;have l3:=ra.length;have l4:=rb.length;have h:ds.all (Sm n)=true:=h;by_cases hab:a=b
     ·subst hab;exact EqAt.same _
     ·refine .of_refs hab ?_
      have z:=RcAt.lists (A:=A) (s:=s) (e:=λ_=>true) pl.isList pl2.isList (by rw[Wah,Wah];omega) (by omega) λj h1 h2=>by
       have h1':j<its.length:=by simpa using h1
       have h2':j<its2.length:=by simpa using h2
       have hx:j<ds.length:=by omega
       obtain⟨p,hp1,hp2⟩:=ra.get<|Wab hx;obtain⟨q,hq1,hq2⟩:=rb.get<|Wab hx;obtain⟨va,hv1,hv2⟩:=w1.get hp1;obtain⟨vb,hw1,hw2⟩:=w2.get hq1;rw[Wab h1']at hv1;rw[Wab h2']at hw1;rw[Wbf,Wbf,Wa6.inj hv1,Wa6.inj hw1];exact Zdl n I sg hp2 hq2 hv2 hw2 (Wba.mp h _<|Wbl hx) (by show A.units+1+n<cLine;omega)
      rw[Wba.mpr (λ_ _=>rfl)]at z;exact z
  |tup ds=>
   cases rx with
   |@tup a vs _ ha ra=>
    cases ry with
    |@tup b us _ hb rb=>
     cases rv;cases ru;obtain⟨its,w1,pl,_⟩:=I.tuple<|SqT.of<|sg _ _ ha;obtain⟨its2,w2,pl2,_⟩:=I.tuple<|SqT.of<|sg _ _ hb;have l1:=w1.length;have l2:=w2.length;have l3:=ra.length;have l4:=rb.length;have h:ds.all (Sm n)=true:=h;by_cases hab:a=b
     ·subst hab;exact EqAt.same _
     ·refine .of_refs hab ?_
      have z:=RcAt.tuples (A:=A) (s:=s) (e:=λ_=>true) pl pl2 (by omega) λj h1 h2=>by
       have h1':j<its.length:=by simpa using h1
       have h2':j<its2.length:=by simpa using h2
       have hx:j<ds.length:=by omega
       obtain⟨p,hp1,hp2⟩:=ra.get<|Wab hx;obtain⟨q,hq1,hq2⟩:=rb.get<|Wab hx;obtain⟨va,hv1,hv2⟩:=w1.get hp1;obtain⟨vb,hw1,hw2⟩:=w2.get hq1;rw[Wab h1']at hv1;rw[Wab h2']at hw1;rw[Wbf,Wbf,Wa6.inj hv1,Wa6.inj hw1];exact Zdl n I sg hp2 hq2 hv2 hw2 (Wba.mp h _<|Wbl hx) (by show A.units+1+n<cLine;omega)
      rw[Wba.mpr (λ_ _=>rfl),show (its.toArray.size == its2.toArray.size)=true by rw[Wah,Wah];exact beq_iff_eq.mpr (by omega),Wd9]at z;exact z
  |_=>exact nomatch h
def rNeSm (K:W.Frag):R2:=λx y H Q=>Q (.bl false) H/\∃(G:Hp) (n:Nat) (a b:Addr) (xs ys:List V) (ds:List D),Same G H/\Reps K G xs ds/\Reps K G ys ds/\ds.all (Sm n)=true/\n<=5/\x=.ref a/\y=.ref b/\SqL K H a xs/\SqL K H b ys
theorem neSmK (K:W.Frag) (hv:X.A.units+8<cLine) (hK:X.K=K:=by rfl):OpR X (compareOp .NotEq) (rNeSm K):=by
 subst hK;intro pins s σ H x y v u Q I rx ry h;obtain⟨q,G,n,a,b,xs,ys,ds,sg,ra,rb,hd,hn,rfl,rfl,h1,h2⟩:=h;cases rx;cases ry;obtain⟨its,w1,p1,_⟩:=I.list h1;obtain⟨its2,w2,p2,_⟩:=I.list h2;have l1:=w1.length;have l2:=w2.length;have l3:=ra.length;have l4:=rb.length;refine RcNeAt.lists (A:=X.A) (s:=s) (e:=λ_=>true) p1.isList p2.isList (by rw[Wah,Wah];omega) (by omega) (λj h1 h2=>?_) X.prog X.w _ _ ?_
 ·have h1':j<its.length:=by simpa using h1
  have h2':j<its2.length:=by simpa using h2
  have hx:j<ds.length:=by omega
  obtain⟨p,hp1,hp2⟩:=ra.get<|Wab hx;obtain⟨q,hq1,hq2⟩:=rb.get<|Wab hx;obtain⟨va,hv1,hv2⟩:=w1.get hp1;obtain⟨vb,hw1,hw2⟩:=w2.get hq1;rw[Wab h1']at hv1;rw[Wab h2']at hw1;rw[Wbf,Wbf,Wa6.inj hv1,Wa6.inj hw1];exact Zdl n I sg hp2 hq2 hv2 hw2 (Wba.mp hd _<|Wbl hx) (by show X.A.units+1+n<cLine;omega)
 ·rw[Wba.mpr (λ_ _=>rfl)]
  exact⟨.bl false,H,I,rfl,q⟩
end
open PySem PySem.Spec PyProof.Rows PySem.SeqAt
section
variable {X:Cx}
theorem Zft {e tg1 it1:Expr}{scope:Scope}{tgs fvs:List Str}{sel:List Nat}{g1:TG}{ob:Obj}{ho:HO}{newAcc:Sem Value}{rest:Addr->Env->Value->Sem Fin}{tem:Addr->TB}(hpl:Plain e) (hcls:(clausesOf e)[0]?=some ⟨tg1,it1,[],0⟩)
  (hct0:∀(D:Addr) (env:Env) (it:Value),compTurn e 0 it (.ref D) env=(do
   standAt it1.pos
   match ← pyNext it with
   |none=>pure (.done .next)
   |some v=>
    letOwnedTupleGo tg1 it v
    assign tg1 env v
    rest D env it))
  (hnew:∀(s:Shared) (Q:Value->Shared->Prop) (E:Value->Shared->Prop),Q (.ref s.heap.objs.size) { s with heap:=s.heap.push ob } -> wpAny (model X.prog X.w) X.A newAcc Q E s)
  (hok:∀(pins:List (Addr × Obj)) (σ:St) (H:Hp) (s:Shared),Inv X pins σ H s->Inv X pins σ (upd H s.heap.objs.size ho) { s with heap:=s.heap.push ob,toks:=s.toks })
  (S:CompSc X.env.scope X.N scope fvs sel) (hc:X.calm=true)
  (hg1:∀C s H ex pn,PG (compCx X scope (tgs++fvs) C s H ex pn) tg1 g1)
  (hb:∀C s H ex pn D it,PBT (compCx X scope (tgs++fvs) C s H ex pn) (rest D (compCx X scope (tgs++fvs) C s H ex pn).env it) (.compLoop e 0 it (.ref D) (compCx X scope (tgs++fvs) C s H ex pn).env) (tem D))
  {pins:List (Addr × Obj)}{σ:St}{s:Shared}{itv:Value}{Q:VK}{E:Value->Shared->Prop}{RR:Value->Addr->Result->Shared->Prop}
  (h2:PIE X pins σ tg1 (λJ H1=>∀acc,H1 acc=none->LoopR g1 (tem acc) (λ_ H'=>Q (.ref acc) H') (compSt tgs.length sel σ) J (upd H1 acc ho)) itv s)
  (fin:∀(s':Shared) (C acc:Addr) (H':Hp) (m:Str->Option Value),s'.heap.Ns C m->FpOk X pins H' C->(∀h',Heap.SameBut C s'.heap h' -> Inv X pins σ H' { s' with heap:=h' })->Q (.ref acc) H' -> RR (.ref acc) C (.ok .next) s') :
  wpAny (model X.prog X.w) X.A newAcc (λacc s3=>wpAny (model X.prog X.w) X.A (newFunctionEnv scope X.env.globals (clOf X.env scope.names []) [] X.env.qual none .none (some X.env)) (λcenv s4=>
   codeAny (model X.prog X.w) X.A (.compStart e 0 itv acc { cenv with scope:=relabel scope X.env }) (RR acc cenv.locals) s4) E s3) E s:=by
 obtain⟨it,fp,tn,J,H1,e0,I,T,st,f2,h2⟩:=h2;subst e0;have hlt:∀b∈fp,b<s.heap.objs.size:=λb hb=>let ⟨o,ho,_⟩:=T.obj 0 _ st b hb; Wax ho
 refine hnew s _ _<|wpAny_newFunctionEnv S.nocell (by intro y hy;simp at hy) (λh1 hns hsb=>?_) S.kind;dsimp only at hns hsb ⊢;have I3:=hok pins σ H1 s I;have hacc:H1 s.heap.objs.size=none:=I.hok.fresh<|Wak _;have h2:=h2 s.heap.objs.size hacc;generalize hs3:({ s with heap:=s.heap.push ob,toks:=s.toks }:Shared)=s3 at I3;have hh3:s3.heap=s.heap.push ob:=by rw[<- hs3]
 have old3:∀b o,s.heap.get? b=some o->s3.heap.get? b=some o:=λb o q=>by rw[hh3];exact Wac _ q
 have hf3:∀b∈fp,FpOk X pins (upd H1 s.heap.objs.size ho) b:=λb hb=>⟨by rw[Zan (Wa8<|hlt b hb)];exact(f2 b hb).1,(f2 b hb).2⟩;have hlt3:∀b∈fp,b<s3.heap.objs.size:=λb hb=>by rw[hh3,Wcf];exact Wck<|hlt b hb
 have tn3:tn 0 s3.heap:=T.keep 0 _ _ st λb hb o q=>old3 b o q;have old4:∀b o,s3.heap.get? b=some o->h1.get? b=some o:=λb o q=>by
  have hb:b≠s3.heap.objs.size:=Wa8<|Wax q;rw[hh3]at hb q;exact(hsb.2 b hb).trans (Wac _ q)
 have tn4:tn 0 h1:=T.keep 0 _ _ tn3 λb hb o q=>old4 b o q;have hC:(s.heap.push ob).objs.size=s3.heap.objs.size:=by rw[hh3]
 rw[hC]at hns;have J0:=Zhy (tgs:=tgs) (tk:=s.toks+([]:List (Str × Value)).length) S I3 hf3 hlt3 hns old4;have es:({ s3 with heap:=h1,toks:=s.toks+([]:List (Str × Value)).length }:Shared) = { s with heap:=h1,toks:=s.toks+([]:List (Str × Value)).length }:=by rw[<- hs3]
 rw[es]at J0;have G1:=hg1 s3.heap.objs.size s3 (upd H1 s.heap.objs.size ho) fp<|X.pn++pins;have EM:=hb s3.heap.objs.size s3 (upd H1 s.heap.objs.size ho) fp (X.pn++pins) s.heap.objs.size;generalize hY:compCx X scope (tgs++fvs) s3.heap.objs.size s3 (upd H1 s.heap.objs.size ho) fp (X.pn++pins)=Y at J0 G1 EM;have hYp:Y.prog=X.prog:=by rw[<- hY];rfl
 have hYw:Y.w=X.w:=by rw[<- hY];rfl
 have hYK:Y.K=X.K:=by rw[<- hY];rfl
 have hYA:Y.A=X.A:=by rw[<- hY];rfl
 have hYc:Y.calm=true:=by rw[<- hY];exact hc
 have hYx:Y.xe=λ_ _=>False:=by rw[<- hY];rfl
 have hYe:Y.env=compEnvC scope (clOf X.env scope.names []) s3.heap.objs.size X.env:=by rw[<- hY];rfl
 have stat:∀{H':Hp},(∀b∈fp,H' b=none)->∀b∈fp,FpOk Y [] H' b:=λhn b hb=>by
  rw[<- hY];refine⟨hn b hb,Wa8<|hlt3 b hb,λz=>?_,.inl hb,λx c e=>?_,λp hp z=>?_⟩
  ·rcases Wap.mp (I3.stkSub b z) with q|q
   ·exact(hf3 b hb).2.1 q
   ·exact(hf3 b hb).2.2.1 q
  ·exact(hf3 b hb).2.2.2.2.1 x c (Zby _ _ (λ_ _ z=>by simp at z) e)
  ·have hp:p∈(X.pn++pins)++[]:=hp
   rw[Wa3]at hp;exact(hf3 b hb).2.2.2.2.2 p hp z
 have T':Turn Y.prog Y.w Y.K tg1 J fp it tn:=by rw[hYp,hYw,hYK];exact T
 have PP:PIE Y [] (compSt tgs.length sel σ) tg1 (LoopR g1 (tem s.heap.objs.size) (λ_ H'=>Q (.ref s.heap.objs.size) H')<|compSt tgs.length sel σ) (.ref it) { s with heap:=h1,toks:=s.toks+([]:List (Str × Value)).length }:=
  ⟨it,fp,tn,J,_,rfl,J0,T',tn4,stat λb hb=>(hf3 b hb).1,h2⟩
 have L:=Zi4 (Y:=Y) (e:=e) (d:=0) (acc:=.ref s.heap.objs.size) hpl hYc hYx (hct0 s.heap.objs.size Y.env) G1 (λit=>EM it) PP;have ST:=Zf2 (d:=0) hpl hcls PP L;rw[hYp,hYw,hYA,hYe]at ST;show codeAny (model X.prog X.w) X.A (.compStart e 0 (.ref it) (.ref s.heap.objs.size)<|compEnvC scope (clOf X.env scope.names []) (s.heap.push ob).objs.size X.env) (RR (.ref s.heap.objs.size) (s.heap.push ob).objs.size) _;rw[hC];refine codeAny_mono ST λr s6 ⟨hr,σ5,H5,I6,qn⟩=>?_;subst hr;obtain⟨m6,hn6,_⟩:=I6.loc;rw[hYe]at hn6;refine fin s6 _ _ H5 m6 hn6 (I3.fpOk (Wak _) (by have z:=I6.free;rw[hYe]at z;exact z)) (λh' sb=>?_) qn;have I6':Inv (compCx X scope (tgs++fvs) s3.heap.objs.size s3 (upd H1 s.heap.objs.size ho) fp<|X.pn++pins) [] σ5 H5 s6:=by rw[hY];exact I6
 exact Zd9 I3 hf3 I6' sb
def tAppL (te:TE) (D:Addr):TB:=λσ H N=>te σ H λy H1=>∃ys,H1 D=some (.lst ys)/\ys.length<sizeLine/\N σ (upd H1 D (.lst<|ys++[y]))
theorem Zvd {Y:Cx}{ex:Expr}{te:TE}(hx:Y.xe=λ_ _=>False) (he:PE Y ex te) (D:Addr):PB Y (do
   let _ ← call (.builtin "list.append") [.ref D,<- eval ex Y.env]) (tAppL te D):=λpins s σ H N I h=>by
 have h1:=he pins s σ H _ I h;rw[hx]at h1;refine wpAny_bind (thn h1 λu s1 ⟨y,H1,I1,ry,ys,ea,za,na⟩=>?_);have M:=Zb9 (X:=Y) _ s1 σ H1 (.ref D) [y] (.ref D) [u] (λ_ H=>N σ H) I1 rfl (.cons ry .nil) ⟨_,ys,y,rfl,rfl,ea,za,na⟩;rw[hx]at M;exact wpAny_bind (thn M λ_ sb ⟨_,Hb,Ib,_,nb⟩=>wpAny_pure ⟨σ,Hb,Ib,nb⟩)
theorem Zi6 {ex tg1 it1 tg2 it2:Expr}{scope:Scope}{pos spos py:Pos}{fvs:List Str}{sel:List Nat}{wi1 wi2:TI}{g1 g2:TG}{te:TE}{i:Nat}{y:Str}(hN:X.N.Nodup) (hiy:X.N[i]?=some y) (hx:Loc X.env.scope y) (tgs:List Str) (S:CompSc X.env.scope X.N scope fvs sel) (hc:X.calm=true)
  (hi1:PI X tg1 it1 wi1) (hg1:∀C s H ex pn,PG (compCx X scope (tgs++fvs) C s H ex pn) tg1 g1) (hi2:∀C s H ex pn,PI (compCx X scope (tgs++fvs) C s H ex pn) tg2 it2 wi2) (hg2:∀C s H ex pn,PG (compCx X scope (tgs++fvs) C s H ex pn) tg2 g2)
  (he:∀C s H ex' pn,PE (compCx X scope (tgs++fvs) C s H ex' pn) ex te)
  (hs1:∀x,foldedSetIterable it1 X.env x=pure x:=by intro _;rfl) (hs2:∀(env:Env) x,foldedSetIterable it2 env x=pure x:=by intro _ _;rfl)
  (hsw:swapsWith (.ListComp ex [⟨tg1,it1,[],0⟩,⟨tg2,it2,[],0⟩] scope pos) (some (.Name y py)) spos.line X.env=pure true:=by rfl)
  (hf:X.fn y=true\/X.env.scope.names.lookup y=some .local:=by first|exact .inl rfl|exact .inr rfl|assumption) :
  PS X (.Assign [.Name y py] (.ListComp ex [⟨tg1,it1,[],0⟩,⟨tg2,it2,[],0⟩] scope pos) spos) (tAsg (tComp2 tgs.length sel wi1 g1 wi2 g2 (.lst [])<|tAppL te)<|gName i):=by
 intro pins s σ H D I h;rw[exec_Assign_Name_used _ _ _ _ hsw];refine wpAny_bind (wpAny_standAt (wpAny_bind ?_));show wpAny _ X.A (do let _ ← comprehension (.ListComp ex [⟨tg1,it1,[],0⟩,⟨tg2,it2,[],0⟩] scope pos) scope X.env _ (newList []) false (eval it1 X.env) (some (assign (.Name y py) X.env))) _ _ s;refine wpAny_bind (wpAny_mono (wpAny_comprehension_free (use:=some (assign (.Name y py) X.env)) (Q:=λ_ s'=>SP X pins D .next s') rfl hs1 (Zbp (Zcp S I.ok)) S.kind S.names
  (thn (hi1 pins s σ H _ I h) λv s1 h1=>thn h1 λitv s2 h2=>?_)) (λ_ s' hq=>wpAny_pure (wpAny_pure hq)) λ_ _ e=>e)
 refine Zft (tgs:=tgs) (ob:={ cls:=.type "list",data:=.seq ([]:List Value).toArray }) (ho:=.lst []) (Zfq _ _ _ _) rfl (λD env it=>rfl) (λs Q E q=>wpAny_newObj_type q) (λpins σ H s I=>I.lnew (its:=[]) .nil<|by decide) S hc hg1 (tem:=λacc=>tLoop wi2 g2<|tAppL te acc) (λC s H ex pn D it=>Zlp (Y:=compCx X scope (tgs++fvs) C s H ex pn) (Zfq _ _ _ _) hc rfl rfl (λit=>rfl) (hi2 C s H ex pn) (hg2 C s H ex pn) (λit=>(Zvd (Y:=compCx X scope (tgs++fvs) C s H ex pn) rfl (he C s H ex pn) D).rest)<|hs2 _) (RR:=λacc C=>compPost (model X.prog X.w) X.A X.xe (some<|assign (.Name y py) X.env) (λ_ s'=>SP X pins D .next s') acc C) (Q:=λv H'=>D.nx (σ.set i<|some v) H') h2 ?_;intro s' C acc H' m hn fp hI q;have I0:Inv X pins σ H' s':=hI s'.heap (.refl ..);show wpAny _ X.A (assign (.Name y py) X.env (.ref acc)) _ _ _;refine wpAny_assign_Name<|Zgx (v:=.ref acc) I0 hN hiy hx rfl (λs2 I2 hsb=>?_) hf;obtain⟨a,sb,ha⟩:=hsb;have hCa:C≠a:=by
  rcases ha with z|z
  ·rw[z];exact fp.2.1
  ·exact Ne.symm<|fp.2.2.2.2.1 y a z
 refine⟨m,hn.sameBut sb hCa,λh' sb'=>?_⟩;obtain⟨f0,f1,f2,f3,f4,f5⟩:=fp;exact⟨_,H',I2.turned (t':=s2.toks) (it:=C) (λb o hb e=>(sb'.2 b hb).trans e) f0 f1 f3 f4 f5,q⟩
theorem Zpo {kx vx tg1 it1 tg2 it2:Expr}{scope:Scope}{pos:Pos}{fvs:List Str}{sel:List Nat}{wi1 wi2:TI}{g1 g2:TG}{tk tv:TE}(tgs:List Str) (S:CompSc X.env.scope X.N scope fvs sel) (hc:X.calm=true)
  (hi1:PI X tg1 it1 wi1) (hg1:∀C s H ex pn,PG (compCx X scope (tgs++fvs) C s H ex pn) tg1 g1) (hi2:∀C s H ex pn,PI (compCx X scope (tgs++fvs) C s H ex pn) tg2 it2 wi2) (hg2:∀C s H ex pn,PG (compCx X scope (tgs++fvs) C s H ex pn) tg2 g2)
  (hk:∀C s H ex pn,PE (compCx X scope (tgs++fvs) C s H ex pn) kx tk) (hv:∀C s H ex pn,PE (compCx X scope (tgs++fvs) C s H ex pn) vx tv)
  (hs1:∀x,foldedSetIterable it1 X.env x=pure x:=by intro _;rfl) (hs2:∀(env:Env) x,foldedSetIterable it2 env x=pure x:=by intro _ _;rfl) :
  PE X (.DictComp kx vx [⟨tg1,it1,[],0⟩,⟨tg2,it2,[],0⟩] scope pos) (tComp2 tgs.length sel wi1 g1 wi2 g2 (.dK [])<|tPutK tk tv):=by
 intro pins s σ H Q I h;rw[Zfc];refine wpAny_comprehension_free (use:=none) rfl hs1 (Zbp<|Zcp S I.ok) S.kind S.names (thn (hi1 pins s σ H _ I h) λv s1 h1=>thn h1 λitv s2 h2=>?_);refine Zft (tgs:=tgs) (ob:={ cls:=.type "dict",data:=.dict #[] }) (ho:=.dK []) (Zfv _ _ _ _ _) rfl (λD env it=>rfl) (λs Q E q=>wpAny_newObj_type q) (λpins σ H s I=>?_) S hc hg1 (tem:=λacc=>tLoop wi2 g2<|tPutK tk tv acc) (λC s H ex pn D it=>Zlp (Y:=compCx X scope (tgs++fvs) C s H ex pn) (Zfv _ _ _ _ _) hc rfl rfl (λit=>rfl) (hi2 C s H ex pn) (hg2 C s H ex pn) (λit=>(Zwn (Y:=compCx X scope (tgs++fvs) C s H ex pn) rfl (hk C s H ex pn) (hv C s H ex pn) D).rest)<|hs2 _) (RR:=λacc C=>compPost (model X.prog X.w) X.A X.xe none (EP X pins σ Q) acc C) (Q:=Q) h2 ?_
 ·exact I.laid (a:=s.heap.objs.size) (o:=.dK []) (h':=s.heap.push { cls:=.type "dict",data:=.dict #[] }) (t':=s.toks) (λ_ _ q=>Wac _ q) (Wak _)<|Zl1 s.heap I.big
 ·intro s' C acc H' m hn _ hI q
  exact⟨m,hn,λh' sb=>⟨.ref acc,H',hI h' sb,rfl,q⟩⟩
def tPutT (tk tv:TE) (D:Addr):TB:=λσ H N=>tk σ H λx H1=>tv σ H1 λy H2=>∃kvs k b,x=.ref b/\H2 b=some (.tup<|k.map kV)/\H2 D=some (.dT kvs)/\kvs.length<sizeLine/\N σ (upd H2 D (.dT<|putK kvs k y))
def tCompG (n:Nat) (sel:List Nat) (wi1:TI) (g1:TG) (ho:HO) (tem:Addr->TB):TE:=λσ H Q=>wi1 σ H λJ H1=>∀acc,H1 acc=none->LoopR g1 (tem acc) (λ_ H'=>Q (.ref acc) H') (compSt n sel σ) J (upd H1 acc ho)
theorem Zue {Y:Cx}{kx vx:Expr}{tk tv:TE}{p:Pos}(hu:Y.A.units+1<cLine) (hx:Y.xe=λ_ _=>False) (hk:PE Y kx tk) (hv:PE Y vx tv) (D:Addr):PB Y (do
   let kv ← eval kx Y.env
   let vv ← holding [kv] (eval vx Y.env)
   standAt p
   holding [kv,vv] (dictSet D kv vv)) (tPutT tk tv D):=λpins s σ H N I h=>by
 have h1:=hk pins s σ H _ I h;rw[hx]at h1;refine wpAny_bind (thn h1 λu s1 ⟨x,H1,I1,rx,h2⟩=>?_);have h3:=hv pins s1 σ H1 _ I1 h2;rw[hx]at h3;refine wpAny_bind<|wpAny_holding (thn h3 λr s2 ⟨y,H2,I2,ry,kvs,k,b,ex,hb,hD,hl,hN⟩=>wpAny_bind<|wpAny_standAt<|wpAny_holding ?_);subst ex;cases (show u=Value.ref b from rx);obtain⟨z,hd,xs,rel,dd⟩:=Zvu I2.hok hD;have hz:xs.length<=sizeLine:=by rw[<- Paired.length rel];exact z
 have hl':(putK kvs k y).length<=sizeLine:=by have:=Zd1 kvs k y;omega
 refine wpAny_dictSet_heap (hsz:=hz) (show (tupleKind<|mixKind Y.prog Y.w).room Y.A from Nat.lt_of_succ_lt hu) (Zhq I2.hok hb) dd λh' dd' hs=>⟨σ,_,?_,hN⟩;obtain⟨q,es,ep,hq,g2,g3,g4,_,g5⟩:=dd';refine Zg0 I2 (by rw[hD];exact True.intro) hs ⟨q,hq⟩ ⟨hl',hd,_,(rel.put k hb ry).keeps λc ys ec=>?_,q,es,ep,hq,g2,g3,g4,g5⟩;rw[Zan (Zu6 ec hD λz=>nomatch z)];exact ec
theorem Zi9 {kx vx tg1 it1:Expr}{scope:Scope}{pos:Pos}{fvs:List Str}{sel:List Nat}{wi1:TI}{g1:TG}{tk tv:TE}(tgs:List Str) (S:CompSc X.env.scope X.N scope fvs sel) (hc:X.calm=true) (hu:X.A.units+1<cLine)
  (hi1:PI X tg1 it1 wi1) (hg1:∀C s H ex pn,PG (compCx X scope (tgs++fvs) C s H ex pn) tg1 g1)
  (hk:∀C s H ex pn,PE (compCx X scope (tgs++fvs) C s H ex pn) kx tk) (hv:∀C s H ex pn,PE (compCx X scope (tgs++fvs) C s H ex pn) vx tv)
  (hs1:∀x,foldedSetIterable it1 X.env x=pure x:=by intro _;rfl) :
  PE X (.DictComp kx vx [⟨tg1,it1,[],0⟩] scope pos) (tCompG tgs.length sel wi1 g1 (.dT [])<|tPutT tk tv):=by
 intro pins s σ H Q I h;rw[Zfc];refine wpAny_comprehension_free (use:=none) rfl hs1 (Zbp<|Zcp S I.ok) S.kind S.names (thn (hi1 pins s σ H _ I h) λv s1 h1=>thn h1 λitv s2 h2=>?_);refine Zft (tgs:=tgs) (ob:={ cls:=.type "dict",data:=.dict #[] }) (ho:=.dT []) (Zfv _ _ _ _ _) rfl (λD env it=>rfl) (λs Q E q=>wpAny_newObj_type q) (λpins σ H s I=>?_) S hc hg1 (λC s H ex pn D it=>(Zue (Y:=compCx X scope (tgs++fvs) C s H ex pn) hu rfl (hk C s H ex pn) (hv C s H ex pn) D).rest) (RR:=λacc C=>compPost (model X.prog X.w) X.A X.xe none (EP X pins σ Q) acc C) (Q:=Q) h2 ?_
 ·exact I.laid (a:=s.heap.objs.size) (o:=.dT []) (h':=s.heap.push { cls:=.type "dict",data:=.dict #[] }) (t':=s.toks) (λ_ _ q=>Wac _ q) (Wak _)<|Zrx s.heap I.big
 ·intro s' C acc H' m hn _ hI q
  exact⟨m,hn,λh' sb=>⟨.ref acc,H',hI h' sb,rfl,q⟩⟩
def rGetT:V->List V->Hp->VK->Prop:=λx vs H Q=>∃a b z kvs k,x=.ref a/\vs=[.ref b,z]/\H a=some (.dT kvs)/\H b=some (.tup<|k.map kV)/\Q ((valV kvs k).getD z) H
theorem Zny (hu:X.A.units+1<cLine):MtM X "dict.get" rGetT:=by
 intro pins s σ H x vs v us Q I rx rv h;obtain⟨a,b,z,kvs,k,rfl,rfl,hH,hb,q⟩:=h;cases rx;obtain⟨u1,u2,rfl,r1,ru⟩:=rv.two;exact Zwf hu I (DGet.t hH hb) r1 ru λw' s3 I3 rw'=>⟨_,H,I3,rw',q⟩
end
section
variable {K:W.Frag}{Δ:Evt}
def gInO (G H:Hp) (acc:Addr) (o:HO):Gm:=⟨λ_=>False,G,H,λb=>if b=acc then some o else none⟩
theorem Zdx {G H:Hp}{acc:Addr}{u:HO}{G' H':Hp}{σ:St}{Δ:Evt}(k:Ok K (gInO G H acc u) G' H' σ Δ):H' acc=some u/\G' acc=none/\∀(i:Nat) x od,Δ[i]?=some x->x.od=some od -> σ[i]?≠some (some (.ref acc)):=
 k.ext acc u (by show (if acc=acc then _ else _)=_;rw[if_pos rfl])
theorem Zge {G H:Hp}{acc:Addr}{u u':HO}{G' H':Hp}{σ:St}{Δ:Evt}(hH:H acc=none) (k:Ok K (gInO G H acc u) G' H' σ Δ):Ok K (gInO G H acc u') G' (upd H' acc u') σ Δ:=by
 obtain⟨w1,w2,w3⟩:=Zdx k;have ne:∀{b:Addr}{o:HO},G' b=some o->b≠acc:=λ{b o} e z=>by subst z;rw[w2]at e;cases e
 refine⟨λb o hb e=>?_,λb hb=>hb.elim,k.sub,λb o e=>?_,λb o e=>?_,k.len,k.val,λi x od e1 e2=>?_,k.dis⟩
 ·have hb':b≠acc:=by intro z;subst z;have e:H b=some o:=e;rw[hH]at e;cases e
  rw[Zan hb'];exact k.same b o (λz=>z) e
 ·rw[Zan (ne e)];exact k.frz b o e
 ·have e:(if b=acc then some u' else none)=some o:=e
  by_cases hb:b=acc
  ·rw[if_pos hb]at e;cases e;subst hb
   exact⟨Zat,w2,w3⟩
  ·rw[if_neg hb]at e;cases e
 ·obtain⟨a,o,h1,h2,h3,h4,h5⟩:=k.own i x od e1 e2
  have hb:a≠acc:=by intro z;subst z;exact w3 i x od e1 e2 h1
  exact⟨a,o,h1,by rw[Zan hb];exact h2,h3,h4,h5⟩
def JB (K:W.Frag) (tem:Addr->TB) (Δ:Evt) (od:OD) (P:OD->Evt->Prop):Prop:=∀(G1 H1:Hp) (acc:Addr) (o:HO) (G H:Hp) (σ:St) (N:St->Hp->Prop),H1 acc=none->OwnRep K G o od->Ok K (gInO G1 H1 acc o) G H σ Δ →
 (∀o' od' σ' G' H' Δ',Ok K (gInO G1 H1 acc o') G' H' σ' Δ' -> Same G G' -> OwnRep K G' o' od' -> P od' Δ' -> N σ' H')->tem acc σ H N
theorem Zm4 {wi:TI}{g2:TG}{tem:Addr->TB}{od:OD}{P:OD->Evt->Prop}(h:JI K wi Δ λes Δ4=>∃I2:Nat->OD->Evt->Prop,I2 0 od Δ4 ∧
   (∀j e od2 Δ5,es[j]?=some e->I2 j od2 Δ5->JG K g2 e Δ5 λΔ6=>JB K tem Δ6 od2 λod3 Δ8=>I2 (j+1) od3 Δ8)/\∀od2 Δ5,I2 es.length od2 Δ5->P od2 Δ5):JB K (λacc=>tLoop wi g2 (tem acc)) Δ od P:=λG1 H1 acc o G H σ N hacc ra k c=>
 h _ G H σ _ k λJ es G5 H5 Δ5 k5 s5 it ⟨I2,i0,i1,i2⟩=>by
  refine⟨λj m σ' H'=>m=es.length-j/\j<=es.length/\∃G6 o6 od6 Δ6,OwnRep K G6 o6 od6/\Ok K (gInO G1 H1 acc o6) G6 H' σ' Δ6/\Same G5 G6/\I2 j od6 Δ6,⟨es.length,by simp,Wbx _,G5,o,od,_,ra.mono s5,k5,Same.refl _,i0⟩,?_⟩;rintro j m σ6 H6 ⟨rfl,hj,G6,o6,od6,Δ6,r6,k6,s6,h6⟩;obtain⟨stop2,go2⟩:=it G6 H6 s6 k6.live;by_cases hjt:j<es.length
  ·obtain⟨c1,c2⟩:=go2 j _ (Wab hjt)
   refine .inr ⟨c1,λσ' H'=>∃G7 o7 od7 Δ7,OwnRep K G7 o7 od7/\Ok K (gInO G1 H1 acc o7) G7 H' σ' Δ7/\Same G5 G7/\I2 (j+1) od7 Δ7,λσ' H' p'=>⟨es.length-(j+1),by omega,rfl,hjt,p'⟩,λx2 H7 y2=>?_⟩;obtain⟨G7,d1,d2,d3,d4⟩:=c2 x2 H7 y2;have k7:=k6.grow d1 d2 d3;refine i1 j _ od6 Δ6 (Wab hjt) h6 _ G7 H7 σ6 x2 _ k7 d4 λσ8 G8 H8 Δ8 k8 s8 p8=>?_;exact p8 G1 H1 acc o6 G8 H8 σ8 _ hacc (r6.mono<|d1.trans s8) k8 λo9 od9 σ9 G9 H9 Δ9 k9 s9 r9 p9=>⟨G9,o9,od9,Δ9,r9,k9,s6.trans<|d1.trans<|s8.trans s9,p9⟩
  ·have e:j=es.length:=by omega
   subst e;exact .inl ⟨stop2,c o6 od6 σ6 G6 H6 Δ6 k6 (s5.trans s6) r6<|i2 od6 Δ6 h6⟩
theorem Zsm {te:TE}{ds:List D}{P:OD->Evt->Prop}(h:JE K te Δ λd Δ1=>ds.length<sizeLine/\P (.lst<|ds++[d]) Δ1):JB K (tAppL te) Δ (.lst ds) P:=λG1 H1 acc o G H σ N hacc ra k c=>
 h _ G H σ _ k λy d Ga Ha Δa ka sa r ⟨hl,p⟩=>by
  cases o with
  |lst vs=>
   have ra':Reps K Ga vs ds:=Reps.mono sa ra;obtain⟨w1,w2,w3⟩:=Zdx ka;exact⟨vs,w1,by rw[ra'.length];exact hl,c _ _ σ Ga _ Δa (Zge hacc ka) sa (show OwnRep K Ga (.lst<|vs++[y]) (.lst<|ds++[d]) from Reps.append ra' (.cons r .nil)) p⟩
  |_=>exact absurd ra (λz=>z)
def valT (kvs:List (List Key × D)) (k:List Key):Option D:=(kvs.find? λkv=>decide (kv.1=k)).map (·.2)
def putT (kvs:List (List Key × D)) (k:List Key) (v:D):List (List Key × D):=if (kvs.any λkv=>decide (kv.1=k))=true then kvs.map (λkv=>if kv.1=k then (kv.1,v) else kv) else kvs++[(k,v)]
def KTD (K:W.Frag) (G:Hp):List (List Key × V)->List (List Key × D)->Prop:=Paired λ(p:List Key × V) (q:List Key × D)=>p.1=q.1/\Rep K G p.2 q.2
theorem Zob {G:Hp}{k:List Key}{z:V}{d:D}(rz:Rep K G z d):∀{kvs:List (List Key × V)}{kds:List (List Key × D)},KTD K G kvs kds->Rep K G ((valV kvs k).getD z) ((valT kds k).getD d)
 |_,_,.nil=>rz
 | (k1,v1)::kvs,(k2,d2)::kds,.cons ⟨e,r⟩ t=>by
  have e:k1=k2:=e;subst e;by_cases hk:k1=k
  ·subst hk
   rw[Ze8 (p:=(k1,v1)) rfl,show valT ((k1,d2)::kds) k1=some d2 by simp[valT,Wbq]];exact r
  ·rw[Zfk (p:=(k1,v1)) hk,show valT ((k1,d2)::kds) k=valT kds k by simp[valT,Wbq,hk]]
   exact Zob rz t
theorem Zpz {G:Hp}{k:List Key}:∀{kvs:List (List Key × V)}{kds:List (List Key × D)},KTD K G kvs kds->(kvs.any λkv=>decide (kv.1=k))=kds.any λkv=>decide (kv.1=k)
 |_,_,.nil=>rfl
 |_::_,_::_,.cons ⟨e,_⟩ t=>by
  rw[Wcr,Wcr,Zpz t,e]
theorem Zp9 {G:Hp}{k:List Key}{v:V}{d:D}(rv:Rep K G v d):∀{kvs:List (List Key × V)}{kds:List (List Key × D)},KTD K G kvs kds->KTD K G (kvs.map λkv=>if kv.1=k then (kv.1,v) else kv) (kds.map λkv=>if kv.1=k then (kv.1,d) else kv)
 |_,_,.nil=>.nil
 |p::_,q::_,.cons ⟨e,r⟩ t=>by
  refine .cons ?_<|Zp9 rv t;dsimp only;by_cases hk:p.1=k
  ·rw[if_pos hk,if_pos (e ▸ hk)];exact⟨e,rv⟩
  ·rw[if_neg hk,if_neg (e ▸ hk)];exact⟨e,r⟩
theorem Zui {G:Hp}{k:List Key}{v:V}{d:D}{kvs:List (List Key × V)}{kds:List (List Key × D)}(rv:Rep K G v d) (h:KTD K G kvs kds):KTD K G (putK kvs k v) (putT kds k d):=by
 unfold putK putT;rw[Zpz h];split
 ·exact Zp9 rv h
 ·exact Paired.snoc h ⟨rfl,rv⟩
theorem Zjg (ks:List Int):((ks.map Sum.inl:List Key).map kV)=ks.map V.int:=by rw[Wal];rfl
theorem Zpa {tk tv:TE}{kvs:List (List Key × D)}{P:OD->Evt->Prop}(h:JE K tk Δ λkd Δ1=>∃ks:List Int,kd=.tup (ks.map D.int)/\JE K tv Δ1 λvd Δ2=>kvs.length<sizeLine/\P (.dtt<|putT kvs (ks.map .inl) vd) Δ2):JB K (tPutT tk tv) Δ (.dtt kvs) P:=λG1 H1 acc o G H σ N hacc ra k c=>
 h _ G H σ _ k λx kd Ga Ha Δa ka sa r ⟨ks,ek,h2⟩=>by
  subst ek;refine h2 _ Ga Ha σ _ ka λy vd Gb Hb Δb kb sb rv ⟨hl,p⟩=>?_;obtain⟨b,vs,rfl,hb,rs⟩:=(r.mono sb).inv;have ev:=rs.ints;subst ev;cases o with
  |dT kv=>
   have ra':KTD K Gb kv kvs:=OwnRep.mono (o:=.dT kv) (od:=.dtt kvs) (sa.trans sb) ra;obtain⟨w1,w2,w3⟩:=Zdx kb;exact⟨kv,ks.map .inl,b,rfl,by rw[Zjg];exact kb.live _ _ hb,w1,by rw[Paired.length ra'];exact hl,c _ _ σ Gb _ Δb (Zge hacc kb) (sa.trans sb) (show OwnRep K Gb (.dT _) (.dtt _) from Zui rv ra') p⟩
  |_=>exact absurd ra (λz=>z)
theorem Zgc {n:Nat}{sel:List Nat}{wi1:TI}{g1:TG}{ho:HO}{od0:OD}{tem:Addr->TB}{Po:OD->Evt->Prop}(h00:∀G,OwnRep K G ho od0)
  (h:JI K wi1 Δ λds Δ1=>(∀i∈sel,∃d,Δ1[i]?=some (.val d))/\∃I:Nat->OD->Evt->Prop,I 0 od0 (compD n sel Δ1) ∧
   (∀i d od Δ2,ds[i]?=some d->I i od Δ2->JG K g1 d Δ2 λΔ3=>JB K tem Δ3 od λod' Δ4=>I (i+1) od' Δ4) ∧
   ∀od Δ2,I ds.length od Δ2->Po od Δ1):JO K (tCompG n sel wi1 g1 ho tem) Δ Po:=λg G H σ Q k c=>
 h g G H σ _ k λJ ds G1 H1 Δ1 k1 s1 it ⟨hval,I,h0,ht,he⟩ acc hacc=>by
  have hGa:G1 acc=none:=by
   cases e:G1 acc with
   |none=>rfl
   |some u=>rw[k1.live _ _ e]at hacc;cases hacc
  have noOd:∀(i:Nat) x od,(compD n sel Δ1)[i]?=some x->x.od=some od->False:=λi x od e1 e2=>by
   rcases Zb7 e1 with z|⟨j,i',ei,ej,z⟩
   ·subst z;cases e2
   ·obtain⟨d,hd⟩:=hval i' (Wai ej)
    rw[hd]at z;cases z;cases e2
  refine⟨λi m σ' H'=>m=ds.length-i/\i<=ds.length/\∃G2 o2 od2 Δ2,OwnRep K G2 o2 od2/\Ok K (gInO G1 H1 acc o2) G2 H' σ' Δ2/\Same G1 G2/\I i od2 Δ2,⟨ds.length,by simp,Wbx _,G1,ho,od0,_,h00 _,?_,Same.refl _,h0⟩,?_⟩
  ·refine⟨λb o hb e=>?_,λb hb=>hb.elim,Same.refl _,λb o e=>⟨?_,.inr e⟩,λb o e=>?_,?_,λi d e=>?_,λi x od e1 e2=>(noOd i x od e1 e2).elim,λi j x y od od' a e1 e2=>(noOd i x od e1 e2).elim⟩
   ·have e:H1 b=some o:=e
    rw[Zan (Zap e hacc)];exact e
   ·rw[Zan (Zap e hGa)];exact k1.live b o e
   ·have e:(if b=acc then some ho else none)=some o:=e
    by_cases hb:b=acc
    ·rw[if_pos hb]at e;cases e;subst hb
     exact⟨Zat,hGa,λi x od e1 e2=>(noOd i x od e1 e2).elim⟩
    ·rw[if_neg hb]at e;cases e
   ·unfold compD compSt;simp
   ·rcases Zb7 e with z|⟨j,i',ei,ej,z⟩
    ·cases z
    ·subst ei
     obtain⟨v,w1,w2⟩:=k1.val i' d z;exact⟨v,by rw[Zc0 ej,w1];rfl,w2⟩
  ·rintro i m σ2 H2 ⟨rfl,hi,G2,o2,od2,Δ2,r2,k2,s2,h2⟩
   obtain⟨stop,go⟩:=it G2 H2 s2 k2.live;by_cases hlt:i<ds.length
   ·obtain⟨a1,a2⟩:=go i _ (Wab hlt)
    refine .inr ⟨a1,λσ' H'=>∃G3 o3 od3 Δ3,OwnRep K G3 o3 od3/\Ok K (gInO G1 H1 acc o3) G3 H' σ' Δ3/\Same G1 G3/\I (i+1) od3 Δ3,λσ' H' p'=>⟨ds.length-(i+1),by omega,rfl,hlt,p'⟩,λx H3 y=>?_⟩;obtain⟨G3,b1,b2,b3,b4⟩:=a2 x H3 y;have k3:=k2.grow b1 b2 b3;refine ht i _ od2 Δ2 (Wab hlt) h2 _ G3 H3 σ2 x _ k3 b4 λσ4 G4 H4 Δ4 k4 s4 p4=>?_;exact p4 G1 H1 acc o2 G4 H4 σ4 _ hacc (r2.mono<|b1.trans s4) k4 λo9 od9 σ9 G9 H9 Δ9 k9 s9 r9 p9=>⟨G9,o9,od9,Δ9,r9,k9,s2.trans<|b1.trans<|s4.trans s9,p9⟩
   ·have e:i=ds.length:=by omega
    subst e;obtain⟨w1,w2,w3⟩:=Zdx k2;refine .inl ⟨stop,?_⟩;have k9:Ok K g G2 H2 σ Δ1:=k1.grow s2 (λb o e=>k2.same b o (λz=>z) e) λb o e=>by
     obtain⟨f1,f2⟩:=k2.frz b o e;exact⟨f1,f2.symm⟩
    refine c acc _ G2 H2 Δ1 k9 (s1.trans s2) ⟨o2,w1,r2,w2,k1.there hacc,?_,λi x od e1 e2 e3=>?_⟩<|he od2 Δ2 h2
    ·cases q:g.Xo acc with
     |none=>rfl
     |some u=>have z:=(k1.ext acc u q).1;rw[hacc]at z;cases z
    ·obtain⟨a,oo,v1,v2,_⟩:=k1.own i x od e1 e2
     rw[e3]at v1;cases v1;rw[hacc]at v2;cases v2
theorem Zuu {tk tv:TE}{kvs:List (Key × D)}{P:OD->Evt->Prop}(h:JE K tk Δ λkd Δ1=>JE K tv Δ1 λvd Δ2=>∃ki:Int,kd=.int ki/\kvs.length<sizeLine/\P (.dct<|putD kvs (.inl ki) vd) Δ2):JB K (tPutK tk tv) Δ (.dct kvs) P:=λG1 H1 acc o G H σ N hacc ra k c=>
 h _ G H σ _ k λx kd Ga Ha Δa ka sa r h2=>h2 _ Ga Ha σ _ ka λy vd Gb Hb Δb kb sb rv ⟨ki,ek,hl,p⟩=>by
  subst ek;cases r.inv;cases o with
  |dK kv=>
   have ra':KD K Gb kv kvs:=OwnRep.mono (o:=.dK kv) (od:=.dct kvs) (sa.trans sb) ra;obtain⟨w1,w2,w3⟩:=Zdx kb;exact⟨kv,.inl ki,rfl,w1,by rw[ra'.len];exact hl,c _ _ σ Gb _ Δb (Zge hacc kb) (sa.trans sb) (show OwnRep K Gb (.dK _) (.dct _) from Zpi rv ra') p⟩
  |_=>exact absurd ra (λz=>z)
theorem Zm9 {n:Nat}{sel:List Nat}{wi1 wi2:TI}{g1 g2:TG}{tk tv:TE}{Po:OD->Evt->Prop}
  (h:JI K wi1 Δ λds Δ1=>(∀i∈sel,∃d,Δ1[i]?=some (.val d))/\∃I:Nat->List (Key × D)->Evt->Prop,I 0 [] (compD n sel Δ1) ∧
   (∀i d kvs Δ2,ds[i]?=some d->I i kvs Δ2->JG K g1 d Δ2 λΔ3=>JI K wi2 Δ3 λes Δ4=>∃I2:Nat->List (Key × D)->Evt->Prop,I2 0 kvs Δ4 ∧
    (∀j e kvs2 Δ5,es[j]?=some e->I2 j kvs2 Δ5->JG K g2 e Δ5 λΔ6=>JE K tk Δ6 λkd Δ7=>JE K tv Δ7 λvd Δ8=>∃ki:Int,kd=.int ki/\kvs2.length<sizeLine/\I2 (j+1) (putD kvs2 (.inl ki) vd) Δ8) ∧
    ∀kvs2 Δ5,I2 es.length kvs2 Δ5->I (i+1) kvs2 Δ5) ∧
   ∀kvs Δ2,I ds.length kvs Δ2->Po (.dct kvs) Δ1):JO K (tComp2 n sel wi1 g1 wi2 g2 (.dK []) (tPutK tk tv)) Δ Po:=
 show JO K (tCompG n sel wi1 g1 (.dK []) λacc=>tLoop wi2 g2 (tPutK tk tv acc)) Δ Po from Zgc (od0:=.dct []) (λ_=>.nil) λg G H σ R k c=>h g G H σ R k λJ ds G' H' Δ' k' s' it ⟨hv,I,h0,ht,he⟩=>c J ds G' H' Δ' k' s' it ⟨hv,λi od Δ=>∃kvs,od=.dct kvs/\I i kvs Δ,⟨[],rfl,h0⟩,by
  rintro i d od Δ2 hd ⟨kvs,rfl,hI⟩ g2' G2 H2 σ2 v R2 k2 r2 c2;refine ht i d kvs Δ2 hd hI g2' G2 H2 σ2 v R2 k2 r2 λσ3 G3 H3 Δ3 k3 s3 p3=>c2 σ3 G3 H3 Δ3 k3 s3 (Zm4 λg4 G4 H4 σ4 R4 k4 c4=>p3 g4 G4 H4 σ4 R4 k4 λJ5 es G5 H5 Δ5 k5 s5 it5 ⟨I2,i0,i1,i2⟩=>c4 J5 es G5 H5 Δ5 k5 s5 it5 ⟨λj od Δ=>∃kvs,od=.dct kvs/\I2 j kvs Δ,⟨kvs,rfl,i0⟩,?_,?_⟩)
  ·rintro j e od2 Δ6 he2 ⟨kvs2,rfl,hI2⟩ g6 G6 H6 σ6 v6 R6 k6 r6 c6
   exact i1 j e kvs2 Δ6 he2 hI2 g6 G6 H6 σ6 v6 R6 k6 r6 λσ7 G7 H7 Δ7 k7 s7 p7=>c6 σ7 G7 H7 Δ7 k7 s7 (Zuu λg8 G8 H8 σ8 Q8 k8 c8=>p7 g8 G8 H8 σ8 Q8 k8 λv9 d9 G9 H9 Δ9 k9 s9 r9 p9=>c8 v9 d9 G9 H9 Δ9 k9 s9 r9 λga Ga Ha σa Qa kka ca=>p9 ga Ga Ha σa Qa kka λvb db Gb Hb Δb kb sb rb ⟨ki,e1,e2,e3⟩=>ca vb db Gb Hb Δb kb sb rb ⟨ki,e1,e2,_,rfl,e3⟩)
  ·rintro od2 Δ6 ⟨kvs2,rfl,hI2⟩
   exact⟨kvs2,rfl,i2 kvs2 Δ6 hI2⟩,by
  rintro od Δ2 ⟨kvs,rfl,hI⟩;exact he kvs Δ2 hI⟩
theorem Zpl {P:D->Evt->Prop}{n:Nat}{te tx:TE}{x:Slot}{kvs0:List (List Key × D)}(hx:Δ[n]?=some x) (ho:x.od=some (.dtt kvs0)) (h:JE K te Δ λe Δ1=>JE K tx Δ1 λz Δ2=>∃(y:Slot) (kvs:List (List Key × D)) (ks:List Int),Δ2[n]?=some y/\y.od=some (.dtt kvs)/\e=.tup (ks.map D.int)/\P ((valT kvs<|ks.map .inl).getD z) Δ2) :
  JE K (tBM K "dict" rGetT (tVar n)<|tCons te<|tCons tx tNil) Δ P:=λg G H σ Q k c=>by
 obtain⟨a,o,h1,h2,h3,h4,h5⟩:=k.own n x _ hx ho;cases o with
 |dT vs0=>
  refine⟨.ref a,h1,.inr (.inr (.inl ⟨rfl,.inr ⟨_,h2⟩⟩)),h g G H σ _ k λv e G1 H1 Δ1 k1 s1 r1 p1=>p1 g G1 H1 σ _ k1 λz dz G2 H2 Δ2 k2 s2 r2 ⟨y,kvs,ks,q1,q2,q3,p⟩=>?_⟩;subst q3;obtain⟨b,vs,rfl,hb,rs⟩:=(r1.mono s2).inv;have ev:=rs.ints;subst ev;obtain⟨a',o',w1,w2,w3,w4,w5⟩:=k2.own n y _ q1 q2;rw[h1]at w1;cases w1;cases o' with
  |dT kv=>exact⟨a,b,z,kv,ks.map .inl,rfl,rfl,w2,by rw[Zjg];exact k2.live _ _ hb,c _ _ G2 H2 Δ2 k2 (s1.trans s2) (Zob r2 w3) p⟩
  |_=>exact absurd w3 (λz=>z)
 |_=>exact absurd h3 (λz=>z)
end
theorem Zk5 (kvs:List (List Key × D)) (k j:List Key) (v:D):valT (putT kvs k v) j=if j=k then some v else valT kvs j:=by
 unfold putT;split
 ·next a=>
  induction kvs with
  |nil=>cases a
  |cons p r ih=>
   by_cases hp:p.1=k
   ·by_cases hj:j=k
    ·rw[if_pos hj,Wa1,if_pos hp]
     simp[valT,Wbq,hp,hj]
    ·rw[if_neg hj,Wa1,if_pos hp]
     have:∀l:List (List Key × D),valT (l.map λkv=>if kv.1=k then (kv.1,v) else kv) j=valT l j:=λl=>by
      induction l with
      |nil=>rfl
      |cons q l ih=>
       rw[Wa1];by_cases hq:q.1=k
       ·have h':¬ k=j:=λz=>hj z.symm
        rw[if_pos hq];simp only[valT,Wbq,hq,decide_eq_false h']at ih ⊢;exact ih
       ·rw[if_neg hq]
        by_cases hqj:q.1=j
        ·simp[valT,Wbq,hqj]
        ·simp only[valT,Wbq,decide_eq_false hqj]at ih ⊢
         exact ih
     have h':¬ k=j:=λz=>hj z.symm;have e1:=this r;simp only[valT,Wbq,hp,decide_eq_false h']at e1 ⊢;exact e1
   ·have a:(r.any λkv=>decide (kv.1=k))=true:=by simpa [Wcr,hp] using a
    have ih:=ih a;rw[Wa1,if_neg hp];by_cases hj:p.1=j
    ·have h':¬ j=k:=λz=>hp (hj.trans z)
     rw[if_neg h'];simp[valT,Wbq,hj]
    ·simp only[valT,Wbq,decide_eq_false hj]at ih ⊢
     exact ih
 ·next a=>
  have hno:valT kvs k=none:=by
   unfold valT;cases e:kvs.find? λkv=>decide (kv.1=k) with
   |none=>rfl
   |some p=>exact absurd (Wef.mpr ⟨p,Wdq e,List.find?_some e⟩) a
  unfold valT at hno ⊢;rw[Wea];by_cases hj:j=k
  ·subst hj
   rw[if_pos rfl];cases e:kvs.find? λkv=>decide (kv.1=j) with
   |none=>simp
   |some p=>rw[e]at hno;cases hno
  ·rw[if_neg hj]
   cases e:kvs.find? λkv=>decide (kv.1=j) with
   |some p=>rfl
   |none=>
    have h':¬ k=j:=λz=>hj z.symm;simp[Wbq,h']
theorem Zlf (kvs:List (List Key × D)) (k:List Key) (v:D):(putT kvs k v).length<=kvs.length+1:=by
 unfold putT;split
 ·rw[Waa];omega
 ·rw[Waj,Wan,Wdx];omega
def SqX (K:W.Frag) (H:Hp) (t:Bool) (a:Addr) (z:List V):Prop:=if t=true then SqL K H a z else SqT K H a z
def rCount0 (K:W.Frag):V->List V->Hp->VK->Prop:=λx vs H Q=>∃(l b:Addr) (t:Bool) (xs:List V) (zs:List (List V)),x=.ref l/\vs=[.ref b]/\SqL K H l xs/\Paired (λ(x:V) (z:List V)=>∃a,x=.ref a/\SqX K H t a z) xs zs/\SqX K H t b []/\Q (.int (zs.countP (·.isEmpty):Nat)) H
def bareAt (h:Heap):Value->Bool
 |.ref a=>match h.get? a with
  |some o=>match o.data with
   |.seq items _=>items.isEmpty
   |_=>false
  |none=>false
 |_=>false
theorem Zk2 {X:Cx}{pins:List (Addr × Obj)}{σ:St}{H:Hp}{s:Shared}{t:Bool}{a b:Addr}{z:List V}(I:Inv X pins σ H s) (hv:X.A.units+8<cLine) (ha:SqX X.K H t a z) (hb:SqX X.K H t b []):bareAt s.heap (.ref a)=z.isEmpty/\EqAt X.A.in1 s (.ref a) (.ref b) z.isEmpty:=by
 have hu:X.A.in1.units<cLine:=by show X.A.units+1<cLine;omega
 cases t with
 |true=>
  have ha:SqL X.K H a z:=ha;obtain⟨its,w1,p1,_⟩:=I.list ha;obtain⟨its2,w2,p2,_⟩:=I.list (show SqL X.K H b [] from hb);cases w2;refine⟨?_,?_⟩
  ·obtain⟨o,e,_,n,d⟩:=p1.isList
   show (match s.heap.get? a with|some o=>(match o.data with|.seq items _=>items.isEmpty|_=>false)|none=>false)=_;rw[e];dsimp only;rw[d];cases w1 <;> rfl
  ·by_cases hab:a=b
   ·subst hab
    rw[I.list_inj ha hb];exact EqAt.same _
   ·refine EqAt.of_refs hab ?_
    cases w1 with
    |nil=>exact RcAt.lists (e:=λ_=>true) p1.isList p2.isList rfl hu (λj _ z=>absurd z (by simp))
    |cons r t=>exact RcAt.lists_lengths p1.isList p2.isList (by simp) hu
 |false=>
  have ha:SqT X.K H a z:=ha;obtain⟨its,w1,p1,_⟩:=I.tuple ha;obtain⟨its2,w2,p2,_⟩:=I.tuple (show SqT X.K H b [] from hb);cases w2;refine⟨?_,?_⟩
  ·obtain⟨o,e,_,n,d⟩:=p1
   show (match s.heap.get? a with|some o=>(match o.data with|.seq items _=>items.isEmpty|_=>false)|none=>false)=_;rw[e];dsimp only;rw[d];cases w1 <;> rfl
  ·by_cases hab:a=b
   ·subst hab
    rw[I.tuple_inj ha hb];exact EqAt.same _
   ·refine EqAt.of_refs hab ?_
    have r:=RcAt.tuples (s:=s) (e:=λ_=>true) p1 p2 hu (λj _ z=>absurd z<|by simp);cases w1 with
    |nil=>exact r
    |cons _ _=>simpa using r
theorem count0K {X:Cx}(K:W.Frag) (hv:X.A.units+8<cLine) (hK:X.K=K:=by rfl):MtM X "list.count" (rCount0 K):=by
 subst hK;intro pins s σ H x vs v us Q I rx rv h;obtain⟨l,b,t,xs,zs,rfl,rfl,hl,hp,hb,q⟩:=h;cases rx;obtain⟨u,rfl,ru⟩:=rv.one;cases ru;obtain⟨its,w1,pl,hz⟩:=I.list hl;obtain⟨⟨cls,dd,data,sl⟩,ho,hc,m,hd⟩:=pl.isList;simp only at hc hd;subst hc hd;have key:∀{xs:List V}{its:List Value}{zs:List (List V)},Vals xs its->Paired (λ(x:V) (z:List V)=>∃a,x=.ref a/\SqX X.K H t a z) xs zs->(∀w∈its,EqAt X.A.in1 s w (.ref b) (bareAt s.heap w))/\its.countP (bareAt s.heap)=zs.countP (·.isEmpty):=by
  intro xs its zs w p
  induction w generalizing zs with
  |nil=>cases p;exact⟨λw hw=>(nomatch hw),rfl⟩
  |cons r t ih=>
   cases p with
   |cons hx t2=>
    obtain⟨a,rfl,ha⟩:=hx;cases r;obtain⟨e1,e2⟩:=Zk2 I hv ha hb;obtain⟨i1,i2⟩:=ih t2;refine⟨λw hw=>?_,by rw[Wcb,Wcb,i2,e1]⟩;rcases Wap.mp hw with z|z
    ·rw[z,e1];exact e2
    ·exact i1 w z
 obtain⟨hf1,hf2⟩:=key w1 hp;refine call_meets PySem.F.slot_list_count ⟨_,ho,rfl⟩ PySem.F.entry_list_count (PySem.F.args_list_count_2 _ _) (list_countAt l its.toArray m dd sl (.ref b)<|bareAt s.heap) ⟨ho,λy hy=>hf1 y (by simpa using hy),?_⟩;rw[show its.toArray.toList=its from rfl,hf2];exact⟨.int _,H,I.tok _,⟨_,rfl⟩,q⟩
def kindD:Bool->List D->D
 |true,ds=>.lst ds
 |false,ds=>.tup ds
theorem Zed {K:W.Frag}{Δ:Evt}{P:D->Evt->Prop}{to te:TE}(t:Bool) (h:JE K to Δ λd Δ1=>∃zs:List (List D),d=.lst (zs.map<|kindD t)/\JE K te Δ1 λe Δ2=>e=kindD t []/\P (.int (zs.countP (·.isEmpty):Nat)) Δ2) :
  JE K (tBM K "list" (rCount0 K) to<|tCons te tNil) Δ P:=λg G H σ Q k c=>
 h g G H σ _ k λv d G1 H1 Δ1 k1 s1 r1 ⟨zs,ed,p1⟩=>by
  subst ed;obtain⟨l,vs,rfl,hl,rs⟩:=r1.inv;refine⟨.inl ⟨rfl,_,SqL.of<|k1.live _ _ hl⟩,p1 g G1 H1 σ _ k1 λu e G2 H2 Δ2 k2 s2 r2 ⟨ee,p2⟩=>?_⟩;subst ee;have key:∀{vs:List V}{zs:List (List D)},Reps K G2 vs (zs.map<|kindD t)->∃ws:List (List V),Paired (λ(x:V) (z:List V)=>∃a,x=.ref a/\SqX K H2 t a z) vs ws/\ws.countP (·.isEmpty)=zs.countP (·.isEmpty):=by
   intro vs zs r
   induction zs generalizing vs with
   |nil=>cases r;exact⟨[],.nil,rfl⟩
   |cons z zs ih=>
    cases r with
    |cons ra rb=>
     obtain⟨ws,i1,i2⟩:=ih rb;cases t with
     |true=>
      obtain⟨a,us,rfl,ha,ru⟩:=ra.inv;exact⟨us::ws,.cons ⟨a,rfl,SqL.of<|k2.live _ _ ha⟩ i1,by rw[Wcb,Wcb,i2,ru.isEmpty]⟩
     |false=>
      obtain⟨a,us,rfl,ha,ru⟩:=ra.inv;exact⟨us::ws,.cons ⟨a,rfl,SqT.of<|k2.live _ _ ha⟩ i1,by rw[Wcb,Wcb,i2,ru.isEmpty]⟩
  obtain⟨ws,i1,i2⟩:=key<|rs.mono s2;have hb:∃b,u=.ref b/\SqX K H2 t b []:=by
   cases t with
   |true=>obtain⟨b,us,rfl,hb,ru⟩:=r2.inv;cases ru.inv;exact⟨b,rfl,SqL.of (k2.live _ _ hb)⟩
   |false=>obtain⟨b,us,rfl,hb,ru⟩:=r2.inv;cases ru.inv;exact⟨b,rfl,SqT.of (k2.live _ _ hb)⟩
  obtain⟨b,rfl,hb⟩:=hb;refine⟨l,b,t,vs,ws,rfl,rfl,SqL.of<|k2.live _ _<|s2 _ _ hl,i1,hb,?_⟩;rw[i2];exact c _ _ G2 H2 Δ2 k2 (s1.trans s2) (.int _) p2
def tTry1 (K:W.Frag) (FE:Addr) (i j:Nat) (sp:Sp) (ta:TA) (th:Addr->TS):TS:=λD σ H=>ta σ H λvs H0=>∃E:XK,sp vs H0 (λv H'=>D.nx (σ.set j<|some v) H') E/\∀C H1,E (.ref C) none H1->(ExcC K C/\PySem.W.mroIn K C (.ref FE)=some true) ∧
 ∀a,H1 a=none->th a ⟨λσ' H'=>D.nx (σ'.set i none) H',D.rt,λσ' H'=>D.bk (σ'.set i none) H',λσ' H'=>D.ct (σ'.set i none) H'⟩ (σ.set i<|some (.ref a)) (upd H1 a (.ext<|InsC a C))
section
variable {X:Cx}{x y z fx:Str}{FE:Addr}{np hpos pos zp p cp sps:Pos}{b0:Stmt}{hb:List Stmt}{i j k:Nat}{ps:List Str}{sp:Sp}{e:Expr}{es:List Expr}{t:TA}{th:Addr->TS}
theorem Zux (nd:X.N.Nodup) (hi:X.N[i]?=some y) (hj:X.N[j]?=some z) (hk:X.env.scope.names.lookup y=some .local) (hz:Loc X.env.scope z) (hex:X.ex=[]) (hst:X.stack=X.env::X.outer) (hf:X.env.frame=some X.env.locals) (hg:Gl X x) (hm:X.mg x=some (.ref FE)) (cF:ExcC X.K FE)
  (C:CalleeX X.prog X.w X.K X.mg X.base k fx ps sp) (hr:Room k X.A) (ha:∀(pn:List (Addr × Obj)) (xe:Value->Shared->Prop),PA (XT X pn xe) (e::es) t) (hh:∀a,PSs (XC X a) (b0::hb) (th a))
  (hgf:Gl X fx:=by rfl) (hs:swapsWith (.Call (.Name fx p) (e::es) [] cp) (some (.Name z zp)) sps.line X.env=pure false:=by rfl) (hfz:X.fn z=true\/X.env.scope.names.lookup z=some .local:=by exact .inr rfl) (hfn:X.fn y=true\/X.env.scope.names.lookup y=some .local:=by exact .inr rfl)
  (hdb:(x == ("__debug__":Str))=false:=by decide) (hdf:(fx == ("__debug__":Str))=false:=by decide) (he:starEach (e::es) X.env=(false,eval e X.env)::starEach es X.env:=by rfl) (hpl:(backTo cp<|starEach es X.env).any (·.1)=false:=by rfl) :
  PS X (.Try [.Assign [.Name z zp] (.Call (.Name fx p) (e::es) [] cp) sps] [.ExceptHandler (some (.Name x np)) (some y) (b0::hb) hpos] [] [] pos) (tTry1 X.K FE i j sp t th):=by
 intro pins s σ H D I h;obtain⟨fa,fd,F,b,kp,m⟩:=C.ex;refine wpAny_Try_except ?_
 -- what an exception meets
 let xe:Value->Shared->Prop:=λe s1=>wpAny (model X.prog X.w) X.A (noteFrame e X.env) (λ_ s2=>wpAny (model X.prog X.w) X.A (setFlight e none) (λ_ s3=>wpAny (model X.prog X.w) X.A (handleBy e X.env [.ExceptHandler (some (.Name x np)) (some y) (b0::hb) hpos]) (SP X pins D) X.xe s3) X.xe s2) X.xe s1
 have J0:Inv (XT X (X.pn++pins) xe) [] σ H s:=I.into;have body:wpAny (model X.prog X.w) X.A (execs [.Assign [.Name z zp] (.Call (.Name fx p) (e::es) [] cp) sps] X.env) (SP X pins D) xe s:=by
  refine wpAny_execs_cons ?_;have st:wpAny (model X.prog X.w) X.A (exec (.Assign [.Name z zp] (.Call (.Name fx p) (e::es) [] cp) sps) X.env) (SP X pins D) xe s:=by
   refine wpAny_Assign_Name (Q:=SP X pins D) ?_ hs;refine wpAny_Call_Name_kw<|Zfz (X:=XT X (X.pn++pins) xe) J0 hgf m ?_ hdf;refine PySem.W.callWith_K (h₀:=X.base) I.ok.mod.kin kp (thn (ha (X.pn++pins) xe cp [] s σ H _ J0 h) λus s1 ⟨vs,H1,I1,r,E,q,hE⟩=>⟨I1.kIn,?_⟩) he hpl;have hl:us.length=ps.length:=by rw[<- r.length];exact F.len _ _ _ _ q
   have bd:=b s1 us I1.kIn (by rw[Wa3];exact hl);rw[Wa3]at bd;refine wpAny_call (codeAny_mono (F.run X.A X.stack s1 H1 ⟨us,[]⟩ us vs _ E hr I1.env0 bd r q) λr s2 hq=>?_);cases r with
   |ok fl=>
    cases fl with
    |ret u=>
     obtain⟨v,H2,I2,r2,q2⟩:=I1.after hq;exact Zek (Inv.outof I.ok I2) nd hj hz r2 (λs3 I3=>⟨_,H2,I3,q2⟩) hfz
    |next=>exact False.elim hq
    |brk=>exact False.elim hq
    |cont=>exact False.elim hq
   |error ev=>
    obtain⟨a,C,T,H2,rfl,os,bare,un,hok,ha2,hsa,hT,hsT,tr,hE'⟩:=hq;have J1:Inv X pins σ H1 s1:=Inv.outof I.ok I1;have J2:Inv X pins σ H2 s2:=J1.call' (ch:=[]) os un hok bare (λb z=>absurd z<|by simp);have na:=(Nw.of J1 hex hsa).at ha2;have nT:=(Nw.of J1 hex hsT).at hT;obtain⟨⟨cC,mC⟩,hth⟩:=hE C H2 hE';refine Zm0 J2 hex hst hf tr na nT λh3 T3 K3 t3 n3=>?_;have inC:∀{h:Heap}{T:Addr},Trc h a C T->InsC a C h:=λq=>by
     obtain⟨oe,vs,oT,ts,q1,q2,q3,_,q4,_⟩:=q;exact⟨oe,vs,q1,q2,q3,q4⟩
    refine wpAny_handleBy_cons (codeAny_handlers_test ?_) (by intro q;cases q);refine Zfz (X:=XC X a) (K3.suite a) hg hm ?_ hdb;refine Zhb (K:=X.K) K3.kIn cF cC mC (inC t3) ?_;refine codeAny_handlers_suite_as ?_;refine Zrk K3 hex t3 na n3 λh4 T4 K4 t4 n4=>?_;have K5:=(K4.held na<|inC t4).suite a;refine Zek (X:=XC X a) (v:=.ref a) K5 nd hi (.inl hk) rfl (λs5 K7=>?_) hfn;refine wpAny_mono (hh a pins s5 _ _ _ K7<|hth a ha2) (λf s6 q=>?_) λ_ _ z=>z.elim;cases f with
    |next=>
     obtain⟨σ',H',K8,q⟩:=q;exact Inv.gone (K8.unsuite I.ok) nd hi hk λs7 K9=>⟨_,H',K9,q⟩
    |brk=>
     obtain⟨σ',H',K8,q⟩:=q;exact Inv.gone (K8.unsuite I.ok) nd hi hk λs7 K9=>⟨_,H',K9,q⟩
    |cont=>
     obtain⟨σ',H',K8,q⟩:=q;exact Inv.gone (K8.unsuite I.ok) nd hi hk λs7 K9=>⟨_,H',K9,q⟩
    |ret u=>
     obtain⟨v,σ',H',K8,r,q⟩:=q;exact Inv.gone (K8.unsuite I.ok) nd hi hk λs7 K9=>⟨v,_,H',K9,r,q⟩
  refine thn st λf s1 q=>?_;cases f with
  |next=>exact wpAny_execs_nil q
  |ret v=>exact q
  |brk=>exact q
  |cont=>exact q
 refine wpAny_mono body (λf s1 hq=>?_) λ_ _ z=>z;cases f with
 |next=>exact wpAny_execs_nil hq
 |brk=>exact hq
 |cont=>exact hq
 |ret u=>exact hq
end
section
variable {K:W.Frag}{Δ:Evt}{nx bk ct:Evt->Prop}{rt:D->Evt->Prop}{ro:OD->Evt->Prop}
theorem Zt3 {FE:Addr}{i j:Nat}{f:XSp}{ta:TA}{th:Addr->TS}(h:JA K ta Δ λds Δ1=>i < Δ1.length/\f ds (λd=>j < Δ1.length/\nx (Δ1.set j (.val d))) λC=>(ExcC K C/\PySem.W.mroIn K C (.ref FE)=some true)/\∀a,JS K (th a) (Δ1.set i (.val (.exc a C))) ⟨λΔ2=>nx (Δ2.set i .any),rt,λΔ2=>bk (Δ2.set i .any),λΔ2=>ct (Δ2.set i .any),ro⟩) :
  JS K (tTry1 K FE i j (spX K f) ta th) Δ ⟨nx,rt,bk,ct,ro⟩:=λg G H σ D k c=>
 h g G H σ _ k λvs ds G1 H1 Δ1 k1 s1 r1 ⟨hi,hf⟩=>by
  refine⟨λv _ H'=>∃C,v=.ref C/\Same H1 H' /\ (ExcC K C/\PySem.W.mroIn K C (.ref FE)=some true)/\∀a,JS K (th a) (Δ1.set i (.val (.exc a C))) ⟨λΔ2=>nx (Δ2.set i .any),rt,λΔ2=>bk (Δ2.set i .any),λΔ2=>ct (Δ2.set i .any),ro⟩,⟨G1,ds,_,_,k1.live,r1,hf,λr H' d sh rr ⟨hj,pd⟩=>?_,λC H' sh x=>⟨C,rfl,sh,x⟩⟩,?_⟩
  ·have sg:=Ze6 (H':=H') k1.live
   exact c.nx _ _ H' _ ((k1.grow sg sh (Zg7 k1.live λb o _ e=>sh b o e)).setVal hj rr) pd
  ·rintro C H2 ⟨C',e,sh,hx,hth⟩
   cases e;refine⟨hx,λa ha=>?_⟩;have k2:Ok K g G1 H2 σ Δ1:=k1.grow (Same.refl _) sh λb o e=>⟨sh b o<|k1.live b o e,.inl e⟩;obtain⟨k3,sg⟩:=k2.laid ha (.ext<|InsC a C);have k4:=k3.setVal (i:=i) hi (.exc Zat);exact hth a g _ _ _ _ k4 ⟨λσ' G' H' Δ' k' p=>c.nx _ G' H' _ (k'.unset i) p,c.rt,λσ' G' H' Δ' k' p=>c.bk _ G' H' _ (k'.unset i) p,λσ' G' H' Δ' k' p=>c.ct _ G' H' _ (k'.unset i) p,c.ro⟩
end
section
variable {K:W.Frag}{Δ:Evt}{P:D->Evt->Prop}
end
end L2
set_option Elab.async false
set_option linter.all false
set_option maxRecDepth 100000
namespace HT
open PySem PyProof.Rows
end HT
namespace L2
open PySem PySem.Spec PyProof.Rows
section
variable {K:W.Frag}{Δ:Evt}{P:D->Evt->Prop}
end
section
variable {prog:Program}{w:World}{A:Around}{R:Result->Shared->Prop}{I:Addr}{fp wr:List Addr}{G:Array GenState->Array GenState->Prop}{n:Nat}{P:Nat->Value->Prop}{St:Nat->Shared->Prop}{K:Type}[DecidableEq K] {knd:KeyKind prog w K}
end
section
variable {X:Cx}
end
end L2
namespace L2
open PySem PySem.Spec PyProof.Rows
section
variable {prog:Program}{w:World}{A:Around}{E:Value->Shared->Prop}{s:Shared}
end
section
variable {K:W.Frag}{Δ:Evt}{P:D->Evt->Prop}
end
end L2
namespace L2
open PySem PySem.Spec PyProof.Rows
open PySem PySem.Spec PyProof.Rows PySem.SeqAt
section
variable {prog:Program}{w:World}{A:Around}{E:Value->Shared->Prop}{s:Shared}
end
section
variable {K:W.Frag}{Δ:Evt}
end
open PySem PySem.Spec PyProof.Rows PySem.SeqAt
section
open PySem.AutoSeq1 (wpAny_loadPart')
open PySem.MeetsSeq PySem.MeetsSeq2 PySem.MeetsSeq3
end
section
variable {prog:Program}{w:World}{A:Around}{R:Result->Shared->Prop}{I:Addr}{fp wr:List Addr}{n:Nat}{P:Nat->Value->Prop}{St:Nat->Heap->Prop}
end
end L2
namespace L2
open PySem PySem.Spec PyProof.Rows PySem.SeqAt
def RowV (K:W.Frag) (H:Hp) (y:V) (r:List Int):Prop:=∃b,y=.ref b/\SqT K H b (r.map V.int)
section
variable {X:Cx}
theorem Zi2 {pins:List (Addr × Obj)}{s:Shared}{σ:St}{H:Hp}(I:Inv X pins σ H s) {y:V}{u:Value}{r:List Int}(ru:RelV y u) (h:RowV X.K H y r):RowAt s.heap u r:=by
 obtain⟨b,rfl,hs⟩:=h;obtain⟨its,w1,p1,_⟩:=I.tuple hs;exact⟨b,its,ru,p1,Zb0 w1⟩
end
open PySem PySem.Spec PyProof.Rows PySem.SeqAt
section
variable {K:W.Frag}{Δ:Evt}{P:D->Evt->Prop}
theorem Zv3 (p:P (.bl true) Δ):JR2 K (λx y H Q=>y=.non/\Q (.bl<|decide (x=.non)) H) .non .non Δ P:=λg G H σ Q u v k rx ry c=>by
 cases rx.inv;cases ry.inv;refine⟨rfl,?_⟩;rw[decide_eq_true rfl];exact c _ _ G H Δ k (Same.refl _) (.bl true) p
theorem Zu0 {ds:List D}(p:P (.bl false) Δ):JR2 K (λx y H Q=>y=.non/\Q (.bl<|decide (x=.non)) H) (.tup ds) .non Δ P:=λg G H σ Q u v k rx ry c=>by
 obtain⟨a,vs,rfl,_,_⟩:=rx.inv;cases ry.inv;refine⟨rfl,?_⟩;rw[decide_eq_false (by intro z;cases z)];exact c _ _ G H Δ k (Same.refl _) (.bl _) p
end
open PySem PySem.Spec PyProof.Rows PySem.SeqAt
section
variable {K:W.Frag}{Δ:Evt}{P:D->Evt->Prop}
end
open PySem PySem.Spec PyProof.Rows PySem.SeqAt
open PySem PySem.Spec PyProof.Rows PySem.SeqAt
section
variable {X:Cx}
end
section
variable {prog:Program}{w:World}{A:Around}{E:Value->Shared->Prop}{s:Shared}
end
section
variable {K:W.Frag}{Δ:Evt}{P:D->Evt->Prop}
theorem Zvo {i:Nat}{ds:List D}{t:TS}{P:Pst}(h:Δ[i]?=some (.own (.lst ds))) (p:JS K t (Δ.set i (.val (.lst ds))) P):JS K t Δ P:=
 JS.conv (λg G H σ k=>by
  obtain⟨a,h1,pd⟩:=k.take h;obtain⟨o,q1,q2,_⟩:=id pd;cases o with
  |lst vs=>
   obtain⟨k2,sg,r⟩:=(k.drop i).freeze pd q1;have k3:=k2.setVal (i:=i) (by simpa using (Wag.mp h).1) r;have e1:σ.set i (some (.ref a)) = σ:=by
    apply Wb3;intro j;by_cases hj:j=i
    ·subst hj;rw[Wau (k.lt h),h1]
    ·rw[Waw (Ne.symm hj)]
   rw[e1,List.set_set]at k3;exact⟨_,sg,k3⟩
  |_=>exact absurd q2 (λz=>z)) p
end
open PySem PySem.Spec PyProof.Rows PySem.SeqAt
section
variable {prog:Program}{w:World}{A:Around}{E:Value->Shared->Prop}{s:Shared}
end
section
variable {K:W.Frag}{Δ:Evt}
end
section
variable {K:W.Frag}{Δ:Evt}{P:D->Evt->Prop}
end
section
variable {X:Cx}
end
def stp (m:Nat):Nat->Nat->Nat
 |0,i=>i
 |k+1,i=>(stp m k i*5+1) % (m+1)
def orb (m:Nat):Nat->Nat->List Nat
 |0,_=>[]
 |f+1,i=>i::orb m f ((i*5+1) % (m+1))
def SmP (k:Int × Int):Prop:=0<=k.1/\k.1<64/\0<=k.2/\k.2<2
section
variable {prog:Program}{w:World}{A:Around}{E:Value->Shared->Prop}{s:Shared}
variable {hf:Int × Int->Int}(hfi:∀{a b:Int × Int},SmP a->SmP b->hf a=hf b->a=b)
include hfi
end
section
variable {X:Cx}
variable {o e:Expr}{es:List Expr}{to:TE}{t:TA}{name:Str}{apos cpos:Pos}{id:String}{r:V->List V->Hp->VK->Prop}
end
end L2
namespace L2
open PySem PySem.Spec PyProof.Rows
end L2
namespace L2
open PySem PySem.Spec PyProof.Rows
open PySem PySem.Spec PyProof.Rows PySem.SeqAt
section
variable {X:Cx}
end
section
variable {K:W.Frag}{Δ:Evt}
end
open PySem PySem.Spec PyProof.Rows PySem.SeqAt
section
variable {X:Cx}
def rSmT (K:W.Frag) (r:Bool):R2:=λx y H Q=>Q (.bl r) H/\∃(G:Hp) (n:Nat) (a b:Addr) (xs ys:List V) (ds:List D),Same G H/\Reps K G xs ds/\Reps K G ys ds/\ds.all (Sm n)=true/\n<=5/\x=.ref a/\y=.ref b/\SqT K H a xs/\SqT K H b ys
theorem eqSmTK (K:W.Frag) (hv:X.A.units+8<cLine) (hK:X.K=K:=by rfl):OpR X (compareOp .Eq) (rSmT K true):=by
 subst hK;intro pins s σ H x y v u Q I rx ry h;obtain⟨q,G,n,a,b,xs,ys,ds,sg,ra,rb,hd,hn,rfl,rfl,h1,h2⟩:=h;cases rx;cases ry;obtain⟨its,w1,p1,_⟩:=I.tuple h1;obtain⟨its2,w2,p2,_⟩:=I.tuple h2;have l1:=w1.length;have l2:=w2.length;have l3:=ra.length;have l4:=rb.length;have z:=RcAt.tuples (A:=X.A) (s:=s) (e:=λ_=>true) p1 p2 (by omega) λj h1 h2=>by
  have h1':j<its.length:=by simpa using h1
  have h2':j<its2.length:=by simpa using h2
  have hx:j<ds.length:=by omega
  obtain⟨p,hp1,hp2⟩:=ra.get<|Wab hx;obtain⟨q,hq1,hq2⟩:=rb.get<|Wab hx;obtain⟨va,hv1,hv2⟩:=w1.get hp1;obtain⟨vb,hw1,hw2⟩:=w2.get hq1;rw[Wab h1']at hv1;rw[Wab h2']at hw1;rw[Wbf,Wbf,Wa6.inj hv1,Wa6.inj hw1];exact Zdl n I sg hp2 hq2 hv2 hw2 (Wba.mp hd _<|Wbl hx) (by show X.A.units+1+n<cLine;omega)
 rw[Wba.mpr (λ_ _=>rfl),show (its.toArray.size == its2.toArray.size)=true by rw[Wah,Wah];exact beq_iff_eq.mpr (by omega),Wd9]at z;exact z X.prog X.w _ _ ⟨.bl _,H,I,rfl,q⟩
theorem neSmTK (K:W.Frag) (hv:X.A.units+8<cLine) (hK:X.K=K:=by rfl):OpR X (compareOp .NotEq) (rSmT K false):=by
 subst hK;intro pins s σ H x y v u Q I rx ry h;obtain⟨q,G,n,a,b,xs,ys,ds,sg,ra,rb,hd,hn,rfl,rfl,h1,h2⟩:=h;cases rx;cases ry;obtain⟨its,w1,p1,_⟩:=I.tuple h1;obtain⟨its2,w2,p2,_⟩:=I.tuple h2;have l1:=w1.length;have l2:=w2.length;have l3:=ra.length;have l4:=rb.length;have z:=RcNeAt.tuples (A:=X.A) (s:=s) (e:=λ_=>true) p1 p2 (by omega) λj h1 h2=>by
  have h1':j<its.length:=by simpa using h1
  have h2':j<its2.length:=by simpa using h2
  have hx:j<ds.length:=by omega
  obtain⟨p,hp1,hp2⟩:=ra.get<|Wab hx;obtain⟨q,hq1,hq2⟩:=rb.get<|Wab hx;obtain⟨va,hv1,hv2⟩:=w1.get hp1;obtain⟨vb,hw1,hw2⟩:=w2.get hq1;rw[Wab h1']at hv1;rw[Wab h2']at hw1;rw[Wbf,Wbf,Wa6.inj hv1,Wa6.inj hw1];exact Zdl n I sg hp2 hq2 hv2 hw2 (Wba.mp hd _<|Wbl hx) (by show X.A.units+1+n<cLine;omega)
 rw[Wba.mpr (λ_ _=>rfl),show (its.toArray.size == its2.toArray.size)=true by rw[Wah,Wah];exact beq_iff_eq.mpr (by omega),Wd9]at z;exact z X.prog X.w _ _ ⟨.bl _,H,I,rfl,q⟩
end
section
variable {K:W.Frag}{Δ:Evt}
theorem Zv5 {r:Bool}{P:D->Evt->Prop}{n:Nat}{ds:List D}(hn:n<=5) (h:ds.all (Sm n)=true) (p:P (.bl r) Δ):JR2 K (rSmT K r) (.tup ds) (.tup ds) Δ P:=λg G H σ Q x y k rx ry c=>by
 obtain⟨_,_,rfl,ha,ra⟩:=rx.inv
 next=>
  obtain⟨_,_,rfl,hb,rb⟩:=ry.inv
  next=>exact⟨c _ _ G H Δ k (Same.refl _) (.bl r) p,G,n,_,_,_,_,ds,k.live,ra,rb,h,hn,rfl,rfl,SqT.of<|k.live _ _ ha,SqT.of<|k.live _ _ hb⟩
end
open PySem PySem.Spec PyProof.Rows PySem.SeqAt
section
variable {K:W.Frag}{Δ:Evt}{P:D->Evt->Prop}
end
open PySem PySem.Spec PyProof.Rows PySem.Builtin PySem.Builtin.Str
section
variable {K:W.Frag}{Δ:Evt}
end
section
variable {K:W.Frag}{Δ:Evt}{P:D->Evt->Prop}
end
section
variable {K:W.Frag}{Δ:Evt}
end
section
variable {K:W.Frag}{Δ:Evt}{P:D->Evt->Prop}
end
section
variable {K:W.Frag}{Δ:Evt}
end
section
variable {X:Cx}
end
section
variable {K:W.Frag}{Δ:Evt}{P:D->Evt->Prop}
end
section
variable {X:Cx}
end
section
variable {K:W.Frag}{Δ:Evt}{P:D->Evt->Prop}
end
open PySem PySem.Spec PyProof.Rows PySem.SeqAt
section
variable {X:Cx}
end
open PySem PySem.Spec PyProof.Rows PySem.SeqAt
section
variable {K:W.Frag}{Δ:Evt}
end
section
variable {X:Cx}
end
open PySem PySem.Spec PyProof.Rows PySem.W
open PySem PySem.Spec PyProof.Rows PySem.W
def CodO (c:Addr) (q:Str) (h:Heap):Prop:=h.CodeRec (.ref c) q
def del (H:Hp) (c:Addr):Hp:=λb=>if b=c then none else H b
theorem Zhg {H:Hp}{b c:Addr}(h:b≠c):del H c b=H b:=if_neg h
section
variable {X:Cx}{pins:List (Addr × Obj)}{σ:St}{H:Hp}{s:Shared}{k:Nat}{f l c' T c:Addr}{fd:FuncData}{qual:Str}{params:Arguments}{body:Expr}{scope:Scope}{pm ctv:Value}{fvs:List Str}{sel:List Nat}{cs:List V}{E:XK}{Q:VK}{sp:List V->Hp->VK->XK->Prop}
end
open PySem PySem.Spec PyProof.Rows PySem.W
def fill (o:Obj) (h:Heap):Nat->Heap
 |0=>Att.noObjs h
 |n+1=>(fill o h n).push o
theorem Ziy (o:Obj) (h:Heap):∀n,(fill o h n).objs.size=n
 |0=>rfl
 |n+1=>by show ((fill o h n).push o).objs.size=_;rw[Wcf,Ziy o h n]
theorem Zw4 {c C:Addr}{q:Str}{h0:Heap}:CodO c q≠InsC c C:=λe=>by
 have g:((fill { cls:=.none,data:=.fields #[.none,.str q 0] } h0 c).push { cls:=.none,data:=.fields #[.none,.str q 0] }).get? c=some { cls:=.none,data:=.fields #[.none,.str q 0] }:=by
  have z:=Wao (o:={ cls:=.none,data:=.fields #[.none,.str q 0] }) (fill { cls:=.none,data:=.fields #[.none,.str q 0] } h0 c) rfl;rw[Ziy]at z;exact z
 have h1:CodO c q ((fill { cls:=.none,data:=.fields #[.none,.str q 0] } h0 c).push { cls:=.none,data:=.fields #[.none,.str q 0] }):=⟨c,_,_,0,rfl,g,rfl,rfl⟩;rw[e]at h1;obtain⟨ox,vs,g1,g2,_⟩:=h1;rw[g]at g1;cases g1;cases g2
section
variable {K:W.Frag}{G H:Hp}{c:Addr}{q:Str}
mutual
theorem Rep.del (hc:G c=some (.ext<|CodO c q)) (h0:Heap):∀{v:V}{d:D},Rep K G v d->Rep K (del G c) v d
 |_,_,.non=>.non
 |_,_,.bl b=>.bl b
 |_,_,.int i=>.int i
 |_,_,.str x=>.str x
 |_,_,.ty n=>.ty n
 |_,_,.adr a=>.adr a
 |_,_,.tup e r=>.tup (by rw[Zhg λz=>by rw[z,hc]at e;cases e];exact e) (Reps.del hc h0 r)
 |_,_,.lst e r=>.lst (by rw[Zhg λz=>by rw[z,hc]at e;cases e];exact e) (Reps.del hc h0 r)
 |_,_,.dct e l r=>.dct (by rw[Zhg λz=>by rw[z,hc]at e;cases e];exact e) l (Reps.del hc h0 r)
 |_,_,.exc (a:=a) (C:=C) e=>.exc (by
   rw[Zhg λz=>by
    rw[z,hc]at e;have e2:CodO c q=InsC c C:=by injection (Wa6.inj e)
    exact Zw4 (h0:=h0) e2]
   exact e)
 |_,_,.scr e r=>.scr (by
   rcases e with e|e
   ·refine .inl ?_
    rcases e with e|⟨o,e⟩
    ·exact .inl (by rw[Zhg λz=>by rw[z,hc]at e;cases e];exact e)
    ·exact .inr ⟨o,by rw[Zhg λz=>by rw[z,hc]at e;cases e];exact e⟩
   ·exact .inr e) (Reps.del hc h0 r)
theorem Reps.del (hc:G c=some (.ext<|CodO c q)) (h0:Heap):∀{vs:List V}{ds:List D},Reps K G vs ds->Reps K (del G c) vs ds
 |_,_,.nil=>.nil
 |_,_,.cons a b=>.cons (Rep.del hc h0 a) (Reps.del hc h0 b)
end
end
section
variable {K:W.Frag}{g:Gm}{G G2 H H2:Hp}{σ:St}{Δ:Evt}
end
section
variable {X:Cx}{tg:Expr}{K:W.Frag}
end
section
variable {prog:Program}{w:World}{A:Around}{E:Value->Shared->Prop}{s:Shared}
end
section
variable {K:W.Frag}{Δ:Evt}
end
section
variable {X:Cx}{xa:Addr}{k:Nat}{x:Str}{ps:List Str}{sp:Addr->Sp}{e:Expr}{es:List Expr}{t:TA}{p pos:Pos}
end
open PySem PySem.Spec PyProof.Rows PySem.W
section
variable {X:Cx}{k i:Nat}{l:Addr}{fd:FuncData}{x:Str}{sp:Hp->VK->XK->Prop}{p pos:Pos}{E:XK}
end
open PySem PySem.Spec PyProof.Rows PySem.W
section
variable {P:Program}{w:World}{K:W.Frag}{mg:Str->Option Value}{base:Heap}
end
open PySem PySem.Spec PyProof.Rows PySem.W
open PySem PySem.Spec PyProof.Rows PySem.SeqAt
def TrcV (h:Heap) (a C T:Addr) (v:Value):Prop:=
 ∃oe vs oT ts,h.get? a=some oe/\oe.cls=.ref C/\oe.data=.fields vs/\vs[1]?=some (.ref T)/\vs[2]?=some .none/\T≠a/\h.get? T=some oT/\oT.data=.fields ts/\ts[3]?=some v
theorem Zro {e:Value}{env env':Env}(h:env.frame=env'.frame):noteFrame e env=noteFrame e env':=by
 unfold noteFrame PySem.frameOf;rw[h]
section
variable {X:Cx}{pins:List (Addr × Obj)}{σ:St}{H H':Hp}{s:Shared}{h':Heap}{a C T:Addr}{v:Value}
theorem Inv.notedA {h0:Heap}{oe:Obj}{vs:Array Value}{hid:List Addr}{T':Addr}(I:Inv X pins σ H s) (hex:X.ex=[]) (na:Nw X pins H a) (new:∀b∈hid,Nw X pins H b) (he:s.heap.get? a=some oe) (hc:oe.cls=.ref C) (hd:oe.data=.fields vs) (h2:vs[2]?=some .none)
  (k0:∀b,b ∉ hid->h0.get? b=s.heap.get? b) (hf0:∀b∈hid,∀o,s.heap.get? b=some o->∃ws,o.data=.fields ws) (hn0:∀b,h0.get? b=none->s.heap.get? b=none) (n:Noted h0 h' X.stack a oe T') :
  Inv X pins σ H { s with heap:=h' } /\ (∃v,TrcV h' a C T' v)/\Nw X pins H T' /\ s.heap.UpToSlots h':=by
 have nT:=Nw.of I hex<|hn0 _ n.new;have hTa:T'≠a:=by rintro rfl;have z:=hn0 _ n.new;rw[he]at z;cases z
 have fl:∀b,b∈a::hid->∀o,s.heap.get? b=some o->∃ws,o.data=.fields ws:=λb hb o e=>by
  rcases Wap.mp hb with rfl|hb
  ·rw[he]at e;cases e;exact⟨vs,hd⟩
  ·exact hf0 b hb o e
 have up:s.heap.UpToSlots h':=λb o e hnf=>by
  have hb:b ∉ a::hid:=λz=>by obtain⟨ws,q⟩:=fl b z o e;exact hnf ws q
  have h1a:b≠a:=λz=>hb (by simp[z]);have h1b:b ∉ hid:=λz=>hb<|Way _ z;exact n.up b o ((k0 b h1b).trans e) h1a hnf
 refine⟨I.moved (hid:=a::hid) hex (λb hb=>(Wap.mp hb).elim (λz=>by subst z;exact na) (new b)) (λb o e h1 h2=>?_) up,?_,nT,up⟩
 ·have h1a:b≠a:=λz=>h1 (by simp[z])
  have h1b:b ∉ hid:=λz=>h1<|Way _ z;exact n.keep b o ((k0 b h1b).trans e) h1a h2
 ·obtain⟨oT,ts,t1,t2,t3⟩:=n.tb
  have sz:2<vs.size:=(Array.getElem?_eq_some_iff.mp h2).1;refine⟨_,_,_,_,_,n.exc,(Obj.cls_mapFields _ _).trans hc,Obj.data_mapFields hd _,?_,?_,hTa,t1,t2,Array.getElem?_eq_getElem t3⟩
  ·simp[show 1<vs.size by omega]
  ·rw[Array.getElem?_setIfInBounds_ne (by decide)];exact h2
variable {M:Model}{E:Value->Shared->Prop}{Q:Unit->Shared->Prop}
theorem Zl3 (I:Inv X pins σ H s) (hex:X.ex=[]) (hst:X.stack=X.env::X.outer) (hf:X.env.frame=some X.env.locals) (tr:TrcV s.heap a C T v) (na:Nw X pins H a) (nT:Nw X pins H T)
  (h:∀h' T' v',Inv X pins σ H { s with heap:=h' } -> TrcV h' a C T' v' -> Nw X pins H T' -> s.heap.UpToSlots h' -> Q () { s with heap:=h' }):wpAny M X.A (noteFrame (.ref a) X.env) Q E s:=by
 have tr0:=tr;obtain⟨oe,vs,oT,ts,h1,h2,h3,h4,h5,h6,h7,h8,h9⟩:=tr;have hfr:=I.ok.frames;have hl:=I.stack;rw[hst]at hfr hl;have ot:∀b,b≠T->(s.heap.update T<|Obj.mapFields (·.setIfInBounds 3 Value.none)).get? b=s.heap.get? b:=λb hb=>Wbu _ _<|Ne.symm hb;unfold noteFrame;simp only[hf];refine wpAny_bind<|wpAny_field h1 h3 h4 ?_;rw[if_pos (show (Value.ref T != Value.none)=true from by simp)];refine wpAny_bind<|wpAny_field h7 h8 h9 ?_;by_cases hv:(v == rawInt X.env.locals)=true
 ·rw[if_pos hv]
  exact wpAny_pure (h s.heap T v I tr0 nT λb o e _=>⟨o.slots,e⟩)
 ·rw[if_neg hv]
  refine wpAny_bind<|wpAny_setField h7 h8 (Array.getElem?_eq_some_iff.mp h9).1 ?_;refine entryX (s:={ s with heap:=s.heap.update T (Obj.mapFields (·.setIfInBounds 3 .none)) }) hfr (hl.of_keeps λb o hb hn=>⟨o,(ot b λq=>?_).trans hb,rfl⟩) hf ((ot a<|Ne.symm h6).trans h1) h3 (Array.getElem?_eq_some_iff.mp h4).1 λh' T' n=>?_
  ·rw[q,h7]at hb
   exact hn ts (Wa6.inj hb ▸ h8)
  ·rw[<- hst]at n
   obtain⟨J,⟨v',t1⟩,t2,up⟩:=I.notedA (hid:=[T]) hex na (λb hb=>by rcases Wap.mp hb with rfl|hb;exact nT;cases hb) h1 h2 h3 h5 (λb hb=>ot b (by simpa using hb)) (λb hb o e=>by
    have hb:b=T:=by simpa using hb
    subst hb;rw[h7]at e;cases e;exact⟨ts,h8⟩) (λb e=>by
     by_cases hb:b=T
     ·subst hb
      rw[Wb7 _ h7 (Obj.isFreed_of_fields<|Obj.data_mapFields h8 _)]at e;cases e
     ·exact(ot b hb).symm.trans e) n
   exact h _ T' v' J t1 t2 up
theorem Zn5 {A:Around}(fr:Option Addr) (I:Inv X pins σ H s) (hex:X.ex=[]) (tr:TrcV s.heap a C T v) (nT:Nw X pins H T)
  (h:∀h',Inv X pins σ H { s with heap:=h' } -> TrcV h' a C T (fr.elim .none λf=>rawInt f)->Q () { s with heap:=h' }):wpAny M A (setFlight (.ref a) fr) Q E s:=by
 obtain⟨oe,vs,oT,ts,h1,h2,h3,h4,h5,h6,h7,h8,h9⟩:=tr;have sz:=(Array.getElem?_eq_some_iff.mp h9).1;have ot:∀b,b≠T->(s.heap.update T<|Obj.mapFields (·.setIfInBounds 3 (fr.elim Value.none λf=>rawInt f))).get? b=s.heap.get? b:=λb hb=>Wbu _ _<|Ne.symm hb;unfold setFlight;refine wpAny_bind<|wpAny_field h1 h3 h4 ?_;rw[if_pos (show (Value.ref T != Value.none)=true from by simp)];refine wpAny_setField h7 h8 sz<|h _ ?_ ?_
 ·refine I.moved (hid:=[T]) hex (λb hb=>by rcases Wap.mp hb with rfl|hb;exact nT;cases hb) (λb o e hb _=>(ot b (by simpa using hb)).trans e) (λb o e hnf=>⟨o.slots,(ot b λz=>?_).trans e⟩)
  subst z;rw[h7]at e;cases e;exact hnf ts h8
 ·exact⟨oe,vs,_,_,(ot a<|Ne.symm h6).trans h1,h2,h3,h4,h5,h6,Wb7 _ h7<|Obj.isFreed_of_fields<|Obj.data_mapFields h8 _,Obj.data_mapFields h8 _,by simp[sz]⟩
end
def PassA (X:Cx) (E:XK):Prop:=∀(pins:List (Addr × Obj)) (σ:St) (H:Hp) (s:Shared) (a C T:Addr) (v:Value),Inv X pins σ H s->Nw X pins H a->Nw X pins H T->TrcV s.heap a C T v->E (.ref C) none H->X.xe (.ref a) s
section
variable {P:Program}{w:World}{K:W.Frag}{mg:Str->Option Value}{base:Heap}{N:List Str}{qual:Str}{scope:Scope}{f:Addr}{cd:Value}{A:Around}{outer:List Env}{s0:Shared}{H0:Hp}{E:XK}
theorem Ztr:PassA (cxOf (CXE P w) P w K mg base N qual scope f cd A outer s0 H0 E) E:=λpins σ H s a C T v I na nT tr hE=>by
 show wpAny _ _ (leaving _ (.ref a)) _ _ s;unfold leaving;refine wpAny_bind (Zl3 I rfl rfl rfl tr na nT λh' T' v' J t1 t2 _=>?_);refine Zn5 none J rfl t1 t2 λh2 J2 t3=>?_;exact⟨a,C,T',H,rfl,J2.os,J2.bare,J2.base,J2.hok,na.trk,na.old,t2.trk,t2.old,t3,hE⟩
end
def compCxX (X:Cx) (scope:Scope) (N:List Str) (C:Addr) (s:Shared) (H:Hp) (ex:List Addr) (pn:List (Addr × Obj)) (xe:Value->Shared->Prop):Cx:={ compCx X scope N C s H ex pn with xe:=xe }
theorem Inv.withX {Y:Cx}{xe:Value->Shared->Prop}{pins:List (Addr × Obj)}{σ:St}{H:Hp}{s:Shared}(I:Inv Y pins σ H s):Inv { Y with xe:=xe } pins σ H s:=
 ⟨⟨I.ok.mod,I.ok.kind,I.ok.glob,I.ok.blt,I.ok.above,I.ok.inj,I.ok.has,I.ok.cab,I.ok.hd,I.ok.frames,I.ok.stk,I.ok.exf,I.ok.bs,I.ok.bsz,I.ok.noex,I.ok.exfs,I.ok.funs,I.ok.frf⟩,I.os,I.bare,I.base,I.loc,I.cell,I.free,I.freeC,I.pin,I.hok,I.len⟩
theorem Inv.noX {Y:Cx}{xe:Value->Shared->Prop}{pins:List (Addr × Obj)}{σ:St}{H:Hp}{s:Shared}(I:Inv { Y with xe:=xe } pins σ H s):Inv Y pins σ H s:=
 ⟨⟨I.ok.mod,I.ok.kind,I.ok.glob,I.ok.blt,I.ok.above,I.ok.inj,I.ok.has,I.ok.cab,I.ok.hd,I.ok.frames,I.ok.stk,I.ok.exf,I.ok.bs,I.ok.bsz,I.ok.noex,I.ok.exfs,I.ok.funs,I.ok.frf⟩,I.os,I.bare,I.base,I.loc,I.cell,I.free,I.freeC,I.pin,I.hok,I.len⟩
def XEc (X:Cx) (pins:List (Addr × Obj)) (σ:St) (E:XK) (n:Addr):Value->Shared->Prop:=λx s'=>∃a C T v H',x=.ref a/\Inv X pins σ H' s' /\ Nw X pins H' a/\Nw X pins H' T/\TrcV s'.heap a C T v/\E (.ref C) none H' /\ (∃m,s'.heap.Ns n m)/\H' n=none
section
variable {X:Cx}{pins:List (Addr × Obj)}{σ:St}{H:Hp}{s:Shared}{fp:List Addr}{scope:Scope}{N:List Str}{E:XK}
theorem Zp3 (I:Inv X pins σ H s) (hex:X.ex=[]) (hf:∀b∈fp,FpOk X pins H b):Passes (CXE X.prog X.w) (compCxX X scope N s.heap.objs.size s H fp (X.pn++pins)<|XEc X pins σ E s.heap.objs.size) E:=λpinsY σY Hh ss e s' IY hq=>by
 obtain⟨a,C,T,H',rfl,os,bare,un,hok,ha,hsa,hT,hsT,tr,hE⟩:=hq;have I0:Inv (compCx X scope N s.heap.objs.size s H fp<|X.pn++pins) [] σY Hh ss:=Inv.unpinned (pl:=pinsY)<|Inv.noX IY;have J0:Inv X pins σ Hh ss:=Zd9 I hf I0 (.refl ..);have J1:Inv (compCx X scope N s.heap.objs.size s H fp<|X.pn++pins) [] σY H' s':=I0.call' (ch:=[]) os un hok bare (λb z=>absurd z<|by simp);have J2:Inv X pins σ H' s':=Zd9 I hf J1 (.refl ..);obtain⟨m,hn,_⟩:=J1.loc;exact⟨a,C,T,.none,H',rfl,J2,(Nw.of J0 hex hsa).at ha,(Nw.of J0 hex hsT).at hT,tr,hE,⟨m,hn⟩,J1.free⟩
end
def PBX (Y:Cx) (rest:Sem Fin) (c:Code) (tb:TB):Prop:=∀(pins:List (Addr × Obj)) (s:Shared) (σ:St) (H:Hp) (N:St->Hp->Prop),Inv Y pins σ H s->tb σ H N →
 wpAny (model Y.prog Y.w) Y.A rest (λf s'=>f=.again c/\∃σ' H',Inv Y pins σ' H' s' /\ N σ' H') Y.xe s
theorem Zmk {Y:Cx}{e tg:Expr}{d:Nat}{p:Pos}{acc:Value}{rest:Value->Sem Fin}{g:TG}{tb:TB}(hpl:Plain e) (hc:Y.calm=true)
  (hct:∀it,compTurn e d it acc Y.env=(do
   standAt p
   match ← pyNext it with
   |none=>pure (.done .next)
   |some v=>
    letOwnedTupleGo tg it v
    assign tg Y.env v
    rest it))
  (hg:PG Y tg g) (hb:∀it,PBX Y (rest it) (.compLoop e d it acc Y.env) tb) {pins:List (Addr × Obj)}{σ:St}{s:Shared}{itv:Value}{R:St->Hp->Prop}{RX:Value->Shared->Prop}
  (hn:∀x s',Y.xe x s' -> wpAny (model Y.prog Y.w) Y.A (noteFrame x Y.env) (λ_ s''=>RX x s'') RX s') (h:PIE Y pins σ tg (LoopR g tb R σ) itv s) :
  codeAny (model Y.prog Y.w) Y.A (.compLoop e d itv acc Y.env) (λr s'=>(r=.ok .next/\∃σ' H',Inv Y pins σ' H' s' /\ R σ' H')\/∃x,r=.error x/\RX x s') s:=by
 obtain⟨it,fp,tn,J,H2,e0,I2,T,st2,f2,W,⟨m0,w0⟩,turn⟩:=h;subst e0;have stat:∀{H':Hp},(∀b∈fp,H' b=none)->∀b∈fp,FpOk Y pins H' b:=λhn b hb=>⟨hn b hb,(f2 b hb).2⟩;refine codeAny_loop rfl (λn s'=>∃i σ' H',Inv Y pins σ' H' s' /\ tn i s'.heap/\(∀b∈fp,H' b=none)/\W i n σ' H') ?_ m0 ⟨0,σ,H2,I2,st2,λb hb=>(f2 b hb).1,w0⟩;rintro n s3 ⟨i,σ3,H3,I3,st3,fr3,w3⟩;obtain⟨z1,z2⟩:=hpl.tu Y.prog Y.w Y.A d (.ref it) acc Y.env;rw[z1,z2];refine wpAny_noted (wpAny_mono (E:=Y.xe) ?_ (λ_ _ q=>q) λx s' z=>wpAny_mono (hn x s' z) (λ_ _ q=>.inr ⟨x,rfl,q⟩) λy _ q=>.inr ⟨y,rfl,q⟩);rw[hct];refine wpAny_bind<|wpAny_standAt<|wpAny_bind ?_;rcases turn i n σ3 H3 w3 with ⟨stop,qn⟩|⟨go,N,hN,step⟩
 ·refine thn (T.done Y rfl rfl rfl hc i pins s3 σ3 H3 Y.xe I3 (stat fr3) st3 stop) λr s4 ⟨hr,I4⟩=>?_
  subst hr;exact wpAny_pure (.inl ⟨rfl,σ3,H3,I4,qn⟩)
 ·refine thn (T.item Y rfl rfl rfl hc i pins s3 σ3 H3 Y.xe I3 (stat fr3) st3 go) λr s4 ⟨u,hr,h4⟩=>?_
  subst hr;refine wpAny_bind (thn h4 λ_ s5 ⟨x,H5,I5,r5,y5,st5,fr5⟩=>?_);have I5':=I5.pinned (stat fr5)<|T.obj _ _ st5;have G1:=hg _ s5 σ3 H5 x u _ I5' r5<|step x H5 y5;refine wpAny_bind (thn G1 λ_ s6 ⟨σ6,H6,I6,q6⟩=>?_);refine thn (hb _ _ s6 σ6 H6 N I6 q6) λfn s7 ⟨hfn,σ7,H7,I7,n7⟩=>?_;subst hfn;refine⟨rfl,?_⟩;obtain⟨m',hm,w7⟩:=hN σ7 H7 n7;refine⟨m',hm,i+1,σ7,H7,I7.unpinned,T.keep _ _ _ st5 λb hb o e=>(I7.pin (b,o)<|Wa0 _<|Wa0 _<|Zci hb e).1,λb hb=>?_,w7⟩;obtain⟨o,e,_⟩:=T.obj _ _ st5 b hb;exact(I7.pin (b,o)<|Wa0 _<|Wa0 _<|Zci hb e).2.1
section
variable {X:Cx}
theorem Zmr {e tg1 it1:Expr}{scope:Scope}{tgs fvs:List Str}{sel:List Nat}{g1:TG}{ob:Obj}{ho:HO}{newAcc:Sem Value}{rest:Addr->Env->Value->Sem Fin}{tem:Addr->TB}{EX:XK}(hpl:Plain e) (hcls:(clausesOf e)[0]?=some ⟨tg1,it1,[],0⟩)
  (hct0:∀(D:Addr) (env:Env) (it:Value),compTurn e 0 it (.ref D) env=(do
   standAt it1.pos
   match ← pyNext it with
   |none=>pure (.done .next)
   |some v=>
    letOwnedTupleGo tg1 it v
    assign tg1 env v
    rest D env it))
  (hnew:∀(s:Shared) (Q:Value->Shared->Prop) (E:Value->Shared->Prop),Q (.ref s.heap.objs.size) { s with heap:=s.heap.push ob } -> wpAny (model X.prog X.w) X.A newAcc Q E s)
  (hok:∀(pins:List (Addr × Obj)) (σ:St) (H:Hp) (s:Shared),Inv X pins σ H s->Inv X pins σ (upd H s.heap.objs.size ho) { s with heap:=s.heap.push ob,toks:=s.toks })
  (S:CompSc X.env.scope X.N scope fvs sel) (hc:X.calm=true) (hex:X.ex=[]) (hst:X.stack=X.env::X.outer) (hf:X.env.frame=some X.env.locals) (hF:PassA X EX)
  (hg1:∀C s H ex pn xe,PG (compCxX X scope (tgs++fvs) C s H ex pn xe) tg1 g1)
  (hb:∀C s H ex pn xe D it,Passes (CXE X.prog X.w) (compCxX X scope (tgs++fvs) C s H ex pn xe) EX->PBX (compCxX X scope (tgs++fvs) C s H ex pn xe) (rest D (compCxX X scope (tgs++fvs) C s H ex pn xe).env it) (.compLoop e 0 it (.ref D) (compCxX X scope (tgs++fvs) C s H ex pn xe).env) (tem D))
  {pins:List (Addr × Obj)}{σ:St}{s:Shared}{itv:Value}{Q:VK}
  (h2:PIE X pins σ tg1 (λJ H1=>∀acc,H1 acc=none->LoopR g1 (tem acc) (λ_ H'=>Q (.ref acc) H') (compSt tgs.length sel σ) J (upd H1 acc ho)) itv s) :
  wpAny (model X.prog X.w) X.A newAcc (λacc s3=>wpAny (model X.prog X.w) X.A (newFunctionEnv scope X.env.globals (clOf X.env scope.names []) [] X.env.qual none .none (some X.env)) (λcenv s4=>
   codeAny (model X.prog X.w) X.A (.compStart e 0 itv acc { cenv with scope:=relabel scope X.env }) (compPost (model X.prog X.w) X.A X.xe none (EP X pins σ Q) acc cenv.locals) s4) X.xe s3) X.xe s:=by
 obtain⟨it,fp,tn,J,H1,e0,I,T,st,f2,h2⟩:=h2;subst e0;have hlt:∀b∈fp,b<s.heap.objs.size:=λb hb=>let ⟨o,ho,_⟩:=T.obj 0 _ st b hb; Wax ho
 refine hnew s _ _<|wpAny_newFunctionEnv S.nocell (by intro y hy;simp at hy) (λh1 hns hsb=>?_) S.kind;dsimp only at hns hsb ⊢;have I3:=hok pins σ H1 s I;have hacc:H1 s.heap.objs.size=none:=I.hok.fresh<|Wak _;have h2:=h2 s.heap.objs.size hacc;generalize hs3:({ s with heap:=s.heap.push ob,toks:=s.toks }:Shared)=s3 at I3;have hh3:s3.heap=s.heap.push ob:=by rw[<- hs3]
 have old3:∀b o,s.heap.get? b=some o->s3.heap.get? b=some o:=λb o q=>by rw[hh3];exact Wac _ q
 have hf3:∀b∈fp,FpOk X pins (upd H1 s.heap.objs.size ho) b:=λb hb=>⟨by rw[Zan (Wa8<|hlt b hb)];exact(f2 b hb).1,(f2 b hb).2⟩;have hlt3:∀b∈fp,b<s3.heap.objs.size:=λb hb=>by rw[hh3,Wcf];exact Wck<|hlt b hb
 have tn3:tn 0 s3.heap:=T.keep 0 _ _ st λb hb o q=>old3 b o q;have old4:∀b o,s3.heap.get? b=some o->h1.get? b=some o:=λb o q=>by
  have hb:b≠s3.heap.objs.size:=Wa8<|Wax q;rw[hh3]at hb q;exact(hsb.2 b hb).trans (Wac _ q)
 have tn4:tn 0 h1:=T.keep 0 _ _ tn3 λb hb o q=>old4 b o q;have hC:(s.heap.push ob).objs.size=s3.heap.objs.size:=by rw[hh3]
 rw[hC]at hns;have J0:=Zhy (tgs:=tgs) (tk:=s.toks+([]:List (Str × Value)).length) S I3 hf3 hlt3 hns old4;have es:({ s3 with heap:=h1,toks:=s.toks+([]:List (Str × Value)).length }:Shared) = { s with heap:=h1,toks:=s.toks+([]:List (Str × Value)).length }:=by rw[<- hs3]
 rw[es]at J0;have J0:Inv (compCxX X scope (tgs++fvs) s3.heap.objs.size s3 (upd H1 s.heap.objs.size ho) fp (X.pn++pins)<|XEc X pins σ EX s3.heap.objs.size) [] (compSt tgs.length sel σ) (upd H1 s.heap.objs.size ho) { s with heap:=h1,toks:=s.toks+([]:List (Str × Value)).length }:=Inv.withX (xe:=XEc X pins σ EX s3.heap.objs.size) J0;have G1:=hg1 s3.heap.objs.size s3 (upd H1 s.heap.objs.size ho) fp (X.pn++pins)<|XEc X pins σ EX s3.heap.objs.size;have EM:=λit=>hb s3.heap.objs.size s3 (upd H1 s.heap.objs.size ho) fp (X.pn++pins) (XEc X pins σ EX s3.heap.objs.size) s.heap.objs.size it<|Zp3 I3 hex hf3;have stat:∀{H':Hp},(∀b∈fp,H' b=none)->∀b∈fp,FpOk (compCxX X scope (tgs++fvs) s3.heap.objs.size s3 (upd H1 s.heap.objs.size ho) fp (X.pn++pins)<|XEc X pins σ EX s3.heap.objs.size) [] H' b:=λhn b hb=>by
  refine⟨hn b hb,Wa8<|hlt3 b hb,λz=>?_,.inl hb,λx c e=>?_,λp hp z=>?_⟩
  ·rcases Wap.mp (I3.stkSub b z) with q|q
   ·exact(hf3 b hb).2.1 q
   ·exact(hf3 b hb).2.2.1 q
  ·exact(hf3 b hb).2.2.2.2.1 x c (Zby _ _ (λ_ _ z=>by simp at z) e)
  ·have hp:p∈(X.pn++pins)++[]:=hp
   rw[Wa3]at hp;exact(hf3 b hb).2.2.2.2.2 p hp z
 generalize hY:compCxX X scope (tgs++fvs) s3.heap.objs.size s3 (upd H1 s.heap.objs.size ho) fp (X.pn++pins) (XEc X pins σ EX s3.heap.objs.size)=Y at J0 G1 EM stat;have hYp:Y.prog=X.prog:=by rw[<- hY];rfl
 have hYw:Y.w=X.w:=by rw[<- hY];rfl
 have hYK:Y.K=X.K:=by rw[<- hY];rfl
 have hYA:Y.A=X.A:=by rw[<- hY];rfl
 have hYc:Y.calm=true:=by rw[<- hY];exact hc
 have hYx:Y.xe=XEc X pins σ EX s3.heap.objs.size:=by rw[<- hY];rfl
 have hYe:Y.env=compEnvC scope (clOf X.env scope.names []) s3.heap.objs.size X.env:=by rw[<- hY];rfl
 have T':Turn Y.prog Y.w Y.K tg1 J fp it tn:=by rw[hYp,hYw,hYK];exact T
 have PP:PIE Y [] (compSt tgs.length sel σ) tg1 (LoopR g1 (tem s.heap.objs.size) (λ_ H'=>Q (.ref s.heap.objs.size) H')<|compSt tgs.length sel σ) (.ref it) { s with heap:=h1,toks:=s.toks+([]:List (Str × Value)).length }:=
  ⟨it,fp,tn,J,_,rfl,J0,T',tn4,stat λb hb=>(hf3 b hb).1,h2⟩
 have L:=Zmk (Y:=Y) (e:=e) (d:=0) (acc:=.ref s.heap.objs.size) (RX:=XEc X pins σ EX s3.heap.objs.size) hpl hYc (hct0 s.heap.objs.size Y.env) G1 (λit=>EM it) (λx s' hx=>by
  rw[hYx]at hx;obtain⟨a,C,T0,v,H',rfl,K2,na,nT,tr,hE,⟨m,hm⟩,fr⟩:=hx;rw[hYp,hYw,hYA,hYe,Zro (env:=compEnvC scope (clOf X.env scope.names []) s3.heap.objs.size X.env) (env':=X.env) rfl];refine Zl3 K2 hex hst hf tr na nT λh' T' v' K3 t1 t2 up=>⟨a,C,T',v',H',rfl,K3,na,t2,t1,hE,⟨m,up.ns hm⟩,fr⟩) PP
 have ST:=Zf2 (d:=0) hpl hcls PP L;rw[hYp,hYw,hYA,hYe]at ST;show codeAny (model X.prog X.w) X.A (.compStart e 0 (.ref it) (.ref s.heap.objs.size)<|compEnvC scope (clOf X.env scope.names []) (s.heap.push ob).objs.size X.env) (compPost (model X.prog X.w) X.A X.xe none (EP X pins σ Q) (.ref s.heap.objs.size) (s.heap.push ob).objs.size) _;rw[hC];refine codeAny_mono ST λr s6 hr=>?_;rcases hr with ⟨hr,σ5,H5,I6,qn⟩|⟨x,hr,hx⟩
 ·subst hr
  obtain⟨m6,hn6,_⟩:=I6.loc;rw[hYe]at hn6;have I6':Inv (compCx X scope (tgs++fvs) s3.heap.objs.size s3 (upd H1 s.heap.objs.size ho) fp<|X.pn++pins) [] σ5 H5 s6:=Inv.noX (xe:=XEc X pins σ EX s3.heap.objs.size) (by rw[<- hY]at I6;exact I6);exact⟨m6,hn6,λh' sb=>⟨.ref s.heap.objs.size,H5,Zd9 I3 hf3 I6' sb,rfl,qn⟩⟩
 ·subst hr
  obtain⟨a,C,T0,v,H',rfl,K2,na,nT,tr,hE,⟨m,hm⟩,fr⟩:=hx;refine⟨m,hm,λh' sb cenv hl=>?_⟩;obtain⟨f0,f1,f2,f3,f4,f5⟩:=I3.fpOk (Wak _) fr;have K3:Inv X pins σ H' { s6 with heap:=h' }:=K2.turned (t':=s6.toks) (it:=s3.heap.objs.size) (λb o hb e=>(sb.2 b hb).trans e) f0 f1 f3 f4 f5;obtain⟨oe,vs,oT,ts,h1,h2,h3,h4,h5,h6,h7,h8,h9⟩:=tr;obtain⟨om,es,ep,hm1,hm2,_⟩:=hm;have nea:a≠s3.heap.objs.size:=λz=>by rw[z,hm1]at h1;cases h1;rw[hm2]at h3;cases h3
  have neT:T0≠s3.heap.objs.size:=λz=>by rw[z,hm1]at h7;cases h7;rw[hm2]at h8;cases h8
  have tr':TrcV h' a C T0 v:=⟨oe,vs,oT,ts,(sb.2 a nea).trans h1,h2,h3,h4,h5,h6,(sb.2 T0 neT).trans h7,h8,h9⟩;unfold PySem.passOn;refine wpAny_bind<|wpAny_field (s:={ s6 with heap:=h' }) ((sb.2 a nea).trans h1) h3 h4 ?_;rw[if_neg (show ¬ ((Value.ref T0 == Value.none)=true) from by simp)];refine wpAny_bind (Zn5 cenv.frame K3 hex tr' nT λh2 K4 t4=>?_);exact wpAny_throw<|hF _ _ _ _ _ _ _ _ K4 na nT t4 hE
theorem Zs8 {Y:Cx}{ex:Expr}{te:TE}{c:Code}(he:PE Y ex te) (D:Addr):PBX Y (do
   (do let _ ← call (.builtin "list.append") [.ref D,<- eval ex Y.env])
   again c) c (tAppL te D):=λpins s σ H N I h=>by
 refine wpAny_bind<|wpAny_bind (thn (he pins s σ H _ I h) λu s1 ⟨y,H1,I1,ry,ys,ea,za,na⟩=>?_);have M:=Zb9 (X:=Y) _ s1 σ H1 (.ref D) [y] (.ref D) [u] (λ_ H=>N σ H) I1 rfl (.cons ry .nil) ⟨_,ys,y,rfl,rfl,ea,za,na⟩;exact wpAny_bind (thn M λ_ sb ⟨_,Hb,Ib,_,nb⟩=>wpAny_pure<|wpAny_pure ⟨rfl,σ,Hb,Ib,nb⟩)
theorem Znc {ex tg1 it1:Expr}{scope:Scope}{pos:Pos}{fvs:List Str}{sel:List Nat}{wi1:TI}{g1:TG}{te:TE}{EX:XK}(tgs:List Str) (S:CompSc X.env.scope X.N scope fvs sel) (hc:X.calm=true) (hex:X.ex=[]) (hst:X.stack=X.env::X.outer) (hf:X.env.frame=some X.env.locals) (hF:PassA X EX)
  (hi1:PI X tg1 it1 wi1) (hg1:∀C s H ex pn xe,PG (compCxX X scope (tgs++fvs) C s H ex pn xe) tg1 g1)
  (he:∀C s H ex' pn xe,Passes (CXE X.prog X.w) (compCxX X scope (tgs++fvs) C s H ex' pn xe) EX->PE (compCxX X scope (tgs++fvs) C s H ex' pn xe) ex te)
  (hs1:∀x,foldedSetIterable it1 X.env x=pure x:=by intro _;rfl) :
  PE X (.ListComp ex [⟨tg1,it1,[],0⟩] scope pos) (tCompG tgs.length sel wi1 g1 (.lst [])<|tAppL te):=by
 intro pins s σ H Q I h;rw[eval_ListComp];refine wpAny_comprehension_free (use:=none) rfl hs1 (Zbp<|Zcp S I.ok) S.kind S.names (thn (hi1 pins s σ H _ I h) λv s1 h1=>thn h1 λitv s2 h2=>?_);exact Zmr (tgs:=tgs) (ob:={ cls:=.type "list",data:=.seq ([]:List Value).toArray }) (ho:=.lst []) (Zfq _ _ _ _) rfl (λD env it=>rfl) (λs Q E q=>wpAny_newObj_type q) (λpins σ H s I=>I.lnew (its:=[]) .nil<|by decide) S hc hex hst hf hF hg1 (tem:=tAppL te) (λC s H ex pn xe D it hp=>Zs8 (he C s H ex pn xe hp) D) h2
end
section
variable {K:W.Frag}{Δ:Evt}{E:XK}{Xp:Addr->Prop}
def JAX (K:W.Frag) (E:XK) (Xp:Addr->Prop) (t:TA) (Δ:Evt) (P:List D->Evt->Prop):Prop:=
 ∀g G H σ Q,EW E Xp g->Ok K g G H σ Δ -> (∀vs ds G' H' Δ',Ok K g G' H' σ Δ' -> Same G G' -> Reps K G' vs ds->P ds Δ' -> Q vs H')->t σ H Q
theorem Zvv {t:TA}{P:List D->Evt->Prop}(h:JA K t Δ P):JAX K E Xp t Δ P:=λg G H σ Q _ k c=>h g G H σ Q k c
theorem Zrb {ta:TE}{tr:TA}{P:List D->Evt->Prop}(h:JEX K E Xp ta Δ λd Δ1=>JAX K E Xp tr Δ1 λds Δ2=>P (d::ds) Δ2):JAX K E Xp (tCons ta tr) Δ P:=λg G H σ Q w k c=>
 h g G H σ _ w k λx d G1 H1 Δ1 k1 s1 r1 p1=>p1 g G1 H1 σ _ w k1 λvs ds G2 H2 Δ2 k2 s2 r2 p2=>c _ _ G2 H2 Δ2 k2 (s1.trans s2) (.cons (r1.mono s2) r2) p2
theorem Zw5 {r:List V->Hp->VK->Prop}{ta:TA}{P:D->Evt->Prop}(h:JAX K E Xp ta Δ λds Δ1=>JC K r ds Δ1 P):JEX K E Xp (tCB r ta) Δ P:=λg G H σ Q w k c=>
 h g G H σ _ w k λvs ds G1 H1 Δ1 k1 s1 r1 p1=>p1 g G1 H1 σ Q vs k1 r1<|c.up s1
theorem Zrz {n:Nat}{sel:List Nat}{wi1:TI}{g1:TG}{te:TE}{P:D->Evt->Prop}
  (h:JI K wi1 Δ λds Δ1=>(∀i∈sel,∃d,Δ1[i]?=some (.val d))/\∃I:Nat->List D->Evt->Prop,I 0 [] (compD n sel Δ1) ∧
   (∀i d l Δ2,ds[i]?=some d->I i l Δ2->JG K g1 d Δ2 λΔ3=>JEX K E Xp te Δ3 λe Δ4=>l.length<sizeLine/\I (i+1) (l++[e]) Δ4) ∧
   ∀l Δ2,I ds.length l Δ2->P (.lst l) Δ1):JEX K E Xp (tCompG n sel wi1 g1 (.lst []) (tAppL te)) Δ P:=λg G H σ Q w k c=>
 h g G H σ _ k λJ ds G1 H1 Δ1 k1 s1 it ⟨hval,I,h0,ht,he⟩ acc hacc=>by
  have hGa:G1 acc=none:=by
   cases e:G1 acc with
   |none=>rfl
   |some u=>rw[k1.live _ _ e]at hacc;cases hacc
  have noOd:∀(i:Nat) x od,(compD n sel Δ1)[i]?=some x->x.od=some od->False:=λi x od e1 e2=>by
   rcases Zb7 e1 with z|⟨j,i',ei,ej,z⟩
   ·subst z;cases e2
   ·obtain⟨d,hd⟩:=hval i' (Wai ej)
    rw[hd]at z;cases z;cases e2
  have wg:∀o,EW E Xp (gInO G1 H1 acc o):=λo C H' h1 h2 h3 h4 x=>w.at k1 (λb o e=>h1 b o (λz=>z) e) x;refine⟨λi m σ' H'=>m=ds.length-i/\i<=ds.length/\∃G2 vs2 l2 Δ2,Reps K G2 vs2 l2/\Ok K (gInO G1 H1 acc (.lst vs2)) G2 H' σ' Δ2/\Same G1 G2/\I i l2 Δ2,⟨ds.length,by simp,Wbx _,G1,[],[],_,.nil,?_,Same.refl _,h0⟩,?_⟩
  ·refine⟨λb o hb e=>?_,λb hb=>hb.elim,Same.refl _,λb o e=>⟨?_,.inr e⟩,λb o e=>?_,?_,λi d e=>?_,λi x od e1 e2=>(noOd i x od e1 e2).elim,λi j x y od od' a e1 e2=>(noOd i x od e1 e2).elim⟩
   ·have e:H1 b=some o:=e
    rw[Zan (Zap e hacc)];exact e
   ·rw[Zan (Zap e hGa)];exact k1.live b o e
   ·have e:(if b=acc then some (HO.lst []) else none)=some o:=e
    by_cases hb:b=acc
    ·rw[if_pos hb]at e;cases e;subst hb
     exact⟨Zat,hGa,λi x od e1 e2=>(noOd i x od e1 e2).elim⟩
    ·rw[if_neg hb]at e;cases e
   ·unfold compD compSt;simp
   ·rcases Zb7 e with z|⟨j,i',ei,ej,z⟩
    ·cases z
    ·subst ei
     obtain⟨v,w1,w2⟩:=k1.val i' d z;exact⟨v,by rw[Zc0 ej,w1];rfl,w2⟩
  ·rintro i m σ2 H2 ⟨rfl,hi,G2,vs2,l2,Δ2,r2,k2,s2,h2⟩
   obtain⟨stop,go⟩:=it G2 H2 s2 k2.live;by_cases hlt:i<ds.length
   ·obtain⟨a1,a2⟩:=go i _ (Wab hlt)
    refine .inr ⟨a1,λσ' H'=>∃G3 vs3 l3 Δ3,Reps K G3 vs3 l3/\Ok K (gInO G1 H1 acc (.lst vs3)) G3 H' σ' Δ3/\Same G1 G3/\I (i+1) l3 Δ3,λσ' H' p'=>⟨ds.length-(i+1),by omega,rfl,hlt,p'⟩,λx H3 y=>?_⟩;obtain⟨G3,b1,b2,b3,b4⟩:=a2 x H3 y;have k3:=k2.grow b1 b2 b3;refine ht i _ l2 Δ2 (Wab hlt) h2 _ G3 H3 σ2 x _ k3 b4 λσ4 G4 H4 Δ4 k4 s4 p4=>?_;refine p4 _ G4 H4 σ4 _ (wg _) k4 λy d Ga Ha Δa ka sa r ⟨hl,p⟩=>?_;have ra':Reps K Ga vs2 l2:=r2.mono<|b1.trans<|s4.trans sa;obtain⟨w1,w2,w3⟩:=Zdx ka;exact⟨vs2,w1,by rw[ra'.length];exact hl,Ga,vs2++[y],l2++[d],Δa,Reps.append ra' (.cons r .nil),Zge hacc ka,s2.trans<|b1.trans<|s4.trans sa,p⟩
   ·have e:i=ds.length:=by omega
    subst e;obtain⟨w1,w2,w3⟩:=Zdx k2;refine .inl ⟨stop,?_⟩;have k9:Ok K g G2 H2 σ Δ1:=k1.grow s2 (λb o e=>k2.same b o (λz=>z) e) λb o e=>by
     obtain⟨f1,f2⟩:=k2.frz b o e;exact⟨f1,f2.symm⟩
    have pd:Pend K g G2 H2 σ Δ1 acc (.lst l2):=⟨.lst vs2,w1,r2,w2,k1.there hacc,(by
     cases q:g.Xo acc with
     |none=>rfl
     |some u=>have z:=(k1.ext acc u q).1;rw[hacc]at z;cases z),λi x od e1 e2 e3=>by
     obtain⟨a,oo,v1,v2,_⟩:=k1.own i x od e1 e2;rw[e3]at v1;cases v1;rw[hacc]at v2;cases v2⟩
    obtain⟨k10,sg,r10⟩:=k9.freeze pd w1;exact c _ _ _ H2 Δ1 k10 (s1.trans<|s2.trans sg) r10<|he l2 Δ2 h2
end
section
variable {K:W.Frag}{Δ:Evt}
end
section
variable {K:W.Frag}{Δ:Evt}{P:D->Evt->Prop}
end
open PySem PySem.Spec PyProof.Rows PySem.SeqAt
def rNeIL (K:W.Frag):R2:=λx y H Q=>∃(a b:Addr) (ns ms:List Int),x=.ref a/\y=.ref b/\SqL K H a (ns.map V.int)/\SqL K H b (ms.map V.int)/\Q (.bl (!decide (ns=ms))) H
theorem Zq0 {ns ms:List Int}(h:ns.length=ms.length):((Waq ns.length).all λj=>ns.getD j 0 == ms.getD j 0)=decide (ns=ms):=by
 rw[Wcw,Wba,decide_eq_true_eq];constructor
 ·intro z
  refine List.ext_getElem h λi h1 h2=>?_;have:=z i<|Wav.mpr h1;rw[Waf,Waf,Wab h1,Wab h2]at this;exact eq_of_beq this
 ·rintro rfl j _
  exact beq_self_eq_true _
section
variable {X:Cx}
theorem neILK (K:W.Frag) (hv:X.A.units+8<cLine) (hK:X.K=K:=by rfl):OpR X (compareOp .NotEq) (rNeIL K):=by
 subst hK;intro pins s σ H x y v u Q I rx ry h;obtain⟨a,b,ns,ms,rfl,rfl,ha,hb,q⟩:=h;cases rx;cases ry;obtain⟨its,w1,p1,_⟩:=I.list ha;obtain⟨its2,w2,p2,_⟩:=I.list hb;have i1:=Zb0 w1;have i2:=Zb0 w2;have l1:=i1.length;have l2:=i2.length;by_cases hl:ns.length=ms.length
 ·have hsz:its.toArray.size=its2.toArray.size:=by rw[Wah,Wah];omega
  refine RcNeAt.lists (A:=X.A) (s:=s) (e:=λj=>ns.getD j 0 == ms.getD j 0) p1.isList p2.isList hsz (by omega) (λj h1 h2=>?_) X.prog X.w _ _ ?_
  ·rw[Wah]at h1 h2
   obtain⟨t1,e1⟩:=intsAt i1 j h1;obtain⟨t2,e2⟩:=intsAt i2 j h2;rw[Wbf,Wbf,e1,e2];exact EqAt.int_int (A:=X.A.in1) (s:=s) (ns.getD j 0) t1 (ms.getD j 0) t2
  ·rw[Wah,show its.length=ns.length by omega,Zq0 hl]
   exact⟨.bl _,H,I,rfl,q⟩
 ·have hne:(its.toArray.size != its2.toArray.size)=true:=by
   rw[Wah,Wah,bne_iff_ne];omega
  refine RcNeAt.lists_lengths (A:=X.A) (s:=s) p1.isList p2.isList hne (by omega) X.prog X.w _ _ ?_;rw[decide_eq_false (λz=>hl<|by rw[z])]at q;exact⟨.bl _,H,I,rfl,q⟩
end
section
variable {K:W.Frag}{Δ:Evt}
theorem Zkc {P:D->Evt->Prop}{ns ms:List Int}(p:P (.bl (!decide (ns=ms))) Δ):JR2 K (rNeIL K) (.lst<|ns.map .int) (.lst<|ms.map .int) Δ P:=λg G H σ Q x y k rx ry c=>by
 obtain⟨a,vs,rfl,ha,rs⟩:=rx.inv;obtain⟨b,us,rfl,hb,rt⟩:=ry.inv;have e1:=rs.ints;have e2:=rt.ints;subst e1 e2;exact⟨a,b,ns,ms,rfl,rfl,SqL.of<|k.live _ _ ha,SqL.of<|k.live _ _ hb,c _ _ G H Δ k (Same.refl _) (.bl _) p⟩
end
open PySem PySem.Spec PyProof.Rows PySem.SeqAt
def rSmL (K:W.Frag) (r:Bool):R2:=λx y H Q=>Q (.bl r) H/\∃(G:Hp) (n:Nat) (a b:Addr) (xs ys:List V) (ds:List D),Same G H/\Reps K G xs ds/\Reps K G ys ds/\ds.all (Sm n)=true/\n<=5/\x=.ref a/\y=.ref b/\SqL K H a xs/\SqL K H b ys
def rSmA (K:W.Frag) (r:Bool):R2:=λx y H Q=>rSmT K r x y H Q\/rSmL K r x y H Q
section
variable {X:Cx}
theorem eqSmLK (K:W.Frag) (hv:X.A.units+8<cLine) (hK:X.K=K:=by rfl):OpR X (compareOp .Eq) (rSmL K true):=by
 subst hK;intro pins s σ H x y v u Q I rx ry h;obtain⟨q,G,n,a,b,xs,ys,ds,sg,ra,rb,hd,hn,rfl,rfl,h1,h2⟩:=h;cases rx;cases ry;obtain⟨its,w1,p1,_⟩:=I.list h1;obtain⟨its2,w2,p2,_⟩:=I.list h2;have l1:=w1.length;have l2:=w2.length;have l3:=ra.length;have l4:=rb.length;have z:=RcAt.lists (A:=X.A) (s:=s) (e:=λ_=>true) p1.isList p2.isList (by rw[Wah,Wah];omega) (by omega) λj h1 h2=>by
  have h1':j<its.length:=by simpa using h1
  have h2':j<its2.length:=by simpa using h2
  have hx:j<ds.length:=by omega
  obtain⟨p,hp1,hp2⟩:=ra.get<|Wab hx;obtain⟨q,hq1,hq2⟩:=rb.get<|Wab hx;obtain⟨va,hv1,hv2⟩:=w1.get hp1;obtain⟨vb,hw1,hw2⟩:=w2.get hq1;rw[Wab h1']at hv1;rw[Wab h2']at hw1;rw[Wbf,Wbf,Wa6.inj hv1,Wa6.inj hw1];exact Zdl n I sg hp2 hq2 hv2 hw2 (Wba.mp hd _<|Wbl hx) (by show X.A.units+1+n<cLine;omega)
 rw[Wba.mpr (λ_ _=>rfl)]at z;exact z X.prog X.w _ _ ⟨.bl _,H,I,rfl,q⟩
theorem eqAK (K:W.Frag) (hv:X.A.units+8<cLine) (hK:X.K=K:=by rfl):OpR X (compareOp .Eq) (rSmA K true):=by
 intro pins s σ H x y v u Q I rx ry h;rcases h with h|h
 ·exact eqSmTK K hv hK pins s σ H x y v u Q I rx ry h
 ·exact eqSmLK K hv hK pins s σ H x y v u Q I rx ry h
theorem neAK (K:W.Frag) (hv:X.A.units+8<cLine) (hK:X.K=K:=by rfl):OpR X (compareOp .NotEq) (rSmA K false):=by
 intro pins s σ H x y v u Q I rx ry h;rcases h with h|h
 ·exact neSmTK K hv hK pins s σ H x y v u Q I rx ry h
 ·exact neSmK K hv hK pins s σ H x y v u Q I rx ry h
end
theorem Zta {K:W.Frag}{Δ:Evt}{r:Bool}{P:D->Evt->Prop}{n:Nat}{ds:List D}(hn:n<=5) (h:ds.all (Sm n)=true) (p:P (.bl r) Δ):JR2 K (rSmA K r) (.tup ds) (.tup ds) Δ P:=λg G H σ Q x y k rx ry c=>
 .inl (Zv5 (P:=P) hn h p g G H σ Q x y k rx ry c)
theorem Zgp {K:W.Frag}{Δ:Evt}{r:Bool}{P:D->Evt->Prop}{n:Nat}{ds:List D}(hn:n<=5) (h:ds.all (Sm n)=true) (p:P (.bl r) Δ):JR2 K (rSmA K r) (.lst ds) (.lst ds) Δ P:=λg G H σ Q x y k rx ry c=>by
 obtain⟨_,_,rfl,ha,ra⟩:=rx.inv;obtain⟨_,_,rfl,hb,rb⟩:=ry.inv;exact .inr ⟨c _ _ G H Δ k (Same.refl _) (.bl r) p,G,n,_,_,_,_,ds,k.live,ra,rb,h,hn,rfl,rfl,SqL.of<|k.live _ _ ha,SqL.of<|k.live _ _ hb⟩
def rCount0T (K:W.Frag):V->List V->Hp->VK->Prop:=λx vs H Q=>∃(l b:Addr) (xs:List V) (zs:List (List V)),x=.ref l/\vs=[.ref b]/\SqT K H l xs/\Paired (λ(x:V) (z:List V)=>∃a,x=.ref a/\SqX K H false a z) xs zs/\SqX K H false b []/\Q (.int (zs.countP (·.isEmpty):Nat)) H
theorem count0TK {X:Cx}(K:W.Frag) (hv:X.A.units+8<cLine) (hK:X.K=K:=by rfl):MtM X "tuple.count" (rCount0T K):=by
 subst hK;intro pins s σ H x vs v us Q I rx rv h;obtain⟨l,b,xs,zs,rfl,rfl,hl,hp,hb,q⟩:=h;cases rx;obtain⟨u,rfl,ru⟩:=rv.one;cases ru;obtain⟨its,w1,pl,hz⟩:=I.tuple hl;obtain⟨⟨cls,dd,data,sl⟩,ho,hc,m,hd⟩:=pl;simp only at hc hd;subst hc hd;have key:∀{xs:List V}{its:List Value}{zs:List (List V)},Vals xs its->Paired (λ(x:V) (z:List V)=>∃a,x=.ref a/\SqX X.K H false a z) xs zs->(∀w∈its,EqAt X.A.in1 s w (.ref b) (bareAt s.heap w))/\its.countP (bareAt s.heap)=zs.countP (·.isEmpty):=by
  intro xs its zs w p
  induction w generalizing zs with
  |nil=>cases p;exact⟨λw hw=>(nomatch hw),rfl⟩
  |cons r t ih=>
   cases p with
   |cons hx t2=>
    obtain⟨a,rfl,ha⟩:=hx;cases r;obtain⟨e1,e2⟩:=Zk2 I hv ha hb;obtain⟨i1,i2⟩:=ih t2;refine⟨λw hw=>?_,by rw[Wcb,Wcb,i2,e1]⟩;rcases Wap.mp hw with z|z
    ·rw[z,e1];exact e2
    ·exact i1 w z
 obtain⟨hf1,hf2⟩:=key w1 hp;refine call_meets PySem.F.slot_tuple_count ⟨_,ho,rfl⟩ PySem.F.entry_tuple_count (PySem.F.args_tuple_count_2 _ _) (tuple_countAt l its.toArray m dd sl (.ref b)<|bareAt s.heap) ⟨ho,λy hy=>hf1 y (by simpa using hy),?_⟩;rw[show its.toArray.toList=its from rfl,hf2];exact⟨.int _,H,I.tok _,⟨_,rfl⟩,q⟩
theorem Zmv {K:W.Frag}{Δ:Evt}{P:D->Evt->Prop}{to te:TE}(h:JE K to Δ λd Δ1=>∃zs:List (List D),d=.tup (zs.map .tup)/\JE K te Δ1 λe Δ2=>e=.tup []/\P (.int (zs.countP (·.isEmpty):Nat)) Δ2) :
  JE K (tBM K "tuple" (rCount0T K) to<|tCons te tNil) Δ P:=λg G H σ Q k c=>
 h g G H σ _ k λv d G1 H1 Δ1 k1 s1 r1 ⟨zs,ed,p1⟩=>by
  subst ed;obtain⟨l,vs,rfl,hl,rs⟩:=r1.inv;refine⟨.inr (.inl ⟨rfl,.inr ⟨_,k1.live _ _ hl⟩⟩),p1 g G1 H1 σ _ k1 λu e G2 H2 Δ2 k2 s2 r2 ⟨ee,p2⟩=>?_⟩;subst ee;have key:∀{vs:List V}{zs:List (List D)},Reps K G2 vs (zs.map .tup)->∃ws:List (List V),Paired (λ(x:V) (z:List V)=>∃a,x=.ref a/\SqX K H2 false a z) vs ws/\ws.countP (·.isEmpty)=zs.countP (·.isEmpty):=by
   intro vs zs r
   induction zs generalizing vs with
   |nil=>cases r;exact⟨[],.nil,rfl⟩
   |cons z zs ih=>
    cases r with
    |cons ra rb=>
     obtain⟨ws,i1,i2⟩:=ih rb;obtain⟨a,us,rfl,ha,ru⟩:=ra.inv;exact⟨us::ws,.cons ⟨a,rfl,SqT.of<|k2.live _ _ ha⟩ i1,by rw[Wcb,Wcb,i2,ru.isEmpty]⟩
  obtain⟨ws,i1,i2⟩:=key<|rs.mono s2;have hb:∃b,u=.ref b/\SqX K H2 false b []:=by
   obtain⟨b,us,rfl,hb,ru⟩:=r2.inv;cases ru.inv;exact⟨b,rfl,SqT.of<|k2.live _ _ hb⟩
  obtain⟨b,rfl,hb⟩:=hb;refine⟨l,b,vs,ws,rfl,rfl,SqT.of<|k2.live _ _<|s2 _ _ hl,i1,hb,?_⟩;rw[i2];exact c _ _ G2 H2 Δ2 k2 (s1.trans s2) (.int _) p2
end L2
set_option Elab.async false
set_option linter.all false
set_option maxRecDepth 100000
set_option maxHeartbeats 4000000
namespace Lw
open PySem L2
def top (i:Nat):Stmt:=PySem.Challenge.pw_holefloor_k43_orders_by_tables.main.body.getD i (.Pass ⟨0,0,0,0⟩)
abbrev Ya8:Stmt:=top 5
abbrev Ya9:Stmt:=top 6
abbrev Yax:Stmt:=top 9
abbrev Yba:Stmt:=top 10
abbrev Yai:Stmt:=top 12
abbrev Yaj:Stmt:=top 13
abbrev Yak:Stmt:=top 14
abbrev Ybb:Stmt:=top 15
abbrev Ybc:Stmt:=top 17
abbrev Ybd:Stmt:=top 18
abbrev Yay:Stmt:=top 19
abbrev Yar:Stmt:=top 21
abbrev Yac:Stmt:=top 23
abbrev Ybe:Stmt:=top 24
abbrev Yad:Stmt:=top 25
abbrev Yaz:Stmt:=top 27
abbrev Ybf:Stmt:=top 28
abbrev Ybg:Stmt:=top 29
abbrev Yal:Stmt:=top 30
abbrev Ybh:Stmt:=top 31
abbrev Ya0:Stmt:=top 32
abbrev Ybi:Stmt:=top 33
abbrev Yam:Stmt:=top 34
abbrev Ybj:Stmt:=top 35
abbrev Ya1:Stmt:=top 36
abbrev Ybk:Stmt:=top 37
abbrev Ybl:Stmt:=top 38
abbrev Yas:Stmt:=top 39
abbrev Ybm:Stmt:=top 40
abbrev Yat:Stmt:=top 41
abbrev Ya2:Stmt:=top 42
abbrev Yan:Stmt:=top 43
abbrev Yag:Stmt:=top 44
theorem Ybv:FnScope ["thing"] ["thing"] (defScope Ya8):=⟨rfl,rfl,rfl,by decide +kernel,rfl,by decide +kernel,by decide +kernel⟩
theorem Ybw:FnScope ["thing"] ["thing"] (defScope Ya9):=⟨rfl,rfl,rfl,by decide +kernel,rfl,by decide +kernel,by decide +kernel⟩
theorem Ybx:FnScope ["web","place"] ["web","place"] (defScope Yax):=⟨rfl,rfl,rfl,by decide +kernel,rfl,by decide +kernel,by decide +kernel⟩
theorem Yby:FnScope ["web","end"] ["web","end"] (defScope Yba):=⟨rfl,rfl,rfl,by decide +kernel,rfl,by decide +kernel,by decide +kernel⟩
theorem Ybs:FnScope ["web","rows"] ["web","rows"] (defScope Yai):=⟨rfl,rfl,rfl,by decide +kernel,rfl,by decide +kernel,by decide +kernel⟩
theorem Ybt:FnScope ["ends","row"] ["ends","row"] (defScope Yaj):=⟨rfl,rfl,rfl,by decide +kernel,rfl,by decide +kernel,by decide +kernel⟩
theorem Yao:FnScope ["ends","at"] ["ends"] (defScope Yak):=⟨rfl,rfl,rfl,by decide +kernel,rfl,by decide +kernel,by decide +kernel⟩
theorem Ybu:FnScope ["web","order","end","row"] ["web","order","end"] (defScope Ybb):=⟨rfl,rfl,rfl,by decide +kernel,rfl,by decide +kernel,by decide +kernel⟩
theorem Ybz:FnScope ["web","order","end"] ["web","order","end"] (defScope Ybc):=⟨rfl,rfl,rfl,by decide +kernel,rfl,by decide +kernel,by decide +kernel⟩
theorem Ya3:FnScope ["web","order","end","face","come"] ["web","order","end"] (defScope Ybd):=⟨rfl,rfl,rfl,by decide +kernel,rfl,by decide +kernel,by decide +kernel⟩
theorem Yap:FnScope ["web","order","told","gone","end","face","come"] ["web","order"] (defScope Yay):=⟨rfl,rfl,rfl,by decide +kernel,rfl,by decide +kernel,by decide +kernel⟩
theorem Ybn:FnScope ["rows","places","ties"] ["rows"] (defScope Yar):=⟨rfl,rfl,rfl,by decide +kernel,rfl,by decide +kernel,by decide +kernel⟩
theorem Ya4:FnScope ["table","ends"] ["table"] (defScope Yac):=⟨rfl,rfl,rfl,by decide +kernel,rfl,by decide +kernel,by decide +kernel⟩
theorem Ybo:FnScope ["told","web","order"] ["told"] (defScope Ybe):=⟨rfl,rfl,rfl,by decide +kernel,rfl,by decide +kernel,by decide +kernel⟩
theorem Yaf:FnScope ["web","table","told","ends","firsts"] ["web","table"] (defScope Yad):=⟨rfl,rfl,rfl,by decide +kernel,rfl,by decide +kernel,by decide +kernel⟩
theorem Yb0:FnScope ["_law_script"] ["_law_script"] (defScope Yaz):=⟨rfl,rfl,rfl,by decide +kernel,rfl,by decide +kernel,by decide +kernel⟩
theorem Yah:FnScope ["_law_pen_here","_law_many","_law_digit","_law_at","_law_cell","_law_number"] ["_law_pen_here","_law_many"] (defScope Ybf):=⟨rfl,rfl,rfl,by decide +kernel,rfl,by decide +kernel,by decide +kernel⟩
theorem Yab:FnScope ["_law_pen_here","_law_places","_law_ties","_law_many","_law_way","_law_count","_law_found","_law_k","_law_a","_law_b"] ["_law_pen_here","_law_places","_law_ties"] (defScope Ybg):=⟨rfl,rfl,rfl,by decide +kernel,rfl,by decide +kernel,by decide +kernel⟩
theorem Ya5:FnScope ["_law_pen_here","_law_web_here","_law_rows_here","_law_k","_law_row","!0","!1","!2","!3","!4","!5","!6","!7","!8","!9","!10","!11","!12","!13","!14","!15","!16","!17","!18","!19","!20","!21","!22","!23","!24"] ["_law_pen_here","_law_web_here"] (defScope Yal):=⟨rfl,rfl,rfl,by decide +kernel,rfl,by decide +kernel,by decide +kernel⟩
theorem Yb1:FnScope ["_law_end"] ["_law_end"] (defScope Ybh):=⟨rfl,rfl,rfl,by decide +kernel,rfl,by decide +kernel,by decide +kernel⟩
theorem Yae:FnScope ["_law_order_here","_law_behind","_law_row","_law_k","_law_found","_law_met","_law_end","_law_walk","_law_at"] ["_law_order_here"] (defScope Ya0):=⟨rfl,rfl,rfl,by decide +kernel,rfl,by decide +kernel,by decide +kernel⟩
theorem Yb2:FnScope ["_law_found"] ["_law_found"] (defScope Ybi):=⟨rfl,rfl,rfl,by decide +kernel,rfl,by decide +kernel,by decide +kernel⟩
theorem Yb3:FnScope ["_law_found","_law_due"] ["_law_found","_law_due"] (defScope Yam):=⟨rfl,rfl,rfl,by decide +kernel,rfl,by decide +kernel,by decide +kernel⟩
theorem Ybp:FnScope ["_law_pen_here","_law_things","_law_found","_law_thing"] ["_law_pen_here","_law_things"] (defScope Ybj):=⟨rfl,rfl,rfl,by decide +kernel,rfl,by decide +kernel,by decide +kernel⟩
theorem Ya6:FnScope ["_law_pen_here","_law_loops_here","_law_many","_law_names"] ["_law_pen_here"] (defScope Ya1):=⟨rfl,rfl,rfl,by decide +kernel,rfl,by decide +kernel,by decide +kernel⟩
theorem Yau:FnScope ["_law_pen_here","_law_many","_law_found","_law_k","_law_place"] ["_law_pen_here"] (defScope Ybk):=⟨rfl,rfl,rfl,by decide +kernel,rfl,by decide +kernel,by decide +kernel⟩
theorem Yaq:FnScope ["_law_pen_here","_law_rows_here","_law_found","_law_row","_law_at","_law_face"] ["_law_pen_here","_law_rows_here"] (defScope Ybl):=⟨rfl,rfl,rfl,by decide +kernel,rfl,by decide +kernel,by decide +kernel⟩
theorem Yav:FnScope ["_law_web_here","_law_rows_here","_law_found","_law_place","_law_ends","_law_own"] ["_law_web_here","_law_rows_here"] (defScope Yas):=⟨rfl,rfl,rfl,by decide +kernel,rfl,by decide +kernel,by decide +kernel⟩
theorem Ya7:FnScope ["_law_web_here","_law_table","_law_found","e"] ["_law_web_here","_law_table"] (defScope Ybm):=⟨rfl,rfl,rfl,by decide +kernel,rfl,by decide +kernel,by decide +kernel⟩
theorem Ybq:FnScope ["_law_pen_here","_law_rows_here","_law_many","_law_one","_law_other","_law_names"] ["_law_pen_here","_law_rows_here","_law_many"] (defScope Yat):=⟨rfl,rfl,rfl,by decide +kernel,rfl,by decide +kernel,by decide +kernel⟩
theorem Ybr:FnScope ["_law_pen_here","_law_ties","_law_many","_law_web_here"] ["_law_pen_here","_law_ties"] (defScope Ya2):=⟨rfl,rfl,rfl,by decide +kernel,rfl,by decide +kernel,by decide +kernel⟩
theorem Yaw:FnScope ["_law_pen_here","_law_web_here","_law_order_here","_law_rows_here","_law_lone","_law_way"] ["_law_pen_here","_law_web_here","_law_order_here"] (defScope Yan):=⟨rfl,rfl,rfl,by decide +kernel,rfl,by decide +kernel,by decide +kernel⟩
theorem Yaa:FnScope ["_law_script","_law_pen_here","_law_web_here","_law_way","_law_order_here","_law_rows_here","_law_table","_law_other","_law_second","_law_kept","_law_found","_law_due"] ["_law_script"] (defScope Yag):=⟨rfl,rfl,rfl,by decide +kernel,rfl,by decide +kernel,by decide +kernel⟩
def Mb (mg:Str->Option Value):Prop:=∀x∈["ValueError","abs","all","bool","enumerate","int","isinstance","len","list","max","min","range","repr","set","sorted","sum","tuple","zip"],mg x=none
structure Cl (K:W.Frag) (mg:Str->Option Value) (c_FloorError c_NoOrder c_NoTable:Addr):Prop where
 n_FloorError:mg "FloorError" = some (.ref c_FloorError)
 e_FloorError:ExcC K c_FloorError
 n_NoOrder:mg "NoOrder" = some (.ref c_NoOrder)
 e_NoOrder:ExcC K c_NoOrder
 n_NoTable:mg "NoTable" = some (.ref c_NoTable)
 e_NoTable:ExcC K c_NoTable
 i_NoOrder:ExcI K c_NoOrder
 m_NoOrder:PySem.W.mroIn K c_NoOrder (.ref c_FloorError)=some true
 t_NoOrder:PySem.W.kitOne K (.ref c_NoOrder) (.type "ValueError")=some true
 k_NoOrder_NoTable:PySem.W.kitOne K (.ref c_NoOrder) (.ref c_NoTable)=some false
 k_NoOrder_NoOrder:PySem.W.kitOne K (.ref c_NoOrder) (.ref c_NoOrder)=some true
 i_NoTable:ExcI K c_NoTable
 m_NoTable:PySem.W.mroIn K c_NoTable (.ref c_FloorError)=some true
 t_NoTable:PySem.W.kitOne K (.ref c_NoTable) (.type "ValueError")=some true
 k_NoTable_NoTable:PySem.W.kitOne K (.ref c_NoTable) (.ref c_NoTable)=some true
 k_NoTable_NoOrder:PySem.W.kitOne K (.ref c_NoTable) (.ref c_NoOrder)=some false
local macro_rules | `(tactic| walk_at "js")=>`(tactic| first
 |with_reducible refine Zaj (t:=tAsg _ _) ?_
 |with_reducible refine Zaj (t:=tPar _ _ _) ?_
 |with_reducible refine Zaj (t:=tDrop _) ?_
 |with_reducible refine iteF ?_
 |with_reducible refine iteT ?_
 |with_reducible refine Zaz ?_
 |with_reducible refine Za0 ?_
 |with_reducible refine Zbn ?_
 |with_reducible refine Zpc ?_
 |with_reducible refine Za1 ?_
 |refine Zt9 rfl rfl ?_
 |refine Zh3 rfl rfl ?_
 |with_reducible refine Zam ?_
 |with_reducible refine Zxe ?_
 |with_reducible refine Zak ?_
 |with_reducible refine Zgi ?_
 |with_reducible refine Zhh ?_
 |with_reducible refine Zec ?_
 |with_reducible refine Zas ?_
 |with_reducible refine Zaw ?_
 |refine Zgr rfl rfl ?_
 |refine Zbj rfl rfl ?_
 |with_reducible refine Zbs ?_
 |with_reducible refine Zd4 ?_
 |with_reducible refine Zw9 ?_
 |with_reducible refine Zkv ?_
 |with_reducible refine Zep ?_
 |with_reducible refine Zw0 ?_
 |with_reducible refine Zh5 ?_
 |with_reducible refine Zcb ?_
 |with_reducible refine Zce ?_
 |with_reducible refine Zae ?_
 |with_reducible refine Zab ?_
 |with_reducible refine Zay ?_
 |with_reducible refine Zj1 ?_
 |with_reducible refine Zer ?_
 |with_reducible refine Zca ?_
 |with_reducible refine Zbk ?_
 |with_reducible refine Zba ?_
 |with_reducible refine Zc3 ?_
 |with_reducible refine Zuh ?_
 |with_reducible refine Zne ?_
 |with_reducible refine Zeq ?_
 |with_reducible refine Zha ?_
 |with_reducible refine Zv1 ?_
 |with_reducible refine Zlo ?_
 |with_reducible refine Zb3 ?_
 |refine Zac rfl ?_
 |refine Za6 rfl ?_
 |refine Zee rfl ?_
 |refine Zbl (Or.inl rfl) ?_
 |refine Zbl (Or.inr rfl) ?_
 |refine Zcf (Or.inl rfl) ?_
 |refine Zcf (Or.inr rfl) ?_
 |refine Zk4 (Or.inl rfl) ?_
 |refine Zk4 (Or.inr rfl) ?_
 |refine Zic ?_
 |refine⟨⟨_,_,rfl,rfl⟩,?_⟩
 |refine⟨_,_,_,_,rfl,rfl,rfl,rfl,?_⟩
 |refine⟨_,rfl,?_⟩
 |refine jr_I (by first|(show (0:Int)<_;omega)|exact⟨by omega,by omega⟩|exact Or.inl ⟨by omega,by omega⟩|exact Or.inr ⟨by omega,by omega⟩|exact⟨by decide,by decide,by decide⟩) ?_)
local macro_rules | `(tactic| walk_at "draw")=>`(tactic| first|refine Zfu rfl rfl (by assumption) (by omega) (by omega) λ_ _ _ _ _=>?_|refine⟨_,_,rfl,rfl,by assumption,_,rfl,by omega,by omega,λ_ _ _ _ _=>?_⟩)
def Pen (ps:List D):Prop:=∃(cs:List Int) (at_ num:Int),ps=[.lst (cs.map .int),.int at_,.int num]/\0<=at_/\0<=num/\cs.length<=63
def fDraw:BSp:=λps ds Post=>Pen ps/\∃m:Int,ds=[.int m]/\1<=m/\m<=100000000000000000000000000000000000000000000000000000000000/\∀r ps',Pen ps' -> 0<=r->r<m->Post (.int r) ps'
abbrev LendQ (f:BSp) (i:Nat) (P:D->Evt->Prop):List D->Evt->Prop:=λds Δ1=>∃y ps,Δ1[i]?=some y/\y.od=some (.lst ps)/\f ps ds λd ps'=>P d (Δ1.set i<|y.put (.lst ps'))
theorem Zgr {K:W.Frag}{Δ:Evt}{P:D->Evt->Prop}{f:BSp}{ta:TA}{E:XK}{i:Nat}{x:Slot}{od:OD}(hx:Δ[i]?=some x) (ho:x.od=some od) (h:JA K ta Δ (LendQ f i P)):JE K (tCall (spB K f) [] E<|tCons (tVar i) ta) Δ P:=Zbj hx ho h
theorem Zfu {Δ1:Evt}{i:Nat}{y:Slot}{ps:List D}{m:Int}{P:D->Evt->Prop}(hx:Δ1[i]?=some y) (ho:y.od=some (.lst ps)) (hp:Pen ps) (h1:1<=m) (h2:m<=100000000000000000000000000000000000000000000000000000000000) (h:∀r ps',Pen ps' -> 0<=r->r<m->P (.int r) (Δ1.set i<|y.put (.lst ps'))) :
  LendQ fDraw i P [.int m] Δ1:=⟨y,ps,hx,ho,hp,m,rfl,h1,h2,h⟩
theorem Zrd {K:W.Frag}{Δ:Evt}{E:XK}{i:Nat}{y:Slot}{ps:List D}{m:Int}{P:D->Evt->Prop}(hx:Δ[i]?=some y) (ho:y.od=some (.lst ps)) (hp:Pen ps) (h1:1<=m) (h2:m<=100000000000000000000000000000000000000000000000000000000000) (h:∀r ps',Pen ps' -> 0<=r->r<m->P (.int r) (Δ.set i<|y.put (.lst ps'))) :
  JE K (tCall (spB K fDraw) [] E<|tCons (tVar i)<|tCons (tC (.int m)) tNil) Δ P:=Zgr hx ho<|Zab<|Zak<|Zae<|Zfu hx ho hp h1 h2 h
section
variable {P:Program}{w:World}{K:W.Frag}{mg:Str->Option Value}{base:Heap}{f:Addr}{fd:FuncData}
theorem Zty (mb:Mb mg) (F:Fun K "_law_draw" "_law_draw" Ybf f fd):FnOk P w K mg base CX0 1 f fd ["_law_pen_here","_law_many"] (spB K fDraw):=by
 refine F.ok Yah (Zdi λps ds Post h=>by obtain⟨_,m,rfl,_⟩:=h;rfl) λcdv A outer s H vs Q E hr h=>?_;have hu:=Zbv hr;refine⟨_,(Zaf (Zbd (Zao Zmm (Zbe (ixK K hu) (pv 0) Zag λ_ _=>rfl) Zag<|nomark _) (Zaf (Zaq (i:=2) Yah.nd rfl (Or.inl rfl)<|Zax Zcg (Zbe (ixK K hu) (pv 0) Zag λ_ _=>rfl)<|pv 1)<|Zaf (Zf5 (Zax Zh8 (Zbe (ixK K hu) (pv 0) Zag λ_ _=>rfl)<|pv 1)<|Zgs (pv 0) Zag<|setU hu)<|Zai<|Zau<|pv 2) Zar)<|Zaf (Zaq (i:=3) Yah.nd rfl (Or.inl rfl)<|Zbe (ixK K hu) (pv 0) Zag λ_ _=>rfl)<|Zaf (Zf5 (Zax (addK K) (pv 3) Zag)<|Zgs (pv 0) Zag<|setU hu)<|Zaf (Zaq (i:=4) Yah.nd rfl (Or.inl rfl) Zag)<|Zaf (Zbd (Zao Zmm (Zah (lenK K) rfl (mb "len"<|by decide) Za5<|Zaa (Zbe (ixK K hu) (pv 0) Zag λ_ _=>rfl) Zad) Zag<|nomark _) (Zai<|Zaq (i:=4) Yah.nd rfl (Or.inl rfl)<|Zbe (ixK K hu) (Zbe (ixK K hu) (pv 0) Zag λ_ _=>rfl) (Zax Zcg (pv 3)<|Zah (lenK K) rfl (mb "len"<|by decide) Za5<|Zaa (Zbe (ixK K hu) (pv 0) Zag λ_ _=>rfl) Zad) λ_ _=>rfl) Zar)<|Zaf (Zbd (PW.pt<|pw_and (Zao Zxg (pv 3) (Zah (lenK K) rfl (mb "len"<|by decide) Za5<|Zaa (Zbe (ixK K hu) (pv 0) Zag λ_ _=>rfl) Zad)<|nomark _)<|pw_and1<|Zao Zxb (Zah Zit rfl (mb "abs"<|by decide) Zom<|Zaa (pv 4) Zad) (Zax Zwl Zag Zag)<|nomark _) (Zaf (Zf5 (Zax Zh8 (Zah Zit rfl (mb "abs"<|by decide) Zom<|Zaa (pv 4) Zad)<|pv 1)<|Zgs (pv 0) Zag<|setU hu)<|Zai<|Zau<|Zax Zcg (Zah Zit rfl (mb "abs"<|by decide) Zom<|Zaa (pv 4) Zad)<|pv 1) Zar)<|Zaf (Zaq (i:=5) Yah.nd rfl (Or.inl rfl)<|Zax Zcg (Zax Zcl (Zax (addK K) (Zax (addK K) (Zax Zcg (pv 4) Zag)<|Zax Zcl Zag<|pv 3) Zag) Zag) Zag)<|Zaf (Zaq (i:=5) Yah.nd rfl (Or.inl rfl)<|Zax Zcg (Zax (addK K) (Zax (addK K) (Zax Zcl (pv 5)<|pv 5)<|Zax Zcl Zag<|pv 5)<|pv 3) Zag)<|Zai<|Zau<|Zax Zcg (Zax Zh8 (Zax Zcg (Zax Zcl (pv 5) Zag) Zag) Zag)<|pv 1),Zhc (λps ds Post hf=>?_) h⟩;obtain⟨⟨cs,at_,num,rfl,h1,h2,h3⟩,m,rfl,h4,h5,q⟩:=hf;refine⟨by simp,?_⟩;dsimp only[cxOf,startD,Wbj,Wbn,Wa9,Wae];refine Zb6 (λΔ=>¬ 0<num /\ Δ = [.bor (.lst [.lst (cs.map .int),.int at_,.int num]),.val (.int m),.any,.any,.any,.any]) ?_ ?_
 ·repeat walk_at "js"
  refine ite2 (λc=>?_) λc=>?_
  ·have c:=of_decide_eq_true c
   repeat walk_at "js"
   exact q _ _ ⟨cs,at_,num / m,rfl,h1,Int.ediv_nonneg h2 (by omega),h3⟩ (Wdg _<|by omega) (Wc3 _<|by omega)
  ·repeat walk_at "js"
   exact⟨of_decide_eq_false<|Wdj.mpr c,rfl⟩
 rintro Δ1 ⟨hn,rfl⟩
 repeat walk_at "js"
 refine Zb6 (λΔ=>∃c:Int,Δ = [.bor (.lst [.lst (cs.map .int),.int (at_+1),.int num]),.val (.int m),.any,.val (.int at_),.val (.int c),.any]) ?_ ?_
 ·repeat walk_at "js"
  refine ite2 (λc=>?_) λc=>?_
  ·have c:=of_decide_eq_true c
   rw[Waa]at c
   repeat walk_at "js"
   rw[Waa]
   repeat walk_at "js"
   obtain⟨cell,_,hc⟩:=Zn0 (f:=D.int) (xs:=cs) (i:=at_ % (cs.length:Int)) (Wdg _<|by omega) (Wc3 _<|by omega);refine Zee hc ?_;exact⟨cell,rfl⟩
  ·repeat walk_at "js"
   exact⟨11,rfl⟩
 rintro Δ1 ⟨cell,rfl⟩;refine Zb6 (λΔ=>Δ = [.bor (.lst [.lst (cs.map .int),.int (at_+1),.int num]),.val (.int m),.any,.val (.int at_),.val (.int cell),.any]) ?_ ?_
 ·repeat walk_at "js"
  refine ite2 (λc=>?_) λc=>?_
  ·repeat walk_at "js"
   refine ite2 (λc=>?_) λc=>?_
   ·repeat walk_at "js"
    have ha:0<=(if cell<0 then -cell else cell):=by split <;> omega
    exact q _ _ ⟨cs,at_+1,_,rfl,by omega,Int.ediv_nonneg ha (by omega),h3⟩ (Wdg _<|by omega) (Wc3 _<|by omega)
   ·repeat walk_at "js"
    rfl
  ·repeat walk_at "js"
   rfl
 rintro Δ1 rfl
 repeat walk_at "js"
 exact q _ _ ⟨cs,at_+1,num,rfl,by omega,h2,h3⟩ (Wdg _<|by omega) (Wc3 _<|by omega)
end
def fPen:NSp:=λds Post=>∃ns:List Int,ds=[.scr (ns.map .int)]/\ns.length<=63/\∀ps,Pen ps->Post ps
section
variable {P:Program}{w:World}{K:W.Frag}{mg:Str->Option Value}{base:Heap}{f:Addr}{fd:FuncData}
theorem Zwk (mb:Mb mg) (F:Fun K "_law_pen" "_law_pen" Yaz f fd):FnOk P w K mg base CX0 1 f fd ["_law_script"] (spN K fPen):=by
 refine F.ok Yb0 (Zfr λds Post h=>by obtain⟨ns,rfl,_⟩:=h;rfl) λcdv A outer s H vs Q E hr h=>?_;have hu:=Zbv hr;refine⟨_,(Zai<|Zau<|Zc9<|Zaa (Za3 ["_law_cell"] (show CompSc (defScope Yaz) ["_law_script"] _ [] [] from ⟨rfl,by decide +kernel,by decide +kernel,by decide +kernel,rfl,by decide +kernel⟩) rfl (seqK K<|Zbo (slK K) (pv 0) Zcc<|Zcd Zag) (λ_ _ _ _ _=>(Zal (i:=0) (show List.Nodup (["_law_cell"]:List Str) from by decide) rfl<|Or.inl rfl)) (λ_ _ _ _ _=>Zbb) λ_ _ _ _ _=>(pv 0))<|Zaa Zag<|Zaa Zag Zad),Zmw (λds Post hf=>?_) h⟩;obtain⟨ns,rfl,h1,q⟩:=hf;refine⟨by simp,?_⟩;dsimp only[cxOf,startD,Wbj,Wbn,Wa9,Wae];refine Zfx<|Zfh<|Zab<|Za7 (by decide)<|Zcn ?_
 repeat walk_at "js"
 have e:cutD (ns.map D.int) none (some 63)=ns.map D.int:=by
  unfold cutD;have e1:HT.sIx (ns.map D.int).length 0 none=0:=rfl;have e2:HT.sIx (ns.map D.int).length (ns.map D.int).length (some 63)=ns.length:=by
   rw[Waa];show min (Int.toNat 63) ns.length=_;omega
  rw[e1,e2,Wc7,Wd0,Wcz (by simp)]
 rw[e];refine⟨_,Or.inl rfl,by rw[Waa];exact Wch h1 (by decide),λ_=>true,λd=>d,λi d hd=>?_,?_⟩
 ·repeat walk_at "js"
  exact⟨rfl,Zac rfl ⟨rfl,_,rfl⟩⟩
 ·repeat walk_at "js"
  refine⟨by show 3<=sizeLine;decide,_,rfl,q _ ⟨ns,0,0,?_,by decide,by decide,h1⟩⟩;simp
end
def encTie (t:Int × Int):D:=.tup [.int t.1,.int t.2]
def encWeb (n:Int) (ts:List (Int × Int)):D:=.tup [.int n,.tup (ts.map encTie)]
structure WebOk (n:Int) (ts:List (Int × Int)):Prop where
 lo:1<=n
 hi:n<=100
 len:ts.length<=24
 tie:∀t∈ts,0<=t.1/\t.1<n/\0<=t.2/\t.2<n
def fWeb:BSp:=λps ds Post=>Pen ps/\∃a b:Int,ds=[.int a,.int b]/\1<=a/\a<=25/\0<=b/\b<=24/\∀n ts ps',Pen ps' -> WebOk n ts->n<=a->(ts.length:Int)<=b->Post (encWeb n ts) ps'
section
variable {P:Program}{w:World}{K:W.Frag}{mg:Str->Option Value}{base:Heap}{f:Addr}{fd:FuncData}
theorem Zw7 (mb:Mb mg) (C40:Callee P w K mg base 1 "_law_draw" ["_law_pen_here","_law_many"] (spB K fDraw)) (F:Fun K "_law_web" "_law_web" Ybg f fd):FnOk P w K mg base CX0 2 f fd ["_law_pen_here","_law_places","_law_ties"] (spB K fWeb):=by
 refine F.ok Yab (Zdi λps ds Post h=>by obtain⟨_,a,b,rfl,_⟩:=h;rfl) λcdv A outer s H vs Q E hr h=>?_;have hu:=Zbv hr;refine⟨_,(Zaf (Zaq (i:=3) Yab.nd rfl (Or.inl rfl)<|Zax (addK K) Zag<|Zav C40 (hr.mono<|by decide)<|Zaa (pv 0)<|Zaa (pv 1) Zad)<|Zaf (Zaq (i:=4) Yab.nd rfl (Or.inl rfl)<|Zav C40 (hr.mono<|by decide)<|Zaa (pv 0)<|Zaa Zag Zad)<|Zaf (Zaq (i:=5) Yab.nd rfl (Or.inl rfl)<|Zav C40 (hr.mono<|by decide)<|Zaa (pv 0)<|Zaa (Zax (addK K) (pv 2) Zag) Zad)<|Zaf (Zbd (Zao Zbm (pv 4) Zag<|nomark _) (Zaf (Zaq (i:=3) Yab.nd rfl (Or.inl rfl)<|pv 1)<|Zai<|Zaq (i:=5) Yab.nd rfl (Or.inl rfl)<|pv 2) Zar)<|Zaf (Zaq (i:=6) Yab.nd rfl (Or.inl rfl)<|Zc9 Zad)<|Zaf (Zd3 PassesOwn.never rfl (Zbg rfl (mb "range"<|by decide)<|Zaa (pv 5) Zad) (Zal (i:=7) Yab.nd rfl<|Or.inl rfl)<|Zaf (Zph (i:=8) (j:=9) rfl Yab.nd rfl rfl (by decide) rfl rfl (Zaa (Zav C40 (hr.mono<|by decide)<|Zaa (pv 0)<|Zaa (pv 3) Zad)<|Zaa (Zav C40 (hr.mono<|by decide)<|Zaa (pv 0)<|Zaa (pv 3) Zad) Zad) rfl)<|Zaf (Zbd (Zao Zbm (pv 4) Zag<|nomark _) (Zai<|Zph (i:=8) (j:=9) rfl Yab.nd rfl rfl (by decide) rfl rfl (Zaa (Zax Zcg (pv 7)<|pv 3)<|Zaa (Zax Zcg (Zax (addK K) (pv 7) Zag)<|pv 3) Zad) rfl) Zar)<|Zaf (Zbd (Zao Zbm (pv 4) Zag<|nomark _) (Zai<|Zaq (i:=8) Yab.nd rfl (Or.inl rfl) Zag) Zar)<|Zaf (Zbd (Zao Zbm (pv 4) Zag<|nomark _) (Zai<|Zaq (i:=9) Yab.nd rfl (Or.inl rfl)<|Zax (addK K) (Zax Zcg (pv 8) Zag)<|Zax Zcl (Zax Zh7 (pv 9) Zag) Zag) Zar)<|Zaf (Zbd (PW.pt<|pw_and (Zao Zbm (pv 4) Zag<|nomark _)<|pw_and1<|Zao Zbm (Zax Zcg (pv 9) Zag) Zag<|nomark _) (Zai<|Zaq (i:=9) Yab.nd rfl (Or.inl rfl)<|pv 8) Zar)<|Zai<|Zc5<|bmK K PySem.F.plainAttrs_list PySem.F.slot_list_append PySem.F.type_list_append Zb9 (pv 6)<|Zaa (Zbq<|Zaa (pv 8)<|Zaa (Zah (Zjm rfl) rfl (mb "min"<|by decide) Zj3<|Zaa (pv 9)<|Zaa (Zax Zpr (pv 3) Zag) Zad) Zad) Zad)<|Zai<|Zau<|Zbq<|Zaa (pv 3)<|Zaa (Za2 (tupK K) rfl (mb "tuple"<|by decide) Za9<|Zaa (pv 6) Zad) Zad),Zhc (λps ds Post hf=>?_) h⟩;obtain⟨hp,a,b,rfl,h1,h2,h3,h4,q⟩:=hf;refine⟨by simp,?_⟩;dsimp only[cxOf,startD,Wbj,Wbn,Wa9,Wae]
 repeat walk_at "js"
 walk_at "draw";rename_i r0 ps0 hp0 hr0 hs0
 repeat walk_at "js"
 walk_at "draw";rename_i way ps1 hp1 hw0 hw1
 repeat walk_at "js"
 walk_at "draw";rename_i cnt ps2 hp2 hc0 hc1
 repeat walk_at "js"
 refine Zb6 (λΔ=>∃n k:Int,1<=n/\n<=a/\0<=k/\k<=b /\ Δ = [.bor (.lst ps2),.val (.int a),.val (.int b),.val (.int n),.val (.int way),.val (.int k),.any,.any,.any,.any]) ?_ ?_
 ·repeat walk_at "js"
  refine ite2 (λc=>?_) λc=>?_
  ·repeat walk_at "js"
   exact⟨a,b,h1,by omega,h3,by omega,rfl⟩
  ·repeat walk_at "js"
   exact⟨1+r0,cnt,by omega,by omega,hc0,by omega,rfl⟩
 rintro Δ1 ⟨n,k,hn0,hn1,hk0,hk1,rfl⟩;refine Zaj<|Zb2<|Zfh<|Zae ⟨by decide,?_⟩;refine Zb6 (λΔ=>∃(ps:List D) (ts:List (Int × Int)) (x7 x8 x9:Slot),Pen ps/\WebOk n ts/\(ts.length:Int)=k /\ Δ = [.bor (.lst ps),.val (.int a),.val (.int b),.val (.int n),.val (.int way),.val (.int k),.own (.lst<|ts.map encTie),x7,x8,x9]) ?_ ?_
 ·refine Zd5 (Zbi ?_)
  repeat walk_at "js"
  refine⟨by omega,by omega,λi Δ=>∃(ps:List D) (ts:List (Int × Int)) (x7 x8 x9:Slot),Pen ps/\ts.length=i/\(∀t∈ts,0<=t.1/\t.1<n/\0<=t.2/\t.2<n) /\ Δ = [.bor (.lst ps),.val (.int a),.val (.int b),.val (.int n),.val (.int way),.val (.int k),.own (.lst<|ts.map encTie),x7,x8,x9],⟨ps2,[],.any,.any,.any,hp2,rfl,λ_ h=>(nomatch h),rfl⟩,?_,?_⟩
  ·rintro i d Δ2 hd ⟨ps,ts,x7,x8,x9,hp',hl,ht,rfl⟩
   obtain⟨hi,rfl⟩:=Zb5 hd
   repeat walk_at "js"
   walk_at "draw";rename_i x px hpx hx0 hx1
   repeat walk_at "js"
   walk_at "draw";rename_i y py hpy hy0 hy1
   refine Zae ⟨_,_,rfl,?_⟩;refine Zb6 (λΔ=>∃u v:Int,0<=u/\u<n/\0<=v/\v<n /\ Δ = [.bor (.lst py),.val (.int a),.val (.int b),.val (.int n),.val (.int way),.val (.int k),.own (.lst<|ts.map encTie),.val (.int (0+(i:Int))),.val (.int u),.val (.int v)]) ?_ ?_
   ·repeat walk_at "js"
    refine ite2 (λc=>?_) λc=>?_
    ·repeat walk_at "js"
     refine⟨_,_,rfl,_,_,Wdg _ (by omega),Wc3 _ (by omega),Wdg _ (by omega),Wc3 _ (by omega),rfl⟩
    ·repeat walk_at "js"
     exact⟨x,y,hx0,hx1,hy0,hy1,rfl⟩
   rintro Δ3 ⟨u,v,hu0,hu1,hv0,hv1,rfl⟩;refine Zb6 (λΔ=>∃u v:Int,0<=u/\u<n/\0<=v/\v<n /\ Δ = [.bor (.lst py),.val (.int a),.val (.int b),.val (.int n),.val (.int way),.val (.int k),.own (.lst<|ts.map encTie),.val (.int (0+(i:Int))),.val (.int u),.val (.int v)]) ?_ ?_
   ·repeat walk_at "js"
    refine ite2 (λc=>?_) λc=>?_
    ·repeat walk_at "js"
     exact⟨0,v,by omega,by omega,hv0,hv1,rfl⟩
    ·repeat walk_at "js"
     exact⟨u,v,hu0,hu1,hv0,hv1,rfl⟩
   rintro Δ3 ⟨u,v,hu0,hu1,hv0,hv1,rfl⟩;refine Zb6 (λΔ=>∃u v:Int,0<=u/\u<n/\0<=v /\ Δ = [.bor (.lst py),.val (.int a),.val (.int b),.val (.int n),.val (.int way),.val (.int k),.own (.lst<|ts.map encTie),.val (.int (0+(i:Int))),.val (.int u),.val (.int v)]) ?_ ?_
   ·repeat walk_at "js"
    refine ite2 (λc=>?_) λc=>?_
    ·repeat walk_at "js"
     exact⟨u,_,hu0,hu1,by omega,rfl⟩
    ·repeat walk_at "js"
     exact⟨u,v,hu0,hu1,hv0,rfl⟩
   rintro Δ3 ⟨u,v,hu0,hu1,hv0,rfl⟩;refine Zb6 (λΔ=>∃u v:Int,0<=u/\u<n/\0<=v /\ Δ = [.bor (.lst py),.val (.int a),.val (.int b),.val (.int n),.val (.int way),.val (.int k),.own (.lst<|ts.map encTie),.val (.int (0+(i:Int))),.val (.int u),.val (.int v)]) ?_ ?_
   ·repeat walk_at "js"
    refine ite2 (λc=>?_) λc=>?_
    ·repeat walk_at "js"
     refine ite2 (λc=>?_) λc=>?_
     ·repeat walk_at "js"
      exact⟨u,u,hu0,hu1,hu0,rfl⟩
     ·repeat walk_at "js"
      exact⟨u,v,hu0,hu1,hv0,rfl⟩
    ·repeat walk_at "js"
     exact⟨u,v,hu0,hu1,hv0,rfl⟩
   rintro Δ3 ⟨u,v,hu0,hu1,hv0,rfl⟩;refine Zf3 rfl rfl ?_
   repeat walk_at "js"
   refine⟨by show 2<=sizeLine;decide,_,_,rfl,rfl,?_,py,ts++[(u,if n-1<v then n-1 else v)],.val (.int (0+(i:Int))),.val (.int u),.val (.int v),hpy,by rw[Waj,hl];rfl,λt h=>?_,?_⟩
   ·rw[Waa];exact small1000 (by omega)
   ·rcases Wbp.mp h with h|h
    ·exact ht t h
    ·rw[Wbs.mp h]
     refine⟨hu0,hu1,?_,?_⟩
     ·show 0<=(if n-1<v then n-1 else v);split <;> omega
     ·show (if n-1<v then n-1 else v)<n;split <;> omega
   ·rw[War];rfl
  ·rintro Δ2 ⟨ps,ts,x7,x8,x9,hp',hl,ht,rfl⟩
   rw[Zbc]at hl;exact⟨ps,ts,x7,x8,x9,hp',⟨hn0,by omega,by omega,ht⟩,by omega,rfl⟩
 rintro Δ1 ⟨ps3,ts,x7,x8,x9,hp3,hW,hl,rfl⟩;refine Za0<|Zbs<|Zab<|Zac rfl<|Zab<|Zas<|Zab<|Zc8 rfl<|Zae<|Zcf (Or.inl rfl)<|Zae ⟨by show 2<=sizeLine;decide,?_⟩;exact⟨_,rfl,q n ts _ hp3 hW hn1<|by omega⟩
end
def placeAt (ts:List (Int × Int)) (e:Nat):Int:=match ts[e / 2]? with
 |some t=>if e % 2=0 then t.1 else t.2
 |none=>-1
def encRow (r:List Int):D:=.tup<|r.map .int
def encOrd (o:List (List Int)):D:=.tup<|o.map encRow
def endsBelow (ts:List (Int × Int)) (m:Nat) (p:Int):List Int:=((Waq m).filter λe=>decide (placeAt ts e=p)).map λe:Nat=>(e:Int)
structure RowOk (ts:List (Int × Int)) (m:Nat) (p:Int) (r:List Int):Prop where
 perm:r.Perm (endsBelow ts m p)
 first:r.head?=(endsBelow ts m p).head?
structure OrdOk (n:Int) (ts:List (Int × Int)) (o:List (List Int)):Prop where
 len:(o.length:Int)=n
 row:∀(p:Nat) r,o[p]?=some r->RowOk ts (2*ts.length) (p:Int) r
theorem Zev (ts:List (Int × Int)) (k:Nat) (p:Int):endsBelow ts (k+1) p=endsBelow ts k p++(if placeAt ts k=p then [(k:Int)] else []):=by
 unfold endsBelow;rw[Wdc,Wb9,War];congr 1;by_cases h:placeAt ts k=p
 ·simp[Wbt,h]
 ·simp[Wbt,h]
theorem Ziq (ts:List (Int × Int)) (m:Nat) (p:Int):(endsBelow ts m p).length<=m:=by
 unfold endsBelow;rw[Waa];exact Wby (Wc4 _ _) (by rw[Wa5];exact Wak _)
theorem RowOk.len {ts:List (Int × Int)}{m:Nat}{p:Int}{r:List Int}(h:RowOk ts m p r):r.length<=m:=by rw[h.perm.length_eq];exact Ziq ts m p
theorem RowOk.stay {ts:List (Int × Int)}{k:Nat}{p:Int}{r:List Int}(h:RowOk ts k p r) (hp:placeAt ts k≠p):RowOk ts (k+1) p r:=by
 have e:=Zev ts k p;rw[if_neg hp,Wa3]at e;exact⟨by rw[e];exact h.perm,by rw[e];exact h.first⟩
theorem RowOk.put {ts:List (Int × Int)}{k j:Nat}{p:Int}{r:List Int}(h:RowOk ts k p r) (hp:placeAt ts k=p) (hj:j<=r.length) (h1:r≠[]->1<=j):RowOk ts (k+1) p (r.take j++(k:Int)::r.drop j):=by
 have e:=Zev ts k p;rw[if_pos hp]at e;refine⟨?_,?_⟩
 ·rw[e]
  refine List.perm_middle.trans ?_;rw[Wb0];exact(List.Perm.cons _ h.perm).trans (List.perm_append_singleton _ _).symm
 ·rw[e]
  cases r with
  |nil=>
   have z:endsBelow ts k p=[]:=List.Perm.eq_nil h.perm.symm;rw[z];have:j=0:=by simpa using hj
   subst this;rfl
  |cons x r'=>
   have h2:=h1 (by simp);obtain⟨j',rfl⟩:∃j',j=j'+1:=⟨j-1,by omega⟩;have h3:=h.first;show some x=_;cases q:endsBelow ts k p with
   |nil=>rw[q]at h3;cases h3
   |cons y l=>rw[q]at h3;exact h3
theorem Zm1 {ts:List (Int × Int)}{k:Nat}(h:k<2*ts.length):∃t,ts[k / 2]?=some t/\atI (ts.map encTie) ((0+(k:Int)) / 2)=some (encTie t)/\atI [D.int t.1,D.int t.2] ((0+(k:Int)) % 2)=some (.int<|placeAt ts k):=by
 have hk:k / 2<ts.length:=by omega
 refine⟨ts[k / 2],Wab hk,?_,?_⟩
 ·have e:(0+(k:Int)) / 2=((k / 2:Nat):Int):=by omega
  rw[e];exact Zcy (by rw[Wad,Wab hk];rfl)
 ·have e2:placeAt ts k=if k % 2=0 then ts[k / 2].1 else ts[k / 2].2:=by
   unfold placeAt;rw[Wab hk]
  rw[e2];have e:(0+(k:Int)) % 2=((k % 2:Nat):Int):=by omega
  rw[e];by_cases h0:k % 2=0
  ·rw[if_pos h0,h0];exact Zcy rfl
  ·have h1:k % 2=1:=by omega
   rw[if_neg h0,h1];exact Zcy rfl
theorem Zil {n:Int}{ts:List (Int × Int)}(hW:WebOk n ts) {k:Nat}(h:k<2*ts.length):0<=placeAt ts k/\placeAt ts k<n:=by
 have hk:k / 2<ts.length:=by omega
 have:=hW.tie _<|Wbl hk;unfold placeAt;rw[Wab hk];dsimp only;split <;> omega
def fOrder:BSp:=λps ds Post=>Pen ps/\∃n ts,ds=[encWeb n ts]/\WebOk n ts/\n<=25/\∀o ps',Pen ps' -> OrdOk n ts o->Post (encOrd o) ps'
section
variable {P:Program}{w:World}{K:W.Frag}{mg:Str->Option Value}{base:Heap}{f:Addr}{fd:FuncData}
theorem Zrt (mb:Mb mg) (C40:Callee P w K mg base 1 "_law_draw" ["_law_pen_here","_law_many"] (spB K fDraw)) (F:Fun K "_law_order" "_law_order" Yal f fd):FnOk P w K mg base CX0 2 f fd ["_law_pen_here","_law_web_here"] (spB K fOrder):=by
 refine F.ok Ya5 (Zdi λps ds Post h=>by obtain⟨_,n,ts,rfl,_⟩:=h;rfl) λcdv A outer s H vs Q E hr h=>?_;have hu:=Zbv hr;refine⟨_,(Zaf (Zri 5 (show ∀x∈(["_law_pen_here","_law_web_here","_law_rows_here","_law_k","_law_row","!0","!1","!2","!3","!4","!5","!6","!7","!8","!9","!10","!11","!12","!13","!14","!15","!16","!17","!18","!19","!20","!21","!22","!23","!24"]:List Str).drop 5,(defScope Yal).names.lookup x=none from by decide +kernel)<|Zdf (i:=2) ["_law_place"] (show CompSc (defScope Yal) ["_law_pen_here","_law_web_here","_law_rows_here","_law_k","_law_row","!0","!1","!2","!3","!4","!5","!6","!7","!8","!9","!10","!11","!12","!13","!14","!15","!16","!17","!18","!19","!20","!21","!22","!23","!24"] _ [] [] from ⟨rfl,by decide +kernel,by decide +kernel,by decide +kernel,rfl,by decide +kernel⟩) rfl Ya5.nd rfl (Or.inl rfl) (Zbg rfl (mb "range"<|by decide)<|Zaa (Zbe (ixK K hu) (pv 1) Zag λ_ _=>rfl) Zad) (λ_ _ _ _ _=>(Zal (i:=0) (show List.Nodup (["_law_place"]:List Str) from by decide) rfl<|Or.inl rfl)) (λ_ _ _ _ _=>Zbb) λ_ _ _ _ _=>(Zc9 Zad))<|Zaf (Zd3 PassesOwn.never rfl (Zbg rfl (mb "range"<|by decide)<|Zaa (Zax Zcl Zag<|Zah (lenK K) rfl (mb "len"<|by decide) Za5<|Zaa (Zbe (ixK K hu) (pv 1) Zag λ_ _=>rfl) Zad) Zad) (Zal (i:=3) Ya5.nd rfl<|Or.inl rfl)<|Zaf (Zaq (i:=4) Ya5.nd rfl (Or.inl rfl)<|Zbe (ixK K hu) (pv 2) (Zbe (ixK K hu) (Zbe (ixK K hu) (Zbe (ixK K hu) (pv 1) Zag λ_ _=>rfl) (Zax Zh7 (pv 3) Zag) λ_ _=>rfl) (Zax Zcg (pv 3) Zag) λ_ _=>rfl) λ_ _=>rfl)<|Zai<|Zc5<|bmK K PySem.F.plainAttrs_list PySem.F.slot_list_insert PySem.F.type_list_insert Zjq (pv 4)<|Zaa (Zah (Zjm rfl) rfl (mb "min"<|by decide) Zj3<|Zaa (Zah (lenK K) rfl (mb "len"<|by decide) Za5<|Zaa (pv 4) Zad)<|Zaa (Zax (addK K) Zag<|Zav C40 (hr.mono<|by decide)<|Zaa (pv 0)<|Zaa (Zah (Zjb rfl) rfl (mb "max"<|by decide) Zsl<|Zaa Zag<|Zaa (Zah (lenK K) rfl (mb "len"<|by decide) Za5<|Zaa (pv 4) Zad) Zad) Zad) Zad)<|Zaa (pv 3) Zad)<|Zai<|Zau<|Za2 (tupK K) rfl (mb "tuple"<|by decide) Za9<|Zaa (Za3 ["_law_row"] (show CompSc (defScope Yal) ["_law_pen_here","_law_web_here","_law_rows_here","_law_k","_law_row","!0","!1","!2","!3","!4","!5","!6","!7","!8","!9","!10","!11","!12","!13","!14","!15","!16","!17","!18","!19","!20","!21","!22","!23","!24"] _ [] [] from ⟨rfl,by decide +kernel,by decide +kernel,by decide +kernel,rfl,by decide +kernel⟩) rfl (seqK K<|pv 2) (λ_ _ _ _ _=>(Zal (i:=0) (show List.Nodup (["_law_row"]:List Str) from by decide) rfl<|Or.inl rfl)) (λ_ _ _ _ _=>Zbb) λ_ _ _ _ _=>(Za2 (tupK K) rfl (mb "tuple"<|by decide) Za9<|Zaa (pv 0) Zad)) Zad),Zhc (λps ds Post hf=>?_) h⟩;obtain⟨hp,n,ts,rfl,hW,hn25,q⟩:=hf;refine⟨by simp,?_⟩;dsimp only[cxOf,startD,Wbj,Wbn,Wa9];have hn:=hW.lo;have hn2:=hW.hi;have hts:=hW.len
 -- the rows
 refine Zaj<|Ztv<|Zrg (by decide)<|Zbi ?_;refine Zab<|Zam<|Zac rfl<|Zak<|Za6 (d:=.int n) rfl<|Zae ⟨n,rfl,by omega,by omega,?_⟩;refine⟨by rw[Zbc];exact small1000 (by omega),λ_=>true,λ_=>.lst [],λi d hd=>?_,by decide,?_,λas hal hnd=>?_⟩
 ·exact Zba ⟨rfl,Zfh<|Zae ⟨by decide,rfl,_,rfl⟩⟩
 ·rw[Waa]
  have e:((rngD 0 n.toNat).filter λ_=>true).length<=25:=Wby (Wc4 _ _) (by rw[Zbc];omega);show 5+_<=30;omega
 have eR:(rngD 0 n.toNat).filter (λ_=>true)=rngD 0 n.toNat:=by simp
 rw[eR,Waa,Zbc]at hal;rw[eR];have eO:(rngD 0 n.toNat).map (λ_=>OD.lst [])=Wae n.toNat (OD.lst []):=by
  rw[Wct,Zbc]
 rw[eO];generalize hcs:as.map (λa=>((a,[]):Addr × List Int))=cs;have hcl:cs.length=n.toNat:=by rw[<- hcs,Waa,hal]
 have e1:as.map D.adr=cs.map λc=>D.adr c.1:=by rw[<- hcs,Wal];rfl
 have e2:as.zip (Wae n.toNat<|OD.lst [])=cs.map λc=>(c.1,OD.lst (c.2.map D.int)):=by
  rw[<- hcs,Wal,<- hal];clear e1 hcl hcs hal hnd
  induction as with
  |nil=>rfl
  |cons a r ih=>rw[Wan,Wcl,Wc2,ih];rfl
 have e3:=Zpg (cs.map λc=>(c.1,OD.lst (c.2.map D.int))) [.bor (.lst ps),.val (encWeb n ts),.val (.lst (cs.map λc=>D.adr c.1)),.any,.any] [] 25 (by rw[Waa];omega);rw[Wa3,Wa3,Wal,Waa,hcl]at e3;rw[e1,e2];refine(show JS K _ (L2.putN 5 (cs.map λc=>(c.1,OD.lst (c.2.map D.int))) ([.bor (.lst ps),.val (encWeb n ts),.val (.lst (cs.map λc=>D.adr c.1)),.any,.any]++Wae 25 .any)) _ from ?_);rw[show L2.putN 5 (cs.map λc=>(c.1,OD.lst (c.2.map D.int))) ([.bor (.lst ps),.val (encWeb n ts),.val (.lst (cs.map λc=>D.adr c.1)),.any,.any]++Wae 25 .any)=_ from e3]
 -- the loop
 refine Zb6 (λΔ=>∃(ps:List D) (cs:List (Addr × List Int)) (x3 x4:L2.Slot),Pen ps/\cs.length=n.toNat/\(∀(p:Nat) c,cs[p]?=some c->RowOk ts (2*ts.length) (p:Int) c.2) ∧
  Δ = .bor (.lst ps)::.val (encWeb n ts)::.val (.lst (cs.map λc=>D.adr c.1))::x3::x4::(cs.map (λc=>L2.Slot.ownA c.1 (.lst (c.2.map D.int)))++Wae (25-n.toNat) .any)) ?_ ?_
 ·refine Zd5 (Zbi ?_)
  repeat walk_at "js"
  rw[Waa];refine⟨by omega,by omega,?_⟩;have eL:((2:Int)*(ts.length:Int)).toNat=2*ts.length:=by omega
  rw[eL];refine⟨λk Δ=>∃(ps:List D) (cs:List (Addr × List Int)) (x3 x4:L2.Slot),Pen ps/\cs.length=n.toNat/\(∀(p:Nat) c,cs[p]?=some c->RowOk ts k (p:Int) c.2) ∧
   Δ = .bor (.lst ps)::.val (encWeb n ts)::.val (.lst (cs.map λc=>D.adr c.1))::x3::x4::(cs.map (λc=>L2.Slot.ownA c.1 (.lst (c.2.map D.int)))++Wae (25-n.toNat) .any),⟨ps,cs,.any,.any,hp,hcl,λp c hc=>?_,rfl⟩,?_,?_⟩
  ·rw[<- hcs,Wad]at hc
   cases q:as[p]? with
   |none=>rw[q]at hc;cases hc
   |some a=>rw[q]at hc;cases hc;exact⟨List.Perm.refl _,rfl⟩
  ·rintro k d Δ2 hd ⟨ps,cs,x3,x4,hp,hcl,hrow,rfl⟩
   obtain⟨hk,rfl⟩:=Zb5 hd;obtain⟨t,ht1,ht2,ht3⟩:=Zm1 hk;obtain⟨pl0,pl1⟩:=Zil hW hk;obtain⟨c,hc1,hc2⟩:=Zn0 (f:=λc:Addr × List Int=>D.adr c.1) (xs:=cs) (i:=placeAt ts k) pl0 (by omega);have hR:=hrow _ c hc1;have hRl:=hR.len;have ep:((placeAt ts k).toNat:Int)=placeAt ts k:=by omega
   have hsl:∀(ps:List D) (x3 x4:L2.Slot),(.bor (.lst ps)::.val (encWeb n ts)::.val (.lst (cs.map λc=>D.adr c.1))::x3::x4::(cs.map (λc=>L2.Slot.ownA c.1 (.lst<|c.2.map D.int))++Wae (25-n.toNat) .any):Evt)[(placeAt ts k).toNat+5]?=some (.ownA c.1 (.lst<|c.2.map D.int)):=λps x3 x4=>by
    show (cs.map (λc=>L2.Slot.ownA c.1 (.lst<|c.2.map D.int))++Wae (25-n.toNat) .any)[(placeAt ts k).toNat]?=_;rw[Wbm (by rw[Waa];omega),Wad,hc1];rfl
   refine Zb3 ?_;refine Zaj<|Za1 ?_;refine Zam<|Zac rfl ?_;refine Zam ?_;refine Zam ?_;refine Zam<|Zac rfl<|Zak<|Za6 (d:=.tup<|ts.map encTie) rfl ?_;refine Zam<|Zac rfl<|Zak<|jr_I ⟨by omega,by omega⟩<|Za6 ht2 ?_;refine Zam<|Zac rfl<|Zak<|jr_I (by show (0:Int)<2;omega)<|Za6 ht3<|Zee hc2 ?_;refine Zuq (a:=c.1) rfl (hsl _ _ _) ?_;refine Zas ?_;refine Zab<|Zps rfl (hsl _ _ _) ?_;refine Zab<|Zam<|Zak ?_;refine Zbj rfl rfl ?_;refine Zab<|Zas ?_;refine Zab<|Zak ?_;refine Zab<|Zps rfl (hsl _ _ _) ?_;refine Zae<|Zlo<|Zae ?_;rw[Waa];refine⟨_,_,rfl,rfl,hp,_,rfl,by split <;> omega,by split <;> omega,λr ps' hp' hr0 hr1=>?_⟩
   refine Zc3<|Zae<|Zlo<|Zac rfl ?_;have hlen:(c.2.map D.int).length=c.2.length:=Waa _;refine⟨_,_,_,rfl,hsl _ _ _,by rw[hlen];exact small1000 (by omega),by split <;> omega,by split <;> omega,?_⟩
   rw[hlen];generalize hi:insI c.2.length (if 1+r<(c.2.length:Int) then 1+r else (c.2.length:Int))=j;have hj:j<=c.2.length/\(c.2≠[]->1<=j):=by
    rw[<- hi];unfold insI;have hpos:c.2≠[]->0<c.2.length:=λh=>Wda.mpr h;refine⟨?_,λh=>?_⟩
    ·split <;> split <;> omega
    ·have:=hpos h
     split <;> split <;> omega
   refine⟨ps',cs.set (placeAt ts k).toNat (c.1,c.2.take j++(k:Int)::c.2.drop j),.val (.int (0+(k:Int))),.val (.adr c.1),hp',by rw[Wcu];exact hcl,λp c' hc'=>?_,?_⟩
   ·by_cases hpp:p=(placeAt ts k).toNat
    ·subst hpp
     rw[Wau (by omega)]at hc';cases hc';exact hR.put (by omega) hj.1 hj.2
    ·rw[Waw (Ne.symm hpp)]at hc'
     exact(hrow p c' hc').stay (by omega)
   ·have ea:(cs.set (placeAt ts k).toNat (c.1,c.2.take j++(k:Int)::c.2.drop j)).map (λc=>D.adr c.1)=cs.map λc=>D.adr c.1:=by
     rw[Wec];apply Wb3;intro i;by_cases hii:i=(placeAt ts k).toNat
     ·subst hii
      rw[Wau (by rw[Waa];omega),Wad,hc1];rfl
     ·rw[Waw (Ne.symm hii)]
    rw[ea,Wec];have eb:∀(v:L2.Slot),(cs.map (λc=>L2.Slot.ownA c.1 (.lst<|c.2.map D.int))++Wae (25-n.toNat) L2.Slot.any).set (placeAt ts k).toNat v=(cs.map λc=>L2.Slot.ownA c.1 (.lst<|c.2.map D.int)).set (placeAt ts k).toNat v++Wae (25-n.toNat) L2.Slot.any:=λv=>
     List.set_append_left _ _ (by rw[Waa];omega)
    rw[<- eb];rw[War,Wcj,Wa1,Wdo,Wb5];rfl
  ·rintro Δ2 ⟨ps,cs,x3,x4,hp,hcl,hrow,rfl⟩
   rw[Zbc]at hrow;exact⟨ps,cs,x3,x4,hp,hcl,hrow,rfl⟩
 -- the end
 rintro Δ1 ⟨ps3,cs3,x3,x4,hp3,hcl3,hrow3,rfl⟩;refine JS.conv (Δ':=.bor (.lst ps3)::.val (encWeb n ts)::.val (.lst (cs3.map λc=>D.lst<|c.2.map D.int))::x3::x4::(Wae cs3.length .any++Wae (25-n.toNat) .any)) (λg G H σ k=>?_) ?_
 ·have:=Ok.thaw (cs:=cs3.map λc=>(c.1,c.2.map D.int)) (R:=[.bor (.lst ps3),.val (encWeb n ts),.val (.lst (cs3.map λc=>D.adr c.1)),x3,x4]) (T:=Wae (25-n.toNat) .any) (i:=2) (g:=g) (G:=G) (H:=H) (σ:=σ) (K:=K) (by rw[Wal];exact k) (by rw[Wal];rfl)
  rw[Wal,Waa]at this;exact this
 refine Za0<|Zas<|Zab<|Za7 (by decide)<|Zcn<|Zac rfl ⟨_,Or.inl rfl,?_,λ_=>true,λd=>match d with|.lst ds=>.tup ds|d=>d,λi d hd=>?_,?_⟩
 ·rw[Waa];exact small1000 (by omega)
 ·rw[Wad]at hd
  cases q:cs3[i]? with
  |none=>rw[q]at hd;cases hd
  |some c=>
   rw[q]at hd;have hd:D.lst (c.2.map D.int)=d:=by simpa using hd
   subst hd;exact Zba ⟨rfl,Zas<|Zab<|Zac rfl<|Zae<|Zcf (Or.inl rfl) ⟨rfl,_,rfl⟩⟩
 ·refine Zae (Zcf (Or.inl rfl) ⟨ps3,rfl,?_⟩)
  have e:((cs3.map λc=>D.lst<|c.2.map D.int).filter λ_=>true).map (λd=>match d with|.lst ds=>D.tup ds|d=>d)=(cs3.map (·.2)).map encRow:=by
   rw[Waz.mpr (by simp),Wal,Wal];rfl
  rw[e];exact q _ _ hp3 ⟨by rw[Waa];omega,λp r hr=>by
   rw[Wad]at hr;cases z:cs3[p]? with
   |none=>rw[z]at hr;cases hr
   |some c=>rw[z]at hr;cases hr;exact hrow3 p c z⟩
end
def nextIn (r:List Int) (x:Int):Int:=r.getD ((r.idxOf x+1) % r.length) 0
def rowAt (ts:List (Int × Int)) (o:List (List Int)) (e:Nat):List Int:=o.getD (placeAt ts e).toNat []
def partner (e:Nat):Nat:=if e % 2=0 then e+1 else e-1
theorem Zb1 {e m:Nat}(h:e<2*m):partner e<2*m:=by unfold partner;split <;> omega
theorem Zfa {ts:List (Int × Int)}{m:Nat}{p x:Int}:x∈endsBelow ts m p ↔ ∃e:Nat,e<m/\placeAt ts e=p/\(e:Int)=x:=by
 unfold endsBelow;rw[Was];constructor
 ·rintro⟨e,he,rfl⟩
  rw[Wbd,Wav]at he;exact⟨e,he.1,of_decide_eq_true he.2,rfl⟩
 ·rintro⟨e,h1,h2,rfl⟩
  exact⟨e,by rw[Wbd,Wav];exact⟨h1,decide_eq_true h2⟩,rfl⟩
theorem Zeb (ts:List (Int × Int)) (m:Nat) (p:Int):(endsBelow ts m p).Nodup:=by
 unfold endsBelow;refine List.Pairwise.map _ (λa b h=>?_)<|List.Pairwise.filter _ Wc8;intro e;exact h (by omega)
theorem RowOk.nodup {ts:List (Int × Int)}{m:Nat}{p:Int}{r:List Int}(h:RowOk ts m p r):r.Nodup:=h.perm.nodup_iff.mpr<|Zeb ts m p
theorem RowOk.mem {ts:List (Int × Int)}{m:Nat}{p x:Int}{r:List Int}(h:RowOk ts m p r):x∈r ↔ ∃e:Nat,e<m/\placeAt ts e=p/\(e:Int)=x:=h.perm.mem_iff.trans Zfa
theorem Zck {n:Int}{ts:List (Int × Int)}{o:List (List Int)}(hW:WebOk n ts) (hO:OrdOk n ts o) {e:Nat}(he:e<2*ts.length) :
  o[(placeAt ts e).toNat]?=some (rowAt ts o e)/\RowOk ts (2*ts.length) (placeAt ts e) (rowAt ts o e)/\(e:Int)∈rowAt ts o e:=by
 obtain⟨p0,p1⟩:=Zil hW he;have hl:=hO.len;have hk:(placeAt ts e).toNat<o.length:=by omega
 have q:o[(placeAt ts e).toNat]?=some (rowAt ts o e):=by
  unfold rowAt;rw[Wab hk,Waf,Wab hk];rfl
 have r:=hO.row _ _ q;rw[show ((placeAt ts e).toNat:Int)=placeAt ts e by omega]at r;exact⟨q,r,r.mem.mpr ⟨e,he,rfl,rfl⟩⟩
theorem OrdOk.flat {n:Int}{ts:List (Int × Int)}{o:List (List Int)}(h:OrdOk n ts o):o.flatten.Nodup:=by
 unfold List.Nodup;rw[List.pairwise_flatten];refine⟨λr hr=>?_,?_⟩
 ·obtain⟨p,hp,e⟩:=Wc6.mp hr
  exact(h.row p r<|by rw[Wab hp,e]).nodup
 ·rw[Wcd]
  intro i j hi hj hij x hx y hy hxy;subst hxy;obtain⟨e,_,e1,e2⟩:=(h.row i _<|Wab hi).mem.mp hx;obtain⟨f,_,f1,f2⟩:=(h.row j _<|Wab hj).mem.mp hy;have:e=f:=by omega
  subst this;omega
theorem Zcr {r:List Int}{x:Int}(h:x∈r):r.idxOf x<r.length/\r[r.idxOf x]?=some x/\∀m,m<r.idxOf x->r[m]?≠some x:=by
 have hl:=List.idxOf_lt_length_of_mem h;refine⟨hl,?_,λm hm e=>?_⟩
 ·rw[Wab hl,List.getElem_idxOf hl]
 ·obtain⟨h1,h2⟩:=Wag.mp e
  have:=List.not_of_lt_findIdx (p:=(· == x)) (xs:=r) hm;rw[h2]at this;simp at this
def encPair (y:Int × Int):Key × D:=(.inl y.1,.int y.2)
theorem Zoe {l:List (Int × Int)}{x y:Int}(h:x ∉ l.map (·.1)):putD (l.map encPair) (.inl x) (.int y)=(l++[(x,y)]).map encPair:=by
 unfold putD;rw[if_neg,War]
 ·rfl
 ·rw[List.any_map,Wef]
  rintro⟨z,hz,e⟩;have e:(Sum.inl z.1:Key)=Sum.inl x:=of_decide_eq_true e;injection e with e
  exact h<|Was.mpr ⟨z,hz,e⟩
theorem Zr9 {l:List (Int × Int)}(nd:(l.map (·.1)).Nodup) {x y:Int}(h:(x,y)∈l):valD (l.map encPair) (.inl x)=some (.int y):=by
 induction l with
 |nil=>cases h
 |cons z r ih=>
  rw[Wa1,Wcg]at nd;rw[Wa1];unfold valD;rcases Wap.mp h with e|h
  ·subst e
   rw[Wc1 (by simp[encPair])];rfl
  ·have hne:z.1≠x:=λe=>nd.1 (by rw[e];exact Was.mpr ⟨_,h,rfl⟩)
   rw[Wcc (by simp[encPair];exact λe=>hne e)];exact ih nd.2 h
theorem Zu4 (k:Nat):k ||| 1=2*(k / 2)+1:=by
 apply Nat.eq_of_testBit_eq;intro i;rw[Nat.testBit_or];cases i with
 |zero=>rw[Nat.testBit_zero,Nat.testBit_zero,Nat.testBit_zero];simp
 |succ i=>
  rw[Nat.testBit_succ,Nat.testBit_succ,Nat.testBit_succ,show (2*(k / 2)+1) / 2=k / 2 by omega];simp
theorem Zss (k:Nat):Builtin.bitXor (k:Int) 1=(partner k:Int):=by
 have e1:Builtin.bitAnd (k:Int) 1=((k % 2:Nat):Int):=by
  unfold Builtin.bitAnd;rw[decide_eq_true (show (0:Int)<=(k:Int) by omega),decide_eq_true (show (0:Int)<=1 by decide)];show ((((k:Int).toNat &&& (1:Int).toNat:Nat)):Int)=_;rw[Wa7,show (1:Int).toNat=1 from rfl,Nat.and_one_is_mod]
 have e2:Builtin.bitOr (k:Int) 1=((2*(k / 2)+1:Nat):Int):=by
  unfold Builtin.bitOr Builtin.bitAnd;rw[decide_eq_false (show ¬ (0:Int)<=Builtin.bitNot (k:Int) by unfold Builtin.bitNot;omega),decide_eq_false (show ¬ (0:Int)<=Builtin.bitNot 1 by decide)];show Builtin.bitNot (Builtin.bitNot (((Builtin.bitNot<|Builtin.bitNot (k:Int)).toNat ||| (Builtin.bitNot<|Builtin.bitNot 1).toNat:Nat):Int))=_;have n1:∀x:Int,Builtin.bitNot (Builtin.bitNot x)=x:=λx=>by unfold Builtin.bitNot;omega
  rw[n1,n1,n1,Wa7,show (1:Int).toNat=1 from rfl,Zu4]
 unfold Builtin.bitXor;rw[e1,e2];unfold partner;split <;> omega
theorem Zem {α:Type}[DecidableEq α]:∀{l m:List α},l.Nodup->(∀x∈l,x∈m)->l.length<=m.length
 |[],_,_,_=>Wbx _
 |x::l,m,nd,h=>by
  rw[Wcg]at nd;have hx:=h x Wat;have:=Zem (l:=l) (m:=m.erase x) nd.2 λy hy=>by
   have hne:y≠x:=λe=>nd.1 (e ▸ hy);exact(List.mem_erase_of_ne hne).mpr (h y<|Way _ hy)
  rw[List.length_erase_of_mem hx]at this;have hpos:0<m.length:=Wc0 hx;rw[Wan];omega
theorem OrdOk.flat_len {n:Int}{ts:List (Int × Int)}{o:List (List Int)}(h:OrdOk n ts o):o.flatten.length<=2*ts.length:=by
 have:=Zem (m:=(Waq (2*ts.length)).map λe:Nat=>(e:Int)) h.flat λx hx=>by
  obtain⟨r,hr,hx⟩:=Wca.mp hx;obtain⟨p,hp,e⟩:=Wc6.mp hr;obtain⟨k,hk,_,rfl⟩:=(h.row p r<|by rw[Wab hp,e]).mem.mp hx;exact Was.mpr ⟨k,Wav.mpr hk,rfl⟩
 rw[Waa,Wa5]at this;exact this
theorem Zcw (ts:List (Int × Int)) (m:Nat) (p:Int):(endsBelow ts m p).Pairwise (· < ·):=by
 unfold endsBelow;refine List.Pairwise.map _ (λa b h=>?_)<|List.Pairwise.filter _ Wdh;omega
theorem RowOk.least {ts:List (Int × Int)}{m:Nat}{p x:Int}{r:List Int}(h:RowOk ts m p (x::r)):∀a∈r,x<=a:=by
 intro a ha;have h1:=h.first;have h2:=Zcw ts m p;have h3:a∈endsBelow ts m p:=h.perm.mem_iff.mp<|Way _ ha;cases q:endsBelow ts m p with
 |nil=>rw[q]at h1;cases h1
 |cons y l=>
  rw[q]at h1 h2 h3;have e:x=y:=Wa6.inj h1;subst e;rcases Wap.mp h3 with z|z
  ·omega
  ·have:=(List.pairwise_cons.mp h2).1 a z;omega
def rotAt (l:List Int) (j:Nat):List Int:=l.drop j++l.take j
theorem Zcm:∀(l:List Int),l≠[]->∃m,m∈l/\∀a∈l,m<=a
 |[],h=>absurd rfl h
 |[x],_=>⟨x,Wat,λa ha=>by rw[Wbs.mp ha];exact Int.le_refl _⟩
 |x::y::l,_=>by
  obtain⟨m,h1,h2⟩:=Zcm (y::l) (by simp);by_cases h:x<=m
  ·refine⟨x,Wat,λa ha=>?_⟩
   rcases Wap.mp ha with z|z
   ·omega
   ·have:=h2 a z;omega
  ·refine⟨m,Way _ h1,λa ha=>?_⟩
   rcases Wap.mp ha with z|z
   ·omega
   ·exact h2 a z
theorem Zlq {l:List Int}(nd:l.Nodup) {j:Nat}{x:Int}(h:l[j]?=some x):l.idxOf x=j:=by
 obtain⟨h1,h2⟩:=Wag.mp h;obtain⟨i1,i2,_⟩:=Zcr (r:=l) (x:=x) (by rw[<- h2];exact Wbl h1);obtain⟨i3,i4⟩:=Wag.mp i2;exact(Wdm nd).mp (i4.trans h2.symm)
def nxI (n k:Nat):Nat:=if k+1=n then 0 else k+1
theorem Ztl {n k:Nat}(h:k<n):(k+1) % n=nxI n k:=by
 unfold nxI;split
 ·rename_i e;rw[e,Nat.mod_self]
 ·rw[Nat.mod_eq_of_lt (by omega)]
theorem Zd7 {r:List Int}(nd:r.Nodup) {k:Nat}{x:Int}(h:r[k]?=some x):nextIn r x=r.getD (nxI r.length k) 0:=by
 unfold nextIn;rw[Zlq nd h,Ztl (Wag.mp h).1]
theorem Zfe (ds:List D) {j:Nat}(h:j<=ds.length):cutD ds (some (j:Int)) none=ds.drop j:=by
 unfold cutD;rw[HT.sIx_nat,HT.sIx_none,Nat.min_eq_left h,Wcz (by rw[Wb4];exact Wak _)]
theorem Zli (ds:List D) {j:Nat}(h:j<=ds.length):cutD ds none (some (j:Int))=ds.take j:=by
 unfold cutD;rw[HT.sIx_nat,HT.sIx_none,Nat.min_eq_left h,Wc7,Wd0]
section
variable {P:Program}{w:World}{K:W.Frag}{mg:Str->Option Value}{base:Heap}{f:Addr}{fd:FuncData}
def fPlace:DSp:=λds Post=>∃n ts,∃e:Nat,ds=[encWeb n ts,.int e]/\e<2*ts.length/\Post (.int<|placeAt ts e)
def folOf (ts:List (Int × Int)) (o:List (List Int)) (e:Nat):Int:=nextIn (rowAt ts o e) e
def fFol:DSp:=λds Post=>∃n ts o,∃e:Nat,ds=[encWeb n ts,encOrd o,.int e]/\WebOk n ts/\OrdOk n ts o/\e<2*ts.length/\Post (.int<|folOf ts o e)
def fOnw:DSp:=λds Post=>∃n ts o,∃e:Nat,ds=[encWeb n ts,encOrd o,.int e]/\WebOk n ts/\OrdOk n ts o/\e<2*ts.length/\Post (.int<|folOf ts o<|partner e)
def fPart:DSp:=λds Post=>∃e:Nat,ds=[.int e]/\Post (.int<|partner e)
theorem Zq9 (mb:Mb mg) (F:Fun K "place_of" "place_of" Yba f fd):FnOk P w K mg base CX0 1 f fd ["web","end"] (spD K fPlace):=by
 refine F.ok Yby (Zbu λds Post h=>by obtain⟨_,_,_,rfl,_⟩:=h;rfl) λcdv A outer s H vs Q E hr h=>?_;have hu:=Zbv hr;refine⟨_,(Zai<|Zau<|Zbe (ixK K hu) (Zbe (ixK K hu) (Zbe (ixK K hu) (pv 0) Zag λ_ _=>rfl) (Zax Zh7 (pv 1) Zag) λ_ _=>rfl) (Zax Zcg (pv 1) Zag) λ_ _=>rfl),Zdt (λds Post hf=>?_) h⟩;obtain⟨n,ts,e,rfl,he,q⟩:=hf;refine⟨by simp,?_⟩;dsimp only[startD,Wbj,Wbn,Wa9];obtain⟨t,h1,h2,h3⟩:=Zm1 he;rw[Wb5]at h2 h3;refine Za0<|Zam<|Zam<|Zam<|Zac rfl<|Zak<|Za6 (d:=.tup<|ts.map encTie) rfl ?_;refine Zam<|Zac rfl<|Zak<|jr_I ⟨by omega,by omega⟩<|Za6 h2 ?_;exact Zam<|Zac rfl<|Zak<|jr_I (by show (0:Int)<2;omega)<|Za6 h3 q
theorem Zks (mb:Mb mg) (C67:Callee P w K mg base 1 "place_of" ["web","end"] (spD K fPlace)) (F:Fun K "follower" "follower" Ybb f fd):FnOk P w K mg base CX0 2 f fd ["web","order","end"] (spD K fFol):=by
 refine F.ok Ybu (Zbu λds Post h=>by obtain⟨_,_,_,_,rfl,_⟩:=h;rfl) λcdv A outer s H vs Q E hr h=>?_;have hu:=Zbv hr;refine⟨_,(Zaf (Zaq (i:=3) Ybu.nd rfl (Or.inl rfl)<|Zbe (ixK K hu) (pv 1) (Zav C67 (hr.mono<|by decide)<|Zaa (pv 0)<|Zaa (pv 2) Zad) λ_ _=>rfl)<|Zai<|Zau<|Zbe (ixK K hu) (pv 3) (Zax Zcg (Zax (addK K) (bmK K PySem.F.plainAttrs_tuple PySem.F.slot_tuple_index PySem.F.type_tuple_index (idxK K) (pv 3)<|Zaa (pv 2) Zad) Zag)<|Zah (lenK K) rfl (mb "len"<|by decide) Za5<|Zaa (pv 3) Zad) λ_ _=>rfl),Zdt (λds Post hf=>?_) h⟩;obtain⟨n,ts,o,e,rfl,hW,hO,he,q⟩:=hf;refine⟨by simp,?_⟩;dsimp only[startD,Wbj,Wbn,Wa9];obtain⟨g1,g2,g3⟩:=Zck hW hO he;obtain⟨p0,p1⟩:=Zil hW he;obtain⟨i1,i2,i3⟩:=Zcr g3;have hat:atI (o.map encRow) (placeAt ts e)=some (encRow<|rowAt ts o e):=by
  have ep:placeAt ts e=(((placeAt ts e).toNat:Nat):Int):=by omega
  rw[ep];exact Zcy (by rw[Wad,g1];rfl)
 refine Zaj<|Za1<|Zam<|Zac rfl<|Zaw<|Zab<|Zac rfl<|Zab<|Zac rfl<|Zae ⟨n,ts,e,rfl,he,Za6 hat ?_⟩;refine Za0<|Zam<|Zac rfl<|Zam<|Zam<|Zh5<|Zac rfl ⟨rowAt ts o e,rfl,Zac rfl ⟨e,(rowAt ts o e).idxOf (e:Int),rfl,i2,i3,?_⟩⟩;refine Zak<|Zc3 ?_;refine Zas<|Zab<|Zac rfl<|Zae<|Zbl (Or.inr rfl) ?_;rw[Waa];refine jr_I (by show (0:Int)<_;omega) ?_;have e1:(((rowAt ts o e).idxOf (e:Int):Int)+1) % ((rowAt ts o e).length:Int)=((((rowAt ts o e).idxOf (e:Int)+1) % (rowAt ts o e).length:Nat):Int):=by push_cast;rfl
 rw[e1];have hm:((rowAt ts o e).idxOf (e:Int)+1) % (rowAt ts o e).length<(rowAt ts o e).length:=Web _ (by omega);refine Za6 (d:=.int<|folOf ts o e) (Zcy ?_) q;rw[Wad,Wab hm];unfold folOf nextIn;rw[Waf,Wab hm];rfl
theorem Zm2 (mb:Mb mg) (C60:Callee P w K mg base 2 "follower" ["web","order","end"] (spD K fFol)) (F:Fun K "onward" "onward" Ybc f fd):FnOk P w K mg base CX0 3 f fd ["web","order","end"] (spD K fOnw):=by
 refine F.ok Ybz (Zbu λds Post h=>by obtain⟨_,_,_,_,rfl,_⟩:=h;rfl) λcdv A outer s H vs Q E hr h=>?_;have hu:=Zbv hr;refine⟨_,(Zai<|Zau<|Zav C60 (hr.mono<|by decide)<|Zaa (pv 0)<|Zaa (pv 1)<|Zaa (Zax Zwo (pv 2) Zag) Zad),Zdt (λds Post hf=>?_) h⟩;obtain⟨n,ts,o,e,rfl,hW,hO,he,q⟩:=hf;refine⟨by simp,?_⟩;dsimp only[startD,Wbj,Wbn,Wa9];refine Za0<|Zaw<|Zab<|Zac rfl<|Zab<|Zac rfl<|Zab<|Zam<|Zac rfl<|Zak<|Zuh ?_;rw[Zss];exact Zae ⟨n,ts,o,partner e,rfl,hW,hO,Zb1 he,q⟩
theorem Zmh (mb:Mb mg) (F:Fun K "_law_partner" "_law_partner" Ybh f fd):FnOk P w K mg base CX0 1 f fd ["_law_end"] (spD K fPart):=by
 refine F.ok Yb1 (Zbu λds Post h=>by obtain⟨_,rfl,_⟩:=h;rfl) λcdv A outer s H vs Q E hr h=>?_;have hu:=Zbv hr;refine⟨_,(Zai<|Zau<|Zax Zpr (Zax (addK K) (pv 0) Zag)<|Zax Zcl Zag<|Zax Zcg (pv 0) Zag),Zdt (λds Post hf=>?_) h⟩;obtain⟨e,rfl,q⟩:=hf;refine⟨by simp,?_⟩;dsimp only[startD,Wbj,Wbn,Wa9]
 repeat walk_at "js"
 have e1:(e:Int)+1-2*((e:Int) % 2)=(partner e:Int):=by unfold partner;split <;> omega
 rw[e1];exact q
end
def iter (f:Int->Int) (e:Int):Nat->Int
 |0=>e
 |n+1=>f (iter f e n)
def walkL (f:Int->Int) (e:Int) (n:Nat):List Int:=(Waq n).map (iter f e)
structure OneOne (f:Int->Int) (m:Nat):Prop where
 to:∀x,0<=x->x<(m:Int)->0<=f x/\f x<(m:Int)
 inj:∀x y,0<=x->x<(m:Int)->0<=y->y<(m:Int)->f x=f y->x=y
def NdTo (f:Int->Int) (e:Int) (n:Nat):Prop:=∀i j,i<n->j<n->iter f e i=iter f e j->i=j
structure IsOrb (f:Int->Int) (e:Int) (n:Nat):Prop where
 pos:0<n
 back:iter f e n=e
 nd:NdTo f e n
theorem Zcs (f:Int->Int) (e:Int) (j n:Nat):iter f (iter f e j) n=iter f e (j+n):=by
 induction n with
 |zero=>rfl
 |succ n ih=>show f (iter f (iter f e j) n)=f (iter f e (j+n));rw[ih]
theorem Zbx (f:Int->Int) (e:Int) (n:Nat):(walkL f e n).length=n:=by unfold walkL;rw[Waa,Wa5]
theorem Zfm (f:Int->Int) (e:Int) (a b:Nat):walkL f e (a+b)=walkL f e a++walkL f (iter f e a) b:=by
 unfold walkL;rw[List.range_add,War,Wal];congr 1;apply Wa4;intro i _;exact(Zcs f e a i).symm
theorem Zhj (f:Int->Int) (e:Int) (n:Nat):walkL f e (n+1)=walkL f e n++[iter f e n]:=by rw[Zfm];rfl
theorem Zbw {f:Int->Int}{e x:Int}{n:Nat}:x∈walkL f e n ↔ ∃i,i<n/\iter f e i=x:=by
 unfold walkL;rw[Was];constructor
 ·rintro⟨i,h,rfl⟩;exact⟨i,Wav.mp h,rfl⟩
 ·rintro⟨i,h,rfl⟩;exact⟨i,Wav.mpr h,rfl⟩
theorem Ze5 {f:Int->Int}{e:Int}{n i:Nat}(h:i<n):(walkL f e n)[i]?=some (iter f e i):=by
 unfold walkL;rw[Wad,Wb1 h];rfl
theorem IsOrb.uniq {f:Int->Int}{e:Int}{n k:Nat}(h:IsOrb f e n) (h':IsOrb f e k):n=k:=by
 rcases Nat.lt_trichotomy n k with z|z|z
 ·have:=h'.nd n 0 z h'.pos (by rw[h.back];rfl)
  have:=h.pos;omega
 ·exact z
 ·have:=h.nd k 0 z h.pos (by rw[h'.back];rfl)
  have:=h'.pos;omega
noncomputable def per (f:Int->Int) (e:Int):Nat:=Classical.epsilon<|IsOrb f e
noncomputable def orb (f:Int->Int) (e:Int):List Int:=walkL f e<|per f e
theorem IsOrb.per {f:Int->Int}{e:Int}{n:Nat}(h:IsOrb f e n):Lw.per f e=n:=(Classical.epsilon_spec (p:=IsOrb f e) ⟨n,h⟩).uniq h
theorem IsOrb.orb {f:Int->Int}{e:Int}{n:Nat}(h:IsOrb f e n):Lw.orb f e=walkL f e n:=by unfold Lw.orb;rw[h.per]
section
variable {f:Int->Int}{m:Nat}(F:OneOne f m) {e:Int}(h0:0<=e) (h1:e<(m:Int))
include F h0 h1
theorem Zco (n:Nat):0<=iter f e n/\iter f e n<(m:Int):=by
 induction n with
 |zero=>exact⟨h0,h1⟩
 |succ n ih=>exact F.to _ ih.1 ih.2
theorem Ziv {n:Nat}(hn:1<=n) (nd:NdTo f e n) (hne:iter f e n≠e):NdTo f e (n+1):=by
 have key:∀j,j<n->iter f e n≠iter f e j:=by
  intro j hj q;cases j with
  |zero=>exact hne q
  |succ j=>
   obtain⟨k,rfl⟩:∃k,n=k+1:=⟨n-1,by omega⟩;have a:=Zco F h0 h1 k;have b:=Zco F h0 h1 j;have:=nd k j (by omega) (by omega)<|F.inj _ _ a.1 a.2 b.1 b.2 q;omega
 intro i j hi hj q;by_cases hin:i=n
 ·by_cases hjn:j=n
  ·omega
  ·subst hin;exact absurd q (key j<|by omega)
 ·by_cases hjn:j=n
  ·subst hjn;exact absurd q.symm (key i<|by omega)
  ·exact nd i j (by omega) (by omega) q
theorem Zjy {n:Nat}(nd:NdTo f e n):n<=m:=by
 have hn:(walkL f e n).Nodup:=by
  unfold walkL List.Nodup;rw[Wdi,Wcd];intro i j hi hj hij;rw[Wa5]at hi hj;rw[Wdd,Wdd];intro q;have:=nd i j hi hj q;omega
 have:=Zem (m:=(Waq m).map λe:Nat=>(e:Int)) hn λx hx=>by
  obtain⟨i,hi,rfl⟩:=Zbw.mp hx;have:=Zco F h0 h1 i;exact Was.mpr ⟨(iter f e i).toNat,Wav.mpr (by omega),by omega⟩
 rw[Zbx,Waa,Wa5]at this;exact this
theorem Zov:NdTo f e 1:=λi j hi hj _=>by omega
theorem Zvj:∃n,IsOrb f e n:=by
 apply Classical.byContradiction;intro hn;have all:∀n,NdTo f e (n+1):=by
  intro n
  induction n with
  |zero=>exact Zov F h0 h1
  |succ n ih=>
   refine Ziv F h0 h1 (by omega) ih λq=>hn ⟨n+1,by omega,q,ih⟩
 have:=Zjy F h0 h1<|all m;omega
theorem Zey:IsOrb f e (per f e):=by
 obtain⟨n,h⟩:=Zvj F h0 h1;rw[h.per];exact h
theorem Zlr:e∈orb f e:=Zbw.mpr ⟨0,(Zey F h0 h1).pos,rfl⟩
theorem Zod:(orb f e).length<=m:=by
 unfold orb;rw[Zbx];exact Zjy F h0 h1 (Zey F h0 h1).nd
theorem Zgf (k:Nat):iter f e k∈orb f e:=by
 have O:=Zey F h0 h1
 induction k with
 |zero=>exact Zlr F h0 h1
 |succ k ih=>
  obtain⟨i,hi,q⟩:=Zbw.mp ih;show f (iter f e k)∈_;rw[<- q];by_cases hl:i+1=per f e
  ·have:f (iter f e i)=e:=by
    have:=O.back;rw[<- hl]at this;exact this
   rw[this];exact Zlr F h0 h1
  ·exact Zbw.mpr ⟨i+1,by omega,rfl⟩
theorem Zjp {x:Int}(hx:x∈orb f e):0<=x/\x<(m:Int):=by
 obtain⟨i,_,rfl⟩:=Zbw.mp hx;exact Zco F h0 h1 i
theorem Zq7 {x y:Int}(a0:0<=x) (a1:x<(m:Int)) (b0:0<=y) (b1:y<(m:Int)) (j:Nat) (q:iter f x j=iter f y j):x=y:=by
 induction j with
 |zero=>exact q
 |succ j ih=>
  have a:=Zco F a0 a1 j;have b:=Zco F b0 b1 j;exact ih<|F.inj _ _ a.1 a.2 b.1 b.2 q
theorem Zt5 (j:Nat):IsOrb f (iter f e j) (per f e):=by
 have O:=Zey F h0 h1;refine⟨O.pos,?_,λi k hi hk q=>?_⟩
 ·rw[Zcs,Nat.add_comm,<- Zcs,O.back]
 ·rw[Zcs,Zcs,Nat.add_comm j i,Nat.add_comm j k,<- Zcs,<- Zcs]at q
  have a:=Zco F h0 h1 i;have b:=Zco F h0 h1 k;exact O.nd i k hi hk<|Zq7 F h0 h1 a.1 a.2 b.1 b.2 j q
theorem Zdd {x:Int}(hx:x∈orb f e):e∈orb f x:=by
 have O:=Zey F h0 h1;obtain⟨j,hj,rfl⟩:=Zbw.mp hx;have a:=Zco F h0 h1 j;have:=Zgf F a.1 a.2<|per f e-j;rw[Zcs,show j+(per f e-j)=per f e by omega,O.back]at this;exact this
theorem Zc1 {x y:Int}(hx:x∈orb f e) (hy:y∈orb f x):y∈orb f e:=by
 obtain⟨j,_,rfl⟩:=Zbw.mp hx;obtain⟨i,_,rfl⟩:=Zbw.mp hy;rw[Zcs];exact Zgf F h0 h1 _
theorem Ztp {j:Nat}(hj:j<per f e):rotAt (orb f e) j=orb f (iter f e j):=by
 have O:=Zey F h0 h1;rw[(Zt5 F h0 h1 j).orb];unfold orb rotAt;have e1:walkL f e (per f e)=walkL f e j++walkL f (iter f e j) (per f e-j):=by rw[<- Zfm,show j+(per f e-j)=per f e by omega]
 have e2:walkL f (iter f e j) (per f e)=walkL f (iter f e j) (per f e-j)++walkL f e j:=by
  conv=>lhs;rw[show per f e=(per f e-j)+j by omega]
  rw[Zfm,Zcs,show j+(per f e-j)=per f e by omega,O.back]
 rw[e2,e1,List.drop_left' (Zbx ..),List.take_left' (Zbx ..)]
theorem Zgm:(orb f e).Nodup:=by
 have O:=Zey F h0 h1;unfold orb walkL List.Nodup;rw[Wdi,Wcd];intro i j hi hj hij;rw[Wa5]at hi hj;rw[Wdd,Wdd];intro q;have:=O.nd i j hi hj q;omega
theorem Zei:∃l,orb f e=e::l:=by
 have O:=Zey F h0 h1;unfold orb;obtain⟨n,hn⟩:∃n,per f e=1+n:=⟨per f e-1,by have:=O.pos;omega⟩;rw[hn,Zfm];exact⟨_,rfl⟩
end
open Classical in
noncomputable def leastB (f:Int->Int) (e:Nat):Bool:=decide (∀x∈orb f (e:Int),(e:Int)<=x)
noncomputable def facesTo (f:Int->Int) (k:Nat):List (List Int):=((Waq k).filter (leastB f)).map λe:Nat=>orb f (e:Int)
theorem Zdb (f:Int->Int) (k:Nat):facesTo f (k+1)=facesTo f k++(if leastB f k=true then [orb f (k:Int)] else []):=by
 unfold facesTo;rw[Wdc,Wb9,War];congr 1;by_cases h:leastB f k=true
 ·rw[if_pos h];simp[Wbt,h]
 ·rw[if_neg h];simp[Wbt,h]
theorem Zds (f:Int->Int) (k:Nat):(facesTo f k).length<=k:=by
 unfold facesTo;rw[Waa];exact Wby (Wc4 _ _) (by rw[Wa5];exact Wak _)
def MetTo (f:Int->Int) (k:Nat) (x:Int):Prop:=∃e:Nat,e<k/\x∈orb f (e:Int)
section
variable {f:Int->Int}{m:Nat}(F:OneOne f m)
include F
theorem Zdn {k:Nat}(hk:k<m):MetTo f k (k:Int)↔leastB f k=false:=by
 unfold leastB;rw[decide_eq_false_iff_not];constructor
 ·rintro⟨e,he,hx⟩ h
  have:=h _<|Zdd F (by omega) (by omega) hx;omega
 ·intro h
  apply Classical.byContradiction;intro hn;refine h λx hx=>?_;have r:=Zjp F (by omega) (by omega) hx;apply Classical.byContradiction;intro hlt;refine hn ⟨x.toNat,by omega,?_⟩;rw[show ((x.toNat:Nat):Int)=x by omega];exact Zdd F (by omega) (by omega) hx
theorem Zga {k:Nat}(hk:k<m) {x:Int}:MetTo f (k+1) x↔MetTo f k x\/(leastB f k=true/\x∈orb f (k:Int)):=by
 constructor
 ·rintro⟨e,he,hx⟩
  by_cases hek:e=k
  ·subst hek
   by_cases hl:leastB f e=true
   ·exact .inr ⟨hl,hx⟩
   ·obtain⟨e',he',hx'⟩:=(Zdn F hk).mpr (Wdj.mpr hl)
    exact .inl ⟨e',he',Zc1 F (by omega) (by omega) hx' hx⟩
  ·exact .inl ⟨e,by omega,hx⟩
 ·rintro(⟨e,he,hx⟩|⟨_,hx⟩)
  ·exact⟨e,by omega,hx⟩
  ·exact⟨k,by omega,hx⟩
theorem Zk0 {k:Nat}(hk:k<=m) {x:Int}(h0:0<=x) (h1:x<(m:Int)) (j:Nat):MetTo f k (iter f x j)↔MetTo f k x:=by
 have hj:=Zco F h0 h1 j;constructor
 ·rintro⟨e,he,hx⟩
  exact⟨e,he,Zc1 F (by omega) (by omega) hx<|Zdd F h0 h1<|Zgf F h0 h1 j⟩
 ·rintro⟨e,he,hx⟩
  exact⟨e,he,Zc1 F (by omega) (by omega) hx<|Zgf F h0 h1 j⟩
theorem Zkt {k:Nat}(hk:k<=m) (z:Nat):Asc (Wae z []++facesTo f k):=by
 intro i a b ha hb;by_cases h1:i<z
 ·rw[Wbm (by rw[Wa2];exact h1),Wcx,if_pos h1]at ha
  cases ha;exact .inl rfl
 ·rw[Wbc (by rw[Wa2];omega),Wa2]at ha hb
  rw[show i+1-z=i-z+1 by omega]at hb;unfold facesTo at ha hb;rw[Wad]at ha hb;cases qa:((Waq k).filter (leastB f))[i-z]? with
  |none=>rw[qa]at ha;cases ha
  |some ea=>
   cases qb:((Waq k).filter (leastB f))[i-z+1]? with
   |none=>rw[qb]at hb;cases hb
   |some eb=>
    rw[qa]at ha;rw[qb]at hb;have ha:orb f (ea:Int)=a:=by simpa using ha
    have hb:orb f (eb:Int)=b:=by simpa using hb
    subst ha hb;have ma:=(Wbd.mp<|Wai qa).1;have mb:=(Wbd.mp<|Wai qb).1;rw[Wav]at ma mb;have hlt:ea<eb:=by
     have pw:((Waq k).filter (leastB f)).Pairwise (· < ·):=List.Pairwise.filter _ Wdh;obtain⟨p1,p2⟩:=Wag.mp qa;obtain⟨p3,p4⟩:=Wag.mp qb;have:=Wcd.mp pw (i-z) (i-z+1) p1 p3 (by omega);omega
    obtain⟨la,e1⟩:=Zei F (e:=(ea:Int)) (by omega) (by omega);obtain⟨lb,e2⟩:=Zei F (e:=(eb:Int)) (by omega) (by omega);exact .inr ⟨_,_,la,lb,e1,e2,by omega⟩
theorem Znk {x:Int}(h0:0<=x) (h1:x<(m:Int)):∃e:Nat,e<m/\leastB f e=true/\(e:Int)∈orb f x/\∀r∈facesTo f m,x∈r↔r=orb f (e:Int):=by
 obtain⟨y,hy,hle⟩:=Zcm (orb f x) (by obtain⟨l,e⟩:=Zei F h0 h1;rw[e];simp);have r:=Zjp F h0 h1 hy;have ey:((y.toNat:Nat):Int)=y:=by omega
 have hl:leastB f y.toNat=true:=by
  unfold leastB;rw[decide_eq_true_iff,ey];exact λz hz=>hle z<|Zc1 F h0 h1 hy hz
 refine⟨y.toNat,by omega,hl,by rw[ey];exact hy,λq hq=>?_⟩;unfold facesTo at hq;obtain⟨e,he,rfl⟩:=Was.mp hq;rw[Wbd,Wav]at he;rw[ey];constructor
 ·intro hx
  have h2:y∈orb f (e:Int):=Zc1 F (by omega) (by omega) hx hy;have h3:(e:Int)∈orb f x:=Zdd F (by omega) (by omega) hx;have a:=hle _ h3;have b:(e:Int)<=y:=by
   have:=he.2;unfold leastB at this;exact of_decide_eq_true this y h2
  rw[show (e:Int)=y by omega]
 ·intro q
  rw[q];exact Zdd F h0 h1 hy
theorem Zj8 {e:Nat}(he:e<m) (hl:leastB f e=true):orb f (e:Int)∈facesTo f m:=by
 unfold facesTo;exact Was.mpr ⟨e,by rw[Wbd,Wav];exact⟨he,hl⟩,rfl⟩
end
theorem Zry {r:List Int}{x:Int}(h:x∈r):nextIn r x∈r:=by
 obtain⟨h1,_,_⟩:=Zcr h;have hm:(r.idxOf x+1) % r.length<r.length:=Web _ (by omega);unfold nextIn;rw[Waf,Wab hm];exact Wbl hm
theorem Zq4 {r:List Int}(nd:r.Nodup) {x y:Int}(hx:x∈r) (hy:y∈r) (h:nextIn r x=nextIn r y):x=y:=by
 obtain⟨i,hi⟩:=Wbg.mp hx;obtain⟨j,hj⟩:=Wbg.mp hy;obtain⟨i1,i2⟩:=Wag.mp hi;obtain⟨j1,j2⟩:=Wag.mp hj;rw[Zd7 nd hi,Zd7 nd hj,Waf,Waf]at h;have a:nxI r.length i<r.length:=by unfold nxI;split <;> omega
 have b:nxI r.length j<r.length:=by unfold nxI;split <;> omega
 rw[Wab a,Wab b]at h;have e:=(Wdm nd).mp (show r[nxI r.length i]=r[nxI r.length j] from h);have:i=j:=by unfold nxI at e;split at e <;> split at e <;> omega
 subst this;rw[hi]at hj;exact Wa6.inj hj
theorem Zbh (e:Nat):partner (partner e)=e:=by unfold partner;split <;> split <;> omega
def onI (ts:List (Int × Int)) (o:List (List Int)) (x:Int):Int:=folOf ts o<|partner x.toNat
theorem Zin {n:Int}{ts:List (Int × Int)}{o:List (List Int)}(hW:WebOk n ts) (hO:OrdOk n ts o) {e:Nat}(he:e<2*ts.length):∃g:Nat,g<2*ts.length/\placeAt ts g=placeAt ts e/\(g:Int)=folOf ts o e:=by
 obtain⟨g1,g2,g3⟩:=Zck hW hO he;exact g2.mem.mp<|Zry g3
theorem Zdo {n:Int}{ts:List (Int × Int)}{o:List (List Int)}(hW:WebOk n ts) (hO:OrdOk n ts o):OneOne (onI ts o) (2*ts.length):=by
 refine⟨λx h0 h1=>?_,λx y h0 h1 h2 h3 q=>?_⟩
 ·obtain⟨g,hg,_,e⟩:=Zin hW hO (Zb1 (show x.toNat<2*ts.length by omega))
  unfold onI;rw[<- e];omega
 ·have hx:=Zb1 (show x.toNat<2*ts.length by omega)
  have hy:=Zb1 (show y.toNat<2*ts.length by omega);obtain⟨g,hg,pg,eg⟩:=Zin hW hO hx;obtain⟨k,hk,pk,ek⟩:=Zin hW hO hy;unfold onI at q;have egk:g=k:=by omega
  subst egk;have hp:placeAt ts (partner x.toNat)=placeAt ts (partner y.toNat):=pg.symm.trans pk;obtain⟨_,r2,r3⟩:=Zck hW hO hx;obtain⟨_,_,r6⟩:=Zck hW hO hy;have er:rowAt ts o (partner y.toNat)=rowAt ts o (partner x.toNat):=by unfold rowAt;rw[hp]
  unfold folOf at q;rw[er]at q r6;have:=Zq4 r2.nodup r3 r6 q;have e1:partner x.toNat=partner y.toNat:=by omega
  have e2:=congrArg partner e1;rw[Zbh,Zbh]at e2;omega
def lone (o:List (List Int)):Nat:=(o.filter λr=>r.isEmpty).length
theorem Zgk (o:List (List Int)):lone o<=o.length:=Wc4 _ _
theorem Zgg (o:List (List Int)) (p:D->Bool) (hp:∀r:List Int,p (rowD r)=r.isEmpty) (g:D->D) (hg:∀d,g d=.tup []):((o.map rowD).filter p).map g=(Wae (lone o) ([]:List Int)).map rowD:=by
 unfold lone
 induction o with
 |nil=>rfl
 |cons r o ih=>
  rw[Wa1,Wbt,Wbt,hp];cases h:r.isEmpty with
  |true=>simp only[if_true];rw[Wa1,Wan,Wcl,Wa1,ih,hg];rfl
  |false=>simp only[Wde,if_false];exact ih
theorem OrdOk.flat_eq {n:Int}{ts:List (Int × Int)}{o:List (List Int)}(hW:WebOk n ts) (h:OrdOk n ts o):o.flatten.length=2*ts.length:=by
 have h1:=h.flat_len;have h2:=Zem (l:=(Waq (2*ts.length)).map λe:Nat=>(e:Int)) (m:=o.flatten) ?_ λx hx=>by
  obtain⟨e,he,rfl⟩:=Was.mp hx;rw[Wav]at he;obtain⟨g1,g2,g3⟩:=Zck hW h he;exact Wca.mpr ⟨_,Wai g1,g3⟩
 ·rw[Waa,Wa5]at h2;omega
 ·refine List.Pairwise.map _ (λa b q=>?_) Wc8
  intro e;exact q (by omega)
def Lv:Nat->D->Prop
 |0,_=>False
 |_+1,.int _=>True
 |m+1,.lst ds=>ds.length<=1000/\∀d∈ds,Lv m d
 |m+1,.tup ds=>ds.length<=1000/\∀d∈ds,Lv m d
 |_,_=>False
def fSame (m:Nat):DSp:=λds Post=>∃d,ds=[d,d]/\Lv m d/\Post (.bl true)
def isIntD:D->Option Bool
 |.int _=>some true
 |.lst _=>some false
 |.tup _=>some false
 |_=>none
def fWholeB:DSp:=λds Post=>∃d b,ds=[d]/\isIntD d=some b/\Post (.bl b)
section
variable {P:Program}{w:World}{K:W.Frag}{mg:Str->Option Value}{base:Heap}{f:Addr}{fd:FuncData}
theorem Zdp:2<=sizeLine:=by decide
theorem Zk3 (ds:List D):(((ds.zip ds).map λp=>D.tup [p.1,p.2]).filter λ_=>true).map (λ_=>D.bl true)=(Wae ds.length true).map D.bl:=by
 rw[Waz.mpr (by simp),Wct,Wcp,Waa,Wdw,Wee]
theorem Zda (n:Nat):(Wae n true).all id=true:=by
 rw[Wba];intro x hx;rw[(Wco.mp hx).2];rfl
theorem Zjj {ds:List D}{i:Nat}{d:D}(hd':((ds.zip ds).map λp=>D.tup [p.1,p.2])[i]?=some d):∃e,e∈ds/\d=.tup [e,e]:=by
 rw[Wad]at hd';cases z:(ds.zip ds)[i]? with
 |none=>rw[z]at hd';cases hd'
 |some pr=>
  rw[z]at hd';have hd':D.tup [pr.1,pr.2]=d:=by simpa using hd'
  rw[Wce]at z;have e:pr.1=pr.2:=Wa6.inj<|z.1.symm.trans z.2;exact⟨pr.1,Wai z.1,by rw[<- hd',<- e]⟩
theorem Zqa (mb:Mb mg) (F:Fun K "_law_whole" "_law_whole" Ybi f fd):FnOk P w K mg base CX0 1 f fd ["_law_found"] (spD K fWholeB):=by
 refine F.ok Yb2 (Zbu λds Post h=>by obtain⟨_,_,rfl,_⟩:=h;rfl) λcdv A outer s H vs Q E hr h=>?_;have hu:=Zbv hr;refine⟨_,(Zai<|Zau<|Zlz (Zah (isiUK K) rfl (mb "isinstance"<|by decide) Za4<|Zaa (pv 0)<|Zaa (Zc7 rfl (mb "int"<|by decide) Zsj (show RelV (.ty "int") _ from rfl)) Zad)<|Zlw<|Zsk<|Zah (isiUK K) rfl (mb "isinstance"<|by decide) Za4<|Zaa (pv 0)<|Zaa (Zc7 rfl (mb "bool"<|by decide) Zm6 (show RelV (.ty "bool") _ from rfl)) Zad),Zdt (λds Post hf=>?_) h⟩;obtain⟨d,b,rfl,hb,q⟩:=hf;refine⟨by simp,?_⟩;dsimp only[startD,Wbj,Wbn,Wa9];cases d with
 |int i=>
  cases hb;refine Za0<|Zd4<|Zas<|Zab<|Zac rfl<|Zab<|Zec<|Zae<|Zcx (T:="int") (b:=true) rfl (λ_=>by rfl) ⟨_,rfl,?_⟩;rw[if_pos rfl];refine Zkv<|Zas<|Zab<|Zac rfl<|Zab<|Zec<|Zae<|Zcx (T:="int") (b:=false) rfl (λ_=>by rfl) ⟨_,rfl,?_⟩;exact q
 |lst l=>
  cases hb;exact Za0<|Zd4<|Zas<|Zab<|Zac rfl<|Zab<|Zec<|Zae<|Zcx (T:="list") (b:=false) rfl (λ_=>by rfl) ⟨_,rfl,iteF q⟩
 |tup l=>
  cases hb;exact Za0<|Zd4<|Zas<|Zab<|Zac rfl<|Zab<|Zec<|Zae<|Zcx (T:="tuple") (b:=false) rfl (λ_=>by rfl) ⟨_,rfl,iteF q⟩
 |_=>cases hb
theorem Zrp {m:Nat}(mb:Mb mg) (C54:Callee P w K mg base 1 "_law_whole" ["_law_found"] (spD K fWholeB)) (C52:Callee P w K mg base (m+1) "_law_same" ["_law_found","_law_due"] (spD K<|fSame m)) (F:Fun K "_law_same" "_law_same" Yam f fd):FnOk P w K mg base CX0 (m+2) f fd ["_law_found","_law_due"] (spD K<|fSame<|m+1):=by
 refine F.ok Yb3 (Zbu λds Post h=>by obtain⟨_,rfl,_⟩:=h;rfl) λcdv A outer s H vs Q E hr h=>?_;have hu:=Zbv hr;refine⟨_,(Zaf (Zbd (truK K (Zav C54 (hr.mono (by first|decide|omega))<|Zaa (pv 1) Zad) λ_=>rfl) (Zai<|Zau<|Zlz (Zav C54 (hr.mono (by first|decide|omega))<|Zaa (pv 0) Zad)<|Zlw<|Zis Zbm (pv 0) (pv 1)<|nomark _) Zar)<|Zaf (Zbd (PW.pt<|pw_and (truK K (Zah (isiUK K) rfl (mb "isinstance"<|by decide) Za4<|Zaa (pv 1)<|Zaa (Zc7 rfl (mb "list"<|by decide) Zfw (show RelV (.ty "list") _ from rfl)) Zad) λ_=>rfl)<|pw_and1<|Zcj<|truK K (Zah (isiUK K) rfl (mb "isinstance"<|by decide) Za4<|Zaa (pv 0)<|Zaa (Zc7 rfl (mb "list"<|by decide) Zfw (show RelV (.ty "list") _ from rfl)) Zad) λ_=>rfl) (Zai<|Zau Zg2) Zar)<|Zaf (Zbd (PW.pt<|pw_and (truK K (Zah (isiUK K) rfl (mb "isinstance"<|by decide) Za4<|Zaa (pv 1)<|Zaa (Zc7 rfl (mb "tuple"<|by decide) Za9 (show RelV (.ty "tuple") _ from rfl)) Zad) λ_=>rfl)<|pw_and1<|Zcj<|truK K (Zah (isiUK K) rfl (mb "isinstance"<|by decide) Za4<|Zaa (pv 0)<|Zaa (Zc7 rfl (mb "tuple"<|by decide) Za9 (show RelV (.ty "tuple") _ from rfl)) Zad) λ_=>rfl) (Zai<|Zau Zg2) Zar)<|Zai<|Zau<|Zlz (Zis Zbm (Zah (lenK K) rfl (mb "len"<|by decide) Za5<|Zaa (pv 0) Zad) (Zah (lenK K) rfl (mb "len"<|by decide) Za5<|Zaa (pv 1) Zad)<|nomark _)<|Zlw<|Zah (allK K rfl) rfl (mb "all"<|by decide) Zgl<|Zaa (Za3 ["_law_one","_law_other"] (show CompSc (defScope Yam) ["_law_found","_law_due"] _ [] [] from ⟨rfl,by decide +kernel,by decide +kernel,by decide +kernel,rfl,by decide +kernel⟩) rfl (Zwe K rfl (mb "zip"<|by decide)<|Zaa (pv 0)<|Zaa (pv 1) Zad) (λ_ _ _ _ _=>(gtupK (n:=2) K rfl<|Zct (Zal (i:=0) (show List.Nodup (["_law_one","_law_other"]:List Str) from by decide) rfl<|Or.inl rfl)<|Zct (Zal (i:=1) (show List.Nodup (["_law_one","_law_other"]:List Str) from by decide) rfl<|Or.inl rfl) Zgu)) (λ_ _ _ _ _=>Zbb) λ_ _ _ _ _=>(Zav C52 (hr.mono (by first|decide|omega))<|Zaa (pv 0)<|Zaa (pv 1) Zad)) Zad),Zdt (λds Post hf=>?_) h⟩;obtain⟨d,rfl,hd,q⟩:=hf;refine⟨by simp,?_⟩;dsimp only[startD,Wbj,Wbn,Wa9];cases d with
 |int i=>
  refine Zaj<|Zbn<|Zbk<|Zaw<|Zab<|Zac rfl<|Zae ⟨_,true,rfl,rfl,_,rfl,?_⟩;refine iteT<|Za0<|Zd4<|Zaw<|Zab<|Zac rfl<|Zae ⟨_,true,rfl,rfl,_,rfl,?_⟩;refine iteT<|Zam<|Zac rfl<|Zac rfl<|Zeq ?_;rw[decide_eq_true rfl];exact q
 |lst ds=>
  obtain⟨hl,hd⟩:=hd;refine Zaj<|Zbn<|Zbk<|Zaw<|Zab<|Zac rfl<|Zae ⟨_,false,rfl,rfl,_,rfl,iteF<|Zaz ?_⟩;refine Zaj<|Zbn<|Zj1<|Zbk<|Zas<|Zab<|Zac rfl<|Zab<|Zec<|Zae<|Zcx (T:="list") (b:=true) rfl (λ_=>by rfl) ⟨_,rfl,iteT ?_⟩;refine Zca<|Zbk<|Zas<|Zab<|Zac rfl<|Zab<|Zec<|Zae<|Zcx (T:="list") (b:=true) rfl (λ_=>by rfl) ⟨_,rfl,iteF<|Zaz ?_⟩;refine Zaj<|Zbn<|Zj1<|Zbk<|Zas<|Zab<|Zac rfl<|Zab<|Zec<|Zae<|Zcx (T:="list") (b:=false) rfl (λ_=>by rfl) ⟨_,rfl,iteF<|iteF<|Zaz ?_⟩;refine Za0<|Zd4<|Zam<|Zas<|Zab<|Zac rfl<|Zae<|Zbl (Or.inl rfl)<|Zas<|Zab<|Zac rfl<|Zae<|Zbl (Or.inl rfl)<|Zeq ⟨_,rfl,?_⟩;rw[decide_eq_true rfl];refine iteT<|Zas<|Zab<|Zio (by decide)<|Zw3<|Zab<|Zac rfl<|Zab<|Zac rfl<|Zae ⟨ds,ds,rfl,rfl,?_,λ_=>true,λ_=>.bl true,λi d hd'=>?_,?_⟩
  ·rw[Waa,Wdw];exact small1000 (by omega)
  ·obtain⟨e,he,rfl⟩:=Zjj hd'
   exact⟨_,_,rfl,Zba ⟨rfl,Zaw<|Zab<|Zac rfl<|Zab<|Zac rfl<|Zae ⟨e,rfl,hd _ he,rfl,_,_,rfl⟩⟩⟩
  ·refine Zae ?_
   rw[Zk3];refine Zf4 ?_;rw[Zda];exact q
 |tup ds=>
  obtain⟨hl,hd⟩:=hd;refine Zaj<|Zbn<|Zbk<|Zaw<|Zab<|Zac rfl<|Zae ⟨_,false,rfl,rfl,_,rfl,iteF<|Zaz ?_⟩;refine Zaj<|Zbn<|Zj1<|Zbk<|Zas<|Zab<|Zac rfl<|Zab<|Zec<|Zae<|Zcx (T:="tuple") (b:=false) rfl (λ_=>by rfl) ⟨_,rfl,iteF<|iteF<|Zaz ?_⟩;refine Zaj<|Zbn<|Zj1<|Zbk<|Zas<|Zab<|Zac rfl<|Zab<|Zec<|Zae<|Zcx (T:="tuple") (b:=true) rfl (λ_=>by rfl) ⟨_,rfl,iteT ?_⟩;refine Zca<|Zbk<|Zas<|Zab<|Zac rfl<|Zab<|Zec<|Zae<|Zcx (T:="tuple") (b:=true) rfl (λ_=>by rfl) ⟨_,rfl,iteF<|Zaz ?_⟩;refine Za0<|Zd4<|Zam<|Zas<|Zab<|Zac rfl<|Zae<|Zbl (Or.inr rfl)<|Zas<|Zab<|Zac rfl<|Zae<|Zbl (Or.inr rfl)<|Zeq ⟨_,rfl,?_⟩;rw[decide_eq_true rfl];refine iteT<|Zas<|Zab<|Zio (by decide)<|Zuy<|Zab<|Zac rfl<|Zab<|Zac rfl<|Zae ⟨ds,ds,rfl,rfl,?_,λ_=>true,λ_=>.bl true,λi d hd'=>?_,?_⟩
  ·rw[Waa,Wdw];exact small1000 (by omega)
  ·obtain⟨e,he,rfl⟩:=Zjj hd'
   exact⟨_,_,rfl,Zba ⟨rfl,Zaw<|Zab<|Zac rfl<|Zab<|Zac rfl<|Zae ⟨e,rfl,hd _ he,rfl,_,_,rfl⟩⟩⟩
  ·refine Zae ?_
   rw[Zk3];refine Zf4 ?_;rw[Zda];exact q
 |_=>exact hd.elim
theorem Zni (mb:Mb mg) (C54:Callee P w K mg base 1 "_law_whole" ["_law_found"] (spD K fWholeB)) (F:Fun K "_law_same" "_law_same" Yam f fd) (b:Binds K fd ["_law_found","_law_due"] []) (kp:W.keepIn K (.ref f)=true) (hm:mg "_law_same" = some (.ref f)):∀m:Nat,FnOk P w K mg base CX0 (m+1) f fd ["_law_found","_law_due"] (spD K<|fSame m)
 |0=>by
  have no:∀vs H Q E,¬ spD K (fSame 0) vs H Q E:=λvs H Q E ⟨_,_,_,_,_,⟨_,_,hd,_⟩,_⟩=>hd;exact⟨λvs H Q E h=>absurd h<|no vs H Q E,λA outer s H args us vs Q E _ _ _ _ h=>absurd h<|no vs H Q E⟩
 |m+1=>Zrp mb C54 ⟨⟨f,fd,Zni mb C54 F b kp hm m,b,kp,hm⟩⟩ F
theorem Zrs (mb:Mb mg) (C54:Callee P w K mg base 1 "_law_whole" ["_law_found"] (spD K fWholeB)) (F:Fun K "_law_same" "_law_same" Yam f fd) (b:Binds K fd ["_law_found","_law_due"] []) (kp:W.keepIn K (.ref f)=true) (hm:mg "_law_same" = some (.ref f)):∀m:Nat,FnOk P w K mg base CX0 m f fd ["_law_found","_law_due"] (spD K<|fSame<|m-1)
 |0=>by
  have no:∀vs H Q E,¬ spD K (fSame 0) vs H Q E:=λvs H Q E ⟨_,_,_,_,_,⟨_,_,hd,_⟩,_⟩=>hd;exact⟨λvs H Q E h=>absurd h<|no vs H Q E,λA outer s H args us vs Q E _ _ _ _ h=>absurd h<|no vs H Q E⟩
 |m+1=>Zni mb C54 F b kp hm m
end
def fLeastL:DSp:=λds Post=>∃ns:List Int,ds=[.lst (ns.map .int)]/\0<ns.length/\ns.length<=100/\∀m,m∈ns->(∀a∈ns,m<=a)->Post (rowD<|rotAt ns<|ns.idxOf m)
def fFaceOf:DSp:=λds Post=>∃n ts o,∃e:Nat,ds=[encWeb n ts,encOrd o,.int e]/\WebOk n ts/\OrdOk n ts o/\e<2*ts.length/\∀g:Nat,g<2*ts.length->leastB (onI ts o) g=true->(g:Int)∈orb (onI ts o) e->Post (rowD<|orb (onI ts o) g)
noncomputable def allF (ts:List (Int × Int)) (o:List (List Int)):List (List Int):=Wae (lone o) []++facesTo (onI ts o) (2*ts.length)
def fFaces:NSp:=λds Post=>∃n ts o,ds=[encWeb n ts,encOrd o]/\WebOk n ts/\OrdOk n ts o/\Post ((allF ts o).map rowD)
theorem Zf8 {n:Int}{ts:List (Int × Int)}{o:List (List Int)}(hW:WebOk n ts) (hO:OrdOk n ts o):(allF ts o).length<=150:=by
 unfold allF;rw[Waj,Wa2];have:=Zds (onI ts o) (2*ts.length);have:=Zgk o;have:=hO.len;have:=hW.hi;have:=hW.len;omega
theorem Zqd {n:Int}{ts:List (Int × Int)}{o:List (List Int)}(hW:WebOk n ts) (hO:OrdOk n ts o):∀r∈allF ts o,r.length<=48:=by
 intro r hr;unfold allF at hr;rcases Wbp.mp hr with h|h
 ·rw[(Wco.mp h).2];simp
 ·unfold facesTo at h
  obtain⟨e,he,rfl⟩:=Was.mp h;rw[Wbd,Wav]at he;have:=Zod (Zdo hW hO) (e:=(e:Int)) (by omega) (by omega);have:=hW.len;omega
theorem Zlj {n:Int}{ts:List (Int × Int)}{o:List (List Int)}(hW:WebOk n ts) (hO:OrdOk n ts o):Asc (allF ts o):=Zkt (Zdo hW hO) (Wak _) _
section
variable {P:Program}{w:World}{K:W.Frag}{mg:Str->Option Value}{base:Heap}{f:Addr}{fd:FuncData}
theorem Zpd (mb:Mb mg) (F:Fun K "least_first" "least_first" Yak f fd):FnOk P w K mg base CX0 1 f fd ["ends"] (spD K fLeastL):=by
 refine F.ok Yao (Zbu λds Post h=>by obtain⟨_,rfl,_⟩:=h;rfl) λcdv A outer s H vs Q E hr h=>?_;have hu:=Zbv hr;refine⟨_,(Zaf (Zbd (Zcj<|truK K (pv 0) λ_=>rfl) (Zai<|Zau<|Zbq Zad) Zar)<|Zaf (Zaq (i:=1) Yao.nd rfl (Or.inl rfl)<|bmK K PySem.F.plainAttrs_list PySem.F.slot_list_index PySem.F.type_list_index (idxLK K) (pv 0)<|Zaa (Zah (minK K rfl) rfl (mb "min"<|by decide) Zj3<|Zaa (pv 0) Zad) Zad)<|Zai<|Zau<|Za2 (tupK K) rfl (mb "tuple"<|by decide) Za9<|Zaa (Zax (addK K) (Zbo (slK K) (pv 0) (Zcd<|pv 1) Zcc)<|Zbo (slK K) (pv 0) Zcc<|Zcd<|pv 1) Zad),Zdt (λds Post hf=>?_) h⟩;obtain⟨ns,rfl,hp,hl,q⟩:=hf;refine⟨by simp,?_⟩;dsimp only[startD,Wbj,Wbn,Wa9];obtain⟨m,hm,hle⟩:=Zcm ns<|Wda.mp hp;obtain⟨i1,i2,i3⟩:=Zcr hm;refine Zaj<|Zbn<|Zca<|Zbk<|Zac rfl ⟨true,?_,?_⟩
 ·cases ns with
  |nil=>simp at hp
  |cons x t=>rfl
 refine iteF<|Zaz ?_;refine Zaj<|Za1<|Zix<|Zac rfl ⟨ns,rfl,by omega,Zas<|Zab<|Zac rfl<|Zae<|Zko (Or.inl rfl) hm hle ⟨m,rfl,hm,?_⟩⟩;have hj:ns.idxOf m<=(ns.map D.int).length:=by rw[Waa];omega
 refine Za0<|Zas<|Zab<|Zam<|Zep<|Zac rfl<|Zce<|Zac rfl ⟨_,rfl,Zcb ⟨.lst ((ns.map D.int).drop (ns.idxOf m)),?_,?_⟩⟩
 ·show some (D.lst<|cutD (ns.map D.int) (some ((ns.idxOf m:Nat):Int)) none)=_
  rw[Zfe _ hj]
 refine Zep<|Zac rfl<|Zcb<|Zce<|Zac rfl ⟨_,rfl,.lst ((ns.map D.int).take (ns.idxOf m)),?_,?_⟩
 ·show some (D.lst<|cutD (ns.map D.int) none<|some ((ns.idxOf m:Nat):Int))=_
  rw[Zli _ hj]
 refine Zgh ?_<|Zae<|Zcf (Or.inl rfl) ?_
 ·rw[Wb4,Wbk,Waa]
  exact Wb8 (small1000<|by omega)
 have q':=q m hm hle;unfold rowD rotAt at q';rw[War,Wdo,Wcj]at q';exact q'
theorem Zme (mb:Mb mg) (C64:Callee P w K mg base 3 "onward" ["web","order","end"] (spD K fOnw)) (C63:Callee P w K mg base 1 "least_first" ["ends"] (spD K fLeastL)) (F:Fun K "face_of" "face_of" Ybd f fd):FnOk P w K mg base CX0 4 f fd ["web","order","end"] (spD K fFaceOf):=by
 refine F.ok Ya3 (Zbu λds Post h=>by obtain⟨_,_,_,_,rfl,_⟩:=h;rfl) λcdv A outer s H vs Q E hr h=>?_;have hu:=Zbv hr;refine⟨_,(Zaf (Zaq (i:=3) Ya3.nd rfl (Or.inl rfl)<|Zc9<|Zaa (pv 2) Zad)<|Zaf (Zaq (i:=4) Ya3.nd rfl (Or.inl rfl)<|Zav C64 (hr.mono<|by decide)<|Zaa (pv 0)<|Zaa (pv 1)<|Zaa (pv 2) Zad)<|Zaf (Zle PassesOwn.never (Zao Zez (pv 4) (pv 2)<|nomark _)<|Zaf (Zc5<|bmK K PySem.F.plainAttrs_list PySem.F.slot_list_append PySem.F.type_list_append Zb9 (pv 3)<|Zaa (pv 4) Zad)<|Zai<|Zaq (i:=4) Ya3.nd rfl (Or.inl rfl)<|Zav C64 (hr.mono<|by decide)<|Zaa (pv 0)<|Zaa (pv 1)<|Zaa (pv 4) Zad)<|Zai<|Zau<|Zav C63 (hr.mono<|by decide)<|Zaa (pv 3) Zad),Zdt (λds Post hf=>?_) h⟩;obtain⟨n,ts,o,e,rfl,hW,hO,he,q⟩:=hf;refine⟨by simp,?_⟩;dsimp only[startD,Wbj,Wbn,Wa9,Wae];have O:=Zdo hW hO;have hw:=hW.len;have h0:(0:Int)<=(e:Int):=by omega
 have h1:(e:Int)<((2*ts.length:Nat):Int):=by omega
 have onw:∀j:Nat,folOf ts o (partner (iter (onI ts o) e j).toNat)=iter (onI ts o) e (j+1):=λj=>rfl;refine Zaj<|Zb2<|Zfh<|Zab<|Zac rfl<|Zae ⟨by show 1<=sizeLine;decide,?_⟩;refine Zaj<|Za1<|Zaw<|Zab<|Zac rfl<|Zab<|Zac rfl<|Zab<|Zac rfl<|Zae ⟨n,ts,o,e,rfl,hW,hO,he,?_⟩;refine Zb6 (λΔ=>∃k:Nat,IsOrb (onI ts o) e k /\ Δ = [.val (encWeb n ts),.val (encOrd o),.val (.int e),.own (.lst ((walkL (onI ts o) e k).map .int)),.val (.int<|iter (onI ts o) e k)]) ?_ ?_
 ·refine Zln (fun μ Δ=>∃k:Nat,1<=k/\NdTo (onI ts o) e k /\ μ = 2*ts.length-k /\ Δ = [.val (encWeb n ts),.val (encOrd o),.val (.int e),.own (.lst ((walkL (onI ts o) e k).map .int)),.val (.int<|iter (onI ts o) e k)]) ⟨_,1,Wak _,Zov O h0 h1,rfl,rfl⟩ ?_
  rintro μ Δ1 ⟨k,hk,nd,rfl,rfl⟩;have hkm:=Zjy O h0 h1 nd;refine Zay<|Zam<|Zac rfl<|Zac rfl<|Zha ⟨_,rfl,?_⟩;by_cases hb:iter (onI ts o) e k=e
  ·rw[decide_eq_true hb]
   exact iteF ⟨k,⟨by omega,hb,nd⟩,rfl⟩
  ·rw[decide_eq_false hb]
   have nd2:=Ziv O h0 h1 hk nd hb;have hkm2:=Zjy O h0 h1 nd2;have r:=Zco O h0 h1 k;refine iteT<|Zaj<|Zf3 rfl rfl<|Zac rfl ⟨_,_,rfl,rfl,?_,?_⟩
   ·rw[Waa,Zbx];exact small1000 (by omega)
   refine Za1<|Zaw<|Zab<|Zac rfl<|Zab<|Zac rfl<|Zab<|Zac rfl<|Zae ⟨n,ts,o,(iter (onI ts o) e k).toNat,?_,hW,hO,by omega,?_⟩
   ·rw[show (((iter (onI ts o) e k).toNat:Nat):Int)=iter (onI ts o) e k by omega]
   refine⟨2*ts.length-(k+1),by omega,k+1,by omega,nd2,rfl,?_⟩;rw[Zhj,War];rfl
 rintro Δ1 ⟨k,O1,rfl⟩;have hkm:=Zjy O h0 h1 O1.nd;refine Za0<|Zaw<|Zab<|Zc8 rfl<|Zae ⟨walkL (onI ts o) e k,rfl,?_,?_,λx hx hle=>?_⟩
 ·rw[Zbx];exact O1.pos
 ·rw[Zbx];omega
 ·have eo:=O1.orb
  rw[<- eo]at hx hle ⊢;have rx:=Zjp O h0 h1 hx;obtain⟨j,hj,ej⟩:=Zbw.mp hx;have ei:(orb (onI ts o) e).idxOf x=j:=Zlq (Zgm O h0 h1) (by rw[<- ej];exact Ze5 hj);rw[ei,Ztp O h0 h1 hj,ej];have ex:((x.toNat:Nat):Int)=x:=by omega
  have:=q x.toNat (by omega) (by
   unfold leastB;rw[decide_eq_true_iff,ex];exact λz hz=>hle z (Zc1 O h0 h1 hx hz)) (by rw[ex];exact hx)
  rw[ex]at this;exact this
theorem Zqu (mb:Mb mg) (C56:Callee P w K mg base 4 "face_of" ["web","order","end"] (spD K fFaceOf)) (F:Fun K "faces" "faces" Yay f fd):FnOk P w K mg base CX0 5 f fd ["web","order"] (spN K fFaces):=by
 refine F.ok Yap (Zfr λds Post h=>by obtain⟨_,_,_,rfl,_⟩:=h;rfl) λcdv A outer s H vs Q E hr h=>?_;have hu:=Zbv hr;have hv:=Zg5 hr;refine⟨_,(Zaf (Zdf (i:=2) ["row"] (show CompSc (defScope Yay) ["web","order","told","gone","end","face","come"] _ [] [] from ⟨rfl,by decide +kernel,by decide +kernel,by decide +kernel,rfl,by decide +kernel⟩) rfl Yap.nd rfl (Or.inl rfl) (seqK K<|pv 1) (λ_ _ _ _ _=>(Zal (i:=0) (show List.Nodup (["row"]:List Str) from by decide) rfl<|Or.inl rfl)) (λ_ _ _ _ _=>(Ze2<|Zcj<|truK K (pv 0) λ_=>rfl)) λ_ _ _ _ _=>(Zbq Zad))<|Zaf (Zaq (i:=3) Yap.nd rfl (Or.inl rfl)<|Zl5 Zng rfl (mb "set"<|by decide) Zu1)<|Zaf (Zd3 PassesOwn.never rfl (Zbg rfl (mb "range"<|by decide)<|Zaa (Zax Zcl Zag<|Zah (lenK K) rfl (mb "len"<|by decide) Za5<|Zaa (Zbe (ixK K hu) (pv 0) Zag λ_ _=>rfl) Zad) Zad) (Zal (i:=4) Yap.nd rfl<|Or.inl rfl)<|Zai<|Zbd (Zao (notinK K hu) (pv 4) (pv 3) rfl) (Zaf (Zaq (i:=5) Yap.nd rfl (Or.inl rfl)<|Zav C56 (hr.mono<|by decide)<|Zaa (pv 0)<|Zaa (pv 1)<|Zaa (pv 4) Zad)<|Zaf (Zc5<|bmK K PySem.F.plainAttrs_list PySem.F.slot_list_append PySem.F.type_list_append Zb9 (pv 2)<|Zaa (pv 5) Zad)<|Zai<|Zd3 PassesOwn.never rfl (seqK K<|pv 5) (Zal (i:=6) Yap.nd rfl<|Or.inl rfl)<|Zai<|Zc5<|bmK K PySem.F.plainAttrs_set PySem.F.slot_set_add PySem.F.type_set_add Zur (pv 3)<|Zaa (pv 6) Zad) Zar)<|Zai<|Zau<|Zah (sortRK K hv) rfl (mb "sorted"<|by decide) Zc6<|Zaa (pv 2) Zad),Zmw (λds Post hf=>?_) h⟩;obtain⟨n,ts,o,rfl,hW,hO,q⟩:=hf;refine⟨by simp,?_⟩;dsimp only[startD,Wbj,Wbn,Wa9,Wae];have O:=Zdo hW hO;have hw:=hW.len;have hn:=hW.hi;have ho:=hO.len;have hlone:=Zgk o;refine Zaj<|Zb2<|Zeo (by decide)<|Ze1<|Zac rfl ⟨_,rfl,?_,λd=>match d with|.tup ds=>ds.isEmpty|_=>false,λ_=>.tup [],λi d hd=>?_,?_⟩
 ·rw[Waa];exact small1000 (by omega)
 ·rw[Wad]at hd
  cases z:o[i]? with
  |none=>rw[z]at hd;cases hd
  |some r=>
   rw[z]at hd;have hd:encRow r=d:=by simpa using hd
   subst hd;refine Zca<|Zbk<|Zac rfl ⟨_,rfl,?_,?_⟩
   ·cases r <;> rfl
   ·cases r with
    |nil=>exact iteT (Zbs (Zae ⟨by decide,rfl,_,rfl⟩))
    |cons x t=>exact iteF ⟨_,rfl⟩
 rw[show o.map encRow=o.map rowD from rfl,Zgg o _ (λr=>by cases r <;> rfl) _ λ_=>rfl]
 refine Zaj<|Zb2<|Zs3 ?_;refine Zb6 (λΔ=>∃(S:Int->Bool) (c:Nat) (x4 x5 x6:L2.Slot),Δ = [.val (encWeb n ts),.val (encOrd o),.own (.lst ((allF ts o).map rowD)),.own (.set S c),x4,x5,x6]) ?_ ?_
 ·refine Zd5 (Zbi ?_)
  refine Zab<|Zam<|Zak<|Zas ?_;refine Zab<|Zam<|Zac rfl<|Zak<|Za6 (d:=.tup<|ts.map encTie) rfl ?_;refine Zae<|Zbl (Or.inr rfl) ?_;rw[Waa];refine jr_I (Or.inl ⟨by omega,by omega⟩)<|Zae ⟨_,rfl,by omega,by omega,?_⟩;have eL:((2:Int)*(ts.length:Int)).toNat=2*ts.length:=by omega
  rw[eL];refine⟨λk Δ=>∃(S:Int->Bool) (c:Nat) (x4 x5 x6:L2.Slot),(∀x,S x=true↔MetTo (onI ts o) k x)/\c<=48*k /\ Δ = [.val (encWeb n ts),.val (encOrd o),.own (.lst ((Wae (lone o) []++facesTo (onI ts o) k).map rowD)),.own (.set S c),x4,x5,x6],⟨λ_=>false,0,.any,.any,.any,λx=>?_,by omega,?_⟩,?_,?_⟩
  ·constructor
   ·intro z;cases z
   ·rintro⟨e,he,_⟩;omega
  ·rw[show facesTo (onI ts o) 0=[] from rfl,Wa3];rfl
  ·rintro k d Δ2 hd ⟨S,c,x4,x5,x6,hS,hc,rfl⟩
   obtain⟨hk,rfl⟩:=Zb5 hd;rw[Wb5];have fl:=Zds (onI ts o) k;refine Zb3<|Zbn<|Zay<|Zvl<|Zac rfl ⟨_,S,c,_,rfl,rfl,rfl,_,rfl,?_⟩;by_cases hm:S (k:Int)=true
   ·rw[hm]
    refine iteF<|Zaz ⟨S,c,.val (.int (k:Int)),x5,x6,λx=>?_,by omega,?_⟩
    ·have hl:=(Zdn O hk).mp ((hS _).mp hm)
     rw[hS,Zga O hk,hl];simp
    ·have hl:=(Zdn O hk).mp ((hS _).mp hm)
     rw[Zdb,if_neg (by rw[hl];exact Wam),Wa3];rfl
   ·have hl:leastB (onI ts o) k=true:=by
     cases z:leastB (onI ts o) k with
     |true=>rfl
     |false=>exact absurd ((hS _).mpr ((Zdn O hk).mpr z)) hm
    rw[Wdj.mpr hm];have ol:=Zod O (e:=(k:Int)) (by omega) (by omega);refine iteT<|Zaj<|Za1<|Zaw<|Zab<|Zac rfl<|Zab<|Zac rfl<|Zab<|Zac rfl<|Zae ⟨n,ts,o,k,rfl,hW,hO,hk,λg hg hlg hin=>?_⟩;have egk:g=k:=by
     have a:=of_decide_eq_true (show decide (∀x∈orb (onI ts o) (k:Int),(k:Int)<=x)=true from hl) _ hin;have b:=of_decide_eq_true (show decide (∀x∈orb (onI ts o) (g:Int),(g:Int)<=x)=true from hlg) _<|Zdd O (by omega) (by omega) hin;omega
    subst egk;refine Zaj<|Zf3 rfl rfl<|Zac rfl ⟨_,_,rfl,rfl,?_,?_⟩
    ·rw[Waa,Waj,Wa2];exact small1000 (by omega)
    refine Zd5<|Ze1<|Zac rfl ⟨_,rfl,λi Δ=>∃(S2:Int->Bool) (c2:Nat) (x6:L2.Slot),(∀x,S2 x=true↔MetTo (onI ts o) g x\/x∈(orb (onI ts o) (g:Int)).take i)/\c2<=48*g+i /\ Δ = [.val (encWeb n ts),.val (encOrd o),.own (.lst ((Wae (lone o) []++facesTo (onI ts o) g).map rowD++[rowD (orb (onI ts o) (g:Int))])),.own (.set S2 c2),.val (.int (g:Int)),.val (rowD<|orb (onI ts o) (g:Int)),x6],⟨S,c,_,λx=>by rw[Wb6];simp[hS],by omega,rfl⟩,?_,?_⟩
    ·rintro i d Δ3 hd ⟨S2,c2,x6,hS2,hc2,rfl⟩
     rw[Wad]at hd;cases z:(orb (onI ts o) (g:Int))[i]? with
     |none=>rw[z]at hd;cases hd
     |some y=>
      rw[z]at hd;have hd:D.int y=d:=by simpa using hd
      subst hd;have hi:=(Wag.mp z).1;refine Zb3<|Zub rfl rfl<|Zac rfl ⟨_,S2,c2,y,rfl,rfl,rfl,by omega,_,_,_,λx=>?_,?_,rfl⟩
      ·rw[Wbi,z]
       simp only[Bool.or_eq_true,decide_eq_true_eq,hS2,Option.toList_some,Wbp,Wbs];exact or_assoc
      ·split <;> omega
    ·rintro Δ3 ⟨S2,c2,x6,hS2,hc2,rfl⟩
     rw[Waa]at hS2 hc2;rw[Wbo]at hS2;refine⟨S2,c2,.val (.int (g:Int)),.val<|rowD<|orb (onI ts o) (g:Int),x6,λx=>?_,by omega,?_⟩
     ·rw[hS2,Zga O hk,hl];simp
     ·rw[Zdb,if_pos hl,<- Wbe,War (l₂:=[orb (onI ts o) (g:Int)])]
      rfl
  ·rintro Δ2 ⟨S,c,x4,x5,x6,hS,hc,rfl⟩
   rw[Zbc];exact⟨S,c,_,_,_,rfl⟩
 rintro Δ1 ⟨S,c,x4,x5,x6,rfl⟩;have al:=Zf8 hW hO;exact Zfx<|Zk9<|Zab<|Zc8 rfl<|Zae ⟨_,rfl,by omega,Zlj hW hO,_,rfl,q⟩
def fMixed:BSp:=λps ds Post=>Pen ps/\∃xs:List D,ds=[.lst xs]/\xs.length<=150/\∀ys ps',Pen ps' -> ys.Perm xs->Post (.lst ys) ps'
theorem Zqg {α:Type}(l:List α) (j:Nat) (x:α):(l.take j++x::l.drop j).Perm (l++[x]):=by
 refine List.perm_middle.trans ?_;rw[Wb0];exact(List.perm_append_singleton _ _).symm
theorem Zqr (mb:Mb mg) (C40:Callee P w K mg base 1 "_law_draw" ["_law_pen_here","_law_many"] (spB K fDraw)) (F:Fun K "_law_mixed" "_law_mixed" Ybj f fd):FnOk P w K mg base CX0 2 f fd ["_law_pen_here","_law_things"] (spB K fMixed):=by
 refine F.ok Ybp (Zdi λps ds Post h=>by obtain⟨_,_,rfl,_⟩:=h;rfl) λcdv A outer s H vs Q E hr h=>?_;have hu:=Zbv hr;refine⟨_,(Zaf (Zaq (i:=2) Ybp.nd rfl (Or.inl rfl)<|Zc9 Zad)<|Zaf (Zd3 PassesOwn.never rfl (seqK K<|pv 1) (Zal (i:=3) Ybp.nd rfl<|Or.inl rfl)<|Zai<|Zc5<|bmK K PySem.F.plainAttrs_list PySem.F.slot_list_insert PySem.F.type_list_insert Zjq (pv 2)<|Zaa (Zav C40 (hr.mono<|by decide)<|Zaa (pv 0)<|Zaa (Zax (addK K) (Zah (lenK K) rfl (mb "len"<|by decide) Za5<|Zaa (pv 2) Zad) Zag) Zad)<|Zaa (pv 3) Zad)<|Zai<|Zau<|pv 2),Zhc (λps ds Post hf=>?_) h⟩;obtain⟨hp,xs,rfl,hl,q⟩:=hf;refine⟨by simp,?_⟩;dsimp only[cxOf,startD,Wbj,Wbn,Wa9,Wae];refine Zaj<|Zb2<|Zfh<|Zae ⟨by decide,?_⟩;refine Zb6 (λΔ=>∃(psx ys:List D) (x3:L2.Slot),Pen psx/\ys.Perm xs /\ Δ = [.bor (.lst psx),.val (.lst xs),.own (.lst ys),x3]) ?_ ?_
 ·refine Zd5 (Zcn<|Zac rfl ⟨_,Or.inl rfl,λi Δ=>∃(psx ys:List D) (x3:L2.Slot),Pen psx/\ys.Perm (xs.take i) /\ Δ = [.bor (.lst psx),.val (.lst xs),.own (.lst ys),x3],⟨ps,[],.any,hp,by rw[Wb6],rfl⟩,?_,?_⟩)
  ·rintro i d Δ2 hd ⟨psx,ys,x3,hpx,hy,rfl⟩
   have hi:=(Wag.mp hd).1;have hyl:=hy.length_eq;rw[Wbk]at hyl;refine Zb3<|Ztf rfl rfl<|Zbj rfl rfl<|Zab<|Zam<|Zh3 rfl rfl<|Zak<|Zc3<|Zae ⟨_,_,rfl,rfl,hpx,_,rfl,by omega,by omega,λr ps' hp' hr0 hr1=>?_⟩;refine Zac rfl ⟨_,r,ys,rfl,rfl,rfl,small1000 (by omega),by omega,by omega,ps',_,_,hp',?_,rfl⟩;rw[Wbi,hd];exact(Zqg ys _ d).trans (List.Perm.append_right _ hy)
  ·rintro Δ2 ⟨psx,ys,x3,hpx,hy,rfl⟩
   rw[Wbo]at hy;exact⟨psx,ys,x3,hpx,hy,rfl⟩
 rintro Δ1 ⟨psx,ys,x3,hpx,hy,rfl⟩;exact Za0<|Zc8 rfl ⟨_,rfl,q ys _ hpx hy⟩
end
section
variable {f:Int->Int}{m:Nat}(F:OneOne f m)
include F
theorem Ze3:(facesTo f m).flatten.Nodup:=by
 unfold List.Nodup;rw[List.pairwise_flatten];refine⟨λr hr=>?_,?_⟩
 ·unfold facesTo at hr
  obtain⟨e,he,rfl⟩:=Was.mp hr;rw[Wbd,Wav]at he;exact Zgm F (by omega) (by omega)
 ·unfold facesTo
  rw[Wdi,Wcd];intro i j hi hj hij x hx y hy hxy;subst hxy;have mi:=Wbd.mp<|Wbl hi;have mj:=Wbd.mp<|Wbl hj;rw[Wav]at mi mj;have pw:((Waq m).filter (leastB f)).Pairwise (· < ·):=List.Pairwise.filter _ Wdh;have hlt:=Wcd.mp pw i j hi hj hij;generalize ((Waq m).filter (leastB f))[i]=a at *;generalize ((Waq m).filter (leastB f))[j]=b at *;have hb:(a:Int)∈orb f (b:Int):=Zc1 F (by omega) (by omega) hy<|Zdd F (by omega) (by omega) hx;have:=of_decide_eq_true (show decide (∀x∈orb f (b:Int),(b:Int)<=x)=true from mj.2) _ hb;omega
theorem Zmn:(facesTo f m).flatten.Perm ((Waq m).map λe:Nat=>(e:Int)):=by
 rw[Wcm (Ze3 F)]
 ·intro x
  rw[Wca,Was];constructor
  ·rintro⟨r,hr,hx⟩
   unfold facesTo at hr;obtain⟨e,he,rfl⟩:=Was.mp hr;rw[Wbd,Wav]at he;have:=Zjp F (by omega) (by omega) hx;exact⟨x.toNat,Wav.mpr (by omega),by omega⟩
  ·rintro⟨e,he,rfl⟩
   rw[Wav]at he;obtain⟨g,hg,hl,hm,ha⟩:=Znk F (x:=(e:Int)) (by omega) (by omega);exact⟨_,Zj8 F hg hl,(ha _<|Zj8 F hg hl).mpr rfl⟩
 ·refine List.Pairwise.map _ (λa b q=>?_) Wc8
  intro e;exact q (by omega)
end
theorem Zjr (ts:List (Int × Int)) (o:List (List Int)):(allF ts o).flatten=(facesTo (onI ts o) (2*ts.length)).flatten:=by
 unfold allF;rw[Wcy];have:∀z:Nat,(Wae z ([]:List Int)).flatten=[]:=λz=>by induction z with
  |zero=>rfl
  |succ z ih=>rw[Wcl,Wbb,ih];rfl
 rw[this,List.nil_append]
theorem Zdz (l:List (List Int)) (i:Nat):(l.take i).flatten.length<=l.flatten.length:=by
 conv=>rhs;rw[<- Wb0 i l]
 rw[Wcy,Waj];omega
theorem Zif {n:Int}{ts:List (Int × Int)}{o:List (List Int)}(hW:WebOk n ts) (hO:OrdOk n ts o) {r:List Int}(hr:r∈allF ts o):r=[]\/∃e:Nat,e<2*ts.length/\leastB (onI ts o) e=true/\r=orb (onI ts o) (e:Int):=by
 unfold allF at hr;rcases Wbp.mp hr with h|h
 ·exact .inl (Wco.mp h).2
 ·unfold facesTo at h
  obtain⟨e,he,rfl⟩:=Was.mp h;rw[Wbd,Wav]at he;exact .inr ⟨e,he.1,he.2,rfl⟩
def faceIx (R:List (List Int)) (e:Int):Nat:=R.findIdx λr=>decide<|e∈r
def dualT (R:List (List Int)) (m:Nat):List (Int × Int):=(Waq m).map λk:Nat=>((faceIx R ((2*k:Nat):Int):Int),(faceIx R ((2*k+1:Nat):Int):Int))
theorem Zbz (R:List (List Int)) (m:Nat):(dualT R m).length=m:=by unfold dualT;rw[Waa,Wa5]
structure Tab (R:List (List Int)) (m:Nat):Prop where
 nd:R.flatten.Nodup
 mem:∀x:Int,x∈R.flatten↔0<=x/\x<((2*m:Nat):Int)
 lst:∀r∈R,∀x t,r=x::t->∀a∈t,x<=a
theorem Znb:∀{R:List (List Int)}{p:Nat}{r:List Int}{e:Int},R.flatten.Nodup->R[p]?=some r->e∈r->faceIx R e=p
 |[],_,_,_,_,h,_=>by simp at h
 |r0::R,0,r,e,_,h,he=>by
  have h:r0=r:=by simpa using h
  subst h;unfold faceIx;rw[List.findIdx_cons,decide_eq_true he];rfl
 |r0::R,p+1,r,e,nd,h,he=>by
  rw[Wbb,Wcs]at nd;have h:R[p]?=some r:=by simpa using h
  have hm:e∈R.flatten:=Wca.mpr ⟨r,Wai h,he⟩;have hn:e ∉ r0:=λz=>nd.2.2 e z e hm rfl;have ih:=Znb nd.2.1 h he;unfold faceIx at ih ⊢;rw[List.findIdx_cons,decide_eq_false hn];show _+1=p+1;rw[ih]
theorem Tab.at {R:List (List Int)}{m:Nat}(h:Tab R m) {e:Nat}(he:e<2*m):∃r,R[faceIx R (e:Int)]?=some r/\(e:Int)∈r/\faceIx R (e:Int)<R.length:=by
 obtain⟨r,h1,h2⟩:=Wca.mp ((h.mem (e:Int)).mpr ⟨by omega,by omega⟩);obtain⟨p,hp⟩:=Wbg.mp h1;have e1:=Znb h.nd hp h2;rw[e1];exact⟨r,hp,h2,(Wag.mp hp).1⟩
theorem Zef {R:List (List Int)}{m e:Nat}(he:e<2*m):placeAt (dualT R m) e=(faceIx R (e:Int):Int):=by
 have hk:e / 2<m:=by omega
 unfold placeAt dualT;rw[Wad,Wb1 hk];dsimp only[Option.map];by_cases h:e % 2=0
 ·rw[if_pos h,show 2*(e / 2)=e by omega]
 ·rw[if_neg h,show 2*(e / 2)+1=e by omega]
theorem Zdw {R:List (List Int)}{m:Nat}(h:Tab R m) (h1:1<=R.length) (h2:R.length<=100) (hm:m<=24):WebOk (R.length:Int) (dualT R m):=by
 refine⟨by omega,by omega,by rw[Zbz];exact hm,λt ht=>?_⟩;obtain⟨k,hk,rfl⟩:=Was.mp ht;have hk:=Wav.mp hk;obtain⟨_,_,_,a⟩:=h.at (show 2*k<2*m by omega);obtain⟨_,_,_,b⟩:=h.at (show 2*k+1<2*m by omega);dsimp only;omega
theorem Zuz {r:List Int}(h:∀x t,r=x::t->∀a∈t,x<=a) {ts:List (Int × Int)}{m:Nat}{p:Int}(hp:r.Perm (endsBelow ts m p)):RowOk ts m p r:=by
 refine⟨hp,?_⟩;cases r with
 |nil=>rw[List.Perm.eq_nil hp.symm]
 |cons x t=>
  have hl:=h x t rfl;have lt:=Zcw ts m p;cases z:endsBelow ts m p with
  |nil=>rw[z]at hp;have:=hp.length_eq;simp at this
  |cons y l=>
   rw[z]at hp lt;show some x=some y;have h1:y∈x::t:=hp.mem_iff.mpr Wat;have h2:x∈y::l:=hp.mem_iff.mp Wat;have a:x<=y:=by
    rcases Wap.mp h1 with q|q
    ·omega
    ·exact hl y q
   have b:y<=x:=by
    rcases Wap.mp h2 with q|q
    ·omega
    ·exact Wd1<|List.rel_of_pairwise_cons lt q
   rw[show x=y by omega]
theorem Zdy {R:List (List Int)}{m:Nat}(h:Tab R m):OrdOk (R.length:Int) (dualT R m) R:=by
 refine⟨rfl,λp r hr=>Zuz (h.lst r<|Wai hr) ?_⟩;have hsub:r.Sublist R.flatten:=Wbz<|Wai hr;rw[Wcm (h.nd.sublist hsub) (Zeb _ _ _)];intro x;rw[Zfa,Zbz];constructor
 ·intro hx
  have hb:=(h.mem x).mp (hsub.subset hx);refine⟨x.toNat,by omega,?_,by omega⟩;rw[Zef (by omega),show ((x.toNat:Nat):Int)=x by omega,Znb h.nd hr hx]
 ·rintro⟨e,he,hp,rfl⟩
  rw[Zef he]at hp;obtain⟨r',h1,h2,_⟩:=h.at he;have:faceIx R (e:Int)=p:=by omega
  rw[this,hr]at h1;cases h1;exact h2
theorem Zh2 {R:List (List Int)}{m e:Nat}(he:e<2*m) {r:List Int}(hr:R[faceIx R (e:Int)]?=some r):rowAt (dualT R m) R e=r:=by
 unfold rowAt;rw[Zef he,Wa7,Waf,hr];rfl
section
variable {f:Int->Int}{m:Nat}(F:OneOne f m) {e:Int}(h0:0<=e) (h1:e<(m:Int))
include F h0 h1
theorem Zk6 {x:Int}(hx:x∈orb f e):nextIn (orb f e) x=f x:=by
 obtain⟨i,hi,rfl⟩:=Zbw.mp hx;have O:=Zey F h0 h1;have hl:(orb f e).length=per f e:=by unfold orb;rw[Zbx]
 have hg:(orb f e)[i]?=some (iter f e i):=Ze5 hi;rw[Zd7 (Zgm F h0 h1) hg];unfold nxI;rw[hl];by_cases z:i+1=per f e
 ·rw[if_pos z,Waf,show (orb f e)[0]?=some (iter f e 0) from Ze5 O.pos]
  show e=f (iter f e i);have:=O.back;rw[<- z]at this;exact this.symm
 ·rw[if_neg z,Waf,show (orb f e)[i+1]?=some (iter f e<|i+1) from Ze5 (by omega)]
  rfl
end
theorem Zsx {f:Int->Int}{r:List Int}(nd:r.Nodup) {x:Int}{t:List Int}(hr:r=x::t) (hf:∀y∈r,f y=nextIn r y):orb f x=r:=by
 have h0:0<r.length:=by rw[hr];simp
 have it:∀i,i<r.length->iter f x i=r.getD i 0:=λi=>by
  induction i with
  |zero=>intro _;rw[hr];rfl
  |succ i ih=>
   intro hi;have hg:r[i]?=some (r.getD i 0):=by rw[Waf,Wab (by omega)];rfl
   show f (iter f x i)=_;rw[ih (by omega),hf _ (Wai hg),Zd7 nd hg];unfold nxI;rw[if_neg (by omega)]
 have O:IsOrb f x r.length:=by
  refine⟨h0,?_,λi j hi hj q=>?_⟩
  ·have hg:r[r.length-1]?=some (r.getD (r.length-1) 0):=by rw[Waf,Wab (by omega)];rfl
   rw[show r.length=(r.length-1)+1 by omega];show f (iter f x<|r.length-1)=x;rw[it _ (by omega),hf _ (Wai hg),Zd7 nd hg];unfold nxI;rw[if_pos (by omega),hr];rfl
  ·rw[it i hi,it j hj,Waf,Waf,Wab hi,Wab hj]at q
   exact(Wdm nd).mp q
 rw[O.orb];unfold walkL;apply Wb3;intro i;by_cases hi:i<r.length
 ·rw[Wad,Wb1 hi,Wab hi]
  show some (iter f x i)=_;rw[it i hi,Waf,Wab hi];rfl
 ·rw[Wbr (by rw[Waa,Wa5];omega),Wbr (by omega)]
section
variable {n:Int}{ts:List (Int × Int)}{o:List (List Int)}(hW:WebOk n ts) (hO:OrdOk n ts o)
include hW hO
theorem Zi7 {e:Nat}(he:e<2*ts.length) (hl:leastB (onI ts o) e=true):∃l,orb (onI ts o) (e:Int)=(e:Int)::l/\∀a∈l,(e:Int)<=a:=by
 obtain⟨l,hl'⟩:=Zei (Zdo hW hO) (show (0:Int)<=(e:Int) by omega) (show (e:Int)<((2*ts.length:Nat):Int) by omega);refine⟨l,hl',λa ha=>?_⟩;unfold leastB at hl;rw[decide_eq_true_iff]at hl;exact hl a (by rw[hl'];exact Way _ ha)
theorem Zb4:Tab (allF ts o) ts.length:=by
 have O:=Zdo hW hO;refine⟨?_,λx=>?_,λr hr x t e a ha=>?_⟩
 ·rw[Zjr];exact Ze3 O
 ·rw[Zjr,(Zmn O).mem_iff,Was]
  constructor
  ·rintro⟨k,hk,rfl⟩
   have:=Wav.mp hk;omega
  ·intro hx
   exact⟨x.toNat,Wav.mpr (by omega),by omega⟩
 ·rcases Zif hW hO hr with z|⟨g,hg,hl,z⟩
  ·rw[z]at e;cases e
  ·obtain⟨l,h1,h2⟩:=Zi7 hW hO hg hl
   rw[z,h1]at e;cases e;exact h2 a ha
theorem Zlk:1<=(allF ts o).length:=by
 have hl:=hO.len;have h1:=hW.lo;by_cases ht:ts.length=0
 ·have hz:∀r∈o,r.isEmpty=true:=λr hr=>by
   obtain⟨p,hp⟩:=Wbg.mp hr;have:=(hO.row p r hp).len;rw[Wdu];exact Wbv (by omega)
  unfold allF lone;rw[Waj,Wa2,Waz.mpr hz];omega
 ·obtain⟨_,_,_,a⟩:=(Zb4 hW hO).at (show 0<2*ts.length by omega)
  omega
theorem Zpj {e:Nat}(he:e<2*ts.length):onI (dualT (allF ts o) ts.length) (allF ts o) (e:Int)=folOf ts o e:=by
 have T:=Zb4 hW hO;have hp:=Zb1 he;obtain⟨r,h1,h2,h3⟩:=T.at hp;unfold onI folOf;rw[Wa7,Zh2 hp h1];rcases Zif hW hO (Wai h1) with z|⟨g,hg,hl,z⟩
 ·rw[z]at h2;cases h2
 ·rw[z]at h2 ⊢
  rw[Zk6 (Zdo hW hO) (by omega) (by omega) h2];unfold onI;rw[Wa7,Zbh];rfl
theorem Zgt:lone (allF ts o)=lone o:=by
 have hz:((facesTo (onI ts o) (2*ts.length)).filter λr=>r.isEmpty)=[]:=by
  rw[List.filter_eq_nil_iff];intro r hr;unfold facesTo at hr;obtain⟨e,he,rfl⟩:=Was.mp hr;have he:=Wbd.mp he;obtain⟨l,h1,_⟩:=Zi7 hW hO (Wav.mp he.1) he.2;rw[h1];exact λz=>Bool.noConfusion z
 show ((Wae (lone o) ([]:List Int)++facesTo (onI ts o) (2*ts.length)).filter λr=>r.isEmpty).length=_;rw[Wb9,hz,Wa3,Waz.mpr (λr hr=>by rw[(Wco.mp hr).2];rfl),Wa2]
theorem Zje {p:Nat}{r:List Int}(hr:o[p]?=some r) {x:Int}{t:List Int}(e:r=x::t) {g:Int->Int}(hg:∀k:Nat,k<2*ts.length->g (k:Int)=folOf ts o k):orb g x=r:=by
 have R:=hO.row p r hr;refine Zsx R.nodup e λy hy=>?_;obtain⟨k,hk,hp,rfl⟩:=R.mem.mp hy;rw[hg k hk];unfold folOf rowAt;rw[hp,Wa7,Waf,hr];rfl
theorem Zoo:(allF (dualT (allF ts o) ts.length)<|allF ts o).Perm o:=by
 have T:=Zb4 hW hO;have he:∀k:Nat,k<2*ts.length->onI (dualT (allF ts o) ts.length) (allF ts o) (k:Int)=folOf ts o k:=λk hk=>Zpj hW hO hk;have F2:OneOne (onI (dualT (allF ts o) ts.length)<|allF ts o) (2*ts.length):=by
  refine⟨λx x0 x1=>?_,λx y x0 x1 y0 y1 q=>?_⟩
  ·obtain⟨g,hg,_,eg⟩:=Zin hW hO (show x.toNat<2*ts.length by omega)
   have:=he x.toNat (by omega);rw[show ((x.toNat:Nat):Int)=x by omega]at this;rw[this,<- eg];omega
  ·have a:=he x.toNat (by omega)
   have b:=he y.toNat (by omega);rw[show ((x.toNat:Nat):Int)=x by omega]at a;rw[show ((y.toNat:Nat):Int)=y by omega]at b;rw[a,b]at q;have O:=Zdo hW hO;have pp:∀k:Nat,k<2*ts.length->folOf ts o k=onI ts o ((partner k:Nat):Int):=λk hk=>by unfold onI;rw[Wa7,Zbh]
   rw[pp _ (by omega),pp _ (by omega)]at q;have hx:=Zb1 (show x.toNat<2*ts.length by omega);have hy:=Zb1 (show y.toNat<2*ts.length by omega);have:=O.inj _ _ (by omega) (by omega) (by omega) (by omega) q;have e1:partner x.toNat=partner y.toNat:=by omega
   have e2:=congrArg partner e1;rw[Zbh,Zbh]at e2;omega
 unfold allF;rw[show lone (Wae (lone o) []++facesTo (onI ts o) (2*ts.length))=lone o from Zgt hW hO,Zbz];show (Wae (lone o) []++facesTo (onI (dualT (allF ts o) ts.length)<|allF ts o) (2*ts.length)).Perm o;have hflat:=hO.flat;have split:((o.filter λr=>r.isEmpty)++o.filter λr=>!r.isEmpty).Perm o:=List.filter_append_perm _ _;have hemp:(o.filter λr=>r.isEmpty)=Wae (lone o) []:=by
  rw[List.eq_replicate_iff];refine⟨rfl,λr hr=>?_⟩;exact Wdu.mp (Wbd.mp hr).2
 rw[hemp]at split;refine List.Perm.trans (List.Perm.append_left _ ?_) split;have ndo:∀{l:List (List Int)},l.flatten.Nodup->(l.filter λr=>!r.isEmpty).Nodup:=λ{l}=>by
  induction l with
  |nil=>intro _;exact Wd2
  |cons r l ih=>
   intro h;rw[Wbb,Wcs]at h;cases r with
   |nil=>exact ih h.2.1
   |cons x t=>
    rw[List.filter_cons_of_pos (by rfl),Wcg];refine⟨λz=>?_,ih h.2.1⟩;have:=(Wbd.mp z).1;exact h.2.2 x Wat x (Wca.mpr ⟨_,this,Wat⟩) rfl
 have ndf:(facesTo (onI (dualT (allF ts o) ts.length)<|allF ts o) (2*ts.length)).Nodup:=by
  have h1:=Ze3 F2;have h2:=ndo h1;have h3:((facesTo (onI (dualT (allF ts o) ts.length)<|allF ts o) (2*ts.length)).filter λr=>!r.isEmpty)=facesTo (onI (dualT (allF ts o) ts.length)<|allF ts o) (2*ts.length):=by
   rw[Waz];intro r hr;unfold facesTo at hr;obtain⟨e,hee,rfl⟩:=Was.mp hr;have hee:=Wav.mp (Wbd.mp hee).1;obtain⟨l,hl⟩:=Zei F2 (show (0:Int)<=(e:Int) by omega) (show (e:Int)<((2*ts.length:Nat):Int) by omega);rw[hl];rfl
  rw[h3]at h2;exact h2
 rw[Wcm ndf (ndo hflat)];intro r;rw[Wbd];constructor
 ·intro hr
  unfold facesTo at hr;obtain⟨e,hee,rfl⟩:=Was.mp hr;have hee:=Wbd.mp hee;have hlt:=Wav.mp hee.1;obtain⟨g1,g2,g3⟩:=Zck hW hO hlt;cases z:rowAt ts o e with
  |nil=>rw[z]at g3;cases g3
  |cons x t=>
   have ro:=Zje hW hO (g:=onI (dualT (allF ts o) ts.length)<|allF ts o) g1 z he;have hx:=g2.mem.mp (show x∈rowAt ts o e by rw[z];exact Wat);obtain⟨k,hk,_,rfl⟩:=hx;have hin:(e:Int)∈orb (onI (dualT (allF ts o) ts.length)<|allF ts o) (k:Int):=by rw[ro];exact g3
   have hin2:=Zdd F2 (by omega) (by omega) hin;have hle:=hee.2;unfold leastB at hle;rw[decide_eq_true_iff]at hle;have a:=hle _ hin2;have b:(k:Int)<=(e:Int):=by
    rw[z]at g3;rcases Wap.mp g3 with q|q
    ·omega
    ·rw[z]at g2
     exact g2.least _ q
   have ek:e=k:=by omega
   subst ek;rw[ro];exact⟨Wai g1,by rw[z];rfl⟩
 ·rintro⟨hr,hne⟩
  obtain⟨p,hp⟩:=Wbg.mp hr;cases r with
  |nil=>cases hne
  |cons x t=>
   have R:=hO.row p _ hp;obtain⟨k,hk,_,rfl⟩:=R.mem.mp Wat;have ro:=Zje hW hO (g:=onI (dualT (allF ts o) ts.length)<|allF ts o) hp rfl he;rw[<- ro];refine Zj8 F2 hk ?_;unfold leastB;rw[decide_eq_true_iff,ro];intro y hy;rcases Wap.mp hy with q|q
   ·omega
   ·exact R.least y q
end
def ixP:Nat->List (List Int)->List (Int × Int)
 |_,[]=>[]
 |p,r::R=>r.map (λe=>(e,(p:Int)))++ixP (p+1) R
theorem Zgb:∀(p:Nat) (R:List (List Int)),(ixP p R).map (·.1)=R.flatten
 |_,[]=>rfl
 |p,r::R=>by
  show (r.map (λe=>(e,(p:Int)))++ixP (p+1) R).map (·.1)=_;rw[War,Zgb (p+1) R,Wal,Wbb];congr 1;exact(Wa4 λ_ _=>rfl).trans (Wd4 _)
theorem Znp:∀(p:Nat) (A:List (List Int)) (r:List Int),ixP p (A++[r])=ixP p A++r.map λe=>(e,((p+A.length:Nat):Int))
 |p,[],r=>by simp[ixP]
 |p,a::A,r=>by
  show a.map (λe=>(e,(p:Int)))++ixP (p+1) (A++[r])=(a.map (λe=>(e,(p:Int)))++ixP (p+1) A)++_;rw[Znp (p+1) A r,Wbe,Wan,show p+1+A.length=p+(A.length+1) by omega]
theorem Zpk:∀{R:List (List Int)}{k:Nat}{r:List Int}{e:Int}(p:Nat),R[k]?=some r->e∈r->(e,((p+k:Nat):Int))∈ixP p R
 |[],_,_,_,_,h,_=>by simp at h
 |a::R,0,r,e,p,h,he=>by
  have h:a=r:=by simpa using h
  subst h;exact Wci _<|Was.mpr ⟨e,he,rfl⟩
 |a::R,k+1,r,e,p,h,he=>by
  have h:R[k]?=some r:=by simpa using h
  refine Wa0 _ ?_;have:=Zpk (p+1) h he;rw[show p+1+k=p+(k+1) by omega]at this;exact this
theorem Tab.val {R:List (List Int)}{m:Nat}(h:Tab R m) {e:Nat}(he:e<2*m):valD ((ixP 0 R).map encPair) (.inl (e:Int))=some (.int (faceIx R (e:Int):Int)):=by
 obtain⟨r,h1,h2,_⟩:=h.at he;refine Zr9 (by rw[Zgb];exact h.nd) ?_;have:=Zpk 0 h1 h2;rw[Wdz]at this;exact this
theorem Tab.len {R:List (List Int)}{m:Nat}(h:Tab R m):R.flatten.length=2*m:=by
 have p:R.flatten.Perm ((Waq (2*m)).map λe:Nat=>(e:Int)):=by
  rw[Wcm h.nd]
  ·intro x
   rw[h.mem,Was];constructor
   ·intro hx;exact⟨x.toNat,Wav.mpr (by omega),by omega⟩
   ·rintro⟨k,hk,rfl⟩;have:=Wav.mp hk;omega
  ·rw[List.Nodup,Wdi]
   exact Wc8.imp λh z=>h (by omega)
 have:=p.length_eq;rw[Waa,Wa5]at this;exact this
theorem Zna (p:Nat) (R:List (List Int)):(ixP p R).length=R.flatten.length:=by
 rw[<- Zgb p R,Waa]
def floorR (R:List (List Int)) (m:Nat):D:=.tup [encWeb (R.length:Int) (dualT R m),encOrd R]
def fFloor:DSp:=λds Post=>∃R m,ds=[.lst (R.map rowD)]/\Tab R m/\R.length<=150/\m<=24/\Post (floorR R m)
theorem Zb8 {K:W.Frag}{Δ:Evt}{P:D->Evt->Prop}{ds es:List D}{n:Nat}(he:ds=[.lst es]\/ds=[.tup es]) (hn:es.length=n) (p:P (.int n) Δ):JC K (rLenU K) ds Δ P:=by
 subst hn;exact Zbl he p
theorem Zuv {R:List (List Int)}(nd:R.flatten.Nodup) {i:Nat}{r:List Int}(z:R[i]?=some r) {j:Nat}{e:Int}(ze:r[j]?=some e) :
  putD ((ixP 0 (R.take i)++(r.take j).map λe=>(e,(i:Int))).map encPair) (.inl e) (.int (i:Int))=(ixP 0 (R.take i)++(r.take<|j+1).map λe=>(e,(i:Int))).map encPair:=by
 have eT:r.take (j+1)=r.take j++[e]:=by rw[Wbi,ze];rfl
 rw[Zoe,eT,Wbe]
 ·congr 2;rw[War];rfl
 ·have hi:=(Wag.mp z).1
  have e1:R=R.take i++r::R.drop (i+1):=by
   rw[<- (Wag.mp z).2,<- List.drop_eq_getElem_cons hi,Wb0]
  have hj:=(Wag.mp ze).1;have e2:r=r.take (j+1)++r.drop (j+1):=(Wb0 _ _).symm;rw[e1,Wcy,Wbb,e2,eT,Wbe,Wbe,<- Wbe,Wcs]at nd;rw[War,Zgb,Wal];intro hm;have hm2:e∈(R.take i).flatten++r.take j:=by
   rcases Wbp.mp hm with h|h
   ·exact Wci _ h
   ·obtain⟨y,hy,q⟩:=Was.mp h
    have q:y=e:=q;exact Wa0 _ (q ▸ hy)
  exact nd.2.2 e hm2 e (Wci _<|Wbs.mpr rfl) rfl
theorem Zo2 {R:List (List Int)}{i:Nat}{r:List Int}(z:R[i]?=some r):ixP 0 (R.take i)++(r.take r.length).map (λe=>(e,(i:Int)))=ixP 0 (R.take<|i+1):=by
 have hi:=(Wag.mp z).1;rw[Wbo,Wbi,z];show _=ixP 0 (R.take i++[r]);rw[Znp,Wbk,Nat.min_eq_left (by omega),Wdz]
theorem Zvp {R:List (List Int)}{i:Nat}{r:List Int}(z:R[i]?=some r) (j:Nat):(ixP 0 (R.take i)++(r.take j).map λe=>(e,(i:Int))).length<=R.flatten.length:=by
 have h1:=Zo2 z;have h2:=Zdz R<|i+1;rw[<- Zna 0,<- h1,Waj,Waa,Wbo]at h2;rw[Waj,Waa,Wbk];omega
theorem Zt6 {R:List (List Int)}{m:Nat}(g:D->D) (l:List D) (hl:l=(Waq m).map λk:Nat=>D.int ((2*k:Nat):Int)) (hg:∀k:Nat,k<m->g (.int ((2*k:Nat):Int))=.tup [.int (faceIx R ((2*k:Nat):Int):Int),.int (faceIx R ((2*k+1:Nat):Int):Int)]):(l.filter λ_=>true).map g=(dualT R m).map encTie:=by
 rw[Waz.mpr (by simp),hl];unfold dualT;rw[Wal,Wal];refine Wa4 λk hk=>?_;exact hg k<|Wav.mp hk
section
variable {P:Program}{w:World}{K:W.Frag}{mg:Str->Option Value}{base:Heap}{f:Addr}{fd:FuncData}
theorem Zr7 (mb:Mb mg) (F:Fun K "floor_by" "floor_by" Yar f fd):FnOk P w K mg base CX0 1 f fd ["rows"] (spD K fFloor):=by
 refine F.ok Ybn (Zbu λds Post h=>by obtain⟨_,_,rfl,_⟩:=h;rfl) λcdv A outer s H vs Q E hr h=>?_;have hu:=Zbv hr;refine⟨_,(Zaf (Zaq (i:=1) Ybn.nd rfl (Or.inr rfl)<|Zpo ["place","row","end"] (show CompSc (defScope Yar) ["rows","places","ties"] _ [] [] from ⟨rfl,by decide +kernel,by decide +kernel,by decide +kernel,rfl,by decide +kernel⟩) rfl (Zea K rfl (mb "enumerate"<|by decide)<|Zaa (pv 0) Zad) (λ_ _ _ _ _=>(gtupK (n:=2) K rfl<|Zct (Zal (i:=0) (show List.Nodup (["place","row","end"]:List Str) from by decide) rfl<|Or.inl rfl)<|Zct (Zal (i:=1) (show List.Nodup (["place","row","end"]:List Str) from by decide) rfl<|Or.inl rfl) Zgu)) (λ_ _ _ _ _=>(seqK K<|pv 1)) (λ_ _ _ _ _=>(Zal (i:=2) (show List.Nodup (["place","row","end"]:List Str) from by decide) rfl<|Or.inl rfl)) (λ_ _ _ _ _=>(pv 2)) λ_ _ _ _ _=>(pv 0))<|Zaf (Zdf (i:=2) ["end"] (show CompSc (defScope Yar) ["rows","places","ties"] _ ["places"] [1] from ⟨rfl,by decide +kernel,by decide +kernel,by decide +kernel,rfl,by decide +kernel⟩) rfl Ybn.nd rfl (Or.inl rfl) (Zqe rfl (mb "range"<|by decide)<|Zaa Zag<|Zaa (Zah (lenK K) rfl (mb "len"<|by decide) Za5<|Zaa (pv 1) Zad)<|Zaa Zag Zad) (λ_ _ _ _ _=>(Zal (i:=0) (show List.Nodup (["end","places"]:List Str) from by decide) rfl<|Or.inl rfl)) (λ_ _ _ _ _=>Zbb) λ_ _ _ _ _=>(Zbq<|Zaa (Zbe (ixK K hu) (pv 1) (pv 0) λ_ _=>rfl)<|Zaa (Zbe (ixK K hu) (pv 1) (Zax (addK K) (pv 0) Zag) λ_ _=>rfl) Zad))<|Zai<|Zau<|Zbq<|Zaa (Zbq<|Zaa (Zah (lenK K) rfl (mb "len"<|by decide) Za5<|Zaa (pv 0) Zad)<|Zaa (Za2 (tupK K) rfl (mb "tuple"<|by decide) Za9<|Zaa (pv 2) Zad) Zad)<|Zaa (Za2 (tupK K) rfl (mb "tuple"<|by decide) Za9<|Zaa (pv 0) Zad) Zad),Zdt (λds Post hf=>?_) h⟩;obtain⟨R,m,rfl,hT,hR,hm,q⟩:=hf;refine⟨by simp,?_⟩;dsimp only[startD,Wbj,Wbn,Wa9,Wae];have hfl:=hT.len;refine Zaj<|Zb2<|Zm9<|Zkn<|Zab<|Zac rfl<|Zae ⟨_,Or.inl rfl,λ_ h=>(nomatch h),λi kvs Δ=>kvs=(ixP 0<|R.take i).map encPair/\∃x y z:L2.Slot,Δ = [x,y,z],⟨rfl,_,_,_,rfl⟩,?_,?_⟩
 ·rintro i d kvs Δ2 hd ⟨rfl,x,y,z,rfl⟩
  obtain⟨d',hd',rfl⟩:=Zkb hd;rw[Wad]at hd';cases zr:R[i]? with
  |none=>rw[zr]at hd';cases hd'
  |some r=>
   rw[zr]at hd';have hd':rowD r=d':=by simpa using hd'
   subst hd';refine Zo3 rfl<|Zeh<|Zb3<|Zeh<|Zb3<|Zj6<|Ze1<|Zac rfl ⟨r.map D.int,rfl,λj kvs Δ=>kvs=(ixP 0 (R.take i)++(r.take j).map λe=>(e,(i:Int))).map encPair/\∃z:L2.Slot,Δ = [.val (.int (i:Int)),.val (rowD r),z],⟨by simp,_,rfl⟩,?_,?_⟩
   ·rintro j e kvs Δ2 he ⟨rfl,z,rfl⟩
    rw[Wad]at he;cases ze:r[j]? with
    |none=>rw[ze]at he;cases he
    |some e'=>
     rw[ze]at he;have he:D.int e'=e:=by simpa using he
     subst he;refine Zb3<|Zac rfl<|Zac rfl ⟨e',rfl,?_,Zuv hT.nd zr ze,_,rfl⟩;have:=Zvp zr j;rw[Waa];exact small1000 (by omega)
   ·rintro kvs Δ2 ⟨rfl,z,rfl⟩
    rw[Waa,Zo2 zr];exact⟨rfl,_,_,_,rfl⟩
 rintro kvs Δ2 ⟨rfl,x,y,z,rfl⟩;rw[Zfy,Waa,Wbo];have hkl:((ixP 0 R).map encPair).length=2*m:=by rw[Waa,Zna,hfl]
 refine Zaj<|Zb2<|Zeo (by decide)<|Zo6<|Zab<|Zak<|Zab<|Zkg rfl rfl<|Zab<|Zak<|Zae ⟨0,_,2,rfl,⟨by omega,by omega,by omega,by omega,Or.inl rfl⟩,?_,λ_=>true,λd=>match d with|.int e=>.tup [.int (faceIx R e:Int),.int (faceIx R (e+1):Int)]|d=>d,λi d hd=>?_,?_⟩
 ·rw[Zlm,hkl];unfold stepN;rw[Zf7];exact small1000 (by split <;> omega)
 ·obtain⟨hi,rfl⟩:=Zlh hd
  rw[hkl]at hi;unfold stepN at hi;rw[Zf7]at hi;have hi:i<m:=by split at hi <;> omega
  have e1:(0:Int)+(i:Int)*2=((2*i:Nat):Int):=by omega
  rw[e1];refine Zba ⟨rfl,Zbs<|Zab<|Zkf rfl rfl<|Zac rfl ⟨_,_,_,_,rfl,rfl,rfl,hT.val (by omega),Zab<|Zkf rfl rfl<|Zam<|Zac rfl<|Zak<|Zc3 ⟨_,_,_,_,rfl,rfl,rfl,hT.val (e:=2*i+1) (by omega),Zae ⟨Zdp,?_,_,rfl⟩⟩⟩⟩;rfl
 have e2:stpD 0 2 (stepN 0 (((ixP 0 R).map encPair).length:Int) 2)=(Waq m).map λk:Nat=>D.int ((2*k:Nat):Int):=by
  have:stepN 0 (((ixP 0 R).map encPair).length:Int) 2=m:=by
   rw[hkl];unfold stepN;rw[Zf7];split <;> omega
  rw[this];unfold stpD;refine Wa4 λk _=>?_;congr 1;omega
 rw[Zt6 (R:=R) _ _ e2 λk hk=>rfl];refine Za0<|Zbs<|Zab<|Zbs<|Zab<|Zas<|Zab<|Zac rfl<|Zae<|Zbl (Or.inl rfl) ?_;rw[Waa];refine Zab<|Zas<|Zab<|Zc8 rfl<|Zae<|Zcf (Or.inl rfl)<|Zae ⟨Zdp,?_⟩;exact Zab<|Zas<|Zab<|Zac rfl<|Zae<|Zcf (Or.inl rfl)<|Zae ⟨Zdp,q⟩
end
def fEdge:BSp:=λps ds Post=>Pen ps/\ds=[]/\∀n ts ps',Pen ps' -> WebOk n ts->n<=25->Post (encWeb n ts) ps'
theorem Zmc {ys:List D}{n:Nat}(h:ys.Perm ((Waq n).map λi:Nat=>D.int (i:Int))):∃xs:List Int,ys=xs.map D.int/\xs.length=n/\∀x∈xs,0<=x/\x<(n:Int):=by
 have hall:∀d∈ys,∃x:Int,d=.int x/\0<=x/\x<(n:Int):=λd hd=>by
  obtain⟨i,hi,e⟩:=Was.mp<|h.mem_iff.mp hd;have:=Wav.mp hi;exact⟨_,e.symm,by omega,by omega⟩
 have hl:=h.length_eq;rw[Waa,Wa5]at hl;refine⟨ys.map λd=>match d with|.int x=>x|_=>0,?_,by rw[Waa];exact hl,λx hx=>?_⟩
 ·rw[Wal]
  conv=>lhs;rw[<- Wd4 ys]
  refine Wa4 λd hd=>?_;obtain⟨x,rfl,_⟩:=hall d hd;rfl
 ·obtain⟨d,hd,e⟩:=Was.mp hx
  obtain⟨y,rfl,h0,h1⟩:=hall d hd;have e:y=x:=e;omega
section
variable {P:Program}{w:World}{K:W.Frag}{mg:Str->Option Value}{base:Heap}{f:Addr}{fd:FuncData}
theorem Ztb (mb:Mb mg) (C40:Callee P w K mg base 1 "_law_draw" ["_law_pen_here","_law_many"] (spB K fDraw)) (C46:Callee P w K mg base 2 "_law_mixed" ["_law_pen_here","_law_things"] (spB K fMixed)) (F:Fun K "_law_edge" "_law_edge" Ya1 f fd):FnOk P w K mg base CX0 3 f fd ["_law_pen_here"] (spB K fEdge):=by
 refine F.ok Ya6 (Zdi λps ds Post h=>by obtain⟨_,rfl,_⟩:=h;rfl) λcdv A outer s H vs Q E hr h=>?_;have hu:=Zbv hr;refine⟨_,(Zaf (Zaq (i:=1) Ya6.nd rfl (Or.inl rfl)<|Zax (addK K) Zag<|Zav C40 (hr.mono<|by decide)<|Zaa (pv 0)<|Zaa Zag Zad)<|Zaf (Zaq (i:=2) Ya6.nd rfl (Or.inl rfl)<|Zax (addK K) (Zax Zpr Zag<|pv 1)<|Zav C40 (hr.mono<|by decide)<|Zaa (pv 0)<|Zaa Zag Zad)<|Zaf (Zaq (i:=3) Ya6.nd rfl (Or.inr rfl)<|Zav C46 (hr.mono<|by decide)<|Zaa (pv 0)<|Zaa (Zde rfl rfl (mb "list"<|by decide) rfl (mb "range"<|by decide)<|Zaa (pv 2) Zad) Zad)<|Zai<|Zau<|Zbq<|Zaa (pv 2)<|Zaa (Za2 (tupK K) rfl (mb "tuple"<|by decide) Za9<|Zaa (Za3 ["_law_k"] (show CompSc (defScope Ya1) ["_law_pen_here","_law_loops_here","_law_many","_law_names"] _ ["_law_names"] [3] from ⟨rfl,by decide +kernel,by decide +kernel,by decide +kernel,rfl,by decide +kernel⟩) rfl (Zbg rfl (mb "range"<|by decide)<|Zaa (pv 1) Zad) (λ_ _ _ _ _=>(Zal (i:=0) (show List.Nodup (["_law_k","_law_names"]:List Str) from by decide) rfl<|Or.inl rfl)) (λ_ _ _ _ _=>Zbb) λ_ _ _ _ _=>(Zbq<|Zaa (Zbe (ixK K hu) (pv 1) (pv 0) λ_ _=>rfl)<|Zaa (Zbe (ixK K hu) (pv 1) (pv 0) λ_ _=>rfl) Zad)) Zad) Zad),Zhc (λps ds Post hf=>?_) h⟩;obtain⟨hp,rfl,q⟩:=hf;refine⟨by simp,?_⟩;dsimp only[cxOf,startD,Wbj,Wbn,Wa9,Wae];refine Zaj<|Za1<|Zam<|Zak<|Zbj rfl rfl<|Zab<|Zak<|Zae ⟨_,_,rfl,rfl,hp,12,rfl,by omega,by omega,λr ps1 hp1 r0 r1=>Zc3 ?_⟩;refine Zaj<|Za1<|Zam<|Zam<|Zak<|Zac rfl<|Zuh<|Zbj rfl rfl<|Zab<|Zak<|Zae ⟨_,_,rfl,rfl,hp1,2,rfl,by omega,by omega,λs ps2 hp2 s0 s1=>Zc3 ?_⟩;obtain⟨N,hN⟩:∃N:Nat,25-(1+r)+s=(N:Int):=⟨(25-(1+r)+s).toNat,by omega⟩;rw[hN];refine Zaj<|Za1<|Zbj rfl rfl<|Zab<|Za8<|Zqm<|Zab<|Zac rfl<|Zae ⟨N,rfl,by omega,_,rfl,Zae ⟨_,_,rfl,rfl,hp2,_,rfl,?_,λys ps3 hp3 hy=>?_⟩⟩
 ·rw[Waa,Wa5];omega
 obtain⟨xs,rfl,hxl,hx⟩:=Zmc hy;refine Za0<|Zbs<|Zab<|Zac rfl<|Zab<|Zas<|Zab<|Za7 (by decide)<|Zbi<|Zab<|Zac rfl<|Zae ⟨1+r,rfl,by omega,by omega,?_,λ_=>true,λd=>match d with|.int e=>.tup [.int (xs.getD e.toNat 0),.int (xs.getD e.toNat 0)]|d=>d,λi d hd=>?_,?_⟩
 ·rw[Zbc];exact small1000 (by omega)
 ·obtain⟨hi,rfl⟩:=Zb5 hd
  have ha:atI (xs.map D.int) (0+(i:Int))=some (.int<|xs.getD (0+(i:Int)).toNat 0):=by
   rw[Wb5,Wa7];exact Zcy (by rw[Wad,Waf,Wab (by omega)];rfl)
  exact Zba ⟨rfl,Zbs<|Zab<|Zam<|Zac rfl<|Zac rfl<|Zee ha<|Zab<|Zam<|Zac rfl<|Zac rfl<|Zee ha<|Zae ⟨Zdp,rfl,_,rfl⟩⟩
 refine Zae<|Zcf (Or.inl rfl)<|Zae ⟨Zdp,?_⟩;have e1:((rngD 0 (1+r).toNat).filter λ_=>true).map (λd=>match d with|.int e=>D.tup [.int (xs.getD e.toNat 0),.int (xs.getD e.toNat 0)]|d=>d)=((Waq (1+r).toNat).map λk=>(xs.getD k 0,xs.getD k 0)).map encTie:=by
  rw[Waz.mpr (by simp)];unfold rngD;rw[Wal,Wal];refine Wa4 λk _=>?_;show D.tup [.int (xs.getD (0+(k:Int)).toNat 0),.int (xs.getD (0+(k:Int)).toNat 0)]=_;rw[Wb5,Wa7];rfl
 rw[e1];refine⟨_,rfl,q N _ _ hp3 ⟨by omega,by omega,by rw[Waa,Wa5];omega,λt ht=>?_⟩<|by omega⟩;obtain⟨k,hk,rfl⟩:=Was.mp ht;have hk:=Wav.mp hk;have:=hx (xs.getD k 0) (by rw[Waf,Wab (by omega)];exact Wbl _);exact⟨this.1,this.2,this.1,this.2⟩
theorem Zrh (mb:Mb mg) (C40:Callee P w K mg base 1 "_law_draw" ["_law_pen_here","_law_many"] (spB K fDraw)) (F:Fun K "_law_loops" "_law_loops" Ybk f fd):FnOk P w K mg base CX0 2 f fd ["_law_pen_here"] (spB K fEdge):=by
 refine F.ok Yau (Zdi λps ds Post h=>by obtain⟨_,rfl,_⟩:=h;rfl) λcdv A outer s H vs Q E hr h=>?_;have hu:=Zbv hr;refine⟨_,(Zaf (Zaq (i:=1) Yau.nd rfl (Or.inl rfl)<|Zax (addK K) Zag<|Zav C40 (hr.mono<|by decide)<|Zaa (pv 0)<|Zaa Zag Zad)<|Zaf (Zaq (i:=2) Yau.nd rfl (Or.inl rfl)<|Zc9 Zad)<|Zaf (Zd3 PassesOwn.never rfl (Zbg rfl (mb "range"<|by decide)<|Zaa (Zav C40 (hr.mono<|by decide)<|Zaa (pv 0)<|Zaa Zag Zad) Zad) (Zal (i:=3) Yau.nd rfl<|Or.inl rfl)<|Zaf (Zaq (i:=4) Yau.nd rfl (Or.inl rfl)<|Zav C40 (hr.mono<|by decide)<|Zaa (pv 0)<|Zaa (pv 1) Zad)<|Zai<|Zc5<|bmK K PySem.F.plainAttrs_list PySem.F.slot_list_append PySem.F.type_list_append Zb9 (pv 2)<|Zaa (Zbq<|Zaa (pv 4)<|Zaa (pv 4) Zad) Zad)<|Zai<|Zau<|Zbq<|Zaa (pv 1)<|Zaa (Za2 (tupK K) rfl (mb "tuple"<|by decide) Za9<|Zaa (pv 2) Zad) Zad),Zhc (λps ds Post hf=>?_) h⟩;obtain⟨hp,rfl,q⟩:=hf;refine⟨by simp,?_⟩;dsimp only[cxOf,startD,Wbj,Wbn,Wa9,Wae];refine Zaj<|Za1<|Zam<|Zak<|Zbj rfl rfl<|Zab<|Zak<|Zae ⟨_,_,rfl,rfl,hp,25,rfl,by omega,by omega,λr ps1 hp1 r0 r1=>Zc3 ?_⟩;refine Zaj<|Zb2<|Zfh<|Zae ⟨by decide,?_⟩;refine Zb6 (λΔ=>∃(psx:List D) (ts:List (Int × Int)) (x y:L2.Slot),Pen psx/\WebOk (1+r) ts /\ Δ = [.bor (.lst psx),.val (.int (1+r)),.own (.lst<|ts.map encTie),x,y]) ?_ ?_
 ·refine Zd5 (Zbi<|Zab<|Zbj rfl rfl<|Zab<|Zak<|Zae ⟨_,_,rfl,rfl,hp1,25,rfl,by omega,by omega,λs ps2 hp2 s0 s1=>Zae ⟨s,rfl,by omega,by omega,?_⟩⟩)
  refine⟨λi Δ=>∃(psx:List D) (ts:List (Int × Int)) (x y:L2.Slot),Pen psx/\ts.length=i/\(∀t∈ts,0<=t.1/\t.1<1+r/\0<=t.2/\t.2<1+r) /\ Δ = [.bor (.lst psx),.val (.int (1+r)),.own (.lst<|ts.map encTie),x,y],⟨ps2,[],_,_,hp2,rfl,λ_ h=>(nomatch h),rfl⟩,?_,?_⟩
  ·rintro i d Δ2 hd ⟨psx,ts,x,y,hpx,hl,ht,rfl⟩
   obtain⟨hi,rfl⟩:=Zb5 hd;refine Zb3<|Zaj<|Za1<|Zbj rfl rfl<|Zab<|Zac rfl<|Zae ⟨_,_,rfl,rfl,hpx,1+r,rfl,by omega,by omega,λp ps3 hp3 p0 p1=>?_⟩;refine Zf3 rfl rfl<|Zbs<|Zab<|Zac rfl<|Zab<|Zac rfl<|Zae ⟨Zdp,_,_,rfl,rfl,?_,ps3,ts++[(p,p)],.val (.int (0+(i:Int))),.val (.int p),hp3,by rw[Waj,hl];rfl,λt h=>?_,?_⟩
   ·rw[Waa];exact small1000 (by omega)
   ·rcases Wbp.mp h with h|h
    ·exact ht t h
    ·rw[Wbs.mp h]
     exact⟨p0,p1,p0,p1⟩
   ·rw[War];rfl
  ·rintro Δ2 ⟨psx,ts,x,y,hpx,hl,ht,rfl⟩
   rw[Zbc]at hl;exact⟨psx,ts,x,y,hpx,⟨by omega,by omega,by omega,ht⟩,rfl⟩
 rintro Δ1 ⟨psx,ts,x,y,hpx,hW,rfl⟩;refine Za0<|Zbs<|Zab<|Zac rfl<|Zab<|Zas<|Zab<|Zc8 rfl<|Zae<|Zcf (Or.inl rfl)<|Zae ⟨Zdp,?_⟩;exact⟨_,rfl,q _ ts _ hpx hW<|by omega⟩
end
noncomputable def lf (l:List Int):List Int:=if h:l=[] then [] else rotAt l (l.idxOf<|Classical.choose<|Zcm l h)
theorem Zfj:lf []=[]:=by unfold lf;rw[dif_pos rfl]
theorem Zi0 {l:List Int}{m:Int}(hm:m∈l) (hle:∀a∈l,m<=a):lf l=rotAt l (l.idxOf m):=by
 have h:l≠[]:=List.ne_nil_of_mem hm;unfold lf;rw[dif_neg h];obtain⟨c1,c2⟩:=Classical.choose_spec<|Zcm l h;have e:Classical.choose (Zcm l h)=m:=by
  have:=c2 m hm;have:=hle _ c1;omega
 rw[e]
theorem Zdr (l:List Int) (j:Nat):(rotAt l j).Perm l:=by
 unfold rotAt;refine Wdk.trans ?_;rw[Wb0]
theorem Zgq (l:List Int):(lf l).Perm l:=by
 by_cases h:l=[]
 ·subst h;rw[Zfj]
 ·obtain⟨m,hm,hle⟩:=Zcm l h
  rw[Zi0 hm hle];exact Zdr _ _
theorem Zsy {l:List Int}{m:Int}(hm:m∈l) (hle:∀a∈l,m<=a):(lf l).head?=some m:=by
 obtain⟨i1,i2,_⟩:=Zcr hm;rw[Zi0 hm hle];unfold rotAt;rw[List.drop_eq_getElem_cons i1,Wc9,List.head?_cons];rw[Wab i1]at i2;exact i2
theorem Zvc {ts:List (Int × Int)}{m:Nat}{p:Int}{r:List Int}(h:RowOk ts m p r):lf r=r:=by
 cases r with
 |nil=>exact Zfj
 |cons x r=>
  have hle:=h.least;rw[Zi0 (m:=x) Wat (λa ha=>by rcases Wap.mp ha with z|z;exact(by omega);exact hle a z),Wdn];unfold rotAt;rw[Wc7,Wb6,Wa3]
def seqD:Bool->List D->D
 |true,ds=>.lst ds
 |false,ds=>.tup ds
def tabD (b:Bool) (rs:List (Bool × List Int)):D:=seqD b (rs.map λp=>seqD p.1<|p.2.map .int)
structure TabU (R:List (List Int)) (m:Nat):Prop where
 nd:R.flatten.Nodup
 mem:∀x:Int,x∈R.flatten↔0<=x/\x<((2*m:Nat):Int)
theorem Zi8 {A B:List (List Int)}(h:A.Perm B):A.flatten.Perm B.flatten:=by
 induction h with
 |nil=>exact .refl _
 |cons x _ ih=>rw[Wbb,Wbb];exact List.Perm.append_left _ ih
 |swap x y l=>
  rw[Wbb,Wbb,Wbb,Wbb,<- Wbe,<- Wbe];exact List.Perm.append_right _ Wdk
 |trans _ _ a b=>exact a.trans b
theorem TabU.perm {A B:List (List Int)}{m:Nat}(h:TabU A m) (p:A.flatten.Perm B.flatten):TabU B m:=
 ⟨p.nodup_iff.mp h.nd,λx=>p.mem_iff.symm.trans<|h.mem x⟩
theorem Zd8:∀R:List (List Int),(R.map lf).flatten.Perm R.flatten
 |[]=>.refl _
 |r::R=>by rw[Wa1,Wbb,Wbb];exact List.Perm.append (Zgq r) (Zd8 R)
theorem Zls {l:List Int}{x:Int}{t:List Int}(e:lf l=x::t):∀a∈t,x<=a:=λa ha=>by
 by_cases h:l=[]
 ·rw[h,Zfj]at e;cases e
 ·obtain⟨m,hm,hle⟩:=Zcm l h
  have hh:=Zsy hm hle;rw[e]at hh;cases hh;exact hle a ((Zgq l).mem_iff.mp (by rw[e];exact Way _ ha))
theorem TabU.lf {R:List (List Int)}{m:Nat}(h:TabU R m):Tab (R.map lf) m:=by
 have u:=h.perm (Zd8 R).symm;refine⟨u.nd,u.mem,λr hr x t e=>?_⟩;obtain⟨l,_,rfl⟩:=Was.mp hr;exact Zls e
theorem Tab.u {R:List (List Int)}{m:Nat}(h:Tab R m):TabU R m:=⟨h.nd,h.mem⟩
theorem Tab.perm {A B:List (List Int)}{m:Nat}(h:Tab A m) (p:A.Perm B):Tab B m:=
 let u:=h.u.perm<|Zi8 p; ⟨u.nd,u.mem,λr hr=>h.lst r<|p.mem_iff.mpr hr⟩
theorem Znr {r:List Int}(nd:r.Nodup) (hl:∀x t,r=x::t->∀a∈t,x<=a) (j:Nat):lf (rotAt r j)=r:=by
 cases r with
 |nil=>unfold rotAt;rw[List.drop_nil,List.take_nil];exact Zfj
 |cons x t=>
  have hl:=hl x t rfl;have hp:=Zdr (x::t) j;have hm:x∈rotAt (x::t) j:=hp.mem_iff.mpr Wat;rw[Zi0 hm λa ha=>by
   rcases Wap.mp (hp.mem_iff.mp ha) with z|z
   ·omega
   ·exact hl a z]
  cases j with
  |zero=>
   have e:rotAt (x::t) 0=x::t:=by unfold rotAt;rw[Wc7,Wb6,Wa3]
   rw[e,Wdn];exact e
  |succ j=>
   have e:rotAt (x::t) (j+1)=t.drop j++x::t.take j:=rfl;have ei:(rotAt (x::t)<|j+1).idxOf x=(t.drop j).length:=by
    refine Zlq (hp.nodup_iff.mpr nd) ?_;rw[e,Wbc (Wak _),Nat.sub_self];rfl
   rw[ei,e];unfold rotAt;rw[List.drop_left,List.take_left,Wc9,Wb0]
theorem Zht {f g:Int->Int}{m:Nat}(F:OneOne f m) (h:∀e:Nat,e<m->f (e:Int)=g (e:Int)) {e:Int}(h0:0<=e) (h1:e<(m:Int)):∀n,iter f e n=iter g e n
 |0=>rfl
 |n+1=>by
  have r:=Zco F h0 h1 n;show f (iter f e n)=g (iter g e n);rw[<- Zht F h h0 h1 n];have:=h (iter f e n).toNat (by omega);rw[show (((iter f e n).toNat:Nat):Int)=iter f e n by omega]at this;exact this
theorem Zjx {f g:Int->Int}{m:Nat}(F:OneOne f m) (h:∀e:Nat,e<m->f (e:Int)=g (e:Int)) {e:Int}(h0:0<=e) (h1:e<(m:Int)):orb f e=orb g e:=by
 have it:=Zht F h h0 h1;have O:=Zey F h0 h1;have O2:IsOrb g e (per f e):=⟨O.pos,by rw[<- it];exact O.back,λi j hi hj q=>O.nd i j hi hj (by rw[it,it];exact q)⟩;rw[O2.orb];unfold orb walkL;exact Wa4 λi _=>it i
theorem Zfb {f g:Int->Int}{m:Nat}(F:OneOne f m) (h:∀e:Nat,e<m->f (e:Int)=g (e:Int)):facesTo f m=facesTo g m:=by
 unfold facesTo;have e1:(Waq m).filter (leastB f)=(Waq m).filter (leastB g):=Wc5 λk hk=>by
  have:=Wav.mp hk;unfold leastB;rw[Zjx F h (e:=(k:Int)) (by omega) (by omega)]
 rw[e1];exact Wa4 λk hk=>Zjx F h (by omega) (by have:=Wav.mp (Wbd.mp hk).1;omega)
theorem Zfd {A B:List (List Int)}(p:A.Perm B):lone A=lone B:=(p.filter _).length_eq
section
variable {N:Nat}{ts:List (Int × Int)}{o:List (List Int)}(hW:WebOk (N:Int) ts) (hO:OrdOk (N:Int) ts o) (hR:(allF ts o).length<=100) {T:List (List Int)}(hT:T.Perm (allF ts o))
include hW hO hR hT
omit hR in
theorem Zr6 {e:Nat}(he:e<2*ts.length):onI (dualT T ts.length) T (e:Int)=folOf ts o e:=by
 have TT:=(Zb4 hW hO).perm hT.symm;have hp:=Zb1 he;obtain⟨r,h1,h2,h3⟩:=TT.at hp;unfold onI folOf;rw[Wa7,Zh2 hp h1];rcases Zif hW hO (hT.mem_iff.mp<|Wai h1) with z|⟨g,hg,hl,z⟩
 ·rw[z]at h2;cases h2
 ·rw[z]at h2 ⊢
  rw[Zk6 (Zdo hW hO) (by omega) (by omega) h2];unfold onI;rw[Wa7,Zbh];rfl
theorem Zp1:allF (dualT T ts.length) T=allF (dualT (allF ts o) ts.length) (allF ts o):=by
 have F2:=Zdo (Zdw (Zb4 hW hO) (Zlk hW hO) hR hW.len)<|Zdy<|Zb4 hW hO;rw[Zbz]at F2;unfold allF;rw[Zbz,Zbz,show lone T=lone (allF ts o) from Zfd hT];show Wae (lone<|allF ts o) []++_=Wae (lone<|allF ts o) []++facesTo (onI (dualT (allF ts o) ts.length)<|allF ts o) (2*ts.length);rw[Zfb F2 λe he=>(Zpj hW hO he).trans (Zr6 hW hO hT he).symm]
theorem Zl4:(allF (dualT T ts.length) T).Perm o:=by rw[Zp1 hW hO hR hT];exact Zoo hW hO
end
theorem Zs2 {N:Nat}{ts:List (Int × Int)}{o:List (List Int)}(hW:WebOk (N:Int) ts) (hO:OrdOk (N:Int) ts o):Tab o ts.length:=by
 refine⟨hO.flat,λx=>⟨λhx=>?_,λhx=>?_⟩,λr hr x t e a ha=>?_⟩
 ·obtain⟨r,h1,h2⟩:=Wca.mp hx
  obtain⟨p,hp⟩:=Wbg.mp h1;obtain⟨k,hk,_,rfl⟩:=(hO.row p r hp).mem.mp h2;omega
 ·obtain⟨g1,g2,g3⟩:=Zck hW hO (show x.toNat<2*ts.length by omega)
  rw[show ((x.toNat:Nat):Int)=x by omega]at g3;exact Wca.mpr ⟨_,Wai g1,g3⟩
 ·obtain⟨p,hp⟩:=Wbg.mp hr
  have R:=hO.row p r hp;rw[e]at R;exact R.least a ha
theorem Znx {N:Nat}{ts:List (Int × Int)}{o T:List (List Int)}(hW:WebOk (N:Int) ts) (hO:OrdOk (N:Int) ts o) (hT:T.Perm o):allF (dualT T ts.length) T=allF ts o:=by
 have TT:=(Zs2 hW hO).perm hT.symm;unfold allF;rw[Zbz,show lone T=lone o from Zfd hT];congr 1;refine(Zfb (Zdo hW hO) λe he=>?_).symm;have hp:=Zb1 he;obtain⟨r,h1,h2,h3⟩:=TT.at hp;unfold onI folOf;rw[Wa7,Zh2 hp h1];obtain⟨q,hq⟩:=Wbg.mp<|hT.mem_iff.mp<|Wai h1;obtain⟨k,hk,hpl,ek⟩:=(hO.row q r hq).mem.mp h2;have ek:partner e=k:=by omega
 subst ek;unfold rowAt;rw[hpl,Wa7,Waf,hq];rfl
theorem Zo7 {i:Int}(h1:0<=i) (h2:i<=100):(D.pd (.int i)).shown.length<=13:=PyData.shown_int_le2 (by omega) (by omega)
theorem Znl:∀(l:List Nat) (b:Nat),(∀x∈l,x<=b)->l.sum<=l.length*b
 |[],_,_=>by simp
 |x::l,b,h=>by
  have:=Znl l b λy hy=>h y<|Way _ hy;have:=h x Wat;rw[List.sum_cons,Wan,Nat.succ_mul];omega
theorem Zh1:∀ds:List D,D.pds ds=ds.map D.pd
 |[]=>rfl
 |d::ds=>by show D.pd d::D.pds ds=_;rw[Zh1 ds];rfl
theorem Zg6:∀xs:List PyData,PyData.shownAll xs=xs.map PyData.shown
 |[]=>rfl
 |x::xs=>by show x.shown::PyData.shownAll xs=_;rw[Zg6 xs];rfl
theorem Zpn {xs:List PyData}{b:Nat}(h:∀x∈xs,x.shown.length<=b):(PyData.list xs).shown.length<=xs.length*b+2*xs.length+3:=by
 show (listText<|PyData.shownAll xs).length<=_;have h1:=listText_len_le<|PyData.shownAll xs;rw[Zg6]at h1 ⊢;rw[Wal,Waa]at h1;have h2:=Znl (xs.map ((λs:Str=>s.length)∘PyData.shown)) b λy hy=>by
  obtain⟨x,hx,rfl⟩:=Was.mp hy;exact h x hx
 rw[Waa]at h2;omega
theorem Zn2 {xs:List PyData}{b:Nat}(h:∀x∈xs,x.shown.length<=b):(PyData.tuple xs).shown.length<=xs.length*b+2*xs.length+3:=by
 show (tupleText<|PyData.shownAll xs).length<=_;have h1:=tupleText_len_le<|PyData.shownAll xs;rw[Zg6]at h1 ⊢;rw[Wal,Waa]at h1;have h2:=Znl (xs.map ((λs:Str=>s.length)∘PyData.shown)) b λy hy=>by
  obtain⟨x,hx,rfl⟩:=Was.mp hy;exact h x hx
 rw[Waa]at h2;omega
theorem Zj9:∀{ds:List D},(∀d∈ds,d.shw=true)->D.shws ds=true
 |[],_=>rfl
 |d::ds,h=>by
  show (d.shw && D.shws ds)=true;rw[h d Wat,Zj9 λe he=>h e (Way _ he)];rfl
theorem Zlt:∀{xs:List PyData}{k:Nat},(∀x∈xs,x.depth<=k)->PyData.depthAll xs<=k
 |[],_,_=>Wbx _
 |x::xs,k,h=>by
  have h1:=h x Wat;have h2:=Zlt (xs:=xs) (k:=k) λy hy=>h y<|Way _ hy;simp only[PyData.depthAll];omega
structure Shw (d:D) (k b:Nat):Prop where
 s:d.shw=true
 dp:d.pd.depth<=k
 ln:d.pd.shown.length<=b
theorem Zr5 {i:Int}(h1:0<=i) (h2:i<=100):Shw (.int i) 0 13:=by
 refine⟨?_,Wak _,Zo7 h1 h2⟩;show decide (i.natAbs.log2<1920)=true;refine decide_eq_true ?_;by_cases z:i.natAbs=0
 ·rw[z];decide
 ·exact Nat.lt_trans ((Nat.log2_lt z).2 (show i.natAbs<2 ^ 7 by omega)) (by decide)
theorem Zkp {c:Bool}{ds:List D}{k b:Nat}(h:∀d∈ds,Shw d k b):Shw (seqD c ds) (k+1) (ds.length*b+2*ds.length+3):=by
 have hd:PyData.depthAll (D.pds ds)<=k:=Zlt λx hx=>by
  rw[Zh1]at hx;obtain⟨d,hd,rfl⟩:=Was.mp hx;exact(h d hd).dp
 have hl:∀x∈D.pds ds,x.shown.length<=b:=λx hx=>by
  rw[Zh1]at hx;obtain⟨d,hd,rfl⟩:=Was.mp hx;exact(h d hd).ln
 have el:(D.pds ds).length=ds.length:=by rw[Zh1,Waa]
 cases c with
 |true=>
  refine⟨Zj9 λd hd=>(h d hd).s,?_,?_⟩
  ·show (PyData.list<|D.pds ds).depth<=_
   simp only[PyData.depth];omega
  ·have:=Zpn hl
   rw[el]at this;exact this
 |false=>
  refine⟨Zj9 λd hd=>(h d hd).s,?_,?_⟩
  ·show (PyData.tuple<|D.pds ds).depth<=_
   simp only[PyData.depth];omega
  ·have:=Zn2 hl
   rw[el]at this;exact this
section
variable {P:Program}{w:World}{K:W.Frag}{mg:Str->Option Value}{base:Heap}{f:Addr}{fd:FuncData}
def fWhole:DSp:=λds Post=>∃e:Int,ds=[.int e]/\Post (.bl true)
def fLeastE:DSp:=λds Post=>∃ns:List Int,ds=[.lst (ns.map .int)]/\ns.length<=100/\Post (encRow<|lf ns)
theorem Zp7 (mb:Mb mg) (F:Fun K "least_first" "least_first" Yak f fd):FnOk P w K mg base CX0 1 f fd ["ends"] (spD K fLeastE):=by
 refine F.ok Yao (Zbu λds Post h=>by obtain⟨_,rfl,_⟩:=h;rfl) λcdv A outer s H vs Q E hr h=>?_;have hu:=Zbv hr;refine⟨_,(Zaf (Zbd (Zcj<|truK K (pv 0) λ_=>rfl) (Zai<|Zau<|Zbq Zad) Zar)<|Zaf (Zaq (i:=1) Yao.nd rfl (Or.inl rfl)<|bmK K PySem.F.plainAttrs_list PySem.F.slot_list_index PySem.F.type_list_index (idxLK K) (pv 0)<|Zaa (Zah (minK K rfl) rfl (mb "min"<|by decide) Zj3<|Zaa (pv 0) Zad) Zad)<|Zai<|Zau<|Za2 (tupK K) rfl (mb "tuple"<|by decide) Za9<|Zaa (Zax (addK K) (Zbo (slK K) (pv 0) (Zcd<|pv 1) Zcc)<|Zbo (slK K) (pv 0) Zcc<|Zcd<|pv 1) Zad),Zdt (λds Post hf=>?_) h⟩;obtain⟨ns,rfl,hl,q⟩:=hf;refine⟨by simp,?_⟩;dsimp only[startD,Wbj,Wbn,Wa9];by_cases hn:ns=[]
 ·subst hn
  refine Zaj<|Zbn<|Zca<|Zbk<|Zac rfl ⟨false,rfl,?_⟩;refine iteT<|Za0<|Zbs<|Zae ⟨by decide,?_⟩;rw[Zfj]at q;exact q
 ·obtain⟨m,hm,hle⟩:=Zcm ns hn
  obtain⟨i1,i2,i3⟩:=Zcr hm;refine Zaj<|Zbn<|Zca<|Zbk<|Zac rfl ⟨true,?_,?_⟩
  ·cases ns with
   |nil=>exact absurd rfl hn
   |cons x t=>rfl
  refine iteF<|Zaz ?_;refine Zaj<|Za1<|Zix<|Zac rfl ⟨ns,rfl,by omega,Zas<|Zab<|Zac rfl<|Zae<|Zko (Or.inl rfl) hm hle ⟨m,rfl,hm,?_⟩⟩;have hj:ns.idxOf m<=(ns.map D.int).length:=by rw[Waa];omega
  refine Za0<|Zas<|Zab<|Zam<|Zep<|Zac rfl<|Zce<|Zac rfl ⟨_,rfl,Zcb ⟨.lst ((ns.map D.int).drop (ns.idxOf m)),?_,?_⟩⟩
  ·show some (D.lst<|cutD (ns.map D.int) (some ((ns.idxOf m:Nat):Int)) none)=_
   rw[Zfe _ hj]
  refine Zep<|Zac rfl<|Zcb<|Zce<|Zac rfl ⟨_,rfl,.lst ((ns.map D.int).take (ns.idxOf m)),?_,?_⟩
  ·show some (D.lst<|cutD (ns.map D.int) none<|some ((ns.idxOf m:Nat):Int))=_
   rw[Zli _ hj]
  refine Zgh ?_<|Zae<|Zcf (Or.inl rfl) ?_
  ·rw[Wb4,Wbk,Waa]
   exact Wb8 (small1000<|by omega)
  rw[Zi0 hm hle]at q;unfold encRow rotAt at q;rw[War,Wdo,Wcj]at q;exact q
end
def fIsRow:DSp:=λds Post=>∃b es,ds=[seqD b es]/\Post (.bl true)
def fLeastU:DSp:=λds Post=>∃(b:Bool) (ns:List Int),ds=[seqD b (ns.map .int)]/\ns.length<=100/\Post (encRow<|lf ns)
def fLeastT:DSp:=λds Post=>∃ns:List Int,ds=[.tup (ns.map .int)]/\ns.length<=100/\Post (encRow<|lf ns)
def rowsOf (rs:List (Bool × List Int)):List (List Int):=rs.map (·.2)
noncomputable def lfs (rs:List (Bool × List Int)):List (List Int):=(rowsOf rs).map lf
structure TabOk (rs:List (Bool × List Int)) (m:Nat):Prop where
 u:TabU (rowsOf rs) m
 len:rs.length<=100
 pos:1<=rs.length
 ties:m<=24
def fFoT:NSp:=λds Post=>∃b rs m,ds=[tabD b rs]/\TabOk rs m/\Post ((lfs rs).map rowD)
def fRTB:NSp:=λds Post=>∃R m,ds=[.lst (R.map rowD)]/\Tab R m/\1<=R.length/\R.length<=100/\m<=24/\Post ((allF (dualT R m) R).map rowD)
theorem Zju {K:W.Frag}{Δ:Evt}{n:Nat}{sel:List Nat}{wi1 wi2:TI}{g1 g2:TG}{te:TE}{Po:OD->Evt->Prop}
  (h:JI K wi1 Δ λds Δ1=>(∀i∈sel,∃d,Δ1[i]?=some (.val d))/\∃I:Nat->OD->Evt->Prop,I 0 (.lst []) (compD n sel Δ1) ∧
   (∀i d od Δ2,ds[i]?=some d->I i od Δ2->JG K g1 d Δ2 λΔ3=>JI K wi2 Δ3 λes Δ4=>∃I2:Nat->OD->Evt->Prop,I2 0 od Δ4 ∧
    (∀j e od2 Δ5,es[j]?=some e->I2 j od2 Δ5->JG K g2 e Δ5 λΔ6=>JB K (tAppL te) Δ6 od2 λod3 Δ8=>I2 (j+1) od3 Δ8)/\∀od2 Δ5,I2 es.length od2 Δ5->I (i+1) od2 Δ5) ∧
   ∀od Δ2,I ds.length od Δ2->Po od Δ1):JO K (tComp2 n sel wi1 g1 wi2 g2 (.lst []) (tAppL te)) Δ Po:=
 show JO K (tCompG n sel wi1 g1 (.lst []) λacc=>tLoop wi2 g2<|tAppL te acc) Δ Po from Zgc (od0:=.lst []) (λ_=>.nil) λg G H σ R k c=>h g G H σ R k λJ ds G' H' Δ' k' s' it ⟨hv,I,h0,ht,he⟩=>c J ds G' H' Δ' k' s' it ⟨hv,I,h0,λi d od Δ2 hd hI g2' G2 H2 σ2 v R2 k2 r2 c2=>ht i d od Δ2 hd hI g2' G2 H2 σ2 v R2 k2 r2 λσ3 G3 H3 Δ3 k3 s3 p3=>c2 σ3 G3 H3 Δ3 k3 s3<|Zm4 p3,he⟩
theorem Zdj (b:Bool) (ds:List D):seqD b ds=.tup ds\/seqD b ds=.lst ds:=by cases b;exact Or.inl rfl;exact Or.inr rfl
section
variable {P:Program}{w:World}{K:W.Frag}{mg:Str->Option Value}{base:Heap}{f:Addr}{fd:FuncData}
theorem Zrc (mb:Mb mg) (F:Fun K "is_row" "is_row" Ya9 f fd):FnOk P w K mg base CX0 1 f fd ["thing"] (spD K fIsRow):=by
 refine F.ok Ybw (Zbu λds Post h=>by obtain⟨_,_,rfl,_⟩:=h;rfl) λcdv A outer s H vs Q E hr h=>?_;have hu:=Zbv hr;refine⟨_,(Zai<|Zau<|Zah (isiUK K) rfl (mb "isinstance"<|by decide) Za4<|Zaa (pv 0)<|Zaa (Zbq<|Zaa (Zc7 rfl (mb "list"<|by decide) Zfw (show RelV (.ty "list") _ from rfl))<|Zaa (Zc7 rfl (mb "tuple"<|by decide) Za9 (show RelV (.ty "tuple") _ from rfl)) Zad) Zad),Zdt (λds Post hf=>?_) h⟩;obtain⟨b,es,rfl,q⟩:=hf;refine⟨by simp,?_⟩;dsimp only[startD,Wbj,Wbn,Wa9];refine Za0<|Zas<|Zab<|Zac rfl<|Zab<|Zbs<|Zab<|Zec<|Zab<|Zec<|Zae ⟨Zdp,?_⟩;cases b with
 |true=>exact Zae (Znq (ns:=["list","tuple"]) (T:="list") (b:=true) rfl (λ_=>by rfl) q)
 |false=>exact Zae (Znq (ns:=["list","tuple"]) (T:="tuple") (b:=true) rfl (λ_=>by rfl) q)
theorem Zt0 (mb:Mb mg) (F:Fun K "is_whole" "is_whole" Ya8 f fd):FnOk P w K mg base CX0 1 f fd ["thing"] (spD K fWhole):=by
 refine F.ok Ybv (Zbu λds Post h=>by obtain⟨_,rfl,_⟩:=h;rfl) λcdv A outer s H vs Q E hr h=>?_;have hu:=Zbv hr;refine⟨_,(Zai<|Zau<|Zlz (Zah (isiUK K) rfl (mb "isinstance"<|by decide) Za4<|Zaa (pv 0)<|Zaa (Zc7 rfl (mb "int"<|by decide) Zsj (show RelV (.ty "int") _ from rfl)) Zad)<|Zlw<|Zsk<|Zah (isiUK K) rfl (mb "isinstance"<|by decide) Za4<|Zaa (pv 0)<|Zaa (Zc7 rfl (mb "bool"<|by decide) Zm6 (show RelV (.ty "bool") _ from rfl)) Zad),Zdt (λds Post hf=>?_) h⟩;obtain⟨e,rfl,q⟩:=hf;refine⟨by simp,?_⟩;dsimp only[startD,Wbj,Wbn,Wa9];refine Za0<|Zd4<|Zas<|Zab<|Zac rfl<|Zab<|Zec<|Zae<|Zcx (T:="int") (b:=true) rfl (λ_=>by rfl) ⟨_,rfl,?_⟩;rw[if_pos rfl];refine Zkv<|Zas<|Zab<|Zac rfl<|Zab<|Zec<|Zae<|Zcx (T:="int") (b:=false) rfl (λ_=>by rfl) ⟨_,rfl,?_⟩;exact q
theorem Zpm (mb:Mb mg) (F:Fun K "least_first" "least_first" Yak f fd):FnOk P w K mg base CX0 1 f fd ["ends"] (spD K fLeastT):=by
 refine F.ok Yao (Zbu λds Post h=>by obtain⟨_,rfl,_⟩:=h;rfl) λcdv A outer s H vs Q E hr h=>?_;have hu:=Zbv hr;refine⟨_,(Zaf (Zbd (Zcj<|truK K (pv 0) λ_=>rfl) (Zai<|Zau<|Zbq Zad) Zar)<|Zaf (Zaq (i:=1) Yao.nd rfl (Or.inl rfl)<|bmK K PySem.F.plainAttrs_tuple PySem.F.slot_tuple_index PySem.F.type_tuple_index (idxK K) (pv 0)<|Zaa (Zah (minK K rfl) rfl (mb "min"<|by decide) Zj3<|Zaa (pv 0) Zad) Zad)<|Zai<|Zau<|Za2 (tupK K) rfl (mb "tuple"<|by decide) Za9<|Zaa (Zax (addK K) (Zbo (slK K) (pv 0) (Zcd<|pv 1) Zcc)<|Zbo (slK K) (pv 0) Zcc<|Zcd<|pv 1) Zad),Zdt (λds Post hf=>?_) h⟩;obtain⟨ns,rfl,hl,q⟩:=hf;refine⟨by simp,?_⟩;dsimp only[startD,Wbj,Wbn,Wa9];by_cases hn:ns=[]
 ·subst hn
  refine Zaj<|Zbn<|Zca<|Zbk<|Zac rfl ⟨false,rfl,?_⟩;refine iteT<|Za0<|Zbs<|Zae ⟨by decide,?_⟩;rw[Zfj]at q;exact q
 ·obtain⟨m,hm,hle⟩:=Zcm ns hn
  obtain⟨i1,i2,i3⟩:=Zcr hm;refine Zaj<|Zbn<|Zca<|Zbk<|Zac rfl ⟨true,?_,?_⟩
  ·cases ns with
   |nil=>exact absurd rfl hn
   |cons x t=>rfl
  refine iteF<|Zaz ?_;refine Zaj<|Za1<|Zh5<|Zac rfl ⟨ns,rfl,Zas<|Zab<|Zac rfl<|Zae<|Zko (Or.inr rfl) hm hle ⟨m,ns.idxOf m,rfl,i2,i3,?_⟩⟩;have hj:ns.idxOf m<=(ns.map D.int).length:=by rw[Waa];omega
  refine Za0<|Zas<|Zab<|Zam<|Zep<|Zac rfl<|Zce<|Zac rfl ⟨_,rfl,Zcb ⟨.tup ((ns.map D.int).drop (ns.idxOf m)),?_,?_⟩⟩
  ·show some (D.tup<|cutD (ns.map D.int) (some ((ns.idxOf m:Nat):Int)) none)=_
   rw[Zfe _ hj]
  refine Zep<|Zac rfl<|Zcb<|Zce<|Zac rfl ⟨_,rfl,.tup ((ns.map D.int).take (ns.idxOf m)),?_,?_⟩
  ·show some (D.tup<|cutD (ns.map D.int) none<|some ((ns.idxOf m:Nat):Int))=_
   rw[Zli _ hj]
  refine Zpe ?_<|Zae<|Zcf (Or.inr rfl) ?_
  ·rw[Wb4,Wbk,Waa]
   exact Wb8 (small1000<|by omega)
  rw[Zi0 hm hle]at q;unfold encRow rotAt at q;rw[War,Wdo,Wcj]at q;exact q
theorem Zok (mb:Mb mg) (F:Fun K "least_first" "least_first" Yak f fd):FnOk P w K mg base CX0 1 f fd ["ends"] (spD K fLeastU):=by
 have A:=Zp7 (P:=P) (w:=w) (base:=base) mb F;have B:=Zpm (P:=P) (w:=w) (base:=base) mb F;refine⟨λvs H Q E h=>?_,λA' outer s H args us vs Q E hr e0 bd rv h=>?_⟩
 ·obtain⟨F',ds,Post,s1,r1,⟨b,ns,rfl,hl,q⟩,c⟩:=h
  rw[r1.length];rfl
 ·obtain⟨F',ds,Post,s1,r1,⟨b,ns,rfl,hl,q⟩,c⟩:=h
  cases b with
  |true=>exact A.run A' outer s H args us vs Q E hr e0 bd rv ⟨F',_,Post,s1,r1,⟨ns,rfl,hl,q⟩,c⟩
  |false=>exact B.run A' outer s H args us vs Q E hr e0 bd rv ⟨F',_,Post,s1,r1,⟨ns,rfl,hl,q⟩,c⟩
def intsOf (ds:List D):List Int:=ds.map λd=>match d with|.int x=>x|_=>0
theorem Zbr (l:List Int):intsOf (l.map D.int)=l:=by unfold intsOf;rw[Wal];exact(Wa4 λ_ _=>rfl).trans (Wd4 _)
theorem Zoi (rs:List (Bool × List Int)):(lfs rs).length=rs.length:=by unfold lfs rowsOf;rw[Waa,Waa]
theorem TabOk.tab {rs:List (Bool × List Int)}{m:Nat}(h:TabOk rs m):Tab (lfs rs) m:=h.u.lf
theorem TabOk.flat {rs:List (Bool × List Int)}{m:Nat}(h:TabOk rs m):(rowsOf rs).flatten.length=2*m:=by
 have:=(Zd8<|rowsOf rs).length_eq;rw[<- this];exact h.tab.len
theorem TabOk.row {rs:List (Bool × List Int)}{m:Nat}(h:TabOk rs m) {p:Bool × List Int}(hp:p∈rs):p.2.length<=48:=by
 have h1:=h.flat;have h2:=h.ties;have:p.2.Sublist (rowsOf rs).flatten:=Wbz<|Was.mpr ⟨p,hp,rfl⟩;have:=this.length_le;omega
theorem Zel {rs:List (Bool × List Int)}{i:Nat}{d:D}(hd:(rs.map λp=>seqD p.1<|p.2.map D.int)[i]?=some d):∃p,rs[i]?=some p/\p∈rs/\d=seqD p.1 (p.2.map .int):=by
 rw[Wad]at hd;cases z:rs[i]? with
 |none=>rw[z]at hd;cases hd
 |some p=>rw[z]at hd;cases hd;exact⟨p,rfl,Wai z,rfl⟩
theorem Zhr {ms ns:List Int}{m:Nat}(u:ns.Nodup) (hmem:∀x:Int,x∈ns↔0<=x/\x<(m:Int)) (h1:ms.Perm ns) (h2:ms.Pairwise (· <= ·)):ms=(Waq m).map λi:Nat=>(i:Int):=by
 have hr:((Waq m).map λi:Nat=>(i:Int)).Pairwise (· < ·):=by
  rw[Wdi];exact Wdh.imp λh=>by omega
 refine List.Perm.eq_of_pairwise (le:=λa b=>a<=b) (λa b _ _ h1 h2=>by omega) h2 (hr.imp λh=>Wd1 h)<|h1.trans ?_;rw[Wcm u (hr.imp λh z=>by omega)];intro x;rw[hmem,Was];constructor
 ·intro h;exact⟨x.toNat,Wav.mpr (by omega),by omega⟩
 ·rintro⟨k,hk,rfl⟩;have:=Wav.mp hk;omega
theorem Zwd (mb:Mb mg) (C61:Callee P w K mg base 1 "is_row" ["thing"] (spD K fIsRow)) (C62:Callee P w K mg base 1 "is_whole" ["thing"] (spD K fWhole)) {tk:Tok}(g_MOST_TIES:mg "MOST_TIES" = some (.int 24 tk)) (C63:Callee P w K mg base 1 "least_first" ["ends"] (spD K fLeastU)) (F:Fun K "faces_of_table" "faces_of_table" Yac f fd):FnOk P w K mg base CX0 2 f fd ["table"] (spN K fFoT):=by
 refine F.ok Ya4 (Zfr λds Post h=>by obtain⟨_,_,_,rfl,_⟩:=h;rfl) λcdv A outer s H vs Q E hr h=>?_;have hu:=Zbv hr;have hv:=Zg5 hr;refine⟨_,(Zaf (Zbd (PW.pt<|pw_or (Zcj<|truK K (Zav C61 (hr.mono<|by decide)<|Zaa (pv 0) Zad) λ_=>rfl)<|pw_or1<|Zcj<|truK K (Zah (allK K rfl) rfl (mb "all"<|by decide) Zgl<|Zaa (Za3 ["face"] (show CompSc (defScope Yac) ["table","ends"] _ [] [] from ⟨rfl,by decide +kernel,by decide +kernel,by decide +kernel,rfl,by decide +kernel⟩) rfl (seqK K<|pv 0) (λ_ _ _ _ _=>(Zal (i:=0) (show List.Nodup (["face"]:List Str) from by decide) rfl<|Or.inl rfl)) (λ_ _ _ _ _=>Zbb) λ_ _ _ _ _=>(Zav C61 (hr.mono<|by decide)<|Zaa (pv 0) Zad)) Zad) λ_=>rfl) Zcv Zar)<|Zaf (Zi6 (i:=1) Ya4.nd rfl (Or.inl rfl) ["face","end"] (show CompSc (defScope Yac) ["table","ends"] _ [] [] from ⟨rfl,by decide +kernel,by decide +kernel,by decide +kernel,rfl,by decide +kernel⟩) rfl (seqK K<|pv 0) (λ_ _ _ _ _=>(Zal (i:=0) (show List.Nodup (["face","end"]:List Str) from by decide) rfl<|Or.inl rfl)) (λ_ _ _ _ _=>(seqK K<|pv 0)) (λ_ _ _ _ _=>(Zal (i:=1) (show List.Nodup (["face","end"]:List Str) from by decide) rfl<|Or.inl rfl)) λ_ _ _ _ _=>(pv 1))<|Zaf (Zbd (PW.pt<|pw_or (Zcj<|truK K (Zah (allK K rfl) rfl (mb "all"<|by decide) Zgl<|Zaa (Za3 ["end"] (show CompSc (defScope Yac) ["table","ends"] _ [] [] from ⟨rfl,by decide +kernel,by decide +kernel,by decide +kernel,rfl,by decide +kernel⟩) rfl (seqK K<|pv 1) (λ_ _ _ _ _=>(Zal (i:=0) (show List.Nodup (["end"]:List Str) from by decide) rfl<|Or.inl rfl)) (λ_ _ _ _ _=>Zbb) λ_ _ _ _ _=>(Zav C62 (hr.mono<|by decide)<|Zaa (pv 0) Zad)) Zad) λ_=>rfl)<|pw_or1<|Zao (neIK K hv) (Zah (sortIK K) rfl (mb "sorted"<|by decide) Zc6<|Zaa (pv 1) Zad) (Zde rfl rfl (mb "list"<|by decide) rfl (mb "range"<|by decide)<|Zaa (Zah (lenK K) rfl (mb "len"<|by decide) Za5<|Zaa (pv 1) Zad) Zad)<|nomark _) Zcv Zar)<|Zaf (Zbd (PW.pt<|pw_or (Zao Zbm (Zax Zcg (Zah (lenK K) rfl (mb "len"<|by decide) Za5<|Zaa (pv 1) Zad) Zag) Zag<|nomark _)<|pw_or1<|Zao Zmm (Zah (lenK K) rfl (mb "len"<|by decide) Za5<|Zaa (pv 1) Zad) (Zax Zcl Zag<|Zij rfl g_MOST_TIES (show RelV (.int 24) _ from ⟨_,rfl⟩))<|nomark _) Zcv Zar)<|Zai<|Zau<|Za3 ["face"] (show CompSc (defScope Yac) ["table","ends"] _ [] [] from ⟨rfl,by decide +kernel,by decide +kernel,by decide +kernel,rfl,by decide +kernel⟩) rfl (seqK K<|pv 0) (λ_ _ _ _ _=>(Zal (i:=0) (show List.Nodup (["face"]:List Str) from by decide) rfl<|Or.inl rfl)) (λ_ _ _ _ _=>Zbb) λ_ _ _ _ _=>(Zav C63 (hr.mono<|by decide)<|Zaa (pv 0) Zad)),Zmw (λds Post hf=>?_) h⟩;obtain⟨b,rs,m,rfl,hT,q⟩:=hf;refine⟨by simp,?_⟩;dsimp only[startD,Wbj,Wbn,Wa9,Wae];have h1:=hT.len;have h2:=hT.ties;have h3:=hT.flat;refine Zaj<|Zbn<|Zer<|Zca<|Zbk<|Zaw<|Zab<|Zac rfl<|Zae ⟨b,_,rfl,_,rfl,iteF ?_⟩;refine Zca<|Zbk<|Zas<|Zab<|Za7 (by decide)<|Zdh rfl (Zdj b _) ⟨?_,λ_=>true,λ_=>.bl true,λj d hd=>?_,?_⟩
 ·rw[Waa];exact small1000 (by omega)
 ·obtain⟨p,_,_,rfl⟩:=Zel hd
  exact Zba ⟨rfl,Zaw<|Zab<|Zac rfl<|Zae ⟨_,_,rfl,rfl,_,rfl⟩⟩
 refine Zae ?_;rw[Waz.mpr (by simp),Wct,Waa,show Wae rs.length (D.bl true)=(Wae rs.length true).map D.bl by rw[Wcp]];refine Zf4 ⟨_,rfl,?_⟩;rw[Zda];refine iteF<|Zaz ?_;refine Zaj<|Za1<|Za8<|Zju<|Zdh rfl (Zdj b _) ⟨λ_ h=>(nomatch h),λi od Δ=>od=.lst (((rowsOf rs).take i).flatten.map .int)/\∃x y:L2.Slot,Δ = [x,y],⟨rfl,_,_,rfl⟩,?_,?_⟩
 ·rintro i d od Δ2 hd ⟨rfl,x,y,rfl⟩
  obtain⟨p,hp,hpm,rfl⟩:=Zel hd;have hg:(rowsOf rs)[i]?=some p.2:=by unfold rowsOf;rw[Wad,hp];rfl
  refine Zb3<|Zdh rfl (Zdj p.1 _) ⟨λj od Δ=>od=.lst ((((rowsOf rs).take i).flatten++p.2.take j).map .int)/\∃y:L2.Slot,Δ = [.val (seqD p.1<|p.2.map .int),y],⟨by rw[Wb6,Wa3],_,rfl⟩,?_,?_⟩
  ·rintro j e od2 Δ5 he ⟨rfl,y,rfl⟩
   rw[Wad]at he;cases z:p.2[j]? with
   |none=>rw[z]at he;cases he
   |some e'=>
    rw[z]at he;cases he;refine Zb3<|Zsm<|Zac rfl ⟨?_,?_,_,rfl⟩
    ·have a1:=Zdz (rowsOf rs) i
     have a2:=hT.row hpm;rw[Waa,Waj,Wbk];exact small1000 (by omega)
    ·rw[Wbi,z,<- Wbe,War (l₂:=(some e').toList)];rfl
  ·rintro od2 Δ5 ⟨rfl,y,rfl⟩
   rw[Waa,Wbo];refine⟨?_,_,_,rfl⟩;rw[Wbi,hg,Wcy];show _=OD.lst ((((rowsOf rs).take i).flatten++[p.2].flatten).map .int);rw[List.flatten_singleton]
 rintro od Δ2 ⟨rfl,x,y,rfl⟩;rw[Waa,show rs.length=(rowsOf rs).length by unfold rowsOf;rw[Waa],Wbo];refine⟨_,rfl,?_⟩;refine Zaj<|Zbn<|Zer<|Zca<|Zbk<|Zas<|Zab<|Za7 (by decide)<|Zcn<|Zac rfl ⟨_,Or.inl rfl,?_,λ_=>true,λ_=>.bl true,λj d hd=>?_,?_⟩
 ·rw[Waa];exact small1000 (by omega)
 ·rw[Wad]at hd
  cases z:(rowsOf rs).flatten[j]? with
  |none=>rw[z]at hd;cases hd
  |some x=>
   rw[z]at hd;cases hd;exact Zba ⟨rfl,Zaw<|Zab<|Zac rfl<|Zae ⟨_,rfl,rfl,_,rfl⟩⟩
 refine Zae ?_;rw[Waz.mpr (by simp),Wct,Waa,show Wae (rowsOf rs).flatten.length (D.bl true)=(Wae (rowsOf rs).flatten.length true).map D.bl by rw[Wcp]];refine Zf4 ⟨_,rfl,?_⟩;rw[Zda];refine iteF ?_;refine Zay<|Zam<|Za8<|Zld<|Zab<|Zac rfl<|Zae ⟨_,rfl,by omega,λms m1 m2=>⟨_,rfl,?_⟩⟩;rw[Zhr hT.u.nd hT.u.mem m1 m2];refine Za8<|Zqm<|Zab<|Zas<|Zab<|Zac rfl<|Zae<|Zb8 (Or.inl rfl) (n:=2*m) (by rw[Waa];exact h3)<|Zae ⟨2*m,rfl,by omega,_,rfl,?_⟩;rw[show ((Waq (2*m)).map λi:Nat=>D.int (i:Int))=((Waq (2*m)).map λi:Nat=>(i:Int)).map D.int by rw[Wal];rfl];refine Zsh ⟨_,rfl,iteF<|Zaz ?_⟩;refine Zaj<|Zbn<|Zer<|Zay<|Zam<|Zam<|Zas<|Zab<|Zac rfl<|Zae<|Zb8 (Or.inl rfl) (n:=2*m) (by rw[Waa];exact h3)<|Zak<|jr_I (by show (0:Int)<2;omega)<|Zak<|Zeq ⟨false,congrArg D.bl (decide_eq_false<|by omega),iteF ?_⟩;refine Zay<|Zam<|Zas<|Zab<|Zac rfl<|Zae<|Zb8 (Or.inl rfl) (n:=2*m) (by rw[Waa];exact h3)<|Zam<|Zak<|Zak<|jr_I (Or.inl ⟨by omega,by omega⟩)<|Zne ⟨false,congrArg D.bl (decide_eq_false<|by omega),iteF<|Zaz ?_⟩;refine Zfx<|Zeo (by decide)<|Zdh rfl (Zdj b _) ⟨?_,λ_=>true,λd=>match d with|.lst ds=>encRow (lf<|intsOf ds)|.tup ds=>encRow (lf<|intsOf ds)|d=>d,λj d hd=>?_,?_⟩
 ·rw[Waa];exact small1000 (by omega)
 ·obtain⟨p,_,hpm,rfl⟩:=Zel hd
  have a2:=hT.row hpm;refine Zba ⟨rfl,Zaw<|Zab<|Zac rfl<|Zae ⟨p.1,p.2,rfl,by omega,?_,_,rfl⟩⟩;cases hb:p.1 <;> (show _=encRow (lf<|intsOf<|p.2.map .int);rw[Zbr])
 rw[Waz.mpr (by simp),Wal];unfold lfs rowsOf at q;rw[Wal,Wal]at q;refine⟨_,rfl,cast (congrArg Post (Wa4 λp _=>?_)) q⟩;obtain⟨b',r'⟩:=p;cases b' <;> (show encRow (lf r')=encRow (lf<|intsOf<|r'.map .int);rw[Zbr])
def fEnds:NSp:=λds Post=>∃n ts,∃p:Int,ds=[encWeb n ts,.int p]/\ts.length<=24/\Post ((endsBelow ts (2*ts.length) p).map .int)
theorem Zgv (ts:List (Int × Int)) (m:Nat) (p:Int) (q:D->Bool) (hq:∀k:Nat,q (.int (0+(k:Int)))=decide (placeAt ts k=p)):(rngD 0 m).filter q=(endsBelow ts m p).map .int:=by
 unfold rngD endsBelow;rw[Wdp,Wal];have e:(q∘λi:Nat=>D.int (0+(i:Int)))=λe=>decide (placeAt ts e=p):=by
  funext k;exact hq k
 rw[e];apply Wa4;intro k _;show D.int (0+(k:Int))=D.int (k:Int);rw[Wb5]
theorem Zmu (mb:Mb mg) (C67:Callee P w K mg base 1 "place_of" ["web","end"] (spD K fPlace)) (F:Fun K "ends_at" "ends_at" Yax f fd):FnOk P w K mg base CX0 2 f fd ["web","place"] (spN K fEnds):=by
 refine F.ok Ybx (Zfr λds Post h=>by obtain⟨_,_,_,rfl,_⟩:=h;rfl) λcdv A outer s H vs Q E hr h=>?_;have hu:=Zbv hr;refine⟨_,(Zai<|Zau<|Za3 ["end"] (show CompSc (defScope Yax) ["web","place"] _ ["web","place"] [0,1] from ⟨rfl,by decide +kernel,by decide +kernel,by decide +kernel,rfl,by decide +kernel⟩) rfl (Zbg rfl (mb "range"<|by decide)<|Zaa (Zax Zcl Zag<|Zah (lenK K) rfl (mb "len"<|by decide) Za5<|Zaa (Zbe (ixK K hu) (pv 0) Zag λ_ _=>rfl) Zad) Zad) (λ_ _ _ _ _=>(Zal (i:=0) (show List.Nodup (["end","web","place"]:List Str) from by decide) rfl<|Or.inl rfl)) (λ_ _ _ _ _=>(Ze2<|Zao Zbm (Zav C67 (hr.mono<|by decide)<|Zaa (pv 1)<|Zaa (pv 0) Zad) (pv 2)<|nomark _)) λ_ _ _ _ _=>(pv 0)),Zmw (λds Post hf=>?_) h⟩;obtain⟨n,ts,p,rfl,hl,q⟩:=hf;refine⟨by simp,?_⟩;dsimp only[startD,Wbj,Wbn,Wa9];refine Zfx<|Zeo (by decide)<|Zbi ?_;refine Zab<|Zam<|Zak<|Zas ?_;refine Zab<|Zam<|Zac rfl<|Zak<|Za6 (d:=.tup<|ts.map encTie) rfl ?_;refine Zae<|Zbl (Or.inr rfl) ?_;rw[Waa];refine jr_I (Or.inl ⟨by omega,by omega⟩)<|Zae ⟨_,rfl,by omega,by omega,?_⟩;have eL:((2:Int)*(ts.length:Int)).toNat=2*ts.length:=by omega
 rw[eL];refine⟨by rw[Zbc];exact small1000 (by omega),λd=>match d with|.int e=>decide (placeAt ts e.toNat=p)|_=>false,λd=>d,λi d hd=>?_,?_⟩
 ·obtain⟨hi,rfl⟩:=Zb5 hd
  refine Zay<|Zam<|Zaw<|Zab<|Zac rfl<|Zab<|Zac rfl<|Zae ⟨n,ts,i,by rw[Wb5],hi,?_⟩;refine Zac rfl<|Zeq ⟨_,rfl,?_,?_⟩
  ·show _=decide (placeAt ts (0+(i:Int)).toNat=p)
   rw[Wb5,Wa7]
  ·by_cases hp:placeAt ts i=p
   ·rw[decide_eq_true hp,if_pos rfl];exact Zac rfl ⟨rfl,_,rfl⟩
   ·rw[decide_eq_false hp,if_neg Wam];exact⟨_,rfl⟩
 ·rw[Wed,Zgv ts _ p _ λk=>by show decide (placeAt ts (0+(k:Int)).toNat=p)=_;rw[Wb5,Wa7]]
  exact⟨_,rfl,q⟩
theorem Zf1 (ds:List D):cutD ds none (some 1)=ds.take 1:=by
 unfold cutD;show (ds.drop 0).take (min (Int.toNat 1) ds.length-0)=_;rw[Wc7,Wd0];cases ds with
 |nil=>rfl
 |cons x t=>rfl
theorem Zfi (n:Int) (ts:List (Int × Int)):atI [D.int n,D.tup (ts.map encTie)] 1=some (.tup<|ts.map encTie):=rfl
end
def fRowOf:DSp:=λds Post=>∃(es r:List Int),ds=[.lst (es.map .int),.tup (r.map .int)]/\r.Perm es/\es.Pairwise (· <= ·)/\r.length<=48/\Post (encRow<|lf r)
def fOrdOf:DSp:=λds Post=>∃n ts o,ds=[encWeb n ts,.lst (o.map rowD)]/\WebOk n ts/\OrdOk n ts o/\Post (encOrd o)
def fOrdBy:DSp:=λds Post=>∃(N:Nat) (ts:List (Int × Int)) (o:List (List Int)) (b:Bool) (rs:List (Bool × List Int)),ds=[encWeb N ts,tabD b rs]/\WebOk N ts/\OrdOk N ts o/\TabOk rs ts.length/\(lfs rs).Perm (allF ts o)/\(allF ts o).length<=100/\Post (encOrd o)
theorem Zg4 {o:List (List Int)}{i:Nat}{d:D}(hd:(enD<|o.map rowD)[i]?=some d):∃r,o[i]?=some r/\d=.tup [.int (i:Int),rowD r]:=by
 obtain⟨d',hd',rfl⟩:=Zkb hd;rw[Wad]at hd';cases z:o[i]? with
 |none=>rw[z]at hd';cases hd'
 |some r=>rw[z]at hd';cases hd';exact⟨r,rfl,rfl⟩
def keyOf (r:List Int):List Key:=(r.take 1).map Sum.inl
structure FirstsOk (R:List (List Int)) (kvs:List (List Key × D)):Prop where
 has:∀r∈R,valT kvs (keyOf r)=some (rowD r)
 len:kvs.length<=R.length
theorem Zl7 {R:List (List Int)}{kvs:List (List Key × D)}(h:FirstsOk R kvs) {r:List Int}(hs:∀r'∈R,keyOf r'=keyOf r->r'=r):FirstsOk (R++[r]) (putT kvs (keyOf r)<|rowD r):=by
 refine⟨λr' hr'=>?_,?_⟩
 ·rw[Zk5]
  by_cases e:keyOf r'=keyOf r
  ·rw[if_pos e]
   rcases Wbp.mp hr' with z|z
   ·rw[hs r' z e]
   ·rw[Wbs.mp z]
  ·rw[if_neg e]
   rcases Wbp.mp hr' with z|z
   ·exact h.has r' z
   ·rw[Wbs.mp z]at e;exact absurd rfl e
 ·have:=Zlf kvs (keyOf r) (rowD r)
  have:=h.len;rw[Waj,Wcq];omega
theorem Zv7 {r r':List Int}(h:keyOf r=keyOf r'):r=[]/\r'=[]\/∃x t t',r=x::t/\r'=x::t':=by
 unfold keyOf at h;cases r with
 |nil=>cases r' with
  |nil=>exact Or.inl ⟨rfl,rfl⟩
  |cons y t'=>cases h
 |cons x t=>cases r' with
  |nil=>cases h
  |cons y t'=>
   have h:[(Sum.inl x:Key)]=[Sum.inl y]:=h;cases h;exact Or.inr ⟨x,t,t',rfl,rfl⟩
theorem Zn9 {R:List (List Int)}{m:Nat}(h:Tab R m) {r r':List Int}(hr:r∈R) (hr':r'∈R) (e:keyOf r=keyOf r'):r=r':=by
 rcases Zv7 e with ⟨rfl,rfl⟩|⟨x,t,t',rfl,rfl⟩
 ·rfl
 ·obtain⟨i,hi⟩:=Wbg.mp hr
  obtain⟨j,hj⟩:=Wbg.mp hr';have a:=Znb h.nd hi<|Wat (a:=x);have b:=Znb h.nd hj<|Wat (a:=x);rw[a]at b;rw[b,hj]at hi;exact(Wa6.inj hi).symm
theorem Zq2 {r L:List Int}(h:r.head?=L.head?):keyOf r=(L.take 1).map Sum.inl:=by
 unfold keyOf;cases r <;> cases L <;> simp_all
theorem Zcz {α:Type}(l:List α) (g:α -> List Int):(l.map λx=>(g x).map D.int).countP (·.isEmpty)=(l.filter λx=>(g x).isEmpty).length:=by
 rw[List.countP_map,List.countP_eq_length_filter];congr 1;refine Wc5 λx _=>?_;show ((g x).map D.int).isEmpty=_;cases g x <;> rfl
theorem OrdOk.bare {N:Nat}{ts:List (Int × Int)}{o:List (List Int)}(h:OrdOk (N:Int) ts o):((Waq N).filter λp=>(endsBelow ts (2*ts.length) ((p:Nat):Int)).isEmpty).length=lone o:=by
 have ho:=h.len;have e:o=(Waq N).map λp=>o.getD p []:=by
  apply Wb3;intro i;rw[Wad];by_cases hi:i<N
  ·rw[Wb1 hi,Wab (by omega)]
   show _=some (o.getD i []);rw[Waf,Wab (by omega)];rfl
  ·rw[Wbr (by omega),Wbr (by rw[Wa5];omega)];rfl
 unfold lone
 conv=>rhs;rw[e]
 rw[Wdp,Waa];congr 1;refine Wc5 λp hp=>?_;have hp:=Wav.mp hp;have R:=h.row p (o.getD p []) (by rw[Waf,Wab (by omega)];rfl);have hl:=R.perm.length_eq;show _=(o.getD p []).isEmpty;rw[Wcw,Wdu,Wdu];constructor
 ·intro z;rw[z]at hl;exact Wbv hl
 ·intro z;rw[z]at hl;exact Wbv hl.symm
section
variable {P:Program}{w:World}{K:W.Frag}{mg:Str->Option Value}{base:Heap}{f:Addr}{fd:FuncData}
theorem Zvh (mb:Mb mg) (C59:Callee P w K mg base 1 "floor_by" ["rows"] (spD K fFloor)) (C57:Callee P w K mg base 5 "faces" ["web","order"] (spN K fFaces)) (F:Fun K "rows_told_by" "rows_told_by" Ybe f fd):FnOk P w K mg base CX0 6 f fd ["told"] (spN K fRTB):=by
 refine F.ok Ybo (Zfr λds Post h=>by obtain⟨_,_,rfl,_⟩:=h;rfl) λcdv A outer s H vs Q E hr h=>?_;have hu:=Zbv hr;refine⟨_,(Zaf (Zf5 (Zav C59 (hr.mono<|by decide)<|Zaa (pv 0) Zad)<|gtupK (n:=2) K rfl<|Zct (Zal (i:=1) Ybo.nd rfl<|Or.inl rfl)<|Zct (Zal (i:=2) Ybo.nd rfl<|Or.inl rfl) Zgu)<|Zai<|Zau<|Zav C57 (hr.mono<|by decide)<|Zaa (pv 1)<|Zaa (pv 2) Zad),Zmw (λds Post hf=>?_) h⟩;obtain⟨R,m,rfl,hT,h1,h2,h3,q⟩:=hf;refine⟨by simp,?_⟩;dsimp only[startD,Wbj,Wbn,Wa9,Wae];refine Zaj<|Zwy<|Zaw<|Zab<|Zac rfl<|Zae ⟨R,m,rfl,hT,by omega,h3,Zo3 rfl<|Zeh<|Zb3<|Zeh<|Zb3<|Zj6 ?_⟩;exact Zfx<|Zcq<|Zab<|Zac rfl<|Zab<|Zac rfl<|Zae ⟨_,_,_,rfl,Zdw hT h1 h2 h3,Zdy hT,_,rfl,q⟩
theorem Zrm (mb:Mb mg) (C61:Callee P w K mg base 1 "is_row" ["thing"] (spD K fIsRow)) (C62:Callee P w K mg base 1 "is_whole" ["thing"] (spD K fWhole)) (C63:Callee P w K mg base 1 "least_first" ["ends"] (spD K fLeastU)) (F:Fun K "row_of" "row_of" Yaj f fd):FnOk P w K mg base CX0 2 f fd ["ends","row"] (spD K fRowOf):=by
 refine F.ok Ybt (Zbu λds Post h=>by obtain⟨_,_,rfl,_⟩:=h;rfl) λcdv A outer s H vs Q E hr h=>?_;have hu:=Zbv hr;have hv:=Zg5 hr;refine⟨_,(Zaf (Zbd (PW.pt<|pw_or (Zcj<|truK K (Zav C61 (hr.mono<|by decide)<|Zaa (pv 1) Zad) λ_=>rfl)<|pw_or1<|Zcj<|truK K (Zah (allK K rfl) rfl (mb "all"<|by decide) Zgl<|Zaa (Za3 ["end"] (show CompSc (defScope Yaj) ["ends","row"] _ [] [] from ⟨rfl,by decide +kernel,by decide +kernel,by decide +kernel,rfl,by decide +kernel⟩) rfl (seqK K<|pv 1) (λ_ _ _ _ _=>(Zal (i:=0) (show List.Nodup (["end"]:List Str) from by decide) rfl<|Or.inl rfl)) (λ_ _ _ _ _=>Zbb) λ_ _ _ _ _=>(Zav C62 (hr.mono<|by decide)<|Zaa (pv 0) Zad)) Zad) λ_=>rfl) Zcv Zar)<|Zaf (Zbd (Zao (neIK K hv) (Zah (sortTK K) rfl (mb "sorted"<|by decide) Zc6<|Zaa (pv 1) Zad) (pv 0)<|nomark _) Zcv Zar)<|Zai<|Zau<|Zav C63 (hr.mono<|by decide)<|Zaa (pv 1) Zad),Zdt (λds Post hf=>?_) h⟩;obtain⟨es,r,rfl,hp,hs,hl,q⟩:=hf;refine⟨by simp,?_⟩;dsimp only[startD,Wbj,Wbn,Wa9,Wae];refine Zaj<|Zbn<|Zer<|Zca<|Zbk<|Zaw<|Zab<|Zac rfl<|Zae ⟨false,_,rfl,_,rfl,iteF ?_⟩;refine Zca<|Zbk<|Zas<|Zab<|Za7 (by decide)<|Ze1<|Zac rfl ⟨_,rfl,?_,λ_=>true,λ_=>.bl true,λj d hd=>?_,?_⟩
 ·rw[Waa];exact small1000 (by omega)
 ·rw[Wad]at hd
  cases z:r[j]? with
  |none=>rw[z]at hd;cases hd
  |some x=>
   rw[z]at hd;cases hd;exact Zba ⟨rfl,Zaw<|Zab<|Zac rfl<|Zae ⟨_,rfl,rfl,_,rfl⟩⟩
 refine Zae ?_;rw[Waz.mpr (by simp),Wct,Waa,show Wae r.length (D.bl true)=(Wae r.length true).map D.bl by rw[Wcp]];refine Zf4 ⟨_,rfl,?_⟩;rw[Zda];refine iteF<|Zaz ?_;refine Zaj<|Zbn<|Zay<|Zam<|Za8<|Ziu<|Zab<|Zac rfl<|Zae ⟨_,rfl,by omega,λms m1 m2=>⟨_,rfl,Zac rfl ?_⟩⟩;have em:ms=es:=List.Perm.eq_of_pairwise (le:=λa b=>a<=b) (λa b _ _ h1 h2=>by omega) m2 hs<|m1.trans hp;rw[em];refine Zsh ⟨_,rfl,iteF<|Zaz ?_⟩;exact Za0<|Zaw<|Zab<|Zac rfl<|Zae ⟨false,r,rfl,by omega,q⟩
theorem Zr8 (mb:Mb mg) (C61:Callee P w K mg base 1 "is_row" ["thing"] (spD K fIsRow)) (C55:Callee P w K mg base 2 "ends_at" ["web","place"] (spN K fEnds)) (C68:Callee P w K mg base 2 "row_of" ["ends","row"] (spD K fRowOf)) (F:Fun K "order_of" "order_of" Yai f fd):FnOk P w K mg base CX0 3 f fd ["web","rows"] (spD K fOrdOf):=by
 refine F.ok Ybs (Zbu λds Post h=>by obtain⟨_,_,_,rfl,_⟩:=h;rfl) λcdv A outer s H vs Q E hr h=>?_;have hu:=Zbv hr;refine⟨_,(Zaf (Zbd (PW.pt<|pw_or (Zcj<|truK K (Zav C61 (hr.mono<|by decide)<|Zaa (pv 1) Zad) λ_=>rfl)<|pw_or1<|Zao Zez (Zah (lenK K) rfl (mb "len"<|by decide) Za5<|Zaa (pv 1) Zad) (Zbe (ixK K hu) (pv 0) Zag λ_ _=>rfl)<|nomark _) Zcv Zar)<|Zai<|Zau<|Za2 (tupK K) rfl (mb "tuple"<|by decide) Za9<|Zaa (Za3 ["place","row"] (show CompSc (defScope Yai) ["web","rows"] _ ["web"] [0] from ⟨rfl,by decide +kernel,by decide +kernel,by decide +kernel,rfl,by decide +kernel⟩) rfl (Zea K rfl (mb "enumerate"<|by decide)<|Zaa (pv 1) Zad) (λ_ _ _ _ _=>(gtupK (n:=2) K rfl<|Zct (Zal (i:=0) (show List.Nodup (["place","row","web"]:List Str) from by decide) rfl<|Or.inl rfl)<|Zct (Zal (i:=1) (show List.Nodup (["place","row","web"]:List Str) from by decide) rfl<|Or.inl rfl) Zgu)) (λ_ _ _ _ _=>Zbb) λ_ _ _ _ _=>(Zav C68 (hr.mono<|by decide)<|Zaa (Zav C55 (hr.mono<|by decide)<|Zaa (pv 2)<|Zaa (pv 0) Zad)<|Zaa (pv 1) Zad)) Zad),Zdt (λds Post hf=>?_) h⟩;obtain⟨n,ts,o,rfl,hW,hO,q⟩:=hf;refine⟨by simp,?_⟩;dsimp only[startD,Wbj,Wbn,Wa9,Wae];have ho:=hO.len;have hn:=hW.hi;have hl:=hW.len;refine Zaj<|Zbn<|Zer<|Zca<|Zbk<|Zaw<|Zab<|Zac rfl<|Zae ⟨true,_,rfl,_,rfl,iteF ?_⟩;refine Zay<|Zam<|Zas<|Zab<|Zac rfl<|Zae<|Zb8 (Or.inl rfl) (Waa _)<|Zam<|Zac rfl<|Zak<|Za6 (d:=.int n) rfl<|Zha ⟨_,rfl,?_⟩;rw[decide_eq_true ho];refine iteF<|Zaz ?_;refine Za0<|Zas<|Zab<|Zio (by decide)<|Zkn<|Zab<|Zac rfl<|Zae ⟨_,Or.inl rfl,?_,λ_=>true,λd=>match d with|.tup [_,r]=>r|d=>d,λi d hd=>?_,?_⟩
 ·rw[Zfy,Waa];exact small1000 (by omega)
 ·obtain⟨r,hr,rfl⟩:=Zg4 hd
  have R:=hO.row i r hr;have rl:=R.len;refine⟨_,_,rfl,Zba ⟨rfl,Zaw<|Zab<|Za8<|Zcq<|Zab<|Zac rfl<|Zab<|Zac rfl<|Zae ⟨n,ts,(i:Int),rfl,hl,_,rfl,Zab<|Zac rfl<|Zae ⟨_,r,rfl,R.perm,(Zcw _ _ _).imp λh=>Wd1 h,by omega,?_,_,_,rfl⟩⟩⟩⟩;show encRow (lf r)=rowD r;rw[Zvc R];rfl
 have e1:((enD<|o.map rowD).filter λ_=>true).map (λd=>match d with|.tup [_,r]=>r|d=>d)=o.map rowD:=by
  rw[Waz.mpr (by simp)];apply Wb3;intro i;rw[Wad];cases z:(enD<|o.map rowD)[i]? with
  |none=>
   have:=List.getElem?_eq_none_iff.mp z;rw[Zfy]at this;rw[Wbr this];rfl
  |some d=>
   obtain⟨r,hr,rfl⟩:=Zg4 z;rw[Wad,hr];rfl
 rw[e1];exact Zae<|Zcf (Or.inl rfl) q
theorem Zh9:∀R:List (List Int),(R.map λr=>(r.length:Int)).sum=(R.flatten.length:Int)
 |[]=>rfl
 |r::R=>by rw[Wa1,List.sum_cons,Zh9 R,Wbb,Waj];omega
theorem Zrj (mb:Mb mg) (C58:Callee P w K mg base 2 "faces_of_table" ["table"] (spN K fFoT)) (C55:Callee P w K mg base 2 "ends_at" ["web","place"] (spN K fEnds)) (C69:Callee P w K mg base 6 "rows_told_by" ["told"] (spN K fRTB)) (C66:Callee P w K mg base 3 "order_of" ["web","rows"] (spD K fOrdOf)) (F:Fun K "order_by" "order_by" Yad f fd):FnOk P w K mg base CX0 7 f fd ["web","table"] (spD K fOrdBy):=by
 refine F.ok Yaf (Zbu λds Post h=>by obtain⟨_,_,_,_,_,rfl,_⟩:=h;rfl) λcdv A outer s H vs Q E hr h=>?_;have hu:=Zbv hr;have hv:=Zg5 hr;refine⟨_,(Zaf (Zaq (i:=2) Yaf.nd rfl (Or.inl rfl)<|Zav C58 (hr.mono<|by decide)<|Zaa (pv 1) Zad)<|Zaf (Zdf (i:=3) ["place"] (show CompSc (defScope Yad) ["web","table","told","ends","firsts"] _ ["web"] [0] from ⟨rfl,by decide +kernel,by decide +kernel,by decide +kernel,rfl,by decide +kernel⟩) rfl Yaf.nd rfl (Or.inl rfl) (Zbg rfl (mb "range"<|by decide)<|Zaa (Zbe (ixK K hu) (pv 0) Zag λ_ _=>rfl) Zad) (λ_ _ _ _ _=>(Zal (i:=0) (show List.Nodup (["place","web"]:List Str) from by decide) rfl<|Or.inl rfl)) (λ_ _ _ _ _=>Zbb) λ_ _ _ _ _=>(Zav C55 (hr.mono<|by decide)<|Zaa (pv 1)<|Zaa (pv 0) Zad))<|Zaf (Zbd (Zao Zez (Zah (sumK K rfl) rfl (mb "sum"<|by decide) Zpp<|Zaa (Za3 ["face"] (show CompSc (defScope Yad) ["web","table","told","ends","firsts"] _ [] [] from ⟨rfl,by decide +kernel,by decide +kernel,by decide +kernel,rfl,by decide +kernel⟩) rfl (seqK K<|pv 2) (λ_ _ _ _ _=>(Zal (i:=0) (show List.Nodup (["face"]:List Str) from by decide) rfl<|Or.inl rfl)) (λ_ _ _ _ _=>Zbb) λ_ _ _ _ _=>(Zah (lenK K) rfl (mb "len"<|by decide) Za5<|Zaa (pv 0) Zad)) Zad) (Zax Zcl Zag<|Zah (lenK K) rfl (mb "len"<|by decide) Za5<|Zaa (Zbe (ixK K hu) (pv 0) Zag λ_ _=>rfl) Zad)<|nomark _) Zcv Zar)<|Zaf (Zbd (Zao Zez (bmK K PySem.F.plainAttrs_list PySem.F.slot_list_count PySem.F.type_list_count (count0K K hv) (pv 2)<|Zaa (Zbq Zad) Zad) (bmK K PySem.F.plainAttrs_list PySem.F.slot_list_count PySem.F.type_list_count (count0K K hv) (pv 3)<|Zaa (Zc9 Zad) Zad)<|nomark _) Zcv Zar)<|Zaf (Zaq (i:=4) Yaf.nd rfl (Or.inr rfl)<|Zi9 ["row"] (show CompSc (defScope Yad) ["web","table","told","ends","firsts"] _ [] [] from ⟨rfl,by decide +kernel,by decide +kernel,by decide +kernel,rfl,by decide +kernel⟩) rfl hu (seqK K<|Zav C69 (hr.mono<|by decide)<|Zaa (pv 2) Zad) (λ_ _ _ _ _=>(Zal (i:=0) (show List.Nodup (["row"]:List Str) from by decide) rfl<|Or.inl rfl)) (λ_ _ _ _ _=>(Zbo (slK K) (pv 0) Zcc<|Zcd Zag)) λ_ _ _ _ _=>(pv 0))<|Zai<|Zau<|Zav C66 (hr.mono<|by decide)<|Zaa (pv 0)<|Zaa (Za3 ["own"] (show CompSc (defScope Yad) ["web","table","told","ends","firsts"] _ ["firsts"] [4] from ⟨rfl,by decide +kernel,by decide +kernel,by decide +kernel,rfl,by decide +kernel⟩) rfl (seqK K<|pv 3) (λ_ _ _ _ _=>(Zal (i:=0) (show List.Nodup (["own","firsts"]:List Str) from by decide) rfl<|Or.inl rfl)) (λ_ _ _ _ _=>Zbb) λ_ _ _ _ _=>(bmK K PySem.F.plainAttrs_dict PySem.F.slot_dict_get PySem.F.type_dict_get (Zny hu) (pv 1)<|Zaa (Za2 (tupK K) rfl (mb "tuple"<|by decide) Za9<|Zaa (Zbo (slK K) (pv 0) Zcc<|Zcd Zag) Zad)<|Zaa (Zbq Zad) Zad)) Zad),Zdt (λds Post hf=>?_) h⟩;obtain⟨N,ts,o,b,rs,rfl,hW,hO,hT,hP,h80,q⟩:=hf;refine⟨by simp,?_⟩;dsimp only[startD,Wbj,Wbn,Wa9,Wae];have ll:=Zoi rs;have l1:=hT.len;have l2:=hT.pos;have l3:=hW.len;have l4:=hW.hi;have l5:=hW.lo;have ho:=hO.len;have pm:=Zl4 hW hO h80 hP;have W:=Zdw hT.tab (by omega) (by omega) hT.ties;have O:=Zdy hT.tab;have T2:=Zb4 W O;rw[Zbz]at T2;have lo:=hP.length_eq;refine Zaj<|Za1<|Za8<|Zcq<|Zab<|Zac rfl<|Zae ⟨b,rs,ts.length,rfl,hT,_,rfl,?_⟩;refine Zaj<|Za1<|Za7 (by decide)<|Zbi<|Zab<|Zam<|Zac rfl<|Zak<|Za6 (d:=.int N) rfl<|Zae ⟨_,rfl,by omega,by omega,?_,λ_=>true,λd=>match d with|.int p=>.lst ((endsBelow ts (2*ts.length) p).map .int)|d=>d,λi d hd=>?_,?_⟩
 ·rw[Zbc];exact small1000 (by omega)
 ·obtain⟨hi,rfl⟩:=Zb5 hd
  exact Zba ⟨rfl,Za8<|Zcq<|Zab<|Zac rfl<|Zab<|Zac rfl<|Zae ⟨(N:Int),ts,_,rfl,l3,_,rfl,rfl,_,rfl⟩⟩
 have e1:((rngD 0 (N:Int).toNat).filter λ_=>true).map (λd=>match d with|.int p=>D.lst ((endsBelow ts (2*ts.length) p).map .int)|d=>d)=(Waq N).map λp=>D.lst ((endsBelow ts (2*ts.length) ((p:Nat):Int)).map .int):=by
  rw[Waz.mpr (by simp),Wa7];unfold rngD;rw[Wal];refine Wa4 λp _=>?_;show D.lst ((endsBelow ts (2*ts.length) (0+(p:Int))).map .int)=_;rw[Wb5]
 rw[e1];refine Zaj<|Zbn<|Zay<|Zam<|Zas<|Zab<|Za7 (by decide)<|Zcn<|Zac rfl ⟨_,Or.inl rfl,?_,λ_=>true,λd=>match d with|.tup ds=>.int (ds.length:Nat)|d=>d,λj d hd=>?_,?_⟩
 ·rw[Waa];exact small1000 (by omega)
 ·rw[Wad]at hd
  cases z:(lfs rs)[j]? with
  |none=>rw[z]at hd;cases hd
  |some r=>
   rw[z]at hd;cases hd;exact Zba ⟨rfl,Zas<|Zab<|Zac rfl<|Zae<|Zbl (Or.inr rfl) ⟨rfl,_,rfl⟩⟩
 have e2:(((lfs rs).map rowD).filter λ_=>true).map (λd=>match d with|.tup ds=>D.int (ds.length:Nat)|d=>d)=((lfs rs).map λr=>(r.length:Int)).map D.int:=by
  rw[Waz.mpr (by simp),Wal,Wal];refine Wa4 λr _=>?_;show D.int ((r.map D.int).length:Nat)=D.int (r.length:Int);rw[Waa]
 rw[e2];refine Zae<|Zn3 ?_;rw[Zh9,hT.tab.len];refine Zam<|Zak<|Zas<|Zab<|Zam<|Zac rfl<|Zak<|Za6 (Zfi (N:Int) ts)<|Zae<|Zb8 (Or.inr rfl) (Waa _)<|jr_I (Or.inl ⟨by omega,by omega⟩)<|Zha ⟨_,rfl,?_⟩;rw[decide_eq_true (show ((2*ts.length:Nat):Int)=2*(ts.length:Int) by omega)];refine iteF<|Zaz ?_;refine Zaj<|Zbn<|Zay<|Zam<|Zed false<|Zac rfl ⟨(lfs rs).map λr=>r.map D.int,by rw[Wal];rfl,Zbs<|Zae ⟨by decide,rfl,?_⟩⟩;refine Zed true<|Zac rfl ⟨(Waq N).map λp=>(endsBelow ts (2*ts.length) ((p:Nat):Int)).map D.int,by rw[Wal];rfl,Zf6<|Zae ⟨by decide,rfl,?_⟩⟩;rw[Zcz,Zcz,hO.bare,show ((lfs rs).filter λr=>r.isEmpty).length=lone o from (Zfd hP).trans (Zgt hW hO)];refine Zha ⟨_,rfl,?_⟩;rw[decide_eq_true rfl];refine iteF<|Zaz ?_;refine Zaj<|Zb2<|Zgc (od0:=.dtt []) (λ_=>.nil)<|Zcn<|Za8<|Zcq<|Zab<|Zac rfl<|Zae ⟨lfs rs,ts.length,rfl,hT.tab,by omega,by omega,hT.ties,_,rfl,_,Or.inl rfl,λ_ h=>(nomatch h),λi od Δ=>∃kvs,od=.dtt kvs/\FirstsOk ((allF (dualT (lfs rs) ts.length)<|lfs rs).take i) kvs/\∃x:L2.Slot,Δ = [x],⟨[],rfl,⟨λr hr=>(by rw[Wb6]at hr;cases hr),Wbx _⟩,_,rfl⟩,?_,?_⟩
 ·rintro i d od Δ2 hd ⟨kvs,rfl,hk,x,rfl⟩
  rw[Wad]at hd;cases z:(allF (dualT (lfs rs) ts.length)<|lfs rs)[i]? with
  |none=>rw[z]at hd;cases hd
  |some r=>
   rw[z]at hd;cases hd;have hlt:=(Wag.mp z).1;have kl:=hk.len;rw[Wbk]at kl;have pl:=pm.length_eq;refine Zb3<|Zpa<|Zep<|Zac rfl<|Zcb<|Zce<|Zak ⟨_,rfl,.tup ((r.take 1).map D.int),?_,r.take 1,rfl,Zac rfl ⟨small1000 (by omega),_,rfl,?_,_,rfl⟩⟩
   ·show some (D.tup<|cutD (r.map D.int) none<|some 1)=_
    rw[Zf1,Wcj]
   ·rw[Wbi,z]
    exact Zl7 hk λr' hr' e=>Zn9 T2 (List.mem_of_mem_take hr') (Wai z) e
 rintro od Δ2 ⟨kvs,rfl,hk,x,rfl⟩;rw[Waa,Wbo]at hk;refine Za0<|Zaw<|Zab<|Zac rfl<|Zab<|Za7 (by decide)<|Zcn<|Zac rfl ⟨_,Or.inl rfl,?_,λ_=>true,λd=>match d with|.lst es=>(valT kvs (((intsOf es).take 1).map Sum.inl)).getD (.tup [])|d=>d,λi d hd=>?_,?_⟩
 ·rw[Waa,Wa5];exact small1000 (by omega)
 ·rw[Wad]at hd
  cases z:(Waq N)[i]? with
  |none=>rw[z]at hd;cases hd
  |some p=>
   rw[z]at hd;cases hd;refine Zba ⟨rfl,Zpl rfl rfl<|Zas<|Zab<|Zep<|Zac rfl<|Zcb<|Zce<|Zak ⟨_,rfl,.lst (((endsBelow ts (2*ts.length) ((p:Nat):Int)).take 1).map D.int),?_,Zae<|Zcf (Or.inl rfl)<|Zbs<|Zae ⟨by decide,_,kvs,(endsBelow ts (2*ts.length) ((p:Nat):Int)).take 1,rfl,rfl,rfl,?_,_,rfl⟩⟩⟩
   ·show some (D.lst<|cutD ((endsBelow ts (2*ts.length) ((p:Nat):Int)).map D.int) none<|some 1)=_
    rw[Zf1,Wcj]
   ·show _=(valT kvs (((intsOf ((endsBelow ts (2*ts.length) ((p:Nat):Int)).map D.int)).take 1).map Sum.inl)).getD (.tup [])
    rw[Zbr]
 have e3:(((Waq N).map λp=>D.lst ((endsBelow ts (2*ts.length) ((p:Nat):Int)).map .int)).filter λ_=>true).map (λd=>match d with|.lst es=>(valT kvs (((intsOf es).take 1).map Sum.inl)).getD (.tup [])|d=>d)=o.map rowD:=by
  rw[Waz.mpr (by simp),Wal];apply Wb3;intro i;rw[Wad,Wad];by_cases hi:i<N
  ·have hg:o[i]?=some (o.getD i []):=by rw[Waf,Wab (by omega)];rfl
   have R:=hO.row i _ hg;rw[Wb1 hi,hg];show some ((valT kvs (((intsOf ((endsBelow ts (2*ts.length) ((i:Nat):Int)).map D.int)).take 1).map Sum.inl)).getD (.tup []))=some (rowD<|o.getD i []);rw[Zbr,<- Zq2 R.first,hk.has _ (pm.mem_iff.mpr<|Wai hg)];rfl
  ·rw[Wbr (by rw[Wa5];omega),Wbr (by omega)];rfl
 rw[e3];exact Zae ⟨(N:Int),ts,o,rfl,hW,hO,q⟩
end
def Turned (rs:List (Bool × List Int)) (R:List (List Int)):Prop:=rs.length=R.length/\∀(i:Nat) p r,rs[i]?=some p->R[i]?=some r->∃j,p.2=rotAt r j
def fDealt:BSp:=λps ds Post=>Pen ps/\∃R:List (List Int),ds=[.lst (R.map rowD)]/\R.length<=150/\(∀r∈R,r.length<=48)/\∀b rs R' ps',Pen ps' -> R'.Perm R->Turned rs R' -> Post (tabD b rs) ps'
def rowInts:D->List Int
 |.tup ds=>intsOf ds
 |_=>[]
theorem Zn6 {ys:List D}{R:List (List Int)}(h:ys.Perm (R.map rowD)):∃R':List (List Int),ys=R'.map rowD/\R'.Perm R:=by
 have inv:∀r:List Int,rowInts (rowD r)=r:=λr=>Zbr r;refine⟨ys.map rowInts,?_,?_⟩
 ·rw[Wal]
  conv=>lhs;rw[<- Wd4 ys]
  refine Wa4 λd hd=>?_;obtain⟨r,_,rfl⟩:=Was.mp<|h.mem_iff.mp hd;show rowD r=rowD (rowInts<|rowD r);rw[inv]
 ·have:=h.map rowInts
  rw[Wal]at this;refine this.trans<|List.Perm.of_eq ?_;exact(Wa4 λr _=>inv r).trans (Wd4 _)
theorem Zkq {rs:List (Bool × List Int)}{R:List (List Int)}{r:List Int}(h:Turned rs R) (c:Bool) (j:Nat):Turned (rs++[(c,rotAt r j)]) (R++[r]):=by
 refine⟨by rw[Waj,Waj,h.1];rfl,λi p r' hp hr=>?_⟩;by_cases hi:i<rs.length
 ·rw[Wbm hi]at hp
  rw[Wbm (by rw[<- h.1];exact hi)]at hr;exact h.2 i p r' hp hr
 ·rw[Wbc (by omega)]at hp
  rw[Wbc (by have:=h.1;omega)]at hr;rw[<- h.1]at hr;cases e:i-rs.length with
  |zero=>rw[e]at hp hr;cases hp;cases hr;exact⟨j,rfl⟩
  |succ k=>rw[e]at hp;cases hp
theorem Zhv {rs:List (Bool × List Int)}{R:List (List Int)}{m:Nat}(h:Turned rs R) (hT:Tab R m):lfs rs=R:=by
 unfold lfs rowsOf;rw[Wal];apply Wb3;intro i;rw[Wad];cases z:rs[i]? with
 |none=>
  have:=List.getElem?_eq_none_iff.mp z;rw[Wbr (by rw[<- h.1];exact this)];rfl
 |some p=>
  have hi:=(Wag.mp z).1;have hr:R[i]?=some (R[i]'(by rw[<- h.1];exact hi)):=Wab _;obtain⟨j,hj⟩:=h.2 i p _ z hr;rw[hr];have hm:=Wai hr;show some (lf p.2)=_;rw[hj,Znr (hT.nd.sublist<|Wbz hm) (hT.lst _ hm)]
theorem Zr4 {rs:List (Bool × List Int)}{R:List (List Int)}{m:Nat}(h:Turned rs R) (hT:Tab R m) (h1:1<=R.length) (h2:R.length<=100) (h3:m<=24):TabOk rs m:=
 ⟨hT.u.perm (by rw[<- Zhv h hT];exact Zd8 _),by rw[h.1];exact h2,by rw[h.1];exact h1,h3⟩
section
variable {P:Program}{w:World}{K:W.Frag}{mg:Str->Option Value}{base:Heap}{f:Addr}{fd:FuncData}
theorem Zql (mb:Mb mg) (C46:Callee P w K mg base 2 "_law_mixed" ["_law_pen_here","_law_things"] (spB K fMixed)) (C40:Callee P w K mg base 1 "_law_draw" ["_law_pen_here","_law_many"] (spB K fDraw)) (F:Fun K "_law_dealt" "_law_dealt" Ybl f fd):FnOk P w K mg base CX0 3 f fd ["_law_pen_here","_law_rows_here"] (spB K fDealt):=by
 refine F.ok Yaq (Zdi λps ds Post h=>by obtain⟨_,_,rfl,_⟩:=h;rfl) λcdv A outer s H vs Q E hr h=>?_;have hu:=Zbv hr;refine⟨_,(Zaf (Zaq (i:=2) Yaq.nd rfl (Or.inl rfl)<|Zc9 Zad)<|Zaf (Zd3 PassesOwn.never rfl (seqK K<|Zav C46 (hr.mono<|by decide)<|Zaa (pv 0)<|Zaa (pv 1) Zad) (Zal (i:=3) Yaq.nd rfl<|Or.inl rfl)<|Zaf (Zaq (i:=4) Yaq.nd rfl (Or.inl rfl)<|Zav C40 (hr.mono<|by decide)<|Zaa (pv 0)<|Zaa (Zah (Zjb rfl) rfl (mb "max"<|by decide) Zsl<|Zaa Zag<|Zaa (Zah (lenK K) rfl (mb "len"<|by decide) Za5<|Zaa (pv 3) Zad) Zad) Zad)<|Zaf (Zaq (i:=5) Yaq.nd rfl (Or.inl rfl)<|Zax (addK K) (Zbo (slK K) (pv 3) (Zcd<|pv 4) Zcc)<|Zbo (slK K) (pv 3) Zcc<|Zcd<|pv 4)<|Zaf (Zbd (Zao Zbm (Zav C40 (hr.mono<|by decide)<|Zaa (pv 0)<|Zaa Zag Zad) Zag<|nomark _) (Zai<|Zaq (i:=5) Yaq.nd rfl (Or.inl rfl)<|Za2 (lstK K) rfl (mb "list"<|by decide) Zfw<|Zaa (pv 5) Zad) Zar)<|Zai<|Zc5<|bmK K PySem.F.plainAttrs_list PySem.F.slot_list_append PySem.F.type_list_append Zb9 (pv 2)<|Zaa (pv 5) Zad)<|Zaf (Zbd (Zao Zbm (Zav C40 (hr.mono<|by decide)<|Zaa (pv 0)<|Zaa Zag Zad) Zag<|nomark _) (Zai<|Zau<|Za2 (tupK K) rfl (mb "tuple"<|by decide) Za9<|Zaa (pv 2) Zad) Zar)<|Zai<|Zau<|pv 2),Zhc (λps ds Post hf=>?_) h⟩;obtain⟨hp,R,rfl,hl,hrl,q⟩:=hf;refine⟨by simp,?_⟩;dsimp only[cxOf,startD,Wbj,Wbn,Wa9,Wae];refine Zaj<|Zb2<|Zfh<|Zae ⟨by decide,?_⟩;refine Zb6 (λΔ=>∃(psx:List D) (rs:List (Bool × List Int)) (R':List (List Int)) (x3 x4 x5:L2.Slot),Pen psx/\R'.Perm R/\Turned rs R' /\ Δ = [.bor (.lst psx),.val (.lst<|R.map rowD),.own (.lst (rs.map λp=>seqD p.1<|p.2.map .int)),x3,x4,x5]) ?_ ?_
 ·refine Zd5 (Zcn<|Zbj rfl rfl<|Zab<|Zac rfl<|Zae ⟨_,_,rfl,rfl,hp,_,rfl,by rw[Waa];exact hl,λys ps1 hp1 hy=>?_⟩)
  obtain⟨R',rfl,hR⟩:=Zn6 hy;have hRl:=hR.length_eq;refine⟨_,Or.inl rfl,λi Δ=>∃(psx:List D) (rs:List (Bool × List Int)) (x3 x4 x5:L2.Slot),Pen psx/\Turned rs (R'.take i) /\ Δ = [.bor (.lst psx),.val (.lst<|R.map rowD),.own (.lst (rs.map λp=>seqD p.1<|p.2.map .int)),x3,x4,x5],⟨ps1,[],_,_,_,hp1,⟨rfl,λi p r h=>by cases h⟩,rfl⟩,?_,?_⟩
  ·rintro i d Δ2 hd ⟨psx,rs,x3,x4,x5,hpx,hT,rfl⟩
   rw[Wad]at hd;cases z:R'[i]? with
   |none=>rw[z]at hd;cases hd
   |some r=>
    rw[z]at hd;cases hd;have rl:=hrl r<|hR.mem_iff.mp<|Wai z;have hi:=(Wag.mp z).1;refine Zb3<|Zaj<|Za1<|Zbj rfl rfl<|Zab<|Zas<|Zab<|Zak<|Zab<|Zas<|Zab<|Zac rfl<|Zae<|Zb8 (Or.inr rfl) (Waa _) ?_;refine Zae<|Zlo<|Zae ⟨_,_,rfl,rfl,hpx,_,rfl,by split <;> omega,by split <;> omega,λa ps2 hp2 a0 a1=>?_⟩
    obtain⟨j,rfl⟩:∃j:Nat,a=(j:Int):=⟨a.toNat,by omega⟩;have hj:j<=(r.map D.int).length:=by rw[Waa];split at a1 <;> omega
    refine Zaj<|Za1<|Zam<|Zep<|Zac rfl<|Zce<|Zac rfl ⟨_,rfl,Zcb ⟨.tup ((r.map D.int).drop j),?_,?_⟩⟩
    ·show some (D.tup<|cutD (r.map D.int) (some ((j:Nat):Int)) none)=_
     rw[Zfe _ hj]
    refine Zep<|Zac rfl<|Zcb<|Zce<|Zac rfl ⟨_,rfl,.tup ((r.map D.int).take j),?_,?_⟩
    ·show some (D.tup<|cutD (r.map D.int) none<|some ((j:Nat):Int))=_
     rw[Zli _ hj]
    refine Zpe ?_ ?_
    ·rw[Wb4,Wbk,Waa]
     exact Wb8 (small1000<|by omega)
    rw[show (r.map D.int).drop j++(r.map D.int).take j=(rotAt r j).map D.int by unfold rotAt;rw[War,Wdo,Wcj]];refine Zb6 (λΔ=>∃(psx:List D) (c:Bool),Pen psx /\ Δ = [.bor (.lst psx),.val (.lst<|R.map rowD),.own (.lst (rs.map λp=>seqD p.1<|p.2.map .int)),.val (rowD r),.val (.int (j:Int)),.val (seqD c ((rotAt r j).map .int))]) ?_ ?_
    ·refine Zbn (Zay<|Zam<|Zbj rfl rfl<|Zab<|Zak<|Zae ⟨_,_,rfl,rfl,hp2,2,rfl,by omega,by omega,λe ps3 hp3 e0 e1=>Zak<|Zeq ⟨_,rfl,ite2 (λz=>?_) λz=>Zaz ⟨ps3,false,hp3,rfl⟩⟩⟩)
     exact Za1<|Zas<|Zab<|Zac rfl<|Zae<|Zk4 (Or.inr rfl) ⟨ps3,true,hp3,rfl⟩
    rintro Δ3 ⟨psy,c,hpy,rfl⟩;have hrs:=hT.1;rw[Wbk]at hrs;refine Zf3 rfl rfl<|Zac rfl ⟨_,_,rfl,rfl,?_,psy,rs++[(c,rotAt r j)],.val<|rowD r,.val (.int (j:Int)),.val<|seqD c ((rotAt r j).map .int),hpy,?_,?_⟩
    ·rw[Waa];exact small1000 (by omega)
    ·rw[Wbi,z];exact Zkq hT c j
    ·rw[War];rfl
  ·rintro Δ2 ⟨psx,rs,x3,x4,x5,hpx,hT,rfl⟩
   rw[Waa,Wbo]at hT;exact⟨psx,rs,R',x3,x4,x5,hpx,hR,hT,rfl⟩
 rintro Δ1 ⟨psx,rs,R',x3,x4,x5,hpx,hR,hT,rfl⟩;refine Zaj<|Zbn<|Zay<|Zam<|Zbj rfl rfl<|Zab<|Zak<|Zae ⟨_,_,rfl,rfl,hpx,2,rfl,by omega,by omega,λe ps3 hp3 e0 e1=>Zak<|Zeq ⟨_,rfl,ite2 (λz=>?_) λz=>Zaz ?_⟩⟩
 ·exact Za0<|Zas<|Zab<|Zc8 rfl<|Zae<|Zcf (Or.inl rfl) ⟨_,rfl,q false rs R' ps3 hp3 hR hT⟩
 ·exact Za0<|Zc8 rfl ⟨_,rfl,q true rs R' ps3 hp3 hR hT⟩
end
def rowPairsF (r:List Int):List (Int × Int):=(Waq r.length).map λk=>(r.getD k 0,r.getD ((k+1) % r.length) 0)
theorem Zd0 (r:List Int):(rowPairsF r).length=r.length:=by simp[rowPairsF]
theorem Zdv {r:List Int}{k:Nat}(h:k<r.length):(rowPairsF r)[k]?=some (r.getD k 0,r.getD ((k+1) % r.length) 0):=by
 unfold rowPairsF;rw[Wad,Wb1 h];rfl
theorem Zhd (r:List Int):(rowPairsF r).map (·.1)=r:=by
 apply Wb3;intro k;rw[Wad];by_cases h:k<r.length
 ·rw[Zdv h,Wab h,Waf,Wab h];rfl
 ·rw[Wbr (by rw[Zd0];omega),Wbr (by omega)];rfl
theorem Zhn {r:List Int}{x:Int}(h:x∈r):(x,nextIn r x)∈rowPairsF r:=by
 obtain⟨h1,h2,_⟩:=Zcr h;refine Wai (i:=r.idxOf x) ?_;rw[Zdv h1];congr 1;rw[Waf,h2];rfl
theorem Zgz (o:List (List Int)):(o.flatMap rowPairsF).map (·.1)=o.flatten:=by
 induction o with
 |nil=>rfl
 |cons r o ih=>rw[List.flatMap_cons,War,ih,Zhd,Wbb]
theorem Zmx {A B:List (Int × Int)}{y:Int × Int}(h:((A++y::B).map (·.1)).Nodup):y.1 ∉ A.map (·.1):=by
 rw[War,Wcs]at h;intro hm;exact h.2.2 _ hm _ (by rw[Wa1];exact Wat) rfl
def encMet (x:Int):Key × D:=(.inl x,.bl true)
theorem Ztn (ms:List Int) (x:Int):(valD (ms.map encMet) (.inl x)).isSome=decide (x∈ms):=by
 induction ms with
 |nil=>rfl
 |cons y ms ih=>
  unfold valD at ih ⊢;rw[Wa1];by_cases h:y=x
  ·subst h
   rw[Wc1 (by simp[encMet])];simp
  ·rw[Wcc (by simp[encMet];exact h),ih]
   have:(x∈y::ms)↔x∈ms:=by simp[Ne.symm h]
   exact decide_eq_decide.mpr this.symm
theorem Zst {ms:List Int}{x:Int}(h:x ∉ ms):putD (ms.map encMet) (.inl x) (.bl true)=(ms++[x]).map encMet:=by
 unfold putD;rw[if_neg,War]
 ·rfl
 ·rw[List.any_map,Wef]
  rintro⟨z,hz,e⟩;have e:(Sum.inl z:Key)=Sum.inl x:=of_decide_eq_true e;injection e with e
  exact h (e ▸ hz)
section
variable {P:Program}{w:World}{K:W.Frag}{mg:Str->Option Value}{base:Heap}{f:Addr}{fd:FuncData}
theorem Zkg {Δ:Evt}{Pd:D->Evt->Prop}{n:Nat}{x:L2.Slot}{kvs:List (Key × D)}(hx:Δ[n]?=some x) (ho:x.od=some (.dct kvs)) (p:Pd (.int kvs.length) Δ):JE K (tCB (rLenU K)<|tCons (tVar n) tNil) Δ Pd:=λg G H σ Q k c=>by
 obtain⟨a,o,h1,h2,h3,h4,h5⟩:=k.own n x _ hx ho;cases o with
 |dK vs=>
  have hl:vs.length=kvs.length:=Paired.length h3;refine⟨.ref a,h1,.inr ⟨a,vs,rfl,h2,?_⟩⟩;rw[hl];exact c _ _ G H Δ k (Same.refl _) (.int _) p
 |_=>exact absurd h3 (λz=>z)
theorem Zl2 {l:List Int}{j k:Nat}(hj:j<=l.length) (hk:k<l.length):(rotAt l j).getD k 0=l.getD ((j+k) % l.length) 0:=by
 unfold rotAt;rw[Waf,Waf];by_cases c:j+k<l.length
 ·rw[Wbm (by rw[Wb4];omega),List.getElem?_drop,Nat.mod_eq_of_lt c]
 ·rw[Wbc (by rw[Wb4];omega),Wb4,List.getElem?_take,if_pos (by omega)]
  have:(j+k) % l.length=j+k-l.length:=by rw[Nat.mod_eq_sub_mod (by omega),Nat.mod_eq_of_lt (by omega)]
  rw[this,show k-(l.length-j)=j+k-l.length by omega]
theorem Zmt {l:List Int}(nd:l.Nodup) {j:Nat}(hj:j<=l.length) {y:Int}(hy:y∈l):nextIn (rotAt l j) y=nextIn l y:=by
 have hl:0<l.length:=Wc0 hy;have rl:(rotAt l j).length=l.length:=(Zdr l j).length_eq;have rnd:(rotAt l j).Nodup:=(Zdr l j).nodup_iff.mpr nd;obtain⟨i1,i2,_⟩:=Zcr (r:=rotAt l j) (x:=y) ((Zdr l j).mem_iff.mpr hy);generalize hk:(rotAt l j).idxOf y=k at *;rw[rl]at i1;have g:(rotAt l j).getD k 0=y:=by rw[Waf,i2];rfl
 rw[Zl2 hj i1]at g;have hm:(j+k) % l.length<l.length:=Web _ hl;have ix:l.idxOf y=(j+k) % l.length:=Zlq nd (by rw[<- g,Waf,Wab hm];rfl);unfold nextIn;rw[hk,rl,Zl2 hj (Web _ hl),ix,Nat.add_mod_mod,Nat.mod_add_mod,Nat.add_assoc]
theorem Zud {l:List Int}(nd:l.Nodup) {y:Int}(hy:y∈l):nextIn (lf l) y=nextIn l y:=by
 obtain⟨m,hm,hle⟩:=Zcm l<|List.ne_nil_of_mem hy;rw[Zi0 hm hle];exact Zmt nd (Wb8 (Zcr hm).1) hy
end
structure LikeO (ts:List (Int × Int)) (o R:List (List Int)):Prop where
 lon:lone R=lone o
 nd:R.flatten.Nodup
 len:R.flatten.length=2*ts.length
 fol:∀e:Nat,e<2*ts.length->((e:Int),folOf ts o e)∈R.flatMap rowPairsF
 row:∀r∈R,r.length<=48
def fLFacesU:NSp:=λds Post=>∃b R n ts o,ds=[seqD b (R.map rowD)]/\WebOk n ts/\OrdOk n ts o/\LikeO ts o R/\R.length<=100/\Post ((allF ts o).map rowD)
theorem Zgj {n:Int}{ts:List (Int × Int)}{o:List (List Int)}(hW:WebOk n ts) (hO:OrdOk n ts o):LikeO ts o o:=
 ⟨rfl,hO.flat,hO.flat_eq hW,λe he=>by
  obtain⟨g1,g2,g3⟩:=Zck hW hO he;exact List.mem_flatMap.mpr ⟨_,Wai g1,Zhn g3⟩,λr hr=>by
  obtain⟨p,hp⟩:=Wbg.mp hr;have:=(hO.row p r hp).len;have:=hW.len;omega⟩
theorem Zwi (r:List Int):(lf r).isEmpty=r.isEmpty:=by
 have:=(Zgq r).length_eq;cases h:lf r <;> cases h2:r <;> simp_all
theorem Zkj (R:List (List Int)):lone (R.map lf)=lone R:=by
 unfold lone;rw[Wdp,Waa];congr 1;exact Wc5 λr _=>Zwi r
theorem Zi2 {R:List (List Int)}{m:Nat}(h:TabU R m) (hm:m<=24) {r:List Int}(hr:r∈R):r.Nodup/\r.length<=48:=by
 have hs:r.Sublist R.flatten:=Wbz hr;have h1:=h.lf.len;have h2:=(Zd8 R).length_eq;have:=hs.length_le;exact⟨h.nd.sublist hs,by omega⟩
theorem Zth {R:List (List Int)}{m:Nat}(h:TabU R m) (hm:m<=24) (h1:1<=R.length) (h2:R.length<=100):LikeO (dualT (R.map lf) m) (R.map lf) R:=by
 have T:=h.lf;have hW:=Zdw T (by rw[Waa];exact h1) (by rw[Waa];exact h2) hm;have hO:=Zdy T;refine⟨(Zkj R).symm,h.nd,?_,λe he=>?_,λr hr=>(Zi2 h hm hr).2⟩
 ·rw[Zbz]
  have a:=T.len;have b:=(Zd8 R).length_eq;omega
 ·obtain⟨g1,g2,g3⟩:=Zck hW hO he
  obtain⟨r,hr,e1⟩:=Was.mp<|Wai g1;have hx:(e:Int)∈r:=(Zgq r).mem_iff.mp (by rw[e1];exact g3);refine List.mem_flatMap.mpr ⟨r,hr,?_⟩;have:=Zhn hx;rw[<- Zud (Zi2 h hm hr).1 hx,e1]at this;exact this
section
variable {P:Program}{w:World}{K:W.Frag}{mg:Str->Option Value}{base:Heap}{f:Addr}{fd:FuncData}
theorem Zml (mb:Mb mg) (C49:Callee P w K mg base 1 "_law_partner" ["_law_end"] (spD K fPart)) (F:Fun K "_law_faces" "_law_faces" Ya0 f fd):FnOk P w K mg base CX0 2 f fd ["_law_order_here"] (spN K fLFacesU):=by
 refine F.ok Yae (Zfr λds Post h=>by obtain⟨_,_,_,_,_,rfl,_⟩:=h;rfl) λcdv A outer s H vs Q E hr h=>?_;have hu:=Zbv hr;have hv:=Zg5 hr;refine⟨_,(Zaf (Zaq (i:=1) Yae.nd rfl (Or.inl rfl) Zlb)<|Zaf (Zd3 PassesOwn.never rfl (seqK K<|pv 0) (Zal (i:=2) Yae.nd rfl<|Or.inl rfl)<|Zai<|Zd3 PassesOwn.never rfl (Zbg rfl (mb "range"<|by decide)<|Zaa (Zah (lenK K) rfl (mb "len"<|by decide) Za5<|Zaa (pv 2) Zad) Zad) (Zal (i:=3) Yae.nd rfl<|Or.inl rfl)<|Zai<|Zf5 (Zbe (ixK K hu) (pv 2) (Zax Zcg (Zax (addK K) (pv 3) Zag)<|Zah (lenK K) rfl (mb "len"<|by decide) Za5<|Zaa (pv 2) Zad) λ_ _=>rfl)<|Zgs (pv 1) (Zbe (ixK K hu) (pv 2) (pv 3) λ_ _=>rfl)<|setU hu)<|Zaf (Zdf (i:=4) ["_law_row"] (show CompSc (defScope Ya0) ["_law_order_here","_law_behind","_law_row","_law_k","_law_found","_law_met","_law_end","_law_walk","_law_at"] _ [] [] from ⟨rfl,by decide +kernel,by decide +kernel,by decide +kernel,rfl,by decide +kernel⟩) rfl Yae.nd rfl (Or.inl rfl) (seqK K<|pv 0) (λ_ _ _ _ _=>(Zal (i:=0) (show List.Nodup (["_law_row"]:List Str) from by decide) rfl<|Or.inl rfl)) (λ_ _ _ _ _=>(Ze2<|Zao Zbm (Zah (lenK K) rfl (mb "len"<|by decide) Za5<|Zaa (pv 0) Zad) Zag<|nomark _)) λ_ _ _ _ _=>(Zbq Zad))<|Zaf (Zaq (i:=5) Yae.nd rfl (Or.inl rfl) Zlb)<|Zaf (Zd3 PassesOwn.never rfl (Zbg rfl (mb "range"<|by decide)<|Zaa (Zah (lenK K) rfl (mb "len"<|by decide) Za5<|Zaa (pv 1) Zad) Zad) (Zal (i:=6) Yae.nd rfl<|Or.inl rfl)<|Zaf (Zaq (i:=7) Yae.nd rfl (Or.inl rfl)<|Zc9 Zad)<|Zaf (Zaq (i:=8) Yae.nd rfl (Or.inl rfl)<|pv 6)<|Zaf (Zle PassesOwn.never (Zao (notinK K hu) (pv 8) (pv 5) rfl)<|Zaf (Zf5 Zg2<|Zgs (pv 5) (pv 8)<|setU hu)<|Zaf (Zc5<|bmK K PySem.F.plainAttrs_list PySem.F.slot_list_append PySem.F.type_list_append Zb9 (pv 7)<|Zaa (pv 8) Zad)<|Zai<|Zaq (i:=8) Yae.nd rfl (Or.inl rfl)<|Zbe (ixK K hu) (pv 1) (Zav C49 (hr.mono<|by decide)<|Zaa (pv 8) Zad) λ_ _=>rfl)<|Zai<|Zbd (Zao Zmm (Zah (lenK K) rfl (mb "len"<|by decide) Za5<|Zaa (pv 7) Zad) Zag<|nomark _) (Zai<|Zc5<|bmK K PySem.F.plainAttrs_list PySem.F.slot_list_append PySem.F.type_list_append Zb9 (pv 4)<|Zaa (Za2 (tupK K) rfl (mb "tuple"<|by decide) Za9<|Zaa (pv 7) Zad) Zad) Zar)<|Zai<|Zau<|Zah (sortRK K hv) rfl (mb "sorted"<|by decide) Zc6<|Zaa (pv 4) Zad),Zmw (λds Post hf=>?_) h⟩;obtain⟨b,R,n,ts,o,rfl,hW,hO,hL,hRl,q⟩:=hf;refine⟨by simp,?_⟩;dsimp only[startD,Wbj,Wbn,Wa9,Wae];have O:=Zdo hW hO;have hw:=hW.len;have hn:=hW.hi;have ho:=hO.len;have hlone:=Zgk o;have hfe:=hL.len;have hlon:=hL.lon;have hpn:((R.flatMap rowPairsF).map (·.1)).Nodup:=by rw[Zgz];exact hL.nd
 have hpl:(R.flatMap rowPairsF).length=2*ts.length:=by rw[<- hfe,<- Zgz,Waa]
 refine Zaj<|Zb2<|Zoz ?_;refine Zb6 (λΔ=>∃x2 x3:L2.Slot,Δ = [.val (seqD b<|R.map rowD),.own (.dct ((R.flatMap rowPairsF).map encPair)),x2,x3,.any,.any,.any,.any,.any]) ?_ ?_
 ·refine Zd5 (Zdh rfl (Zdj b _) ⟨λi Δ=>∃x2 x3:L2.Slot,Δ = [.val (seqD b<|R.map rowD),.own (.dct (((R.take i).flatMap rowPairsF).map encPair)),x2,x3,.any,.any,.any,.any,.any],⟨_,_,rfl⟩,?_,?_⟩)
  ·rintro i d Δ2 hd ⟨x2,x3,rfl⟩
   rw[Wad]at hd;cases z:R[i]? with
   |none=>rw[z]at hd;cases hd
   |some r=>
    rw[z]at hd;have hd:rowD r=d:=by simpa using hd
    subst hd;have hi:i<R.length:=(Wag.mp z).1;have tk:R.take (i+1)=R.take i++[r]:=by rw[Wbi,z];rfl
    have eo:R.flatMap rowPairsF=(R.take i).flatMap rowPairsF++(rowPairsF r++(R.drop<|i+1).flatMap rowPairsF):=by
     conv=>lhs;rw[<- Wb0 (i+1) R,tk]
     rw[Wd5,Wd5];simp[Wbe]
    have hrl:r.length<=48:=hL.row r<|Wai z;refine Zb3<|Zd5<|Zbi<|Zab<|Zas<|Zab<|Zac rfl<|Zae<|Zbl (Or.inr rfl)<|Zae ⟨_,rfl,?_,?_,?_⟩
    ·rw[Waa];omega
    ·rw[Waa];omega
    rw[Waa,Wa7];refine⟨λk Δ=>∃x3:L2.Slot,Δ = [.val (seqD b<|R.map rowD),.own (.dct (((R.take i).flatMap rowPairsF++(rowPairsF r).take k).map encPair)),.val (rowD r),x3,.any,.any,.any,.any,.any],⟨_,by rw[Wb6,Wa3];rfl⟩,?_,?_⟩
    ·rintro k d Δ2 hd ⟨x3,rfl⟩
     obtain⟨hk,rfl⟩:=Zb5 hd;have hg:=Zdv hk;have a1:atI (r.map D.int) (0+(k:Int))=some (.int<|r.getD k 0):=by
      rw[Wb5];exact Zcy (by rw[Wad,Waf,Wab hk];rfl)
     have hm:(k+1) % r.length<r.length:=Web _ (by omega);have a2:atI (r.map D.int) ((0+(k:Int)+1) % (r.length:Int))=some (.int<|r.getD ((k+1) % r.length) 0):=by
      rw[show (0+(k:Int)+1) % (r.length:Int)=(((k+1) % r.length:Nat):Int) by push_cast;rw[Wb5]];exact Zcy (by rw[Wad,Waf,Wab hm];rfl)
     refine Zb3<|Znm<|Zam<|Zac rfl<|Zam<|Zam<|Zac rfl<|Zak<|Zc3 ?_;refine Zas<|Zab<|Zac rfl<|Zae<|Zbl (Or.inr rfl) ?_;rw[Waa];refine jr_I (by show (0:Int)<_;omega)<|Za6 a2 ⟨⟨_,_,rfl,rfl⟩,Zam<|Zac rfl<|Zac rfl<|Za6 a1 ⟨_,_,_,rfl,rfl,rfl,?_,?_⟩⟩
     ·rw[Waa,Waj,Wbk]
      rw[eo,Waj,Waj,Zd0]at hpl;exact small1000 (by omega)
     ·have eT:(rowPairsF r).take (k+1)=(rowPairsF r).take k++[(r.getD k 0,r.getD ((k+1) % r.length) 0)]:=by rw[Wbi,hg];rfl
      have eD:rowPairsF r=(rowPairsF r).take k++(r.getD k 0,r.getD ((k+1) % r.length) 0)::(rowPairsF r).drop (k+1):=by
       conv=>lhs;rw[<- Wb0 (k+1) (rowPairsF r),eT]
       simp
      have hk2:=hpn;rw[eo,eD,Wbe,<- Wbe,Wc9]at hk2;refine⟨.val (.int (0+(k:Int))),?_⟩;show [_,L2.Slot.own (.dct<|putD _ _ _),_,_,_,_,_,_,_]=_;rw[Zoe (Zmx hk2),eT,Wbe]
    ·rintro Δ2 ⟨x3,rfl⟩
     rw[Zbc];refine⟨.val<|rowD r,x3,?_⟩;rw[Wcz (l:=rowPairsF r) (by rw[Zd0];exact Wak _),tk,Wd5];simp
  ·rintro Δ2 ⟨x2,x3,rfl⟩
   rw[Waa,Wbo];exact⟨x2,x3,rfl⟩
 rintro Δ1 ⟨x2,x3,rfl⟩;refine Zaj<|Zb2<|Zeo (by decide)<|Zdh rfl (Zdj b _) ⟨?_,λd=>match d with|.tup ds=>decide ((ds.length:Int)=0)|_=>false,λ_=>.tup [],λi d hd=>?_,?_⟩
 ·rw[Waa];exact small1000 (by omega)
 ·rw[Wad]at hd
  cases z:R[i]? with
  |none=>rw[z]at hd;cases hd
  |some r=>
   rw[z]at hd;have hd:rowD r=d:=by simpa using hd
   subst hd;refine Zay<|Zam<|Zas<|Zab<|Zac rfl<|Zae<|Zbl (Or.inr rfl)<|Zak<|Zeq ⟨_,rfl,rfl,?_⟩;by_cases hz:((r.map D.int).length:Int)=0
   ·rw[decide_eq_true hz]
    exact iteT<|Zbs<|Zae ⟨by decide,rfl,_,rfl⟩
   ·rw[decide_eq_false hz]
    exact iteF ⟨_,rfl⟩
 rw[Zgg R _ (λr=>by
  show decide (((r.map D.int).length:Int)=0)=r.isEmpty;cases r with
  |nil=>rfl
  |cons x t=>rw[Waa,Wan];exact decide_eq_false (by omega)) _ (λ_=>rfl),hlon]
 refine Zaj<|Zb2<|Zoz ?_;refine Zb6 (λΔ=>∃(ms:List Int) (x6 x7 x8:L2.Slot),Δ = [.val (seqD b<|R.map rowD),.own (.dct ((R.flatMap rowPairsF).map encPair)),x2,x3,.own (.lst ((allF ts o).map rowD)),.own (.dct<|ms.map encMet),x6,x7,x8]) ?_ ?_
 ·refine Zd5 (Zbi<|Zab<|Zkg rfl rfl<|Zae ⟨_,rfl,?_,?_,?_⟩)
  ·omega
  ·rw[Waa,hpl];omega
  rw[Waa,hpl,Wa7];refine⟨λk Δ=>∃(ms:List Int) (x6 x7 x8:L2.Slot),(∀x,x∈ms↔MetTo (onI ts o) k x)/\ms.length<=48*k /\ Δ = [.val (seqD b<|R.map rowD),.own (.dct ((R.flatMap rowPairsF).map encPair)),x2,x3,.own (.lst ((Wae (lone o) []++facesTo (onI ts o) k).map rowD)),.own (.dct<|ms.map encMet),x6,x7,x8],⟨[],.any,.any,.any,λx=>?_,by simp,?_⟩,?_,?_⟩
  ·constructor
   ·intro z;cases z
   ·rintro⟨e,he,_⟩;omega
  ·rw[show facesTo (onI ts o) 0=[] from rfl,Wa3];rfl
  ·rintro k d Δ2 hd ⟨ms,x6,x7,x8,hms,hml,rfl⟩
   obtain⟨hk,rfl⟩:=Zb5 hd;rw[Wb5];have h0:(0:Int)<=(k:Int):=by omega
   have h1:(k:Int)<((2*ts.length:Nat):Int):=by omega
   have fl:=Zds (onI ts o) k;refine Zb3<|Zaj<|Zb2<|Zfh<|Zae ⟨by decide,?_⟩;refine Zaj<|Za1<|Zac rfl ?_;refine Zb6 (λΔ=>∃j:Nat,((j=0/\MetTo (onI ts o) k (k:Int))\/(IsOrb (onI ts o) (k:Int) j/\¬ MetTo (onI ts o) k (k:Int))) /\ Δ = [.val (seqD b<|R.map rowD),.own (.dct ((R.flatMap rowPairsF).map encPair)),x2,x3,.own (.lst ((Wae (lone o) []++facesTo (onI ts o) k).map rowD)),.own (.dct ((ms++walkL (onI ts o) (k:Int) j).map encMet)),.val (.int (k:Int)),.own (.lst ((walkL (onI ts o) (k:Int) j).map .int)),.val (.int<|iter (onI ts o) (k:Int) j)]) ?_ ?_
   ·refine Zln (fun μ Δ=>∃j:Nat,(j=0\/¬ MetTo (onI ts o) k (k:Int))/\NdTo (onI ts o) (k:Int) j /\ μ = 2*ts.length-j /\ Δ = [.val (seqD b<|R.map rowD),.own (.dct ((R.flatMap rowPairsF).map encPair)),x2,x3,.own (.lst ((Wae (lone o) []++facesTo (onI ts o) k).map rowD)),.own (.dct ((ms++walkL (onI ts o) (k:Int) j).map encMet)),.val (.int (k:Int)),.own (.lst ((walkL (onI ts o) (k:Int) j).map .int)),.val (.int<|iter (onI ts o) (k:Int) j)]) ⟨_,0,.inl rfl,λi j hi=>by omega,rfl,?_⟩ ?_
    ·rw[show walkL (onI ts o) (k:Int) 0=[] from rfl,Wa3];rfl
    rintro μ Δ1 ⟨j,hj,nd,rfl,rfl⟩;have hjm:=Zjy O h0 h1 nd;have r:=Zco O h0 h1 j;refine Zay<|Zu7<|Zac rfl ⟨_,_,_,rfl,rfl,rfl,_,rfl,?_⟩;rw[Ztn];by_cases hb:iter (onI ts o) (k:Int) j∈ms++walkL (onI ts o) (k:Int) j
    ·rw[decide_eq_true hb]
     refine iteF ⟨j,?_,rfl⟩;rcases Wbp.mp hb with hb|hb
     ·have hM:MetTo (onI ts o) k (k:Int):=(Zk0 O (by omega) h0 h1 j).mp ((hms _).mp hb)
      rcases hj with hj|hj
      ·exact .inl ⟨hj,hM⟩
      ·exact absurd hM hj
     ·obtain⟨i,hi,e⟩:=Zbw.mp hb
      have hj1:1<=j:=by omega
      have hj2:¬ MetTo (onI ts o) k (k:Int):=by
       rcases hj with hj|hj
       ·omega
       ·exact hj
      refine .inr ⟨⟨by omega,?_,nd⟩,hj2⟩;apply Classical.byContradiction;intro hne;have:=Ziv O h0 h1 hj1 nd hne i j (by omega) (by omega) e;omega
    ·rw[decide_eq_false hb]
     rw[Wbp,not_or]at hb;have hM:¬ MetTo (onI ts o) k (k:Int):=λz=>hb.1 ((hms _).mpr ((Zk0 O (by omega) h0 h1 j).mpr z));have nd2:NdTo (onI ts o) (k:Int) (j+1):=by
      by_cases hj0:j=0
      ·subst hj0;exact Zov O h0 h1
      ·refine Ziv O h0 h1 (by omega) nd λz=>hb.2<|Zbw.mpr ⟨0,by omega,z.symm⟩
     have hjm2:=Zjy O h0 h1 nd2;refine iteT<|Zaj<|Znm<|Zgi ⟨⟨_,_,rfl,rfl⟩,Zac rfl ⟨_,_,_,rfl,rfl,rfl,?_,?_⟩⟩
     ·rw[Waa,Waj,Zbx]
      refine Wch (m:=48*48+48) (by omega) (by decide)
     refine Zaj<|Zf3 rfl rfl<|Zac rfl ⟨_,_,rfl,rfl,?_,?_⟩
     ·rw[Waa,Zbx];exact small1000 (by omega)
     have hp:=Zb1 (show (iter (onI ts o) (k:Int) j).toNat<2*ts.length by omega);refine Za1<|Zkf rfl rfl<|Zaw<|Zab<|Zac rfl<|Zae ⟨(iter (onI ts o) (k:Int) j).toNat,?_,_,_,_,_,rfl,rfl,rfl,Zr9 hpn<|hL.fol _ hp,?_⟩
     ·rw[show (((iter (onI ts o) (k:Int) j).toNat:Nat):Int)=iter (onI ts o) (k:Int) j by omega]
     refine⟨2*ts.length-(j+1),by omega,j+1,.inr hM,nd2,rfl,?_⟩;show [_,_,_,_,_,L2.Slot.own (.dct<|putD _ _ _),_,L2.Slot.own (.lst _),_]=_;rw[Zst (by rw[Wbp,not_or];exact hb),Zhj,Wbe,War (f:=D.int)];rfl
   rintro Δ1 ⟨j,hj,rfl⟩;refine Zbn<|Zay<|Zam<|Zh3 rfl rfl<|Zak<|Zne ⟨_,rfl,?_⟩;rw[Waa,Zbx];rcases hj with ⟨rfl,hM⟩|⟨hI,hM⟩
   ·have hl:=(Zdn O hk).mp hM
    refine iteF<|Zaz ⟨ms,.val (.int (k:Int)),.own (.lst []),.val (.int (k:Int)),λx=>?_,by omega,?_⟩
    ·rw[hms,Zga O hk,hl];simp
    ·rw[Zdb,if_neg (by rw[hl];exact Wam),Wa3,show walkL (onI ts o) (k:Int) 0=[] from rfl,Wa3]
     rfl
   ·have hl:leastB (onI ts o) k=true:=by
     cases z:leastB (onI ts o) k with
     |true=>rfl
     |false=>exact absurd ((Zdn O hk).mpr z) hM
    have hjm:=Zjy O h0 h1 hI.nd;have eo:=hI.orb;rw[show decide ((0:Int)<(j:Int))=true from decide_eq_true (by have:=hI.pos;omega)];refine iteT<|Zf3 rfl rfl<|Zas<|Zab<|Zc8 rfl<|Zae<|Zcf (Or.inl rfl) ⟨_,_,rfl,rfl,?_,ms++walkL (onI ts o) (k:Int) j,.val (.int (k:Int)),.val (.lst ((walkL (onI ts o) (k:Int) j).map .int)),.val (.int<|iter (onI ts o) (k:Int) j),λx=>?_,?_,?_⟩
    ·rw[Waa,Waj,Wa2];exact small1000 (by omega)
    ·rw[Wbp,hms,Zga O hk,hl,<- eo];simp
    ·rw[Waj,Zbx];omega
    ·rw[Zdb,if_pos hl,<- Wbe,War (l₂:=[orb (onI ts o) (k:Int)]),eo]
     rfl
  ·rintro Δ2 ⟨ms,x6,x7,x8,hms,hml,rfl⟩
   rw[Zbc];exact⟨ms,_,_,_,rfl⟩
 rintro Δ1 ⟨ms,x6,x7,x8,rfl⟩;have al:=Zf8 hW hO;exact Zfx<|Zk9<|Zab<|Zc8 rfl<|Zae ⟨_,rfl,by omega,Zlj hW hO,_,rfl,q⟩
end
structure TabW (rs:List (Bool × List Int)):Prop where
 len:rs.length<=100
 flat:(rowsOf rs).flatten.length<=48
theorem TabW.row {rs:List (Bool × List Int)}(h:TabW rs) {p:Bool × List Int}(hp:p∈rs):p.2.length<=48:=by
 have:p.2.Sublist (rowsOf rs).flatten:=Wbz<|Was.mpr ⟨p,hp,rfl⟩;have:=this.length_le;have:=h.flat;omega
theorem TabU.flat {R:List (List Int)}{m:Nat}(h:TabU R m):R.flatten.length=2*m:=by
 have:=h.lf.len;have:=(Zd8 R).length_eq;omega
def endsP (ts:List (Int × Int)) (p:Nat):List Int:=endsBelow ts (2*ts.length) ((p:Nat):Int)
def headB (es:List Int) (r:List Int):Bool:=decide (r.take 1=es.take 1)
def ownRow (Q:List (List Int)) (es:List Int):Option (List Int):=Q.find?<|headB es
def rowFor (ts:List (Int × Int)) (Q:List (List Int)) (p:Nat):List Int:=(ownRow Q<|endsP ts p).getD []
def GoodQ (N:Nat) (ts:List (Int × Int)) (Q:List (List Int)):Prop:=∀p,p<N->(rowFor ts Q p).Perm (endsP ts p)
def laidO (N:Nat) (ts:List (Int × Int)) (Q:List (List Int)):List (List Int):=(Waq N).map (rowFor ts Q)
noncomputable def toldQ (rs:List (Bool × List Int)) (m:Nat):List (List Int):=allF (dualT (lfs rs) m)<|lfs rs
theorem Zgd (N:Nat) (ts:List (Int × Int)) (Q:List (List Int)):(laidO N ts Q).length=N:=by unfold laidO;rw[Waa,Wa5]
theorem Zqh {N p:Nat}{ts:List (Int × Int)}{Q:List (List Int)}{r:List Int}(h:(laidO N ts Q)[p]?=some r):p<N/\r=rowFor ts Q p:=by
 have hp:=(Wag.mp h).1;rw[Zgd]at hp;unfold laidO at h;rw[Wad,Wb1 hp]at h;cases h;exact⟨hp,rfl⟩
theorem Zhf (ts:List (Int × Int)) (Q:List (List Int)) (p:Nat):rowFor ts Q p=[]\/rowFor ts Q p∈Q:=by
 unfold rowFor ownRow;cases z:Q.find? (headB<|endsP ts p) with
 |none=>exact Or.inl rfl
 |some r=>exact Or.inr (Wdq z)
theorem Zu8 {Q:List (List Int)}{m:Nat}(h:Tab Q m) {r:List Int}(hr:r∈Q):lf r=r:=by
 have:=Znr (h.nd.sublist<|Wbz hr) (h.lst r hr) 0;unfold rotAt at this
 rwa [Wc7,Wb6,Wa3]at this
theorem Zt8 {N m:Nat}{ts:List (Int × Int)}{Q:List (List Int)}(h:Tab Q m):(laidO N ts Q).map lf=laidO N ts Q:=by
 unfold laidO;rw[Wal];refine Wa4 λp _=>?_;show lf (rowFor ts Q p)=rowFor ts Q p;rcases Zhf ts Q p with z|z
 ·rw[z];exact Zfj
 ·exact Zu8 h z
theorem Zk1 {Q:List (List Int)}{m:Nat}(h:Tab Q m) (hm:m<=24) {r:List Int}(hr:r∈Q):r.length<=48:=by
 have:=(Wbz hr).length_le;have:=h.len;omega
theorem Zj0 {N m:Nat}{ts:List (Int × Int)}{Q:List (List Int)}(h:Tab Q m) (hm:m<=24) {r:List Int}(hr:r∈laidO N ts Q):r.length<=48:=by
 obtain⟨p,hp,rfl⟩:=Was.mp hr;rcases Zhf ts Q p with z|z
 ·rw[z];exact Wbx _
 ·exact Zk1 h hm z
structure FirstsX (R:List (List Int)) (kvs:List (List Key × D)):Prop where
 has:∀k:List Int,valT kvs (k.map Sum.inl)=(R.find? λr=>decide (r.take 1=k)).map rowD
 len:kvs.length<=R.length
theorem Zut {a b:List Int}(h:a.map (Sum.inl (β:=Str))=b.map Sum.inl):a=b:=by
 induction a generalizing b with
 |nil=>cases b with
  |nil=>rfl
  |cons y b=>cases h
 |cons x a ih=>cases b with
  |nil=>cases h
  |cons y b=>
   rw[Wa1,Wa1]at h;injection h with h1 h2
   injection h1 with h1
   rw[h1,ih h2]
theorem Zkw {R:List (List Int)}{kvs:List (List Key × D)}(h:FirstsX R kvs) {r:List Int}(hs:∀r'∈R,keyOf r'=keyOf r->r'=r):FirstsX (R++[r]) (putT kvs (keyOf r)<|rowD r):=by
 refine⟨λk=>?_,?_⟩
 ·rw[Zk5,Wea]
  by_cases e:r.take 1=k
  ·rw[if_pos (show (k.map Sum.inl:List Key)=keyOf r from (congrArg (Wbn Sum.inl) e).symm),Wc1 (by exact decide_eq_true e)]
   cases z:R.find? λr=>decide (r.take 1=k) with
   |none=>rfl
   |some r'=>
    have h1:r'.take 1=k:=by have:=List.find?_some z;exact of_decide_eq_true this
    rw[hs r' (Wdq z) (congrArg (Wbn Sum.inl)<|h1.trans e.symm)];rfl
  ·rw[if_neg (show ¬ (k.map Sum.inl:List Key)=keyOf r from λq=>e (Zut q).symm),h.has,Wcc (by simpa using e)]
   cases R.find? λr=>decide (r.take 1=k) <;> rfl
 ·have:=Zlf kvs (keyOf r) (rowD r)
  have:=h.len;rw[Waj,Wcq];omega
def GoodL (N:Nat) (ts:List (Int × Int)) (Q:List (List Int)):Prop:=∀p,p<N->∃r,ownRow Q (endsP ts p)=some r/\r.Perm (endsP ts p)
theorem Zqn {N:Nat}{ts:List (Int × Int)}{Q:List (List Int)}(hb:∀p,p<N->endsP ts p=[] -> []∈Q):GoodL N ts Q↔GoodQ N ts Q:=by
 constructor
 ·intro h p hp
  obtain⟨r,h1,h2⟩:=h p hp;unfold rowFor;rw[h1];exact h2
 ·intro h p hp
  have h1:=h p hp;unfold rowFor at h1;cases z:ownRow Q (endsP ts p) with
  |some r=>rw[z]at h1;exact⟨r,rfl,h1⟩
  |none=>
   rw[z]at h1;have e:endsP ts p=[]:=h1.symm.eq_nil;have hm:=hb p hp e;unfold ownRow at z;have:=List.find?_eq_none.mp z [] hm;rw[e]at this;exact absurd (decide_eq_true rfl) this
theorem Zuf {N m:Nat}{ts:List (Int × Int)}{o R:List (List Int)}(hO:OrdOk (N:Int) ts o) (h:lone R=lone o) {p:Nat}(hp:p<N) (he:endsP ts p=[]):[]∈allF (dualT R m) R:=by
 have h1:=hO.bare;have h2:1<=lone o:=by
  rw[<- h1];refine Wc0 (a:=p)<|Wbd.mpr ⟨Wav.mpr hp,?_⟩;show (endsP ts p).isEmpty=true;rw[he];rfl
 unfold allF;refine Wci _<|Wco.mpr ⟨by omega,rfl⟩
theorem Zq6 {rs:List (Bool × List Int)}:lone (lfs rs)=lone (rowsOf rs):=by unfold lfs;exact Zkj _
theorem Zsn {N:Nat}{ts:List (Int × Int)}{o:List (List Int)}{rs:List (Bool × List Int)}(hW:WebOk (N:Int) ts) (hO:OrdOk (N:Int) ts o) (hU:TabU (rowsOf rs) ts.length) (hl:lone (rowsOf rs)=lone o):1<=rs.length:=by
 cases rs with
 |cons p t=>exact Nat.succ_le_succ (Wbx _)
 |nil=>
  have h0:0=2*ts.length:=hU.flat;have h1:lone o=0:=hl.symm;have n1:=hW.lo;have ol:=hO.len;have hp:0<o.length:=by omega
  have R:=hO.row 0 _<|Wab hp;have:(o[0]).length<=2*ts.length:=R.len;have e:o[0]=[]:=Wbv (by omega);unfold lone at h1;have:=Wc0 (a:=o[0]) (Wbd.mpr ⟨Wbl hp,by rw[e];rfl⟩:o[0]∈o.filter λr=>r.isEmpty);omega
theorem Zpv {A B:List (List Int)}{m:Nat}(hA:Tab A m) (h1:1<=A.length) (h2:A.length<=100) (hm:m<=24) (p:B.Perm A):allF (dualT B m) B=allF (dualT A m) A:=by
 have:=Znx (Zdw hA h1 h2 hm) (Zdy hA) p
 rwa [Zbz]at this
def fRow43 (c:Addr):XSp:=λds Post Xp=>∃(es r:List Int),ds=[.lst (es.map .int),.tup (r.map .int)]/\es.Pairwise (· <= ·)/\r.length<=48/\(r.Perm es->Post (encRow<|lf r))/\(¬ r.Perm es->Xp c)
def fOrd43 (c:Addr):XSp:=λds Post Xp=>∃(N:Nat) (ts:List (Int × Int)) (S:List (List Int)),ds=[encWeb (N:Int) ts,.lst (S.map rowD)]/\WebOk (N:Int) ts/\S.length=N/\(∀r∈S,r.length<=48)/\((∀(i:Nat) r,S[i]?=some r->r.Perm (endsP ts i))->Post (encOrd<|S.map lf))/\(¬ (∀(i:Nat) r,S[i]?=some r->r.Perm (endsP ts i))->Xp c)
def fFoTX (c:Addr):XSp:=λds Post Xp=>∃b rs,ds=[tabD b rs]/\TabW rs/\(∀m,TabU (rowsOf rs) m->Post (.lst ((lfs rs).map rowD)))/\((∀m,¬ TabU (rowsOf rs) m)->Xp c)
def fOrdByX (ct co:Addr):XSp:=λds Post Xp=>∃(N:Nat) (ts:List (Int × Int)) (o:List (List Int)) (b:Bool) (rs:List (Bool × List Int)),ds=[encWeb (N:Int) ts,tabD b rs]/\WebOk (N:Int) ts/\OrdOk (N:Int) ts o/\TabW rs ∧
 (TabU (rowsOf rs) ts.length/\lone (rowsOf rs)=lone o->GoodQ N ts (toldQ rs ts.length)->Post (encOrd<|laidO N ts<|toldQ rs ts.length)) ∧
 (TabU (rowsOf rs) ts.length/\lone (rowsOf rs)=lone o->¬ GoodQ N ts (toldQ rs ts.length)->Xp co)/\(¬ (TabU (rowsOf rs) ts.length/\lone (rowsOf rs)=lone o)->Xp ct)
theorem Ze7:1<=sizeLine:=by decide
section
variable {P:Program}{w:World}{K:W.Frag}{mg:Str->Option Value}{base:Heap}{f:Addr}{fd:FuncData}{cf co ct:Addr}
theorem Zrv (mb:Mb mg) (cl:Cl K mg cf co ct) (C61:Callee P w K mg base 1 "is_row" ["thing"] (spD K fIsRow)) (C62:Callee P w K mg base 1 "is_whole" ["thing"] (spD K fWhole)) (C63:Callee P w K mg base 1 "least_first" ["ends"] (spD K fLeastU)) (F:Fun K "row_of" "row_of" Yaj f fd):FnOk P w K mg base (CXE P w) 2 f fd ["ends","row"] (spX K<|fRow43 co):=by
 refine F.okX Ybt (Zib λds Post Xp h=>by obtain⟨_,_,rfl,_⟩:=h;rfl) λcdv A outer s H vs Q E hr h=>?_;have hu:=Zbv hr;have hv:=Zg5 hr;refine⟨_,(Zaf (Zbd (PW.pt<|pw_or (Zcj<|truK K (Zav C61 (hr.mono<|by decide)<|Zaa (pv 1) Zad) λ_=>rfl)<|pw_or1<|Zcj<|truK K (Zah (allK K rfl) rfl (mb "all"<|by decide) Zgl<|Zaa (Za3 ["end"] (show CompSc (defScope Yaj) ["ends","row"] _ [] [] from ⟨rfl,by decide +kernel,by decide +kernel,by decide +kernel,rfl,by decide +kernel⟩) rfl (seqK K<|pv 1) (λ_ _ _ _ _=>(Zal (i:=0) (show List.Nodup (["end"]:List Str) from by decide) rfl<|Or.inl rfl)) (λ_ _ _ _ _=>Zbb) λ_ _ _ _ _=>(Zav C62 (hr.mono<|by decide)<|Zaa (pv 0) Zad)) Zad) λ_=>rfl) (Zai<|Zdg cl.e_NoOrder rfl cl.n_NoOrder hr.hd Zdc<|Zaa Zeu Zad) Zar)<|Zaf (Zbd (Zao (neILK K hv) (Zah (sortTK K) rfl (mb "sorted"<|by decide) Zc6<|Zaa (pv 1) Zad) (pv 0)<|nomark _) (Zai<|Zdg cl.e_NoOrder rfl cl.n_NoOrder hr.hd Zdc<|Zaa Zeu Zad) Zar)<|Zai<|Zau<|Zav C63 (hr.mono<|by decide)<|Zaa (pv 1) Zad),Zq8 (λds Post Xp hf=>?_) h⟩;obtain⟨es,r,rfl,hs,hl,hG,hX⟩:=hf;refine⟨by simp,?_⟩;dsimp only[startD,Wbj,Wbn,Wa9,Wae];refine Zex<|Zjn<|Zer<|Zca<|Zbk<|Zaw<|Zab<|Zac rfl<|Zae ⟨false,_,rfl,_,rfl,iteF ?_⟩;refine Zca<|Zbk<|Zas<|Zab<|Za7 (by decide)<|Ze1<|Zac rfl ⟨_,rfl,?_,λ_=>true,λ_=>.bl true,λj d hd=>?_,?_⟩
 ·rw[Waa];exact small1000 (by omega)
 ·rw[Wad]at hd
  cases z:r[j]? with
  |none=>rw[z]at hd;cases hd
  |some x=>
   rw[z]at hd;cases hd;exact Zba ⟨rfl,Zaw<|Zab<|Zac rfl<|Zae ⟨_,rfl,rfl,_,rfl⟩⟩
 refine Zae ?_;rw[Waz.mpr (by simp),Wct,Waa,show Wae r.length (D.bl true)=(Wae r.length true).map D.bl by rw[Wcp]];refine Zf4 ⟨_,rfl,?_⟩;rw[Zda];refine iteF<|Zd6 ?_;refine Zex<|Zjn<|Zay<|Zam<|Za8<|Ziu<|Zab<|Zac rfl<|Zae ⟨r,rfl,by omega,λms m1 m2=>⟨_,rfl,Zac rfl<|Zkc ⟨_,rfl,?_⟩⟩⟩;by_cases em:ms=es
 ·rw[decide_eq_true em]
  refine iteF<|Zd6 ?_;exact Zqf<|Zw1<|Zaw<|Zab<|Zac rfl<|Zae ⟨false,r,rfl,by omega,hG (by rw[<- em];exact m1.symm)⟩
 ·rw[decide_eq_false em]
  refine iteT<|Zfn<|Zab<|Zfo<|Zae ⟨Ze7,hX λhp=>em ?_⟩;exact List.Perm.eq_of_pairwise (le:=λa b=>a<=b) (λa b _ _ h1 h2=>by omega) m2 hs<|m1.trans hp
theorem Zqo (mb:Mb mg) (cl:Cl K mg cf co ct) (C61:Callee P w K mg base 1 "is_row" ["thing"] (spD K fIsRow)) (C55:Callee P w K mg base 2 "ends_at" ["web","place"] (spN K fEnds)) (C68:CalleeX P w K mg base 2 "row_of" ["ends","row"] (spX K<|fRow43 co)) (F:Fun K "order_of" "order_of" Yai f fd):FnOk P w K mg base (CXE P w) 3 f fd ["web","rows"] (spX K<|fOrd43 co):=by
 refine F.okX Ybs (Zib λds Post Xp h=>by obtain⟨_,_,_,rfl,_⟩:=h;rfl) λcdv A outer s H vs Q E hr h=>?_;have hu:=Zbv hr;have hv:=Zg5 hr;refine⟨_,(Zaf (Zbd (PW.pt<|pw_or (Zcj<|truK K (Zav C61 (hr.mono<|by decide)<|Zaa (pv 1) Zad) λ_=>rfl)<|pw_or1<|Zao Zez (Zah (lenK K) rfl (mb "len"<|by decide) Za5<|Zaa (pv 1) Zad) (Zbe (ixK K hu) (pv 0) Zag λ_ _=>rfl)<|nomark _) (Zai<|Zdg cl.e_NoOrder rfl cl.n_NoOrder hr.hd Zdc<|Zaa Zeu Zad) Zar)<|Zai<|Zau<|Za2 (tupK K) rfl (mb "tuple"<|by decide) Za9<|Zaa (Znc ["place","row"] (show CompSc (defScope Yai) ["web","rows"] _ ["web"] [0] from ⟨rfl,by decide +kernel,by decide +kernel,by decide +kernel,rfl,by decide +kernel⟩) rfl rfl rfl rfl Ztr (Zea K rfl (mb "enumerate"<|by decide)<|Zaa (pv 1) Zad) (λ_ _ _ _ _ _=>(gtupK (n:=2) K rfl<|Zct (Zal (i:=0) (show List.Nodup (["place","row","web"]:List Str) from by decide) rfl<|Or.inl rfl)<|Zct (Zal (i:=1) (show List.Nodup (["place","row","web"]:List Str) from by decide) rfl<|Or.inl rfl) Zgu)) λ_ _ _ _ _ _ hx=>(Zow C68 (hr.mono<|by decide) hx<|Zaa (Zav C55 (hr.mono<|by decide)<|Zaa (pv 2)<|Zaa (pv 0) Zad)<|Zaa (pv 1) Zad)) Zad),Zq8 (λds Post Xp hf=>?_) h⟩;obtain⟨N,ts,S,rfl,hW,hS,hR,hG,hX⟩:=hf;refine⟨by simp,?_⟩;dsimp only[startD,Wbj,Wbn,Wa9,Wae];have hlen:=hW.len;have hhi:=hW.hi;refine Zex<|Zjn<|Zer<|Zca<|Zbk<|Zaw<|Zab<|Zac rfl<|Zae ⟨true,_,rfl,_,rfl,iteF ?_⟩;refine Zay<|Zam<|Zas<|Zab<|Zac rfl<|Zae<|Zb8 (Or.inl rfl) (Waa _)<|Zam<|Zac rfl<|Zak<|Za6 (d:=.int N) rfl<|Zha ⟨_,rfl,?_⟩;rw[decide_eq_true (show (S.length:Int)=(N:Int) by omega)];refine iteF<|Zd6 ?_;refine Zqf<|Zw5<|Zrb<|Zrz<|Zkn<|Zab<|Zac rfl<|Zae ⟨_,Or.inl rfl,λi hi=>?_,λi l Δ=>(∀(j:Nat) r,j<i->S[j]?=some r->r.Perm (endsP ts j))/\i<=S.length/\l=((S.map lf).take i).map rowD/\∃x y,Δ = [x,y,.val (encWeb N ts)],⟨λj e hj=>(by omega),Wbx _,by rw[Wb6];rfl,_,_,rfl⟩,?_,?_⟩
 ·rw[Wbs.mp hi];exact⟨_,rfl⟩
 ·rintro i e l Δ2 hd ⟨hI,hil,rfl,x,y,rfl⟩
  obtain⟨r,hr,rfl⟩:=Zg4 hd;have hi:=(Wag.mp hr).1;refine Zo3 rfl<|Zeh<|Zb3<|Zeh<|Zb3<|Zj6 ?_;refine Zia<|Zab<|Za8<|Zcq<|Zab<|Zac rfl<|Zab<|Zac rfl<|Zae ⟨(N:Int),ts,(i:Int),rfl,hlen,_,rfl,Zab<|Zac rfl<|Zae ⟨endsP ts i,r,rfl,(Zcw _ _ _).imp λh=>Wd1 h,hR r<|Wai hr,λhp=>?_,λhp=>hX λhA=>hp<|hA i r hr⟩⟩;refine⟨small1000 ?_,λj r' hj hr'=>?_,hi,?_,_,_,rfl⟩
  ·rw[Waa,Wbk];omega
  ·by_cases hji:j=i
   ·subst hji
    rw[hr]at hr';cases hr';exact hp
   ·exact hI j r' (by omega) hr'
  ·rw[Wbi,Wad,hr,War];rfl
 ·rintro l Δ2 ⟨hI,hil,rfl,x,y,rfl⟩
  rw[Zfy,Waa,Wcz (Nat.le_of_eq<|Waa _)];rw[Zfy,Waa]at hI;exact Zvv<|Zae<|Zcf (Or.inl rfl) (hG λi r hr=>hI i r (Wag.mp hr).1 hr)
theorem Zto (mb:Mb mg) (cl:Cl K mg cf co ct) (C61:Callee P w K mg base 1 "is_row" ["thing"] (spD K fIsRow)) (C62:Callee P w K mg base 1 "is_whole" ["thing"] (spD K fWhole)) {tk:Tok}(g_MOST_TIES:mg "MOST_TIES" = some (.int 24 tk)) (C63:Callee P w K mg base 1 "least_first" ["ends"] (spD K fLeastU)) (F:Fun K "faces_of_table" "faces_of_table" Yac f fd):FnOk P w K mg base (CXE P w) 2 f fd ["table"] (spX K<|fFoTX ct):=by
 refine F.okX Ya4 (Zib λds Post Xp h=>by obtain⟨_,_,rfl,_⟩:=h;rfl) λcdv A outer s H vs Q E hr h=>?_;have hu:=Zbv hr;have hv:=Zg5 hr;refine⟨_,(Zaf (Zbd (PW.pt<|pw_or (Zcj<|truK K (Zav C61 (hr.mono<|by decide)<|Zaa (pv 0) Zad) λ_=>rfl)<|pw_or1<|Zcj<|truK K (Zah (allK K rfl) rfl (mb "all"<|by decide) Zgl<|Zaa (Za3 ["face"] (show CompSc (defScope Yac) ["table","ends"] _ [] [] from ⟨rfl,by decide +kernel,by decide +kernel,by decide +kernel,rfl,by decide +kernel⟩) rfl (seqK K<|pv 0) (λ_ _ _ _ _=>(Zal (i:=0) (show List.Nodup (["face"]:List Str) from by decide) rfl<|Or.inl rfl)) (λ_ _ _ _ _=>Zbb) λ_ _ _ _ _=>(Zav C61 (hr.mono<|by decide)<|Zaa (pv 0) Zad)) Zad) λ_=>rfl) (Zai<|Zdg cl.e_NoTable rfl cl.n_NoTable hr.hd Zdc<|Zaa Zeu Zad) Zar)<|Zaf (Zi6 (i:=1) Ya4.nd rfl (Or.inl rfl) ["face","end"] (show CompSc (defScope Yac) ["table","ends"] _ [] [] from ⟨rfl,by decide +kernel,by decide +kernel,by decide +kernel,rfl,by decide +kernel⟩) rfl (seqK K<|pv 0) (λ_ _ _ _ _=>(Zal (i:=0) (show List.Nodup (["face","end"]:List Str) from by decide) rfl<|Or.inl rfl)) (λ_ _ _ _ _=>(seqK K<|pv 0)) (λ_ _ _ _ _=>(Zal (i:=1) (show List.Nodup (["face","end"]:List Str) from by decide) rfl<|Or.inl rfl)) λ_ _ _ _ _=>(pv 1))<|Zaf (Zbd (PW.pt<|pw_or (Zcj<|truK K (Zah (allK K rfl) rfl (mb "all"<|by decide) Zgl<|Zaa (Za3 ["end"] (show CompSc (defScope Yac) ["table","ends"] _ [] [] from ⟨rfl,by decide +kernel,by decide +kernel,by decide +kernel,rfl,by decide +kernel⟩) rfl (seqK K<|pv 1) (λ_ _ _ _ _=>(Zal (i:=0) (show List.Nodup (["end"]:List Str) from by decide) rfl<|Or.inl rfl)) (λ_ _ _ _ _=>Zbb) λ_ _ _ _ _=>(Zav C62 (hr.mono<|by decide)<|Zaa (pv 0) Zad)) Zad) λ_=>rfl)<|pw_or1<|Zao (neILK K hv) (Zah (sortIK K) rfl (mb "sorted"<|by decide) Zc6<|Zaa (pv 1) Zad) (Zde rfl rfl (mb "list"<|by decide) rfl (mb "range"<|by decide)<|Zaa (Zah (lenK K) rfl (mb "len"<|by decide) Za5<|Zaa (pv 1) Zad) Zad)<|nomark _) (Zai<|Zdg cl.e_NoTable rfl cl.n_NoTable hr.hd Zdc<|Zaa Zeu Zad) Zar)<|Zaf (Zbd (PW.pt<|pw_or (Zao Zbm (Zax Zcg (Zah (lenK K) rfl (mb "len"<|by decide) Za5<|Zaa (pv 1) Zad) Zag) Zag<|nomark _)<|pw_or1<|Zao Zmm (Zah (lenK K) rfl (mb "len"<|by decide) Za5<|Zaa (pv 1) Zad) (Zax Zcl Zag<|Zij rfl g_MOST_TIES (show RelV (.int 24) _ from ⟨_,rfl⟩))<|nomark _) (Zai<|Zdg cl.e_NoTable rfl cl.n_NoTable hr.hd Zdc<|Zaa (Ztk<|Zip (Zsi (n:=200))<|Zip (Zwc (n:=200) rfl g_MOST_TIES)<|Zip (Zsi (n:=200)) Ztd) Zad) Zar)<|Zai<|Zau<|Za3 ["face"] (show CompSc (defScope Yac) ["table","ends"] _ [] [] from ⟨rfl,by decide +kernel,by decide +kernel,by decide +kernel,rfl,by decide +kernel⟩) rfl (seqK K<|pv 0) (λ_ _ _ _ _=>(Zal (i:=0) (show List.Nodup (["face"]:List Str) from by decide) rfl<|Or.inl rfl)) (λ_ _ _ _ _=>Zbb) λ_ _ _ _ _=>(Zav C63 (hr.mono<|by decide)<|Zaa (pv 0) Zad)),Zq8 (λds Post Xp hf=>?_) h⟩;obtain⟨b,rs,rfl,hT,hG,hX⟩:=hf;refine⟨by simp,?_⟩;dsimp only[startD,Wbj,Wbn,Wa9,Wae];have h1:=hT.len;have h3:=hT.flat;refine Zex<|Zjn<|Zer<|Zca<|Zbk<|Zaw<|Zab<|Zac rfl<|Zae ⟨b,_,rfl,_,rfl,iteF ?_⟩;refine Zca<|Zbk<|Zas<|Zab<|Za7 (by decide)<|Zdh rfl (Zdj b _) ⟨?_,λ_=>true,λ_=>.bl true,λj d hd=>?_,?_⟩
 ·rw[Waa];exact small1000 (by omega)
 ·obtain⟨p,_,_,rfl⟩:=Zel hd
  exact Zba ⟨rfl,Zaw<|Zab<|Zac rfl<|Zae ⟨_,_,rfl,rfl,_,rfl⟩⟩
 refine Zae ?_;rw[Waz.mpr (by simp),Wct,Waa,show Wae rs.length (D.bl true)=(Wae rs.length true).map D.bl by rw[Wcp]];refine Zf4 ⟨_,rfl,?_⟩;rw[Zda];refine iteF<|Zd6 ?_;refine Zkr<|Za1<|Za8<|Zju<|Zdh rfl (Zdj b _) ⟨λ_ h=>(nomatch h),λi od Δ=>od=.lst (((rowsOf rs).take i).flatten.map .int)/\∃x y:L2.Slot,Δ = [x,y],⟨rfl,_,_,rfl⟩,?_,?_⟩
 ·rintro i d od Δ2 hd ⟨rfl,x,y,rfl⟩
  obtain⟨p,hp,hpm,rfl⟩:=Zel hd;have hg:(rowsOf rs)[i]?=some p.2:=by unfold rowsOf;rw[Wad,hp];rfl
  refine Zb3<|Zdh rfl (Zdj p.1 _) ⟨λj od Δ=>od=.lst ((((rowsOf rs).take i).flatten++p.2.take j).map .int)/\∃y:L2.Slot,Δ = [.val (seqD p.1<|p.2.map .int),y],⟨by rw[Wb6,Wa3],_,rfl⟩,?_,?_⟩
  ·rintro j e od2 Δ5 he ⟨rfl,y,rfl⟩
   rw[Wad]at he;cases z:p.2[j]? with
   |none=>rw[z]at he;cases he
   |some e'=>
    rw[z]at he;cases he;refine Zb3<|Zsm<|Zac rfl ⟨?_,?_,_,rfl⟩
    ·have a1:=Zdz (rowsOf rs) i
     have a2:=hT.row hpm;rw[Waa,Waj,Wbk];exact small1000 (by omega)
    ·rw[Wbi,z,<- Wbe,War (l₂:=(some e').toList)];rfl
  ·rintro od2 Δ5 ⟨rfl,y,rfl⟩
   rw[Waa,Wbo];refine⟨?_,_,_,rfl⟩;rw[Wbi,hg,Wcy];show _=OD.lst ((((rowsOf rs).take i).flatten++[p.2].flatten).map .int);rw[List.flatten_singleton]
 rintro od Δ2 ⟨rfl,x,y,rfl⟩;rw[Waa,show rs.length=(rowsOf rs).length by unfold rowsOf;rw[Waa],Wbo];refine⟨_,rfl,?_⟩;generalize hL:(rowsOf rs).flatten=L at *;refine Zex<|Zjn<|Zer<|Zca<|Zbk<|Zas<|Zab<|Za7 (by decide)<|Zcn<|Zac rfl ⟨_,Or.inl rfl,?_,λ_=>true,λ_=>.bl true,λj d hd=>?_,?_⟩
 ·rw[Waa];exact small1000 (by omega)
 ·rw[Wad]at hd
  cases z:L[j]? with
  |none=>rw[z]at hd;cases hd
  |some x=>
   rw[z]at hd;cases hd;exact Zba ⟨rfl,Zaw<|Zab<|Zac rfl<|Zae ⟨_,rfl,rfl,_,rfl⟩⟩
 refine Zae ?_;rw[Waz.mpr (by simp),Wct,Waa,show Wae L.length (D.bl true)=(Wae L.length true).map D.bl by rw[Wcp]];refine Zf4 ⟨_,rfl,?_⟩;rw[Zda];refine iteF ?_;refine Zay<|Zam<|Za8<|Zld<|Zab<|Zac rfl<|Zae ⟨L,rfl,by omega,λms m1 m2=>⟨_,rfl,?_⟩⟩;refine Za8<|Zqm<|Zab<|Zas<|Zab<|Zac rfl<|Zae<|Zb8 (Or.inl rfl) (Waa _)<|Zae ⟨L.length,rfl,by omega,_,rfl,?_⟩;rw[show ((Waq L.length).map λi:Nat=>D.int (i:Int))=((Waq L.length).map λi:Nat=>(i:Int)).map D.int by rw[Wal];rfl];refine Zkc ⟨_,rfl,?_⟩;by_cases em:ms=(Waq L.length).map λi:Nat=>(i:Int)
 case neg=>
  rw[decide_eq_false em];refine iteT<|Zfn<|Zab<|Zfo<|Zae ⟨Ze7,hX λm hm=>em ?_⟩;have e:=hm.flat;have nd:=hm.nd;have mm:=hm.mem;rw[hL]at e nd mm;rw[e];exact Zhr nd mm m1 m2
 rw[decide_eq_true em];refine iteF<|Zd6 ?_;refine Zex<|Zjn<|Zer<|Zay<|Zam<|Zam<|Zas<|Zab<|Zac rfl<|Zae<|Zb8 (Or.inl rfl) (Waa _)<|Zak<|jr_I (by show (0:Int)<2;omega)<|Zak<|Zeq ⟨_,rfl,?_⟩;by_cases ho:(L.length:Int) % 2=1
 ·rw[decide_eq_true ho]
  refine iteT<|Zfn<|Zab (Zs7 λ_=>Zae ⟨Ze7,hX λm hm=>?_⟩);have e:=hm.flat;rw[hL]at e;omega
 rw[decide_eq_false ho];refine iteF ?_;refine Zay<|Zam<|Zas<|Zab<|Zac rfl<|Zae<|Zb8 (Or.inl rfl) (Waa _)<|Zam<|Zak<|Zak<|jr_I (Or.inl ⟨by omega,by omega⟩)<|Zne ⟨false,congrArg D.bl (decide_eq_false<|by omega),iteF<|Zd6 ?_⟩;have hU:TabU (rowsOf rs) (L.length / 2):=by
  have pm:L.Perm ((Waq L.length).map λi:Nat=>(i:Int)):=by rw[<- em];exact m1.symm
  refine⟨?_,λx=>?_⟩
  ·rw[hL]
   refine pm.nodup_iff.mpr ?_;refine List.Pairwise.map _ (λa b h=>?_) Wc8;intro e;exact h (by omega)
  ·rw[hL,pm.mem_iff,Was]
   constructor
   ·rintro⟨k,hk,rfl⟩;have:=Wav.mp hk;omega
   ·intro h;exact⟨x.toNat,Wav.mpr (by omega),by omega⟩
 have q:=hG _ hU;refine Zt2<|Za0<|Za8<|Zeo (by decide)<|Zdh rfl (Zdj b _) ⟨?_,λ_=>true,λd=>match d with|.lst ds=>encRow (lf<|intsOf ds)|.tup ds=>encRow (lf<|intsOf ds)|d=>d,λj d hd=>?_,?_⟩
 ·rw[Waa];exact small1000 (by omega)
 ·obtain⟨p,_,hpm,rfl⟩:=Zel hd
  have a2:=hT.row hpm;refine Zba ⟨rfl,Zaw<|Zab<|Zac rfl<|Zae ⟨p.1,p.2,rfl,by omega,?_,_,rfl⟩⟩;cases hb:p.1 <;> (show _=encRow (lf<|intsOf<|p.2.map .int);rw[Zbr])
 rw[Waz.mpr (by simp),Wal];unfold lfs rowsOf at q;rw[Wal,Wal]at q;refine⟨_,rfl,cast (congrArg (λl=>Post<|D.lst l) (Wa4 λp _=>?_)) q⟩;obtain⟨b',r'⟩:=p;cases b' <;> (show encRow (lf r')=encRow (lf<|intsOf<|r'.map .int);rw[Zbr])
theorem Znh (mb:Mb mg) (cl:Cl K mg cf co ct) (C58:CalleeX P w K mg base 2 "faces_of_table" ["table"] (spX K<|fFoTX ct)) (C55:Callee P w K mg base 2 "ends_at" ["web","place"] (spN K fEnds)) (C69:Callee P w K mg base 6 "rows_told_by" ["told"] (spN K fRTB)) (C66:CalleeX P w K mg base 3 "order_of" ["web","rows"] (spX K<|fOrd43 co)) (F:Fun K "order_by" "order_by" Yad f fd):FnOk P w K mg base (CXE P w) 7 f fd ["web","table"] (spX K<|fOrdByX ct co):=by
 refine F.okX Yaf (Zib λds Post Xp h=>by obtain⟨_,_,_,_,_,rfl,_⟩:=h;rfl) λcdv A outer s H vs Q E hr h=>?_;have hu:=Zbv hr;have hv:=Zg5 hr;refine⟨_,(Zaf (Zaq (i:=2) Yaf.nd rfl (Or.inl rfl)<|Zow C58 (hr.mono<|by decide) Zsc<|Zaa (pv 1) Zad)<|Zaf (Zdf (i:=3) ["place"] (show CompSc (defScope Yad) ["web","table","told","ends","firsts"] _ ["web"] [0] from ⟨rfl,by decide +kernel,by decide +kernel,by decide +kernel,rfl,by decide +kernel⟩) rfl Yaf.nd rfl (Or.inl rfl) (Zbg rfl (mb "range"<|by decide)<|Zaa (Zbe (ixK K hu) (pv 0) Zag λ_ _=>rfl) Zad) (λ_ _ _ _ _=>(Zal (i:=0) (show List.Nodup (["place","web"]:List Str) from by decide) rfl<|Or.inl rfl)) (λ_ _ _ _ _=>Zbb) λ_ _ _ _ _=>(Zav C55 (hr.mono<|by decide)<|Zaa (pv 1)<|Zaa (pv 0) Zad))<|Zaf (Zbd (Zao Zez (Zah (sumK K rfl) rfl (mb "sum"<|by decide) Zpp<|Zaa (Za3 ["face"] (show CompSc (defScope Yad) ["web","table","told","ends","firsts"] _ [] [] from ⟨rfl,by decide +kernel,by decide +kernel,by decide +kernel,rfl,by decide +kernel⟩) rfl (seqK K<|pv 2) (λ_ _ _ _ _=>(Zal (i:=0) (show List.Nodup (["face"]:List Str) from by decide) rfl<|Or.inl rfl)) (λ_ _ _ _ _=>Zbb) λ_ _ _ _ _=>(Zah (lenK K) rfl (mb "len"<|by decide) Za5<|Zaa (pv 0) Zad)) Zad) (Zax Zcl Zag<|Zah (lenK K) rfl (mb "len"<|by decide) Za5<|Zaa (Zbe (ixK K hu) (pv 0) Zag λ_ _=>rfl) Zad)<|nomark _) (Zai<|Zdg cl.e_NoTable rfl cl.n_NoTable hr.hd Zdc<|Zaa Zeu Zad) Zar)<|Zaf (Zbd (Zao Zez (bmK K PySem.F.plainAttrs_list PySem.F.slot_list_count PySem.F.type_list_count (count0K K hv) (pv 2)<|Zaa (Zbq Zad) Zad) (bmK K PySem.F.plainAttrs_list PySem.F.slot_list_count PySem.F.type_list_count (count0K K hv) (pv 3)<|Zaa (Zc9 Zad) Zad)<|nomark _) (Zai<|Zdg cl.e_NoTable rfl cl.n_NoTable hr.hd Zdc<|Zaa Zeu Zad) Zar)<|Zaf (Zaq (i:=4) Yaf.nd rfl (Or.inr rfl)<|Zi9 ["row"] (show CompSc (defScope Yad) ["web","table","told","ends","firsts"] _ [] [] from ⟨rfl,by decide +kernel,by decide +kernel,by decide +kernel,rfl,by decide +kernel⟩) rfl hu (seqK K<|Zav C69 (hr.mono<|by decide)<|Zaa (pv 2) Zad) (λ_ _ _ _ _=>(Zal (i:=0) (show List.Nodup (["row"]:List Str) from by decide) rfl<|Or.inl rfl)) (λ_ _ _ _ _=>(Zbo (slK K) (pv 0) Zcc<|Zcd Zag)) λ_ _ _ _ _=>(pv 0))<|Zai<|Zau<|Zow C66 (hr.mono<|by decide) Zsc<|Zaa (pv 0)<|Zaa (Za3 ["own"] (show CompSc (defScope Yad) ["web","table","told","ends","firsts"] _ ["firsts"] [4] from ⟨rfl,by decide +kernel,by decide +kernel,by decide +kernel,rfl,by decide +kernel⟩) rfl (seqK K<|pv 3) (λ_ _ _ _ _=>(Zal (i:=0) (show List.Nodup (["own","firsts"]:List Str) from by decide) rfl<|Or.inl rfl)) (λ_ _ _ _ _=>Zbb) λ_ _ _ _ _=>(bmK K PySem.F.plainAttrs_dict PySem.F.slot_dict_get PySem.F.type_dict_get (Zny hu) (pv 1)<|Zaa (Za2 (tupK K) rfl (mb "tuple"<|by decide) Za9<|Zaa (Zbo (slK K) (pv 0) Zcc<|Zcd Zag) Zad)<|Zaa (Zbq Zad) Zad)) Zad),Zq8 (λds Post Xp hf=>?_) h⟩;obtain⟨N,ts,o,b,rs,rfl,hW,hO,hT,hG,hB,hX⟩:=hf;refine⟨by simp,?_⟩;dsimp only[startD,Wbj,Wbn,Wa9,Wae];have ll:=Zoi rs;have l1:=hT.len;have lfl:=hT.flat;have l3:=hW.len;have l4:=hW.hi;have l5:=hW.lo;have ho:=hO.len;refine Zex<|Zwj<|Zia<|Zab<|Zac rfl<|Zae ⟨b,rs,rfl,hT,λm hU=>⟨(by decide:2<5),?_⟩,λh=>hX λz=>h _ z.1⟩;have hm:=hU.flat;refine Zkr<|Za1<|Za7 (by decide)<|Zbi<|Zab<|Zam<|Zac rfl<|Zak<|Za6 (d:=.int N) rfl<|Zae ⟨_,rfl,by omega,by omega,?_,λ_=>true,λd=>match d with|.int p=>.lst ((endsBelow ts (2*ts.length) p).map .int)|d=>d,λi d hd=>?_,?_⟩
 ·rw[Zbc];exact small1000 (by omega)
 ·obtain⟨hi,rfl⟩:=Zb5 hd
  exact Zba ⟨rfl,Za8<|Zcq<|Zab<|Zac rfl<|Zab<|Zac rfl<|Zae ⟨(N:Int),ts,_,rfl,l3,_,rfl,rfl,_,rfl⟩⟩
 have e1:((rngD 0 (N:Int).toNat).filter λ_=>true).map (λd=>match d with|.int p=>D.lst ((endsBelow ts (2*ts.length) p).map .int)|d=>d)=(Waq N).map λp=>D.lst ((endsP ts p).map .int):=by
  rw[Waz.mpr (by simp),Wa7];unfold rngD;rw[Wal];refine Wa4 λp _=>?_;show D.lst ((endsBelow ts (2*ts.length) (0+(p:Int))).map .int)=_;rw[Wb5];rfl
 rw[e1];refine Zex<|Zjn<|Zay<|Zam<|Zas<|Zab<|Za7 (by decide)<|Zcn<|Zac rfl ⟨_,Or.inl rfl,?_,λ_=>true,λd=>match d with|.tup ds=>.int (ds.length:Nat)|d=>d,λj d hd=>?_,?_⟩
 ·rw[Waa];exact small1000 (by omega)
 ·rw[Wad]at hd
  cases z:(lfs rs)[j]? with
  |none=>rw[z]at hd;cases hd
  |some r=>
   rw[z]at hd;cases hd;exact Zba ⟨rfl,Zas<|Zab<|Zac rfl<|Zae<|Zbl (Or.inr rfl) ⟨rfl,_,rfl⟩⟩
 have e2:(((lfs rs).map rowD).filter λ_=>true).map (λd=>match d with|.tup ds=>D.int (ds.length:Nat)|d=>d)=((lfs rs).map λr=>(r.length:Int)).map D.int:=by
  rw[Waz.mpr (by simp),Wal,Wal];refine Wa4 λr _=>?_;show D.int ((r.map D.int).length:Nat)=D.int (r.length:Int);rw[Waa]
 rw[e2];refine Zae<|Zn3 ?_;have fl:(lfs rs).flatten.length=2*m:=by rw[<- hm];exact(Zd8<|rowsOf rs).length_eq
 rw[Zh9,fl];refine Zam<|Zak<|Zas<|Zab<|Zam<|Zac rfl<|Zak<|Za6 (Zfi (N:Int) ts)<|Zae<|Zb8 (Or.inr rfl) (Waa _)<|jr_I (Or.inl ⟨by omega,by omega⟩)<|Zha ⟨_,rfl,?_⟩;by_cases hmt:m=ts.length
 case neg=>
  rw[decide_eq_false (show ¬ ((2*m:Nat):Int)=2*(ts.length:Int) by omega)];refine iteT<|Zfn<|Zab<|Zfo<|Zae ⟨Ze7,hX λz=>hmt ?_⟩;have:=z.1.flat;omega
 subst hmt;rw[decide_eq_true (show ((2*ts.length:Nat):Int)=2*(ts.length:Int) by omega)];refine iteF<|Zd6 ?_;refine Zex<|Zjn<|Zay<|Zam<|Zed false<|Zac rfl ⟨(lfs rs).map λr=>r.map D.int,by rw[Wal];rfl,Zbs<|Zae ⟨by decide,rfl,?_⟩⟩;refine Zed true<|Zac rfl ⟨(Waq N).map λp=>(endsP ts p).map D.int,by rw[Wal];rfl,Zf6<|Zae ⟨by decide,rfl,?_⟩⟩;rw[Zcz,Zcz,show ((Waq N).filter λx=>(endsP ts x).isEmpty).length=lone o from hO.bare,show ((lfs rs).filter λr=>r.isEmpty).length=lone (rowsOf rs) from Zq6];refine Zha ⟨_,rfl,?_⟩;by_cases hlo:lone (rowsOf rs)=lone o
 case neg=>
  rw[decide_eq_false (show ¬ ((lone (rowsOf rs):Nat):Int)=((lone o:Nat):Int) by omega)];exact iteT<|Zfn<|Zab<|Zfo<|Zae ⟨Ze7,hX λz=>hlo z.2⟩
 rw[decide_eq_true (show ((lone (rowsOf rs):Nat):Int)=((lone o:Nat):Int) by omega)];refine iteF<|Zd6 ?_;have hG:=hG ⟨hU,hlo⟩;have hB:=hB ⟨hU,hlo⟩;have l2:=Zsn hW hO hU hlo;have T1:Tab (lfs rs) ts.length:=hU.lf;have W:=Zdw T1 (by omega) (by omega) l3;have O:=Zdy T1;have T2:=Zb4 W O;rw[Zbz]at T2;have ql:(toldQ rs ts.length).length<=150:=Zf8 W O;have qt:Tab (toldQ rs ts.length) ts.length:=T2;refine Zkr<|Zb2<|Zgc (od0:=.dtt []) (λ_=>.nil)<|Zcn<|Za8<|Zcq<|Zab<|Zac rfl<|Zae ⟨lfs rs,ts.length,rfl,T1,by omega,by omega,l3,_,rfl,_,Or.inl rfl,λ_ h=>(nomatch h),λi od Δ=>∃kvs,od=.dtt kvs/\FirstsX ((toldQ rs ts.length).take i) kvs/\∃x:L2.Slot,Δ = [x],⟨[],rfl,⟨λk=>(by rw[Wb6];rfl),Wbx _⟩,_,rfl⟩,?_,?_⟩
 ·rintro i d od Δ2 hd ⟨kvs,rfl,hk,x,rfl⟩
  have hd:((toldQ rs ts.length).map rowD)[i]?=some d:=hd;rw[Wad]at hd;cases z:(toldQ rs ts.length)[i]? with
  |none=>rw[z]at hd;cases hd
  |some r=>
   rw[z]at hd;cases hd;have hlt:=(Wag.mp z).1;have kl:=hk.len;rw[Wbk]at kl;refine Zb3<|Zpa<|Zep<|Zac rfl<|Zcb<|Zce<|Zak ⟨_,rfl,.tup ((r.take 1).map D.int),?_,r.take 1,rfl,Zac rfl ⟨small1000 (by omega),_,rfl,?_,_,rfl⟩⟩
   ·show some (D.tup<|cutD (r.map D.int) none<|some 1)=_
    rw[Zf1,Wcj]
   ·rw[Wbi,z]
    exact Zkw hk λr' hr' e=>Zn9 qt (List.mem_of_mem_take hr') (Wai z) e
 rintro od Δ2 ⟨kvs,rfl,hk,x,rfl⟩;rw[Waa,show (allF (dualT (lfs rs) ts.length)<|lfs rs).length=(toldQ rs ts.length).length from rfl,Wbo]at hk;refine Zqf<|Zia<|Zab<|Zac rfl<|Zab<|Za7 (by decide)<|Zcn<|Zac rfl ⟨_,Or.inl rfl,?_,λ_=>true,λd=>match d with|.lst es=>(valT kvs (((intsOf es).take 1).map Sum.inl)).getD (.tup [])|d=>d,λi d hd=>?_,?_⟩
 ·rw[Waa,Wa5];exact small1000 (by omega)
 ·rw[Wad]at hd
  cases z:(Waq N)[i]? with
  |none=>rw[z]at hd;cases hd
  |some p=>
   rw[z]at hd;cases hd;refine Zba ⟨rfl,Zpl rfl rfl<|Zas<|Zab<|Zep<|Zac rfl<|Zcb<|Zce<|Zak ⟨_,rfl,.lst (((endsP ts p).take 1).map D.int),?_,Zae<|Zcf (Or.inl rfl)<|Zbs<|Zae ⟨by decide,_,kvs,(endsP ts p).take 1,rfl,rfl,rfl,?_,_,rfl⟩⟩⟩
   ·show some (D.lst<|cutD ((endsP ts p).map D.int) none<|some 1)=_
    rw[Zf1,Wcj]
   ·show _=(valT kvs (((intsOf ((endsP ts p).map D.int)).take 1).map Sum.inl)).getD (.tup [])
    rw[Zbr]
 have e3:(((Waq N).map λp=>D.lst ((endsP ts p).map .int)).filter λ_=>true).map (λd=>match d with|.lst es=>(valT kvs (((intsOf es).take 1).map Sum.inl)).getD (.tup [])|d=>d)=(laidO N ts<|toldQ rs ts.length).map rowD:=by
  rw[Waz.mpr (by simp),Wal];unfold laidO;rw[Wal];refine Wa4 λp _=>?_;show (valT kvs (((intsOf ((endsP ts p).map D.int)).take 1).map Sum.inl)).getD (.tup [])=rowD (rowFor ts (toldQ rs ts.length) p);rw[Zbr,hk.has];unfold rowFor ownRow headB;cases (toldQ rs ts.length).find? λr=>decide (r.take 1=(endsP ts p).take 1) <;> rfl
 rw[e3];have gi:(∀(i:Nat) r,(laidO N ts<|toldQ rs ts.length)[i]?=some r->r.Perm (endsP ts i))↔GoodQ N ts (toldQ rs ts.length):=by
  constructor
  ·intro h p hp
   exact h p _ (by unfold laidO;rw[Wad,Wb1 hp];rfl)
  ·intro h i r hr
   obtain⟨hi,rfl⟩:=Zqh hr;exact h i hi
 exact Zae ⟨N,ts,_,rfl,hW,Zgd _ _ _,λr hr=>Zj0 qt l3 hr,λh=>(by rw[Zt8 qt];exact hG<|gi.mp h),λh=>hB λz=>h<|gi.mpr z⟩
end
structure RowsOk (ts:List (Int × Int)) (R:List (List Int)):Prop where
 len:R.length<=100
 flat:R.flatten.length<=48
 bnd:∀x∈R.flatten,0<=x/\x<48
 way:(∃m,TabU R m)\/(R.flatten.length≠2*ts.length/\∀m,¬ TabU R m)
theorem Zen {ts:List (Int × Int)}{R:List (List Int)}{m:Nat}(h:TabU R m) (hm:m<=24) (hl:R.length<=100):RowsOk ts R:=
 ⟨hl,by rw[h.flat];omega,λx hx=>by have:=(h.mem x).mp hx;omega,Or.inl ⟨m,h⟩⟩
theorem RowsOk.row {ts:List (Int × Int)}{R:List (List Int)}(h:RowsOk ts R) {r:List Int}(hr:r∈R):r.length<=48:=
 Wby (Wbz hr).length_le h.flat
theorem allF73 {n:Int}{ts:List (Int × Int)}{o:List (List Int)}(hW:WebOk n ts) (hO:OrdOk n ts o) (hn:n<=25):(allF ts o).length<=73:=by
 have n1:=hW.lo;have n3:=hW.len;have ol:=hO.len;unfold allF;rw[Waj,Wa2];have:=Zds (onI ts o) (2*ts.length);have:=Zgk o;omega
theorem Zja (L:Nat) (B:List (List Int)):(Wae L ([]:List Int)++B).flatten=B.flatten:=by
 induction L with
 |zero=>rfl
 |succ L ih=>rw[Wcl,Wc9,Wbb,ih];rfl
theorem Zqb (B:List (List Int)) (p:List Int->Bool) (hp:∀r,p r = !r.isEmpty):(B.filter p).flatten=B.flatten:=by
 induction B with
 |nil=>rfl
 |cons r B ih=>
  rw[Wbt,hp,Wbb];cases r with
  |nil=>exact ih
  |cons x t=>rw[show (!(x::t).isEmpty)=true from rfl,if_pos rfl,Wbb,ih]
theorem Zfp {A B:List (List Int)}{m:Nat}(h:TabU A m) (e:B.flatten=A.flatten):TabU B m:=⟨by rw[e];exact h.nd,λx=>by rw[e];exact h.mem x⟩
def pairsR (t:Nat):List (List Int):=(Waq t).map λk:Nat=>[2*(k:Int),2*(k:Int)+1]
theorem Zfs:∀t:Nat,(pairsR t).flatten=(Waq (2*t)).map λi:Nat=>(i:Int)
 |0=>rfl
 |t+1=>by
  have ih:=Zfs t;unfold pairsR at ih ⊢;rw[Wdc,War,Wcy,ih,show 2*(t+1)=2*t+1+1 by omega,Wdc,Wdc,War,War,Wbe];congr 1
theorem Zpf (t:Nat):TabU (pairsR t) t:=by
 refine⟨?_,λx=>?_⟩
 ·rw[Zfs]
  refine List.Pairwise.map _ (λa b h=>?_) Wc8;intro e;exact h (by omega)
 ·rw[Zfs,Was]
  constructor
  ·rintro⟨k,hk,rfl⟩;have:=Wav.mp hk;omega
  ·intro h;exact⟨x.toNat,Wav.mpr (by omega),by omega⟩
theorem Zoa (t:Nat):(pairsR t).length=t:=by unfold pairsR;rw[Waa,Wa5]
theorem Zmy {n:Int}{ts:List (Int × Int)}{o:List (List Int)}(hW:WebOk n ts) (hO:OrdOk n ts o) {r:List Int}{t:List (List Int)}(e:allF ts o=r::t) (hr:r≠[]):(0:Int)∈r:=by
 have O:=Zdo hW hO;unfold allF at e;cases hl:lone o with
 |succ k=>
  rw[hl,Wcl,Wc9]at e;injection e with e1 _
  exact absurd e1.symm hr
 |zero=>
  rw[hl]at e;have e:facesTo (onI ts o) (2*ts.length)=r::t:=e;cases hm:ts.length with
  |zero=>rw[hm]at e;cases e
  |succ k=>
   have hb:leastB (onI ts o) 0=true:=by
    unfold leastB;rw[decide_eq_true_iff];intro x hx;have:=Zjp O (show (0:Int)<=((0:Nat):Int) by omega) (show ((0:Nat):Int)<((2*ts.length:Nat):Int) by omega) hx;exact this.1
   unfold facesTo at e;rw[hm,show 2*(k+1)=(2*k+1)+1 by omega,List.range_succ_eq_map,Wbt,hb,if_pos rfl,Wa1]at e;injection e with e1 _
   obtain⟨l,hl⟩:=Zei O (show (0:Int)<=((0:Nat):Int) by omega) (show ((0:Nat):Int)<((2*ts.length:Nat):Int) by omega);rw[<- e1,hl];exact Wat
theorem Zm7 {n:Int}{ts ts':List (Int × Int)}{o:List (List Int)}(hW:WebOk n ts') (hO:OrdOk n ts' o) (hn:n<=25) (hl:ts'.length=ts.length):RowsOk ts ((allF ts' o).drop 1):=by
 have T:=(Zb4 hW hO).u;have n3:=hW.len;have l73:=allF73 hW hO hn;have ff:=T.flat;cases e:allF ts' o with
 |nil=>
  refine⟨Wbx _,Wbx _,λx hx=>(nomatch hx),?_⟩;rw[e]at T ff;exact Or.inl ⟨_,T⟩
 |cons r t=>
  show RowsOk ts t;rw[e]at T l73 ff;rw[Wan]at l73;have sub:∀x∈t.flatten,x∈(r::t).flatten:=λx hx=>by rw[Wbb];exact Wa0 _ hx
  have e1:(r::t).flatten.length=r.length+t.flatten.length:=by rw[Wbb,Waj]
  refine⟨by omega,by omega,λx hx=>by have:=(T.mem x).mp (sub x hx);omega,?_⟩;by_cases hr:r=[]
  ·subst hr
   exact Or.inl ⟨_,Zfp T rfl⟩
  ·have rl:0<r.length:=Wda.mpr hr
   by_cases ht:t.flatten=[]
   ·exact Or.inl ⟨0,by rw[ht];exact Wd2,λx=>by rw[ht];exact⟨λh=>(nomatch h),λh=>by omega⟩⟩
   ·refine Or.inr ⟨by omega,λm hm=>?_⟩
    have h0:=Zmy hW hO e hr;have hp:=Wda.mpr ht;have:=hm.flat;have hz:=(hm.mem 0).mpr ⟨by omega,by omega⟩;have nd:=T.nd;rw[Wbb,Wcs]at nd;exact nd.2.2 0 h0 0 hz rfl
def swI (a b x:Int):Int:=if x=a then b else if x=b then a else x
theorem Zsf {a b x m:Int}(ha:0<=a/\a<m) (hb:0<=b/\b<m) (hx:0<=x/\x<m):0<=swI a b x/\swI a b x<m:=by
 unfold swI;split
 ·exact hb
 ·split
  ·exact ha
  ·exact hx
theorem Zp6 (a b x:Int):swI a b (swI a b x)=x:=by
 unfold swI;by_cases h1:x=a
 ·subst h1
  rw[if_pos rfl];by_cases h2:b=x
  ·rw[if_pos h2,h2]
  ·rw[if_neg h2,if_pos rfl]
 ·rw[if_neg h1]
  by_cases h2:x=b
  ·subst h2;rw[if_pos rfl,if_pos rfl]
  ·rw[if_neg h2,if_neg h1,if_neg h2]
def swR (a b:Int) (R:List (List Int)):List (List Int):=R.map λr=>r.map<|swI a b
theorem Zlu (a b:Int) (R:List (List Int)):(swR a b R).flatten=R.flatten.map (swI a b):=by
 unfold swR;rw[List.map_flatten]
theorem Ztz {a b:Int}{R:List (List Int)}{m:Nat}(h:TabU R m) (ha:0<=a/\a<((2*m:Nat):Int)) (hb:0<=b/\b<((2*m:Nat):Int)):TabU (swR a b R) m:=by
 refine⟨?_,λx=>?_⟩
 ·rw[Zlu]
  refine List.Pairwise.map _ (λx y hxy e=>hxy ?_) h.nd;have:=congrArg (swI a b) e
  rwa [Zp6,Zp6]at this
 ·rw[Zlu,Was]
  constructor
  ·rintro⟨y,hy,rfl⟩
   exact Zsf ha hb ((h.mem y).mp hy)
  ·intro hx
   exact⟨swI a b x,(h.mem _).mpr (Zsf ha hb hx),Zp6 a b x⟩
theorem Zrr {k a b j:Nat}(hj:j<k) (ha:a<k) (hb:b<k):((((Waq k).map λi:Nat=>(i:Int)).set a (b:Int)).set b (a:Int))[j]?=some (swI a b (j:Int)):=by
 rw[Wcv,Wcv,Wcu,Waa,Wa5,Wad,Wb1 hj];unfold swI;by_cases h1:b=j
 ·subst h1
  rw[if_pos rfl,if_pos hb];by_cases h2:(b:Int)=(a:Int)
  ·rw[if_pos h2,h2]
  ·rw[if_neg h2,if_pos rfl]
 ·rw[if_neg h1]
  by_cases h2:a=j
  ·subst h2;rw[if_pos rfl,if_pos ha,if_pos rfl]
  ·rw[if_neg h2,if_neg (by omega),if_neg (by omega)];rfl
section
variable {P:Program}{w:World}{K:W.Frag}{mg:Str->Option Value}{base:Heap}{f:Addr}{fd:FuncData}
theorem Zet {K:W.Frag}{Δ:Evt}{i:Nat}{v c:Int}{P:Bool->Evt->Prop}(hx:Δ[i]?=some (.val (.int v))) (h1:v=c->P true Δ) (h2:¬ v=c->P false Δ):JT K (tTest<|tOp rEq (tVar i)<|tC (.int c)) Δ P:=
 Zay (Zam (Zac hx (Zak (Zeq ⟨_,rfl,by
  by_cases h:v=c
  ·rw[decide_eq_true h];exact h1 h
  ·rw[decide_eq_false h];exact h2 h⟩))))
theorem Zn1 (ds:List D):cutD ds (some 1) none=ds.drop 1:=by
 cases ds with
 |nil=>rfl
 |cons d ds=>exact Zfe (d::ds) (j:=1) (by simp)
theorem Zp2 {j n:Nat}(h:j<n):ixN n (j:Int)=some j:=by
 unfold ixN;rw[if_pos (by omega),if_pos (by omega)];rfl
def lstI (r:List Int):D:=.lst<|r.map .int
theorem eqL {α:Type}[DecidableEq α] (f:α -> D) (n:Nat) (h:∀x y,eqF n (f x) (f y)=decide (x=y)):∀a b:List α,((a.map f).length == (b.map f).length && ((a.map f).zip (b.map f)).all λp=>eqF n p.1 p.2)=decide (a=b)
 |[],[]=>rfl
 |[],y::b=>by rw[decide_eq_false (by simp)];rfl
 |x::a,[]=>by rw[decide_eq_false (by simp)];rfl
 |x::a,y::b=>by
  have ih:=eqL f n h a b;rw[Wa1,Wa1,Wan,Wan,Wc2,Wds,h];have e:((a.map f).length+1 == (b.map f).length+1)=((a.map f).length == (b.map f).length):=by
   rw[Wcw,beq_iff_eq,beq_iff_eq];omega
  rw[e];by_cases c:x=y
  ·rw[decide_eq_true c,Wd8,ih]
   by_cases c2:a=b
   ·rw[decide_eq_true c2,decide_eq_true (by rw[c,c2])]
   ·rw[decide_eq_false c2,decide_eq_false (λz=>c2 (List.cons.inj z).2)]
  ·rw[decide_eq_false c,Wd3,Bool.and_false,decide_eq_false (λz=>c (List.cons.inj z).1)]
theorem Zrn (a b:List Int):eqF 2 (lstI a) (lstI b)=decide (a=b):=eqL D.int 1 (λx y=>by show (x == y)=_;exact Wdy x y) a b
theorem Zpq (a:List Int):Dp 2 (lstI a):=λd hd=>by
 obtain⟨x,_,rfl⟩:=Was.mp hd
 trivial
end
def fLaid43:DSp:=λds Post=>∃(N:Nat) (ts:List (Int × Int)) (Q:List (List Int)) (m:Nat),ds=[encWeb (N:Int) ts,.lst (Q.map rowD)]/\WebOk (N:Int) ts/\Tab Q m/\m<=24/\Q.length<=150/\(GoodL N ts Q->Post (encOrd<|laidO N ts Q))/\(¬ GoodL N ts Q->Post .non)
def fExch:BSp:=λps ds Post=>Pen ps/\∃(R:List (List Int)) (m:Nat),ds=[.lst (R.map rowD),.int (2*(m:Int))]/\TabU R m/\m<=24/\R.length<=150/\∀R' ps',Pen ps' -> TabU R' m->R'.length=R.length->Post (.lst<|R'.map rowD) ps'
def fOthers43:BSp:=λps ds Post=>Pen ps/\∃t:Nat,ds=[.int (t:Int)]/\t<=24/\∀n ts o ps',Pen ps' -> WebOk n ts->n<=25->ts.length=t->OrdOk n ts o->Post (.lst ((allF ts o).map rowD)) ps'
def fRows43:BSp:=λps ds Post=>Pen ps/\∃(n:Int) (ts:List (Int × Int)) (o:List (List Int)),ds=[encWeb n ts,encOrd o]/\WebOk n ts/\n<=25/\OrdOk n ts o/\∀R ps',Pen ps' -> RowsOk ts R->Post (.lst<|R.map rowD) ps'
def swD (a b:Int):D->D
 |.int x=>.int (swI a b x)
 |d=>d
theorem Zi5 {Q:List (List Int)}{es:List Int}:(Q.filter<|headB es)[0]?=ownRow Q es:=by
 unfold ownRow;rw[<- List.head?_eq_getElem?,List.head?_filter]
theorem Zof {N k:Nat}{ts:List (Int × Int)}{Q:List (List Int)}(h:∀p,p<k->∃r,ownRow Q (endsP ts p)=some r/\r.Perm (endsP ts p)) {r:List Int}(h1:ownRow Q (endsP ts k)=some r) (h2:r.Perm (endsP ts k)):∀p,p<k+1->∃r,ownRow Q (endsP ts p)=some r/\r.Perm (endsP ts p):=λp hp=>by
 by_cases e:p=k
 ·subst e;exact⟨r,h1,h2⟩
 ·exact h p (by omega)
theorem Zm8 {k:Nat}{ts:List (Int × Int)}{Q:List (List Int)}{r:List Int}(h1:ownRow Q (endsP ts k)=some r):laidO (k+1) ts Q=laidO k ts Q++[r]:=by
 unfold laidO;rw[Wdc,War];show _++[rowFor ts Q k]=_;unfold rowFor;rw[h1];rfl
section
variable {P:Program}{w:World}{K:W.Frag}{mg:Str->Option Value}{base:Heap}{f:Addr}{fd:FuncData}
theorem Znj (mb:Mb mg) (F:Fun K "_law_laid" "_law_laid" Yas f fd):FnOk P w K mg base CX0 1 f fd ["_law_web_here","_law_rows_here"] (spD K fLaid43):=by
 refine F.ok Yav (Zbu λds Post h=>by obtain⟨_,_,_,_,rfl,_⟩:=h;rfl) λcdv A outer s H vs Q E hr h=>?_;have hu:=Zbv hr;have hv:=Zg5 hr;refine⟨_,(Zaf (Zaq (i:=2) Yav.nd rfl (Or.inl rfl)<|Zc9 Zad)<|Zaf (Zd3 PassesOwn.never rfl (Zbg rfl (mb "range"<|by decide)<|Zaa (Zbe (ixK K hu) (pv 0) Zag λ_ _=>rfl) Zad) (Zal (i:=3) Yav.nd rfl<|Or.inr rfl)<|Zaf (Zaq (i:=4) Yav.nd rfl (Or.inr rfl)<|Za3 ["_law_k"] (show CompSc (defScope Yas) ["_law_web_here","_law_rows_here","_law_found","_law_place","_law_ends","_law_own"] _ ["_law_web_here","_law_place"] [0,3] from ⟨rfl,by decide +kernel,by decide +kernel,by decide +kernel,rfl,by decide +kernel⟩) rfl (Zbg rfl (mb "range"<|by decide)<|Zaa (Zax Zcl Zag<|Zah (lenK K) rfl (mb "len"<|by decide) Za5<|Zaa (Zbe (ixK K hu) (pv 0) Zag λ_ _=>rfl) Zad) Zad) (λ_ _ _ _ _=>(Zal (i:=0) (show List.Nodup (["_law_k","_law_web_here","_law_place"]:List Str) from by decide) rfl<|Or.inl rfl)) (λ_ _ _ _ _=>(Ze2<|Zao Zbm (Zbe (ixK K hu) (Zbe (ixK K hu) (Zbe (ixK K hu) (pv 1) Zag λ_ _=>rfl) (Zax Zh7 (pv 0) Zag) λ_ _=>rfl) (Zax Zcg (pv 0) Zag) λ_ _=>rfl) (pv 2)<|nomark _)) λ_ _ _ _ _=>(pv 0))<|Zaf (Zdf (i:=5) ["_law_row"] (show CompSc (defScope Yas) ["_law_web_here","_law_rows_here","_law_found","_law_place","_law_ends","_law_own"] _ ["_law_ends"] [4] from ⟨rfl,by decide +kernel,by decide +kernel,by decide +kernel,rfl,by decide +kernel⟩) rfl Yav.nd rfl (Or.inl rfl) (seqK K<|pv 1) (λ_ _ _ _ _=>(Zal (i:=0) (show List.Nodup (["_law_row","_law_ends"]:List Str) from by decide) rfl<|Or.inl rfl)) (λ_ _ _ _ _=>(Ze2<|Zao (eqDK K hv) (Za2 (lstK K) rfl (mb "list"<|by decide) Zfw<|Zaa (Zbo (slK K) (pv 0) Zcc<|Zcd Zag) Zad) (Zbo (slK K) (pv 1) Zcc<|Zcd Zag)<|nomark _)) λ_ _ _ _ _=>(pv 0))<|Zaf (Zbd (PW.pt<|pw_or (Zao Zbm (Zah (lenK K) rfl (mb "len"<|by decide) Za5<|Zaa (pv 5) Zad) Zag<|nomark _)<|pw_or1<|Zao (neILK K hv) (Zah (sortTK K) rfl (mb "sorted"<|by decide) Zc6<|Zaa (Zbe (ixK K hu) (pv 5) Zag λ_ _=>rfl) Zad) (pv 4)<|nomark _) (Zai<|Zau Zon) Zar)<|Zai<|Zc5<|bmK K PySem.F.plainAttrs_list PySem.F.slot_list_append PySem.F.type_list_append Zb9 (pv 2)<|Zaa (Zbe (ixK K hu) (pv 5) Zag λ_ _=>rfl) Zad)<|Zai<|Zau<|Za2 (tupK K) rfl (mb "tuple"<|by decide) Za9<|Zaa (pv 2) Zad),Zdt (λds Post hf=>?_) h⟩;obtain⟨N,ts,R,m,rfl,hW,hT,hm,hR,hG,hB⟩:=hf;refine⟨by simp,?_⟩;dsimp only[startD,Wbj,Wbn,Wa9,Wae];have hl:=hW.len;have hn:=hW.hi;have eL:((2:Int)*(ts.length:Int)).toNat=2*ts.length:=by omega
 refine Zaj<|Zb2<|Zfh<|Zae ⟨by decide,?_⟩;refine Zb6 (λΔ=>GoodL N ts R/\∃x3 x4 x5:L2.Slot,Δ = [.val (encWeb (N:Int) ts),.val (.lst<|R.map rowD),.own (.lst ((laidO N ts R).map rowD)),x3,x4,x5]) ?_ ?_
 ·refine Zd5 (Zbi<|Zab<|Zam<|Zac rfl<|Zak<|Za6 (d:=.int N) rfl<|Zae ⟨_,rfl,by omega,by omega,?_⟩)
  rw[Wa7];refine⟨λi Δ=>(∀p,p<i->∃r,ownRow R (endsP ts p)=some r/\r.Perm (endsP ts p))/\∃x3 x4 x5:L2.Slot,Δ = [.val (encWeb (N:Int) ts),.val (.lst<|R.map rowD),.own (.lst ((laidO i ts R).map rowD)),x3,x4,x5],⟨λp h=>(by omega),_,_,_,rfl⟩,?_,?_⟩
  ·rintro i d Δ2 hd ⟨hI,x3,x4,x5,rfl⟩
   obtain⟨hi,rfl⟩:=Zb5 hd;refine Zb3<|Zaj<|Za1<|Za7 (by decide)<|Zbi<|Zab<|Zam<|Zak<|Zas<|Zab<|Zam<|Zac rfl<|Zak<|Za6 (Zfi (N:Int) ts)<|Zae<|Zbl (Or.inr rfl) ?_;rw[Waa];refine jr_I (Or.inl ⟨by omega,by omega⟩)<|Zae ⟨_,rfl,by omega,by omega,?_⟩;rw[eL];refine⟨by rw[Zbc];exact small1000 (by omega),λd=>match d with|.int e=>decide (placeAt ts e.toNat=(0+(i:Int)))|_=>false,λd=>d,λj d hd=>?_,?_⟩
   ·obtain⟨hj,rfl⟩:=Zb5 hd
    obtain⟨t,h1,h2,h3⟩:=Zm1 hj;refine Zay<|Zam<|Zam<|Zam<|Zam<|Zac rfl<|Zak<|Za6 (Zfi (N:Int) ts) ?_;refine Zam<|Zac rfl<|Zak<|jr_I ⟨by omega,by omega⟩<|Za6 h2 ?_;refine Zam<|Zac rfl<|Zak<|jr_I (by show (0:Int)<2;omega)<|Za6 h3 ?_;refine Zac rfl<|Zeq ⟨_,rfl,?_,?_⟩
    ·show _=decide (placeAt ts (0+(j:Int)).toNat=(0+(i:Int)))
     rw[show (0+(j:Int)).toNat=j by omega]
    ·by_cases hp:placeAt ts j=(0+(i:Int))
     ·rw[decide_eq_true hp,if_pos rfl];exact Zac rfl ⟨rfl,_,rfl⟩
     ·rw[decide_eq_false hp,if_neg Wam];exact⟨_,rfl⟩
   rw[Wed,Zgv ts _ (0+(i:Int)) _ λk=>by show decide (placeAt ts (0+(k:Int)).toNat=(0+(i:Int)))=_;rw[show (0+(k:Int)).toNat=k by omega]];rw[Wb5,show endsBelow ts (2*ts.length) (i:Int)=endsP ts i from rfl];refine Zaj<|Za1<|Za7 (by decide)<|Zcn<|Zac rfl ⟨_,Or.inl rfl,?_,λd=>match d with|.tup ds=>headB (endsP ts i) (intsOf ds)|_=>false,λd=>d,λj d hd=>?_,?_⟩
   ·rw[Waa];exact small1000 (by omega)
   ·rw[Wad]at hd
    cases z:R[j]? with
    |none=>rw[z]at hd;cases hd
    |some r=>
     rw[z]at hd;cases hd;refine Zay<|Zam<|Zas<|Zab<|Zep<|Zac rfl<|Zcb<|Zce<|Zak ⟨_,rfl,.tup ((r.take 1).map D.int),?_,?_⟩
     ·show some (D.tup<|cutD (r.map D.int) none<|some 1)=_
      rw[Zf1,Wcj]
     refine Zae<|Zk4 (Or.inr rfl)<|Zep<|Zac rfl<|Zcb<|Zce<|Zak ⟨_,rfl,.lst (((endsP ts i).take 1).map D.int),?_,?_⟩
     ·show some (D.lst<|cutD ((endsP ts i).map D.int) none<|some 1)=_
      rw[Zf1,Wcj]
     refine Zv9 (n:=2) (by omega) (Zpq _) (Zpq _) rfl rfl ?_;rw[show eqF 2 (.lst ((r.take 1).map D.int)) (.lst (((endsP ts i).take 1).map D.int))=headB (endsP ts i) r from Zrn _ _];refine⟨_,rfl,?_,?_⟩
     ·show _=headB (endsP ts i) (intsOf<|r.map .int)
      rw[Zbr]
     ·split
      ·exact Zac rfl ⟨rfl,_,rfl⟩
      ·exact⟨_,rfl⟩
   have eF:((R.map rowD).filter λd=>match d with|.tup ds=>headB (endsP ts i) (intsOf ds)|_=>false).map (λd=>d)=(R.filter<|headB<|endsP ts i).map rowD:=by
    rw[Wed,Wdp];congr 1;refine Wc5 λr _=>?_;show headB (endsP ts i) (intsOf<|r.map .int)=_;rw[Zbr]
   rw[eF];cases hz:(R.filter<|headB<|endsP ts i) with
   |nil=>
    have hno:ownRow R (endsP ts i)=none:=by rw[<- Zi5,hz];rfl
    refine Zaj<|Zbn<|Zer<|Zay<|Zam<|Zas<|Zab<|Zac rfl<|Zae<|Zbl (Or.inl rfl)<|Zak<|Zeq ⟨true,rfl,iteT ?_⟩;exact Za0<|Zhh (hB λz=>by obtain⟨r,h1,_⟩:=z i hi;rw[hno]at h1;cases h1)
   |cons r0 rest=>
    have hso:ownRow R (endsP ts i)=some r0:=by rw[<- Zi5,hz];rfl
    have hmem:r0∈R:=(Wbd.mp (by rw[hz];exact Wat:r0∈R.filter (headB<|endsP ts i))).1;have rl:=Zk1 hT hm hmem;refine Zaj<|Zbn<|Zer<|Zay<|Zam<|Zas<|Zab<|Zac rfl<|Zae<|Zb8 (Or.inl rfl) (Waa _)<|Zak<|Zeq ⟨false,congrArg D.bl<|decide_eq_false (by rw[Wan];omega),iteF ?_⟩;refine Zay<|Zam<|Za8<|Ziu<|Zab<|Zam<|Zac rfl<|Zak<|Zee (d:=rowD r0) (Zcy (j:=0) rfl)<|Zae ⟨r0,rfl,by omega,λms m1 m2=>⟨_,rfl,Zac rfl<|Zkc ⟨_,rfl,?_⟩⟩⟩;by_cases em:ms=endsP ts i
    ·rw[decide_eq_true em]
     refine iteF<|Zaz ?_;have hp:r0.Perm (endsP ts i):=by rw[<- em];exact m1.symm
     refine Zf3 rfl rfl<|Zam<|Zac rfl<|Zak<|Zee (d:=rowD r0) (Zcy (j:=0) rfl) ⟨_,_,rfl,rfl,?_,Zof (N:=N) hI hso hp,.val (.int (i:Int)),.val (.lst ((endsP ts i).map .int)),.val (.lst ((r0::rest).map rowD)),?_⟩
     ·rw[Waa,Zgd];exact small1000 (by omega)
     ·rw[Zm8 hso,War];rfl
    ·rw[decide_eq_false em]
     refine iteT<|Za0<|Zhh (hB λz=>?_);obtain⟨r,h1,h2⟩:=z i hi;rw[hso]at h1;cases h1;exact em<|List.Perm.eq_of_pairwise (le:=λa b=>a<=b) (λa b _ _ h1 h2=>by omega) m2 ((Zcw _ _ _).imp λh=>Wd1 h)<|m1.trans h2
  ·rintro Δ2 ⟨hI,x3,x4,x5,rfl⟩
   rw[Zbc]at hI ⊢;exact⟨hI,x3,x4,x5,rfl⟩
 rintro Δ1 ⟨hI,x3,x4,x5,rfl⟩;exact Za0<|Zas<|Zab<|Zc8 rfl<|Zae<|Zcf (Or.inl rfl)<|hG hI
theorem Ztw (mb:Mb mg) (C40:Callee P w K mg base 1 "_law_draw" ["_law_pen_here","_law_many"] (spB K fDraw)) (F:Fun K "_law_exchanged" "_law_exchanged" Yat f fd):FnOk P w K mg base CX0 2 f fd ["_law_pen_here","_law_rows_here","_law_many"] (spB K fExch):=by
 refine F.ok Ybq (Zdi λps ds Post h=>by obtain⟨_,_,_,rfl,_⟩:=h;rfl) λcdv A outer s H vs Q E hr h=>?_;have hu:=Zbv hr;refine⟨_,(Zaf (Zbd (Zao Zbm (pv 2) Zag<|nomark _) (Zai<|Zau<|pv 1) Zar)<|Zaf (Zph (i:=3) (j:=4) rfl Ybq.nd rfl rfl (by decide) rfl rfl (Zaa (Zav C40 (hr.mono<|by decide)<|Zaa (pv 0)<|Zaa (pv 2) Zad)<|Zaa (Zav C40 (hr.mono<|by decide)<|Zaa (pv 0)<|Zaa (pv 2) Zad) Zad) rfl)<|Zaf (Zaq (i:=5) Ybq.nd rfl (Or.inr rfl)<|Zde rfl rfl (mb "list"<|by decide) rfl (mb "range"<|by decide)<|Zaa (pv 2) Zad)<|Zaf (Zf5 (pv 4)<|Zgs (pv 5) (pv 3)<|setU hu)<|Zaf (Zf5 (pv 3)<|Zgs (pv 5) (pv 4)<|setU hu)<|Zai<|Zau<|Za3 ["_law_row"] (show CompSc (defScope Yat) ["_law_pen_here","_law_rows_here","_law_many","_law_one","_law_other","_law_names"] _ ["_law_names"] [5] from ⟨rfl,by decide +kernel,by decide +kernel,by decide +kernel,rfl,by decide +kernel⟩) rfl (seqK K<|pv 1) (λ_ _ _ _ _=>(Zal (i:=0) (show List.Nodup (["_law_row","_law_names"]:List Str) from by decide) rfl<|Or.inl rfl)) (λ_ _ _ _ _=>Zbb) λ_ _ _ _ _=>(Za2 (tupK K) rfl (mb "tuple"<|by decide) Za9<|Zaa (Za3 ["_law_end"] (show CompSc (relab (defScope Yat) _) ["_law_row","_law_names"] _ ["_law_names"] [1] from ⟨rfl,by decide +kernel,by decide +kernel,by decide +kernel,rfl,by decide +kernel⟩) rfl (seqK K<|pv 0) (λ_ _ _ _ _=>(Zal (i:=0) (show List.Nodup (["_law_end","_law_names"]:List Str) from by decide) rfl<|Or.inl rfl)) (λ_ _ _ _ _=>Zbb) λ_ _ _ _ _=>(Zbe (ixK K hu) (pv 1) (pv 0) λ_ _=>rfl)) Zad)),Zhc (λps ds Post hf=>?_) h⟩;obtain⟨hp,R,m,rfl,hT,hm,hR,q⟩:=hf;refine⟨by simp,?_⟩;dsimp only[cxOf,startD,Wbj,Wbn,Wa9,Wae];refine Zaj<|Zbn<|Zay<|Zam<|Zac rfl<|Zak<|Zeq ⟨_,rfl,ite2 (λz=>?_) λz=>Zaz ?_⟩
 ·exact Za0<|Zac rfl ⟨_,rfl,q R _ hp hT rfl⟩
 have z:¬ 2*(m:Int)=0:=of_decide_eq_false<|Wdj.mpr z;refine Zaj<|Zpc<|Zab<|Zgr rfl rfl<|Zab<|Zac rfl<|Zae (Zfu rfl rfl hp (by omega) (by omega) λa ps1 hp1 a0 a1=>?_);refine Zab<|Zgr rfl rfl<|Zab<|Zac rfl<|Zae (Zfu rfl rfl hp1 (by omega) (by omega) λb ps2 hp2 b0 b1=>Zae ⟨_,_,rfl,?_⟩);obtain⟨a,rfl⟩:∃k:Nat,a=(k:Int):=⟨a.toNat,by omega⟩;obtain⟨b,rfl⟩:∃k:Nat,b=(k:Int):=⟨b.toNat,by omega⟩;refine Zaj<|Zb2<|Zqm<|Zab<|Zac rfl<|Zae ⟨2*m,by rw[show 2*(m:Int)=((2*m:Nat):Int) by omega],by omega,?_⟩;rw[show ((Waq (2*m)).map λi:Nat=>D.int (i:Int))=((Waq (2*m)).map λi:Nat=>(i:Int)).map D.int by rw[Wal];rfl];refine Zaj<|Zic<|Zac rfl ⟨⟨_,_,rfl,rfl⟩,Zac rfl ⟨_,_,(a:Int),a,rfl,rfl,rfl,Zp2 (by rw[Waa,Waa,Wa5];omega),?_⟩⟩;refine Zaj<|Zic<|Zac rfl ⟨⟨_,_,rfl,rfl⟩,Zac rfl ⟨_,_,(b:Int),b,rfl,rfl,rfl,Zp2 (by rw[Wcu,Waa,Waa,Wa5];omega),?_⟩⟩;rw[show ((((Waq (2*m)).map λi:Nat=>(i:Int)).map D.int).set a (.int (b:Int))).set b (.int (a:Int))=(((((Waq (2*m)).map λi:Nat=>(i:Int))).set a (b:Int)).set b (a:Int)).map D.int by rw[Wec,Wec]];generalize hL:((((Waq (2*m)).map λi:Nat=>(i:Int))).set a (b:Int)).set b (a:Int)=L;refine Zvo (i:=5) rfl ?_;refine Za0<|Za7 (by decide)<|Zcn<|Zac rfl ⟨_,Or.inl rfl,?_,λ_=>true,λd=>match d with|.tup ds=>.tup (ds.map<|swD a b)|d=>d,λj d hd=>?_,?_⟩
 ·rw[Waa];exact small1000 (by omega)
 ·rw[Wad]at hd
  cases zr:R[j]? with
  |none=>rw[zr]at hd;cases hd
  |some r=>
   rw[zr]at hd;cases hd;have hrm:=Wai zr;have rl:=(Zi2 hT hm hrm).2;refine Zba ⟨rfl,Zas<|Zab<|Za7 (by decide)<|Ze1<|Zac rfl ⟨_,rfl,?_,λ_=>true,swD a b,λk e he=>?_,?_⟩⟩
   ·rw[Waa];exact small1000 (by omega)
   ·rw[Wad]at he
    cases zx:r[k]? with
    |none=>rw[zx]at he;cases he
    |some x=>
     rw[zx]at he;cases he;have hx:=(hT.mem x).mp (Wca.mpr ⟨r,hrm,Wai zx⟩);obtain⟨x,rfl⟩:∃y:Nat,x=(y:Int):=⟨x.toNat,by omega⟩;refine Zba ⟨rfl,Zam<|Zac rfl<|Zac rfl<|Zee (d:=.int<|swI a b (x:Int)) (Zcy ?_) ⟨rfl,_,rfl⟩⟩;rw[Wad,<- hL,Zrr (by omega) (by omega) (by omega)];rfl
   rw[Waz.mpr (by simp)];exact Zae<|Zcf (Or.inl rfl) ⟨rfl,_,rfl⟩
 have e1:((R.map rowD).filter λ_=>true).map (λd=>match d with|.tup ds=>D.tup (ds.map<|swD a b)|d=>d)=(swR a b R).map rowD:=by
  rw[Waz.mpr (by simp),Wal];unfold swR;rw[Wal];refine Wa4 λr _=>?_;show D.tup ((r.map D.int).map (swD a b))=D.tup ((r.map<|swI a b).map D.int);rw[Wal,Wal];rfl
 rw[e1];exact⟨_,rfl,q _ _ hp2 (Ztz hT ⟨by omega,by omega⟩ ⟨by omega,by omega⟩) (by unfold swR;rw[Waa])⟩
theorem Zkk (mb:Mb mg) (C40:Callee P w K mg base 1 "_law_draw" ["_law_pen_here","_law_many"] (spB K fDraw)) (C47:Callee P w K mg base 2 "_law_order" ["_law_pen_here","_law_web_here"] (spB K fOrder)) (C43:Callee P w K mg base 2 "_law_faces" ["_law_order_here"] (spN K fLFacesU)) (F:Fun K "_law_others" "_law_others" Ya2 f fd):FnOk P w K mg base CX0 3 f fd ["_law_pen_here","_law_ties"] (spB K fOthers43):=by
 refine F.ok Ybr (Zdi λps ds Post h=>by obtain⟨_,_,rfl,_⟩:=h;rfl) λcdv A outer s H vs Q E hr h=>?_;have hu:=Zbv hr;refine⟨_,(Zaf (Zaq (i:=2) Ybr.nd rfl (Or.inr rfl)<|Zax (addK K) Zag<|Zav C40 (hr.mono<|by decide)<|Zaa (pv 0)<|Zaa Zag Zad)<|Zaf (Zaq (i:=3) Ybr.nd rfl (Or.inl rfl)<|Zbq<|Zaa (pv 2)<|Zaa (Za2 (tupK K) rfl (mb "tuple"<|by decide) Za9<|Zaa (Za3 ["_law_k"] (show CompSc (defScope Ya2) ["_law_pen_here","_law_ties","_law_many","_law_web_here"] _ ["_law_pen_here","_law_many"] [0,2] from ⟨rfl,by decide +kernel,by decide +kernel,by decide +kernel,rfl,by decide +kernel⟩) rfl (Zbg rfl (mb "range"<|by decide)<|Zaa (pv 1) Zad) (λ_ _ _ _ _=>(Zal (i:=0) (show List.Nodup (["_law_k","_law_pen_here","_law_many"]:List Str) from by decide) rfl<|Or.inl rfl)) (λ_ _ _ _ _=>Zbb) λ_ _ _ _ _=>(Zbq<|Zaa (Zav C40 (hr.mono<|by decide)<|Zaa (pv 1)<|Zaa (pv 2) Zad)<|Zaa (Zav C40 (hr.mono<|by decide)<|Zaa (pv 1)<|Zaa (pv 2) Zad) Zad)) Zad) Zad)<|Zai<|Zau<|Zav C43 (hr.mono<|by decide)<|Zaa (Zav C47 (hr.mono<|by decide)<|Zaa (pv 0)<|Zaa (pv 3) Zad) Zad),Zhc (λps ds Post hf=>?_) h⟩;obtain⟨hp,t,rfl,ht,q⟩:=hf;refine⟨by simp,?_⟩;dsimp only[cxOf,startD,Wbj,Wbn,Wa9,Wae];refine Zaj<|Za1<|Zam<|Zak (Zrd rfl rfl hp (by decide) (by decide) λr ps1 hp1 r0 r1=>Zc3 ?_);refine Zaj<|Za1<|Zbs<|Zab<|Zac rfl<|Zab<|Zas<|Zab<|Zox (n:=1) (by decide)<|Zbi<|Zab<|Zac rfl<|Zae ⟨_,rfl,by omega,by omega,?_⟩;rw[Wa7];refine⟨by rw[Zbc];exact small1000 (by omega),λi ys Δ2=>∃(psx:List D) (ts:List (Int × Int)) (x:L2.Slot),Pen psx/\ts.length=i/\(∀t∈ts,0<=t.1/\t.1<1+r/\0<=t.2/\t.2<1+r)/\ys=ts.map encTie /\ Δ2=[x,.bor (.lst psx),.val (.int (1+r))],⟨ps1,[],.any,hp1,rfl,λ_ h=>(nomatch h),rfl,rfl⟩,?_,?_⟩
 ·rintro i d ys Δ2 hd ⟨psx,ts,x,hpx,hlt,hts,rfl,rfl⟩
  refine Zq3 (by decide) (Nat.succ_pos _)<|Zba<|iteT ?_;refine Zbs<|Zab<|Zgr rfl rfl<|Zab<|Zac rfl<|Zae (Zfu rfl rfl hpx (by omega) (by omega) λa ps2 hp2 a0 a1=>?_);refine Zab<|Zgr rfl rfl<|Zab<|Zac rfl<|Zae (Zfu rfl rfl hp2 (by omega) (by omega) λb ps3 hp3 b0 b1=>Zae ⟨Zdp,?_⟩);refine⟨ps3,ts++[(a,b)],_,hp3,by rw[Waj,hlt];rfl,λz hz=>?_,by rw[War];rfl,rfl⟩;rcases Wbp.mp hz with h|h
  ·exact hts z h
  ·rw[Wbs.mp h];exact⟨a0,a1,b0,b1⟩
 ·rintro ys Δ2 ⟨psx,ts,x,hpx,hlt,hts,rfl,rfl⟩
  rw[Zbc]at hlt;refine Zae<|Zcf (Or.inl rfl)<|Zae ⟨Zdp,?_⟩;have hW:WebOk (1+r) ts:=⟨by omega,by omega,by omega,hts⟩;refine Za0<|Za8<|Zcq<|Zab<|Zgr rfl rfl<|Zab<|Zac rfl<|Zae (⟨_,_,rfl,rfl,hpx,_,_,rfl,hW,by omega,λo ps4 hp4 hO=>?_⟩);have:=hO.len;exact Zae ⟨false,o,1+r,ts,o,rfl,hW,hO,Zgj hW hO,by omega,_,rfl,_,rfl,q (1+r) ts o _ hp4 hW (by omega) hlt hO⟩
theorem Znw (mb:Mb mg) (C40:Callee P w K mg base 1 "_law_draw" ["_law_pen_here","_law_many"] (spB K fDraw)) (C43:Callee P w K mg base 2 "_law_faces" ["_law_order_here"] (spN K fLFacesU)) (C42:Callee P w K mg base 2 "_law_exchanged" ["_law_pen_here","_law_rows_here","_law_many"] (spB K fExch)) (C48:Callee P w K mg base 3 "_law_others" ["_law_pen_here","_law_ties"] (spB K fOthers43)) (F:Fun K "_law_rows" "_law_rows" Yan f fd):FnOk P w K mg base CX0 4 f fd ["_law_pen_here","_law_web_here","_law_order_here"] (spB K fRows43):=by
 refine F.ok Yaw (Zdi λps ds Post h=>by obtain⟨_,_,_,_,rfl,_⟩:=h;rfl) λcdv A outer s H vs Q E hr h=>?_;have hu:=Zbv hr;refine⟨_,(Zaf (Zaq (i:=3) Yaw.nd rfl (Or.inl rfl)<|Zav C43 (hr.mono<|by decide)<|Zaa (pv 2) Zad)<|Zaf (Zdf (i:=4) ["_law_row"] (show CompSc (defScope Yan) ["_law_pen_here","_law_web_here","_law_order_here","_law_rows_here","_law_lone","_law_way"] _ [] [] from ⟨rfl,by decide +kernel,by decide +kernel,by decide +kernel,rfl,by decide +kernel⟩) rfl Yaw.nd rfl (Or.inl rfl) (seqK K<|pv 3) (λ_ _ _ _ _=>(Zal (i:=0) (show List.Nodup (["_law_row"]:List Str) from by decide) rfl<|Or.inl rfl)) (λ_ _ _ _ _=>(Ze2<|Zao Zbm (Zah (lenK K) rfl (mb "len"<|by decide) Za5<|Zaa (pv 0) Zad) Zag<|nomark _)) λ_ _ _ _ _=>(pv 0))<|Zaf (Zaq (i:=5) Yaw.nd rfl (Or.inl rfl)<|Zav C40 (hr.mono<|by decide)<|Zaa (pv 0)<|Zaa Zag Zad)<|Zaf (Zbd (Zao Zbm (pv 5) Zag<|nomark _) (Zai<|Zau<|Zav C42 (hr.mono<|by decide)<|Zaa (pv 0)<|Zaa (pv 3)<|Zaa (Zax Zcl Zag<|Zah (lenK K) rfl (mb "len"<|by decide) Za5<|Zaa (Zbe (ixK K hu) (pv 1) Zag λ_ _=>rfl) Zad) Zad) Zar)<|Zaf (Zbd (PW.pt<|pw_or (Zao Zbm (pv 5) Zag<|nomark _)<|pw_or1<|Zao Zbm (pv 5) Zag<|nomark _) (Zai<|Zaq (i:=3) Yaw.nd rfl (Or.inl rfl)<|Zav C48 (hr.mono<|by decide)<|Zaa (pv 0)<|Zaa (Zah (lenK K) rfl (mb "len"<|by decide) Za5<|Zaa (Zbe (ixK K hu) (pv 1) Zag λ_ _=>rfl) Zad) Zad) Zar)<|Zaf (Zbd (Zao Zbm (pv 5) Zag<|nomark _) (Zai<|Zau<|Zax (addK K) (pv 4)<|Za3 ["_law_row"] (show CompSc (defScope Yan) ["_law_pen_here","_law_web_here","_law_order_here","_law_rows_here","_law_lone","_law_way"] _ [] [] from ⟨rfl,by decide +kernel,by decide +kernel,by decide +kernel,rfl,by decide +kernel⟩) rfl (seqK K<|pv 3) (λ_ _ _ _ _=>(Zal (i:=0) (show List.Nodup (["_law_row"]:List Str) from by decide) rfl<|Or.inl rfl)) (λ_ _ _ _ _=>(Ze2<|Zao Zmm (Zah (lenK K) rfl (mb "len"<|by decide) Za5<|Zaa (pv 0) Zad) Zag<|nomark _)) λ_ _ _ _ _=>(pv 0)) Zar)<|Zaf (Zbd (Zao Zbm (pv 5) Zag<|nomark _) (Zai<|Zau<|Zax (addK K) (Zc9<|Zaa (Zbq Zad) Zad)<|pv 3) Zar)<|Zaf (Zbd (Zao Zbm (pv 5) Zag<|nomark _) (Zai<|Zau<|Zbo (slK K) (pv 3) (Zcd Zag) Zcc) Zar)<|Zaf (Zbd (Zao Zbm (pv 5) Zag<|nomark _) (Zai<|Zau<|Zax (addK K) (pv 4)<|Za3 ["_law_k"] (show CompSc (defScope Yan) ["_law_pen_here","_law_web_here","_law_order_here","_law_rows_here","_law_lone","_law_way"] _ [] [] from ⟨rfl,by decide +kernel,by decide +kernel,by decide +kernel,rfl,by decide +kernel⟩) rfl (Zbg rfl (mb "range"<|by decide)<|Zaa (Zah (lenK K) rfl (mb "len"<|by decide) Za5<|Zaa (Zbe (ixK K hu) (pv 1) Zag λ_ _=>rfl) Zad) Zad) (λ_ _ _ _ _=>(Zal (i:=0) (show List.Nodup (["_law_k"]:List Str) from by decide) rfl<|Or.inl rfl)) (λ_ _ _ _ _=>Zbb) λ_ _ _ _ _=>(Zbq<|Zaa (Zax Zcl Zag<|pv 0)<|Zaa (Zax (addK K) (Zax Zcl Zag<|pv 0) Zag) Zad)) Zar)<|Zaf (Zbd (Zao Zbm (pv 5) Zag<|nomark _) (Zai<|Zau<|Zav C48 (hr.mono<|by decide)<|Zaa (pv 0)<|Zaa (Zav C40 (hr.mono<|by decide)<|Zaa (pv 0)<|Zaa Zag Zad) Zad) Zar)<|Zai<|Zau<|pv 3),Zhc (λps ds Post hf=>?_) h⟩;obtain⟨hp,n,ts,o,rfl,hW,hn,hO,q⟩:=hf;refine⟨by simp,?_⟩;dsimp only[cxOf,startD,Wbj,Wbn,Wa9,Wae];have n1:=hW.lo;have n3:=hW.len;have ol:=hO.len;have f73:=allF73 hW hO hn;have ll:=Zgk o;refine Zaj<|Za1<|Za8<|Zcq<|Zab<|Zac rfl<|Zae ⟨false,o,n,ts,o,rfl,hW,hO,Zgj hW hO,by omega,_,rfl,?_⟩;refine Zaj<|Za1<|Za7 (by decide)<|Zcn<|Zac rfl ⟨_,Or.inl rfl,?_,λd=>match d with|.tup ds=>decide ((ds.length:Int)=0)|_=>false,λd=>.tup [],λj d hd=>?_,?_⟩
 ·rw[Waa];exact small1000 (by omega)
 ·rw[Wad]at hd
  cases z:(allF ts o)[j]? with
  |none=>rw[z]at hd;cases hd
  |some r=>
   rw[z]at hd;cases hd;refine Zay<|Zam<|Zas<|Zab<|Zac rfl<|Zae<|Zbl (Or.inr rfl)<|Zak<|Zeq ⟨_,rfl,rfl,?_⟩;cases r with
   |nil=>exact Zac rfl ⟨rfl,_,rfl⟩
   |cons x t=>
    rw[decide_eq_false (by rw[Wa1,Wan];omega)];exact iteF ⟨_,rfl⟩
 rw[Zgg (allF ts o) _ (λr=>by
  show decide (((r.map D.int).length:Int)=0)=r.isEmpty;cases r with
  |nil=>rfl
  |cons x t=>rw[Waa,Wan];exact decide_eq_false (by omega)) _ (λ_=>rfl),Zgt hW hO]
 generalize hLL:lone o=L at *;refine Zaj<|Za1 (Zrd rfl rfl hp (by decide) (by decide) λwy ps1 hp1 w0 w1=>?_);refine Zaj<|Zbn<|Zet rfl (λc=>iteT ?_) λc=>iteF<|Zaz ?_
 ·refine Za0 (Zgr rfl rfl<|Zab<|Zac rfl<|Zab<|Zam<|Zak<|Zas<|Zab<|Zam<|Zac rfl<|Zak<|Za6 (Zfi n ts)<|Zae<|Zb8 (Or.inr rfl) (Waa _)<|jr_I (Or.inl ⟨by omega,by omega⟩)<|Zae ⟨_,_,rfl,rfl,hp1,allF ts o,ts.length,rfl,(Zb4 hW hO).u,n3,by omega,λR' ps' hp' hT hl=>?_⟩)
  exact⟨_,rfl,q R' _ hp'<|Zen hT n3 (by omega)⟩
 refine Zb6 (λΔ=>∃(psx:List D) (n1:Int) (ts1:List (Int × Int)) (o1:List (List Int)),Pen psx/\WebOk n1 ts1/\n1<=25/\OrdOk n1 ts1 o1/\ts1.length=ts.length /\ Δ = [.bor (.lst psx),.val (encWeb n ts),.val (encOrd o),.val (.lst ((allF ts1 o1).map rowD)),.val (.lst ((Wae L []).map rowD)),.val (.int wy)]) ?_ ?_
 ·refine Zbn (Zer<|Zet rfl (λc=>iteT ?_) λc=>iteF<|Zet rfl (λc=>iteT ?_) λc=>iteF<|Zaz ⟨ps1,n,ts,o,hp1,hW,hn,hO,rfl,rfl⟩)
  ·exact Za1<|Zgr rfl rfl<|Zab<|Zas<|Zab<|Zam<|Zac rfl<|Zak<|Za6 (Zfi n ts)<|Zae<|Zb8 (Or.inr rfl) (Waa _)<|Zae ⟨_,_,rfl,rfl,hp1,ts.length,rfl,n3,λn1 ts1 o1 ps' hp' hW1 hn1 hl1 hO1=>⟨ps',n1,ts1,o1,hp',hW1,hn1,hO1,hl1,rfl⟩⟩
  ·exact Za1<|Zgr rfl rfl<|Zab<|Zas<|Zab<|Zam<|Zac rfl<|Zak<|Za6 (Zfi n ts)<|Zae<|Zb8 (Or.inr rfl) (Waa _)<|Zae ⟨_,_,rfl,rfl,hp1,ts.length,rfl,n3,λn1 ts1 o1 ps' hp' hW1 hn1 hl1 hO1=>⟨ps',n1,ts1,o1,hp',hW1,hn1,hO1,hl1,rfl⟩⟩
 rintro Δ1 ⟨ps2,n1',ts1,o1,hp2,hW1,hn1,hO1,hl1,rfl⟩;have g73:=allF73 hW1 hO1 hn1;have T1:=(Zb4 hW1 hO1).u;have n31:=hW1.len;refine Zaj<|Zbn<|Zet rfl (λc=>iteT ?_) λc=>iteF<|Zaz ?_
 ·refine Za0 (Zam<|Zac rfl<|Za7 (by decide)<|Zcn<|Zac rfl ⟨_,Or.inl rfl,?_,λd=>match d with|.tup ds=>decide ((0:Int)<(ds.length:Int))|_=>false,λd=>d,λj d hd=>?_,?_⟩)
  ·rw[Waa];exact small1000 (by omega)
  ·rw[Wad]at hd
   cases z:(allF ts1 o1)[j]? with
   |none=>rw[z]at hd;cases hd
   |some r=>
    rw[z]at hd;cases hd;refine Zay<|Zam<|Zas<|Zab<|Zac rfl<|Zae<|Zbl (Or.inr rfl)<|Zak<|Zne ⟨_,rfl,rfl,?_⟩;split
    ·exact Zac rfl ⟨rfl,_,rfl⟩
    ·exact⟨_,rfl⟩
  have eF:(((allF ts1 o1).map rowD).filter λd=>match d with|.tup ds=>decide ((0:Int)<(ds.length:Int))|_=>false).map (λd=>d)=((allF ts1 o1).filter λr=>!r.isEmpty).map rowD:=by
   rw[Wed,Wdp];congr 1;refine Wc5 λr _=>?_;show decide ((0:Int)<((r.map D.int).length:Int))=_;cases r with
   |nil=>rfl
   |cons x t=>exact decide_eq_true (by rw[Wa1,Wan];omega)
  rw[eF];have fle:=Wc4 (λr:List Int=>!r.isEmpty)<|allF ts1 o1;refine Zgh ?_ ?_
  ·rw[Waa,Waa,Wa2]
   exact Wb8 (small1000<|by omega)
  rw[<- War];refine⟨_,rfl,q _ _ hp2<|Zen (m:=ts1.length) (Zfp T1 ?_) n31 ?_⟩
  ·rw[Zja,Zqb _ _ λ_=>rfl]
  ·rw[Waj,Wa2];omega
 refine Zaj<|Zbn<|Zet rfl (λc=>iteT ?_) λc=>iteF<|Zaz ?_
 ·refine Za0 (Zam<|Zf6<|Zab<|Zbs<|Zae ⟨by decide,Zae ⟨by decide,Zac rfl<|Zgh ?_ ?_⟩⟩)
  ·rw[Waa];exact Wb8<|small1000 (by show 1+_<=_;omega)
  refine⟨_,rfl,q ([]::allF ts1 o1) _ hp2<|Zen (m:=ts1.length) (Zfp T1 rfl) n31 ?_⟩;rw[Wan];omega
 refine Zaj<|Zbn<|Zet rfl (λc=>iteT ?_) λc=>iteF<|Zaz ?_
 ·refine Za0 (Zep<|Zac rfl<|Zce<|Zak ⟨_,rfl,Zcb ⟨.lst (((allF ts1 o1).drop 1).map rowD),?_,?_⟩⟩)
  ·show some (D.lst<|cutD ((allF ts1 o1).map rowD) (some 1) none)=_
   rw[Zn1,Wdo]
  exact⟨_,rfl,q _ _ hp2<|Zm7 hW1 hO1 hn1 hl1⟩
 refine Zaj<|Zbn<|Zet rfl (λc=>iteT ?_) λc=>iteF<|Zaz ?_
 ·refine Za0 (Zam<|Zac rfl<|Za7 (by decide)<|Zbi<|Zab<|Zas<|Zab<|Zam<|Zac rfl<|Zak<|Za6 (Zfi n ts)<|Zae<|Zb8 (Or.inr rfl) (Waa _)<|Zae ⟨_,rfl,by omega,by omega,?_,λ_=>true,λd=>match d with|.int k=>.tup [.int (2*k),.int (2*k+1)]|d=>d,λj d hd=>?_,?_⟩)
  ·rw[Zbc];exact small1000 (by omega)
  ·obtain⟨hj,rfl⟩:=Zb5 hd
   exact Zba ⟨rfl,Zxa (Zwp (Zk7 (Zs9 Zn8 (Zsp rfl)<|pr_I<|Or.inl ⟨by omega,by omega⟩)<|Zk7 (Zs9 (Zs9 Zn8 (Zsp rfl)<|pr_I<|Or.inl ⟨by omega,by omega⟩) Zn8 Ztc) Zti) Zdp) ⟨rfl,_,rfl⟩⟩
  have e1:((rngD 0 (ts.length:Int).toNat).filter λ_=>true).map (λd=>match d with|.int k=>D.tup [.int (2*k),.int (2*k+1)]|d=>d)=(pairsR ts.length).map rowD:=by
   rw[Waz.mpr (by simp),Wa7];unfold rngD pairsR;rw[Wal,Wal];refine Wa4 λk _=>?_;show D.tup [.int (2*(0+(k:Int))),.int (2*(0+(k:Int))+1)]=_;rw[Wb5];rfl
  rw[e1];have pl:=Zoa ts.length;refine Zgh ?_ ?_
  ·rw[Waa,Waa,Wa2]
   exact Wb8 (small1000<|by omega)
  rw[<- War];refine⟨_,rfl,q _ _ hp2<|Zen (Zfp (Zpf ts.length)<|Zja _ _) n3 ?_⟩;rw[Waj,Wa2];omega
 refine Zaj<|Zbn<|Zet rfl (λc=>iteT ?_) λc=>iteF<|Zaz ?_
 ·refine Za0 (Zgr rfl rfl<|Zab (Zrd rfl rfl hp2 (by decide) (by decide) λk ps3 hp3 k0 k1=>?_))
  obtain⟨k,rfl⟩:∃j:Nat,k=(j:Int):=⟨k.toNat,by omega⟩;refine Zae ⟨_,_,rfl,rfl,hp3,k,rfl,by omega,λn2 ts2 o2 ps' hp' hW2 hn2 hl2 hO2=>⟨_,rfl,q _ _ hp'<|Zen (Zb4 hW2 hO2).u hW2.len ?_⟩⟩;have:=allF73 hW2 hO2 hn2;omega
 exact Za0<|Zac rfl ⟨_,rfl,q _ _ hp2<|Zen T1 n31 (by omega)⟩
end
def refT:D:=.lst [.str "refused",.bl true,.bl false,.bl true]
def refO:D:=.lst [.str "refused",.bl false,.bl true,.bl true]
open Classical in
noncomputable def askD (N:Nat) (ts:List (Int × Int)) (o:List (List Int)) (rs:List (Bool × List Int)):D:=
 if TabU (rowsOf rs) ts.length/\lone (rowsOf rs)=lone o then (if GoodQ N ts (toldQ rs ts.length) then encOrd (laidO N ts<|toldQ rs ts.length) else refO) else refT
def fAsk43:DSp:=λds Post=>∃(N:Nat) (ts:List (Int × Int)) (o:List (List Int)) (b:Bool) (rs:List (Bool × List Int)),ds=[encWeb (N:Int) ts,tabD b rs]/\WebOk (N:Int) ts/\OrdOk (N:Int) ts o/\TabW rs/\Post (askD N ts o rs)
section
variable {P:Program}{w:World}{K:W.Frag}{mg:Str->Option Value}{base:Heap}{f:Addr}{fd:FuncData}{cf co ct:Addr}
theorem Zqp (mb:Mb mg) (cl:Cl K mg cf co ct) (C65:CalleeX P w K mg base 7 "order_by" ["web","table"] (spX K<|fOrdByX ct co)) (F:Fun K "_law_asked" "_law_asked" Ybm f fd):FnOk P w K mg base CX0 8 f fd ["_law_web_here","_law_table"] (spD K fAsk43):=by
 refine F.ok Ya7 (Zbu λds Post h=>by obtain⟨_,_,_,_,_,rfl,_⟩:=h;rfl) λcdv A outer s H vs Q E hr h=>?_;have hu:=Zbv hr;refine⟨_,(Zaf (Zaq (i:=2) Ya7.nd rfl (Or.inl rfl) Zon)<|Zaf (Zux (i:=3) (j:=2) Ya7.nd rfl rfl rfl (Or.inl rfl) rfl rfl rfl rfl cl.n_FloorError cl.e_FloorError C65 (hr.mono<|by decide) (λpn xe=>(Zaa (pv 0)<|Zaa (pv 1) Zad)) λa=>(Zai<|Zaq (i:=2) Ya7.nd rfl (Or.inl rfl)<|Zc9<|Zaa Zeu<|Zaa (Zah (isiEK K) rfl (mb "isinstance"<|by decide) Za4<|Zaa (pv 3)<|Zaa (Zij rfl cl.n_NoTable (show RelV (.ref _) _ from rfl)) Zad)<|Zaa (Zah (isiEK K) rfl (mb "isinstance"<|by decide) Za4<|Zaa (pv 3)<|Zaa (Zij rfl cl.n_NoOrder (show RelV (.ref _) _ from rfl)) Zad)<|Zaa (Zah (isiEK K) rfl (mb "isinstance"<|by decide) Za4<|Zaa (pv 3)<|Zaa (Zc7 rfl (mb "ValueError"<|by decide) Zh6 (show RelV (.ty "ValueError") _ from rfl)) Zad) Zad))<|Zai<|Zau<|pv 2),Zdt (λds Post hf=>?_) h⟩;obtain⟨N,ts,o,b,rs,rfl,hW,hO,hT,q⟩:=hf;refine⟨by simp,?_⟩;dsimp only[startD,Wbj,Wbn,Wa9,Wae];refine Zaj<|Za1<|Zhh ?_;refine Zb6 (λΔ=>∃x:L2.Slot,Δ = [.val (encWeb (N:Int) ts),.val (tabD b rs),.val (askD N ts o rs),x]) ?_ ?_
 ·refine Zt3 (Zab<|Zac rfl<|Zab<|Zac rfl<|Zae ⟨(by decide:3<4),N,ts,o,b,rs,rfl,hW,hO,hT,λg h=>⟨(by decide:2<4),?_⟩,λg h=>⟨⟨cl.e_NoOrder,cl.m_NoOrder⟩,λae=>?_⟩,λg=>⟨⟨cl.e_NoTable,cl.m_NoTable⟩,λae=>?_⟩⟩)
  ·refine⟨.any,?_⟩
   unfold askD;rw[if_pos g,if_pos h];rfl
  ·refine Za1 (Zf6<|Zab<|Zfo<|Zab<|Zas<|Zab<|Zac rfl<|Zab<|Zla<|Zae<|Zik cl.i_NoOrder cl.k_NoOrder_NoTable ?_)
   refine Zab<|Zas<|Zab<|Zac rfl<|Zab<|Zla<|Zae<|Zik cl.i_NoOrder cl.k_NoOrder_NoOrder ?_;refine Zab<|Zas<|Zab<|Zac rfl<|Zab<|Zec<|Zae<|Zkz cl.i_NoOrder cl.t_NoOrder ?_;refine Zae ⟨by decide,.any,?_⟩;unfold askD;rw[if_pos g,if_neg h];rfl
  ·refine Za1 (Zf6<|Zab<|Zfo<|Zab<|Zas<|Zab<|Zac rfl<|Zab<|Zla<|Zae<|Zik cl.i_NoTable cl.k_NoTable_NoTable ?_)
   refine Zab<|Zas<|Zab<|Zac rfl<|Zab<|Zla<|Zae<|Zik cl.i_NoTable cl.k_NoTable_NoOrder ?_;refine Zab<|Zas<|Zab<|Zac rfl<|Zab<|Zec<|Zae<|Zkz cl.i_NoTable cl.t_NoTable ?_;refine Zae ⟨by decide,.any,?_⟩;unfold askD;rw[if_neg g];rfl
 rintro Δ1 ⟨x,rfl⟩;exact Za0<|Zac rfl q
end
section
variable {P:Program}{w:World}{K:W.Frag}{mg:Str->Option Value}{base:Heap}{f:Addr}{fd:FuncData}
def Rot (l m:List Int):Prop:=∃a b,l=a++b/\m=b++a
theorem Rot.refl (l:List Int):Rot l l:=⟨[],l,rfl,(Wa3 l).symm⟩
theorem Rot.symm {l m:List Int}(h:Rot l m):Rot m l:=let ⟨a,b,h1,h2⟩:=h; ⟨b,a,h2,h1⟩
theorem Rot.trans {l m k:List Int}(h1:Rot l m) (h2:Rot m k):Rot l k:=by
 obtain⟨a,b,rfl,e⟩:=h1;obtain⟨c,d,e',rfl⟩:=h2;rw[e]at e';rcases List.append_eq_append_iff.mp e' with ⟨x,rfl,rfl⟩|⟨x,rfl,rfl⟩
 ·exact⟨x,d++b,by simp,by simp⟩
 ·exact⟨a++c,x,by simp,by simp⟩
theorem Rot.perm {l m:List Int}(h:Rot l m):l.Perm m:=by
 obtain⟨a,b,rfl,rfl⟩:=h;exact Wdk
theorem Zjf (l:List Int) (j:Nat):Rot l (rotAt l j):=⟨l.take j,l.drop j,(Wb0 j l).symm,rfl⟩
theorem Zw8 (l:List Int):Rot l (lf l):=by
 by_cases h:l=[]
 ·subst h;rw[Zfj];exact Rot.refl _
 ·unfold lf;rw[dif_neg h];exact Zjf _ _
theorem Zs5 {r l:List Int}{x:Int}(nd:(x::r).Nodup) (hle:∀a∈x::r,x<=a) (h:Rot (x::r) l):lf l=x::r:=by
 obtain⟨a,b,h1,rfl⟩:=h;have hp:(b++a).Perm (x::r):=by rw[h1];exact Wdk
 rw[Zi0 (hp.mem_iff.mpr Wat) λc hc=>hle c (hp.mem_iff.mp hc)];cases a with
 |nil=>
  rw[List.nil_append]at h1;rw[Wa3,<- h1,Wdn];unfold rotAt;rw[Wc7,Wb6,Wa3]
 |cons y a=>
  rw[Wc9]at h1;obtain⟨rfl,rfl⟩:=List.cons.inj h1;have hx:x ∉ b:=λz=>(Wcg.mp nd).1 (Wa0 _ z);rw[List.idxOf_append,if_neg hx,Wdn,Wdz];unfold rotAt;rw[List.drop_left,List.take_left];rfl
structure Good (u:List Int):Prop where
 nd:u.Nodup
 le:∀h∈u.head?,∀a∈u,h<=a
theorem Zts {u l:List Int}(g:Good u) (h:Rot u l):lf l=u:=by
 cases u with
 |nil=>rw[Wbv (h.perm.length_eq.symm:l.length=0)];exact Zfj
 |cons x u=>exact Zs5 g.nd (g.le x rfl) h
theorem Zpx {rs:List (List Int)}(h1:rs.length<=1000) (h2:∀r∈rs,r.length<=1000):Lv 5 (encOrd rs):=by
 refine⟨by rw[Waa];exact h1,λd hd=>?_⟩;obtain⟨r,hr,rfl⟩:=Was.mp hd;refine⟨by rw[Waa];exact h2 r hr,λd hd=>?_⟩;obtain⟨x,_,rfl⟩:=Was.mp hd
 trivial
end
theorem Zwt {r:List Int}(nd:r.Nodup) (j:Nat):lf (rotAt r j)=lf r:=by
 refine Zts ⟨(Zgq r).nodup_iff.mpr nd,λh hh a ha=>?_⟩ ((Zw8 r).symm.trans (Zjf r j));cases e:lf r with
 |nil=>rw[e]at hh;cases hh
 |cons x t=>
  rw[e]at hh ha;cases hh;rcases Wap.mp ha with z|z
  ·omega
  ·exact Zls e a z
theorem Zki {p:Bool × List Int}{rs:List (Bool × List Int)}{R:List (List Int)}(h:Turned (p::rs) R):∃r R2 j,R=r::R2/\p.2=rotAt r j/\Turned rs R2:=by
 cases R with
 |nil=>cases h.1
 |cons r R2=>
  obtain⟨j,hj⟩:=h.2 0 p r rfl rfl;exact⟨r,R2,j,rfl,hj,Nat.succ.inj h.1,λi q s h1 h2=>h.2 (i+1) q s h1 h2⟩
theorem Ztm (r:List Int) (j:Nat):(rotAt r j).isEmpty=r.isEmpty:=by
 have:=(Zdr r j).length_eq;cases h:rotAt r j <;> cases h2:r <;> simp_all
theorem Zhk:∀{rs:List (Bool × List Int)}{R:List (List Int)},Turned rs R->(rowsOf rs).flatten.Perm R.flatten/\lone (rowsOf rs)=lone R/\((∀r∈R,r.Nodup)->lfs rs=R.map lf)
 |[],R,h=>by
  cases R with
  |nil=>exact⟨.refl _,rfl,λ_=>rfl⟩
  |cons _ _=>cases h.1
 |p::rs,R,h=>by
  obtain⟨r,R2,j,rfl,hj,h2⟩:=Zki h;obtain⟨i1,i2,i3⟩:=Zhk h2;refine⟨?_,?_,λnd=>?_⟩
  ·show (p.2::rowsOf rs).flatten.Perm _
   rw[Wbb,Wbb,hj];exact(Zdr r j).append i1
  ·show lone (p.2::rowsOf rs)=_
   unfold lone at i2 ⊢;rw[Wbt,Wbt,hj,Ztm];cases r.isEmpty with
   |true=>rw[if_pos rfl,if_pos rfl,Wan,Wan,i2]
   |false=>rw[if_neg Wam,if_neg Wam,i2]
  ·show lf p.2::lfs rs=_
   rw[Wa1,i3 λr hr=>nd r<|Way _ hr,hj,Zwt (nd r Wat)]
structure Dealt (rs:List (Bool × List Int)) (R:List (List Int)):Prop where
 perm:(rowsOf rs).flatten.Perm R.flatten
 lon:lone (rowsOf rs)=lone R
 len:rs.length=R.length
 lfp:(∀r∈R,r.Nodup)->(lfs rs).Perm (R.map lf)
theorem Zqz {rs:List (Bool × List Int)}{R R':List (List Int)}(h:Turned rs R') (p:R'.Perm R):Dealt rs R:=by
 obtain⟨a,b,c⟩:=Zhk h;refine⟨a.trans<|Zi8 p,b.trans<|Zfd p,h.1.trans p.length_eq,λnd=>?_⟩;rw[c λr hr=>nd r (p.mem_iff.mp hr)];exact p.map lf
theorem Dealt.u {rs:List (Bool × List Int)}{R:List (List Int)}(h:Dealt rs R) {m:Nat}:TabU (rowsOf rs) m↔TabU R m:=⟨λt=>t.perm h.perm,λt=>t.perm h.perm.symm⟩
theorem Dealt.w {ts:List (Int × Int)}{rs:List (Bool × List Int)}{R:List (List Int)}(h:Dealt rs R) (k:RowsOk ts R):TabW rs:=
 ⟨by rw[h.len];exact k.len,by rw[h.perm.length_eq];exact k.flat⟩
theorem Dealt.q {rs:List (Bool × List Int)}{R:List (List Int)}(h:Dealt rs R) {m:Nat}(t:TabU R m) (hm:m<=24) (h1:1<=R.length) (h2:R.length<=100):allF (dualT (R.map lf) m) (R.map lf)=toldQ rs m:=by
 unfold toldQ;exact(Zpv t.lf (by rw[Waa];exact h1) (by rw[Waa];exact h2) hm (h.lfp λr hr=>(Zi2 t hm hr).1)).symm
theorem Zjo {b:Bool}{rs:List (Bool × List Int)}(h:TabW rs) (hx:∀x∈(rowsOf rs).flatten,0<=x/\x<48):Shw (tabD b rs) 2 200000:=by
 have h1:=h.len;have e:∀p∈rs,Shw (seqD p.1<|p.2.map D.int) 1 1000:=λp hp=>by
  have hl:=h.row hp;have:=Zkp (c:=p.1) (ds:=p.2.map D.int) (k:=0) (b:=13) λd hd=>by
   obtain⟨x,hx',rfl⟩:=Was.mp hd;have:=hx x<|Wca.mpr ⟨p.2,Was.mpr ⟨p,hp,rfl⟩,hx'⟩;exact Zr5 (by omega) (by omega)
  rw[Waa]at this;exact⟨this.s,this.dp,Wby this.ln<|by omega⟩
 have:=Zkp (c:=b) (ds:=rs.map λp=>seqD p.1<|p.2.map D.int) (k:=1) (b:=1000) λd hd=>by
  obtain⟨p,hp,rfl⟩:=Was.mp hd;exact e p hp
 rw[Waa]at this;exact⟨this.s,this.dp,Wby this.ln<|by omega⟩
theorem Zul {d e:D}(h:Shw d 2 200000) (k:Shw e 2 200000):Shw (.tup [d,e]) 3 sizeLine:=by
 have:=Zkp (c:=false) (ds:=[d,e]) (k:=2) (b:=200000) λx hx=>by
  rcases Wap.mp hx with z|z
  ·rw[z];exact h
  ·rw[Wbs.mp z];exact k
 exact⟨this.s,this.dp,Wby this.ln (by show 2*200000+2*2+3<=sizeLine;decide)⟩
theorem Zww (o:List (List Int)):(o.map encRow).all (Sm 3)=true:=by
 rw[Wba];intro d hd;obtain⟨r,_,rfl⟩:=Was.mp hd;show (r.map D.int).all (Sm 2)=true;rw[Wba];intro e he;obtain⟨x,_,rfl⟩:=Was.mp he;rfl
theorem Zup {K:W.Frag}{Δ:Evt}{r:Bool}{P:D->Evt->Prop}(N:Nat) (ts:List (Int × Int)) (o:List (List Int)) (rs:List (Bool × List Int)) (p:P (.bl r) Δ):JR2 K (rSmA K r) (askD N ts o rs) (askD N ts o rs) Δ P:=by
 unfold askD;split
 ·split
  ·exact Zta (n:=3) (by decide) (Zww _) p
  ·exact Zgp (n:=1) (by decide) rfl p
 ·exact Zgp (n:=1) (by decide) rfl p
theorem Zuw {N m:Nat}{ts:List (Int × Int)}{Q:List (List Int)}(hN:N<=100) (h:Tab Q m) (hm:m<=24):Lv 5 (encOrd<|laidO N ts Q):=
 Zpx (by rw[Zgd];omega) λr hr=>Wby (Zj0 h hm hr) (by decide)
def l43S (ns:List Int) (ps:List D) (n:Int) (ts:List (Int × Int)) (wy:Int) (xs:List L2.Slot):Evt:=.val (.scr<|ns.map .int)::.own (.lst ps)::.val (encWeb n ts)::.val (.int wy)::xs
section
variable {P:Program}{w:World}{K:W.Frag}{mg:Str->Option Value}{base:Heap}{f:Addr}{fd:FuncData}
theorem ok_law (mb:Mb mg) (C50:Callee P w K mg base 1 "_law_pen" ["_law_script"] (spN K fPen)) (C53:Callee P w K mg base 2 "_law_web" ["_law_pen_here","_law_places","_law_ties"] (spB K fWeb))
  (C40:Callee P w K mg base 1 "_law_draw" ["_law_pen_here","_law_many"] (spB K fDraw)) (C41:Callee P w K mg base 3 "_law_edge" ["_law_pen_here"] (spB K fEdge)) (C45:Callee P w K mg base 2 "_law_loops" ["_law_pen_here"] (spB K fEdge))
  (C47:Callee P w K mg base 2 "_law_order" ["_law_pen_here","_law_web_here"] (spB K fOrder)) (C51:Callee P w K mg base 4 "_law_rows" ["_law_pen_here","_law_web_here","_law_order_here"] (spB K fRows43)) (C43:Callee P w K mg base 2 "_law_faces" ["_law_order_here"] (spN K fLFacesU)) (C39:Callee P w K mg base 3 "_law_dealt" ["_law_pen_here","_law_rows_here"] (spB K fDealt))
  (C38:Callee P w K mg base 8 "_law_asked" ["_law_web_here","_law_table"] (spD K fAsk43)) (C65:Callee P w K mg base 7 "order_by" ["web","table"] (spD K fOrdBy)) (C52:Callee P w K mg base 6 "_law_same" ["_law_found","_law_due"] (spD K<|fSame 5)) (C44:Callee P w K mg base 1 "_law_laid" ["_law_web_here","_law_rows_here"] (spD K fLaid43))
  (F:Fun K "law" "law" Yag f fd):FnOk P w K mg base CX0 9 f fd ["_law_script"] (spD K fLaw):=by
 refine F.ok Yaa (Zbu λds Post h=>by obtain⟨_,rfl,_⟩:=h;rfl) λcdv A outer s H vs Q E hr h=>?_;have hu:=Zbv hr;have hv:=Zg5 hr;refine⟨_,(Zaf (Zaq (i:=1) Yaa.nd rfl (Or.inl rfl)<|Zav C50 (hr.mono<|by decide)<|Zaa (pv 0) Zad)<|Zaf (Zaq (i:=2) Yaa.nd rfl (Or.inl rfl)<|Zav C53 (hr.mono<|by decide)<|Zaa (pv 1)<|Zaa Zag<|Zaa Zag Zad)<|Zaf (Zaq (i:=3) Yaa.nd rfl (Or.inl rfl)<|Zav C40 (hr.mono<|by decide)<|Zaa (pv 1)<|Zaa Zag Zad)<|Zaf (Zbd (Zao Zbm (pv 3) Zag<|nomark _) (Zai<|Zaq (i:=2) Yaa.nd rfl (Or.inl rfl)<|Zav C41 (hr.mono<|by decide)<|Zaa (pv 1) Zad) Zar)<|Zaf (Zbd (Zao Zbm (pv 3) Zag<|nomark _) (Zai<|Zaq (i:=2) Yaa.nd rfl (Or.inl rfl)<|Zav C45 (hr.mono<|by decide)<|Zaa (pv 1) Zad) Zar)<|Zaf (Zaq (i:=4) Yaa.nd rfl (Or.inl rfl)<|Zav C47 (hr.mono<|by decide)<|Zaa (pv 1)<|Zaa (pv 2) Zad)<|Zaf (Zaq (i:=5) Yaa.nd rfl (Or.inl rfl)<|Zav C51 (hr.mono<|by decide)<|Zaa (pv 1)<|Zaa (pv 2)<|Zaa (pv 4) Zad)<|Zaf (Zaq (i:=6) Yaa.nd rfl (Or.inl rfl)<|Zav C39 (hr.mono<|by decide)<|Zaa (pv 1)<|Zaa (pv 5) Zad)<|Zaf (Zaq (i:=7) Yaa.nd rfl (Or.inl rfl)<|Zav C47 (hr.mono<|by decide)<|Zaa (pv 1)<|Zaa (pv 2) Zad)<|Zaf (Zaq (i:=8) Yaa.nd rfl (Or.inl rfl)<|Zav C39 (hr.mono<|by decide)<|Zaa (pv 1)<|Zaa (Zav C43 (hr.mono<|by decide)<|Zaa (pv 7) Zad) Zad)<|Zaf (Zaq (i:=9) Yaa.nd rfl (Or.inl rfl)<|Zah (reprK K hr.gd<|Zva hr) rfl (mb "repr"<|by decide) Zo5<|Zaa (Zbq<|Zaa (pv 6)<|Zaa (pv 8) Zad) Zad)<|Zaf (Zaq (i:=10) Yaa.nd rfl (Or.inl rfl)<|Zav C38 (hr.mono<|by decide)<|Zaa (pv 2)<|Zaa (pv 6) Zad)<|Zaf (Zbd (PW.pt<|pw_or (Zcj<|truK K (Zav C52 (hr.mono<|by decide)<|Zaa (Zav C65 (hr.mono<|by decide)<|Zaa (pv 2)<|Zaa (pv 8) Zad)<|Zaa (pv 7) Zad) λ_=>rfl)<|pw_or1<|Zao (neAK K hv) (Zav C38 (hr.mono<|by decide)<|Zaa (pv 2)<|Zaa (pv 6) Zad) (pv 10)<|nomark _) (Zai<|Zau Zg2) Zar)<|Zaf (Zbd (Zao Zez (Zah (reprK K hr.gd<|Zva hr) rfl (mb "repr"<|by decide) Zo5<|Zaa (Zbq<|Zaa (pv 6)<|Zaa (pv 8) Zad) Zad) (pv 9)<|nomark _) (Zai<|Zau Zg2) Zar)<|Zaf (Zbd (PW.pt<|pw_or (Zao Zez (Zah (sumK K rfl) rfl (mb "sum"<|by decide) Zpp<|Zaa (Za3 ["_law_row"] (show CompSc (defScope Yag) ["_law_script","_law_pen_here","_law_web_here","_law_way","_law_order_here","_law_rows_here","_law_table","_law_other","_law_second","_law_kept","_law_found","_law_due"] _ [] [] from ⟨rfl,by decide +kernel,by decide +kernel,by decide +kernel,rfl,by decide +kernel⟩) rfl (seqK K<|pv 5) (λ_ _ _ _ _=>(Zal (i:=0) (show List.Nodup (["_law_row"]:List Str) from by decide) rfl<|Or.inl rfl)) (λ_ _ _ _ _=>Zbb) λ_ _ _ _ _=>(Zah (lenK K) rfl (mb "len"<|by decide) Za5<|Zaa (pv 0) Zad)) Zad) (Zax Zcl Zag<|Zah (lenK K) rfl (mb "len"<|by decide) Za5<|Zaa (Zbe (ixK K hu) (pv 2) Zag λ_ _=>rfl) Zad)<|nomark _)<|pw_or1<|Zao Zez (bmK K PySem.F.plainAttrs_list PySem.F.slot_list_count PySem.F.type_list_count (count0K K hv) (pv 5)<|Zaa (Zbq Zad) Zad) (bmK K PySem.F.plainAttrs_tuple PySem.F.slot_tuple_count PySem.F.type_tuple_count (count0TK K hv) (pv 4)<|Zaa (Zbq Zad) Zad)<|nomark _) (Zai<|Zau<|Zis (eqAK K hv) (pv 10) (Zc9<|Zaa Zeu<|Zaa Zg2<|Zaa Zg2<|Zaa Zg2 Zad)<|nomark _) Zar)<|Zaf (Zaq (i:=11) Yaa.nd rfl (Or.inl rfl)<|Zav C44 (hr.mono<|by decide)<|Zaa (pv 2)<|Zaa (Zav C43 (hr.mono<|by decide)<|Zaa (pv 5) Zad) Zad)<|Zaf (Zbd (Zao Zw2 (pv 11) Zon<|nomark _) (Zai<|Zau<|Zis (eqAK K hv) (pv 10) (Zc9<|Zaa Zeu<|Zaa Zg2<|Zaa Zg2<|Zaa Zg2 Zad)<|nomark _) Zar)<|Zai<|Zau<|Zav C52 (hr.mono<|by decide)<|Zaa (pv 10)<|Zaa (pv 11) Zad),Zdt (λds Post hf=>?_) h⟩;obtain⟨ns,rfl,hl,q⟩:=hf;refine⟨by simp,?_⟩;dsimp only[startD,Wbj,Wbn,Wa9];refine Zaj<|Zb2<|Zcq<|Zab<|Zac rfl<|Zae ⟨ns,rfl,hl,λps hp=>?_⟩;refine Zaj<|Za1<|Zbj rfl rfl<|Zab<|Zak<|Zab<|Zak<|Zae ⟨_,_,rfl,rfl,hp,25,24,rfl,by omega,by omega,by omega,by omega,λn0 ts0 ps1 hp1 hW0 hn0 _=>?_⟩;refine Zaj<|Za1 (Zrd rfl rfl hp1 (by decide) (by decide) λwy ps2 hp2 w0 w1=>?_);refine Zb6 (λΔ=>∃(n:Int) (ts:List (Int × Int)) (psx:List D),Pen psx/\WebOk n ts/\n<=25 /\ Δ = l43S ns psx n ts wy [.any,.any,.any,.any,.any,.any,.any,.any]) ?_ ?_
 ·refine Zbn (Zet rfl (λz=>iteT ?_) λz=>iteF<|Zaz ⟨n0,ts0,ps2,hp2,hW0,hn0,rfl⟩)
  exact Za1<|Zbj rfl rfl<|Zae ⟨_,_,rfl,rfl,hp2,rfl,λn ts ps' hp' hW hn=>⟨n,ts,ps',hp',hW,hn,rfl⟩⟩
 rintro Δ1 ⟨n1,ts1,ps3,hp3,hW1,hn1,rfl⟩;refine Zb6 (λΔ=>∃(n:Int) (ts:List (Int × Int)) (psx:List D),Pen psx/\WebOk n ts/\n<=25 /\ Δ = l43S ns psx n ts wy [.any,.any,.any,.any,.any,.any,.any,.any]) ?_ ?_
 ·refine Zbn (Zet rfl (λz=>iteT ?_) λz=>iteF<|Zaz ⟨n1,ts1,ps3,hp3,hW1,hn1,rfl⟩)
  exact Za1<|Zbj rfl rfl<|Zae ⟨_,_,rfl,rfl,hp3,rfl,λn ts ps' hp' hW hn=>⟨n,ts,ps',hp',hW,hn,rfl⟩⟩
 rintro Δ1 ⟨n,ts,ps4,hp4,hW,hn,rfl⟩;refine Zaj<|Za1<|Zbj rfl rfl<|Zab<|Zac rfl<|Zae ⟨_,_,rfl,rfl,hp4,n,ts,rfl,hW,hn,λo ps5 hp5 hO=>?_⟩;obtain⟨N,rfl⟩:∃N:Nat,n=(N:Int):=⟨n.toNat,by have:=hW.lo;omega⟩;have n1:=hW.lo;have n3:=hW.len;have ol:=hO.len;have f73:=allF73 hW hO hn;refine Zaj<|Za1<|Zbj rfl rfl<|Zab<|Zac rfl<|Zab<|Zac rfl<|Zae ⟨_,_,rfl,rfl,hp5,(N:Int),ts,o,rfl,hW,hn,hO,λR ps6 hp6 hRk=>?_⟩;have rl:=hRk.len;refine Zaj<|Za1<|Zbj rfl rfl<|Zab<|Zac rfl<|Zae ⟨_,_,rfl,rfl,hp6,R,rfl,by omega,λr hr=>hRk.row hr,λb rs R' ps7 hp7 hRp hTu=>?_⟩;have hD:Dealt rs R:=Zqz hTu hRp;have hTW:=hD.w hRk;refine Zaj<|Za1<|Zbj rfl rfl<|Zab<|Zac rfl<|Zae ⟨_,_,rfl,rfl,hp7,(N:Int),ts,rfl,hW,hn,λu ps8 hp8 hU=>?_⟩;have ul:=hU.len;have g73:=allF73 hW hU hn;have TU:=Zb4 hW hU;refine Zaj<|Za1<|Zbj rfl rfl<|Zab<|Za8<|Zcq<|Zab<|Zac rfl<|Zae ⟨false,u,(N:Int),ts,u,rfl,hW,hU,Zgj hW hU,by omega,_,rfl,Zae ⟨_,_,rfl,rfl,hp8,allF ts u,rfl,by omega,Zqd hW hU,λb2 rs2 R2 ps9 hp9 hR2 hT2=>?_⟩⟩;have ok2:TabOk rs2 ts.length:=Zr4 hT2 (TU.perm hR2.symm) (by rw[hR2.length_eq];exact Zlk hW hU) (by rw[hR2.length_eq];omega) n3;have lf2:lfs rs2=R2:=Zhv hT2<|TU.perm hR2.symm;have hTW2:TabW rs2:=⟨ok2.len,by rw[ok2.flat];omega⟩;have sh:=Zul (Zjo (b:=b) hTW λx hx=>hRk.bnd x<|hD.perm.mem_iff.mp hx) (Zjo (b:=b2) hTW2 λx hx=>by have:=(ok2.u.mem x).mp hx;omega);refine Zaj<|Za1<|Zas<|Zab<|Zbs<|Zab<|Zac rfl<|Zab<|Zac rfl<|Zae ⟨Zdp,Zae<|Zpu (Or.inl sh.s) (Wby sh.dp<|by decide) sh.ln ?_⟩;refine Zaj<|Za1<|Zaw<|Zab<|Zac rfl<|Zab<|Zac rfl<|Zae ⟨N,ts,o,b,rs,rfl,hW,hO,hTW,?_⟩;have oo:Lv 5 (encOrd u):=Zpx (by omega) λr hr=>by
  obtain⟨p,hp⟩:=Wbg.mp hr;have:=(hU.row p r hp).len;omega
 refine Zaj<|Zbn<|Zer<|Zca<|Zbk<|Zaw<|Zab<|Zaw<|Zab<|Zac rfl<|Zab<|Zac rfl<|Zae ⟨N,ts,u,b2,rs2,rfl,hW,hU,ok2,by rw[lf2];exact hR2,by omega,?_⟩;refine Zab<|Zac rfl<|Zae ⟨_,rfl,oo,true,rfl,iteF ?_⟩;refine Zay<|Zam<|Zaw<|Zab<|Zac rfl<|Zab<|Zac rfl<|Zae ⟨N,ts,o,b,rs,rfl,hW,hO,hTW,Zac rfl<|Zup N ts o rs ⟨false,rfl,iteF<|Zaz ?_⟩⟩;refine Zaj<|Zbn<|Zay<|Zam<|Zas<|Zab<|Zbs<|Zab<|Zac rfl<|Zab<|Zac rfl<|Zae ⟨Zdp,Zae<|Zpu (Or.inl sh.s) (Wby sh.dp<|by decide) sh.ln<|Zac rfl<|Zv6 ⟨false,rfl,iteF<|Zaz ?_⟩⟩;have noT:¬ (TabU R ts.length/\lone R=lone o)->askD N ts o rs=refT:=λh=>by
  unfold askD;rw[if_neg λz=>h ⟨hD.u.mp z.1,by rw[<- hD.lon];exact z.2⟩]
 refine Zaj<|Zbn<|Zer<|Zay<|Zam<|Zas<|Zab<|Za7 (by decide)<|Zcn<|Zac rfl ⟨_,Or.inl rfl,?_,λ_=>true,λd=>match d with|.tup ds=>.int (ds.length:Nat)|d=>d,λj d hd=>?_,?_⟩
 ·rw[Waa];exact small1000 (by omega)
 ·rw[Wad]at hd
  cases z:R[j]? with
  |none=>rw[z]at hd;cases hd
  |some r=>
   rw[z]at hd;cases hd;exact Zba ⟨rfl,Zas<|Zab<|Zac rfl<|Zae<|Zbl (Or.inr rfl) ⟨rfl,_,rfl⟩⟩
 have e2:((R.map rowD).filter λ_=>true).map (λd=>match d with|.tup ds=>D.int (ds.length:Nat)|d=>d)=(R.map λr=>(r.length:Int)).map D.int:=by
  rw[Waz.mpr (by simp),Wal,Wal];refine Wa4 λr _=>?_;show D.int ((r.map D.int).length:Nat)=D.int (r.length:Int);rw[Waa]
 rw[e2];refine Zae<|Zn3 ?_;rw[Zh9];refine Zam<|Zak<|Zas<|Zab<|Zam<|Zac rfl<|Zak<|Za6 (Zfi (N:Int) ts)<|Zae<|Zb8 (Or.inr rfl) (Waa _)<|jr_I (Or.inl ⟨by omega,by omega⟩)<|Zha ⟨_,rfl,?_⟩;by_cases hfl:R.flatten.length=2*ts.length
 case neg=>
  rw[decide_eq_false (show ¬ ((R.flatten.length:Nat):Int)=2*(ts.length:Int) by omega)];have eT:=noT λz=>hfl z.1.flat;rw[eT];exact iteT<|Za0<|Zam<|Zac rfl<|Zf6<|Zab<|Zfo<|Zab<|Zgi<|Zab<|Zgi<|Zab<|Zgi<|Zae ⟨by decide,Zgp (n:=1) (by decide) rfl q⟩
 rw[decide_eq_true (show ((R.flatten.length:Nat):Int)=2*(ts.length:Int) by omega)];refine iteF ?_;refine Zay<|Zam<|Zed false<|Zac rfl ⟨R.map λr=>r.map D.int,by rw[Wal];rfl,Zbs<|Zae ⟨by decide,rfl,?_⟩⟩;refine Zmv<|Zac rfl ⟨o.map λr=>r.map D.int,by rw[Wal];rfl,Zbs<|Zae ⟨by decide,rfl,?_⟩⟩;rw[Zcz,Zcz,show (R.filter λr=>r.isEmpty).length=lone R from rfl,show (o.filter λr=>r.isEmpty).length=lone o from rfl];refine Zha ⟨_,rfl,?_⟩;by_cases hlo:lone R=lone o
 case neg=>
  rw[decide_eq_false (show ¬ ((lone R:Nat):Int)=((lone o:Nat):Int) by omega)];have eT:=noT λz=>hlo z.2;rw[eT];exact iteT<|Za0<|Zam<|Zac rfl<|Zf6<|Zab<|Zfo<|Zab<|Zgi<|Zab<|Zgi<|Zab<|Zgi<|Zae ⟨by decide,Zgp (n:=1) (by decide) rfl q⟩
 rw[decide_eq_true (show ((lone R:Nat):Int)=((lone o:Nat):Int) by omega)];refine iteF<|Zaz ?_;have hT:TabU R ts.length:=by
  rcases hRk.way with ⟨m,hm⟩|⟨z,_⟩
  ·have:=hm.flat
   have e:m=ts.length:=by omega
   rw[<- e];exact hm
  ·exact absurd hfl z
 have hTr:TabU (rowsOf rs) ts.length:=hD.u.mpr hT;have hlr:lone (rowsOf rs)=lone o:=by rw[hD.lon];exact hlo
 have R1:1<=R.length:=by rw[<- hD.len];exact Zsn hW hO hTr hlr
 have W1:=Zdw hT.lf (by rw[Waa];exact R1) (by rw[Waa];exact rl) n3;have O1:=Zdy hT.lf;have eQ:=hD.q hT n3 R1 rl;have T2:=Zb4 W1 O1;rw[Zbz]at T2;have aL:=Zf8 W1 O1;have hbare:∀p,p<N->endsP ts p=[] -> []∈allF (dualT (R.map lf) ts.length) (R.map lf):=λp hp he=>Zuf (m:=ts.length) hO ((Zkj R).trans hlo) hp he;have gi:=Zqn hbare;refine Zaj<|Za1<|Zaw<|Zab<|Zac rfl<|Zab<|Za8<|Zcq<|Zab<|Zac rfl<|Zae ⟨true,R,_,_,_,rfl,W1,O1,Zth hT n3 R1 rl,rl,_,rfl,Zae ⟨N,ts,_,ts.length,rfl,hW,T2,n3,aL,λg=>?_,λg=>?_⟩⟩
 ·refine Zaj (Zbn<|Zay<|Zam<|Zac rfl<|Zhh<|Zu0 ⟨_,rfl,iteF<|Zaz ?_⟩)
  have eA:askD N ts o rs=encOrd (laidO N ts<|allF (dualT (R.map lf) ts.length)<|R.map lf):=by
   unfold askD;rw[if_pos ⟨hTr,hlr⟩,<- eQ,if_pos (gi.mp g)]
  exact Za0<|Zaw<|Zab<|Zac rfl<|Zab<|Zac rfl<|Zae ⟨encOrd<|laidO N ts<|allF (dualT (R.map lf) ts.length)<|R.map lf,by rw[eA],Zuw (by omega) T2 n3,q⟩
 ·refine Zaj (Zbn<|Zay<|Zam<|Zac rfl<|Zhh<|Zv3 ⟨_,rfl,iteT ?_⟩)
  have eA:askD N ts o rs=refO:=by
   unfold askD;rw[if_pos ⟨hTr,hlr⟩,<- eQ,if_neg λz=>g (gi.mpr z)]
  rw[eA];exact Za0<|Zam<|Zac rfl<|Zf6<|Zab<|Zfo<|Zab<|Zgi<|Zab<|Zgi<|Zab<|Zgi<|Zae ⟨by decide,Zgp (n:=1) (by decide) rfl q⟩
end
theorem lenS {us:List Value}{n:Nat}(h:us.length=n+1):∃a t,us=a::t/\t.length=n:=by
 cases us with
 |nil=>exact absurd h.symm (Nat.succ_ne_zero n)
 |cons a t=>exact⟨a,t,rfl,Nat.succ.inj h⟩
theorem bK1 {α:Type _}{g r:List Value -> α}(h:∀a0,g [a0]=r [a0]) (us:List Value) (l:us.length=1):g us=r us:=by
 obtain⟨a0,u0,rfl,h0⟩:=lenS l;obtain rfl:=Wbv h0;exact h a0
theorem bK2 {α:Type _}{g r:List Value -> α}(h:∀a0 a1,g [a0,a1]=r [a0,a1]) (us:List Value) (l:us.length=2):g us=r us:=by
 obtain⟨a0,u0,rfl,h0⟩:=lenS l;obtain⟨a1,u1,rfl,h1⟩:=lenS h0;obtain rfl:=Wbv h1;exact h a0 a1
theorem bK3 {α:Type _}{g r:List Value -> α}(h:∀a0 a1 a2,g [a0,a1,a2]=r [a0,a1,a2]) (us:List Value) (l:us.length=3):g us=r us:=by
 obtain⟨a0,u0,rfl,h0⟩:=lenS l;obtain⟨a1,u1,rfl,h1⟩:=lenS h0;obtain⟨a2,u2,rfl,h2⟩:=lenS h1;obtain rfl:=Wbv h2;exact h a0 a1 a2
def FnE (K:W.Frag) (x:Str) (st:Stmt):Prop:=∃(f:Addr) (fd:FuncData),W.nsIn K mainGlobals x=some (some (.ref f))/\Fun K x x st f fd
theorem fnE {K:W.Frag}{x:Str}{st:Stmt}{f:Addr}{oc kV doc pm cdv ct:Value}{od an:Option Addr}{sl:Array (Option Value)}(a:W.nsIn K mainGlobals x=some (some (.ref f))) (l:K.lookup f=some ⟨oc,od,.func<|W.fnOf x x (defArgs st) (defBody st) (defScope st) .none kV doc pm an cdv ct,sl⟩) (c:W.codeIn K cdv x=true) (k:W.keepIn K (.ref f)=true):FnE K x st:=⟨f,_,a,Zwm l c k⟩
theorem Ztj {P:Program}{w:World}{K:W.Frag}{mg:Str->Option Value}{base h:Heap}(X:K.In h) (G:h.Ns mainGlobals mg) {x:Str}{st:Stmt}{ps:List Str}{lv:Nat}{sp:Sp}(e:FnE K x st) (ok:∀{f:Addr}{fd:FuncData},Fun K x x st f fd->FnOk P w K mg base CX0 lv f fd ps sp) (hb:∀(kV doc pm:Value) (an:Option Addr) (cdv ct:Value) (us:List Value),us.length=ps.length->bindArgs (W.fnOf x x (defArgs st) (defBody st) (defScope st) .none kV doc pm an cdv ct) ⟨us,[]⟩=pure (ps.zip us)):Callee P w K mg base lv x ps sp:=by
 obtain⟨f,fd,a,F⟩:=e;exact⟨⟨f,fd,ok F,F.binds hb,F.kp,W.mg_of X G a⟩⟩
theorem Zq1 {P:Program}{w:World}{K:W.Frag}{mg:Str->Option Value}{base h:Heap}(X:K.In h) (G:h.Ns mainGlobals mg) {x:Str}{st:Stmt}{ps:List Str}{lv:Nat}{sp:Sp}(e:FnE K x st) (ok:∀{f:Addr}{fd:FuncData},Fun K x x st f fd->Binds K fd ps []->W.keepIn K (.ref f)=true->mg x=some (.ref f)->FnOk P w K mg base CX0 lv f fd ps sp) (hb:∀(kV doc pm:Value) (an:Option Addr) (cdv ct:Value) (us:List Value),us.length=ps.length->bindArgs (W.fnOf x x (defArgs st) (defBody st) (defScope st) .none kV doc pm an cdv ct) ⟨us,[]⟩=pure (ps.zip us)):Callee P w K mg base lv x ps sp:=by
 obtain⟨f,fd,a,F⟩:=e;exact⟨⟨f,fd,ok F (F.binds hb) F.kp<|W.mg_of X G a,F.binds hb,F.kp,W.mg_of X G a⟩⟩
theorem Zr2 {P:Program}{w:World}{K:W.Frag}{mg:Str->Option Value}{base h:Heap}(X:K.In h) (G:h.Ns mainGlobals mg) {x:Str}{st:Stmt}{ps:List Str}{lv:Nat}{sp:Sp}(e:FnE K x st) (ok:∀{f:Addr}{fd:FuncData},Fun K x x st f fd->FnOk P w K mg base (CXE P w) lv f fd ps sp) (hb:∀(kV doc pm:Value) (an:Option Addr) (cdv ct:Value) (us:List Value),us.length=ps.length->bindArgs (W.fnOf x x (defArgs st) (defBody st) (defScope st) .none kV doc pm an cdv ct) ⟨us,[]⟩=pure (ps.zip us)):CalleeX P w K mg base lv x ps sp:=by
 obtain⟨f,fd,a,F⟩:=e;exact⟨⟨f,fd,ok F,F.binds hb,F.kp,W.mg_of X G a⟩⟩
theorem all_mk {l:PySem.W.OpenLaw}{w:World}{K:W.Frag}{h:Heap}{mg:Str->Option Value}{fa:Addr}(X:K.In h) (G:h.Ns mainGlobals mg) (hfa:mg "law" = some (.ref fa))
  (e1:FnE K "_law_draw" Ybf)
  (e2:FnE K "_law_pen" Yaz)
  (e3:FnE K "_law_web" Ybg)
  (e4:FnE K "_law_order" Yal)
  (e5:FnE K "_law_mixed" Ybj)
  (e6:FnE K "_law_edge" Ya1)
  (e7:FnE K "_law_loops" Ybk)
  (e8:FnE K "place_of" Yba)
  (e9:FnE K "least_first" Yak)
  (e10:FnE K "follower" Ybb)
  (e11:FnE K "onward" Ybc)
  (e12:FnE K "face_of" Ybd)
  (e13:FnE K "faces" Yay)
  (e14:FnE K "_law_partner" Ybh)
  (e15:FnE K "_law_faces" Ya0)
  (e16:FnE K "_law_whole" Ybi)
  (e17:FnE K "_law_same" Yam)
  (e18:FnE K "floor_by" Yar)
  (e19:FnE K "is_row" Ya9)
  (e20:FnE K "is_whole" Ya8)
  (e21:FnE K "faces_of_table" Yac)
  (e22:FnE K "rows_told_by" Ybe)
  (e23:FnE K "ends_at" Yax)
  (e24:FnE K "row_of" Yaj)
  (e25:FnE K "order_of" Yai)
  (e26:FnE K "order_by" Yad)
  (e27:FnE K "_law_dealt" Ybl)
  (e28:FnE K "_law_laid" Yas)
  (e29:FnE K "_law_exchanged" Yat)
  (e30:FnE K "_law_others" Ya2)
  (e31:FnE K "_law_rows" Yan)
  (e32:FnE K "_law_asked" Ybm)
  (e33:FnE K "law" Yag)
  {tk_MOST_TIES:Tok}(y_MOST_TIES:W.nsIn K mainGlobals "MOST_TIES" = some (some (.int 24 tk_MOST_TIES)))
  (z0:W.nsIn K mainGlobals "ValueError" = some none)
  (z1:W.nsIn K mainGlobals "abs" = some none)
  (z2:W.nsIn K mainGlobals "all" = some none)
  (z3:W.nsIn K mainGlobals "bool" = some none)
  (z4:W.nsIn K mainGlobals "enumerate" = some none)
  (z5:W.nsIn K mainGlobals "int" = some none)
  (z6:W.nsIn K mainGlobals "isinstance" = some none)
  (z7:W.nsIn K mainGlobals "len" = some none)
  (z8:W.nsIn K mainGlobals "list" = some none)
  (z9:W.nsIn K mainGlobals "max" = some none)
  (z10:W.nsIn K mainGlobals "min" = some none)
  (z11:W.nsIn K mainGlobals "range" = some none)
  (z12:W.nsIn K mainGlobals "repr" = some none)
  (z13:W.nsIn K mainGlobals "set" = some none)
  (z14:W.nsIn K mainGlobals "sorted" = some none)
  (z15:W.nsIn K mainGlobals "sum" = some none)
  (z16:W.nsIn K mainGlobals "tuple" = some none)
  (z17:W.nsIn K mainGlobals "zip" = some none)
  {c_FloorError c_NoOrder c_NoTable:Addr}
  (n_FloorError:W.nsIn K mainGlobals "FloorError" = some (some (.ref c_FloorError)))
  (e_FloorError:PySem.W.excIn K c_FloorError [.type "ValueError",.type "Exception",.type "BaseException",.type "object"] "ValueError.__new__" = true)
  (n_NoOrder:W.nsIn K mainGlobals "NoOrder" = some (some (.ref c_NoOrder)))
  (e_NoOrder:PySem.W.excIn K c_NoOrder [.type "ValueError",.type "Exception",.type "BaseException",.type "object"] "ValueError.__new__" = true)
  (n_NoTable:W.nsIn K mainGlobals "NoTable" = some (some (.ref c_NoTable)))
  (e_NoTable:PySem.W.excIn K c_NoTable [.type "ValueError",.type "Exception",.type "BaseException",.type "object"] "ValueError.__new__" = true)
  (gsx:PySem.W.specialIn K (.builtin "object.__class__") "__get__" = some (some (.builtin "getset_descriptor.__get__")))
  (tkx:PySem.W.takesIn K (.builtin "object.__class__")=some true)
  (ic_NoTable:PySem.W.isClsIn K c_NoTable=true)
  (ty_NoTable:PySem.W.typeIn K (.ref c_NoTable)=some (.type "type"))
  (ic_NoOrder:PySem.W.isClsIn K c_NoOrder=true)
  (ty_NoOrder:PySem.W.typeIn K (.ref c_NoOrder)=some (.type "type"))
  (ga_NoOrder:PySem.W.findIn K (.ref c_NoOrder) "__getattribute__" = some (some (.builtin "BaseException.__getattribute__")))
  (gt_NoOrder:PySem.W.findIn K (.ref c_NoOrder) "__getattr__" = some none)
  (ca_NoOrder:PySem.W.findIn K (.ref c_NoOrder) "__class__" = some (some (.builtin "object.__class__")))
  (ob_NoOrder:PySem.W.mroIn K c_NoOrder (.type "object")=some true)
  (be_NoOrder:PySem.W.mroIn K c_NoOrder (.type "BaseException")=some true)
  (ve_NoOrder:PySem.W.subIn K (.ref c_NoOrder) (.type "ValueError")=some true)
  (m_NoOrder:PySem.W.mroIn K c_NoOrder (.ref c_FloorError)=some true)
  (s_NoOrder_NoTable:PySem.W.subIn K (.ref c_NoOrder) (.ref c_NoTable)=some false)
  (d_NoOrder_NoTable:(c_NoOrder == c_NoTable)=false)
  (s_NoOrder_NoOrder:PySem.W.subIn K (.ref c_NoOrder) (.ref c_NoOrder)=some true)
  (ga_NoTable:PySem.W.findIn K (.ref c_NoTable) "__getattribute__" = some (some (.builtin "BaseException.__getattribute__")))
  (gt_NoTable:PySem.W.findIn K (.ref c_NoTable) "__getattr__" = some none)
  (ca_NoTable:PySem.W.findIn K (.ref c_NoTable) "__class__" = some (some (.builtin "object.__class__")))
  (ob_NoTable:PySem.W.mroIn K c_NoTable (.type "object")=some true)
  (be_NoTable:PySem.W.mroIn K c_NoTable (.type "BaseException")=some true)
  (ve_NoTable:PySem.W.subIn K (.ref c_NoTable) (.type "ValueError")=some true)
  (m_NoTable:PySem.W.mroIn K c_NoTable (.ref c_FloorError)=some true)
  (s_NoTable_NoTable:PySem.W.subIn K (.ref c_NoTable) (.ref c_NoTable)=some true)
  (s_NoTable_NoOrder:PySem.W.subIn K (.ref c_NoTable) (.ref c_NoOrder)=some false)
  (d_NoTable_NoOrder:(c_NoTable == c_NoOrder)=false) :
  ∃fd:FuncData,(∀(s:Shared) (v:Value),BindsTo s fd ⟨[v],[]⟩ [("_law_script",v)])/\∀base:Heap,K.In base->base.Ns mainGlobals mg->FnOk l.prog w K mg base CX0 9 fa fd ["_law_script"] (spD K fLaw):=by
 obtain⟨f,fd,a,F⟩:=e33;have e:=hfa.symm.trans<|W.mg_of X G a;cases e;have mb:Mb mg:=by
  intro x hx;simp only[Wap,Wb2,or_false]at hx;rcases hx with rfl|rfl|rfl|rfl|rfl|rfl|rfl|rfl|rfl|rfl|rfl|rfl|rfl|rfl|rfl|rfl|rfl|rfl
  ·exact W.mg_none_of X G z0
  ·exact W.mg_none_of X G z1
  ·exact W.mg_none_of X G z2
  ·exact W.mg_none_of X G z3
  ·exact W.mg_none_of X G z4
  ·exact W.mg_none_of X G z5
  ·exact W.mg_none_of X G z6
  ·exact W.mg_none_of X G z7
  ·exact W.mg_none_of X G z8
  ·exact W.mg_none_of X G z9
  ·exact W.mg_none_of X G z10
  ·exact W.mg_none_of X G z11
  ·exact W.mg_none_of X G z12
  ·exact W.mg_none_of X G z13
  ·exact W.mg_none_of X G z14
  ·exact W.mg_none_of X G z15
  ·exact W.mg_none_of X G z16
  ·exact W.mg_none_of X G z17
 obtain⟨oc,od,kV,doc,pm,an,cdv,ct,osl,rfl,lk,hcd⟩:=F.ex;refine⟨W.fnOf "law" "law" (defArgs Yag) (defBody Yag) (defScope Yag) .none kV doc pm an cdv ct,λs v=>.of_eq rfl,λbase _ _=>?_⟩;have M:=@Ztj l.prog w K mg base h X G;have MR:=@Zq1 l.prog w K mg base h X G;have MX:=@Zr2 l.prog w K mg base h X G;have cl:Cl K mg c_FloorError c_NoOrder c_NoTable:=⟨W.mg_of X G n_FloorError,e_FloorError,W.mg_of X G n_NoOrder,e_NoOrder,W.mg_of X G n_NoTable,e_NoTable,⟨e_NoOrder,ga_NoOrder,gt_NoOrder,ca_NoOrder,gsx,tkx,ob_NoOrder,be_NoOrder⟩,m_NoOrder,Zp5 (by decide +kernel) ve_NoOrder,Zk8 ic_NoTable ty_NoTable s_NoOrder_NoTable λz=>(by rw[d_NoOrder_NoTable]at z;exact z),Zk8 ic_NoOrder ty_NoOrder s_NoOrder_NoOrder λ_=>rfl,⟨e_NoTable,ga_NoTable,gt_NoTable,ca_NoTable,gsx,tkx,ob_NoTable,be_NoTable⟩,m_NoTable,Zp5 (by decide +kernel) ve_NoTable,Zk8 ic_NoTable ty_NoTable s_NoTable_NoTable λ_=>rfl,Zk8 ic_NoOrder ty_NoOrder s_NoTable_NoOrder λz=>(by rw[d_NoTable_NoOrder]at z;exact z)⟩;have C1:=M e1 (Zty mb) λ_ _ _ _ _ _=>bK2 λ_ _=>rfl;have C2:=M e2 (Zwk mb) λ_ _ _ _ _ _=>bK1 λ_=>rfl;have C3:=M e3 (Zw7 mb C1) λ_ _ _ _ _ _=>bK3 λ_ _ _=>rfl;have C4:=M e4 (Zrt mb C1) λ_ _ _ _ _ _=>bK2 λ_ _=>rfl;have C5:=M e5 (Zqr mb C1) λ_ _ _ _ _ _=>bK2 λ_ _=>rfl;have C6:=M e6 (Ztb mb C1 C5) λ_ _ _ _ _ _=>bK1 λ_=>rfl;have C7:=M e7 (Zrh mb C1) λ_ _ _ _ _ _=>bK1 λ_=>rfl;have C8:=M e8 (Zq9 mb) λ_ _ _ _ _ _=>bK2 λ_ _=>rfl;have C9:=M e9 (Zpd mb) λ_ _ _ _ _ _=>bK1 λ_=>rfl;have C10:=M e10 (Zks mb C8) λ_ _ _ _ _ _=>bK3 λ_ _ _=>rfl;have C11:=M e11 (Zm2 mb C10) λ_ _ _ _ _ _=>bK3 λ_ _ _=>rfl;have C12:=M e12 (Zme mb C11 C9) λ_ _ _ _ _ _=>bK3 λ_ _ _=>rfl;have C13:=M e13 (Zqu mb C12) λ_ _ _ _ _ _=>bK2 λ_ _=>rfl;have C14:=M e14 (Zmh mb) λ_ _ _ _ _ _=>bK1 λ_=>rfl;have C15:=M e15 (Zml mb C14) λ_ _ _ _ _ _=>bK1 λ_=>rfl;have C16:=M e16 (Zqa mb) λ_ _ _ _ _ _=>bK1 λ_=>rfl;have C17:=MR e17 (λF b k m=>Zrs mb C16 F b k m 6) λ_ _ _ _ _ _=>bK2 λ_ _=>rfl;have C18:=M e18 (Zr7 mb) λ_ _ _ _ _ _=>bK1 λ_=>rfl;have C19:=M e19 (Zrc mb) λ_ _ _ _ _ _=>bK1 λ_=>rfl;have C20:=M e20 (Zt0 mb) λ_ _ _ _ _ _=>bK1 λ_=>rfl;have C21:=M e9 (Zok mb) λ_ _ _ _ _ _=>bK1 λ_=>rfl;have C22:=M e21 (Zwd mb C19 C20 (W.mg_of X G y_MOST_TIES) C21) λ_ _ _ _ _ _=>bK1 λ_=>rfl;have C23:=MX e21 (Zto mb cl C19 C20 (W.mg_of X G y_MOST_TIES) C21) λ_ _ _ _ _ _=>bK1 λ_=>rfl;have C24:=M e22 (Zvh mb C18 C13) λ_ _ _ _ _ _=>bK1 λ_=>rfl;have C25:=M e23 (Zmu mb C8) λ_ _ _ _ _ _=>bK2 λ_ _=>rfl;have C26:=M e24 (Zrm mb C19 C20 C21) λ_ _ _ _ _ _=>bK2 λ_ _=>rfl;have C27:=MX e24 (Zrv mb cl C19 C20 C21) λ_ _ _ _ _ _=>bK2 λ_ _=>rfl;have C28:=M e25 (Zr8 mb C19 C25 C26) λ_ _ _ _ _ _=>bK2 λ_ _=>rfl;have C29:=MX e25 (Zqo mb cl C19 C25 C27) λ_ _ _ _ _ _=>bK2 λ_ _=>rfl;have C30:=M e26 (Zrj mb C22 C25 C24 C28) λ_ _ _ _ _ _=>bK2 λ_ _=>rfl;have C31:=MX e26 (Znh mb cl C23 C25 C24 C29) λ_ _ _ _ _ _=>bK2 λ_ _=>rfl;have C32:=M e27 (Zql mb C5 C1) λ_ _ _ _ _ _=>bK2 λ_ _=>rfl;have C33:=M e28 (Znj mb) λ_ _ _ _ _ _=>bK2 λ_ _=>rfl;have C34:=M e29 (Ztw mb C1) λ_ _ _ _ _ _=>bK3 λ_ _ _=>rfl;have C35:=M e30 (Zkk mb C1 C4 C15) λ_ _ _ _ _ _=>bK2 λ_ _=>rfl;have C36:=M e31 (Znw mb C1 C15 C34 C35) λ_ _ _ _ _ _=>bK3 λ_ _ _=>rfl;have C37:=M e32 (Zqp mb cl C31) λ_ _ _ _ _ _=>bK2 λ_ _=>rfl;exact ok_law mb C2 C3 C1 C6 C7 C4 C36 C15 C32 C37 C30 C17 C33 F
end Lw
open PySem PySem.W PyProof.Rows
namespace PySem.W.Fast
theorem te11994899329471527302:True:=trivial
def tw5721780405337486816:PySem.Program:=PySem.Challenge.pw_holefloor_k43_orders_by_tables
theorem te5721780405337486816:PySem.Challenge.pw_holefloor_k43_orders_by_tables=tw5721780405337486816:=rfl
def tw5047251678947893833:Unit:=()
def tw17175723807101318344:Unit:=()
def tw14806356136819122331:Unit:=()
def tw2817211104796158758:Unit:=()
def tw2448425812906401693:Unit:=()
def tw17981833838936480040:Unit:=()
def tw926402565322883484:Unit:=()
def tw9585763240397994299:Unit:=()
def tw1787676303039591441:Unit:=()
def tw4652711234711622616:Unit:=()
def tw13671480161818799592:Unit:=()
def tw4785191260603278278:Unit:=()
def tw9067864277797696526:Unit:=()
def tw9189400458906796204:Unit:=()
def tw5412187082921966505:Unit:=()
def tw4780720695994943763:Unit:=()
def tw13990008122649529854:Unit:=()
def tw1127084969757228298:Unit:=()
def tw17243391439792897333:Unit:=()
def tw17146838864589821359:Unit:=()
def tw1189174026146476913:Unit:=()
def tw16416553785000667265:Unit:=()
def tw8247087513996214880:Unit:=()
def tw11603594782468195399:Unit:=()
def tw6989442806249079506:Unit:=()
def tw4863423141947737125:Unit:=()
def tw8970547345207788805:Unit:=()
def tw10351922960710920907:Unit:=()
end PySem.W.Fast
set_option maxRecDepth 100000 in
set_option maxHeartbeats 0 in
theorem PySem.Challenge.cw_holefloor_k43_orders_by_tables_holds : PySem.Challenge.rw_holefloor_k43_orders_by_tables.Holds := by
 w_on;o_law;k_head; (case hw=>w_witness2)
 k_fill
 refine L2.walk_law (k:=9) (x:="_law_script") (l:=PySem.Challenge.rw_holefloor_k43_orders_by_tables) ⟨rfl,by decide,by decide,rfl⟩ rfl rfl (λw h Y=>PySem.W.kIn_of Y) ?F
 case F=>
  intro w mg fa h KX G hmg;refine' Lw.all_mk KX G hmg ?e1 ?e2 ?e3 ?e4 ?e5 ?e6 ?e7 ?e8 ?e9 ?e10 ?e11 ?e12 ?e13 ?e14 ?e15 ?e16 ?e17 ?e18 ?e19 ?e20 ?e21 ?e22 ?e23 ?e24 ?e25 ?e26 ?e27 ?e28 ?e29 ?e30 ?e31 ?e32 ?e33 ?y_MOST_TIES ?z0 ?z1 ?z2 ?z3 ?z4 ?z5 ?z6 ?z7 ?z8 ?z9 ?z10 ?z11 ?z12 ?z13 ?z14 ?z15 ?z16 ?z17 ?n_FloorError ?e_FloorError ?n_NoOrder ?e_NoOrder ?n_NoTable ?e_NoTable ?gsx ?tkx ?ic_NoTable ?ty_NoTable ?ic_NoOrder ?ty_NoOrder ?ga_NoOrder ?gt_NoOrder ?ca_NoOrder ?ob_NoOrder ?be_NoOrder ?ve_NoOrder ?m_NoOrder ?s_NoOrder_NoTable ?d_NoOrder_NoTable ?s_NoOrder_NoOrder ?ga_NoTable ?gt_NoTable ?ca_NoTable ?ob_NoTable ?be_NoTable ?ve_NoTable ?m_NoTable ?s_NoTable_NoTable ?s_NoTable_NoOrder ?d_NoTable_NoOrder
  (case y_MOST_TIES=>k_is)
  (case n_FloorError=>k_is)
  (case e_FloorError=>k_exc)
  (case n_NoOrder=>k_is)
  (case e_NoOrder=>k_exc)
  (case n_NoTable=>k_is)
  (case e_NoTable=>k_exc)
  (case gsx=>k_is)
  (case tkx=>k_is)
  (case ic_NoTable=>k_is)
  (case ty_NoTable=>k_is)
  (case ic_NoOrder=>k_is)
  (case ty_NoOrder=>k_is)
  (case ga_NoOrder=>k_is)
  (case gt_NoOrder=>k_is)
  (case ca_NoOrder=>k_is)
  (case ob_NoOrder=>k_is)
  (case be_NoOrder=>k_is)
  (case ve_NoOrder=>k_is)
  (case m_NoOrder=>k_is)
  (case s_NoOrder_NoTable=>k_is)
  (case d_NoOrder_NoTable=>rfl)
  (case s_NoOrder_NoOrder=>k_is)
  (case ga_NoTable=>k_is)
  (case gt_NoTable=>k_is)
  (case ca_NoTable=>k_is)
  (case ob_NoTable=>k_is)
  (case be_NoTable=>k_is)
  (case ve_NoTable=>k_is)
  (case m_NoTable=>k_is)
  (case s_NoTable_NoTable=>k_is)
  (case s_NoTable_NoOrder=>k_is)
  (case d_NoTable_NoOrder=>rfl)
  all_goals first|(refine' Lw.fnE ?a ?l ?c ?k; (case a=>k_is); (case l=>k_is); (case c=>k_is); (case k=>k_is))|k_is

